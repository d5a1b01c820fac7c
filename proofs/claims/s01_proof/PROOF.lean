import PyProof.Rows.All
import Wide.All
import OpenK.AllK
import Wide.FinOn
import PyProof.EqAt
import PyProof.EqKinds
import PyProof.TupleCall
import KE.BitLaws
import KE.OsGo
import KE.OsMore
import PyProof.InstEq
import PyProof.Rows.SetFrom
import PyProof.Rows.SortShellAny
import Open.SpecLaws
import Kgz1Spec
import Kgz2Spec
import PySem.Challenge.RW_versefeet_s01_answers
set_option compiler.extract_closed false
set_option Elab.async false
set_option linter.all false
set_option maxRecDepth 100000
set_option maxHeartbeats 4000000
def ArW:=@List.getElem?_eq_getElem
def ArX:=@List.length_map
def ArY:=@List.getElem?_map
def Ar_:=@decide_eq_false
def Asa:=@if_neg
def Asb:=@Nat.le_refl
def Asc:=@List.getElem?_eq_some_iff
def Asd:=@if_pos
def Ase:=@Option.some.inj
def Asf:=@decide_eq_true
def Ash:=@List.mem_cons_of_mem
def Asi:=@List.length_append
def Ask:=@List.getElem?_append_left
def Asl:=@List.mem_of_getElem?
def Asm:=@Nat.zero_le
def Asn:=@List.map_cons
def Aso:=@List.getElem?_append_right
def Asr:=@Ne.symm
def Ass:=@Nat.lt_of_lt_of_le
def Ast:=@Bool.false_ne_true
def Asv:=@List.getD_eq_getElem?_getD
def Asw:=@List.getElem_mem
def Asx:=@List.mem_map
def Asy:=@List.getElem_of_mem
def Asz:=@List.mem_cons
def As0:=@List.mem_append
def As1:=@List.length_cons
def As2:=@List.size_toArray
def As4:=@List.length_range
def As5:=@Nat.pow_le_pow_right
def As6:=@List.mem_append_right
def As7:=@List.map_append
def As8:=@List.drop_eq_getElem_cons
def As9:=@List.getElem?_eq_none
def AsA:=@List.take_succ
def AsB:=@List.map_map
def AsC:=@List.take_length
def AsD:=@List.length_singleton
def AsE:=@Nat.one_shiftLeft
def AsF:=@Bool.and_eq_true
def AsG:=@List.mem_cons_self
def AsI:=@List.mem_append_left
def AsJ:=@List.ext_getElem?
def AsL:=@List.all_eq_true
def AsM:=@List.getElem?_eq_none_iff
def AsN:=@List.length_eq_zero_iff
def AsP:=@Nat.ne_of_lt
def AsR:=@List.eq_nil_or_concat
def AsS:=@List.length_take
def AsT:=@List.nodup_append
def AsU:=@List.map_congr_left
def AsV:=@Nat.le_trans
def AsW:=@List.take_of_length_le
def AsY:=@List.getElem?_range
def AsZ:=@Nat.zero_add
def Ata:=@List.any_cons
def Atb:=@List.mem_singleton
def Atc:=@beq_eq_false_iff_ne
def Atd:=@Nat.testBit_and
def Ate:=@Nat.testBit_or
def Atg:=@Nat.eq_of_testBit_eq
def Ath:=@List.filter_append
def Ati:=@List.foldl_cons
def Atj:=@List.mem_range
def Atk:=@List.concat_eq_append
def Atl:=@List.range_succ
def Atn:=@Nat.lt_pow_two_of_testBit
def Atp:=@Option.toList_some
def Atq:=@Nat.lt_or_ge
def Atr:=@Nat.testBit_shiftLeft
def Atv:=@List.drop_zero
def Atw:=@List.all_map
def Atx:=@Bool.or_eq_true
def Aty:=@Bool.eq_iff_iff
def Atz:=@List.nil_append
def At0:=@decide_eq_decide
def At1:=@Nat.testBit_lt_two_pow
def At2:=@List.map_eq_nil_iff
def At3:=@List.append_assoc
def At4:=@List.foldl_append
def At5:=@Bool.false_and
def At6:=@Nat.add_sub_cancel
def At8:=@List.cons_append
def At9:=@Nat.sub_self
def AtA:=@Int.ofNat.inj
def AtB:=@congrArg
def AtC:=@List.replicate_succ
def AtE:=@List.mem_map_of_mem
def AtH:=@List.length_drop
def AtI:=@List.length_tail
def AtJ:=@List.all_cons
def AtK:=@List.sum_cons
def AtM:=@List.getElem?_cons_succ
def AtN:=@Int.toNat_natCast
def AtO:=@List.mem_filter
def AtP:=@Nat.testBit_two_pow
def AtQ:=@List.findIdx?_eq_some_iff_getElem
def AtR:=@Nat.le_succ
def AtS:=@Bool.true_and
def AtT:=@Nat.lt_irrefl
def AtU:=@Nat.le_add_right
def AtY:=@List.nodup_cons
def AtZ:=@Nat.min_eq_left
def Aub:=@List.flatten_cons
def Aud:=@List.getLast?_eq_some_getLast
def Auf:=@List.take_succ_cons
def Aug:=@Array.length_toList
def Aui:=@Nat.testBit_two_pow_sub_one
def Auj:=@Nat.ne_of_gt
def Aum:=@List.append_nil
def Aun:=@List.length_filter_le
def Aup:=@decide_eq_true_eq
def Aut:=@of_decide_eq_true
def Auu:=@beq_iff_eq
def Auw:=@List.nodup_nil
def Auz:=@List.drop_succ_cons
def Au3:=@List.map_inj_right
def Au4:=@Nat.lt_of_le_of_lt
def Au6:=@List.filter_eq_nil_iff
def Au7:=@Nat.lt_succ_of_lt
def Au8:=@List.flatMap_cons
def AuB:=@List.length_replicate
def AuD:=@Bool.and_false
def AuI:=@List.drop_length
def AuJ:=@List.filter_cons
def AuK:=@List.mem_flatMap
def AuL:=@Nat.pow_lt_pow_right
def AuM:=@List.map_take
def AuR:=@Nat.testBit_xor
def AuS:=@Nat.two_pow_pos
def AuT:=@List.getElem?_zip_eq_some
def AuU:=@Option.map_some
def AuV:=@List.length_nil
def AuX:=@List.map_nil
def Avc:=@List.flatMap_eq_nil_iff
def Ave:=@Nat.le_of_succ_le
def Avg:=@Bool.not_eq_true'
def Avh:=@List.pairwise_map
def Avi:=@List.getElem?_set_self
def Avj:=@List.range_succ_eq_map
def Avl:=@Nat.lt_succ_self
def Avo:=@Nat.zero_testBit
def Avs:=@List.take_append_drop
def Avu:=@Nat.mul_comm
def Avv:=@Nat.le_of_lt
def Avw:=@List.getElem?_set_ne
def Avy:=@Nat.le_of_eq
def Avz:=@List.of_mem_zip
def Av0:=@List.length_dropLast
def Av2:=@List.mem_of_mem_take
def Av6:=@List.pairwise_append
def Av7:=@List.find?_cons
def Av9:=@List.eq_nil_of_length_eq_zero
def AvB:=@List.filter_flatMap
def AvC:=@List.length_reverse
def AvD:=@List.filterMap_cons
def AvG:=@ne_true_of_eq_false
def AvH:=@List.toList_toArray
def AvI:=@List.zipWith_append
def AvJ:=@List.drop_drop
def AvL:=@Nat.add_mul
def AvR:=@List.pairwise_cons
def AvX:=@Array.getElem?_eq_some_iff
def AvZ:=@Option.ne_none_iff_exists'
def Av_:=@List.filter_congr
def Awb:=@Nat.shiftLeft_add
def Awc:=@Classical.byContradiction
def Awf:=@List.mem_of_find?_eq_some
def Awg:=@List.getLast?_eq_getElem?
def Awh:=@List.zipIdx_cons
def Awi:=@Nat.shiftLeft_eq
def Awn:=@Option.isSome_iff_exists
def Awo:=@List.getElem?_take_of_lt
def Awq:=@Nat.succ_ne_self
def Aws:=@List.contains_eq_any_beq
def Aw0:=@List.count_cons
def Aw1:=@List.sum_append
def Aw4:=@List.length_zip
def AwC:=@Nat.log2_lt
def AwH:=@List.forIn_nil
def AwK:=@List.take_zero
def AwO:=@List.all_congr
def ArZ:=@PySem.wpAny_bind
def Asg:=@PySem.wpAny_pure
def Asj:=@PySem.Heap.get?_push_of_some
def Asp:=@PySem.Heap.get?_push_size
def Asq:=@PySem.PassesOwn.never
def Asu:=@PySem.Heap.lt_size
def As3:=@PySem.F.plainAttrs_list
def AsH:=@PySem.F.slot_list_append
def AsK:=@PySem.F.type_list_append
def AsO:=@PyProof.Rows.callWith_type1
def AsQ:=@PySem.mem_of_lookup
def AsX:=@PySem.Heap.size_push
def As_:=@PySem.wpAny_newObj_type
def Atf:=@PySem.wpAny_call_entry
def Atm:=@PySem.wpAny_truthy_bool
def Ato:=@PySem.Calls.callWith_builtin
def Ats:=@PySem.wpAny_field
def Atu:=@PySem.wpAny_callSpecial?_slot
def At7:=@PySem.Calls.spliced_cons
def AtD:=@PySem.Heap.SameBut.update
def AtF:=@PySem.F.slot_dict_valueiterator_next
def AtG:=@PySem.wpAny_pyIter_tuple
def AtL:=@PySem.wpAny_mono
def AtV:=@PySem.wpAny_seqItems
def AtW:=@PySem.wpAny_Call_Name_kw
def AtX:=@PySem.F.slot_dict_get
def At_:=@PySem.wpAny_pyIter_list
def Aua:=@PySem.Calls.spliced_nil
def Auc:=@PySem.call_meets
def Aue:=@PySem.wpAny_typeNameOfWhole_valiter
def Auh:=@PyProof.Rows.slot_tuple_getitem
def Auk:=@PySem.wpAny_setField_rec
def Aul:=@PySem.wpAny_passesOwn
def Auo:=@PySem.F.plainAttrs_dict
def Auq:=@PySem.eqIsQuiet_byValue
def Aur:=@PySem.wpAny_dictEntries
def Aus:=@PySem.wpAny_pyIter_enum
def Auv:=@PySem.Calls.evalArgs_plain
def Aux:=@PySem.wpAny_isInstance
def Auy:=@PySem.wpAny_typeNameOf_valiter
def Au0:=@PySem.wpAny_holding
def Au1:=@PySem.wpAny_specialOf
def Au2:=@PySem.F.slot_list_extend
def Au5:=@PySem.F.entry_dict_get
def Au9:=@PySem.wpAny_Call_method
def AuA:=@PyProof.Rows.Call_
def AuC:=@PySem.Heap.get?_update_self
def AuE:=@PySem.F.slot_dict_keyiterator_next
def AuF:=@PySem.F.slot_dict_setdefault
def AuG:=@PySem.wpAny_callSpecialIfBoundUnlessNone?_slot
def AuH:=@PySem.typeIs_str
def AuN:=@PySem.wpAny_attempt
def AuO:=@PySem.wpAny_letOwnedTupleGo_enum
def AuP:=@PySem.sizeLine_eq
def AuQ:=@PySem.evalArgs_none
def AuW:=@PySem.wpAny_dictEpoch
def AuY:=@PySem.call_meetsIn
def AuZ:=@PySem.F.type_list_extend
def Au_:=@PySem.Obj.data_mapFields
def Ava:=@PySem.wpAny_rule
def Avb:=@PySem.wpAny_setField
def Avd:=@PySem.F.slot_tuple_hash
def Avf:=@PyProof.Rows.boot_enumerate
def Avk:=@PySem.F.slot_bool_hash
def Avm:=@PySem.wpAny_pyIter_zip
def Avn:=@PySem.F.slot_str_split
def Avp:=@PySem.F.args_dict_valueiterator_next_1
def Avq:=@PySem.wpAny_notOrdered_dict
def Avr:=@PySem.wpAny_isOneOf_valiter
def Avt:=@PySem.F.entry_dict_valueiterator_next
def Avx:=@PySem.wpAny_execs_nil
def Av1:=@PySem.pushCells_keeps
def Av3:=@PySem.F.slot_zip_next
def Av4:=@PySem.wpAny_updateSeq_pair
def Av5:=@PySem.F.args_dict_setdefault_3
def AvA:=@PySem.F.entry_dict_setdefault
def AvE:=@PySem.W.plainGet_of
def AvF:=@PySem.F.slot_list_index
def AvK:=@PySem.isSubtype_stop
def AvM:=@PySem.wpAny_tupleItemsOf
def AvN:=@PySem.SeqAt.EqAt.int_str
def AvO:=@PySem.SeqAt.EqAt.str_int
def AvP:=@PySem.W.callWith_K
def AvQ:=@PySem.F.args_str_split_2
def AvS:=@PySem.F.slot_dict_values
def AvU:=@PySem.W.mg_of
def AvW:=@PySem.wpAny_onRaise
def AvY:=@PyProof.Rows.sortedAll_old
def Awa:=@PySem.F.entry_str_split
def Awe:=@PyProof.Rows.sortedAll_at
def Awm:=@PySem.codeAny_mono
def Awr:=@PySem.W.nsMap_none_of_in
namespace Vp
theorem Agw:PySem.Challenge.rw_versefeet_s01_answers.wellSaid=true:=by decide+kernel
end Vp
abbrev W_T:=Lean.TSyntax `term
abbrev W_M:=Lean.MacroM W_T
def W_U{a}:Lean.MacroM a:=Lean.Macro.throwUnsupported
set_option hygiene false
def W_0(a b c d e f:W_T):List W_M:=[`(by omega),`(mZ Nat),`(by simp),`(Asb _),`(mML K),`(sZ H s),`((26,2,12,2,12,12)),`(Aj m),`(mB o),`(mF a),`(pv 0),`(mZ V),`(mB u),`(Str->Option Value),`(mFs H),`(pv 1),`(mZ Addr),`(TL.tl x),`(mF p),`(Asm _),`(An m),`(mZ Value),`(mB x),`(pv 2),`(pV 0),`(by decide)]
def W_1(a b c d e f:W_T):List W_M:=[`(mG rfl),`(pv 3),`(uM Addr Obj),`(model prog w),`(Nat->Nat),`(Asd rfl),`(pv 4),`(mZ Int),`(uM Ky V),`(pv 5),`(mB v),W_U,`(mH p),`(Value->Shared->Prop),`(model X.prog X.w),`(mM e),`(oK V),`(ab.As (by decide)),`(mM aZ),`(mB c),`(mF b),`(mJ e),`(mZ aB),`(mMO m),`((_,2)),`(mE 0)]
def W_2(a b c d e f:W_T):List W_M:=[`(pv 6),`(mZ Str),`(pV 1),`(mMP Nat),`(B3 m j),`(Az ?_),`(AH S i),`(mR hb),`(ArZ ?_),`(X.K=K),`(λ_ _ _ _ _=>Cw),`(["self"]),`(mZ α),`(Asg ?_),`(λvs H Q E h=>?_),`(qF 0),`(Asp _ rfl),`([aJ]),`(Bs s),`(mK hj),`(mF x),`(mMD An m),`(oV .Ax),`(by first|exact Or.inl rfl|exact Or.inr rfl),`(B0 f),`(Bd i f)]
def W_3(a b c d e f:W_T):List W_M:=[`(nO x),W_U,`(Cv n q aC),`(s.heap.objs.size+1),`(mB q),W_U,`(mF d),`(mZ Vf.Txt),`(pV 3),`(B0 f0),W_U,`(Bu S i),`(By Ai),`(r++[k]),`(H' c),`(fnA bnd1),`(mZ Txt),`(by simp;omega),W_U,W_U,`(mZ dQ),`(oK Int),`(b.As aZ),`(mU aP),`(mZ Wd),`(Ck l)]
def W_4(a b c d e f:W_T):List W_M:=[`(λx hx=>?_),`(mI rfl),`(hf it aC),`(Co σ vs),`(AL aA),`(Au ?_),`(c.As aZ),`(d.As aZ),`(λq hq=>?_),`(r++[u]),`(yS k),`(DT t X),W_U,`(Aso aA),`(mDf mF),`(mF l),`(Ab.refl _),`(Ds κ),`(λc=>c=p),W_U,`(meA bnd2),`(mE i),`(uS xs),`(tl x),`(Db DX Ar),`(pv 7)]
def W_5(a b c d e f:W_T):List W_M:=[`(BE w sh.Bk),`(mR h),`(mM aA),`(λ_ _=>rfl),`(B5 aH.AW q Am),`(rD xs),`(uM κ V),`(oH "list"),`(Asu e),`(oO xs),`(λb hb=>?_),`(X.calm=true),`(j.BW _),`(mK aA),`(oU Addr),`(Ab H H1),`(AL (by rw[BT];omega)),`(BA jY),`(qG 1),`(oS rfl),`(DG st k),`(yS j),`(Cb (Cc X.E.S q)),`(mZ BU),`(mZ Bq),`(Cm P w H h)]
def W_6(a b c d e f:W_T):List W_M:=[`(EP X pins σ Q),`(vS St),`(Str×V),W_U,`([mO 0]),`(mAI 2),`(λz=>by cases z),`(S.map Cr.wd),`(pA h x hx),`(e::es),`(["bits"]),`(vM B9 2),`(pV 4),`(st.map C5),`(Ah hc),`(h.ge g hg),`(c.As aA),`(aB ×Nat),`(Nat×Nat),`(mJ aA),`(Bq->Bool),W_U,`(oH "tuple"),`(Ah hb),`(λp hp=>?_),`(nU xs)]
def W_7(a b c d e f:W_T):List W_M:=[`(nR e te),`(Hp->Prop),`(oN C fs),`(V->mZ V->Hp->VK->Prop),`(mF D),W_U,`(FZ st),`(Do m j),`(meA bnd3),`(λy hy=>?_),`(h a aC),`(mR e),`(ss.map BO),`(uM C3 V),`(KV kvs vs),`(oK Addr),`(mZ Expr),`(nR a ta),`(AJ x v),`(mAF hs),`(AtR _),`(ns.map V.int),`(uS hV),`(.dK []),`(.dT []),`(λj v _ _ h _=>h)]
def W_8(a b c d e f:W_T):List W_M:=[`((0,80)),`(x.all Kgz1.isLetter),`(mCg l.map),`(mZ Cr),`(uE H x),`(Ev B o H o' H'),`(Bd j (Ee m j)),`(Gd t Z),`(fnA bnd2),`(mZ Sound),`(mZ Rw),`(mZ Ky),`(AsM.mp e),`(mF f),`(mP k bA e),`(.Al xs),`(mF it),`(g i j),`((_,Asp _ rfl,26)),`(p::r),`(Bc kvs k),`(λz=>hb (by simp[z])),`(tl y),`(ns.map Int.toNat),`(HE rfl rfl rfl rfl),`((ss.take i).map BO)]
def W_9(a b c d e f:W_T):List W_M:=[`(mZ dH),`(w<=4),`(uM Row Nat),`((2,GG ?_)),`(mG (v.W:Int)),`(λ_ _ z=>z),`(mH X.F),`(mAI 1),`(mZ WC),`(R i),`(Wk Z.st k),`(meA bnd4),`(y::r),`(T.B2 len),`(Array Value),`(mZ Env),`(Ase e),`(nR o to),`(some none),`(mM aC),`(oU NameKind),`(.dK kvs),`(rel.val k),`(mU aX),`(by rw[ArX];omega),`(mE (n:Int))]
def W_10(a b c d e f:W_T):List W_M:=[W_U,`(pv 8),`(Kgz1.wrong l.length l),`(iv dZ),`(ci l),`(Nat->Nat->Nat),`(pB N),`(mF X.F),`(Ap (K:=K) rfl aY rfl),`(λh=>nK h aA),`(AN Dh b D|||1<<<(b+D.length)),`(d::r),`(A++B),`(mEn st d.1 d.2),`(AN Du 0 aU),`(c.place+1),`(D8 l i),`(oK Value),`(some .local),`(vS Bool),`(J.go i H),W_U,`(J.Fg i H x H'),`(A.units+64<cLine),`(A.handled=none),`(X.A.units+64<cLine)]
def W_11(a b c d e f:W_T):List W_M:=[`(["text"]),`(Aso aD),`(λ_=>rfl),`(As9 aA),`(mU bG),`(tC (mE 1)),`(nW aX),`(Es m),`(nB s2 s3),`(nB s1 s2),`(∀k∈r,k<st.length),`(tI x hj),`(AH X.E.S i),`(iv S.A2.dropLast),`(AH X.E.S j),`(mQ i x j),`(g.take j),`(λz hz=>?_),`(a&&&b),`(1<<<aU.length),`(cV.headD 0),`(Asg hq),`(Ar_ (λq=>by cases q)),`(.dict es ep),`(Gl X x),`(nR b tb)]
def W_12(a b c d e f:W_T):List W_M:=[W_U,`(some $a),`($a _ _ $b),W_U,`(.int $a),`(.ref $a),`(.inl $a),`(mB (.ref $a)),`(.inr $a),`(Asd $a),`(ArW $a),W_U,`(Asa $a),`(Ae.of $a),`(V.int $a),`($a _ _ $b $c),`(⟨$a,$b,$c⟩),`(by simpa using $a),`(Ab.Aa $a),`(Ar_ $a),`(Ad $a Ai),`($a $b=none),`(Asf $a),`(oR mE $a),`(Aa $a p $b),`(List $a)]
def W_13(a b c d e f:W_T):List W_M:=[`(Ae.of ($a _ _ $b)),`(Ab.trans $a $b),`(.Ag $a dx $b),`(Aa $a $b (.Ac $c)),`(V.ref $a),`(ArZ $a),`($a ($a $b)),`($a V.ref),`(AU $a $b AY),`($a $b=true),`(absurd $a $b),`(Asc.mp $a),`(mC s $a),`($a b hb),`(.str $a),`(AQ rfl $a $b),`(A8.of $a),`(PE X $a $b),`(Bp (AG $a) $b),`(AJ $a u),`(mB (.Ac $a)),`(mC $a (mC $b $c)),`(AX aK $a rfl),`(Ah (Asr $a)),`(Asx.mp $a),`(h.get? $a)]
def W_14(a b c d e f:W_T):List W_M:=[`(Aa H $a $b),`(s.heap.get? $a),`(nU (iv $a)),`(Asj _ $a),`(fs.lookup $a),`(Ah (AR e $a)),`(Asz.mp $a),`(.type $a),`($a $b=some $c),`(AI (i:=$a) $b rfl cX),`(Option $a),`(by rw[$a:term];exact $b),`(Ao (A3 $a)),`(mB (nC $a $b)),`(mB (.Al $a)),`(Ad $a (mU $b)),`(oV (mF $a)),`(mB ($a $b)),`(⟨$a,?_⟩),`($a pins s σ H _ $b h),`(uM Str $a),`(Q $a H'),`(.str (mk $a)),`((_,mN $a)),`(by rw[Ah $a];exact $b),`($a=true)]
def W_15(a b c d e f:W_T):List W_M:=[`($a $b (Ash _ $c)),`(List.range $a),`(nB $a (mS $b)),`(As0.mp $a),`(eval $a X.env),`($a $b cO (λaa A outer s H vs Q E ab h=>?_)),`(List.replicate $a $b),`($a=false),`($a x hx),`(by rw[$a:term,$b:term]),`(nD $a $b []),`(Ba $a $b $c (Bf _)),`(mLE pv $a $b),`(mAh H o $a),`($a =some $b),`(by rw[$a:term];simp),`(ArZ ($a $b $c ?_)),`(λ_ _ _ _ _=>(oJ $a $b)),`(mC s2 $a),`(BJ (K:=K) rfl $a),`(nU (nH $a)),`(Ap (K:=K) rfl (pv $a) rfl),`(.Ac (iv $a)),`(⟨_,$a⟩),`(.inl (2,_,mN $a)),`(Cf K $a)]
def W_16(a b c d e f:W_T):List W_M:=[`(Bv $a n),`(b.testBit $a),`(h'.get? $a),`($a b o e),`(nB $a (nB $b $c)),`(AZ (j:=$a) rfl),`(by show $a<1000;decide),`(mB (.dK $a)),`($a<=sizeLine),`(A6 (i:=2) $a rfl cX $b),`(λ_ _ _ _ _=>$a),`(AL (by show $a<=_;omega)),`(BZ (own:=[$a]) (yF $b $c)),`(A6 (i:=4) $a rfl cX $b),`(by rw[$a:term];rfl),`($a $b=false),`(by rw[$a:term];omega),`(["self",$a]),`(Ab.BG $a $b),`($a $b cO (λa A outer s H vs Q E b h=>?_)),`(zP (sC B9) $a $b),`(Cs X.E $a $b $c),`(mB (.Bw $a $b)),`(Aa $a $b (.own $c)),`(Ep (K:=K) rfl $a (λ_=>rfl)),`(vM BH $a)]
def W_17(a b c d e f:W_T):List W_M:=[W_U,`(nK rfl $a),`(wpAny _ _ $a _ _ $b),`(AB $a us),`(⟨_,$a,rfl⟩),`(mC s1 $a),`($a j.Av e),`(Q .Ax $a),W_U,`(hy _ (nA $a $b)),`(nQ (mC $a $b)),`(Gw.same $a),`(Ash _ $a),W_U,`(parts $a $b []),`($a s.heap $b $c),`(Value.ref $a),`(⟨$a,$b,?_⟩),`(Q (.bl $a) H),`($a _ _ _ _ $b),W_U,`(BS Asq rfl $a $b $c),`(A6 (i:=3) $a rfl cX $b),`(oN $a []),`(By (mU $a)),`(mC s3 $a)]
def W_18(a b c d e f:W_T):List W_M:=[`((_,nA $a $b,34)),W_U,`($a (K:=K) rfl),`($a ((1<<<$b :Nat):Int)),`(CK X.E κ $a $b),`(.cons $a $b),`(wpAny bO X.A $a $b X.xe $c),`(K.lookup $a),`($a pins s1 σ H1 _ $b $c),`(As6 _ $a),W_U,`($a _ _ _ $b),`(mB (.dT $a)),`(V.str (mk $a)),`($a (i:Int)),`(Kgz1.parts $a $b []),`(A6 (i:=5) $a rfl cX $b),`($a (($b $c :Nat):Int)),`($a c u e),`(l.map $a),`(nF (Asg $a)),`(xs.drop $a),`(X.env.cells.lookup $a),`(mV X.mg $a),`(False.elim $a),`(Inv X pins σ $a $b)]
def W_19(a b c d e f:W_T):List W_M:=[W_U,W_U,W_U,`(.builtin $a),`(Q (mE $a) H),`(s1.heap.objs.size+$a),`(TL.tl $a),`(.Ac ($a $b)),`(⟨$a,rfl,(Ase $b).symm⟩),`($a $b=some (.Ac $c)),`(["self",$a,$b]),`(zP (sC BH) $a $b),`((19,nA $a $b,by rw[ArY,ArW $c];rfl)),`($a (used:Int)),`($a c u e $b),`(mB ($a,none,)),`(Kn.FA $a $b),`(.Al [mF $a,mF $b]),`(λc=>c=$a\/c=$b),`(b.getD $a 0),`(AN p b $a),`(by rw[<-$a];exact $b),`(D.nx σ $a),`(Ab H1 $a),`(A6 (i:=1) $a rfl cX $b),`(Bh $a rfl T.B7 B8 (mU $b))]
def W_20(a b c d e f:W_T):List W_M:=[`(mMM (oJ $a $b) (oJ $c $b)),`(mG (mN $a)),`(A6 (i:=6) $a rfl cX $b),`($a t.Cy (CJ a $b)),`(Cd t $a $b v),`(Rg $a κ a),`(yN oC $a),`(Fr $a H H'),`($a _ _ $b trivial),`(($a $b).length=$c),`(Ct b $a a),`(B5 aH.AW $a $b),`(mZ ($a×$b)),`(Rd H a $a),`(j.list $a),`(A8 K $a a xs),`(u=Value.ref $a),`(call (.builtin $a) $b),`(Ae K H a $a),`(nS 69 $a),`(TL.tl (zJ $a)),`(AsN.mp $a),`(Ad $a (mU $b)),`(Bh (C4 (K:=K) rfl) rfl T.B7 B8 (mU ($a $b))),`($a (b:Int)),`(r.map $a)]
def W_21(a b c d e f:W_T):List W_M:=[`(⟨_,rfl,p,_,_,_,rfl,Af,$a,$b,(by show $c<1000;decide),?_⟩),`(e.free $a $b),`(Gw $a o H $b o' H' $c),`(mN (fr _ _ $a $b)),`(Bv (Eg oq $a) $b),`($a (i+1)),`(Atc.mpr $a),`(sc.names.lookup $a),`(($a==("__debug__":Str))=false),`(Pv $a σ H),`(attributeBase $a $b X.env (eval $a X.env)=eval $a X.env),`(pL CL $a $b),`(AF ($a (K:=K) rfl) (pv $b) Ar (λ_ _=>rfl)),`($a _ (Asw $b)),`(Ad $a (mU $a)),`(Cj (mGm $a $b)),`(mM (λq=>$a $b)),`(by rw[$a:term,mK $b];rfl),`($a->Hp->Prop),`(by rw[<-$a];exact $b $c),`(nO ⟨#[$a]⟩),`($a e.symm),`(mB ($a,u,)),`(AE DA $a Ar),`(DY ($a $b) E5),`($a $b cO (λb A outer s H vs Q E c h=>?_))]
def W_22(a b c d e f:W_T):List W_M:=[`(Ao (A3 $a)),`(qS (nB $a $b) $c),`(Ab.Aa (o:= .Ac $a) $b),`($a (Aq:Int)),`(by rw[$a $b,Af]),`(r.contains $a),`(D4 $a st r $b),`((mC $a $b).trans $c),`(mC $a ok.at_),`($a<m.feet.length),`(nF ($a $b ?_)),`(Inv X pins $a $b s'),`(by rw[$a:term];exact $b $c),`(.Call (.Name $a p) $b [] pos),`(.cons $a .nil),`(scope.names.lookup $a),`((apos.endLine==$a)=true),`(by rw[$a $b];exact $c),`(L.drop $a),`(Ba $a $b $c (by with_unfolding_all rfl)),`(DP (oW $a) $b),`(DE t H $a $b),`(oY (Asr $a) $b),`(Kgz1.words $a),`(by rw[<-$a];exact(nL $b).1),`(mG (nA $a $b))]
def W_23(a b c d e f:W_T):List W_M:=[`(pL Ij $a Da),`((mY $a $b) p=some $b),`(BK N Aq $a),`(EC $a s.heap $b $c),`(ArZ ($a hit.typeIs (Asg ?_))),`(qS (mS $a) $b),`(oO [mF $a,mF $b]),`($a=0\/$a=1),`(fs.un _ $a),`((Aa $a $b $c) $b=some $c),`(digits $a),`(f.take $a),`(a.testBit $a),`(P.testBit $a),`(mQ $a $b rfl),`(mG ⟨$a,$b⟩),`(mI ⟨$a,$b⟩),`(Paired.length $a),`(wpAny $a A $b $c E $d),`(J.stop $a H),`(mAA [$a]=[(false,pE $a,)]),`(Gp $a hg hm $b $c),`(ha pos pins s σ $a _ $b h),`(Ae K $a $b xs),`(mMT K mF $a),`(eval $a env)]
def W_24(a b c d e f:W_T):List W_M:=[`(mDt pos $a),`(Bc $a $b=none),`(mM (λz=>$a $b)),`(E8 $a a y o),`(.Tuple elts $a $b),`(by show BV $a (A0 $b) _ _=true;decide+kernel),`(Au (B:=False) $a),`(vL $a Ar),`(.Ac (nH $a)),`($a (a:Int)),`(uS (iv $a)),`(goOn N $a r),`((mS $a,Af)),`($a (Be $b 5)),`(ED $a $b u rest room $c),`(Fr (λc=>c=$a) $b $c),`(CY b $a AT),`(rT EL (mY $a $b)),`(Wk st $a),`(AM (mAn $a)),`(AtB List.length $a),`(r.testBit $a),`(Ass $a (As5 aA aA)),`(by rw[$a:term,$b:term];rfl),`(mM (oL $a Ast)),`(nF ($a (Asg $b)))]
def W_25(a b c d e f:W_T):List W_M:=[`(C9 P w H h a $a),`($a<s.heap.objs.size),`($a b o e hx),`(by rw[$a:term];exact$b),`(Heap.SameBut $a s.heap h'),`(mB (.bl $a)),`(assignEach $a X.env),`(DO λi j=> mE $a),`(Auu.mpr $a),`(Str.ofString $a),`($a xs.length $b),`(nD $a D (acc++[y])),`($a "enumerate"),`(Builtin.Str.strKind $a),`(nI $a (oM Da)),`(AF $a $b $c (λ_ _=>rfl)),`(⟨_,rfl,$a,_,rfl,mG $b,_,_,rfl,rfl,_,rfl,?_⟩),`(oM (nP $a $b)),`(Ad $a (mU $b)),`(by rw[<-$a,Af]),`((2,yG $a)),`($a $b=some (pW $c)),`(AE FI $a Ar),`(nU (sv $a)),`(by have:=$a;omega),`(k .Ax $a $b rfl)]
def W_26(a b c d e f:W_T):List W_M:=[`(model P w),`(pZ a),`(λb hb=>(nN hf).1),`((2,2)),`(vF Pv),`(aL ->Hp->VK->Prop),`(mAA (e::es)=(false,pE e,)::starEach es X.env),`(Dy kvs k v),`(atKey xs k),`(AtU _ _),`([aJ,bU]),`((0,5)),`((16,5)),`(uX pv 0),`(nW aP),`(yJ mX),`(pT aY),`(m.feet.drop (i+1)),`(Kgz1.bad aBl),`(mE (c:Int)),`(qG 2),`(pB st.length),`(t.map (Wk st)),`(mX room),`(h.kn q hq),`(X.E.tw p),`(nW Ar),`(pv 9),`(Bu X.E.S i+u i),`(uM Nat Bool),`(mR o),`(C++[b]),`(meA bnd1),`(.int (((An m).length+1:Nat):Int)),`(uM Sound Nat),`(pB n),`(Gh T a x),`(size+1),`((0,2)),`(l.map (·.1)),`(by simp only[Ky.depth] at hd;omega),`(.seq its.toArray n),`(mAC a),`(some .cell),`(sZ H' s'),`(t σ H Q),`(.bl false),`(2 ^ 62),`(vs++dvs),`(A4 X.prog X.w X.K X.mg X.base CX k f fd ps sp),`(GX X.K fd ps ds),`(AB dvs ds),`(Kg CX X E),`(PA X gJ t),`(j.Av.BC aD),`(b::r),`((t,2)),`(AB.Lq r),`(X.E7 s3 M scope ce B),`(["word","at"]),`(["numbers"]),`(qR "places")]
def W_27(a b c d e f:W_T):List W_M:=[`(mMF "knot"),`(qR "knot"),`(tK "beginning" "number"),`(qR "beginning"),`(D8 aR i),`(BQ.tail.map Wd.vf),`(pJ cT e),`(mU aK),`(oM aX),`(oM Dw),`(oR oW x),`(Kgz1.syllables l),`(mFA j),`(mEn pl d.2 d.1),`((pl>>>1)&&&T.inner),`(sh.A2.getLast?.getD 0),`(AH S j),`(Dl S W l),`(aB ->Prop),`(Fs st r),`((0,h)),`(knd.draws k),`(mE room),`(mG (W:Int)),`(oA c u),`(Ase hx'),`(pB j),`(Aa (mMN Int mF) s (.Ac [mF x])),`(mMR Aj m Nat),`(pv 10),`(aH.B2 2),`(Z.so k),`(Gg sh.A2.length),`(st.1.dropLast.map BB),`(mAn f.map),`(s.map number),`(mAo DI),`(CD i w),`(Builtin.Tuple.tupleHashOf (Ky.GQ w l)),`(Auq _ rfl),`(∀b xs,H b=oO xs->H' b=oO xs),`(HZ P w),`(.Name x pos),`(oT he j),`(Nat->St->Hp->Prop),`(mEF H b),`(mR hu),`(Nat->Nat->St->Hp->Prop),`(W i m σ H),`(s.heap.push PySem.W.emptyDict),`(show False from r),`(j.tuple hq),`(typeOf (.builtin id)=pure (.type "method_descriptor")),`(EM X id r),`(notedBy bD A env λe s'=>R (.error e) s'),`(mJ8 tg),`(KT H kvs xs),`(Array DictEntry),`(mE (i:Nat)),`(mME 0 lo),`(["self","rest","used","room"]),`(qR "states")]
def W_28(a b c d e f:W_T):List W_M:=[`(["self","group","follower","rest","used","room"]),`(["self","places","length","ends_word"]),`(["self","measure","texts","most"]),`(qR "after"),`([WData.list (ns.map WData.int)]),`((26,26)),`(Cg 0 aR),`(oM aP),`(mE (x:Int)),`(Addr->Prop),`(pU a.map),`(mZ Kgz1.Sound),`(iv sh.A2),`(iv st.1),`(pT aK),`(uX pv 2),`(uX pV 0),`(Nat->Bool->Nat),`(s1.seq f),`(FV false l),`(uD nC (n+1)),`(λ_=>0),`(DS u i),`(qP wF u),`(Cc E.S q),`(λ_ _ _=>rfl),`(Kt×Addr),`(uF kvs),`(Ah this),`(mA3 j),`(Aa (mCz H 0) X.D (.Bw od (.dT f))),`(Aa (Aa (nD I O []) U (.dK [])) a1 (.Ag t.BD m (Dm M p AA C O U))),`(pW (Be (λ_=>0) 4)),`(nH es.map),`(b+U.length),`(pK bs d),`(nC t.A_ [("half",aAH,),("cuts",mBf Aj m Nat,),("inner",mE ((aH.inner:Nat):Int),),("doors",mF d,)]),`(Aa (Aa G o (.Al [mE ((Do m j).ends:Int),mE (N:Int)])) d (.Ac (nH I.map++[mF o]))),`(JK st),`(Kr H H'),`(fnA bnd3),`(meA bnd5),`(isPair c d),`(O0 p c),`(mZ (Bool× aB)),`(aB × aB),`(f.map EH),`(rO 124 f),`(parts c b w),`(w++[d]),`(s.drop a),`(mIk cw r),`(pB w.length),`(lT - 1),`(aU[q]? =bT),`(b.drop a),`(At0.mpr aA),`(s.headD 0),`(.int i t),`(oA a o),`(AB xs its),`(j.base.free b o e n hx)]
def W_29(a b c d e f:W_T):List W_M:=[`(X.fn x=true\/X.env.scope.names.lookup x=some .local),`(PT X a tA),`(X.Ig E),`(V->V->Hp->VK->Prop),`(pyNext iQ),`(B.ok.hd hc),`(oT j n),`(z.Av.BC aD),`(mDl GR),`(K.In s.heap),`(PySem.W.instObj C s.heap.objs.size),`(GV X.K C),`(ps.zip us),`(us++ds),`((us,[])),`(Dj k X.A),`(aP1=false),`(mZ Keyword),`(start N vs),`(Dx xs lo hi),`(tD "len"),`(own.map (·.2)),`(Dv H k b),`(.dT kvs),`(mEN b n),`(D.ok.hd hc),`(iW ≠[]),`(ys.map V.str),`(["calls"]),`(Jg i.heap H),`(K w.params),`(.Ac []),`(Au (8,0,5)),`(aBf++[0]),`(mE (wd.vf:Int)),`(sP 44 c0),`(nH ds.map),`(nC t.Dq aNx),`(mDP (.speak l.length l)),`(Ao aAA),`(f.As aZ),`(mZ (Cl× aL)),`(Aa (mY M (uD nC n2)) N (pW ns)),`(KG S i M),`(Ch M U),`(dL+u i),`(Dr [] a),`(L++aG9),`(CP (r.map (Wk st))),`(∀k∈r,k<N),`(AsI _ hx),`(mMG mF it),`(Ao (GW aK aP FX)),`(nH fs.map),`(mM2 m d),`(mBd o c),`(aOL.testBit p),`(.Al [mE (κ.m:Int),mF d]),`(Aa (Aa (Aa (Aa (qX B dx a) a (nC t.BD [])) N (.Ac [])) O (.dK [])) a (nC t.BD (Dm κ d AA .Ax N O))),`(vC F k k'),`(BE l S.Bk),`(Eu t X κ n o H kvs D j b Hj oj kj gs)]
def W_30(a b c d e f:W_T):List W_M:=[`(mCz H1 (n1+1)),`(e.As aA),`(Ad aX (pM 3 4)),`(.Ac [bZ]),`(B4 f0 f1 r g1),`(mY y aKk),`(mQ i w j),`(CD i x),`(ET H es l),`(D++(CD i x).take j),`(Bd j f),`(Aa d9 U aBC),`(nC t.A_ [("half",aAH,),("cuts",mBf Aj m Nat,),("inner",mE ((aH.inner:Nat):Int),),("doors",mF d,),("fitting",mF U,)]),`(nC t.A_ [("half",aAH,),("cuts",mBf Aj m Nat,),("inner",mE ((aH.inner:Nat):Int),),("doors",mF d,),("fitting",mF U,),("first",mE ((aH.first:Nat):Int),)]),`(nC t.A_ aPB),`(nC t.Cp (Mv ms SA OA)),`(Aa B N (.dT [])),`(mY d2 aG6),`(CT Y (Ew U st A7 k)),`(r.length<ms),`(PH N ms L r u h a b),`(uZ A7),`(nD G J [mE (k:Int)]),`(pK H1 m),`(Gf st.1 sh.Bk),`(by simp[b]),`(i<l.length),`(b+A.length),`(El m.cuts),`(Br i b r),`(DI i b r),`((c.foot,c.way,kP)),`(DJ aH.AW (lT - 1)),`(KZ m.feet 0 c (Asl hc)),`(aP4.take 2),`(∀s∈ss,GM s),`(by simp only[Ky.C2] at hd2;omega),`(mZ (Ky×Addr×Value)),`(λ_ q=>q),`(some .free),`(qD j.ok.bs),`(j.cell x c e),`(Hu X.stack),`(j.Gn x c e),`(λ_ _ e=>e),`(TP X pins σ Q),`(h.IsTupleIter it a i),`(Jl lo n),`(∀x,foldedSetIterable iter X.env x=pure x),`(CU r ta tb),`(binaryOp .BitAnd),`(Cn f v fs),`(mJU mF us),`(wN x gJ),`(Str->oK NameKind),`(Asg (0,Asg h)),`(by with_unfolding_all rfl),`(qI ys.length),`(compareOp .In),`(PlainAttrs T),`(λx=> !x.1),`(λx=>x.1.isSome)]
def W_31(a b c d e f:W_T):List W_M:=[`(if([]:mZ Keyword).isEmpty then 0 else 1),`(OP X.N X.env.scope scope own),`(G.cells.lookup y),`(kvs.any λj=>decide (j.1=k)),`(h1.symm.trans e),`(h1.trans z),`(OW lo c n),`(λi h=>h.IsStrIter it ty x t i),`(o.data= lX),`(b=e\/b=it),`((61,26)),`(mME z.length hi),`(Or.inl rfl),`(["sounds"]),`(["consonants"]),`(["weight","lead"]),`(["syllables"]),`(["one","other"]),`(mMH "lack"),`(mMH "finish"),`(["numbers","size"]),`(["measure","text"]),`(["most","measure_numbers","after","stock"]),`(["call","numbers","lists"]),`(tK "feet" "cuts"),`(["self","is_finish","words","rest","room"]),`(tK "cost" "followers"),`(qR "words"),`(["self","mode","state","fewest"]),`(qR "note"),`(mMI "outlook"),`(mMI "most"),`(tK "bit" "rest"),`(tK "word" "cost"),`(["self","row","used","states","room"]),`(tK "measure" "syllables"),`(["self","foot","way","at","met","later"]),`(qR "numbers"),`([nO "ae",nO "au",nO "oe",nO "eu"]),`([nO "x",nO "z"]),`([nO "b",nO "c",nO "d",nO "f",nO "g",nO "p",nO "t"]),`([nO "l",nO "r"]),`(mAN h.Ns mg),`(ns.map λn=>mk [n.toNat]),`(sv (r++[z])),`(by decide+kernel),`(xO x y),`(nw H p H'),`((8,5)),`(nP af ag),`((Kgz1.words l).map (Kgz1.sounds 0)),`(pG (sh.A2.length - 1) 0),`(!(iv st.1).isEmpty),`(qE s1 s2 s3),`((0,31,cF)),`([aB6,vU c]),`(if m.cuts=[] then[V.bl true] else[V.bl false,V.bl true]),`(Kgz1.scans (E2 m) aBl),`(mH9 d.length d),`(n+1+x.length),`((0,31,Au ?_)),`(mCj (·|||·))]
def W_32(a b c d e f:W_T):List W_M:=[`(Dt T pl n g),`(∀s∈a,EB s),`(∀s∈r,EB s),`(CQ T w P sh),`(a.sh (Cb q)),`(Lk S C l r c),`(pre++[k]),`(∀k∈a,k<N),`(Dr pre a),`(Oa st A7 S so),`(mM (by exact Ast)),`(nG ArZ (AvW ?_)),`(Shared.heap (hp,g,d,tk,os)),`(IQ s.heap d es ep),`((21,4)),`(mE (g:Int)),`(mE (κ.m:Int)),`(Aa z T0 (.Al [])),`(sS a.own),`(∀κ a,R κ a->R' κ a),`(mBv z Af),`(mE (M:Int)),`(iv (Be f n)),`(u&&&mD5 j q),`(nD N D (done++[mF O])),`(g++[(eR,aJ,)]),`(λc u e=>?_),`(aCD.testBit κ.p),`(uM Kt Addr),`(mQ j B I[i]),`(iv S.A2),`(PP _ _ _),`(C.map (·.x)),`(mCr (n+1)),`(Aa (mCz H (n+1)) fa (.Ac (fs++[mF x]))),`(mBv q Af),`(Dl X.E.S used u),`(Bv u X.E.S.length),`(D6 X.E κ),`(b.As aA),`(Atj.mp hx),`(.Ac [mIW mE b Int]),`(mMW (FC b a A st)),`(nH O.map),`(U++[lP]),`(mH4 G I),`(mFr (mU aPv)),`(nC t.A_ [("half",aAH,)]),`(nC t.A_ [("half",aAH,),("cuts",mBf Aj m Nat,),("inner",mE ((aH.inner:Nat):Int),)]),`(.Al [mF f[j],mE (N:Int)]),`([("half",aAH,),("cuts",mBf Aj m Nat,),("inner",mE ((aH.inner:Nat):Int),),("doors",mF d,),("fitting",mF U,),("first",mE ((aH.first:Nat):Int),),("done",mE ((aH.done:Nat):Int),),("twins",mF Y,)]),`(CY cE iG.length AT),`(aU.length<=400),`(aBE.testBit p),`(mE (ms:Int)),`(Qg st ms A7),`(Aa (Aa B b (.Al (iv (wd.sh i).A2))) e (.Al [mE ((wd.sh i).Bk:Int),mF b])),`(λk hk=>?_),`(nC t.Cp [("most",mE (ms:Int),),("room",mE 256,),("sorts",mF SA,)]),`(BK N ms L),`(.Ag t.Dd db (EV m 0 sa 256 0)),`([(r,u+1,)])]
def W_33(a b c d e f:W_T):List W_M:=[`(.Ag t.Dd I (EV az used sa (Ex Z r) (u+1))),`(nC t.CB [("stock",mF SP,)]),`(nC t.CB (mJq mF)),`(Aa (Aa (qX N dF F) F (.Ag t.AV dF [])) D (.dT [])),`(.Ag t.AV dF [("places",mF PA,),("sorts",mF SA,),("views",mF VA,),("knots",mF D,),("kept",mE 0,)]),`(y.2.2 != x.2.2),`(A++s.map λx=>(x,k,)),`(λc=>c==45||c==117),`(λc=>mCM c),`(aCV.mapM foot),`(f.getD j []),`((HW m.feet t).take c.1),`(l.zipIdx n),`(mIk Bz (f::r)),`(aP0.map (w.2::·)),`(T.cuts.testBit x),`(c.way.getD c.place 0),`(λ_ _ _ _=>rfl),`(DJ aH.AW kO),`(c.way.length - c.place),`(m.cuts.any λx=>x.1==c.foot&&decide (c.place+1<=x.2)&&decide (x.2<c.way.length)&&decide (4<=b.getD (a+(x.2 - c.place)) 0)),`(s++[.vowel g]),`(s++[.cons c]),`(rawHash (mAr b)),`(eqBool u v),`(xs.size==ys.size),`(PySem.W.instObj C dx),`(EJ (oE f) (mA f)),`(h.objs.size<=a),`(e=x\/H e=mBp x),`(a.free c j q n hx),`(X.EK.heap.get? b),`(∀b∈ch,(b∈X.ex\/X.EK.heap.objs.size<=b)/\b≠X.env.locals/\(∀x c,sW x=mB c->c≠b)/\∀p∈X.pn++pins,p.1≠b),`(λz=>hc (by simp[z])),`(λm hm=>?_),`(λb u e=>?_),`(j.Av b u e),`(λc v hc q=>k c v ?_ q),`(σ.set i bK),`(hs.2 b (mCQ e B.ok.above)),`(hs.2 b (mCQ e (B.ok.O7 x c U hc))),`(.Compare a [op] [b] pos),`((j,H',z.JZ,q)),`((σ,H,j,h)),`(.Name x pos'),`(∃xs,xX H1 a),`(∀b∈j,H' b=none),`(sJ (sJ (Uh hb e))),`(V->Hp->VK->Prop),`(wpAny bO X.A (f (.int i t) (.int j u)) Q E s),`(binaryOp .Add),`(zH (i - j)),`(rU λi=> mE (-i)),`(mC7 (decide (i<=j))),`(PySem.W.lookIn name od),`(PySem.W.hasDictIn K C),`(PySem.W.makesIn K C),`(xY "__init__"),`(Cn f v ((k,x,)::r)),`(λb u q=>oD q),`(if v<0 then(v+(n:Int)).toNat else min v.toNat n),`((i:Int)+(m:Int)*1)]
def W_34(a b c d e f:W_T):List W_M:=[`((items.toList.drop (AK items.size 0 lo)).take (mET AK items.size)),`(sliceBounds lo hi none n),`(SeqAt.EqAt.same _),`(by simp<;>omega),`(λ_ _ q=>oD q),`(∀b o,oB b=aI ->qC b=aI),`(j.ok.hd hc),`(cells.lookup n),`(DZ cells names acc),`(own.map (·.1)),`(DZ X.env.cells scope.names []),`(λb o e hb=>?_),`(λ_ _=>False),`(∀b∈B,H' b=none),`(Dy kvs k y),`(oA d (.Bw od u)),`((154,q)),`(lo+(i:Nat)*c),`(nF (wpAny_handled ?_)),`(((AtD ..).extBut.push _).push _),`(yE aa tpos),`(∃BM,IsEnum h e it ((i:Nat):Int) BM),`((BM,k e aC _ he)),`(mDs [aB6,x]),`(Gl X "enumerate"),`(wN "enumerate" [e]),`([tF 1,s1.heap.objs.size]),`([z,TI,TO,i1,j]),`(strValues l),`(.Pass (147,64)),`(["numbers","signs"]),`(mMJ "text"),`(mMJ "texts"),`(["texts","most"]),`(["measure","words","most"]),`(["word","cost"]),`(["measure_numbers","line"]),`(["k","measure_numbers","line"]),`(["row","stock_size","most"]),`(qR "sounds"),`(mMF "states"),`(tK "mode" "state"),`(tK "knot" "note"),`(qR "later"),`(["self","finishing","led_places","shape","later"]),`(tK "finishing" "led_places"),`(["self","ways","cut_places","begin"]),`(qR "measure"),`(tK "state" "shape"),`(tK "way" "at"),`(["self","foot","way","at"]),`(tK "foot" "later"),`(.seq vs.toArray),`(∀z∈ns,0<=z),`(mDu N "__eq__"),`(mDu N "__ne__"),`([("ae":Str),"au","oe","eu"]),`((mAO i).take 2),`((0,k a H eQ ?_)),`(zP Ln aK Ar),`((0,k)),`((_,0))]
def W_35(a b c d e f:W_T):List W_M:=[`(Kgz1.parts c b w),`(parts.filter λp=> !p.isEmpty),`(nH c.tail.map),`(by simp[hx]),`(1<=sh.A2.length),`(vF u.take),`(λx=>(EF n x).isSome),`(m.cuts.take j),`(qE s2 s3 s4),`(λaa A outer s H vs Q E d h=>?_),`(Ru rfl T.Ma (mU aY)),`(Aa I D (.Ac (iv tk++[mO (M:Int)]))),`(K8.any λc=>(c:Int)==(n:Int)),`(HJ l= .str (mk l)),`((16,Au (0,92,λD G=>k D _ (pC C G) (C.free G) Af))),`((16,Au (0,92,λD y=>k D _ (pC v y) (v.free y) Af))),`(∀b o,b≠p->H b=aI ->H' b=aI),`(GW aK Ar Jn),`(mQ p ns xs),`(oR cv.map (·.1)),`(∀c∈cv,c.1.Ok c.2/\c.2.length<=65),`(enc (mQ c ns ls)),`((0,5,Wq _,λq=>by cases q)),`(aP3.map V.int),`(λi=>ns.getD i 0),`(by unfold Builtin.bitNot;omega),`(mCj (·&&&·)),`(T.BP.foldl aBn aBo),`(∀z∈l,z≠0),`(sh.A2.dropLast.map BB),`(mFD T.done 2),`(∀a∈q,DR a),`(∀a∈S,DR a),`(W9 T m w p hw),`(∀y,y<x->qB y=false),`((λj=>?_,λx=>?_)),`(before (r++k::a)),`(a.length<=Aq),`(a+w.length),`(Kgz1.syllables aBt),`(AH S (so k)),`(∀k∈t,k<st.length),`(oH "StopIteration"),`([z,TI,TO,d,e]),`(wpAny_loadPart' f),`(Builtin.Dict_items.ownsTuple "dict_valueiterator"),`(storedH_new m),`([s1.heap.objs.size]),`(λd A outer s H vs Q E f h=>?_),`(by rw[e,Af] at j;cases j),`(.Ac (ys++[cU])),`(∀i∈q,i<E.S.length),`(r≠D/\H r=none),`(λr=>(mA3 r).testBit κ.p),`(WZ c d e P1 q.1),`(nQ (g1.free ae af).1),`(mN (Y.free bh bm).1),`(bn.trans Y),`(Bu S S.length),`(Aa (Aa Hj g.so (.Ac (iv g.ms++[mE (M:Int)]))) g.x aO1),`(C.filter λg=> !g.G.fl.isEmpty),`(C.map (·.so))]
def W_36(a b c d e f:W_T):List W_M:=[`(.Al [mE (lO.Bl:Int),mF R]),`(mC g'.rg rg),`(mCz H (n+1)),`(mB (a,mB v.W,)),`(k _ _ _ f2 (g1.trans g2)),`(GC X.E G p.1 q),`(vD r (Asr q)),`(.Al [mO (j:Nat),sR mO L j]),`(∀i,i<S.length->DR cG.wd/\∀m,(cG.wd.sh m).A2.length<=1000),`(Fr.refl.Aa rfl),`(nC t.DD (mMQ mF)),`(G.length - 1),`(l.map λx=> .Al [.Ce ⟨#[x.1]⟩,.num (if x.2 then 1 else 0)]),`(mMK (j:Nat)),`(Aa be e (.Al [V.str ⟨#[M]⟩,V.bl (g.contains j)])),`(pW cV.tail),`(Ass (JQ _ _ _) (As5 aA ?_)),`((mGK m).take j),`(vD (mC cd b7) cm),`(λi q x r C=>?_),`(ns.take ms),`(λa b=>mJx b),`(Mu (h.ER k hk)),`(.Al [mF ws[j],sR mE A7 j]),`(tR ws[j] rs[j]),`(aAv.map λk=>aEs),`(∀k∈x,k<N),`(GK t Z H b r up a c sa a0 a1 used),`(∀m,(mBc m).1<=4),`(.Ac (iv r++[mE (k:Int)])),`(bs.length=path.length),`(by have:=h.len;simp at this;exact this),`(.Al [mE 4,mE ((Aj Z.m).first:Nat)]),`(.Al [mF s0,mF s0]),`(qX a1 db b),`(.Ag t.Dd bm aPS),`(by simpa[Dr] using h),`(Au (92,λD B=>FN (-23) a1 I C rfl D B)),`(Jb (a.foldl CZ ([],[],))),`((cS).1.map λc=>(c,k,)),`((5,4,4)),`(if x.1=45 then 0 else 1),`(Qu λc _=>by simp[O2,HW]),`(Bz cuts b r (i+1) aJM (Am||Ei cuts b i w a)),`(((P&&&jN)&&&T.cuts)<<<T.AW),`(DJ aAL ((1<<<size) - 1)),`((4,c,5,4,hp)),`(show q<aU.length+1 by omega),`(List.length (List.drop kP c.way)),`(by show c.way.length - kP=n;omega),`(T9 m.feet 0 q c hc aA),`(by simp only[Ct,Bool.and_eq_true,decide_eq_true_eq] at o;exact o.1),`(TH b ok n (i+1) _ _ aA g hle),`(by show A.units+1+n<cLine;omega),`(by simpa[Nat.add_assoc] using J),`((ob,hob,hcb,nb,hdb)),`(PySem.Within mA (fs.map (·.1))),`(Asu (show nZ a=some _ from x)),`(Addr×Obj),`(s.heap.Ns X.env.locals m),`(λb ps e=>(#[],by rw[e];simp)),`((57,57,B.base.free,λb o e hx=>?_,B.base.Gk,B.base.F1,B.base.Gm))]
def W_37(a b c d e f:W_T):List W_M:=[`(z.sameBut hs (Lh y c e)),`(mDt pos es),`(x==("__classdict__":Str)),`(wM j.ok.Jh j.mod.Jh.keeps j.bk),`(A5 (ha pins s σ H Q n h) λc s1 e=>?_),`(A5 (oT ha n) λc s1 (H1,q,z)=>?_),`(hb j pins s1 σ H1 Q q z),`(A5 (oT ha j) λv s1 (x,H1,n,q,z)=>?_),`(A5 (oT hc j) λd s1 (H1,n,q)=>?_),`(by simpa using AtB Array.toList z),`((ok.mod,ok.kind,ok.Jh,ok.Ji,ok.above,ok.inj,ok.Lf,ok.O7,ok.hd,ok.frames,ok.Di,ok.QA,ok.bs,ok.Jj,ok.O8,ok.O9,ok.GS,ok.Lg)),`(PassesOwn bO X.A X.env X.xe),`(letOwnedTupleGo tg iQ u),`(B.DN (mDm L cH) f0 f1 D f4 G),`((2,B.DN (t':=s.toks) (mDm M hb) f0 f1 D f4 G)),`(wpAny_pyIter_rangeiter st h),`(∀i x σ H,xs[i]? =aW ->Pv i σ H->g x σ H λn H2=>tb {D with nx:=Pv (i+1),ct:=Pv (i+1),bk:=D.nx} n H2),`(∀z H',N z H'->∃B,B<m/\W (i+1) B z H'),`(mG ((xs,q,aD),hd σ H p)),`(∀q H',N q H'->∃z,z<m/\W (i+1) z q H'),`(mI (B,Pv (i+1),λq H' G=>(139,B,G),λx H' y=>?_)),`(Value->Value->Sem Value),`(Uj ha hb n h λv u s2 x y H2 z B D q=>j pins s2 σ H2 x y v u Q z B D q),`(intBits_le_64 h1 h2),`(mC6 (λ_ j=>0<j) (i%j)),`(zH (Builtin.bitOr i j)),`(zH (Builtin.bitXor i j)),`(λx y H Q=>y= .Ax/\rS (decide (x= .Ax))),`(lastMarks [op,q] [b,c]=false),`(.Compare a [op,q] [b,c] pos),`(j pins s2 σ H2 x y v u _ L I M N),`(hc pins s3 σ O _ U Y),`((y.length:Int) != 0),`(nG mB (tD "object.__setattr__")),`(if g=f then aM else mA g),`(.Ag C s.heap.objs.size []),`((by rw[<-r.length];exact z,5)),`(λv H2=>v= .Ax/\Q cU H2),`(Avv (x.above y c (AsQ h))),`(List.take_sublist _ _),`(PySem.W.fnOf name qual params body scope j kV doc pm an z ct),`(∀vs H Q E,mBJ H->vs.length=ps.length),`(AtW (Gp B hg hm j ?_ n q)),`(A5 (xW H B) λus s1 (vs,H1,D,G,I)=>hc pins s1 σ H1 vs us Q D G I),`(if v<0 then max (v+(n:Int)) 0 else min v (n:Int)),`(((AK items.size 0 lo:Nat):Int)==0&&(1:Int)==1&&(mET AK items.size)==items.size),`((4,4)),`(typeLookup (oH T) "__getitem__"),`(nD H p (xs.set j v)),`(((mQ o e ex.1),λa B=>?_)),`(by rw[As2,As2];omega),`(numsOf (intItems xs).toList=ns),`(.fields #[eP,.int 0 0]),`(compEnvC scope (mJs dD) s.heap.objs.size X.env),`(∀y∈scope.names,y.2= .free->∃c,sW y.1=some c),`(ok.free _ (AsQ Y.1) rfl),`(nK (show p∈([]:bC)++[] from hp) aC),`(compEnvC scope (mJs (s3.heap.objs.size+1)) s3.heap.objs.size X.env),`(compPost bO X.A X.xe use Qf (mF D) s3.heap.objs.size),`(Inv aA6 [] (Co σ aDv) H' s'),`(by simp[valueAt,List.find?_cons,e']),`(by simp[atKey,List.find?_cons,e'])]
def W_38(a b c d e f:W_T):List W_M:=[`(kvs.length<=sizeLine/\(mAC a)=false/\∃vs,hO /\h.DictOf (GR P w) a vs),`(attributeBase o m X.env (pE o)),`(apos.endLine==cpos.line),`((dd.typeIs,λb q=>?_,hd)),`(PySem.F.args_dict_get_2 _ _),`((_,dd.mapOf,h _ _ fM ?_)),`(PySem.F.args_dict_get_3 _ _ _),`(∀b o,b∉ch->oB b=aI ->qC b=aI),`(∀b u,H b=aM ->b∉ch),`(((nN hf).2.2.2.1,(nN hf).2.1,(nN hf).2.2.2.2.1,(nN hf).2.2.2.2.2)),`(λb o hc e=>(o,k b o hc e)),`(Ah (λz=>by rw[z,h] at q;cases q;exact B)),`(ty="str_ascii_iterator"\/ty="str_iterator"),`(mFL Builtin.Dict.showsAll d),`(∀h',Heap.ExtBut it s.heap h'->Q none {s with heap:=h'}),`(xE wpAny_typeNameOfWhole_keyiter),`(xE wpAny_typeNameOf_keyiter),`(rC (setField iQ 0 .none >>= _) s),`(mLl (by first|rfl|(simp only[firstArgMember];rfl))),`(((i+1:Nat):Int)=(i:Int)+1),`(((.none,he),hit,Awq _)),`(∃x y,IsPair h TO x y),`(c=z\/c=TI\/c=TO\/c=i1\/c=j),`(λY=>hb (by simp[Y])),`([tF 4,tF 2,tF 3,s1.heap.objs.size,tF 1]),`(if pre S (c::r)=true then acc::DC S (S.length - 1) [] r else DC S 0 (acc++[c]) r),`(List.length_pos_iff.mpr hy),`(AsW (by rw[AtH]<;>omega)),`(λx xs H Q=>∃a b,x= nO a/\xs=[nO b]/\(b.length==0)=false/\a.length+2<=sizeLine/\UQ (Txt.split a b) H Q),`(Q (nO (Txt.join a ys)) H),`(mEV z.cps.toList.drop z.length),`(mB ((HT.AK z.length 0 lo:Nat):Int)),`(mB ((max aB7 aFl:Nat):Int)),`((1:Int)==1&&aMI.length==z.length),`(Builtin.Str.strSliceIndices (l.map (·.1)) (u.map (·.1)) 1 z.length),`(∀b c,A b c->B b c),`(OF (EY i) (OF (EY j) Ue)),`(.call (mF g) ([aJ],[])),`(λr I=>(∃v x H',r= .ok (.ret v)/\Cm P w H' I.heap/\AJ x v/\RR x H')/\OldK i.heap I.heap/\I.os=i.os/\AllBare I.gens),`(Codec.decAll RW.args args),`(λx y h=>by injection h),`(PySem.W.fnOf x qual (Jq st) (Im st) (A0 st) .none g doc pm an h ct),`(some (excClassObj nm q C N bs [oH "object"] a sn sub b col dd c d e f g newId)),`(["numbers","signs","known","sign","found","number"]),`(mAS CL (zP QY aK aP) Ic),`(Jk (D9 (Bb (Sd T) eH rfl T.Fi.m T.Fi.F.kp T.Fi.b .nil Ay (mU (zP Ln aK eY))))),`(wA (F4 U2 aK Gu (EZ eY))),`(k p _ (mS hp) (Ae.of ?_)),`(∀b o,H b=aI ->b≠p->H' b=aI),`(["self","sounds","longs","runs","sound","is_heavy","run"]),`(nC t.FR (Cn "lead" (mO (Ez c1:Nat)) [])),`(["text","words","part","followers","word","follower"]),`(((parts[i].length:Nat):Int) != 0),`(VH (λb hb=>hb) λb o hb e=>?_),`(by rw[AtI] at d⊢;omega),`(["text","weights","ends","shape","lengths","weight","length","end"]),`((2,aT,9,9)),`(pG (((aCm.length:Nat):Int) - 1).toNat gE),`(nD G S (iv st.1.dropLast)),`((16,8,5)),`((λw hw=>?_,by rw[Ata,Ata,A];rfl)),`(by show X.A.units+1<cLine;omega)]
def W_39(a b c d e f:W_T):List W_M:=[`((g,nM i,q,λj p x a b=>nM (u j p x a b))),`(["texts","foot_count","cuts","text"]),`(["numbers","text","parts","feet","foot","cuts"]),`(qM ("foot",4,) AdD R3),`(mT (by omega:¬(16:Int)<(dJ.length:Nat))),`(Az (0,D,2,(oX O),λbx bz=>?_)),`((3,mN h6,0,5)),`(mW (by omega:(16:Int)<(dJ.length:Nat))),`(λi v=>∃c u,x.cps[i]? =mB c/\v= .str ⟨#[c]⟩ u),`(Aa H1 L (mMK (i:Nat))),`(λc=>c.1==i&&decide (c.2<x.length)&&decide (4<=tT (a+c.2))),`(.Al [mO (mDv (a:Int) x),V.bl mt]),`(["self","foot","later","counts","at","met","way"]),`(∀a Am,a<z->FU m Am->mCa G=mX (Jz m b N i a Am:Nat)),`(aNp.map λn=>((n:Nat):Int)),`(ws.map (Px m b N i z Am)),`(mM (λe=>by have:=(Sw e).1;omega)),`((j,by rw[Ah n];exact s,u)),`(Aa (Aa (oA r (.dT [])) v (.Al [mO (g.length:Nat),V.bl true])) r (.dT [(EO g.length true,mO 1,)])),`(BX aDK 0=some (mF ds[0])),`((151,26,2)),`(BX ((Es m).map V.bl) 0=some (.bl m.cuts.isEmpty)),`(mCb 0 V.bl m.cuts.isEmpty),`(Cn "counts" (V.ref L) [("feet",mF f,),("cuts",mF c,),("syllables",mF sa,),("met_values",mF q,)]),`(Ad bB (uW bG (qU aY (vX bJ)))),`(some (.int ((cw m.cuts b aAr i a Am ws[M]:Nat):Int))),`(AM ((ws.take M).map (mFv cw aAr))),`(cw m.cuts b aAr i a Am ws[M]),`(Kgz1.isLetter n||n==32),`(if _ then _ else if _ then _ else _),`(1<= dZ.length/\ dZ.length<=64),`((16,Az aAm)),`(if n<=r.length then mB (r.take n,r.drop n,) else none),`(by rw[e,Af] at f;cases f),`(a.out.take a.value.toNat),`(A4 P w K mg base A9 57 t.Jr t.R7 aFw (Wl K)),`(∀c∈cs,KgzNeutral.asked1 (enc c)=true),`(st.all FW&&st.all λx=>iB),`(["stock","word","texts"]),`(λaa A outer s H vs Q E a h=>?_),`(qM ("word",1,) Aeb R6),`(by unfold P6;rw[h,bS]),`(mP p eQ (st[i],mK u,5)),`(l.foldl PyProof.Rows.step_dedup acc),`(["row","stock_size","most","number"]),`(d.map λx=>decide (x<n)),`(Builtin.bitAnd (a:Int) aNV),`(uY Builtin.bitNot),`([mO (T.F0:Nat),mO (T.Ej:Nat),mO (T.Ek:Nat)]),`(if g then Ch (pl&&&T.B2 n) T.cuts|||(((pl&&&T.B2 n)&&&T.cuts)<<<T.AW) else pl&&&T.B2 n),`((0,85,237,_,(1),26,(Y _,21),loop _ _ _ e)),`((0,67,220,nQ z,Wy T n o,13,k)),`(Kgz2.okStock gN st.length Aq),`(KC T (if fA=4 then P else Dt T P (BB fA) true) sh.A2.dropLast),`(mAY (λl=>if l=a then L l|||B else L l)),`(a.vf=m/\∃i,i<=1/\(IN T (later i) (a.sh i) w).testBit p=true),`(J6 S c n i _ k j (NX T w _ _ hw ((c a ha).sh i))),`(λq=>∃a,q=i::a/\C a),`((pB N).filter λk=>decide (u<=k)&& !(wF k)),`(λk=>decide (u<=k)&&p k),`(λk=>decide (u+1<=k)&&p k),`(λr=>(a==[]||before a r)&&s r)]
def W_40(a b c d e f:W_T):List W_M:=[`(Kgz2.wordOf (gN.getD k [])),`(∀a∈q,a.CO.A2.length<=a.DF.A2.length),`(q.map λa=>a.CO.A2.length),`(vT As7 hp.trans (b.map _)),`((mAZ r.map)=(uZ f).map λ(n:Nat)=>(n:Int)),`(∀k∈r++t,k<st.length),`(∀h' e,Heap.ExtBut it s.heap h'->(∃o,qC e=aI /\o.cls= oH "StopIteration")->E (mF e) {s with heap:=h'}),`(rC (newExc aJQ [] >>= _) _),`((Obj.cls_mapFields ..).trans hc),`(show h.IsTuple a g from x),`(k _ h' s.toks hx (l,st.2.at λo e=>(m.2 a d).trans e) m),`(nF (Ats hz rfl (x:= .bool false) rfl ?_)),`(∀c o,c≠z->c≠a->oB c=aI ->v2.get? c=some o),`(mIp "list_iterator"),`(λU=>hb (by simp[U])),`(ArZ (AuN (mFJ hit.typeIs AtF (Atf AtF hit.typeIs Avt ?_ (Avp _))))),`(s.heap.DictOfH knd d xs),`(h'.DictOfH knd d (storedH xs k a x)),`(dictSetDefault d aJ x),`(Obj.data_mapDictKeys hd _),`(Expr.Call (mA0 o "values") [] [] m),`(∃a,x= aJ /\(∃xs,uP H1)/\mAz GU),`(∀y,x<y->qB y=false),`(Bb (SN T) (f.As aZ) rfl T.Fl.m T.Fl.F.kp T.Fl.b .nil Ay (mU aK)),`(∀x,qB x=true↔x∈j\/yV x=true),`(∀x,yV x=true->x∉j/\j.length<=x),`(["bits","choices","bit","choice"]),`(nC t.FS (Of v)),`((182,Ch v.W x,v.r+1,v.c+g)),`(oP (vX aY) (AE DA aY aX)),`((116,96,T.LU,2,8,116,96,T.LW,31,8,5)),`((true,v.W|||x,v.r+1,v.c+g)),`((∃a,x= aJ /\(∃xs,Ae K H1 a xs)/\∃n,C (Cf K a) n)\/(∃a,x= aJ /\(∃xs,A8 K H1 a xs)/\∃n,C (GU K a) n)\/∃d o c,x= mF d/\H1 d=mB (.Bw o (.dK c))/\∃n,C (Lv d o c) n),`([bM,mX rest,tN mX,aAx,mH sv,mX (W:Int),v6]),`([mE (κ.w:Int),sD mE κ.p]),`(∀b v,H b=bK ->Ci o c (tP c) b=o b),`((κ,a,e,ne,mIA k.ev (ev _))),`(X.E.T.B2 2),`(λr p=>if pl.testBit p then r|||1<<<E.tw p else r),`(Fu E (pl&&&vw E E.Aq i w)),`((((Fu X.E aGx:Nat):Int)) != 0),`((D,8,Ab.Aa Y _ _ bc,BA aA,19,_,U,2,mC bp (mS Y),a1,a2,bq,br)),`(∀c u,H c=aM ->o' c=o c),`(wH BM h.f h.of),`(wH BM h.d h.od),`(["self","mode","state","key","seen","rest","view"]),`(mGd bk (b++[(eR,aJ,)])),`(["self","states","knots","mode","state","place"]),`(BX (iv S.A2) (-1)=some (sR mE S.A2.getLast?.getD 0)),`(On (λz=>e (At2.mp z)) ?_),`(∀j∈q,j<X.E.S.length),`(mIU (mD7 i fW).2 (mD7 i fW).1),`(.dT (gD gs++[(EQ c s0 s1,cU,)])),`(.Ag t.CH g.dx (Ft g.G.Bl g.fo g.so (g.W|||M))),`(Afk ok kb s1 (oL s3 U.c0) (oL s4 U.c1) q hq),`(KK t H' o' X.E (Rg c) κ ga),`(["self","knot","groups","sort","states","shape","key","group"]),`([jG,mH a,mH D,mH q,mH R,none,mH U,none]),`((v,(a1.ev M a2).1,a2,Y)),`(Aa (mD9 la (.dK (Dy ls jE (mF s)))) s (.Ac [mF x])),`(Ah (λq=>by rw[q,Af] at e;cases e)),`(λb=>b=X.F\/∃κ,Rg f κ b)]
def W_41(a b c d e f:W_T):List W_M:=[`(b7.free (L.free kn.st kn.He).1 (L.free kn.st kn.He).2),`([kH,aJ,mA5 mE,tN mE,aBw]),`(Aa (qX H dx x) x aOB),`(mG (2,5,146)),`(((Ch W (B.W|||used):Nat):Int) != 0),`((0,58)),`((_,S6 _,λq hq p B=>?_,λ_=>aT)),`(Au3 (λa b h=>by injection h)),`(by rw[e,Af] at o;cases o),`(Cu (Bx aK T.Em.c T.Ku.h (Af1 T) bR T.Ku.b .nil Ay (oP (vM BH 2) (vM BH 3)))),`(mO (((nE g::es).length:Nat):Int)),`(["self","ways","cut_places","begin","known","way","rest","place","sign","bit"]),`(AE G7 Ar (AE DA bB aY)),`(nC t.CI (ES (KO (FC b g U kK) (1<<<(b+U.length)) (x.getD j 0==45) (decide (j+1=x.length)) (g.contains j)) r)),`(.dK (CY b (U.length+1) (λz=>if z=U.length then y else AT z))),`((x.length - (j+1),4,j+1,R2,O,0,4,2,by rw[cf];exact a1,a2,dc)),`(["measure","stretches","begin","foot","ways","cut_places","cut","stretch"]),`(l.map λx:Nat=>(x:Int)),`(Co [a0,a1,a2,p,q,r,s,u,v,z,A] [4]),`(∀c,B c->H c=none\/H c=rX C),`(["self","measure","stretches","size","stretch","behind_all","starts","later_starts","every","longs","bit"]),`(Dk rfl Ef.nd (BJ (K:=K) rfl (pv 2)) (BZ (own:=[("stretch",4,)]) (yF Qe Ly)) (λ_ _ _ _ _=>(oJ 4 Ef.nd)) (λ_ _ _ _ _=>Cw) (λ_ _ _ _ _=>(pV 4))),`(Aa (mI6 mE) ST (pW cV)),`(mF0 (hH.ends:Int) (N:Int)),`(Aa aCL O (.Al [mE (((Do m j).ends<<<bX:Nat):Int),mE ((N<<<bX:Nat):Int)])),`(Aa aPy d (.Ac (nH I.map++[mF o]++[mF O]))),`(Vf.cellsFrom 0 (m.feet.take 0)),`([("half",aAH,),("cuts",mBf Aj m Nat,),("inner",mE ((aH.inner:Nat):Int),),("doors",mF d,),("fitting",mF U,),("first",mE ((aH.first:Nat):Int),),("done",mE ((aH.done:Nat):Int),)]),`(mM (λz=>by have:=PZ z;rw[gr] at this;split at this<;>omega)),`(["texts","most","costs","text","highest"]),`(by rw[AsB];exact List.Perm.refl _),`(["measure","words","most","syllables_most","way","ways","fewest","word","count"]),`([mH mp,mH W,mX (Aq:Int),sR mX GF m.feet,none,none,mH S,none,mX (c:Int)]),`(r.Nodup->(∀k∈r,k<ws.length)->r.length<=Aq->AM (r.map λk=>(wd k).CO.A2.length)<=GF m.feet->r.length<=c),`(["word","cost","shapes","shape"]),`(Bv (λi=>if a=CT b i then 1 else 0) n),`((dx,fV.vf,sh,A7 j)),`(["self","measure","texts","most","words","text","keys","word","cost","known","key"]),`(Aa (qX bz c5 x) x (.Ag t.CM c5 (GI (c5,(yS j).vf,cn,A7 j) 0))),`(AfW (a:=(fV,A7 j,)) hmem),`(Aa aPM N (.dT (Fd U Y++[(Fv fV (A7 j),cU,)]))),`((mAe ms (r,u,)).find? s=(mAe ms (r,u+1,)).find? s),`([mF Z.p,bU,mE (k:Int)]),`(used|||HL (Ch M used)),`(EV bo br sB (Ex Z (g.take j)) (k+1)),`(((aH,S,ms,tw),F,dF,PA,SA,VA,D,mBe N)),`(if c=F\/c=D then tP F else none),`(mKx mF PyKgz.answers),`((PySem.W.emptyDict,#[],_,z,2,(λe he=>nK he aC),λ_=>rfl)),`((20,[u,N],.cons aj (.cons al .nil),(_,(T.2 _ (Auj O)).trans ao,31))),`(Bx aY T.B6.c T.Iz.h (W_ T) (a.As aZ) T.Iz.b .nil Ay (Ad bG (mU (tL dI Ar)))),`(λw hw=>MD n B r fs w (mR hw)),`(Bz cuts b r (i+1) (a+w.1.length) (Am||Ei cuts b i w.1 a)),`(aLb.any (·.1)),`(λb v e=>(mC BM (h.st b v e)).trans (h.so b v e)),`(_::KgzNeutral.P1.ints _),`(l.drop i)]
def W_42(a b c d e f:W_T):List W_M:=[`(Ab.Aa $a _ _ $b),`(Kgz1.padded $a $b),`($a (pl:Int)),`(AE G7 $a aY),`(BK N $a (L++[$b])),`($a c o hc e),`(e.J7 $a $b hb),`(AO t X $a $b n $c),`(C6 t X H o $a c),`(nV Y $a (mC $b $c)),`((nD $a $b $c) $b=some (.Ac $c)),`(IX $a st A7),`(path++[$a]),`($a List.length),`($a 0 0 m.feet),`(Am||(decide (4<=s)&&El m.cuts $a)),`(Bz m.cuts $a m.feet 0 0 m.cuts.isEmpty),`(if $a then 1 else 0),`($a->Shared->Prop),`($a "range"),`(.fields $a),`(Ah (AR q $a)),`($a X.env.scope x),`($a->$b->Prop),`(s.heap.IsTuple $a $b),`(R ($a K a) H1),`(starEach $a X.env),`(λb hb=>$a),`($a==sysModules),`(Q aS (nD $a p $b)),`(nF ($a ?_)),`(absurd (show false=true from $a) Ast),`(mDt cpos $a),`(by rw[<-$a];rfl),`(by show $a<=sizeLine;decide),`(Lc $a $b (λz=>nomatch z)),`(Lu (tk:=s1.toks) $a _ $b $c q),`(DC S $a acc $b),`(bootBuiltins $a=some (.builtin $a)),`($a mainGlobals $b),`(aR.drop $a),`(Asf (by omega:(1:Int)<=$a)),`(Ar_ (by omega:¬(1:Int)<=$a)),`(pC (mS $a) (oY (Asr $b) hp)),`(Hy $a $b $c (Bf _)),`($a (b.length:Nat)),`(oV (.bl $a)),`($a (j+1)=$a j++[$b]),`(⟨_,rfl,_,rfl,p,_,_,_,rfl,Af,$a,$b,(by show $c<1000;decide),?_⟩),`($a<st.length),`(GA T $a w l),`($a λk=>(f k:Int)),`(.Attribute $a $b apos),`(BA (by rw[ArX,ArX,$a:term];omega)),`(Mo (Asr $a)),`(vw X.E $a κ.m κ.w),`(fs.same $a),`($a (rest:Int)),`(oC (Be $a 4)),`(λc z=>z▸$a),`(LV $a f0 f1 $b g1 $c),`(nC t.CI (ES $a $b))]
def W_43(a b c d e f:W_T):List W_M:=[`(Vf.cellsFrom $a $b),`(Vf.cellsFrom 0 (m.feet.take $a)),`(D4 (Aj Z.m) Z.st r $a),`(Ci $a $b (tP $b)),`(mY $a (nC t.CB (IY SP PA F))),`(mE ((($a $b).cuts:$c):Int)),`(KW $a $b [] x (mG $c)),`(($a - $b - 1,4)),`(Ch $a T.cuts),`(El m.cuts $a),`(by rw[mK $a,$b:term]),`(Ei m.cuts b $a $b a),`(($a $b).length<=$c),`(k.depth<=n/\Ky.C2 $a<=n),`($a i t $b $c _ _ _ _ hq),`(mB (.own $a)),`(nK (Ass $a $b) (AtT _)),`(∀b u,$a b=aM ->qC b=aM),`($a h.objs.size),`($a b o e n hb hx),`(Inv X pins σ $a {s with heap:=h',toks:=t'}),`(by rw[$a:term,$b:term] at e;cases e),`(X.N[$a]? =aW),`($a pins s1 σ H1 $b n $c),`($a X.K H a xs),`(.Subscript $a $b pos),`(h.IsListIter $a $b i),`(∃m,W 0 m σ $a),`($a->$a->Hp->Prop),`(Bt X (compareOp $a) $b),`(show∃t,$a=$b $c t from r),`(by rw[ArX,$a:term];omega),`(oL $a True.intro),`(.Attribute $a f $b),`(Q aS (mY $a $b)),`(sp vs $a Q E),`(Aa (qX $a dx x) x (nC $b [])),`(mJX (mA0 o $a) $b),`(backToKw $a (keywordEach [] X.env)),`(envOfC qual scope s.heap.objs.size f $a),`($a $b xs.length),`(Slot $a name id),`(.Call (mA0 o name) $a [] $b),`(IntsAre $a ns),`($a s.heap.push),`(pushCells (mDh $a) scope.names),`(by rw[<-$a,$b:term]),`(bootBuiltins $a=some (.type $a)),`(Ah (I $a _ q (λ_ _ z=>nomatch z))),`(As_ $a (by size_fits)),`($a λo q=>k $b aC o q),`($a $b cO (λaa A outer s H vs Q E b h=>?_)),`(Ls hu $a $b $c rfl),`(AQ (v:= $a $b) rfl $c rfl),`($a $b cO (λc A outer s H vs Q E d h=>?_)),`(MN rfl T.K0 $a),`(AZ (j:=0) $a),`(Au (k $a eQ)),`($a (K:=K) rfl $b),`(Jy t H p m $a),`(x.getD $a 0),`(FJ K (Bo $a) $b)]
def W_44(a b c d e f:W_T):List W_M:=[`(Bc $a (EO a Am)),`(.Al [mO $a,$b $c]),`(II t $a mp m),`(A6 (i:=8) $a rfl cX $b),`(oM (rY (nP $a $b))),`((0,31,Az $a)),`($a λn=>((n:Nat):Int)),`(r.length<=$a),`($a (a:Int) (b:Int)),`(rN (λ_ _=>True) $a),`(AE NO $a (Db M8 $b)),`($a $b $c (BB x) false),`(IP T $a w p),`(Kgz1.splitOn $a $b),`(s.heap.objs.size+$a),`(by rw[ArX,$a:term];exact $b),`(⟨false,$a,1000,1000⟩),`(.Ag t.AV X.dF (BI X $a)),`(Cj (AR e $a)),`($a<2 ^ 1000),`(mAh H' o' $a),`(mCb (j:Nat) nE $a),`($a (λe=>by have:=$b;rw[e,$c:term] at this;cases this)),`(∀c,$a c=none->$b c=none),`($a _ _ $b (λe=>by cases e)),`(Aa $a X.F (.Ag t.AV X.dF (BI X $b))),`(Fr.refl.same $a),`(⟨$a,_,rfl,mN $b,?_⟩),`((Aa $a $b $c) $b=some $c),`(yN pW (D0 b $a)),`(mGl (mC N $a)),`(Bd i (xL $a)),`(mK (mCp $a hj)),`(.Ac ((ns.take $a).map V.int)),`(Ew $a st A7 k),`(ne _ _ $a (λ_ e=>by cases e)),`(AO t Z.X $a $b n $c),`(by have:=$a $b;omega),`(Jc.contains $a),`(cellsFrom $a r),`(if $a then aU.length+1 else 0),`($a m.feet[$b] (Asw $c)),`(AsP (Ass (Asu $a) $b)),`(X.base.get? $a),`($a ->Hp->Prop),`(⟨$a $b,H,n.BW _,bY,$c⟩),`($a≠"__name__"),`(behindInMarks op $a=false),`(h pins s σ H $a j hw),`(.BoolOp $a $b pos),`(X.env.scope.names.lookup $a),`(⟨$a,e,λv z=>by rw[$b:term] at z;cases z⟩),`(Kc (s:={s with heap:=h'}) e c $a aZ $b),`(λb o hb e=>(nN $a).trans e),`(AsO $a hs rfl),`($a xs.length),`(∀σ H,Pv $a σ H->tW H),`((λi m σ H=>m=$a - i/\i<=$a/\Pv i σ H,⟨$a,by simp,aT,h0⟩,5)),`(rI $a λi j=> mE $b),`(DO λi j=> .bl $a),`(⟨_,_,rfl,$a,$b⟩),`(PySem.W.isFn K (mF $a))]
def W_45(a b c d e f:W_T):List W_M:=[`(PySem.W.keepIn $a (mF $b)),`(mDa $a f=true),`(MA CX P w K mg base N qual scope f $a A outer s H E),`(V->oK $a->oK $a->Hp->VK->Prop),`($a $b its.toArray),`($a s.heap.objs.size),`(cellsFrom $a names acc),`($a {cls:= .type "dict",data:= .dict #[]}),`(nF (AtL $a $b λ_ _ h'=>h')),`(∃m,W 0 m (pK $a $b)),`(DecidableEq $a),`($a X.prog X.w),`(λb o hb e=>$a b o $b e),`(rC (if(rQ $a==Value.none)=true then _ else _) $b),`(oA T (.Al $a)),`(⟨_,$a,λv q=>nomatch q⟩),`($a (t':=s1.toks) hk),`(s1.heap.objs.size<=$a),`(Aa H s.heap.objs.size (.Al $a)),`(backTo $a (mAA $b)),`(PySem.W.nsIn K $a $b),`($a+((mk $b).length:Nat)),`(vL aK (nP $a $b)),`(Dz (K:=K) rfl As3 AsH AsK E_ aX $a),`(F4 (sC $a) $b (EZ Ar) Gu),`(Aa (pK $a $b) d (.Ac [])),`(⟨$a,_,rfl,nQ $b,rfl,_,_,rfl,_,_,rfl,rfl,rfl,$c ?_⟩),`($a (Kgz1.sounds 0 $b)),`($a $b cO (λaa A outer s H vs Q E c h=>?_)),`((qL $a,eI)),`(Ab.free (nB $a $b) $c),`(AE Lo (rY Ar) $a),`(F4 (sC IG) $a Gu (EZ $b)),`(FJ K (Bo $a) "weights"),`(mG (_,mN $a,2)),`($a - 1=(($b - 1:Nat):Int)),`(N none ?_ .Ax $a $b rfl),`(Kgz1.say (-$a)),`(⟨$a,by omega⟩),`(mN (z $a $b $c rfl rfl)),`(⟨$a,$b,$c,rfl,Af,rfl,?_⟩),`(Kgz1.answer $a),`(∃p,P.testBit p=true/\C8 T $a p),`(J5 $a later m),`(Fs st (j::$a)),`(Ec b $a it a i),`((mDV Ob).get? $a=some _),`($a s.heap b1 b a d),`($a it d $b es.size ep),`(Made t H $a Q),`(Ad Dw (Ad $a $b)),`(nC t.CH (Ft $a $b so 0)),`(Dz (K:=K) rfl As3 AsH AsK E_ aY $a),`($a t.BD (Dm κ a AA g $b c)),`(L2.Aa H $a u),`(pl.testBit $a),`((Aa $a $b $c) $b=some $c),`(vw X.E X.E.Aq $a $b),`(∀p,$a p=true->∃a,($b,a,)∈fl),`(CQ X.E.T κ.w (1<<<κ.p) ((AH X.E.S $a).wd.sh $b)),`(EQ lO.Bl (sE $a 0) (sE $a 1)),`(Aa (Aa (mCz H (n+1)) s (.Ac [])) $a $b)]
def W_46(a b c d e f:W_T):List W_M:=[`(mD9 l (.Ac (nH ns.map++[mF $a]))),`(AO t $a H' o' n' $b),`(if $a then $b|||Dg else $b),`(HQ (rc g $a)),`(mY (Aa Y r aPo) $a),`((mY $a $b) p=some $b),`(by unfold CT;rw[Asv,mK $a];rfl),`(mB (mGv i $a)),`(fh _ _ $a (fk e6.GJ $a (λ_ z=>by cases z))),`(C6 t Z.X $a o kvs $b),`(mP $a $b (by show$c≠"stock";decide)),`(List.zipWith (·+·) $a $b),`(∀x∈l,x<=$a),`(λr d=>if $a&&&$b≠0 then r|||$c else r),`(Ct $a (c.way.drop $b) $c),`(Cg (GN l $a) (l.drop $a)),`($a aA hx hy hq),`(.fields #[.int lo t,.int hi $a,.int 1 v]),`($a<h.objs.size),`(∀b,H b=none->b≠$a),`($a $b=some .cell\/$a $b=some .free),`(env.cells.lookup $a),`(s.heap.objs.size<=$a),`(AsV j.ok.Jj $a),`(Cm X.prog X.w H' $a),`(Un $a $b H H' s.heap $c),`(C9 X.prog X.w (oA $a $b) h' $a $b),`(.Constant $a j pos),`(bootBuiltins $a),`(mCX $a (b::rest)),`(mCX $a (a::b::rest)),`(Gr X pins $a $b),`($a (t':=s.toks) $b f0 f1 G f4 I),`((2,mEG $a (mDm $b hb))),`(PI X tg iter $a),`(.int $a s.toks),`($a (Cv n q (AtB not $b))),`(PySem.W.plainGet K C $a),`(getMethod $a $b pl),`(show u=rQ $a from $b),`($a $b s.heap.objs.size $c),`(nK (show $a∈([]:$b) from $c) aC),`(some ⟨$a,od,.func $b,$c⟩),`(PySem.W.codeIn K $a qual),`(ArZ (m:=Builtin.Tuple.tupleExact _) (As_ $a B)),`($a $b $b hi - $a $b 0 lo),`($a<=xs.length),`(($a (HT.AK $b 0 lo)).take (mET HT.AK $b)),`(by rw[$a:term];simpa using $b),`(by rw[As2,<-$a];exact $b),`(s.heap.update $a $b),`(Ae $a $b p $c\/A8 $a $b p $c),`($a (E6 x) $b aPZ (.bl _,H,j,2,5)),`(its.toArray.any (E6 $a)),`(typeIs_int $a $b t),`(Auc $a (rE e) $b $c $d (oS e)),`(bs.getD $a false),`($a==NameKind.free&&sc.kind== .function&&vH $b==some .cell),`(pure (ForInStep.yield $a)),`(by have:=Jo $a $b $c;omega),`(AuY AtX dd.typeIs Au5 $a $b $c),`(nF (Avb $a hd aC ?_))]
def W_47(a b c d e f:W_T):List W_M:=[`(Aux (T:="StopIteration") (b:=true) $a AvK $b),`(⟨$a,$b,λv q=>by rw[$c:term] at q;cases q⟩),`(IsZip $a z TI TO .none),`(PySem.W.fnOf x qual (Jq st) (Im st) (A0 st) .none kV doc pm an $a ct),`($a "aeiouyAEIOUY"),`(Txt.isupper $a),`($a λn=>$b λc=>(c:Int)==n),`(HT.AK aR.length 0 $a),`(Dx $a none (mB $b)),`(⟨_,rfl,$a,_,rfl,$b $c,rfl,_,rfl,?_⟩),`((0,_,mDI $a,5)),`(by rw[$a:term,ArY,$b:term];rfl),`(Bh (Sa (K:=K) rfl rfl) rfl T.RY RZ $a),`(λj v _=>∃x,$a =aW /\v= .bl $b),`($a (A:=X.A.in1) (m.ok.hd hc) it x t),`(.Al [.num $a,.num $b]),`(OH rfl T.L_ (mU $a)),`(Bh (K5 (K:=K) rfl rfl) rfl T.K3 K4 $a),`(Ab $a H'),`(Bh $a rfl T.B7 B8 $b),`(⟨$a,_,rfl,nQ $b,rfl,_,_,rfl,_,_,rfl,rfl,?_⟩),`($a m.cuts b $b i a Am),`(by unfold HJ;rw[hw,$a:term]),`(mDP (.scan $a $b l.length l)),`(mDP (.way $a $b l.length l $c)),`($a (($b a b:Nat):Int)),`(T.BP.take $a),`(((($a&&&$b :Nat):Int)) != 0),`((Eb $a $a).mpr rfl),`(before T $a $b true),`(CQ T w (1<<<p) $a),`(S4 S (show $a+1<=$b from $c)),`(FY N (n+1) r $a),`($a<=r.length\/wF $b=true),`($a "tuple_iterator"),`(Atu (name:=zJ "__next__") $a $b $c),`(rC (mIr it $a) s),`(rC ($a $b >>= _) s),`(IsPair s.heap $a $b $c),`(rC (mIr z $a) _),`(nF (Ats hz rfl (x:= mF $a) rfl $b)),`(rC (mMG mF $a >>= _) _),`(CS K b1 $a a xs),`(CS K c $a b ys),`($a $b cO (λa A outer s H vs Q E c h=>?_)),`(⟨$a,rfl,(oX $b),?_⟩),`((182,v.W|||$a,Hd v.r $b,Hd v.c $c)),`(.Bw od (.dK $a)),`(D6 $a κ (i::q)),`(by rw[$a $b];exact e),`(CS.of (mC $a f)),`(mGl (nV $a g ap)),`(.Al [mE $a,mE $b]),`(⟨[],$a,aT,by simp⟩),`(nA $a (mC m.st $b)),`(by have:=$a;rw[<-$b,$c:term] at this;cases this),`($a (u:= .Ac []) $b),`(∃q,$a =mB q/\y= .ref q),`(mK (show i<[nE $a,nE $b].length from $c)),`(mQ $a (Ase $b).symm $c),`(C.fs.un _ (BL $a $b)),`(λp hp=>(PU ok aA $a hp).1)]
def W_48(a b c d e f:W_T):List W_M:=[`(oA $a (nC t.BD (Dm κ j AA (mF ga) s y))),`(∀c u,H c=aM ->o c=none->$a c=some u),`(J9 t $a o X.E (Rg kvs) n κ a dx sta AA g fa la),`(Aa $a X.D (.dT $b)),`(A4 P w K mg base A9 $a t.FQ t.N5 ["self","knot","rest","used","room"] (PV t r)),`(Dc T.BF.k (KJ T) (c.As aA) rfl T.BF.m T.G1.b .nil Ay $a),`(A6 (i:=9) $a rfl cX $b),`(S_ t $a p P SA),`(QF $a $b (sC SK) $c FX OM),`(some (.Ac (yN iv $a))),`(by show 1*$a<=sizeLine;decide),`(CS.of (b:=false) $a),`($a _ _ $b (λ_ _ z=>by cases z)),`(⟨_,rfl,p,_,dx,_,_,rfl,$a,T.De.c,$b,rfl,_,rfl,_,_,rfl,rfl,trivial,_,_,$a,(qG 7),?_⟩),`(mX ((1<<<$a :Nat):Int)),`(Gb t p dx r B b g H $a $b kK),`(Ah (λe=>by rw[e,$a:term] at h;cases h)),`(ah.fr aD $a aj),`(nC t.A_ [("half",aAH,),("cuts",mBf Aj $a Nat,)]),`($a λc e=> mG e),`(mY ($a e9 Y (.dK [])) (.Ag t.A_ dx aGY)),`(.Ag t.CM (R $a).dx (GI (R $a) $b)),`(EE t H g st A7 j $a $b R),`(nC t.Cp [("most",mE (ms:$a),),("room",mE 256,)]),`(mP ne $a (λ_ z=>by cases z)),`(λi=>(uZ $a).count i),`($a<Z.st.length),`(mC $a ok.Di.at_),`(GL t Z H o b r $a),`($a Z.st.length Z.ms $b),`((Bs s).2.map λx=>((x.1,x.2.map (λc=>(c,$a,)),$a,):Rw)),`(∀x∈l,$a x=false),`(($a>>>T.AW)&&&T.cuts),`(∃y,$a y=true/\$b y=true),`($a (i+1) (b+cZ.length) r),`(s.testBit q=true↔b<=q/\∃c,(cellsFrom i r)[q - b]? =mB c/\c.foot=i+k/\$a c=true),`((DI 0 0 m.feet).zip (mMD An $a).tail),`(O4 m b c.foot c.way $a $b),`(mFv Bz (m.feet.drop $a)),`($a aJM (Am||mBl i w)),`(Bz m.cuts b aAr (i+1) $a $b),`($a+w.length<=b.length),`(Q $a {s with toks:=s.toks+$b}),`(wpAny_pyHash_int $a),`(∀b u,b≠e->$a b=aM ->qC b=aM),`(Un fs ex $a H1 h h1),`(Ah (hm $a _ q λz=>z)),`(∀x c,sW x=bT ->c≠$a),`(λb o _ _ hc e _=>k b o $a e),`(λb o _ _ hc e _=>(o.slots,k b o $a e)),`(storeName X.env x $a),`(∀whole,isTrue $a X.env whole=(do let v<-whole;standAt $b;holding [v] (truthy v))),`(swapsWith $a (mB $b) pos.line X.env=pure false),`(.AugAssign $a op $b pos),`(F3 P w K tg $a [it] it $b),`((2,λys hy=>by rw[$a hy hq];exact hx)),`(show mDe $a a from p),`($a=s1.heap.objs.size),`(s.heap.push {cls:= oH "range",data:= mEr $a}),`((H,fM,by rw[$a r];exact q)),`(Lj s.heap $a dx C mA),`(if $a=f then($a,v,)::r else($a,$b,)::Cn f v r)]
def W_49(a b c d e f:W_T):List W_M:=[`(Lm P w K mg base A outer s $a),`(AtW (QB $a hg hm ?_ n)),`(cellsFrom dD scope.names $a),`(Builtin.Slice.slicePlaces $a $b 1),`(s.heap.IsSliceOf sl $a $b .none),`(Ats $a $b (x:= .none) rfl cN),`(A5 (oT $a z) λv s1 (x,H1,B,D,G)=>?_),`($a pins s2 σ H2 _ $b L),`(seqIndex_neg aA $a),`(operate [$a,$b] (getItem $a $b)),`($a $b=some {cls:= fH,data:= $c}),`(λxs H Q=>∃p ys,xs=[aS]/\(mEZ $a H ys)/\Q (mE ys.length) H),`($a=s.heap.objs.size),`(∀(s:Shared)(H:Hp)(C:Addr)(cl:fO)(B:aQ),$a (mJt s H B) $b $c),`($a s3 (pK H2 D) s3.heap.objs.size (mJs (s3.heap.objs.size+1)) $b),`(∀(s:Shared)(H:Hp)(C:Addr)(cl:fO)(z:aQ),$a (mJt s H z) $b $c),`(∀(s:Shared)(H:Hp)(C:Addr)(cl:fO)(J:aQ),$a (mJt s H J) $b $c),`($a λB=>if B.1=k then(B.1,$b,) else B),`(λj H'=>H' d=qW od u/\$a j (Aa H' d u)),`($a (t':=s1.toks) λb o e=>oD e),`(st.2.at λo e=>$a $b aC o e),`(Array.getElem?_eq_none $a),`(pQ wpAny_fieldsOf $a hd),`((_,($a _ (Auj $b)).trans $c,31)),`(λb o hb q=>$a b o hb q),`(hk c o $a $a $a $a $b),`(mAA [$a,$b]=(false,pE $a,)::starEach [$b] X.env),`(At x y x.length $a),`(pre iW (eX.drop $a)),`(tl (strSub $a $b x.length)),`(occurrences $a y 0 x.length (x.length+1)),`(Auc Avn (AuH _ _ _) Awa (AvQ _ _) $a ?_),`(Builtin.Str.strSliceIndices $a $b 1 $c),`(PySem.StrLaws.sliceText z $a $b),`($a "abcdefghijklmnopqrstuvwxyzAEIOUY"),`(λn=>$a λc=>(c:Int)==n),`(⟨_,rfl,$a,_,rfl,mG $b,rfl,_,rfl,Au ?_⟩),`(⟨_,rfl,a,_,_,_,rfl,rfl,$a,rfl,$b,_,rfl,mI ($c T),rfl,by decide+kernel,_,rfl,?_⟩),`(Dz (K:=K) rfl As3 AsH AsK E_ $a (mU $b)),`($a $b (λe=>by subst e;rw[$c:term] at hp;cases hp)),`(Dx (nH $a) (mB 1) none=$b V.ref),`((19,nA $a $b,nA $a $c,mG jY)),`(Ff (QO DB DB Ar $a $b)),`(λ_ _ _ _ _=>Rk $a),`(mY (qX $a dx p) (nC $b [])),`(mP $a eQ (_,mK $b,2)),`(tL (mB1 mF t.FT T.Po) $a),`(∀b o,b≠c->b≠d->H1 b=aI ->$a b=aI),`((u.take $a).foldl CZ ([],[],)),`((19,s2.seq $a,by rw[ArY,mK $b];rfl)),`((_,s2.seq $a,34)),`((0,31,$a $b)),`(∃pc,$a =mB pc/\y= .ref pc),`(Bx aK T.Ca.c T.I0.h (VX T) bR T.I0.b .nil Ay $a),`(NW m $a 0 0 m.cuts.isEmpty),`(A6 (i:=7) $a rfl cX $b),`(Aa H1 $a (mCb (i:Nat) nE $b)),`(Bb (VI T) eG rfl T.Gy.m T.Gy.F.kp T.Gy.b .nil Ay $a),`(Bb (Sl T) eG rfl T.Fk.m T.Fk.F.kp T.Fk.b .nil Ay $a),`(Bh (QP rfl) rfl T.RX R_ $a),`(Ap (K:=K) rfl $a rfl),`(match Kgz1.measured $a $b with|none=>_|some x=>_)]
def W_50(a b c d e f:W_T):List W_M:=[`(GY $a T.Eo.c T.IA.h (Wg T) $b T.IA.b .nil Ay),`(by rw[$a:term,$b:term] at U;cases U),`(KA (Kgz2.answer $a)),`(KgzNeutral.step () (enc $a)),`(.set (λk=>(Mi $a).any (·==k)) (Mi $a).length),`((.int _,H,$a _,bY,q)),`(Ar_ (show¬$a<=Builtin.bitNot $b by unfold Builtin.bitNot;omega)),`(KF T ($a aBp) sh.A2.dropLast),`(Bu S ($a+1)=dL+cG.n),`(FY N ($a - x.1.length) x.1 x.2),`($a cuts b $b i a Am),`(s.heap.IsTupleIter it $a $b),`(∀o,nZ $a=aI ->qC $a=aI),`(∀c o,c≠z->$a c=aI ->$b c=some o),`(mF ($a $b b1 a b c).objs.size),`(mMS $a #[bU,.int 0 0]),`((mDV $a).objs.size=s.heap.objs.size+$b),`(field (mF $a) $b >>= _),`(size_of_entries $a),`(At1 (Ass $a (As5 aA $b))),`(vF $a=$a i++[$b]),`(Ad $a (mU $a)),`($a t.CH (Ft $b fo so W)),`(by rw[<-e,$a:term] at B;cases B),`(∃x,$a =aW /\y= .ref x),`($a c u hc (mC s0 q)),`($a (B:=λ_=>False) $b (λz=>z) jF aD),`(⟨$a,by rw[Ah $b];exact $c⟩),`(mK (show $a<$b by omega)),`(mK (show $a<[nE $b,nE $c].length from hj)),`(BX [nE $a,nE $b] (m:Int)),`(⟨$a,_,rfl,$b,_,_,rfl,bA,_,_,rfl,bA,rfl⟩),`(∀c u,$a c=aM ->c≠$b->H' c=aM),`(∀q∈fl,Rg $a q.1 q.2),`($a ((BE l S.Bk:Nat):Int)),`(mD6 (sE $a $b).2.testBit ⟨$b,(sE $a $b).1,p⟩),`(JA ok b (Oo $a b hb)),`(NX X.E.T κ.w (1<<<κ.p) _ kb.w $a),`(JB t X $a o kvs κ j g),`(⟨EQ c s0 s1,$a,dx,L,so,0,[],(c,fl,[]),s0,s1⟩),`((ok.BQ j ax).sh $a),`(Ah (λz=>by rw[z,$a:term] at e;cases e)),`(∀c u,H c=aM ->c≠X.F->c≠$a->$b c=some u),`($a (λe=>by have:=$b;rw[<-e,$c:term] at this;cases this)),`(Ans X.E $a used u rest room v),`(⟨_,rfl,$a,_,$b,_,_,rfl,$c,T.BF.c,T.NA,rfl,_,rfl,?_⟩),`(Fu X.E ($a&&&mD5 fW $b)),`(.Ac (pG (4:$a).toNat [mIW mO $b $a]).flatten),`($a ((before $b b.done 2 true:Nat):$c)),`(CU (HA K) (CU (HA K) (Bo 2) (tC bZ)) $a),`(M9 K (Bo 0) (Bo 1) aF9 $a),`(NM $a hp (λb o h e=>$b b o h e)),`($a (by rw[$b:term,ArX,As4];omega)),`(⟨_,rfl,pY $a,_,rfl,$b,_,_,rfl,rfl,$a,BA jY,?_⟩),`($a m.feet 0 0 j _ (GH $b)),`(λj H1=>fP /\H1 $a=oC $b),`(fr _ _ $a (mCy ne $a)),`(Bx aK T.B6.c T.Ix.h (Xj T) bR T.Ix.b .nil Ay $a),`(Aa bf bj (.Ac [sD $a aU.length])),`(mX ((aU.length:Nat):$a)),`($a ge (EU (cE+i)) (sD $b (cE+AT i))),`(iv ((pB $a).map λ_=>0))]
def W_51(a b c d e f:W_T):List W_M:=[`($a λ(x:Nat)=> .num (x:Int)),`(if $a=CT $b $c then 1 else 0),`(Bc (Fd $a $b) (Fv a.1 a.2)),`(aAv.map (Ew $a st A7)),`(by rw[$a:term,$b:term] at hx;cases hx),`(∀(i:Nat)(q:Addr),ws[i]? =mB q->Er t $a q (yS i)),`(Gc N ms $a<Gc N ms (L++[(r,u,)])),`($a++aG9++[(r++[u],0,)]),`(Kgz2.scansRow (E2 $a) $b $c),`(EV $a used sa (Ex Z r) $b),`(GK t Z H b r $a g i sa a0 a1 used),`(PK (Aj Z.m) Z.st ok.Fx r.length $a m rfl $b),`(Ey t Z $a o kvs L bs path),`(Ey t Z H o kvs L (bs++[b]) $a),`(∀c u,$a c=aM ->(∀d f,u≠ .Ag t.Dd d f)->c≠$b),`(by rw[z,$a:term] at e;exact mC hu (Ase e).symm),`([("stock",$a SP,),("places",$a PA,)]),`(Kgz2.answer (.next d.length $a gN st.length Aq f f.length)),`(cellsFrom $a scope.names (DZ X.env.cells scope.names [])),`(X.E7 $a $b scope (compEnvC scope cl C X.env) $c),`(List.foldl (λn c=>10*n+(c - 48)) 0 $a),`($a%4 != (if c.way[c.place]=45 then 0 else 1)),`(List.zipWith (λg r=>if g then 3 else Ez r) $a $b),`(Classical.propDecidable (a=$a)),`(wpAny _ _ (if$a=true then _ else _) Q E _),`(mFL Builtin.Tuple.tupleItemsOf $a),`(Asg ⟨D,hs++[k.hash w],d+k.draws,I.2,$a,by simp[hb],by rw[B];simp[Ky.GQ],by rw[C];simp[Ky.JT,Nat.add_assoc],by simp[Nat.add_assoc]⟩),`(pQ Aux $a isSubtype_tuple_tuple),`(by subst z;rw[$a:term] at j;exact j),`($a c o (j.Lh x c e) hc M L aER),`(λb o _ hb _ e n=>$a b o e n hb aC),`($a∈X.ex\/X.EK.heap.objs.size<=$a),`(sG ($a st X.env) (SP X pins D) s),`(Calls.Name_function_global j.ok.kind hg $a hd),`(A5 $a λv s1 (x,H1,n,z,B)=>?_),`(∃its:aV,AB xs its/\$a s.heap a its.toArray/\xs.length<=sizeLine),`(A5 aBR λv s1 (x,H1,n,q,z)=>$a),`(["enumerate","zip","dict_itemiterator","dict_reverseitemiterator","odict_iterator","itertools.zip_longest","itertools.pairwise"].contains $a=false),`((λi _=>i<n,λi H x H'=>H'=H/\x= mE $a,λi _=>n<=i)),`(λi h=>IsRangeIter h it (lo+(i:Nat)*$a) ((n:Int) - (i:Nat)) $a),`(Walks.range (prog:=X.prog) (w:=X.w) aDf it lo $a n),`(Kc (s:={s with heap:=h',toks:=tk}) (n:="range_iterator") J rfl rfl aZ $a),`((109,mHt z.CF,$a $b _,iS,fK,q)),`(wpAny_pyIter_range (IsRange.new ..) $a ?_),`(A5 (xW $a $b) λus s1 (vs,H1,B,D,G)=>?_),`(mI ((xs,xs[$a],q,by simp[G]),Pv ($a+1),λz H' I=>(xs.length - ($a+1),4,2,G,I),λx H' y=>?_)),`(A.under (.builtin "type.__call__" ($a C::$b,kw))),`($a (t':=s1.toks) (λb u e=>oD e) aD ?_),`(AvP (h₀:=X.base) B.ok.mod.O5 $a (A5 (xW H B) λus s1 (vs,H1,D,r,q)=>(oS D.E3)) he z),`(.Call $a $b [] pos),`(PySem.W.methodCall_KW (pl:=pl) $a $b),`($a kindOf ((p,w,)::P.zip vs) m p),`($a (i:=i) (AtY.mp nd).2 (mR h1) (mR h2) hk),`($a (mBN cd).kindOf aDm λ_=>none),`($a $b 0 lo=0/\$a $b $b hi=$b),`(($a+(its.toArray.size:Int)).toNat=j),`(⟨mE ys.length,$a,fM,(s.toks+1,by rw[As2,hlen]),q⟩),`(λxs H Q=>∃p ys,xs=[aS]/\((mMU $a H)\/(A8 $a H p ys/\Q aS H))),`((.ref _,_,j.YZ (t':=s.toks) $a $b,2,q _ j.BC)),`(List.foldl (λO Y=>O++Y) #[] (mDe pG $a)),`(.ListComp elt [⟨$a,iter,ifs,0⟩] scope pos),`(∀q s',sZ $a s'->AJ $b q->Q q s')]
def W_52(a b c d e f:W_T):List W_M:=[`(wpAny_Dict_empty (eO,_,mMV $a $b,2,h _ aA2)),`((ML hu,k,xs,Il j.Av $a,dd,h _ _ fM ?_)),`(.Call (mA0 o "get") $a [] cpos),`(Au9 m.base m.AA m.line Auo AtX PySem.F.type_dict_get $a),`((o,71,k _ o (λz=>(hf _ z).2.1 rfl) $a,r)),`(AsO (A5 (xW $a B) λus s1 (vs,H1,D,G,I)=>?_) hs $b),`(B.DN (t':=s.toks) $a f0 f1 J f4 L),`(mLx $a #[mF d,.int 0 0,.int es.size 0,.int ep 0]),`(Inv X pins σ aIx {s with heap:=$a,toks:=$b+1}),`((_,x,2,$a aD,2,λys hy=>by rw[$b hy hq];exact hx)),`(xs.length<=$a\/ys.length<=$a),`(Inv X pins σ (mDs [$a,y]) {s with heap:=$b}),`(λc o hb q=>($a c $b).trans (mHz $b q)),`(hk _ _ D.TIz D.TITO D.TIi1 D.TIi2 $a),`(PySem.W.ktu_apart s1.heap.objs.size $a $b $c $d),`(Builtin.Str.occurrences $a $b 0 a.length (a.length+1)),`(UR (l:=[(a,t,)]) (ys:=Txt.split a b) (k:=s.toks) j $a z h),`(⟨.str _,$a,j.BW k,(t',2),h⟩),`(λx xs H Q=>∃a b,x= nO a/\xs=[nO b]/\$a ($b a b)),`(min (if $a<0 then $a+$b else $a) $b),`(∀H',$a H'->∃o,o<m/\W ($b+1) o H'),`(∀(s:Shared)(u:Value),BindsTo s fd ([u],[]) [($a,u,)]),`($a aCe (WData.list (($b ns).map WData.int))),`(λv H'=>∃D,v= $a D/\H' D=nU (($b ns).map V.int)),`(PySem.W.fnOf x x (Jq st) (Im st) (A0 st) .none g doc pm an $a ct),`(⟨_,rfl,$a,ys,rfl,uB hy,rfl,$b,_,rfl,?_⟩),`(⟨_,rfl,_,rfl,a,_,_,_,rfl,rfl,e,$a,_,rfl,(K7 $b).1,by rw[BT];have:=K7 $b;omega,_,rfl,?_⟩),`(Au ⟨_,rfl,_,rfl,_,rfl,$a,_,rfl,$b,gY⟩),`(⟨_,rfl,$a,_,rfl,mG $b,rfl,_,rfl,Az cF⟩),`(Bb (Adh T) bR rfl T.Io.m T.Io.F.kp T.Io.b .nil Ay $a),`(F8 (K:=K) (n:=2) rfl rfl $a),`(by subst e;rw[$a:term] at hq;cases hq),`(Dc T.DQ.k (Adi T) eG rfl T.DQ.m T.LB.b .nil Ay $a),`(nC t.IC (Cn "vowel_first" (mO (vf:$a)) [])),`($a (72,g,81,aZ,rest $b (by simp[GP,ax]) _ rfl)),`((parts.take $a).filter λp=> !p.isEmpty),`(by rw[<-$a,Af,$b:term];simp only[iv,List.map_append];rfl),`((49,nA $a $b,nA $a $c,173,173)),`(Bb (Sf T) bR rfl T.Fj.m T.Fj.F.kp T.Fj.b .nil Ay $a),`(Dz (K:=K) rfl As3 Au2 AuZ Rh aX $a),`([mB dA,mH $a,mH d,v,none,none,none,none]),`(OY F.slot_str_count F.type_str_count ZE aK (nP $a $b)),`(⟨_,rfl,_,rfl,$a,_,_,rfl,rfl,_,rfl,?_⟩),`(mW (by omega:((b.length:Nat):Int)<=$a)),`(mT (by omega:¬((b.length:Nat):$a)<=$b)),`(oO [mE (c.1:$a),mE (c.2:$a)]),`(Bb (Ad4 T) eG rfl T.Iq.m T.Iq.F.kp T.Iq.b .nil Ay $a),`(Dz (K:=K) rfl As3 AvF F.type_list_index (sC AcV) $a (mU gL)),`(∀v∈xs,v= .Ax\/∃a c,v= aJ /\A8 $a H a c),`(m.OV (ch:=[e,it]) $a hf aD new),`(m.DN (t':=s.toks) $a f0 f1 af f4 ag),`((19,nA s3 (pS $a),by rw[ArY,mK $b];rfl)),`(Bb (AdQ T) eG rfl T.padded.m T.padded.F.kp T.padded.b .nil Ay $a),`((92,λD B=>k D _ (pC $a B) ($b B) Af)),`(AL (by show 1+_<=_;rw[ArX,Wc $a _ $b,Asi,AuB];omega)),`(Bb (AdR T) eG rfl T.IB.m T.IB.F.kp T.IB.b .nil Ay $a),`(Dc T.Ca.k (AdM T) eG rfl T.Ca.m T.LP.b .nil Ay $a),`(Bb (VW T) $a rfl T.Gz.m T.Gz.F.kp T.Gz.b .nil Ay dX),`(GY $a T.Eo.c T.Kz.h (AdT T) $b T.Kz.b .nil Ay),`(PyFlat.played KgzNeutral.step $a (cs.map enc)),`(nG Au (bad (by unfold G6;rw[mT (λq=>$a $b),At5]))),`(PyProof.Rows.step_dedup acc $a)]
def W_53(a b c d e f:W_T):List W_M:=[`(h pins s σ H _ _ v u Q c d i $a),`(∀(j:Nat)(pc:Addr),$a =mB pc->∃dd,T.BP[j]? =mB dd/\H pc=some (mF0 (dd.1:Int) (dd.2:Int))),`(some (.int ((aBm.foldl $a $b :Nat):Int))),`((16,pc,36,nQ $a,qF $b,13,0,5)),`(Au (16,pc,36,nQ $a,qF $b,13,mH pc,2,5)),`(G9 $a (later 1) (G9 $a (later 0) st a.DF) a.CO),`(aAJ.foldl (λr l=>r|||mAY st.2) $a),`(if w=4 then B else mFD B (BB (BE w $a))),`(W7 T m w _ a q hw (c a ha) $a),`($a i=if i<x+1 then$b i else(b/2 ^ (x+1)).testBit (i - (x+1))),`(nF (Ats $a hd (x:= .int i 0) rfl ?_)),`(ArZ (m:=firstArgMember _ _) (wpAny_of_eq (a:=Value.none) $a ?_)),`(AuC _ $a (Obj.isFreed_of_fields (Au_ hd _))),`(ArZ (AuN (mFJ $a Av3 (Atf Av3 $a F.entry_zip_next ?_ (F.args_zip_next_1 _))))),`(∀c o,c≠z->c≠a->c≠TO->oB c=aI ->$a c=some o),`($a _ o D.i2z D.i12.symm D.TOi2.symm $b),`(g2.at λo e=>$a _ o D.l2z D.l2i1 D.l2TO e),`((s3.2 z D.TOz.symm).trans ((s2.2 z D.i1z.symm).trans $a)),`(∀c o,c≠z->c≠TO->c≠a->c≠d->oB c=aI ->$a c=aI),`(by subst x;rw[$a:term] at B;cases B;simp at C),`(s.heap.update it (Obj.mapFields (·.setIfInBounds 1 (rawInt ($a+1))))),`(Avr (s:={s with heap:=sO mLu}) st.typeIs $a),`(n.DN (t':=s.toks) $a f0 f1 u f4 x),`(Q eO {s with heap:=s.heap.push {cls:= oH $a,data:= .fields $b}}),`(j v0 (pJ l L) $a _ (f.BW _) G),`(Builtin.bitAnd $a (-$a)),`((109,mHt j.CF,$a $b _,iS,m,q)),`(Bb (WV T) eH rfl T.G0.m T.G0.F.kp T.G0.b .nil Ay $a),`(∃bt,(Fb $a)[j]? =mB bt/\y= .int ((bt:Nat):Int)),`([$a,.bl v.fin,mE (v.W:Int),mE v.r,mE v.c]),`(Ad ($a $b) (mU ($a $c))),`(Dc T.BF.k (KJ T) eG rfl T.BF.m T.G1.b .nil Ay $a),`((by rw[ArX];exact $a,19,by rw[e];exact mN $b,mMY $c i)),`(Au ⟨_,rfl,$a,_,r,_,_,rfl,u,T.BF.c,$b,rfl,_,rfl,_,_,rfl,rfl,_,rfl,?_⟩),`(∀c u,c≠$a->$b c=aM ->(aGr) c=some u),`(⟨_,rfl,_,rfl,$a,_,az,_,_,rfl,a0,T.BF.c,$b,rfl,_,_,rfl,rfl,_,rfl,?_⟩),`(⟨v,(a1.ev $a a2).1,(a1.ev $a a2).2,$b⟩),`(mAh $a aD3 $b/\C6 t X $a aD3 $b c/\Gw X.F o H $b aD3 $a $b),`((λb v e _=>$a b v e,BM,λb v e=>(v,$a b v e))),`(((mM0 $a),(mM1 $b),ev _,λ_ _ r=>r,λ_ _ r=> mG r)),`($a<=j->∃r,aJ0 /\done[$b]? =mH r/\$c H1),`(Cz $a r (qV 0 a c).1 (qV 0 a c).2),`(Cz $a r (qV 1 d P1).1 (qV 1 d P1).2),`(J6 X.E.T (IR X.E) (JA ok) $a κ.m κ.w κ.p kb.m kb.w),`(∀p,$a p=true->(mD5 $b $c).testBit p=true),`(Ao (qN Oq.nd (mMZ (mMc bG $a)))),`(∃x,$a =aW /\y= .int ((x:Nat):Int)),`(Pu ($a x (List.dropLast_subset _ $b))),`(CQ E.T κ.w (1<<<κ.p) ((AH E.S $a).wd.sh m)),`(J6 X.E.T (IR X.E) (JA ok) X.E.Aq m w $a hm hw),`((ok.AT $a (ok.KN _ m w $a hm hw hb.2)).2 _),`((p,ok.Mp $a,by rw[Atd,AsF];exact⟨hp,$b⟩,2)),`(Aa (Aa (mBK dh t.CH) so (.Ac [])) $a (mDZ lO.Bl L)),`(Xa ($a $b du) ($a $b dv) ($a $b dw) ($a $b dy)),`(⟨_,rfl,$a,_,$b,_,_,rfl,kn.at_,T.CN.c,$c,rfl,rfl,_,rfl,?_⟩),`(hk _ _ $a (λe=>by have:=h.f;rw[<-e,$a:term] at this;cases this) $b),`(hk c u $a (λq=>by rw[q,h.of] at C;cases C) (λq=>by rw[q,$b:term] at C;cases C)),`(hk _ _ n1 (λe=>by rw[e,h.of] at ol;cases ol) (λe=>by rw[e,$a:term] at ol;cases ol)),`($a (λe=>by rw[e,$b:term] at ol;cases ol)),`(mL3 $a (λe=>by have:=$b;rw[e,ol] at this;cases this)),`(YH (AeZ T) $a rfl T.Iu.m T.Iu.F.kp T.Iu.b .nil Ay),`(Bb (WW T) gQ rfl T.G3.m T.G3.F.kp T.G3.b .nil Ay $a)]
def W_54(a b c d e f:W_T):List W_M:=[`(k w _ n' o' U C (D.same s3) (g'.trans (rL s3)) Y (D.un _ hw) $a),`(Bx aY T.B6.c T.Iy.h (Wz T) bR T.Iy.b .nil Ay $a),`(Ad $a (uW (mHU $b) Dw)),`(GY aK T.Em.c T.Ks.h (Af3 T) $a T.Ks.b .nil Ay),`(⟨dx,_,$a,rfl,rfl,rfl,rfl,rfl,rfl⟩),`(G[r]? =bK ->JG VA $a v (GB g gH r)),`(λz=>if z=$a then y else AT z),`(∀c o,c≠p->H c=aI ->$a c=aI),`((AT,by rw[Ah $a];exact t1,a3)),`(Ah (λz=>by rw[z,$a:term] at h;cases h)),`([bM,mH ac,mH ca,uY mX,mH B,oR oW $a,mH R,none,none,aq]),`([bM,mH ac,mH ca,uY mX,mH B,aBk,mH $a,none,none,mGo aCI]),`(AN $a (b+(mBa i (r.take j)).length) (Bd (i+j) f)),`($a (i+1) (b+(Bd i a).length) r),`(mI (by rw[show c=p from e];exact $a)),`(mP $a $b (λe=>by injection e with _ _ e;cases e)),`($a _ _ this (λe=>by rw[e,$b:term] at this;cases this)),`((_,EU (cE+$a),xQ od $b,2,go.symm)),`(V.int ((((1<<<$a)<<<bX:Nat)):Int)),`(by have:=JQ $a aU 0;rwa[AsZ] at this),`($a c u e (λz=>by rw[z,$b:term] at e;exact hu jQ.symm)),`(⟨$a,by simp,λx hx y hy e=>by rw[Atb.mp hy] at e;rw[e] at hx;exact $b hx⟩),`(Qk t $a p dx m st Aq ms A7 S so SA OA),`(∀(i:Nat)(r:Addr),rs[i]? =mB r->Hl $a r (yS i) (A7 i)),`(fh _ _ $a (fk e6.GJ $a (λi=>(λi e=>by injection e with _ _ e;injection e with _ e;injection e with _ e;cases e) i))),`(GK t Z H $a r up c d sa a0 a1 used),`(wA (mMX (Ad cC (Ad $a (vO cC))))),`(($a++[$b]).map V.ref++[nE $c]=(($a++[$b])++[$c]).map V.ref),`(Kgz2.first (E2 Z.m) (Z.st.map C5) Z.Aq $a),`(Br 0 0 m.feet++[1<<<($a $b).length]),`(HT.AK z.length $a $b),`(["self",$a,"rest","used","room"]),`(Builtin.SmallTypes.nextOf ($a $b)),`([$a,"word","cost"]),`(["self","places","sorts",$a]),`([$a,"foot_count"]),`(mCb $a V.str ⟨#[M]⟩),`(Txt $a mg t),`(mKE (CG $a (CG $b F2))),`(mD9 la (.dK (ls++[(mG (v.W:$a),$b s,)]))),`((An $a).length+1),`(mZ ($a×$a)),`([("places",$a f,),("sorts",$a SA,),("views",$a VA,)]),`(.Al [V.int (($a $b).F0:$c),V.int (($a $b).Ej:$c),V.int (($a $b).Ek:$c)]),`(Shared.heap (hp.push {cls:= .type $a,data:= .fields $b},g,d,tk,os)),`(PySem.W.findIn $a ($b C) $c),`(Ae $a $b p ys/\∀l,$b l=none->Q (mF l) (oA l (.Al ys))),`(j.DV (a:=s.heap.objs.size) (o:= $a) (t':=s.toks) aIe aD ($b s.heap j.Kl)),`(KO $a (1<<<(b+A.length)) (w.getD j 0==45) (decide (j+1=w.length)) (a.contains j)),`(Bx aY T.B_.c T.Km.h (Afz T 12) eG T.Km.b .nil Ay $a),`(mK (show $a - 1 - $b<$a by rw[ArX];omega)),`(Bx aK T.B6.c T.Kv.h (Ael T) dW T.Kv.b .nil Ay $a),`((mC $a h.f,aOR,mC $a h.d,aOS,h.nn,h.nd,nB h.st $a,aP2,162)),`((IU,(λz=>by rw[z,h.f] at hc;cases hc),λκ r=>?_,by rw[$a:term];simp)),`((∀c u,c≠b->$a c=aM ->H1 c=aM)/\H1 b=mB (.Bw od (.dK $b)))]
def W_L:List (String×(W_T→W_T→W_T→W_T→W_T→W_T→List W_M)):=[("a",W_0),("b",W_1),("c",W_2),("d",W_3),("e",W_4),("f",W_5),("g",W_6),("h",W_7),("i",W_8),("j",W_9),("k",W_10),("l",W_11),("m",W_12),("n",W_13),("o",W_14),("p",W_15),("q",W_16),("r",W_17),("s",W_18),("t",W_19),("u",W_20),("v",W_21),("w",W_22),("x",W_23),("y",W_24),("z",W_25),("aA",W_26),("aB",W_27),("aC",W_28),("aD",W_29),("aE",W_30),("aF",W_31),("aG",W_32),("aH",W_33),("aI",W_34),("aJ",W_35),("aK",W_36),("aL",W_37),("aM",W_38),("aN",W_39),("aO",W_40),("aP",W_41),("mA",W_42),("mB",W_43),("mC",W_44),("mD",W_45),("mE",W_46),("mF",W_47),("mG",W_48),("mH",W_49),("mI",W_50),("mJ",W_51),("mK",W_52),("mL",W_53),("mM",W_54)]
def W_I(c:Char):Nat:=if c.isLower then c.toNat-97 else if c.isUpper then c.toNat-39 else c.toNat+4
def W_G(p:String)(i:Nat)(z:Array W_T):W_M:=let h:=fun i=>z.getD i default;match W_L.lookup p with|some w=>((w (h 0) (h 1) (h 2) (h 3) (h 4) (h 5))[i]?).getD W_U|_=>W_U
def W_A(c:Char)(z:Array W_T)(f:Array W_T→W_M):W_M:=if c<'m'&&!z.isEmpty then do let t←f #[];`(($t) $z*) else f z
def W_W(s:String)(z:Array W_T):W_M:=match s.toList with|[a,b]=>if a.isLower&&b.isUpper then W_A a z (W_G a.toString (W_I b-26)) else W_U|[a,b,c]=>if a.isLower&&b.isUpper then W_A a z (W_G (a.toString++b.toString) (W_I c)) else W_U|_=>W_U
def W_N(z:Array W_T):Lean.Name→W_M|.str .anonymous s=>W_W s z|.str p s=>do let t←W_N #[] p;let t:W_T:=⟨.node .none `Lean.Parser.Term.proj #[←`(($t)),Lean.mkAtom ".",Lean.mkIdent (.mkSimple s)]⟩;if z.isEmpty then return t else `($t $z*)|_=>W_U
local macro_rules|`($x:ident)=>W_N #[] x.getId|`($f:ident $z*)=>W_N z f.getId
def W_C:List (Lean.MacroM (Lean.TSyntax `term)):=[`(⟨_,rfl⟩),`(⟨_,_,_,_,_,_,_,_,_⟩),`(⟨rfl⟩),`(⟨_,0⟩),`(⟨by omega⟩),`(⟨?_⟩),`(⟨coA,coA,coA,coA,coA,coA,coA,coA,coA⟩),`(⟨0,p,_⟩),`(⟨3,2⟩),`(⟨by simp⟩),`(⟨atA,atA,atA⟩),`(⟨1,1,1,1,1,1,1,1,1⟩),`(⟨by decide+kernel⟩),`(⟨8,trivial⟩),`(⟨none,none⟩),`(⟨noA,noA,noA,noA,noA,noA,noA,noA⟩),`(⟨0,0⟩),`(⟨7,dx,3⟩),`(⟨7,dx,fs,0⟩),`(⟨_,_⟩),`(⟨by show 2<=sizeLine;decide⟩),`(⟨by decide⟩),`(⟨0,X.F,X.dF,0⟩),`(⟨by rw[Af];simp⟩),`(⟨3,hb.at_,T.CW.c⟩),`(⟨coA,coA,coA,coA⟩),`(⟨2,2⟩),`(⟨T.DQ.c,T.GZ,2⟩),`(⟨X.F,_,X.dF,3⟩),`(⟨0,Z.p,_,Z.dx,3⟩),`(⟨T.Df.c,T.Jt,2,Z.SP,_,Z.dS,3⟩),`(⟨2,0⟩),`(⟨0,p,dx⟩),`(⟨T.Ca.c⟩),`(⟨by rw[ArX];omega⟩),`(⟨T.B6.c⟩),`(⟨_,8⟩),`(⟨L,36,mN y,N 0 d rfl,0,L,36,mN y,N 1 e rfl⟩),`(⟨j.os,j.DM,j.base,j.EX,j.cell,j.free,j.Gn⟩),`(⟨T.BF.c,T.Js⟩),`(⟨x,_,dx,3,hx',T.E9.c,T.LX,2⟩),`(⟨mk l,2,Av,by rw[BT];omega⟩),`(⟨16,0⟩),`(⟨by simp;omega⟩),`(⟨dP,dP,dP,dP⟩),`(⟨T.CN.c⟩),`(⟨T.B_.c⟩),`(⟨T.En.c⟩),`(⟨"str",_,F.plainAttrs_str,slot,ty,AuH _ _ _,(λ_ e=>nomatch e)⟩),`(⟨19,19⟩),`(⟨rest,used,u,room,2,ok⟩),`(⟨T.De.c⟩),`(⟨T.EN.c⟩),`(⟨5,5⟩),`(⟨aZ,0,7,3,Af⟩),`(⟨T.Eo.c,T.LY⟩),`(⟨by show(rest:Int)<=1000;omega⟩),`(⟨λb o e n hb hx=>?_⟩),`(⟨8,0,5⟩),`(⟨0,Z.p,Z.dx,0⟩),`(⟨atA,clA⟩),`(⟨none⟩),`(⟨T.Df.c⟩),`(⟨b,_,c,3,mC I hb.at_,T.CW.c⟩),`(⟨(0)⟩),`(⟨T.DQ.c,T.N7⟩),`(⟨T.Fm.c,T.N9⟩),`(⟨18,u,b.B6.c⟩),`(⟨33,T.NH,hF.Cq⟩),`(⟨T.E9.c⟩),`(⟨T.Em.c⟩),`(⟨es,ep⟩),`(⟨7,3⟩),`(⟨t.FT,36,Pt T⟩),`(⟨32,fs,2⟩),`(⟨(show(aEa) a=_ by rw[Ah ne];exact kn.at_)⟩),`(⟨noA,noA,noA,noA⟩),`(⟨qF 1⟩),`(⟨0,a⟩),`(⟨0,R,36,nQ (oY r m),cP,g,36,nQ (oY u he)⟩),`(⟨31,5⟩),`(⟨T.Fm.c,T.N8⟩),`(⟨7,dx,CJ a (n+1),0,Af⟩),`(⟨2,p,dx,a⟩),`(⟨d,e,m,l,2,mDN 0 d m,mDN 1 e l,r m aC,k⟩),`(⟨18,m,b.B6.c⟩),`(⟨trivial⟩),`(⟨0,72,hp⟩),`(⟨2,Fr.refl⟩),`(⟨35,T.IF⟩),`(⟨Af,2⟩),`(⟨62,T.Jt,2,SP,_,dS,3⟩),`(⟨qL 1⟩),`(⟨bY,8,12,fQ⟩),`(⟨16,mF mp,false,l,2,mI (rfl,mp,rfl)⟩),`(⟨7,dx,CJ a aF7,0,Af⟩),`(⟨T.BF.c⟩),`(⟨31,b,_⟩),`(⟨sh,_,m,3,mC j o,27⟩),`(⟨b.size,b.Gj,b.ends⟩),`(⟨ct[i],by rw[fN,hg],by rw[mK C],2⟩),`(⟨62,T.Vw,2,Z.X.F,Z.X.dF,0,fs.f,97⟩),`(⟨by rw[pi.1 D (Asr d8)];exact Af⟩),`(⟨tF 1,aIA,19,H1,2⟩),`(⟨0,19,dx,3,mC Ju bo,66,31,q,19⟩),`(⟨46,T.NC,31,X.D,0⟩),`(⟨16,q,_,b1,3,mC Y b4,47,T.Ph,2⟩),`(⟨b,_,g,24,T.NF,2,i,0,uB hb.row⟩),`(⟨by rw[vP nb v.c0];exact xI ap⟩),`(⟨s1.heap.objs.size,aJV,19,H1,2⟩),`(⟨aT,vG (Asr (AsP hb)),[],.nil⟩),`(⟨aBz.symm⟩),`(⟨T.IE.c,T.RB⟩),`(⟨T.IE.c,T.RC⟩),`(⟨33,T.RS,hF.feet⟩),`(⟨T.Eo.c,T.RV⟩),`(⟨78,_,d,3,ha⟩),`(⟨17,hp,45,T.NB,2⟩),`(⟨3,kn.at_,45⟩),`(⟨kn.at_,2,42,a,g,ah,aj,ak,κ⟩),`(⟨0,p,am,an,2⟩),`(⟨51,T.ND,2,8⟩),`(⟨62,T.NG,2⟩),`(⟨T.CW.c,T.Pn⟩),`(⟨mgA,tuA,mgA,tuA⟩),`(⟨0,t.LS,0,mI (Adc T),2,12,0⟩),`(⟨ok.fw,fs,hb.IZ,hb.c0,hb.c1⟩),`(⟨Ry l c k,(Ry l c k).Kh hb⟩),`(⟨λ_ _ h=>h,λ_ _ h=> mG h⟩),`(⟨g.dx,g.fo,g.so⟩),`(⟨by rw[Ah (M ce)];exact ce⟩),`(⟨24,T.RQ,2,Z.X,o,n,d,sa,a0⟩),`(⟨x,H,mEG q.DN (mC1 L.2),D⟩),`(⟨0,h,3,bA,3⟩),`(⟨42,C,36,nA s5 B,G M hc,0⟩),`(⟨0,sh,_,n,3⟩),`(⟨7,c,d,0,f,70,T.Pe,g.pl,a⟩),`(⟨bX,26,(Ji _ aA,by omega)⟩),`(⟨5,λx c e=>?_⟩),`(⟨n - (i+1),4,2⟩),`(⟨16,x,8,d,Sc c⟩),`(⟨λj p x h=>by simp at h⟩),`(⟨(qG 5),5⟩),`(⟨q,_,ay,3⟩),`(⟨x,_,dx,3⟩),`(⟨room - G.Bl,(mAH he),ok⟩),`(⟨λh=>by omega⟩),`(⟨64,64,64⟩),`(⟨rest,room,used,2,kn.at_⟩),`(⟨by rw[Tc];exact Xg aA,5⟩),`(⟨21,21,(mGk 4)⟩),`(⟨26,26,26⟩),`(⟨sa,a0,a1,used⟩),`(⟨AsV (YR xs lo hi) hz,_⟩),`(⟨B,_,G.Ro e (j.Rn hd n)⟩),`(⟨nM g,i.same s,j.same s⟩),`(⟨H,fM,bY,q⟩),`(⟨by rw[h,Atk]⟩),`(⟨78,19,sN x,26,mN D,cP⟩),`(⟨78,19,sN y,26,mN D,77⟩),`(⟨L,36,mN C⟩),`(⟨b.RH,hF.cuts⟩),`(⟨λb e=>?_,eI⟩),`(⟨0,d,36,nQ (nV G sK f)⟩),`(⟨47,T.Pk,2,sh⟩),`(⟨17,N,70,T.Pf⟩),`(⟨by simpa using B.len⟩),`(⟨mF s1.heap.objs.size⟩),`(⟨λi _=>x.cps.size<=i⟩),`(⟨mX ((x:Nat):Int),2,5⟩),`(⟨h.nd,h.pw,h.len,h.ER⟩),`(⟨sh,_,m,3,mC I o,65,2⟩),`(⟨b.inner,mEc l b.cuts⟩),`(⟨by rw[ArY,mK aA];rfl⟩),`(⟨λq=>by injection q⟩),`(⟨λj y v' J L e3=>?_⟩),`(⟨λy c e=>?_⟩),`(⟨T,id,j,slot,n,h1,h2⟩),`(⟨.int _,H,j.CF hk,bY⟩),`(⟨λb o e=>?_⟩),`(⟨λi _=>i<x.cps.size⟩),`(⟨by rw[ArX];exact hz⟩),`(⟨false⟩),`(⟨14,61⟩),`(⟨33,T.RU,ak,0,8,L,36⟩),`(⟨0,n,36,mN g,cP,0,37⟩),`(⟨78,_,e,3,ha⟩),`(⟨86,λod=>?_⟩),`(⟨by rw[ArX];exact aD⟩),`(⟨a.size,a.Gj⟩),`(⟨51,T.NE⟩),`(⟨λi a e=>?_⟩),`(⟨52,T.Pl⟩),`(⟨q,_,l,3⟩),`(⟨b,_,I,3,J.at_,123,2⟩),`(⟨B.ok,B.os,B.DM,aK9⟩),`(⟨38,j.FH,j.Av,j.len⟩),`(⟨2,q _ (B.Av.BC aD)⟩),`(⟨fS,5⟩),`(⟨0,mp,_⟩),`(⟨(qG 3),5⟩),`(⟨fs,0,g1,33,T.Vy,g3⟩),`(⟨2,16⟩),`(⟨κ,a,2⟩),`(⟨λ_=>aAd⟩),`(⟨b,eR,l,mG m.d,2,aj⟩),`(⟨by rw[Af];simp[FB]⟩),`(⟨by unfold Ex;omega⟩),`(⟨atA,60⟩),`(⟨ae,af⟩),`(⟨by simpa using hs⟩),`(⟨λg hg=>?_⟩),`(⟨λb z=>nK z (G b)⟩),`(⟨R,nH f.map⟩),`(⟨by rw[ArY,fN];rfl⟩),`(⟨2,Af⟩),`(⟨λa ha=>?_⟩),`(⟨λf hf=>?_⟩),`(⟨pc,36,nQ G⟩),`(⟨32,0⟩),`(⟨b.RJ,hF.Wx,0,f,36⟩),`(⟨λa ha c hc e=>?_⟩),`(⟨97,db,3,hb⟩),`(⟨111,(Ase a5).symm⟩),`(⟨by rw[ArY,cT];rfl⟩),`(⟨111,(Ase ck).symm⟩),`(⟨λj q f hq hf=>?_⟩),`(⟨0,q,_,c3,3⟩),`(⟨vD b8 cg,vD b9 ch⟩),`(⟨2,(cy.same c8).ky⟩),`(⟨122,Z.X.P,an,ao,2⟩),`(⟨(p.pre).snoc p.Ga⟩),`(⟨(λe=>nomatch e)⟩),`(⟨λb o e n hx=>?_⟩),`(⟨λ_ e=>nomatch e⟩),`(⟨tF 4,aMy,19,H1,2⟩),`(⟨by rw[<-r];rfl,u⟩),`(⟨b.RI,hF.inner,13⟩),`(⟨p.1,p.2,rest - 1⟩),`(⟨78,g,0,119,AA,ai⟩),`(⟨0,ST,36,mN et,eu⟩)]
local macro_rules|`(($x,$y,*))=>do
 let a:=#[x]++y.getElems
 if y.elemsAndSeps.size%2==0 then
  let n:=a.size
  return(←(a.extract 0 (n-1)).foldrM (fun x r=>`(Prod.mk $x $r)) a[n-1]!)
 let r←a.mapM fun z=>do
  match z.raw.isNatLit? with
  |some k=>return(←W_C[k]?.getD Lean.Macro.throwUnsupported).raw[1].getSepArgs.map (⟨·⟩)
  |_=>return #[z]
 let r:Array (Lean.TSyntax `term):=r.flatten
 if r.size==a.size then `(⟨$r,*⟩) else
  let x:=r[0]!
  let s:=r.extract 1 r.size
  `(($x,$s,*))
namespace Vf
open Kgz2 (Row goOn rows before)
def FY(N:Nat):Nat->Row->Nat->mZ Row
 |0,_,_=>[]
 |n+1,r,u=>aN6.flatMap λk=>dN::goOn N n dN
theorem N_(N n:Nat)(r:Row)(u:Nat):mFG u=aN6.flatMap λk=>dN::goOn N n dN:=rfl
theorem PD(N n:Nat)(r:Row):yL (n+1)=(kG.filter λk=> !(wF k)).flatMap λk=>dN::goOn N n dN:=rfl
theorem WF(N n:Nat)(r:Row):yL n=FY N n r 0:=by
 cases n with
 |zero=>rfl
 |succ n=>
  congr 2
theorem AnV(N n:Nat)(r:Row):FY N n r N=[]:=by
 cases n with
 |zero=>rfl
 |succ n=>
  rw[N_];have:kG.filter (λk=>decide (N<=k)&& !(wF k))=[]:=by rw[Au6];grind
  rw[this];rfl
theorem AnW(N u:Nat)(p:Nat->Bool)(h:u<N):kG.filter aN7=(if p u then[u] else[])++kG.filter aN8:=by
 induction N with
 |zero=>omega
 |succ N a=>
  rw[Atl,Ath,Ath];by_cases e:u=N
  .subst e;have h0:(pB u).filter aN7=[]:=by
    rw[Au6];grind
   have b:(pB u).filter aN8=[]:=by rw[Au6];grind
   grind
  grind
def block(N n:Nat)(r:Row)(k:Nat):List Row:=if wF k then[] else dN::goOn N n dN
theorem S7(N n:Nat)(r:Row)(u:Nat)(h:u<N):mFG u=block N n r u++FY N (n+1) r (u+1):=by
 rw[N_,N_,AnW N u (λk=> !(wF k)) h,List.flatMap_append];congr 1;unfold block
 cases hc:wF u<;>simp
theorem Mm(N:Nat):∀(n:Nat)(r x:Row),x∈yL n->∃k t,x=r++k::t
 |0,r,x,h=>by simp[goOn] at h
 |n+1,r,x,h=>by
  rw[PD,AuK] at h;obtain⟨k,_,h⟩:=h;rcases oG h with rfl|h
  .exact(k,[],2)
  obtain⟨k',t,rfl⟩:=Mm N n _ x h;exact(k,k'::t,9)
theorem AnX(h:x∈block N n r k):∃t,x=r++k::t:=by
 unfold block at h;split at h
 .simp at h
 rcases oG h with rfl|h
 .exact([],2)
 obtain⟨k',t,rfl⟩:=Mm N n _ x h;exact(k'::t,9)
theorem WG(h:x∈FY N n r u):∃k t,u<=k/\x=r++k::t:=by
 cases n with
 |zero=>simp[FY] at h
 |succ n=>
  rw[N_,AuK] at h;obtain⟨k,hk,h⟩:=h;simp at hk;rcases oG h with rfl|h
  .exact(k,[],hk.2.1,2)
  obtain⟨k',t,rfl⟩:=Mm N n _ x h;exact(k,k'::t,hk.2.1,9)
theorem PF:∀(p a b:Row),before (p++a) (p++b)=before a b
 |[],a,b=>rfl
 |x::p,a,b=>by
  simp only[List.cons_append,before];simp[PF p a b]
def Dr:Row->Row-> jC
 |pre,[]=>[(pre,0,)]
 |pre,k::a=>(pre,k+1,)::Dr aGg a
def BK(N Aq:Nat):jC ->mZ Row
 |[]=>[]
 |x::L=>xC L++mIj Aq
theorem Mn(N Aq:Nat):∀(L M:jC),xC (L++M)=xC M++xC L
 |[],M=>by simp[BK]
 |x::L,M=>by simp only[List.cons_append,BK,Mn N Aq L M,List.append_assoc]
theorem Ae3(N n:Nat)(r a:Row)(k:Nat)(hk:k<=N):∀(d j:Nat),k - j=d->j<=k->(mFG j).filter aJK=(mFG k).filter aJK
 |0,j,b,c=>by
  obtain rfl:j=k:=aA;rfl
 |d+1,j,b,c=>by
  rw[S7 N n r j aA,Ath,Ae3 N n r a k hk d (j+1) aA aA];have:(block N n r j).filter aJK=[]:=by rw[Au6];intro x hx;obtain⟨t,rfl⟩:=AnX hx;rw[PF];simp only[before];grind
  rw[this,Atz]
theorem WH(N Aq:Nat):∀(a pre:Row),pre.length+a.length<=Aq-> aGh ->(pre++a).Nodup->
 (goOn N (Aq - pre.length) pre).filter (before (pre++a))=xC aGi
 |[],pre,b,_,_=>by
  unfold Dr BK BK;rw[Atz,<-WF,List.filter_eq_self];intro x hx;obtain⟨k,t,rfl⟩:=Mm N _ _ x hx;rw[PF];rfl
 |k::a,pre,b,c,hd=>by
  have hk:=c k aC;rw[As1] at b;obtain⟨n,d⟩:∃n,Aq - pre.length=n+1:=(mBh Aq pre.length);have hc:qP pre.contains k:=by
   rw[AsT] at hd
   cases h:pre.contains k with
   |false=>rfl
   |true=>exact rB (hd.2.2 k fB k aC)
  have e:=WH N Aq a aGg dR (λx hx=>pA c x hx) (mR hd);rw[WF,d,Ae3 N n pre a k aA k 0 aA aA,S7 N n pre k hk,Ath];unfold Dr BK;rw[<-e,d];congr 1
  .unfold block;have f:before (pre++k::a) aGg=false:=by
    rw[PF]
    cases a<;>simp[before]
   grind
  rw[List.filter_eq_self];intro x hx;obtain⟨k',t,g,rfl⟩:=WG hx;rw[PF];simp only[before];rw[mW aA];rfl
theorem AnY(N Aq:Nat)(a:Row)(s:Row->Bool)(d:aJL)(f:aGh)(hd:a.Nodup):
 (rows N Aq).find? aN9=(xC aDU).find? s:=by
 rw[<-(WH N Aq a [] (mR d) f (mR hd)),List.find?_filter,Atz];have:∀l:mZ Row,(∀x∈l,x≠[])->l.find? aN9=l.find? (λr=>before a r&&s r):=by
  intro l
  induction l with
  |nil=>intro _;rfl
  |cons x l g=>
   intro hx;have e:(a==[]||before a x)=before a x:=by
    cases a with
    |nil=>
     cases x with
     |nil=>exact rB (hx [] aC)
     |cons=>rfl
    |cons b c=>
     rfl
   grind
 have h:(λi=>decide (before a i=true/\s i=true))=λr=>before a r&&s r:=by simp
 rw[h];refine this _ λx hx=>?_;obtain⟨k,t,rfl⟩:=Mm N _ _ x hx;simp
theorem Ae4(N Aq:Nat)(L:jC)(r:Row):mAe Aq (r,N,)=BK N Aq L:=by rw[Mn];simp[BK,AnV]
theorem Ae5(N Aq:Nat)(L:jC)(r:Row)(u:Nat)(h:u<N)(hs:mFH Aq u):mAe Aq (r,u,)=BK N Aq aDV:=by
 rw[Mn,Mn];congr 1;simp only[BK];rcases hs with hs|hs
 .rw[show Aq - r.length=0 by omega];rfl
 cases a:Aq - r.length with
 |zero=>rfl
 |succ n=>
  rw[S7 N n r u h];unfold block;rw[hs];rfl
theorem PH(N Aq:Nat)(L:jC)(r:Row)(u:Nat)(h:u<N)(a:r.length<Aq)(b:aCx):
 BK N Aq (L++[(r,u,)])=(eJ::goOn N (Aq - eJ.length) eJ)++BK N Aq aDV:=by
 rw[Mn,Mn];simp only[BK];obtain⟨n,c⟩:∃n,Aq - r.length=n+1:=(mBh Aq r.length);have d:Aq - eJ.length=n:=dR;rw[c,d,S7 N n r u h];unfold block;grind
theorem Ae6(N Aq:Nat)(L:jC)(r:Row):mAe Aq (r,0,)=yL (Aq - r.length)++BK N Aq L:=by rw[Mn];simp only[BK,List.nil_append,<-WF]
theorem Arl:∀{n:Nat}{r x:Row},x∈yL n->r.length<x.length:=λh=>by obtain⟨k,t,rfl⟩:=Mm N _ _ _ h;simp
theorem Aga{l:cM}(h:mGF p):l.filter p=[]:=by simp_all
theorem Agb(N:Nat):∀(n' n:Nat)(r:Row),n'<=n->yL n'=(yL n).filter λx=>decide (x.length<=r.length+n')
 |0,n,r,_=>by
  rw[Aga λx hx=>mT (mCL Arl hx)];rfl
 |n'+1,0,r,h=>by omega
 |n'+1,n+1,r,h=>by
  rw[PD,PD,AvB];congr 1;funext k;rw[AuJ,mJ (mW aC),Agb N n' n dN aA];grind
theorem Arm(N:Nat)(n' n:Nat)(r:Row)(u:Nat)(h:n'<=n):FY N n' r u=(FY N n r u).filter λx=>decide (x.length<=r.length+n'):=by
 cases n' with
 |zero=>
  rw[Aga λx hx=>Ar_ (by obtain⟨k,t,_,rfl⟩:=WG hx;simp)];rfl
 |succ n'=>
  cases n with
  |zero=>omega
  |succ n=>
   rw[N_,N_,AvB];congr 1;funext k;rw[AuJ,mJ (mW aC),Agb N n' n dN aA];grind
theorem Xw(N ms Aq:Nat)(h:ms<=Aq):∀(L:jC),aG7=(xC L).filter λx=>decide (x.length<=ms)
 |[]=>rfl
 |x::L=>by
  show aG7++mIj ms=(xC L++mIj Aq).filter _;rw[Ath,Xw N ms Aq h L,Arm N (ms - x.1.length) (Aq - x.1.length) x.1 x.2 aA];congr 1;apply Av_;intro y hy;by_cases e:x.1.length<=ms
  .grind
  have:x.1.length<y.length:=by obtain⟨k,t,_,rfl⟩:=WG hy;simp
  grind
theorem Xx:∀{n:Nat}{r x:Row},x∈yL n->r.Nodup-> aDX ->x.Nodup/\ aKA /\x.length<=r.length+n
 |0,r,x,h,_,_=>by simp[goOn] at h
 |n+1,r,x,h,hd,d=>by
  rw[PD,AuK] at h;obtain⟨k,hk,h⟩:=h;rw[AtO] at hk;have e:k∉r:=by have:=hk.2;simp at this;exact this
  have f:dN.Nodup:=by grind
  have g:∀j∈r++[k],j<N:=λj hj=>by grind
  rcases oG h with rfl|h
  .exact(f,g,9)
  obtain⟨a,b,c⟩:=Xx h f g;exact(a,b,by simp at c;omega)
theorem Agc:∀{l:cM},(∀x∈l,p x=q x)->l.find? p=l.find? q
 |[],_=>rfl
 |x::l,h=>by
  rw[Av7,Av7,h x aC,Agc λy hy=>pA h y hy]
theorem Agd(b:aJL)(c:aGh)(hd:a.Nodup)(h:x∈xC aDU):x.Nodup/\ aKA /\x.length<=Aq:=by rw[<-WH N Aq a [] (mR b) c (mR hd),AtO] at h;obtain⟨d,e,f⟩:=Xx h.1 Auw aC;exact(d,e,by simp at f;exact f)
theorem Arn(h:ms<=Aq)(b:aJL)(c:aGh)(hd:a.Nodup)(hs:∀x,x.Nodup-> aKA ->x.length<=Aq->s x=true->x.length<=ms):
 (xC aDU).find? s=(BK N ms aDU).find? s:=by
 rw[Xw N ms Aq h,List.find?_filter];refine Agc λx hx=>?_;obtain⟨d,f,g⟩:=Agd b c hd hx
 cases e:s x with
 |false=>simp
 |true=>simp[hs x d f g e]
def HU(N:Nat):jC ->Nat
 |[]=>0
 |x::L=>(N+1 - x.2)+HU N L
theorem JM(N:Nat):∀(L M:jC),HU N (L++M)=HU N L+HU N M
 |[],M=>by simp[HU]
 |x::L,M=>by simp only[List.cons_append,HU,JM N L M];omega
def Gc(N ms:Nat)(L:jC):Nat:=aG7.length*(N+2)+HU N L
theorem Aro:Gc N ms L<Gc N ms (L++[(r,N,)]):=by unfold Gc;rw[Ae4,JM];simp[HU]
theorem Arp(h:u<N)(hs:mFH ms u):mJg aDV:=by unfold Gc;rw[Ae5 N ms L r u h hs,JM,JM];simp only[HU];omega
theorem Arq(h:u<N)(a:aEt)(b:aCx):mJg aDV:=by unfold Gc;rw[aEu,JM,JM,Asi,AvL];simp only[HU];omega
theorem Arr(h:u<N)(a:aEt)(b:aCx):mJg (mJh L):=by unfold Gc;rw[Ae6,aEu,JM,JM,JM];generalize goOn N (ms - eJ.length) eJ=G;generalize BK N ms aDV=R;rw[Asi,Asi,As1,AvL,AvL,AvL];simp only[HU];omega
theorem Ars:(mAe ms (r,N,)).find? s=aG7.find? s:=by rw[Ae4]
theorem Art(h:u<N)(hs:mFH ms u):aPP:=by rw[Ae5 N ms L r u h hs]
theorem Aru{l m:cM}(h:mGF p):(l++m).find? p=m.find? p:=by grind
theorem Arv(h:u<N)(a:aEt)(b:aCx)(hs:∀x t,x=eJ++t->x.length<=ms->x∈ eJ::goOn N (ms - eJ.length) eJ ->s x=false):aPP:=by
 rw[aEu];refine Aru λx hx=>?_;have hlen:eJ.length<=ms:=dR;rcases oG hx with rfl|hx'
 .exact hs _ [] aC hlen hx
 obtain⟨k,t,e⟩:=Mm N _ _ _ hx';have:x.length<=ms:=by
  have key:∀(n:Nat)(r x:Row),x∈yL n->x.length<=r.length+n:=by
   intro n
   induction n with
   |zero=>intro r x h;simp[goOn] at h
   |succ n c=>
    intro r x h;rw[PD,AuK] at h;grind
  have:=sL key hx';omega
 exact hs x (k::t) e this hx
theorem Arw(h:u<N)(a:aEt)(b:aCx)(hs:nJ s eJ):oI (mAe ms (r,u,)).find? s eJ:=by rw[aEu,At8,Av7,hs]
theorem Arx(h:u<N)(a:aEt)(b:aCx)(hs:qP s eJ):(mAe ms (r,u,)).find? s=(BK N ms (mJh L)).find? s:=by rw[aEu,Ae6,At8,Av7,hs]
theorem Age:∀(a pre:Row),aGi.length=a.length+1
 |[],_=>rfl
 |k::a,pre=>by simp[Dr,Age a]
end Vf
namespace Vf
open Kgz1
abbrev Txt:=aB
def Ge(p c:Nat):Bool:=c==104||(c==117&&p==113)
def Cg:Nat->Txt-> dQ
 |_,[]=>[]
 |p,[c]=>if Ge p c then[] else[[c]]
 |p,c::d::r=>
  if aCQ then(if Ge p c then Cg d r else[c,d]::Cg d r)
  else(if Ge p c then Cg c kL else[c]::Cg c kL)
def BO:Txt->Sound
 |[c]=>if isVowel c then .vowel false else if isCapital c then .vowel true else .cons c
 |_=> .vowel true
theorem O0(p c:Nat):Ge p c=true↔(c=104\/(c=117/\p=113)):=by simp[Ge]
theorem Agx(h:aCQ=true)(p:Nat):Ge p c=false:=by simp[isPair] at h;rcases h with⟨rfl,_⟩|⟨rfl,_⟩|⟨rfl,_⟩|⟨rfl,_⟩<;>simp[Ge]
theorem Mw:∀(p:Nat)(w:Txt),(Cg p w).map BO=sounds p w
 |_,[]=>by simp[Cg,sounds]
 |p,[c]=>by
  simp only[Cg,sounds];by_cases h:Ge p c=true
  .rw[mJ h,mJ (aCR.mp h)];rfl
  rw[mM h,vQ h (aCR.mpr q)];simp only[List.map_cons,List.map_nil,BO]
  repeat' split
  all_goals rfl
 |p,c::d::r=>by
  simp only[Cg,sounds];by_cases h:aCQ=true
  .have hs:=Agx h p;rw[mJ h,mM (by simp[hs]),mM (λq=>by rw[aCR.mpr q] at hs;cases hs),mJ h];simp only[List.map_cons,BO,Mw d r]
  rw[mM h];by_cases hs:Ge p c=true
  .rw[mJ hs,mJ (aCR.mp hs)];exact Mw c kL
  rw[mM hs,vQ hs (aCR.mpr q),mM h];simp only[List.map_cons,BO,Mw c kL]
  repeat' split
  all_goals rfl
def Bs:iJ -> aB × aCS
 |[]=>([],[],)
 | .cons c::r=>(c::(Bs r).1,(Bs r).2,)
 | .vowel g::r=>([],(g,(Bs r).1,)::(Bs r).2,)
def Mx(c:Nat):Bool:=c==120||c==122
def Ez:aB ->Nat
 |[]=>0
 |[c]=>if Mx c then 3 else 1
 |[a,b]=>if mute a&&liquid b then 2 else 3
 |_=>3
def BE(w l:Nat):Nat:=if w=4\/l=0 then w else if w=0 then l else 3
structure BU where
 Bk:Nat
 A2:aB
deriving DecidableEq
def DU(s:iJ):BU:=(Ez (cS).1,(cS).2.map λx=>if x.1 then 3 else Ez x.2)
def BB(w:Nat):Nat:=if w=2 then 2 else if w=3 then 1 else 0
def Gf(ws:aB)(Bk:Nat):List Nat:=match ws.getLast? with
 |none=>[]
 |some x=>ws.dropLast++[BE x Bk]
def Gg(n:Nat):List Nat:=pG (n - 1) 0++[4]
def CZ(st:aCT)(sh:BU):aB ×List Nat:=
 if sh.A2=[] then(aEy,st.2,) else(aEy++sh.A2,st.2++aBG,)
def Jb(st:aCT):List Nat:=if st.1=[] then[] else mEl (aBH++[2]) st.2
def To(a:fX):List Nat:=aKM
def HV(ws:dQ):List BU:=(left (ws.map (sounds 0))).map DU
def Ck(l:Txt):List Nat:=To (HV (words l))
abbrev Rw:=Bool× cD ×Nat
def Bm:aAI -> cD × iK
 |[]=>([],[],)
 |(.cons c,w)::r=>((c,w,)::(Bm r).1,(Bm r).2,)
 |(.vowel g,w)::r=>([],(g,(Bm r).1,w,)::(Bm r).2,)
def fin:iK ->mZ Syl
 |[]=>[]
 |[_]=>[(.either,true)]
 |x::y::r=>(if x.1 then .long else between x.2.1,aHf)::fin jM
theorem X2:∀l,upTo l=(Bm l).1
 |[]=>rfl
 |(.cons c,w)::r=>by simp only[upTo,Bm,X2 r]
 |(.vowel g,w)::r=>rfl
theorem X3:∀l,nextVowel l=(Bm l).2.head?.map (·.2.2)
 |[]=>rfl
 |(.cons c,w)::r=>by simp only[nextVowel,Bm,X3 r]
 |(.vowel g,w)::r=>rfl
theorem Tq:∀l,syls l=fin (Bm l).2
 |[]=>rfl
 |(.cons c,w)::r=>by simp only[syls,Bm,Tq r]
 |(.vowel g,w)::r=>by
  simp only[syls,Bm,X3,X2,Tq r]
  cases h:(Bm r).2 with
  |nil=>simp[fin]
  |cons y t=>simp[fin]
def Fy:iK -> cD -> iK
 |[],_=>[]
 |[x],l=>[(x.1,x.2.1++l,x.2.2,)]
 |x::y::r,l=>x::Fy jM l
theorem Tr:∀(A B:aAI),(Bm A).2=[]->Bm kM=((Bm A).1++(Bm B).1,(Bm B).2,)
 |[],B,_=>by simp[Bm]
 |(.cons c,w)::r,B,h=>by
  simp only[List.cons_append,Bm,(Tr r B h)]
 |(.vowel g,w)::r,B,h=>by simp[Bm] at h
theorem Ts:∀(A B:aAI),(Bm A).2≠[]->Bm kM=((Bm A).1,Fy (Bm A).2 (Bm B).1++(Bm B).2,)
 |[],B,h=>by simp[Bm] at h
 |(.cons c,w)::r,B,h=>by
  have a:=Ts r B h;simp only[List.cons_append,Bm,a]
 |(.vowel g,w)::r,B,h=>by
  by_cases e:(Bm r).2=[]
  .have a:=Tr r B e;simp only[List.cons_append,Bm,a,e,Fy,List.nil_append]
  have a:=Ts r B e;simp only[List.cons_append,Bm,a]
  cases h:(Bm r).2 with
  |nil=>exact nK h e
  |cons y t=>simp[Fy]
def C_:cD ->Nat
 |[]=>0
 |[(c,_)]=>if Mx c then 3 else 1
 |[(a,v),(b,w)]=>if v=w/\mute a=true/\liquid b=true then 2 else 3
 |_=>3
def wv(x:Rw):Nat:=if x.1 then 3 else C_ x.2.1
def Hm:Kind->Nat
 | .short=>0
 | .long=>1
 | .either=>2
theorem X4(c:Nat):1<=counts c:=by unfold counts;split<;>omega
theorem Tt(l:aB):∀a,l.foldl (·+·) a=a+l.foldl (·+·) 0:=by
 induction l with
 |nil=>intro a;rfl
 |cons x r b=>intro a;rw[Ati,Ati,b (a+x),b (0+x)];omega
theorem Agy:∀l,Hm (between l)=BB (C_ l)
 |[]=>by simp[between,C_,Hm,BB]
 |[(c,w)]=>by
  simp only[between,C_,Mx,List.map_cons,List.map_nil,List.foldl_cons,List.foldl_nil,counts];by_cases h:c=120\/c=122
  .rw[mJ h];have:oZ (c==120||c==122):=fB;simp[this,Hm,BB]
  rw[mM h];have:pH (c==120||c==122):=fB;simp[this,Hm,BB]
 |[(a,v),(b,w)]=>by
  simp only[between,C_];split<;>simp[Hm,BB]
 |(a,v)::(b,w)::(c,x)::r=>by
  simp only[between,C_,List.map_cons,List.foldl_cons];rw[Tt];have d:=X4 a;have e:=X4 b;rw[fC];simp[Hm,BB]
def D7:iK -> aB
 |[]=>[]
 |[_]=>[4]
 |x::y::r=>(if y.2.2 != x.2.2 then 4 else 0)::D7 jM
theorem Tu(s:Syl):number s=Hm s.kind+if s.ends then 4 else 0:=by
 unfold number Hm
 cases s.kind<;>rfl
theorem X5:∀l:iK,(fin l).map number=Jb (sT wv,D7 l,)
 |[]=>by simp[fin,Jb]
 |[x]=>by simp[fin,Jb,D7,number]
 |x::y::r=>by
  have a:=X5 jM;simp at a⊢;simp only[fin,List.map_cons,D7,List.dropLast_cons_of_ne_nil (List.cons_ne_nil _ _),List.cons_append,List.zipWith_cons_cons,a];congr 1;rw[Tu];simp only[wv];by_cases g:x.1=true
  .simp[g,Hm,BB]
  simp only[g,Bool.false_eq_true,if_false,Agy]
theorem X6:∀(l:iK)z,D7 (Fy l z)=D7 l
 |[],_=>rfl
 |[x],z=>rfl
 |[x,y],z=>by simp[Fy,D7]
 |x::y::u::r,z=>by
  have a:=X6 (y::u::r) z;simp only[Fy,D7] at a⊢;rw[a]
theorem X7:∀(l:iK)z x,x∈Fy l z->∃y∈l,x.2.2=y.2.2
 |[],_,x,h=>by simp[Fy] at h
 |[y],z,x,h=>by
  simp only[Fy,List.mem_singleton] at h;exact(y,9,by rw[h])
 |y::u::r,z,x,h=>by
  simp only[Fy,List.mem_cons] at h;rcases h with rfl|h
  .exact(x,9,2)
  obtain⟨q,hq,e⟩:=X7 (u::r) z x h;exact(q,rM hq,e)
theorem X8:∀(A B:iK)(k:Nat),(∀x∈A,x.2.2<k)->(∀x∈B,x.2.2=k)->D7 kM=D7 A++D7 B
 |[],B,k,_,_=>rfl
 |[x],[],k,_,_=>rfl
 |[x],y::r,k,ha,hb=>by
  have a:=ha x aC;have b:=hb y aC;have:oZ aHf:=dR;simp only[List.cons_append,List.nil_append,D7,this,if_true]
 |x::y::r,B,k,ha,hb=>by
  have c:=X8 jM B k (λz hz=>pA ha z hz) hb;simp only[List.cons_append,D7] at c⊢;rw[c]
theorem Tv:∀(B:iK)(k:Nat),(∀x∈B,x.2.2=k)->B≠[]->D7 B=Gg B.length
 |[x],_,_,_=>rfl
 |x::y::r,k,h,_=>by
  have a:=h x aC;have b:=h y aC;have:pH aHf:=dR;simp only[D7,this,Bool.false_eq_true,if_false,(Tv jM k (λz hz=>h z (List.mem_cons_of_mem _ hz)) aC)];rfl
theorem Agz(A B:cD)(k:Nat)(ha:∀x∈A,x.2<k)(hb:∀x∈B,x.2=k):C_ kM=BE (C_ A) (C_ B):=by
 have pos:∀l:cD,l≠[]->C_ l≠0:=by
  intro l d
  match l,d with
  |[(c,_)],_=>simp only[C_];split<;>omega
  |[(a,v),(b,w)],_=>simp only[C_];split<;>omega
  |(a,v)::(b,w)::z::r,_=>simp[C_]
 have e:∀l:cD,C_ l<=3:=by
  intro l
  match l with
  |[]=>simp[C_]
  |[(c,_)]=>simp only[C_];split<;>omega
  |[(a,v),(b,w)]=>simp only[C_];split<;>omega
  |(a,v)::(b,w)::z::r=>simp[C_]
 unfold BE;by_cases f:B=[]
 .subst f;simp[C_]
 have g:=pos B f;rw[Asa (by intro h;exact h.elim (mCL e A) g)];by_cases i:A=[]
 .subst i;simp[C_]
 rw[mM (pos A i)]
 match A,i,B,f with
 |[(a,v)],_,[(b,w)],_=>
  have j:=ha (a,v,) aC;have m:=hb (b,w,) aC;have:v≠w:=(by simp at j m;omega);simp[C_,this]
 |[(a,v)],_,(b,w)::y::r,_=>simp[C_]
 |(a,v)::(c,u)::r,_,(b,w)::t,_=>
  cases r with
  |nil=>simp[C_]
  |cons z r=>simp[C_]
theorem Qo(k:Nat):∀s:iJ,Bm (s.map λx=>(x,k,))=((cS).1.map λc=>(c,k,),(cS).2.map λx=>(x.1,x.2.map (λc=>(c,k,)),k,),)
 |[]=>rfl
 | .cons c::r=>by simp only[List.map_cons,Bm,Qo k r,Bs]
 | .vowel g::r=>by simp only[List.map_cons,List.map_nil,Bm,Qo k r,Bs]
theorem X9(k:Nat):∀l:aB,C_ (l.map λc=>(c,k,))=Ez l
 |[]=>rfl
 |[c]=>rfl
 |[a,b]=>by
  simp only[List.map_cons,List.map_nil,C_,Ez,true_and,Bool.and_eq_true]
 |a::b::c::r=>rfl
def Tw(k:Nat)(l:aAI):Prop:=∀x∈l,x.2<k
theorem Ty:∀(l:aAI)(P:Nat->Prop),(∀x∈l,P x.2)->(∀y∈(Bm l).1,P y.2)/\∀z∈(Bm l).2,P z.2.2/\∀y∈z.2.1,P y.2
 |[],P,_=>by simp[Bm]
 |(.cons c,w)::r,P,h=>by
  have a:=Ty r P λx hx=>gI;refine(hJ,a.2);simp only[Bm,List.mem_cons] at hy;rcases hy with rfl|hy
  .exact h (.cons c,w,) aC
  exact a.1 y hy
 |(.vowel g,w)::r,P,h=>by
  have a:=Ty r P λx hx=>gI;refine(by simp[Bm],lR);simp only[Bm,List.mem_cons] at hz;rcases hz with rfl|hz
  .exact(h (.vowel g,w,) aC,a.1)
  exact a.2 z hz
theorem XA:∀(l:iK)(z:cD)(k:Nat),(∀x∈l,∀y∈x.2.1,y.2<k)->(∀y∈z,y.2=k)->(Fy l z).map wv=Gf (sT wv) (C_ z)
 |[],_,_,_,_=>rfl
 |[x],z,k,h,hz=>by
  simp only[Fy,List.map_cons,List.map_nil,Gf,List.getLast?_singleton,List.dropLast_singleton,List.nil_append,wv];by_cases g:x.1=true
  .simp only[g,if_true,BE];split
   .rfl
   rfl
  simp only[g,Bool.false_eq_true,if_false];rw[Agz x.2.1 z k (h x aC) hz]
 |x::y::r,z,k,h,hz=>by
  have a:=XA jM z k (λq hq=>pA h q hq) hz;simp only[Fy,List.map_cons] at a⊢;rw[a];simp only[Gf,List.getLast?_cons_cons]
  cases e:(wv y::List.map wv r).getLast? with
  |none=>simp at e
  |some q=>simp
theorem Ag0(A:aAI)(k:Nat)(s:iJ)(ha:Tw k A):
 CZ ((Bm A).2.map wv,D7 (Bm A).2,) (DU s)=((Bm aHg).2.map wv,D7 (Bm aHg).2,):=by
 have a:=Ty A (·<k) ha;have hw:(cS).2.map (λx=>if x.1 then 3 else Ez x.2)=(mGE k).map wv:=by rw[AsB];apply AsU;intro x _;simp only[Function.comp,wv,X9]
 have hs:∀x∈(mGE k),x.2.2=k:=by grind
 by_cases e:(Bm A).2=[]
 .rw[mC Tr e,Qo];simp only[CZ,DU,e];simp only[List.map_nil,Gf,List.getLast?_nil,D7,List.nil_append,hw];by_cases b:(cS).2=[]
  .simp[b,D7]
  rw[mM aEz,Tv _ k hs aEz];simp
 rw[mC Ts e,Qo];simp only[CZ,DU];have hz:∀y∈(cS).1.map (λc=>(c,k,)),y.2=k:=by simp
 have d:=XA (Bm A).2 aKN k (λx hx=>(pI a.2).2) hz;rw[X9] at d;have f:=X8 (Fy (Bm A).2 aKN) (mGE k) k (λx hx=>by obtain⟨y,hy,q⟩:=mP X7 x hx;rw[q];exact(a.2 y hy).1) hs
 rw[X6] at f;simp only[f,List.map_append,d,hw];by_cases b:(cS).2=[]
 .simp[b,D7]
 rw[mM aEz,Tv _ k hs aEz];simp
def JO(k:Nat)(L:nG mZ Sound):List (Sound×Nat):=(L.zipIdx k).flatMap λw=>w.1.map λs=>(s,w.2,)
theorem XB:∀(L:nG mZ Sound)(k:Nat)(A:aAI),Tw k A->
 (L.map DU).foldl CZ ((Bm A).2.map wv,D7 (Bm A).2,)=((Bm (A++JO k L)).2.map wv,D7 (Bm (A++JO k L)).2,)
 |[],k,A,_=>by simp[JO]
 |s::r,k,A,h=>by
  rw[Asn,Ati,Ag0 A k s h];have hb:Tw (k+1) aHg:=by
   intro x hx;rcases pD hx with hx|hx
   .exact Au7 (pI h)
   grind
  rw[XB r (k+1) _ hb];simp[JO,List.zipIdx_cons,List.append_assoc]
theorem O1(l:Txt):dZ=(syllables l).map number:=by have h:=XB (left ((words l).map (sounds 0))) 0 [] (λ_ hx=>nomatch hx);simp only[Bm,List.map_nil,D7,List.nil_append] at h;unfold Ck To HV syllables;rw[h,Tq,X5];rfl
def Jc:Txt:=[45,117,124,44,59,46,48,49,50,51,52,53,54,55,56,57]
def Eh(b:Txt):Bool:=decide (1<=b.length)&&decide (b.length<=4)&&b.all aHh
def E1(Bz:dQ):Bool:=decide (Bz.length<=4)&&Bz.all Eh
def Jd(k:Nat):Txt:=if k<10 then[48+k] else[48+k/10,48+k%10]
def Fe(n:Nat):List Txt:=aAJ.map λi=>vF Jd
def Fz(l:dQ)(a:Txt):Option Nat:=l.findIdx? (·==a)
def EF(n:Nat)(b:Txt):Option gS:=match parts 46 b [] with
 |[f,p]=>match Fz (Fe n) f,Fz (Fe 4) p with
  |some x,some y=>mB (x,y,)
  |_,_=>none
 |_=>none
structure Bi where
 feet:List dQ
 cuts:cD
def B0(b:Txt):List dQ:=(rO 124 b).map λf=>rO 44 f
def EG(f:dU):Bool:=decide (f.length<=16)&&f.all E1
def JP(n:Nat)(l:dQ):Option cD:=
 if l.length<=8 then(if l.all (λt=>(EF n t).isSome) then mB (l.map λt=>(EF n t).getD (0,0,)) else none) else none
def Ho(a:dQ):Option Bi:=match a with
 |[f]=>if EG cY then mB (cY,[]) else none
 |[f,c]=>if EG cY then(match JP cY.length (rO 44 c) with
  |some k=>mB (cY,k)
  |none=>none) else none
 |_=>none
def Je(b:Txt):Option Bi:=if b.all aHi&&decide (1<=b.length)&&decide (b.length<=255) then Ho (rO 59 b) else none
def EH(t:Txt):List Bool:=t.map λc=>c==45
def E2(m:Bi):Measure:=(m.feet.map λf=>aCU,m.cuts.map λc=>(c.1+1,c.2+1,))
theorem Qp{f:α->oK β}{g:α->β}{p:α->Bool}(h:∀a,f a=if p a then oR g a else none):∀l:cM,l.mapM f=if l.all p then oR l.map g else none
 |[]=>rfl
 |a::r=>by
  rw[List.mapM_cons,h a,Qp h r];grind
theorem Ag1(b:Txt):way b=if Eh b then oR EH b else none:=by unfold way Eh EH;grind
theorem Ag2(b:Txt):foot b=if E1 (rO 44 b) then oR (rO 44 b).map EH else none:=by unfold foot;rw[Qp Ag1];unfold E1;grind
theorem XC(f:Txt):aHj.bind (λl=>if l.length<=16 then mB l else none)=if EG cY then mB (cY.map λw=>w.map EH) else none:=by
 rw[Qp Ag2];unfold EG B0;by_cases h:aCV.all (λa=>E1 (rO 44 a))=true
 .rw[mJ h];have h':List.all (aCV.map λf=>rO 44 f) E1=true:=(oL Atw h);simp only[Option.bind_some,List.length_map,h',Bool.and_true,decide_eq_true_eq,List.map_map];rfl
 rw[mM h];simp_all
theorem Tz(h:xK b=aW):b=Jd x/\1<=x/\x<=99:=by
 unfold digits at h;split at h
 .rename_i c;obtain⟨f,g,i,h4⟩:=c
  cases h
  match b,f,g with
  |[a],_,_=>
   simp at i;simp at h4;have e:mJu [a]=a - 48:=aC;rw[e];refine aKO;unfold Jd;rw[gT];congr 1;omega
  |[a,d],_,_=>
   simp at i;simp at h4;have e:mJu [a,d]=10*(a - 48)+(d - 48):=aC;rw[e];refine aKO;unfold Jd;grind
 cases h
theorem Ag3(a:1<=x)(b:x<=99):xK (Jd x)=some x:=by unfold digits Jd;grind
theorem Qq(a:n<=99)(b:Txt):Fz (Fe n) b=(xK b).bind λx=>if x<=n then mB (x - 1) else none:=by
 unfold Fz
 cases h:List.findIdx? (·==b) (Fe n) with
 |none=>
  rw[List.findIdx?_eq_none_iff] at h
  cases e:xK b with
  |none=>rfl
  |some x=>
   obtain⟨q,c,d⟩:=Tz e;simp only[Option.bind_some];by_cases hx:x<=n
   .have:=h b (Asx.mpr (x - 1,Atj.mpr aA,by rw[q,Nat.sub_add_cancel c]));simp at this
   rw[mM hx]
 |some i=>
  rw[AtQ] at h;obtain⟨f,e,_⟩:=h;have hi':i<n:=(by simpa[Fe] using f);have e':vF Jd=b:=(by simpa[Fe] using e);rw[<-e',Ag3 aA aA];grind
theorem Ag4(a:n<=99)(b:Txt):cutOf n b=if(EF n b).isSome then mB (((EF n b).getD (0,0,)).1+1,((EF n b).getD (0,0,)).2+1,) else none:=by
 unfold cutOf EF;split
 .rename_i f p ep;simp only[ep];rw[Qq a,Qq (by omega:4<=99)]
  cases c:xK f with
  |none=>simp
  |some x=>
   obtain⟨_,d,_⟩:=Tz c
   cases e:xK p with
   |none=>simp only[Option.bind_some,Option.bind_none];split<;>simp_all
   |some y=>
    obtain⟨_,g,_⟩:=Tz e;grind
 simp
theorem Ag5(hp:rO 59 b=a):Kgz1.measure b=(Ho a).map E2:=by
 unfold Kgz1.measure Ho;rw[hp]
 match a with
 |[]=>rfl
 |[f]=>
  simp only;have h:=XC f
  cases e:aHj with
  |none=>
   simp_all
  |some l=>
   rw[e] at h;simp at h⊢;by_cases d:l.length<=16
   .rw[mJ d] at h⊢;split at h
    .rename_i hf;rw[mJ hf]
     cases h
     rfl
    cases h
   grind
 |[f,c]=>
  simp only;have h:=XC f
  cases e:aHj with
  |none=>
   simp_all
  |some l=>
   rw[e] at h;simp at h⊢;by_cases d:l.length<=16
   .rw[mJ d] at h⊢;split at h
    .rename_i hf;rw[mJ hf]
     cases h
     simp at d⊢;rw[Qp (Ag4 aA)];unfold JP;by_cases g:(rO 44 c).length<=8
     .rw[mJ g];by_cases ha:(rO 44 c).all (λt=>(EF cY.length t).isSome)=true
      .rw[mJ ha,mJ ha];simp only[Option.bind_some,List.length_map,g,if_true,Option.map_some,E2,List.map_map];rfl
      rw[mM ha,mM ha];rfl
     grind
    cases h
   grind
 |_::_::_::_=>rfl
theorem KW(c:Nat):∀(b w:Txt)(x:Nat),(x∈b\/x∈w)->x=c\/∃p∈ aCW,x∈p
 |[],w,x,h=> mI (w,by simp[parts],by simpa using h)
 |d::r,w,x,h=>by
  unfold parts;by_cases e:d=c
  .rw[bV];rcases h with h|h
   .rcases oG h with rfl|h
    .exact mG e
    rcases mBg c r h with q|⟨p,hp,hx⟩
    .exact mG q
    exact mI (p,rM hp,hx)
   exact mI (mQ w AsG h)
  rw[bP];apply KW c r aCX x;grind
theorem XD(h:nJ EG cY):∀x∈f,mCM x=true:=by
 intro x hx;rcases mBg 124 f hx with rfl|⟨p,hp,a⟩
 .decide
 simp only[EG,B0,List.all_map,Bool.and_eq_true,List.all_eq_true] at h;have b:=h.2 p hp;simp only[Function.comp,E1,Bool.and_eq_true,List.all_eq_true] at b;rcases mBg 44 p a with rfl|⟨q,hq,c⟩
 .decide
 have d:=b.2 q hq;simp only[Eh,Bool.and_eq_true,List.all_eq_true] at d;have h4:=d.2 x c;simp at h4;rcases h4 with rfl|rfl<;>decide
theorem XE(h:xK f=mB n):∀x∈f,mCM x=true:=by
 intro x hx;unfold digits at h;split at h
 .rename_i c;have:=AsL.mp c.2.2.1 x hx;simp at this;have a:x=48\/x=49\/x=50\/x=51\/x=52\/x=53\/x=54\/x=55\/x=56\/x=57:=aA;rcases a with rfl|rfl|rfl|rfl|rfl|rfl|rfl|rfl|rfl|rfl<;>decide
 cases h
theorem Ag6(d:n<=99)(h:oZ (EF n c).isSome):∀x∈c,mCM x=true:=by
 intro x hx;unfold EF at h;split at h
 .rename_i f p e;rw[Qq d,Qq (by omega:4<=99)] at h
  cases g:xK f with
  |none=>rw[g] at h;simp at h
  |some a=>
   cases i:xK p with
   |none=>
    grind
   |some b=>
    rcases mBg 46 c hx with rfl|⟨q,hq,j⟩
    .decide
    rw[e] at hq;simp at hq;rcases hq with rfl|rfl
    .exact XE g x j
    exact XE i x j
 cases h
theorem Ag7(h:Ho (rO 59 b)=mB m):nJ b.all aHi:=by
 rw[AsL];intro x hx;rcases mBg 59 b hx with rfl|⟨p,hp,a⟩
 .decide
 unfold Ho at h;split at h
 .rename_i f e;rw[e] at hp;simp at hp;subst hp;split at h
  .rename_i hf;exact XD hf x a
  cases h
 .rename_i f c e;rw[e] at hp;simp at hp;split at h
  .rename_i hf;rcases hp with rfl|rfl
   .exact XD hf x a
   have hle:cY.length<=99:=by simp only[EG,Bool.and_eq_true,decide_eq_true_eq] at hf;omega
   split at h
   .rename_i k hk;unfold JP at hk;split at hk
    .split at hk
     .rename_i ha;rcases mBg 44 p a with rfl|⟨q,hq,d⟩
      .decide
      exact Ag6 hle (AsL.mp ha q hq) x d
     cases hk
    cases hk
   cases h
  cases h
 cases h
theorem T1(b:Txt):measured b.length b=(Je b).map E2:=by
 unfold measured Je;by_cases a:b.length<1\/255<b.length
 .grind
 rw[mM a,Ag5 rfl];by_cases ha:b.all aHi=true
 .grind
 rw[Asa (by intro q;simp only[Bool.and_eq_true] at q;exact ha q.1.1)]
 cases e:Ho (rO 59 b) with
 |none=>rfl
 |some m=>exact nK (Ag7 e) ha
structure Bi.Ok(m:Bi):Prop where
 KY:m.feet.length<=16
 Qr:1<=m.feet.length
 Bz:∀f∈m.feet,f.length<=4/\1<=f.length/\∀w∈f,Eh w=true
 Ag8:m.cuts.length<=8
 cuts:∀c∈m.cuts,c.1<m.feet.length/\c.2<4
 size:(m.feet.map λf=>aBI.foldl (·+·) 0).foldl (·+·) 0<=255
theorem Qs(c:Nat):∀b w,1<= aCW.length
 |[],w=>by simp[parts]
 |d::r,w=>by
  unfold parts;split
  .simp
  exact Qs c r _
theorem XF(h:Fz l a=mB i):aEA:=by unfold Fz at h;rw[AtQ] at h;exact h.1
def AM(l:aB):Nat:=l.foldl (·+·) 0
theorem C7(a:Nat)(l:aB):AM (a::l)=a+AM l:=by unfold AM;rw[Ati,Tt];omega
theorem My(c:Nat):∀b w,yT aCW.map<=b.length+w.length
 |[],w=>by simp[parts,AM]
 |d::r,w=>by
  unfold parts;split
  .rw[Asn,C7];have:=My c r [];grind
  have:=My c r aCX;grind
theorem Qt:∀l:cM,(∀x∈l,f x<=g x)->AM (sT f)<=AM (sT g)
 |[],_=>aD
 |a::r,h=>by
  rw[Asn,Asn,C7,C7];have b:=hK;have c:=Qt r λx hx=>gI;omega
theorem XG(f:Txt):AM (cY.map λw=>yT w.map)<=f.length:=by
 have e:cY.map (λw=>yT w.map)=aCV.map λx=>AM (mAn (rO 44 x).map):=by unfold B0;rw[AsB];rfl
 rw[e];have a:=Qt (f:=λx=>yT (rO 44 x).map) (g:=List.length) aCV (λx _=>by have:=My 44 x [];simpa using this)
 have b:=My 124 f [];grind
theorem XH(h:nJ EG cY):cY.length<=16/\1<= cY.length/\∀x∈ cY,x.length<=4/\1<=x.length/\∀w∈x,Eh w=true:=by
 simp only[EG,Bool.and_eq_true,decide_eq_true_eq,List.all_eq_true] at h;refine(h.1,5,eA)
 .unfold B0;rw[ArX];exact Qs 124 f []
 have a:=pI h.2;simp only[E1,Bool.and_eq_true,decide_eq_true_eq,List.all_eq_true] at a;refine(a.1,5,a.2);obtain⟨y,_,rfl⟩:=nY hx;exact Qs 44 y []
theorem T2(h:Je b=mB m):m.Ok:=by
 unfold Je at h;split at h
 .rename_i hb;simp at hb;have hs:=My 59 b [];unfold Ho at h;split at h
  .rename_i f e;split at h
   .rename_i hf
    cases h
    obtain⟨a,d,g⟩:=XH hf;refine(a,d,g,9,9,5);have:=XG f;rw[e] at hs;simp only[List.map_cons,List.map_nil,C7,List.length_nil] at hs;simp only[AM] at this hs⊢;omega
   cases h
  .rename_i f c e;split at h
   .rename_i hf;obtain⟨a,d,g⟩:=XH hf;split at h
    .rename_i k hk
     cases h
     unfold JP at hk;split at hk
     .rename_i i;split at hk
      .rename_i ha
       cases hk
       refine(a,d,g,by simpa using i,eA,5)
       .obtain⟨t,j,rfl⟩:=nY hx;have hq:=AsL.mp ha t j;unfold EF at hq⊢;split at hq
        .rename_i l n ep;rw[ep] at*;simp only at hq⊢
         cases o:Fz (Fe cY.length) l with
         |none=>rw[o] at hq;cases hq
         |some x=>
          cases p:Fz (Fe 4) n with
          |none=>rw[o,p] at hq;cases hq
          |some y=>
           have q:=XF o;have r:=XF p;simp only[Fe,List.length_map,List.length_range] at q r;grind
        cases hq
       have:=XG f;rw[e] at hs;simp only[List.map_cons,List.map_nil,C7,List.length_nil] at hs;simp only[AM] at this hs⊢;omega
      cases hk
     cases hk
    cases h
   cases h
  cases h
 cases h
def Ct(a:aB)(w:Txt)(at':Nat):Bool:=decide (at'+w.length<=a.length)&&(w.zip (a.drop at')).all λx=>x.2%4 != aKP
def Ei(cuts:cD)(a:aB)(foot:Nat)(w:Txt)(at':Nat):Bool:=cuts.any λc=>c.1==foot&&decide (c.2<w.length)&&decide (4<=a.getD (at'+c.2) 0)
def Bz(cuts:cD)(a:aB):dU ->Nat->Nat->Bool-> bW
 |[],_,at',Am=>if at'=a.length/\Am=true then[[]] else[]
 |f::r,i,at',Am=>f.zipIdx.flatMap λw=>if Ct a w.1 at' then(Bz cuts a r (i+1) (at'+w.1.length) (Am||Ei cuts a i w.1 at')).map (w.2::·) else[]
def Jf(cuts:cD)(a:aB):dU ->Nat->Nat-> aB ->Bool
 |f::r,i,at',j::t=>Ei cuts a i aHk at'||Jf cuts a r (i+1) (at'+aHk.length) t
 |_,_,_,_=>false
theorem Ag9(s:Syl):number s%4=Hm s.kind:=by
 rw[Tu]
 cases s.kind<;>cases s.ends<;>rfl
theorem AgA(s:Syl):decide (4<=number s)=s.ends:=by
 rw[Tu]
 cases s.kind<;>cases s.ends<;>rfl
theorem AgB(k:Kind)(b:Bool):fits k b=(Hm k != (if b=true then 0 else 1)):=by
 cases k<;>cases b<;>rfl
theorem AgC(s:mZ Syl)(w:Txt)(a:Nat)(ha:a<=s.length):
 Ct aBJ w a=(decide ((EH w).length<= aCY.length)&&((EH w).zip aCY).all λx=>fits x.2.kind x.1):=by
 unfold Ct;congr 1
 .simp only[List.length_map,List.length_drop,EH];apply At0.mpr;omega
 rw[<-List.map_drop];generalize s.drop a=d;unfold EH
 induction w generalizing d with
 |nil=>simp
 |cons c w b=>
  cases d with
  |nil=>simp
  |cons x d=>
   simp only[List.map_cons,List.zip_cons_cons,List.all_cons,b d];congr 1;rw[AgB,Ag9];simp only[beq_iff_eq]
theorem AgD(f:dQ)(j:Nat):aCU.getD j []=EH aHk:=by
 simp
 cases f[j]? <;>simp[EH]
theorem XI(w:Txt):uJ EH w w.length:=by simp[EH]
theorem AgE{l:cM}{x:α}(h:(x,j,)∈l.zipIdx):pO l[j]? x:=by grind
theorem XJ:∀{l:cM},(∀x∈l,f x=g x)->l.flatMap f=l.flatMap g
 |[],_=>rfl
 |a::r,h=>by
  rw[Au8,Au8,hK,XJ λx hx=>gI]
theorem XL(cuts:cD)(s:mZ Syl):∀(r:dU)(i a:Nat)(Am:Bool),a<=s.length->
 Bz cuts aBJ r i a Am=(takes (r.map λf=>aCU) aCY).filter λt=>Am||Jf cuts aBJ r i a t
 |[],i,a,Am,ha=>by
  simp only[Bz,List.map_nil,takes,List.length_map];by_cases h:a=s.length
  .have hd:aCY=[]:=(pP h);rw[mJ hd]
   cases Am<;>simp[h,Jf]
  have hd:¬ aCY=[]:=by intro q;have:=yU q;grind
  rw[mM hd,vQ h q.1];rfl
 |f::r,i,a,Am,ha=>by
  simp only[Bz,List.map_cons,takes];rw[AvB];have e:aCU.zipIdx=f.zipIdx.map λw=>(EH w.1,w.2,):=(qO List.zipIdx_map);rw[e,List.flatMap_map];apply XJ;intro w hw;have hg:f.getD w.2 []=w.1:=by grind
  have hf:=AgC s w.1 a ha;by_cases c:Ct aBJ w.1 a=true
  .have hle:a+w.1.length<=s.length:=by
    simp only[Ct,Bool.and_eq_true,decide_eq_true_eq,List.length_map] at c;exact c.1
   rw[mJ c];rw[c] at hf;have b:=hf.symm;simp only[Bool.and_eq_true,decide_eq_true_eq] at b;rw[mJ b,XL cuts s r (i+1) (a+w.1.length) _ hle,AvJ,XI,List.filter_map];congr 1;apply Av_;intro t _;simp only[Function.comp,Jf,hg];rw[Bool.or_assoc]
  grind
def HW(r:dU)(t:aB):List Nat:=(r.zip t).map λx=>(x.1.getD x.2 []).length
def O2(b:aB)(sz:aB)(i a:Nat)(c:gS):Bool:=decide (i<=c.1)&&(decide (c.2<sz.getD (c.1 - i) 0)&&decide (4<=tT (a+AM (sz.take (c.1 - i))+c.2)))
theorem T3(f g:α->Bool):∀l:cM,(l.any λx=>f x||g x)=(l.any f||l.any g)
 |[]=>rfl
 |a::r=>by simp only[List.any_cons,T3 f g r];cases f a<;>cases g a<;>cases r.any f<;>rfl
theorem Mz:∀{l:cM},(∀x∈l,f x=g x)->l.any f=l.any g
 |[],_=>rfl
 |a::r,h=>by rw[Ata,Ata,hK,Mz λx hx=>gI]
theorem Qu:∀{l:cM},(mGF f)->l.any f=false
 |[],_=>rfl
 |a::r,h=>by rw[Ata,hK,Qu λx hx=>gI];rfl
theorem XM(cuts:cD)(b:aB):∀(r:dU)(i a:Nat)(t:aB),Jf cuts b r i a t=cuts.any (O2 b (HW r t) i a)
 |[],i,a,t=>by
  simp only[Jf];exact aKQ.symm
 |f::r,i,a,[]=>by
  simp only[Jf];exact aKQ.symm
 |f::r,i,a,j::t=>by
  simp only[Jf];rw[XM cuts b r (i+1) _ t,Ei,<-T3];apply Mz;intro c _;simp only[O2,HW,List.zip_cons_cons,List.map_cons];by_cases h:c.1=i
  .have e:¬(i+1<=c.1):=aA;have g:c.1 - i=0:=aA;have k:i<=c.1:=aA;have h4:oZ (c.1==i):=fB;rw[mT e,g,h4,mW k];simp only[Bool.true_and,Bool.false_and,Bool.or_false,List.getD_cons_zero,List.take_zero,AM,List.foldl_nil,Nat.add_zero];rfl
  have h0:pH (c.1==i):=fB;rw[h0];by_cases g:i<=c.1
  .obtain⟨d,hd⟩:∃d,c.1 - i=d+1:=(mBh c.1 i);have l:c.1 - (i+1)=d:=aA;have k:i+1<=c.1:=aA;simp only[hd,l,g,k,decide_true,Bool.true_and,Bool.false_and,Bool.false_or,List.getD_cons_succ,List.take_succ_cons,C7,Nat.add_assoc]
  grind
theorem AgF(m:Bi)(s:mZ Syl)(t:aB):cutsOk (E2 m) s t=(m.cuts.isEmpty||Jf m.cuts aBJ m.feet 0 0 t):=by
 unfold cutsOk;rw[XM];simp only[E2];congr 1
 .cases m.cuts<;>rfl
 rw[List.any_map];apply Mz;intro c _;simp only[Function.comp,place,O2,Nat.add_sub_cancel,Nat.zero_le,decide_true,Bool.true_and,Nat.sub_zero,Nat.zero_add];have e:((m.feet.map λf=>aCU).zip t).map (λx=>(x.1.getD x.2 []).length)=HW m.feet t:=by rw[List.zip_map_left,AsB];apply AsU;intro x _;simp only[Function.comp,Prod.map,AgD,XI,id]
 rw[e];by_cases h:c.2+1<=(HW m.feet t).getD c.1 0
 .have h':c.2<(HW m.feet t).getD c.1 0:=h;rw[mJ h];have a:List.foldl (·+·) 0 aHl+(c.2+1) - 1=AM aHl+c.2:=(by unfold AM;omega);simp only[a,h',decide_true,Bool.true_and];rw[Asv,ArY]
  cases s[AM aHl+c.2]? with
  |none=>rfl
  |some x=>
   simp;exact(AgA x).symm
 grind
theorem T4(m:Bi)(s:mZ Syl):scans (E2 m) s=Bz m.cuts aBJ m.feet 0 0 m.cuts.isEmpty:=by rw[XL m.cuts s m.feet 0 0 _ aT];rw[Atv];apply Av_;intro t _;exact AgF m s t
theorem T5:∀(l:cM)(n:Nat),aHm.map Prod.fst=l
 |[],_=>rfl
 |a::r,n=>by rw[Awh,Asn,T5 r]
def cw(cuts:cD)(b:aB)(r:dU)(i a:Nat)(Am:Bool)(w:Txt):Nat:=
 if uK w then aKR.length else 0
theorem XN(f:α->mZ β):∀l:cM,(l.flatMap f).length=AM (l.map λx=>(f x).length)
 |[]=>rfl
 |a::r=>by rw[Au8,Asi,XN f r,Asn,C7]
theorem XO(cuts:cD)(b:aB)(f:dQ)(r:dU)(i a:Nat)(Am:Bool):
 aHn.length=AM (f.map aCZ):=by
 simp only[Bz];rw[XN];congr 1;have:f.map aCZ=f.zipIdx.map (aCZ ∘Prod.fst):=by rw[<-AsB,T5]
 rw[this];apply AsU;intro w _;simp only[Function.comp,cw];split<;>simp
theorem XQ(g:α×Nat->mZ β):∀(l:cM)(n j k:Nat)(x:α),l[j]? =aW ->k<(g (x,n+j,)).length->
 (aHm.flatMap g)[AM ((aHm.take j).map λw=>(g w).length)+k]? =(g (x,n+j,))[k]?
 |[],n,j,k,x,h,_=>by simp at h
 |a::r,n,0,k,x,h,hk=>by
  simp at h;subst h;rw[Awh,Au8];simp only[List.take_zero,List.map_nil,AM,List.foldl_nil,Nat.zero_add,Nat.add_zero] at hk⊢;rw[Ask hk]
 |a::r,n,j+1,k,x,h,hk=>by
  have e:n+(j+1)=n+1+j:=aA;rw[e] at hk⊢;have b:=XQ g r (n+1) j k x fB hk;rw[Awh,Au8,Auf,Asn,C7];grind
theorem AgG(cuts:cD)(b:aB)(f:dQ)(r:dU)(i a:Nat)(Am:Bool)(j k:Nat)(w:Txt)(hj:f[j]? =mB w)(hk:k<cw cuts b r i a Am w):
 aHn[AM ((xL j).map aCZ)+k]? =
  (aKR[k]?).map (j::·):=by
 have hf:uK w=true:=by
  unfold cw at hk;split at hk
  .assumption
  omega
 have h:=XQ (λ(w:Txt×Nat)=>if uK w.1 then aHo else[]) f 0 j k w hj (by simp only[hf,if_true,List.length_map];unfold cw at hk;rw[mJ hf] at hk;exact hk)
 simp only[hf,if_true,Nat.zero_add,List.getElem?_map] at h;rw[<-h];have e:AM ((xL j).map aCZ)=AM ((f.zipIdx.take j).map λw=>(if uK w.1 then aHo else[]).length):=by
  congr 1;have:xL j=(f.zipIdx.take j).map Prod.fst:=by rw[AuM,T5]
  rw[this,AsB];apply AsU;intro w _;simp only[Function.comp,cw];split<;>simp
 rw[e];rfl
theorem AgH(cuts:cD)(b:aB)(f:dQ)(r:dU)(i a:Nat)(Am:Bool)(hf:∀w∈f,1<=w.length)(ha:b.length<=a):aHn=[]:=by simp only[Bz];rw[Avc];intro w hw;rw[Asa];intro q;simp only[Ct,Bool.and_eq_true,decide_eq_true_eq] at q;grind
theorem XR(n:Nat):∀l:aB,(mEm n)->AM l<=l.length*n
 |[],_=>by simp[AM]
 |a::r,h=>by
  rw[C7,As1,Nat.succ_mul];have b:=hK;have c:=XR n r λx hx=>gI;omega
theorem T6(n:Nat):n≠0↔∃i,n.testBit i=true:=by
 constructor
 .intro h;exact Nat.exists_testBit_of_ne_zero h
 rintro⟨i,a⟩ rfl;simp at a
theorem M0(a b:Nat):a&&&b≠0↔∃i,xM i=true/\qB i=true:=by rw[T6];simp[Nat.testBit_and]
structure BR where
 AW:Nat
 cuts:Nat
 inner:Nat
 BP:List gS
 F0:Nat
 Ej:Nat
 Ek:Nat
 first:Nat
 done:Nat
def BR.B2(T:BR)(len:Nat):Nat:=if len=0 then T.F0 else if len=1 then T.Ej else T.Ek
def Ch(a b:Nat):Nat:=a^^^lS
theorem Hq(a b i:Nat):(Ch a b).testBit i=(xM i&& !b.testBit i):=by
 unfold Ch;rw[AuR,Atd]
 cases xM i<;>cases qB i<;>rfl
def Dt(T:BR)(P len:Nat)(a:Bool):Nat:=
 if P&&&jN=0 then 0 else
 let st:=if a then mBi (P&&&jN)|||aKS else P&&&T.B2 len
 T.BP.foldl kN ((st&&&T.inner)<<<1)
def before(T:BR)(P len:Nat)(a:Bool):Nat:=
 if P=0 then 0 else
 let st:=T.BP.foldl (mEn P d.2 d.1) ((P>>>1)&&&T.inner)
 (if a then mBi st|||(mGG st) else st)&&&jN
def Gh(T:BR)(a:Bool)(x:Nat):Nat:=if a=true/\ aHp=true then x+T.AW else x
def Qv(T:BR)(len:Nat)(a:Bool)(x y:Nat):Prop:=
 jN.testBit x=true/\((T.inner.testBit aAK=true/\y=aAK+1)\/∃d∈T.BP,d.1.testBit aAK=true/\d.2.testBit y=true)
theorem T7(c:Nat×Nat->Prop)[DecidablePred c](g:Nat×Nat->Nat)(y:Nat):∀(ds:cD)(r:Nat),
 (ds.foldl (λr d=>if c d then r|||g d else r) r).testBit y=true↔(yV y=true\/∃d∈ds,c d/\(g d).testBit y=true)
 |[],r=>by simp
 |d::ds,r=>by
  rw[Ati,T7 c g y ds];by_cases h:c d
  .rw[mJ h,Ate,Atx];constructor
   .rintro((q|q)|⟨e,he,q⟩)
    .exact mG q
    .exact mI (d,9,h,q)
    exact mI (e,rM he,q)
   rintro(q|⟨e,he,a,b⟩)
   .exact nG mG q
   rcases oG he with rfl|he
   .exact mG (mI b)
   exact mI (e,he,a,b)
  rw[mM h];constructor
  .rintro(q|⟨e,he,q⟩)
   .exact mG q
   exact mI (e,rM he,q)
  rintro(q|⟨e,he,a,b⟩)
  .exact mG q
  rcases oG he with rfl|he
  .exact nK a h
  exact mI (e,he,a,b)
theorem AgI(T:BR)(S:Nat)(a:Bool)(z:Nat):
 (if a then mBi S|||((S&&&T.cuts)<<<T.AW) else S).testBit z=true↔∃x,S.testBit x=true/\ aAK=z:=by
 cases a with
 |false=>simp[Gh]
 |true=>
  simp only[if_true,Nat.testBit_or,Hq,Nat.testBit_shiftLeft,Nat.testBit_and,Bool.or_eq_true,Bool.and_eq_true,Bool.not_eq_true',decide_eq_true_eq,Gh,true_and];constructor
  .rintro(⟨b,c⟩|⟨b,c,d⟩)
   .exact(z,b,by rw[Asa];simp[c])
   refine(z - T.AW,c,5);rw[mJ d];omega
  rintro⟨x,b,c⟩;by_cases hc:aHp=true
  .rw[mJ hc] at c;subst c;right;refine(4,53)
   .rw[At6];exact b
   rw[At6];exact hc
  rw[mM hc] at c;subst c;left;exact(b,by simpa using hc)
theorem Qw(T:BR)(P len:Nat)(a:Bool)(y:Nat):(Dt T P len a).testBit y=true↔∃x,xN x=true/\Qv T len a x y:=by
 unfold Dt;by_cases h0:P&&&jN=0
 .rw[mJ h0];constructor
  .intro h;simp at h
  rintro⟨x,b,c,_⟩;exfalso;exact(M0 P jN).mpr (mQ x b c) h0
 rw[mM h0];simp only;generalize e:(if a=true then mBi (P&&&jN)|||aKS else P&&&jN)=S;have hm:∀z,S.testBit z=true↔∃x,(xN x=true/\ jN.testBit x=true)/\ aAK=z:=by intro z;rw[<-e,AgI];simp[Nat.testBit_and]
 rw[T7 (λd=>S&&&d.1≠0) (λd=>d.2)];rw[Atr,Atd];simp only[Bool.and_eq_true,decide_eq_true_eq];constructor
 .rintro(⟨b,c,f⟩|⟨d,hd,b,c⟩)
  .obtain⟨x,⟨g,i⟩,j⟩:=(hm _).mp c;exact(x,g,i,mG (by rw[j];exact f,4))
  obtain⟨z,k,l⟩:=(M0 _ _).mp b;obtain⟨x,⟨g,i⟩,j⟩:=(hm _).mp k;exact(x,g,i,mI (d,hd,by rw[j];exact l,c))
 rintro⟨x,g,i,(⟨b,c⟩|⟨d,hd,b,c⟩)⟩
 .left;subst c;refine(4,53)
  .rw[At6];exact(hm _).mpr (xO x (g,i))
  rw[At6];exact b
 right;exact(d,hd,(M0 _ _).mpr (aAK,(hm _).mpr (xO x (g,i)),b),c)
theorem Qx(T:BR)(P len:Nat)(a:Bool)(x:Nat):(before T P len a).testBit x=true↔∃y,xN y=true/\Qv T len a x y:=by
 unfold before;by_cases h0:P=0
 .rw[mJ h0];constructor
  .intro h;simp at h
  rintro⟨y,b,_⟩;rw[h0] at b;simp at b
 rw[mM h0];simp only;generalize c:(T.BP.foldl (mEn P d.2 d.1) ((P>>>1)&&&T.inner))=S;have hm:∀z,S.testBit z=true↔(xN (z+1)=true/\T.inner.testBit z=true)\/∃d∈T.BP,(mGH xN d.2.testBit)/\d.1.testBit z=true:=by intro z;rw[<-c,T7 (λd=>P&&&d.2≠0) (λd=>d.1)];simp only[Nat.testBit_and,Nat.testBit_shiftRight,Bool.and_eq_true,M0,Nat.add_comm 1 z]
 have hb:(if a=true then mBi S|||(mGG S) else S).testBit x=S.testBit aAK:=by
  cases a with
  |false=>simp[Gh]
  |true=>
   simp only[if_true,Nat.testBit_or,Hq,Nat.testBit_and,Nat.testBit_shiftRight,Gh,true_and]
   cases hc:aHp with
   |true=>simp[Nat.add_comm]
   |false=>simp
 rw[Atd,hb,AsF,hm];constructor
 .rintro⟨(⟨b,e⟩|⟨d,hd,⟨y,f,g⟩,e⟩),hf⟩
  .exact(_,b,hf,xP e rfl)
  exact(y,f,hf,mI (d,hd,e,g))
 rintro⟨y,hy,hf,(⟨b,e⟩|⟨d,hd,b,e⟩)⟩
 .subst e;exact(xP hy b,hf)
 exact(mI (d,hd,(mQ y hy e),b),hf)
structure Bq where
 foot:Nat
 way:Txt
 place:Nat
def CD(i:Nat)(w:Txt):List Bq:=aC0.map λp=>(mQ i w p)
def Bd(i:Nat)(f:dQ):List Bq:=f.flatMap (CD i)
def cellsFrom:Nat-> dU -> fY
 |_,[]=>[]
 |i,f::r=>cZ++vF mCN
def AN(p:gU):Nat-> fY ->Nat
 |_,[]=>0
 |b,c::r=>(if p c then 1<<<b else 0)|||AN p (b+1) r
theorem M3(p:gU):∀(cs:fY)(b x:Nat),(tU cs).testBit x=true↔b<=x/\∃c,cs[x - b]? =bT /\p c=true
 |[],b,x=>by simp[AN]
 |c::r,b,x=>by
  simp only[AN,Nat.testBit_or,Bool.or_eq_true,M3 p r (b+1) x];have a:(if p c=true then 1<<<b else 0).testBit x=true↔(x=b/\p c=true):=by
   split
   .rename_i h;rw[AsE,AtP];simp[h];omega
   rename_i h;simp[h]
  rw[a];constructor
  .rintro(⟨rfl,h⟩|⟨h,d,hd,hp⟩)
   .exact(aD,c,9,h)
   refine(4,d,5,hp);obtain⟨k,hk⟩:∃k,x - b=k+1:=(mBh x b);have:x - (b+1)=k:=aA;rw[hk,AtM,<-this];exact hd
  rintro⟨h,d,hd,hp⟩;by_cases e:x=b
  .subst e;left;simp at hd;subst hd;exact(2,hp)
  right;refine(4,d,5,hp);obtain⟨k,hk⟩:∃k,x - b=k+1:=(mBh x b);have:x - (b+1)=k:=aA;rw[hk,AtM] at hd;rw[this];exact hd
theorem Qy(p:gU):∀(A B:fY)(b:Nat),tU kM=tU A|||AN p aEB B
 |[],B,b=>by simp[AN]
 |c::r,B,b=>by
  rw[At8];simp only[AN,Qy p r B (b+1),List.length_cons];rw[Nat.or_assoc,show b+1+r.length=b+(r.length+1) by omega]
theorem JQ(p:gU)(cs:fY)(b:Nat):tU cs<2 ^ (b+cs.length):=by
 apply Atn;intro i a
 cases h:(tU cs).testBit i with
 |false=>rfl
 |true=>
  obtain⟨d,c,e,_⟩:=(M3 p cs b i).mp h;have:=(nL e).1;omega
theorem AgJ(p:gU)(cs:fY)(b:Nat):tU cs=AN p 0 cs<<<b:=by
 apply Atg;intro i;rw[Atr];have a:=M3 p cs b i;have c:=M3 p cs 0 (i - b);simp at c;by_cases hb:b<=i
 .have hd:decide (i>=b)=true:=cH;rw[hd,AtS];rw[Aty,a,c];simp[hb]
 have hd:decide (i>=b)=false:=cH;rw[hd,At5]
 cases h:(tU cs).testBit i with
 |false=>rfl
 |true=>exact nK (a.mp h).1 hb
theorem AgK(p:gU)(A B:fY)(b:Nat):tU kM=tU A+AN p aEB B:=by rw[Qy,AgJ p B aEB];rw[Awi,Avu (AN p 0 B),Nat.or_comm,<-(Nat.two_pow_add_eq_or_of_lt (JQ p A b) (AN p 0 B))];omega
def Gi(c:Bq):Bool:=c.place+1==c.way.length
def HX(c:Bq):Bool:= !Gi c
def Du(c:Bq):Bool:=aHq==45
def Dh(c:Bq):Bool:=c.place==0
def El(cuts:cD)(c:Bq):Bool:=cuts.any λx=>x.1==c.foot&&x.2==c.place
def Br:Nat->Nat-> dU -> aB
 |_,_,[]=>[]
 |i,b,f::r=>AN Dh b cZ::mGI Br
def DI:Nat->Nat-> dU -> aB
 |_,_,[]=>[]
 |i,b,f::r=>AN Gi b cZ::mGI DI
def DJ(h n:Nat):Nat:=n|||(n<<<h)
def FD(h:Nat):cD -> cD
 |[]=>[]
 |(e,s)::r=>(e,s,)::(e<<<h,s<<<h,)::FD h r
def An(m:Bi):List Bq:=cellsFrom 0 m.feet
def Aj(m:Bi):BR:=
 let size:=aU.length;let Gj:=mAo Br++[1<<<size]
 {AW:=size+1
  cuts:=AN aEC 0 aU
  inner:=DJ aAL (AN HX 0 aU)
  BP:=FD aAL (aBK.zip Gj.tail)
  F0:=aKT^^^DJ aAL kO
  Ej:=DJ aAL kO
  Ek:=aKT
  first:=if m.cuts=[] then(Gj.headD 0)<<<aAL else Gj.headD 0
  done:=(1<<<size)<<<aAL}
def B5(h:Nat)(q:Nat)(Am:Bool):Nat:=q+if Am then h else 0
theorem M4(a:n<2 ^ h)(hq:q<h)(Am:Bool):(DJ h n).testBit (B5 h q Am)=n.testBit q:=by
 unfold DJ B5;rw[Ate,Atr]
 cases Am with
 |false=>
  have:decide (q+0>=h)=false:=dR;simp[this];omega
 |true=>
  have b:qP n.testBit (q+h):=At1 (yW a);simp[b]
theorem KZ:∀(r:dU)(i:Nat)(c:Bq),c∈mCN i->∃k f,r[k]? =mB f/\c.foot=i+k/\c.way∈f/\c.place<c.way.length
 |[],i,c,h=>by simp[cellsFrom] at h
 |f::r,i,c,h=>by
  simp only[cellsFrom,List.mem_append] at h;rcases h with h|h
  .simp only[Bd,List.mem_flatMap,CD,List.mem_map,List.mem_range] at h;obtain⟨w,hw,p,hp,rfl⟩:=h;exact(64,f,9,9,hw,hp)
  obtain⟨k,g,a,b,d⟩:=KZ r (i+1) c h;exact(k+1,g,by simpa using a,4,d)
theorem XS(h:c∈ cZ):c.foot=i:=by simp only[Bd,List.mem_flatMap,CD,List.mem_map] at h;obtain⟨w,hw,p,hp,rfl⟩:=h;rfl
theorem T8(p:gU)(F:Nat->Nat-> dU -> aB)
 (h0:∀i b,F i b []=[]) (a:∀i b f r,F i b (f::r)=tU cZ::mGI F):
 ∀(r:dU)(i b k s q:Nat),(F i b r)[k]? =mB s->(mGJ p)
 |[],i,b,k,s,q,h=>by rw[h0] at h;simp at h
 |f::r,i,b,0,s,q,h=>by
  rw[a] at h;simp at h;subst h;rw[M3];simp only[cellsFrom,Nat.add_zero];constructor
  .rintro⟨hb,c,hc,hp⟩;exact(hb,c,by rw[Ask (nL hc).1];exact hc,XS (Asl hc),hp)
  rintro⟨hb,c,hc,hf,hp⟩;refine(hb,c,5,hp);by_cases d:q - b<cZ.length
  .rw[Ask d] at hc;exact hc
  rw[eN] at hc;obtain⟨k,_,_,e,_⟩:=KZ r (i+1) c (Asl hc);omega
 |f::r,i,b,k+1,s,q,h=>by
  rw[a] at h;simp at h;rw[T8 p F h0 a r (i+1) _ k s q h];simp only[cellsFrom];constructor
  .rintro⟨hb,c,hc,hf,hp⟩;refine aKU;rw[eN,<-hc];congr 1;omega
  rintro⟨hb,c,hc,hf,hp⟩;by_cases d:q - b<cZ.length
  .rw[Ask d] at hc;have:=XS (Asl hc);omega
  rw[eN] at hc;refine aKU;rw[<-hc];congr 1;omega
theorem XT(h:aED[k]? =mB s):mGJ Dh:=
 T8 Dh Br fD aHr r i b k s q h
theorem AgL(h:aEE[k]? =mB s):mGJ Gi:=
 T8 Gi DI fD aHr r i b k s q h
theorem O3:∀(r:dU)(i b:Nat),aED.length=r.length
 |[],_,_=>rfl
 |f::r,i,b=>by simp only[Br,List.length_cons,O3 r]
theorem XU:∀(r:dU)(i b:Nat),aEE.length=r.length
 |[],_,_=>rfl
 |f::r,i,b=>by simp only[DI,List.length_cons,XU r]
theorem Qz:∀{l:cD},d∈FD h l↔∃x∈l,d=x\/d=(x.1<<<h,x.2<<<h,)
 |[]=>by simp[FD]
 |(e,s)::r=>by
  simp only[FD,List.mem_cons,Qz (l:=r)];constructor
  .rintro(q|q|⟨x,hx,q⟩)
   .exact((e,s,),bA,mG q)
   .exact((e,s,),bA,mI q)
   exact(x,mI hx,q)
  rintro⟨x,(rfl|hx),q⟩
  .rcases q with q|q
   .exact mG q
   exact mI (mG q)
  exact nG mI (mQ x hx q)
theorem T9:∀(r:dU)(i q:Nat)(c:Bq),(mCN i)[q]? =bT ->c.place+1<c.way.length->(mCN i)[q+1]? =some aEF:=by
 have hw:∀(i:Nat)(w:Txt)(q:Nat)(c:Bq),aBL[q]? =bT ->q<w.length/\c=(mQ i w q):=by
  intro i w q c h;unfold CD at h;rw[ArY] at h
  cases e:aC0[q]? with
  |none=>rw[e] at h;cases h
  |some z=>
   rw[e] at h;obtain⟨a,b⟩:=nL e;simp at a;simp at b;subst b
   cases h
   exact(a,2)
 have d:∀(i:Nat)(w:Txt),aBL.length=w.length:=(by intro i w;simp[CD]);have hf:∀(f:dQ)(i q:Nat)(c:Bq),cZ[q]? =bT ->c.place+1<c.way.length-> cZ[q+1]? =some aEF:=by
  intro f
  induction f with
  |nil=>intro i q c h;simp[Bd] at h
  |cons w f g=>
   intro i q c h hp;have e:Bd i (w::f)=aBL++Bd i f:=(by simp[Bd]);rw[e] at h⊢;by_cases hq:q<aBL.length
   .rw[Ask hq] at h;obtain⟨_,rfl⟩:=hw i w q c h;simp only at hp⊢;have j:q+1<aBL.length:=(oL d hp);rw[Ask j];unfold CD;rw[ArY,AsY hp];rfl
   rw[eN] at h;have:=g i _ c h hp;rw[eN,<-this];congr 1;omega
 intro r
 induction r with
 |nil=>intro i q c h;simp[cellsFrom] at h
 |cons f r g=>
  intro i q c h hp;simp only[cellsFrom] at h⊢;by_cases hq:q<cZ.length
  .rw[Ask hq] at h;have a:=hf f i q c h hp;rw[Ask (nL a).1];exact a
  rw[eN] at h;have:=g (i+1) _ c h hp;rw[eN,<-this];congr 1;omega
theorem AgM(r:dU)(i k:Nat)(f:dQ)(w:Txt)(hf:r[k]? =mB f)(hw:w∈f)(a:1<=w.length):∃q:Nat,(mCN i)[q]? =some (Bq.mk (i+k) w 0):=by
 have hm:((i+k,w,64):Bq)∈cellsFrom i r:=by
  induction r generalizing i k with
  |nil=>simp at hf
  |cons g r b=>
   simp only[cellsFrom,List.mem_append]
   cases k with
   |zero=>
    simp at hf;subst hf;left;simp only[Bd,List.mem_flatMap,CD,List.mem_map,List.mem_range];exact(w,hw,64,a,2)
   |succ k=>
    right;have:=b (i+1) k (mR hf);rw[show i+1+k=i+(k+1) by omega] at this;exact this
 obtain⟨q,hq,e⟩:=Asy hm;exact(q,by rw[mK hq,e])
def C8(T:BR):aB ->Nat->Prop
 |[],x=>T.done.testBit x=true
 |s::r,x=>∃y,Qv T (s%4) (decide (4<=s)) x y/\C8 T r y
def JR(len:Nat)(c:Bq):Bool:=if len=0 then !Du c else if len=1 then Du c else true
def Q0(m:Bi)(i q:Nat):Prop:=(i<m.feet.length/\∃c,aU[q]? =bT /\c.foot=i/\Dh c=true)\/(i=m.feet.length/\q=aU.length)
def TB(m:Bi)(i:Nat)(r:aB)(Am:Bool):Prop:=∃q,Q0 m i q/\C8 aH r fE
section
variable (m:Bi)
theorem TC(p:gU):AN p 0 aU<2 ^ bX:=by have h:=JQ p aU 0;rw[AsZ] at h;exact yW h
theorem K_(p:gU)(q:Nat):(AN p 0 aU).testBit q=true↔∃c,aU[q]? =bT /\p c=true:=by rw[M3];simp
theorem AgN(n q:Nat):((1<<<n) - 1).testBit q=decide (q<n):=by rw[AsE,Aui]
theorem AgO(n:Nat):(1<<<n) - 1<2 ^ (n+1):=by rw[AsE];have:2 ^ n<=2 ^ (n+1):=As5 aA aA;have:=AuS n;omega
theorem XV(Am:Bool)(hq:q<aH.AW):(aH.B2 len).testBit fE=true↔∃c,aU[q]? =bT /\JR len c=true:=by
 have a:aHs.testBit fE=kO.testBit q:=M4 (TC m Du) hq Am;have he:aEG.testBit fE=decide (q<aU.length):=by rw[show aEG.testBit fE=aC1.testBit q from M4 (AgO _) hq Am,AgN]
 unfold BR.B2 JR;by_cases h0:len=0
 .rw[mJ h0];show(aEG^^^aHs).testBit _=true↔_;rw[AuR,a,he];simp only[h0,if_true];constructor
  .intro h;by_cases b:q<aU.length
   .refine(_,mK b,5);rw[mW b] at h
    cases hc:Du aU[q] with
    |false=>rfl
    |true=>
     rw[(K_ m Du q).mpr (_,mK b,hc)] at h
     cases h
   rw[mT b] at h;have:nJ kO.testBit q:=fB;obtain⟨c,hc,_⟩:=(K_ m Du q).mp this;exact nK (nL hc).1 b
  rintro⟨c,hc,a⟩;rw[mW (nL hc).1]
  cases hb:kO.testBit q with
  |false=>rfl
  |true=>
   obtain⟨d,hd,e⟩:=(K_ m Du q).mp hb;rw[hc] at hd;cases hd;rw[e] at a;cases a
 rw[mM h0];by_cases f:len=1
 .rw[mJ f];show aHs.testBit _=true↔_;rw[a,K_];simp only[f,Nat.one_ne_zero,if_false,if_true]
 rw[mM f];show aEG.testBit _=true↔_;rw[he];simp only[h0,f,if_false,and_true,decide_eq_true_eq];constructor
 .intro h;exact(_,mK h)
 rintro⟨c,hc⟩;exact(nL hc).1
theorem AgP(a Am:Bool)(hc:aC2):Gh aH a fE=B5 aH.AW q (Am||(a&&mBj c)):=by
 have b:aH.cuts=AN aEC 0 aU:=rfl;unfold Gh
 cases Am with
 |true=>
  have:qP aH.cuts.testBit (uL q true):=by rw[b];apply At1;refine Ass (TC m _) (As5 aA ?_);show aU.length+1<=q+bX;omega
  rw[mM (pP this)];rfl
 |false=>
  have hb:uL q false=q:=rfl;rw[hb,b,Bool.false_or]
  cases he:a with
  |false=>simp[B5]
  |true=>
   cases e:mBj c with
   |true=>
    rw[mJ (2,(K_ m _ q).mpr (mQ c hc e))];simp[B5]
   |false=>
    rw[Asa]
    .simp[B5]
    rintro⟨_,h⟩;obtain⟨d,hd,f⟩:=(K_ m _ q).mp h;rw[hc] at hd;cases hd;rw[e] at f;cases f
theorem AgQ(Am:Bool)(hc:aC2):aH.inner.testBit fE=HX c:=by
 have hq:=(nL hc).1;have:aH.inner.testBit fE=(AN HX 0 aU).testBit q:=M4 (TC m HX) aKV Am;rw[this,Aty,K_];constructor
 .rintro⟨d,hd,h⟩;rw[hc] at hd;cases hd;exact h
 intro h;exact(mQ c hc h)
theorem XW(h:(cV.tail)[k]? =mB s)(q:Nat):s.testBit q=true↔Q0 m (k+1) q:=by
 rw[List.getElem?_tail] at h;by_cases hk:k+1<m.feet.length
 .rw[Ask (oL O3 hk)] at h;rw[XT h];simp;constructor
  .intro x;exact xP hk x
  rintro(⟨_,x⟩|⟨x,_⟩)
  .exact x
  omega
 rw[Aso (qQ O3),O3] at h;have h0:k+1 - m.feet.length=0:=by
  cases e:k+1 - m.feet.length with
  |zero=>rfl
  |succ z=>rw[e] at h;simp at h
 rw[h0] at h;simp at h;subst h;rw[AsE,AtP];simp;constructor
 .intro x;exact mI (4,x.symm)
 rintro(⟨x,_⟩|⟨_,x⟩)
 .omega
 exact x.symm
theorem AgR(h:∀q,s.testBit q=true->q<B):s<2 ^ B:=by
 apply Atn;intro i a
 cases e:s.testBit i with
 |false=>rfl
 |true=>have:=h i e;omega
theorem AgS(Am:Bool)(hc:aC2)(y:Nat):
 (∃d∈ aH.BP,d.1.testBit fE=true/\d.2.testBit y=true)↔(Gi c=true/\∃a,Q0 m (c.foot+1) a/\y=uL a Am):=by
 have hq:=(nL hc).1;have b:aH.AW=aU.length+1:=rfl;have hd:aH.BP=FD aH.AW (mGK m):=rfl;have ends:∀(k e:Nat),aBK[k]? =mB e->∀q,e.testBit q=true↔∃c,aU[q]? =bT /\c.foot=k/\Gi c=true:=by intro k e h q;rw[AgL h];simp;rfl
 have elt:∀(k e:Nat),aBK[k]? =mB e->e<2 ^ aH.AW:=by intro k e h;apply AgR;intro z hz;obtain⟨c,hc,_⟩:=(ends k e h z).mp hz;have:=(nL hc).1;omega
 rw[hd];constructor
 .rintro⟨d,hd,g,i⟩;obtain⟨x,hx,j⟩:=Qz.mp hd;obtain⟨k,hk,l⟩:=Asy hx;obtain⟨he,hs⟩:=AuT.mp (mBk hk l);have key:x.1.testBit q=true/\∃a,x.2.testBit a=true/\y=B5 aH.AW a Am:=by
   rcases j with rfl|rfl
   .cases Am with
    |false=>exact(g,y,i,2)
    |true=>
     exfalso;have:qP d.1.testBit (uL q true):=by apply At1;refine Ass (elt k _ he) (As5 aA ?_);show aH.AW<=q+aH.AW;omega
     rw[this] at g;cases g
   rw[Atr] at g i;simp at g i
   cases Am with
   |false=>
    exfalso;have:q>= aH.AW:=g.1;omega
   |true=>
    refine(5,y - aH.AW,i.2,5)
    .have:=g.2;simp only[B5,if_true,Nat.add_sub_cancel] at this;exact this
    simp only[B5,if_true];omega
  obtain⟨n,a,o,p⟩:=key;obtain⟨r,hc',hf,u⟩:=(ends k _ he q).mp n;rw[hc] at hc';cases hc';refine(u,a,5,p);rw[hf];exact(XW m hs a).mp o
 rintro⟨u,a,hs,rfl⟩;obtain⟨k,f,v,A,_⟩:=aEH;rw[AsZ] at A;have B:=(nL v).1;obtain⟨C,he⟩:∃e:Nat,aBK[k]? =some e:=(_,mK (show k<aBK.length by rw[XU];exact B));obtain⟨D,E⟩:∃s:Nat,(cV.tail)[k]? =some s:=(_,mK (show k<cV.tail.length by simp[O3];omega));have hz:=(AuT (z:=(C,D,))).mpr (he,E);have hm:=Asl hz;have b1:=(ends k _ he q).mpr (c,hc,A,u);have G:=(XW m E a).mpr (tV A hs)
 cases Am with
 |false=>exact(_,Qz.mpr (_,hm,bA),b1,G)
 |true=>
  refine(_,Qz.mpr (_,hm,eB),53)
  .simp only[B5,if_true,Nat.testBit_shiftLeft,Nat.add_sub_cancel,b1,Bool.and_true,decide_eq_true_eq];omega
  simp only[B5,if_true,Nat.testBit_shiftLeft,Nat.add_sub_cancel,G,Bool.and_true,decide_eq_true_eq];omega
theorem TD(Am:Bool)(s:Nat)(r:aB)(hc:aC2):
 C8 aH (s::r) fE ↔(JR (s%4) c=true/\
  if c.place+1=c.way.length then TB m (c.foot+1) r (mAp c) else C8 aH r (uL (q+1) (mAp c))):=by
 have hq:=(nL hc).1;have a:aH.AW=aU.length+1:=rfl;simp only[C8,Qv];rw[(XV m (len:=s%4) Am (q:=q) aA),AgP m _ Am hc,AgQ m _ hc];simp only[AgS m _ hc];constructor
 .rintro⟨y,⟨⟨b,hc',d⟩,h⟩,ha⟩;rw[hc] at hc';cases hc';refine(oS d);rcases h with⟨e,rfl⟩|⟨f,g,hs,rfl⟩
  .rw[mM (by simpa[HX,Gi] using e)];rw[show uL q (mAp c)+1=B5 aH.AW (q+1) (mAp c) by unfold B5;omega] at ha;exact ha
  rw[mJ (by simpa[Gi] using f)];exact(mQ g hs ha)
 rintro⟨d,h⟩;by_cases hp:c.place+1=c.way.length
 .rw[mJ hp] at h;obtain⟨g,hs,ha⟩:=h;exact(_,((mQ c hc d),mI (by simpa[Gi] using hp,g,hs,2)),ha)
 rw[mM hp] at h;refine(_,((mQ c hc d),mG (by simpa[HX,Gi] using hp,2)),5);rw[show uL q (mAp c)+1=B5 aH.AW (q+1) (mAp c) by unfold B5;omega];exact h
theorem TF(Am:Bool)(hc:aC2):¬C8 aH [] fE:=by
 have hq:=(nL hc).1;show¬(lT<<<bX).testBit _=true;rw[Atr,AsE,AtP];show¬(decide (q+(mCO Am)>= aU.length+1)&&decide (aU.length=q+(mCO Am) - bX))=true
 cases Am<;>simp<;>omega
def O4(b:aB)(i:Nat)(w:Txt)(p a:Nat):Bool:=m.cuts.any λc=>c.1==i&&decide (p<=c.2)&&decide (c.2<w.length)&&decide (4<=tT (a+(c.2 - p)))
theorem XX(b:aB):∀(n:Nat)(q a:Nat)(c:Bq)(Am:Bool),c.way.length - c.place=n->c.place<c.way.length-> aU[q]? =bT ->
 (C8 aH aC3 fE ↔(mEo b c.place a=true/\TB m (c.foot+1) (b.drop (a+aHt)) (Am||mGL c.place a)))
 |0,q,a,c,Am,d,hp,hc=>by omega
 |n+1,q,a,c,Am,d,hp,hc=>by
  by_cases ha:a<b.length
  .have hd:=As8 ha;have f:tT a=b[a]:=(vR Asv ha);have g:aHq=c.way[c.place]:=(vR Asv hp);have i:JR (b[a]%4) c=(mJv b[a]):=by
    have h4:b[a]%4=0\/b[a]%4=1\/2<=b[a]%4:=aA;unfold JR Du;rw[g];by_cases j:c.way[c.place]=45
    .rcases h4 with h4|h4|h4
     .simp[h4,j]
     .simp[h4,j]
     have k:b[a]%4≠0:=aA;have l:b[a]%4≠1:=aA;simp[k,l,j]
    rcases h4 with h4|h4|h4
    .simp[h4,j]
    .simp[h4,j]
    have k:b[a]%4≠0:=aA;have l:b[a]%4≠1:=aA;simp[k,l,j]
   rw[hd,TD m Am _ _ hc,i];have o:mGL c.place a=((decide (4<=b[a])&&mBj c)||aHu):=by
    unfold O4 El;rw[<-f];have:(decide (4<=tT a)&&m.cuts.any λx=>x.1==c.foot&&x.2==c.place)=m.cuts.any λx=>decide (4<=tT a)&&(x.1==c.foot&&x.2==c.place):=by
     cases decide (4<=tT a) with
     |true=>simp
     |false=>simp
    rw[this,<-T3];apply Mz;intro x _;by_cases e:x.2=c.place
    .have k:¬(c.place+1<=x.2):=aA;have l:c.place<=x.2:=aA;have p:oZ (x.2==c.place):=hL;have r:x.2 - c.place=0:=aA;rw[mT k,mW l,mW aA,p,r,Nat.add_zero]
     cases (x.1==c.foot)<;>cases decide (4<=tT a)<;>rfl
    have p:pH (x.2==c.place):=hL;have s:decide (c.place<=x.2)=decide (c.place+1<=x.2):=aC4;rw[p,s]
    cases (x.1==c.foot)<;>cases decide (4<=tT a)<;>simp
   rw[o];have u:mEo b c.place a=((mJv b[a])&&mEo b kP (a+1)):=by unfold Ct;rw[hd,(As8 hp)];simp only[List.zip_cons_cons,List.all_cons,List.length_cons];rw[show decide (a+(aKW+1)<=b.length)=decide (a+1+aKW <=b.length) from aC4];rw[<-Bool.and_assoc,Bool.and_comm (decide _),Bool.and_assoc]
   rw[u];by_cases v:c.place+1=c.way.length
   .rw[mJ v];have y:c.way.drop kP=[]:=(pP v);have z:mEo b kP (a+1)=true:=by
     rw[y];simp[Ct];omega
    have A:pH aHu:=by
     apply Qu;intro x _;by_cases e:c.place+1<=x.2
     .have k:¬x.2<c.way.length:=aA;rw[mT k];simp
     rw[mT e];simp
    rw[z,A,Bool.and_true,Bool.or_false,show a+aHt=a+1 by omega]
   rw[mM v];have B:=XX b n (q+1) (a+1) aEF (Am||(decide (4<=b[a])&&mBj c)) aKX (by show c.place+1<c.way.length;omega) aKY;simp only at B;rw[B,AsF];have C:mGL kP (a+1)=aHu:=by
    apply Mz;intro x _;by_cases e:c.place+1<=x.2
    .rw[show a+1+(x.2 - kP)=a+(x.2 - c.place) by omega]
    rw[mT e];simp
   rw[C,Bool.or_assoc,show a+1+(c.way.length - kP)=a+aHt by omega,and_assoc]
  have hd:aC3=[]:=dR;rw[hd];constructor
  .intro h;exact nK h (TF m Am hc)
  rintro⟨h,_⟩;exfalso;simp only[Ct,Bool.and_eq_true,decide_eq_true_eq,List.length_drop] at h;omega
theorem XY(d:aB)(a q:Nat)(Am:Bool)(ha:a<=d.length)(hq:q=aU.length):C8 aH (d.drop a) fE ↔(a=d.length/\Am=true):=by
 have e:∀b:Bool,aH.done.testBit (uL q b)=b:=by
  intro b;show(lT<<<bX).testBit (q+(mCO b))=b;rw[Atr,AsE,AtP,hq]
  cases b with
  |true=>simp
  |false=>
   have:decide (aU.length+(if false=true then aU.length+1 else 0)>= aU.length+1)=false:=aC;rw[this];rfl
 by_cases he:a=d.length
 .have hd:d.drop a=[]:=(pP he);rw[hd];simp only[C8,e,he,true_and]
 have hd:d.drop a=d[a]' aA::d.drop (a+1):=As8 aA;rw[hd];constructor
 .rintro⟨y,⟨hf,_⟩,_⟩;rw[XV m Am aKV] at hf;obtain⟨c,hc,_⟩:=hf;have:=(nL hc).1;omega
 rintro⟨h,_⟩;exact nK h he
theorem TH(b:aB)(ok:m.Ok):∀(n i a:Nat)(Am:Bool),m.feet.length - i=n->i<=m.feet.length->a<=b.length->(TB m i aC3 Am↔mGM i≠[])
 |0,i,a,Am,d,e,ha=>by
  have hd:m.feet.drop i=[]:=dR;rw[hd];simp only[Bz];constructor
  .rintro⟨q,hs,h⟩;rcases hs with⟨hs,_⟩|⟨_,hq⟩
   .omega
   rw[mJ ((XY m b a q Am ha hq).mp h)];simp
  intro h;refine(_,mI (4,2),(XY m b a _ Am ha rfl).mpr ?_);by_cases hc:a=b.length/\Am=true
  .exact hc
  rw[mM hc] at h;exact rB h
 |n+1,i,a,Am,d,e,ha=>by
  have g:wJ i:=aA;have hd:=As8 g;have hlen:∀w∈m.feet[i],1<=w.length:=by intro w hw;have:=((mCP ok.Bz i g).2.2) w hw;simp only[Eh,Bool.and_eq_true,decide_eq_true_eq] at this;exact this.1.1
  have step:∀q w,aU[q]? =mB (mQ i w 0)->w∈m.feet[i]->(C8 aH aC3 fE ↔(uK w=true/\mGN mGO≠[])):=by
   intro q w hc hw;have h:=XX m b w.length q a (mQ i w 0) Am rfl (hlen w hw) hc;simp at h;rw[h];have l:O4 m b i w 0 a=Ei m.cuts b i w a:=by apply Mz;intro x _;simp
   rw[l];constructor
   .rintro⟨o,p⟩;have hle:mGP a:=aKZ;exact(o,aK0.mp p)
   rintro⟨o,p⟩;have hle:mGP a:=aKZ;exact(o,aK0.mpr p)
  rw[hd];simp only[Bz];constructor
  .rintro⟨q,hs,h⟩;rcases hs with⟨_,c,hc,hf,r⟩|⟨hs,_⟩
   .obtain⟨k,f,o,p,s,h4⟩:=aEH;have hk:k=i:=aA;subst hk;have u:f=m.feet[k]:=(by rw[mK g] at o;exact(Ase o).symm);subst u;have hc':pO aU[q]? (mQ k c.way 0):=by
     rw[hc];have v:c.place=0:=(by simpa[Dh] using r);rw[<-v,<-hf]
    obtain⟨g1,g2⟩:=(step q c.way hc' s).mp h;intro y;rw[Avc] at y;obtain⟨j,hj,A⟩:=Asy s;have hz:(c.way,j,)∈m.feet[k].zipIdx:=by rw[List.mem_zipIdx_iff_getElem?];simp only;rw[cT,A]
    have:=y _ hz;rw[mJ g1,At2] at this;exact g2 this
   omega
  intro h;have:∃w∈m.feet[i].zipIdx,(if uK w.1=true then(mGO (a+w.1.length) (Am||mBl i w.1)).map (w.2::·) else[])≠[]:=by apply Awc;intro B;apply h;rw[Avc];intro w hw;apply Awc;intro C;exact B (mQ w hw C)
  obtain⟨w,hw,C⟩:=this;have D:=Asl (AgE (x:=w.1) (j:=w.2) hw);split at C
  .rename_i E;obtain⟨q,hq⟩:=AgM m.feet 0 i m.feet[i] w.1 (mK g) D (hlen w.1 D);rw[AsZ] at hq;exact(q,mG (g,_,hq,26),(step q w.1 hq D).mpr (E,(λz=>C (qO z))))
  exact rB C
theorem XZ(ok:m.Ok)(a:aB):(∃x,aH.first.testBit x=true/\C8 aH a x)↔mAq a≠[]:=by
 have h:=TH m a ok m.feet.length 0 0 m.cuts.isEmpty aA aT aT;rw[Atv,Atv] at h;rw[<-h];have hp:=ok.Qr;have b:∃s,(mAo Br)[0]? =mB s/\ lU=s:=by
  cases e:m.feet with
  |nil=>rw[e] at hp;simp at hp
  |cons f r=>exact aAM
 obtain⟨s,hs,c⟩:=b;have hb:∀q,s.testBit q=true↔Q0 m 0 q:=by
  intro q;rw[XT hs];simp;constructor
  .intro x;exact xP hp x
  rintro(⟨_,x⟩|⟨x,_⟩)
  .exact x
  omega
 have d:aH.first=if m.cuts=[] then s<<<aH.AW else s:=by show(if m.cuts=[] then lU<<<bX else lU)=_;rw[c];rfl
 rw[d];by_cases hc:m.cuts=[]
 .rw[mJ hc];have he:oZ m.cuts.isEmpty:=(qO hc);rw[he];constructor
  .rintro⟨x,hx,ha⟩;rw[Atr,AsF,Aup] at hx;refine(x - aH.AW,(hb _).mp hx.2,5);have:uL (x - aH.AW) true=x:=(by simp only[B5,if_true];omega);rw[this];exact ha
  rintro⟨q,hq,ha⟩;refine(_,5,ha);simp only[B5,if_true,Nat.testBit_shiftLeft,Nat.add_sub_cancel,(hb q).mpr hq,Bool.and_true,decide_eq_true_eq];omega
 rw[mM hc];have he:pH m.cuts.isEmpty:=(mR hc);rw[he];constructor
 .rintro⟨x,hx,ha⟩;exact(x,(hb x).mp hx,ha)
 rintro⟨q,hq,ha⟩;exact(q,(hb q).mpr hq,ha)
end
def M5:Txt:=[97,101,105,111,117,121,65,69,73,79,85,89]
def FF:List Txt:=[[97,101],[97,117],[111,101],[101,117]]
def Dp(s:Txt):Bool:=decide (aC5 ∈M5)
def HY(s:Txt):Bool:=decide (s∈FF)||(decide (s.length=1)&&isCapital aC5)
def GM(s:Txt):Prop:=(∃c,s=[c]/\isLetter c=true)\/∃c d,s=[c,d]/\ aCQ=true
theorem X_(c:Nat):isVowel c=true↔c∈([97,101,105,111,117,121]:aB):=by unfold isVowel;rw[List.contains_iff_mem]
theorem Q3(c:Nat):isCapital c=true↔c∈([65,69,73,79,85,89]:aB):=by unfold isCapital;rw[List.contains_iff_mem]
theorem AgT(c:Nat):decide (c∈M5)=(isVowel c||isCapital c):=by rw[Aty];simp only[decide_eq_true_eq,Bool.or_eq_true,X_,Q3];unfold M5;grind
theorem Q4(c d:Nat):aCQ=true↔[c,d]∈FF:=by unfold isPair FF;simp
theorem Q5(h:GM s):BO s=if Dp s then .vowel (HY s) else .cons aC5:=by
 rcases h with⟨c,rfl,_⟩|⟨c,d,rfl,h⟩
 .have hp:¬([c]:Txt)∈FF:=(by unfold FF;simp);unfold BO Dp HY;rw[mT hp];rw[AgT];by_cases a:isVowel c=true
  .have b:qP isCapital c:=by
    rw[Bool.eq_false_iff];intro q;rw[X_] at a;rw[Q3] at q;simp at a q;omega
   simp[a,b]
  simp_all
 have hm:=(Q4 c d).mp h;have e:decide (c∈M5)=true:=by unfold FF at hm;simp at hm;rcases hm with⟨rfl,_⟩|⟨rfl,_⟩|⟨rfl,_⟩|⟨rfl,_⟩<;>decide
 unfold BO Dp HY;grind
theorem La:∀(p:Nat)(w:Txt),w.all isLetter=true->∀s∈Cg p w,GM s
 |_,[],_,s,h=>by simp[Cg] at h
 |p,[c],hw,s,h=>by
  simp at hw;simp only[Cg] at h;split at h
  .simp at h
  simp at h;exact mG (mQ c h hw)
 |p,c::d::r,hw,s,h=>by
  simp only[List.all_cons,Bool.and_eq_true] at hw;have a:=hw.2.2;have b:nJ kL.all isLetter:=(by simp[hw.2.1,a]);simp only[Cg] at h;split at h
  .rename_i hp;split at h
   .exact La d r a s h
   rcases oG h with rfl|h
   .exact mI (c,d,2,hp)
   exact La d r a s h
  split at h
  .exact La c kL b s h
  rcases oG h with rfl|h
  .exact mG (mQ c rfl hw.1)
  exact La c kL b s h
theorem Q6:∀(p:Nat)(w:Txt),(Cg p w).length<=w.length
 |_,[]=>by simp[Cg]
 |p,[c]=>by simp only[Cg];split<;>simp
 |p,c::d::r=>by
  have a:=Q6 d r;have b:=Q6 c kL;simp at b;simp only[Cg];grind
def GN(l:Txt)(i:Nat):Nat:=if i=0 then 0 else l.getD (i - 1) 0
def GO(l:Txt)(i:Nat):Bool:=Ge (GN l i) (l.getD i 0)
def D8(l:Txt)(i:Nat):Txt:=if aEI ∈FF then aEI else[l.getD i 0]
theorem AgU(l:Txt)(i:Nat):1<= kQ.length/\ kQ.length<=2:=by
 unfold D8;split
 .rename_i h;unfold FF at h;grind
 simp
theorem AgV(l:Txt)(i:Nat)(a:aEA):i+kQ.length<=l.length:=by unfold D8;grind
theorem AgW(l:Txt)(i:Nat)(a:aEA):mEp i=(if GO l i then[] else[kQ])++Cg (GN l (i+kQ.length)) (l.drop (i+kQ.length)):=by
 have hd:=As8 a;have hg:l.getD i 0=l[i]:=(vR Asv a);have b:GN l (i+1)=l[i]:=(by unfold GN;rw[fC,At6,hg]);by_cases c:i+1<l.length
 .have d:=As8 c;have e:l.getD (i+1) 0=l[i+1]:=(vR Asv c);have f:GN l (i+2)=l[i+1]:=(by unfold GN;rw[fC,show i+2 - 1=i+1 by omega,e]);have g:aEI=[l[i],l[i+1]]:=(yX hd d);rw[hd,d];simp only[Cg];by_cases hp:isPair l[i] l[i+1]=true
  .have hs:kQ=[l[i],l[i+1]]:=(by unfold D8;rw[g,mJ ((Q4 _ _).mp hp)]);rw[mJ hp,hs];show _=_++mEp (i+2);rw[f];unfold GO;rw[hg];split<;>rfl
  have hs:kQ=[l[i]]:=(by unfold D8;rw[g,vQ hp ((Q4 _ _).mpr q),hg]);rw[mM hp,hs];show _=_++vF mEp;rw[b,d];unfold GO;rw[hg];split<;>rfl
 have he:vF l.drop=[]:=dR;have g:aEI=[l[i]]:=(yX hd he);have hs:kQ=[l[i]]:=by unfold D8;rw[g,mM (by unfold FF;simp),hg]
 rw[hd,he,hs];show Cg _ [l[i]]=_++vF mEp;rw[he];simp only[Cg];unfold GO;rw[hg];split<;>simp
def JS:aCS ->Nat-> aCS
 |[],_=>[]
 |[x],c=>[(x.1,x.2++[c],)]
 |x::y::r,c=>x::JS jM c
theorem TJ:∀(s:iJ)(g:Bool),Bs aHv=((cS).1,(cS).2++[(g,[],)],)
 |[],g=>rfl
 | .cons c::r,g=>by simp only[List.cons_append,Bs,TJ r g]
 | .vowel b::r,g=>by simp only[List.cons_append,Bs,TJ r g]
theorem TK:∀(s:iJ)(c:Nat),Bs aHw=if(cS).2=[] then((cS).1++[c],[],) else((cS).1,JS (cS).2 c,)
 |[],c=>rfl
 | .cons b::r,c=>by
   have a:=TK r c;simp only[List.cons_append,Bs,a];grind
 | .vowel g::r,c=>by
   have a:=TK r c;simp only[List.cons_append,Bs,a];split
   .rename_i h;simp[h,JS]
   rename_i h;simp only[reduceCtorEq,if_false]
   cases e:(Bs r).2 with
   |nil=>exact nK e h
   |cons y q=>simp[JS]
def DK(s:iJ):List aB:=(cS).1::(cS).2.map (·.2)
def EI(s:iJ):List Bool:=(cS).2.map (·.1)
theorem Ya:∀(l:aCS)(c:Nat),(JS l c).map (·.1)=aAN
 |[],_=>rfl
 |[x],_=>rfl
 |x::y::r,c=>by simp only[JS,List.map_cons,Ya jM c]
theorem Yb:∀(l:aCS)(c:Nat),l≠[]->(JS l c).map (·.2)=(sT (·.2)).dropLast++[((sT (·.2)).getLast?.getD [])++[c]]
 |[],_,h=>rB h
 |[x],_,_=>rfl
 |x::y::r,c,_=>by
  have:=Yb jM c aC;simp only[JS,List.map_cons] at this⊢;rw[this];simp
theorem AgX(s:iJ)(g:Bool):DK aHv=DK s++[[]]/\EI aHv=EI s++[g]:=by unfold DK EI;rw[TJ];simp
theorem AgY(s:iJ)(c:Nat):DK aHw=(DK s).dropLast++[((DK s).getLast?.getD [])++[c]]/\EI aHw=EI s:=by
 unfold DK EI;rw[TK];split
 .rename_i h;simp[h]
 rename_i h;refine(5,Ya _ _);rw[mC Yb h]
 cases e:(cS).2.map (·.2) with
 |nil=>exact nK e fB
 |cons y q=>simp
theorem AgZ(s:iJ):DU s=(Ez ((DK s).headD []),mJw (EI s) (DK s).tail):=by
 unfold DU DK EI;simp only[List.headD_cons,List.tail_cons,BU.mk.injEq,true_and];generalize (cS).2=l
 induction l with
 |nil=>rfl
 |cons x r a=>simp
end Vf
namespace Vf
open Kgz1
theorem Q7:∀(l w:Txt),splitOn l w=(parts 32 l w).filter λp=> !p.isEmpty
 |[],w=>by
  cases w<;>simp[splitOn,parts]
 |c::r,w=>by
  unfold splitOn parts;by_cases h:c=32
  .rw[mJ h,mJ h]
   cases w with
   |nil=>simp[Q7 r []]
   |cons x y=>simp[Q7 r []]
  rw[mM h,mM h];exact Q7 r (w++[c])
theorem TM(l:Txt):words l=(rO 32 l).filter λp=> !p.isEmpty:=Q7 l []
theorem TN(c:Nat):∀(b w:Txt)(p:Txt),p∈ aCW ->∀x∈p,x∈b\/x∈w
 |[],w,p,h,x,hx=>by
  simp only[parts,List.mem_singleton] at h;subst h;exact mI hx
 |d::r,w,p,h,x,hx=>by
  unfold parts at h;split at h
  .rcases oG h with rfl|h
   .exact mI hx
   rcases TN c r [] p h x hx with q|q
   .exact mG (rM q)
   simp at q
  rcases TN c r aCX p h x hx with q|q
  .exact mG (rM q)
  grind
theorem TQ(c:Nat):∀(b w:Txt),(∀x∈w,x≠c)->∀p∈ aCW,∀x∈p,x≠c
 |[],w,hw,p,h=>by
  simp only[parts,List.mem_singleton] at h;subst h;exact hw
 |d::r,w,hw,p,h=>by
  unfold parts at h;split at h
  .rcases oG h with rfl|h
   .exact hw
   exact TQ c r [] aC p h
  rename_i hd;refine TQ c r aCX eA p h;grind
theorem Ag_(h:nJ okLine l):∀p∈words l,p.all isLetter=true:=by intro p hp;rw[TM] at hp;have a:=(AtO.mp hp).1;rw[AsL];intro x hx;have b:=TQ 32 l [] aC p a x hx;have c:=TN 32 l [] p a x hx;simp at c;have d:=AsL.mp h x c;grind
end Vf
namespace Vf
open Kgz1
def Hr(ss:dQ):List Txt:=match ss.reverse with
 |[]=>ss
 |a::r=>if Dp a then r.reverse else match r with
  |[]=>ss
  |b::q=>if a=[109]/\Dp b=true then q.reverse else ss
theorem Q8(h:GM s):(∃g,BO s= .vowel g)↔Dp s=true:=by
 rw[Q5 h];by_cases e:Dp s=true
 .simp[e]
 simp[e]
theorem TR(h:GM s)(a:qP Dp s):BO s= .cons aC5 /\s=[aC5]:=by
 refine(by rw[Q5 h,a];rfl,5);rcases h with⟨c,rfl,_⟩|⟨c,d,rfl,h⟩
 .rfl
 exfalso;have:=Q5 (.inr (c,d,2,h):GM [c,d]);rw[a] at this;simp[BO] at this
theorem Aha(h:aEJ):(Hr ss).map BO=cut hM:=by
 unfold Hr cut;rw[<-List.map_reverse];have c:∀s∈ss.reverse,GM s:=λs hs=>h s (List.mem_reverse.mp hs)
 cases e:ss.reverse with
 |nil=>simp
 |cons a r=>
  rw[e] at c;have ha:=c a aC;simp;by_cases d:Dp a=true
  .obtain⟨g,hg⟩:=(Q8 ha).mpr d;rw[hg,mJ d];simp
  have f:qP Dp a:=(mR d);obtain⟨hc,hs⟩:=TR ha f;rw[hc,mM d]
  cases r with
  |nil=>
   simp
  |cons b q=>
   have hb:=c b aC;simp only[List.map_cons];by_cases i:a=[109]/\Dp b=true
   .rw[mJ i];obtain⟨g,hg⟩:=(Q8 hb).mpr i.2;rw[hg,i.1];simp
   rw[mM i];split
   .rename_i z;simp at z
   .rename_i g z j;exfalso;simp only[List.cons.injEq] at j;obtain⟨k,l,_⟩:=j;apply i;injection k with m
    refine(by rw[hs,m],(Q8 hb).mp (pX l))
   rfl
theorem Ahb(h:s∈Hr ss):s∈ss:=by unfold Hr at h;grind
theorem Ahc(ss:dQ):mBm Hr ss ss.length:=by have a:ss.reverse.length=ss.length:=AvC;unfold Hr;grind
theorem Ahd(r:dQ)(a:Txt):Hr (r++[a])=if Dp a then r else if a=[109]/\(∃b,r.getLast?=mB b/\Dp b=true) then r.dropLast else r++[a]:=by
 unfold Hr;rw[List.reverse_append];simp;split
 .rfl
 rcases AsR r with rfl|⟨q,b,rfl⟩
 .simp
 simp
def GP(ss:dQ):Nat:=match ss with
 |[]=>0
 |a::_=>if Dp a then 1 else 0
theorem Yc(h:aEJ):(GP ss=1)=(nJ begins hM)/\GP ss<=1:=by
 cases ss with
 |nil=>simp[GP,begins]
 |cons a r=>
  have ha:=hK;unfold GP;simp only[List.map_cons];by_cases b:Dp a=true
  .obtain⟨g,hg⟩:=(Q8 ha).mpr b;rw[hg,mJ b];simp[begins]
  have c:qP Dp a:=(mR b);rw[(TR ha c).1,mM b];simp[begins]
end Vf
namespace L2
open PySem PySem.Spec
inductive Ky where
 |num (i:Int)
 |Ce (x:Str)
 |Al (l:iL)
noncomputable instance ArR:DecidableEq Ky:=λa b=>mJx b
mutual
def Ky.depth:Ky->Nat
 | .num _=>0
 | .Ce _=>0
 | .Al l=>Ky.C2 l+1
def Ky.C2:iL ->Nat
 |[]=>0
 |k::r=>max (Ky.depth k) (Ky.C2 r)
end
mutual
def EW(h:Heap):Ky->Value->Prop
 | .num i,v=>(∃t,v= aC6)\/∃b,v= .bool b/\i=if b then 1 else 0
 | .Ce x,v=>∃t,v= .str x t
 | .Al l,v=>∃a o items n,v= aJ /\nZ a=aI /\o.cls= gW /\o.data= .seq items n/\Ht h l items.toList
def Ht(h:Heap):iL -> aV ->Prop
 |[],vs=>vs=[]
 |k::a,vs=>∃v r,vs=v::r/\EW h k v/\Ht h a r
end
mutual
def Ky.hash(w:World):Ky->Int
 | .num i=>hashInt i
 | .Ce x=>hashStr w x
 | .Al l=>reduceHash aBM
def Ky.GQ(w:World):iL -> bH
 |[]=>[]
 |k::r=>Ky.hash w k::Ky.GQ w r
end
mutual
def Ky.draws:Ky->Nat
 | .num _=>1
 | .Ce _=>1
 | .Al l=>Ky.JT l+1
def Ky.JT:iL ->Nat
 |[]=>0
 |k::r=>Ky.draws k+Ky.JT r
end
section
variable {prog:Program} {w:World} {A:Around} {E:bN} {s:Shared} {h:Heap}
theorem Yd(hq:mGQ (hashInt (mAr b)) 1):wpAny bD A (pyHash (.bool b)) Q E s:=by
 have a:=typeIs_bool s b;have c:[Value.bool b].any Value.onHeap=false:=rfl;refine cI;rw[cRoomFor,yY c];refine cN;refine pQ Au1 a Avk.lookup;rw[yY beq_builtin_none];refine pQ Au1 a Avk.lookup;have d:=rawHash_range (mAr b);refine ArZ (AuG a Avk
  (Atf Avk a F.entry_int_hash
   (show rC (do ret (<-mkInt aHx)) s from wpAny_ret_mkInt ?_) (by first|rfl|exact args_int_hash _|decide)))
 show mJy (decide (-(2:Int) ^ 63<= aHx)&&decide (aHx<2 ^ 63));rw[mJ (by rw[mW d.1,mW d.2];rfl)];exact lV
theorem Ahe:∀(n:Nat){A:Around}{E:bN}{s:Shared}{k:Ky}{v:Value}{Q:mAs Int},k.depth<=n->A.units+n<cLine->rP EW k v->Q (k.hash w) {s with toks:=s.toks+k.draws}->
 wpAny bD A (pyHash v) Q E s:=by
 intro n
 induction n with
 |zero=>
  intro A E s k v Q hd hu hk hq
  cases k with
  |num i=>
   rcases hk with⟨t,rfl⟩|⟨b,rfl,rfl⟩
   .exact mGR hq
   exact Yd hq
  |Ce x=>
   obtain⟨t,rfl⟩:=hk;exact wpAny_pyHash_str hq
  |Al l=>simp[Ky.depth] at hd
 |succ n c=>
  intro A E s k v Q hd hu hk hq
  cases k with
  |num i=>
   rcases hk with⟨t,rfl⟩|⟨b,rfl,rfl⟩
   .exact mGR hq
   exact Yd hq
  |Ce x=>
   obtain⟨t,rfl⟩:=hk;exact wpAny_pyHash_str hq
  |Al l=>
   have f:∃a,v= aJ /\s.TypeIs v "tuple":=by obtain⟨a,o,_,_,rfl,g,j,_⟩:=hk;exact(a,2,o,g,j)
   obtain⟨a,rfl,f⟩:=f;obtain⟨b,o,items,m,e,p,_,q,r⟩:=hk
   cases e
   refine wK wpAny_cRoomFor_or (mI aA);refine pQ Au1 f Avd.lookup;rw[yY beq_builtin_none];refine pQ Au1 f Avd.lookup;refine nF (AuG f Avd (Atf Avd f F.entry_tuple_hash ?_ (F.args_tuple_hash_1 _)));show mJz aJ;refine pQ AvM p q;refine cI;rw[<-Array.forIn_toList];refine wpAny_forIn_list _
    (λrest(b:Array Int)u=>∃(left:iL)(hs:bH)(d:Nat),Ky.C2 left<=n/\Ht s.heap left rest/\b.toList=hs/\Ky.GQ w l=hs++Ky.GQ w left/\Ky.JT l=d+Ky.JT left/\u={s with toks:=s.toks+d})
    _ ?_ ?_ _ _ (l,[],64,aAO,r,26,(AsZ _).symm,2)
   .rintro x rest b u ⟨left,hs,d,y,z,hb,B,C,rfl⟩
    cases left with
    |nil=>cases (show x::rest=[] from z)
    |cons k D=>
     obtain⟨v',G,e,g,H⟩:=z
     cases e
     have I:mBn D:=(by simp only[Ky.C2] at y;omega);refine nF (c (A:=A.in1) I.1 aK1 g ?_)
     first
      |exact mJA H
      |exact sU (mJA H)
   rintro b u ⟨left,hs,d,y,z,hb,B,C,rfl⟩
   cases left with
   |cons k D=>
    obtain⟨_,_,e,_⟩:=z
    cases e
   |nil=>
    simp only[Ky.GQ,List.append_nil] at B;simp only[Ky.JT,Nat.add_zero] at C;subst B;subst C;show rC (retInt (Builtin.Tuple.tupleHashOf b.toList)) _;rw[hb];refine wpAny_ret_mkInt ?_;have J:mGQ (reduceHash aBM) (Ky.JT l+1):=hq;show mJy (decide (-(2:Int) ^ 63<= aBM)&&decide (aBM<2 ^ 63));unfold reduceHash at J;by_cases L:(decide (-(2:Int) ^ 63<= aBM)&&decide (aBM<2 ^ 63))=true
    .rw[mJ L];rw[mJ L] at J;exact Asg aK2
    rw[mM L];rw[mM L] at J;exact yZ Ava aK2
theorem Ye:∀(n:Nat),(∀(x y:Ky)(v:Value),x.depth<=n->EW h x v->EW h y v->x=y):=by
 intro n
 induction n with
 |zero=>
  intro x y v hd hx hy
  cases x with
  |num i=>
   cases y with
   |num j=>
    rcases hx with⟨t,rfl⟩|⟨b,rfl,rfl⟩
    .rcases hy with⟨u,e⟩|⟨b,e,_⟩
     .cases e;rfl
     cases e
    rcases hy with⟨u,e⟩|⟨c,e,rfl⟩
    .cases e
    cases e;rfl
   |Ce y=>
    obtain⟨u,rfl⟩:=hy;rcases hx with⟨t,e⟩|⟨b,e,_⟩<;>cases e
   |Al m=>
    obtain⟨a,_,_,_,rfl,_⟩:=hy;rcases hx with⟨t,e⟩|⟨b,e,_⟩<;>cases e
  |Ce x=>
   obtain⟨t,rfl⟩:=hx
   cases y with
   |num j=>rcases hy with⟨u,e⟩|⟨b,e,_⟩<;>cases e
   |Ce y=>obtain⟨u,e⟩:=hy;cases e;rfl
   |Al m=>obtain⟨a,_,_,_,e,_⟩:=hy;cases e
  |Al l=>simp[Ky.depth] at hd
 |succ n d=>
  intro x y v hd hx hy
  cases x with
  |num i=>exact Yf (xP i rfl) hx hy
  |Ce x=>exact Yf (xQ x rfl) hx hy
  |Al l=>
   obtain⟨a,o,items,m,rfl,f,g,p,h4⟩:=hx
   cases y with
   |num j=>rcases hy with⟨u,e⟩|⟨b,e,_⟩<;>cases e
   |Ce y=>obtain⟨u,e⟩:=hy;cases e
   |Al q=>
    obtain⟨z,o',B,C,e,g1,g2,g3,D⟩:=hy
    cases e
    rw[f] at g1
    cases g1
    rw[p] at g3;injection g3 with g3 _
    subst g3;have all:∀(l q:iL)(vs:aV),Ky.C2 l<=n->Ht h l vs->Ht h q vs->l=q:=by
     intro l
     induction l with
     |nil=>
      intro q vs _ G H;subst G
      cases q with
      |nil=>rfl
      |cons _ _=>obtain⟨_,_,e,_⟩:=H;cases e
     |cons k I J=>
      intro q vs hd2 G H;obtain⟨v,r,rfl,L,M⟩:=G
      cases q with
      |nil=>cases (show v::r=[] from H)
      |cons N O=>
       obtain⟨v',Q,e,T,U⟩:=H
       cases e
       have Y:mBn I:=aEK;rw[d k N v Y.1 L T,J O r Y.2 M U]
    rw[all l q _ aAO h4 D]
where
 Yf {x y:Ky} {v:Value} (hf:(∃i,x= .num i)\/∃z,x= .Ce z) (hx:EW h x v) (hy:EW h y v):x=y:=by
  rcases hf with⟨i,rfl⟩|⟨z,rfl⟩
  .cases y with
   |num j=>
    rcases hx with⟨t,rfl⟩|⟨b,rfl,rfl⟩
    .rcases hy with⟨u,e⟩|⟨b,e,_⟩
     .cases e;rfl
     cases e
    rcases hy with⟨u,e⟩|⟨c,e,rfl⟩
    .cases e
    cases e;rfl
   |Ce y=>
    obtain⟨u,rfl⟩:=hy;rcases hx with⟨t,e⟩|⟨b,e,_⟩<;>cases e
   |Al m=>
    obtain⟨a,_,_,_,rfl,_⟩:=hy;rcases hx with⟨t,e⟩|⟨b,e,_⟩<;>cases e
  obtain⟨t,rfl⟩:=hx
  cases y with
  |num j=>rcases hy with⟨u,e⟩|⟨b,e,_⟩<;>cases e
  |Ce y=>obtain⟨u,e⟩:=hy;cases e;rfl
  |Al m=>obtain⟨a,_,_,_,e,_⟩:=hy;cases e
theorem Ahf(i j:Int):decide (Ky.num i=Ky.num j)=(i==j):=by grind
theorem Ahg(i j:Str):decide (Ky.Ce i=Ky.Ce j)=(i==j):=by grind
theorem Ahh:∀(n:Nat){A:Around}{E:bN}{s:Shared}{x y:Ky}{u v:Value}{Q:mAs Bool},x.depth<=n->A.units+n<cLine->rP EW x u->rP EW y v->Q (decide (x=y)) s->
 wpAny bD A aHy Q E s:=by
 intro n
 induction n with
 |zero=>
  intro A E s x y u v Q hd hu hx hy hq
  cases x with
  |num i=>exact mEq Yg
  |Ce z=>exact mEq Yh
  |Al l=>simp[Ky.depth] at hd
 |succ n aa=>
  intro A E s x y u v Q hd hu hx hy hq
  cases x with
  |num i=>exact mEq Yg
  |Ce z=>exact mEq Yh
  |Al l=>
   obtain⟨a,oa,xs,na,rfl,c,d,f,ab⟩:=hx;have g:s.heap.IsTuple a xs:=(oa,c,d,na,f)
   cases y with
   |num j=>
    have k:decide (Ky.Al l=Ky.num j)=false:=lW;rw[k] at hq;rcases hy with⟨t,rfl⟩|⟨b,rfl,_⟩
    .exact SeqAt.EqAt.tuple_int j t g aA _ _ _ _ hq
    exact SeqAt.EqAt.tuple_bool b g aA _ _ _ _ hq
   |Ce z=>
    have k:decide (Ky.Al l=Ky.Ce z)=false:=lW;rw[k] at hq;obtain⟨t,rfl⟩:=hy;exact SeqAt.EqAt.tuple_str z t g aA _ _ _ _ hq
   |Al m=>
    obtain⟨b,ac,ys,nb,rfl,o,ae,af,ag⟩:=hy;have ah:s.TypeIs aJ "tuple":=(mQ oa c d);have ai:s.TypeIs bU "tuple":=(mQ ac o ae);rw[(At0.mpr (174,λq=>by rw[q]))] at hq;unfold eqBool
    try with_reducible refine Au0 ?_
    by_cases p:(rQ a==rQ b)=true
    .rw[mJ p];have e:a=b:=(by have:=eq_of_beq p;injection this);subst e;have B:Ky.Al l=Ky.Al m:=Ye (h:=s.heap) (n+1) _ _ aJ hd (a,oa,xs,na,2,c,d,f,ab) (a,ac,ys,nb,2,o,209,ag);injection B with B
     exact yZ Ava (by simpa[B] using hq)
    rw[mM p];refine ArZ (wpAny_richCompare_same_room (op:= .Eq) ah ai F.slot_tuple_eq
     (Atf F.slot_tuple_eq ah F.entry_tuple_eq ?_ (F.args_tuple_eq_2 _ _)) aA)
    show rC (isInstance bU gW >>= _) s;refine mJB ai;simp only[Bool.not_true,Bool.false_eq_true,if_false];refine pQ AvM c f;refine pQ AvM o af;refine cI;refine wpAny_forIn_list _
     (λrest r C=>r.1=none/\C=s/\∃D G H I,rest=List.zip H I/\Ky.C2 D<=n/\rP Ht D H/\rP Ht G I/\decide (D=G)=decide (l=m)/\(H.length==I.length)=aHz)
     _ ?_ ?_ _ _ (26,l,m,xs.toList,ys.toList,2,aAO,ab,ag,2,9)
    .rintro⟨u,v⟩ rest r C ⟨J,rfl,D,G,H,I,hz,aj,hx',L,M,hlen⟩
     cases D with
     |nil=>
      have e:=hx';subst e;simp at hz
     |cons N O=>
      obtain⟨u',ak,rfl,al,am⟩:=hx'
      cases G with
      |nil=>
       have e:=L;subst e;simp at hz
      |cons T U=>
       obtain⟨v',Y,rfl,an,ao⟩:=L;simp only[List.zip_cons_cons,List.cons.injEq,Prod.mk.injEq] at hz;obtain⟨⟨rfl,rfl⟩,rfl⟩:=hz;have ap:N.depth<=n/\Ky.C2 O<=n:=(by simp only[Ky.C2] at aj;omega);refine nF (aa (A:=A.in1) ap.1 aK1 al an ?_);by_cases hk:N=T
       .subst hk;rw[mW rfl];simp only[Bool.not_true,Bool.false_eq_true,if_false];refine Asg (26,O,U,ak,Y,2,ap.2,am,ao,5,by simpa using hlen);rw[<-M];apply At0.mpr;exact(λq=>by rw[q],174)
       rw[mT hk];simp;have hf:decide (l=m)=false:=by rw[<-M];exact mT (λq=>hk (by injection q))
       rw[hf] at hq;exact sU (nG Asg (0,232,Atm hq))
    rintro⟨aq,ar⟩ C ⟨J,rfl,D,G,H,I,hz,aj,hx',L,M,hlen⟩;simp only at J;subst J;refine cN;have as:aHz=decide (l=m):=by
     rw[<-M,<-hlen]
     cases D with
     |nil=>
      have e:=hx';subst e
      cases G with
      |nil=>
       have e:=L;subst e;simp
      |cons T U=>
       obtain⟨v',Y,rfl,an,ao⟩:=L;rw[lW];rfl
     |cons N O=>
      obtain⟨u',ak,rfl,al,am⟩:=hx'
      cases G with
      |nil=>
       have e:=L;subst e;rw[lW];rfl
      |cons T U=>
       obtain⟨v',Y,rfl,an,ao⟩:=L;simp at hz
    exact(.bool aHz,2,232,Atm (oL as hq))
where
 Yg {A:Around} {E:bN} {s:Shared} {i:Int} {y:Ky} {u v:Value} {Q:mAs Bool} (hu:A.units<cLine) (hx:rP EW (.num i) u) (hy:rP EW y v) (hq:Q (decide (Ky.num i=y)) s):
  wpAny bD A aHy Q E s:=by
  cases y with
  |num j=>
   rw[Ahf] at hq;rcases hx with⟨t,rfl⟩|⟨b,rfl,rfl⟩
   .rcases hy with⟨t',rfl⟩|⟨c,rfl,rfl⟩
    .exact mBo SeqAt.EqAt.int_int j t'
    exact SeqAt.EqAt.int_bool i t c _ _ _ _ hq
   rcases hy with⟨t',rfl⟩|⟨c,rfl,rfl⟩
   .exact SeqAt.EqAt.bool_int b j t' _ _ _ _ hq
   refine SeqAt.EqAt.bool_bool b c _ _ _ _ ?_;have e:((if b then(1:Int) else 0)==(mAr c))=(b==c):=(by cases b<;>cases c<;>rfl);rw[e] at hq;exact hq
  |Ce z=>
   rw[lW] at hq;obtain⟨t',rfl⟩:=hy;rcases hx with⟨t,rfl⟩|⟨b,rfl,rfl⟩
   .exact mBo AvN z t'
   exact SeqAt.EqAt.bool_str b z t' _ _ _ _ hq
  |Al m=>
   rw[lW] at hq;obtain⟨b',ob,ys,nb,rfl,hob,hcb,hdb,hib⟩:=hy;have hTb:s.heap.IsTuple b' ys:=aK3;rcases hx with⟨t,rfl⟩|⟨b,rfl,rfl⟩
   .exact mBo SeqAt.EqAt.int_tuple hTb hu
   exact SeqAt.EqAt.bool_tuple b hTb hu _ _ _ _ hq
 Yh {A:Around} {E:bN} {s:Shared} {i:Str} {y:Ky} {u v:Value} {Q:mAs Bool} (hu:A.units<cLine) (hx:rP EW (.Ce i) u) (hy:rP EW y v) (hq:Q (decide (Ky.Ce i=y)) s):
  wpAny bD A aHy Q E s:=by
  obtain⟨t,rfl⟩:=hx
  cases y with
  |num j=>
   rw[lW] at hq;rcases hy with⟨t',rfl⟩|⟨c,rfl,rfl⟩
   .exact mBo AvO j t'
   exact SeqAt.EqAt.str_bool i t c _ _ _ _ hq
  |Ce z=>
   rw[Ahg] at hq;obtain⟨t',rfl⟩:=hy;exact mBo SeqAt.EqAt.str_str z t'
  |Al m=>
   rw[lW] at hq;obtain⟨b',ob,ys,nb,rfl,hob,hcb,hdb,hib⟩:=hy;have hTb:s.heap.IsTuple b' ys:=aK3;exact mBo SeqAt.EqAt.str_tuple hTb hu
theorem Ahi:∀(n m:Nat){A:Around}{E:bN}{s:Shared}{k:Ky}{v:Value}{Q:mAs Bool},k.depth<=n->n<=m->rP EW k v->Q true s->wpAny bD A (eqIsQuiet m v) Q E s:=by
 intro n
 induction n with
 |zero=>
  intro m A E s k v Q hd hm hk hq
  cases k with
  |num i=>
   rcases hk with⟨t,rfl⟩|⟨b,rfl,rfl⟩
   .rw[aBN];exact lV
   rw[aBN];exact lV
  |Ce x=>
   obtain⟨t,rfl⟩:=hk;rw[aBN];exact lV
  |Al l=>simp[Ky.depth] at hd
 |succ n c=>
  intro m A E s k v Q hd hm hk hq
  cases k with
  |num i=>
   rcases hk with⟨t,rfl⟩|⟨b,rfl,rfl⟩
   .rw[aBN];exact lV
   rw[aBN];exact lV
  |Ce x=>
   obtain⟨t,rfl⟩:=hk;rw[aBN];exact lV
  |Al l=>
   obtain⟨a,o,items,d,rfl,f,hc,g,j⟩:=hk;have p:s.TypeIs aJ "tuple":=(mQ o f hc);obtain⟨q,rfl⟩:∃q,m=q+1:=(m - 1,4);unfold eqIsQuiet;refine pQ Au1 p F.slot_tuple_eq.lookup;refine mJB p;simp;refine pQ AtV f g;refine cI;rw[<-Array.forIn_toList];refine wpAny_forIn_list _ (λrest r u=>r.1=none/\u=s/\∃left,Ky.C2 left<=n/\Ht s.heap left rest) _ ?_ ?_ _ _ (26,l,aAO,j)
   .rintro v rest r u ⟨y,rfl,left,z,B⟩
    cases left with
    |nil=>cases (show v::rest=[] from B)
    |cons k C=>
     obtain⟨v',D,e,G,H⟩:=B
     cases e
     have I:mBn C:=(by simp only[Ky.C2] at z;omega);refine nF (c q I.1 aA G ?_);simp;exact Asg (26,C,I.2,H)
   rintro⟨J,L⟩ u ⟨y,rfl,_⟩;simp only at y;subst y;exact lV
theorem Ahj(b:∀a o items n,nZ a=aI ->o.cls= gW ->o.data= .seq items n->qC a=aI):∀(n:Nat)(k:Ky)(v:Value),k.depth<=n->EW h k v->EW h' k v:=by
 intro n
 induction n with
 |zero=>
  intro k v hd hk
  cases k with
  |num i=>exact hk
  |Ce x=>exact hk
  |Al l=>simp[Ky.depth] at hd
 |succ n c=>
  intro k v hd hk
  cases k with
  |num i=>exact hk
  |Ce x=>exact hk
  |Al l=>
   obtain⟨a,o,items,m,rfl,d,f,g,h4⟩:=hk;refine(a,o,items,m,2,b a o items m d f g,f,g,5);have all:∀(l:iL)(vs:aV),Ky.C2 l<=n->Ht h l vs->Ht h' l vs:=by
    intro l
    induction l with
    |nil=>intro vs _ e;exact e
    |cons k j p=>
     intro vs hd2 e;obtain⟨v,r,rfl,q,u⟩:=e;have y:mBn j:=aEK;exact(v,r,2,c k v y.1 q,p r y.2 u)
   exact all l _ aAO h4
noncomputable def HZ(prog:Program)(w:World):HeapKind prog w Ky where
 is:=λh k a=>EW h k aJ /\k.depth<=8
 hash:=Ky.hash w
 draws:=Ky.draws
 room:=λA=>A.units+8<cLine
 inj:=λhx hy=>Ye 8 _ _ _ hx.2 hx.1 hy.1
 keeps:=λx b hd hs=>(Ahj (λa o items n ha _ c=>(hs.2 a (by
  rintro rfl;rw[ha] at b
  cases b
  rw[c] at hd
  cases hd)).trans ha) 8 _ _ x.2 x.1,x.2)
 pyHash:=λhu hk hq=>Ahe 8 hk.2 hu hk.1 hq
 eqBool:=λhu hx hy hq=>Ahh 8 hx.2 hu hx.1 hy.1 hq
 quiet:=λhk hq=>Ahi 8 8 hk.2 aD hk.1 hq
end
end L2
namespace L2
open PySem PySem.Spec PyProof.Rows
abbrev C3:=Sum Int Str
def JU:C3->Value->Bool
 | .inl k,v=>Value.isInt k v
 | .inr x,v=>Value.isStrOf x v
def Ahk(w:World):C3->Int
 | .inl k=>hashInt k
 | .inr x=>hashStr w x
theorem H_:∀{k:C3}{v:Value},JU k v=true->(∃i t,k=Sum.inl i/\v=Value.int i t)\/(∃x t,k=Sum.inr x/\v=Value.str x t)
 | .inl i,v,h=>by
   obtain⟨t,e⟩:=Value.isInt_shape (k:=i) (v:=v) h;exact mG (i,t,2,e)
 | .inr x,v,h=>by
   obtain⟨t,e⟩:=Value.isStrOf_shape (x:=x) (v:=v) h;exact mI (x,t,2,e)
theorem Ahl(i:Int)(t:Tok):JU (mG i) aC6=true:=by simp[JU,Value.isInt]
theorem Ahm(x:Str)(t:Tok):JU (mI x) (.str x t)=true:=by simp[JU,Value.isStrOf]
theorem Ahn(a b:Int):decide ((Sum.inl a:C3)=Sum.inl b)=(a==b):=by
 by_cases e:a=b
 .subst e;simp
 have h:¬(Sum.inl a:C3)=Sum.inl b:=λq=>e (Sum.inl.inj q);rw[mT h];exact(vG e).symm
theorem Aho(a b:Str):decide ((Sum.inr a:C3)=Sum.inr b)=decide (a=b):=by
 by_cases e:a=b
 .subst e;simp
 have h:¬(Sum.inr a:C3)=Sum.inr b:=λq=>e (Sum.inr.inj q);rw[mT h,mT e]
theorem Ahp(a:Int)(b:Str):decide ((Sum.inl a:C3)=Sum.inr b)=false:=mT (λq=>nomatch q)
theorem Ahq(a:Str)(b:Int):decide ((Sum.inr a:C3)=Sum.inl b)=false:=mT (λq=>nomatch q)
def GR(prog:Program)(w:World):PySem.KeyKind prog w C3 where
 is:=JU
 hash:=Ahk w
 inj:=λv a b ha hb=>by
  rcases H_ ha with⟨i,t,rfl,rfl⟩|⟨x,t,rfl,rfl⟩
  .rcases H_ hb with⟨j,u,rfl,e⟩|⟨y,u,rfl,e⟩
   .injection e with n _;rw[n]
   exact nomatch e
  rcases H_ hb with⟨j,u,rfl,e⟩|⟨y,u,rfl,e⟩
  .exact nomatch e
  injection e with n _;rw[n]
 byValue:=λk v h=>by rcases H_ h with⟨i,t,rfl,rfl⟩|⟨x,t,rfl,rfl⟩<;>rfl
 pyHash:=λq h=>by
  rcases H_ q with⟨i,t,rfl,rfl⟩|⟨x,t,rfl,rfl⟩
  .exact mGR h
  exact wpAny_pyHash_str h
 eqBool:=λhu q h=>by
  rcases H_ hu with⟨i,t,rfl,rfl⟩|⟨x,t,rfl,rfl⟩
  .rcases H_ q with⟨j,u,rfl,rfl⟩|⟨y,u,rfl,rfl⟩
   .rw[Ahn] at h;exact wpAny_eqBool_int h
   rw[Ahp] at h;exact AvN i t y u _ _ _ _ h
  rcases H_ q with⟨j,u,rfl,rfl⟩|⟨y,u,rfl,rfl⟩
  .rw[Ahq] at h;exact AvO x t j u _ _ _ _ h
  rw[Aho] at h;exact wpAny_eqBool_str h
 «strs»:=λk x t v h=>by
  rcases H_ h with⟨i,u,rfl,e⟩|⟨y,u,rfl,e⟩
  .exact nomatch e
  injection e with n _
  subst n
  cases v<;>rfl
theorem Ahr(prog:Program)(w:World)(i:Int)(t:Tok):(GR prog w).is (mG i) aC6=true:=Ahl i t
theorem Ahs(prog:Program)(w:World)(x:Str)(t:Tok):(GR prog w).is (mI x) (.str x t)=true:=Ahm x t
end L2
namespace L2
open PySem PySem.Spec PyProof.Rows
inductive V where
 |Ax|bl (b:Bool)|int (i:Int)|str (x:Str)|FG (b:Array UInt8)|Q9 (b:UInt64)|ref (a:Addr)|ty (n:String)
 deriving DecidableEq
def AJ:V->Value->Prop
 | .Ax,u=>u=Value.none
 | .bl b,u=>u=Value.bool b
 | .int i,u=>∃t,u=Value.int i t
 | .str x,u=>∃t,u=Value.str x t
 | .FG b,u=>∃t,u=Value.bytes b t
 | .Q9 b,u=>∃t,u=Value.float b t
 | .ref a,u=>u=rQ a
 | .ty n,u=>u=Value.type n
abbrev AB:aL -> aV ->Prop:=Paired AJ
theorem AB.length(r:fF):xs.length=us.length:=xR r
theorem AB.get:∀{xs:aL}{us:aV}{i:Nat}{x:V},fF ->xs[i]? =aW ->∃u,us[i]? =aM /\nT x
 |_,_,_,_,.nil,e=>by simp at e
 |_,_,0,_,.cons r _,e=>by simp at e;subst e;exact(0,r)
 |_,_,i+1,x,.cons _ t,e=>by
  obtain⟨u,h1,h2⟩:=AB.get (i:=i) (x:=x) t hL;exact(u,by simpa using h1,h2)
theorem AB.set(r:nT x):∀{xs:aL}{us:aV}(i:Nat),fF ->AB (xs.set i x) (us.set i u)
 |_,_,_,.nil=> .nil
 |_,_,0,.cons _ t=> sF r t
 |_,_,i+1,.cons q t=> sF q (AB.set r i t)
theorem AB.append:∀{xs ys:aL}{us ws:aV},fF ->AB ys ws->AB (xs++ys) (us++ws)
 |_,_,_,_,.nil,s=>s
 |_,_,_,_,.cons r t,s=> sF r (AB.append t s)
theorem AB.take:∀{xs:aL}{us:aV}(n:Nat),fF ->AB (xs.take n) (us.take n)
 |_,_,0,_=> .nil
 |_,_,_+1,.nil=> .nil
 |_,_,n+1,.cons r t=> sF r (AB.take n t)
theorem AB.drop:∀{xs:aL}{us:aV}(n:Nat),fF ->AB (sV n) (us.drop n)
 |_,_,0,r=>r
 |_,_,_+1,.nil=> .nil
 |_,_,n+1,.cons _ t=>AB.drop n t
theorem AB.BL:∀{xs:aL}{us:aV}{i:Nat},fF ->xs[i]? =none->us[i]? =none:=λ{xs us i}r e=>by have h1:=r.length;have h2:=iM;exact AsM.mpr aA
def EJ:bQ -> kR ->Prop
 |some v,some u=>nT v
 |none,none=>True
 |_,_=>False
def KV{κ:Type}:fG ->uM κ Value->Prop:=Paired λ(p:κ×V)(q:κ×Value)=>p.1=q.1/\AJ p.2 q.2
def kV:C3->V
 | .inl i=> eV
 | .inr x=> dA
inductive HO where
 |Ac (xs:aL)
 |Al (xs:aL)
 |dK (kvs:hN)|dT (kvs:bI)
 |set (S:Int->Bool) (n:Nat)
 |Ag (C dx:Addr) (fs:oU V)
 |own (x:Addr)
 |xd (fs:oU V)
 |Am (f x:Addr)
 |TU (lo hi:Int)
 |Bw (o:Obj) (u:HO)
 |Lb (ps:jO)
 |ext (φ:Heap->Prop)
abbrev Hp:=Addr->oK HO
def Aa(H:Hp)(a:Addr)(o:HO):Hp:=λb=>if b=a then aI else H b
theorem Af:Aa H a o a=some o:=by unfold Aa;rw[bF]
theorem Ah(h:b≠a):Aa H a o b=H b:=by unfold Aa;rw[mM h]
theorem B1:Aa aC7 a u=Aa H a u:=by funext b;unfold Aa;split<;>rfl
theorem Lc{H:Hp}(h:H a=aI)(h':H b=aM)(d:o≠u):a≠b:=by intro e;subst e;rw[h] at h';exact d (Ase h')
theorem AR{H:Hp}(h:H a=aI)(h':mV H b):a≠b:=by intro e;subst e;rw[h] at h';cases h'
mutual
def JV(H:Hp):Ky->V->Prop
 | .num i,v=>v= eV \/∃b,v= .bl b/\i=if b then 1 else 0
 | .Ce x,v=>v= dA
 | .Al l,v=>∃a vs,v= aJ /\H a=oO vs/\Ld H l vs
def Ld(H:Hp):iL -> aL ->Prop
 |[],vs=>vs=[]
 |k::ks,vs=>∃v r,vs=v::r/\JV H k v/\Ld H ks r
end
def Dv(H:Hp)(k:Ky)(a:Addr):Prop:=JV H k aJ /\k.depth<=8
theorem JV.keeps(j:aBO):∀(n:Nat)(k:Ky)(v:V),k.depth<=n->JV H k v->JV H' k v:=by
 intro n
 induction n with
 |zero=>
  intro k v hd hk
  cases k with
  |num i=>exact hk
  |Ce x=>exact hk
  |Al l=>simp[Ky.depth] at hd
 |succ n q=>
  intro k v hd hk
  cases k with
  |num i=>exact hk
  |Ce x=>exact hk
  |Al l=>
   obtain⟨a,vs,rfl,h1,h2⟩:=hk;refine(a,vs,2,j a vs h1,5);have all:∀(l:iL)(vs:aL),Ky.C2 l<=n->Ld H l vs->Ld H' l vs:=by
    intro l
    induction l with
    |nil=>intro vs _ e;exact e
    |cons k ks z=>
     intro vs hd2 e;obtain⟨v,r,rfl,B,p2⟩:=e;have I:mBn ks:=aEK;exact(v,r,2,q k v I.1 B,z r I.2 p2)
   exact all l _ aAO h2
theorem Dv.keeps(h:Dv H k a)(j:aBO):Dv H' k a:=(JV.keeps j 8 k _ h.2 h.1,h.2)
section
variable (P:Program) (w:World)
def C9(H:Hp)(h:Heap)(a:Addr):HO->Prop
 | .Ac xs=>xs.length<=sizeLine/\∃(its:aV)(n:Nat),aC8 /\nZ a=some {cls:= fH,data:= aAP}
 | .Al xs=>xs.length<=sizeLine/\∃its:aV,aC8 /\IsTup h a its.toArray
 | .dK kvs=>kvs.length<=sizeLine/\ aAQ=false/\∃vs,hO /\h.DictOf (GR P w) a vs
 | .dT kvs=>kvs.length<=sizeLine/\ aAQ=false/\∃xs:aEL,
  Paired (λ(p:Ky×V)(q:Ky×Addr×Value)=>p.1=q.1/\Dv H p.1 q.2.1/\AJ p.2 q.2.2) kvs xs/\
  ∃o es ep,nZ a=aI /\o.ExactDict/\o.data= lX /\es.toList=xs.map (entryOfKey aBP)/\(xs.map (·.1)).Nodup
 | .set S n=>h.SetOf (intKind P w) a S n
 | .Ag C dx fs=>H dx=mBp a/\fs.length<=1000/\dx≠a/\nZ a=mB aHA /\
  ∃mA,h.Ns1 dx mA/\(∀f,aHB)/\ aK4
 | .own _=>∃o,nZ a=aI
 | .xd fs=>∃mA,h.Ns1 a mA/\∀f,aHB
 | .TU lo hi=>∃t u v,nZ a=some {cls:= mAt oH,data:= mEr u}
 | .Bw o u=>nZ a=aI /\C9 H h a u
 | .Lb ps=>nZ a=some {cls:= .none,data:= mAu ps}
 | .Am f x=>nZ a=mB (PySem.W.methodObj iN cU)
 | .ext j=>j h/\(∃o,nZ a=aI)/\∀h1 h2:Heap,j h1->(∀o,h1.get? a=aI ->h2.get? a=aI)->j h2
def Cm(H:Hp)(h:Heap):Prop:=∀a o,H a=aI ->zA o
end
section
variable {P:Program} {w:World} {H H':Hp} {h h':Heap} {a:Addr} {o:HO}
theorem C9.lt(x:zA o):mEs a:=by
 cases o with
 |Ac xs=>obtain⟨_,_,_,_,e⟩:=x;exact fI
 |Al xs=>obtain⟨_,_,_,p⟩:=x;exact p.lt
 |dK kvs=>obtain⟨_,_,_,_,o,_,_,e,_⟩:=x;exact fI
 |dT kvs=>obtain⟨_,_,_,_,o,_,_,e,_⟩:=x;exact fI
 |set S n=>obtain⟨o,_,_,_,e,_⟩:=x;exact fI
 |Ag C dx fs=>obtain⟨_,_,_,e,_⟩:=x;exact fI
 |own y=>obtain⟨_,e⟩:=x;exact fI
 |xd fs=>obtain⟨_,⟨_,_,_,e,_⟩,_⟩:=x;exact fI
 |TU lo hi=>obtain⟨_,_,_,e⟩:=x;exact fI
 |Bw j u=>obtain⟨e,_⟩:=x;exact fI
 |Lb ps=>exact aK5
 |Am f y=>exact aK5
 |ext q=>obtain⟨_,⟨_,e⟩,_⟩:=x;exact fI
theorem Paired.TV:∀{j:cM}{q:mZ β},Paired F j q->(∀a b,F a b->G a b)->Paired G j q
 |_,_,.nil,_=> .nil
 |_,_,.cons r t,f=> sF (mC f r) (Paired.TV t f)
theorem C9.Ia(x:zA o)(k:∀b u,(b=a\/H b=mBp a)->nZ b=aM ->qC b=aM)
 (j:∀b,H b=mBp a->H' b=mBp a) (B:aBO):C9 P w H' h' a o:=by
 induction o with
 |Ac xs=>obtain⟨z,its,n,r,e⟩:=x;exact(z,its,n,r,iO)
 |Al xs=>obtain⟨z,its,r,I,e,c⟩:=x;exact(z,its,r,I,iO,c)
 |dK kvs=>obtain⟨z,y,vs,r,I,es,ep,e,c⟩:=x;exact(z,y,vs,r,I,71,iO,c)
 |dT kvs=>
  obtain⟨z,y,xs,r,I,es,ep,e,c⟩:=x;exact(z,y,xs,Paired.TV r λp q z=>(z.1,z.2.1.keeps B,z.2.2),I,71,iO,c)
 |set S n=>obtain⟨I,es,ep,t,e,c⟩:=x;exact(I,71,t,iO,c)
 |Ag C dx fs=>
  obtain⟨d,z,ne,e,mA,⟨od,es,ep,J,c⟩,r⟩:=x;exact(j _ d,z,ne,iO,mA,(od,71,mP k (mI d) J,c),r)
 |own y=>obtain⟨I,e⟩:=x;exact(I,iO)
 |xd fs=>obtain⟨mA,⟨od,es,ep,e,c⟩,r⟩:=x;exact(mA,(od,71,iO,c),r)
 |TU lo hi=>obtain⟨t,u,v,e⟩:=x;exact(t,u,v,iO)
 |Bw I u L=>obtain⟨e,q⟩:=x;exact(iO,L q)
 |Lb ps=>
  have e:=x;exact k a _ bA e
 |Am f y=>
  have e:=x;exact k a _ bA e
 |ext M=>obtain⟨p,⟨o,e⟩,st⟩:=x;exact(st _ _ p λo q=>mP k bA q,(o,iO),st)
theorem Cm.lt(x:fZ)(e:H a=aI):mEs a:=(x a o e).lt
theorem Cm.BC(x:fZ)(e:aHC):mV H a:=by
 cases q:H a with
 |none=>rfl
 |some u=>exact mBq (x.lt q) e
theorem Cm.CF(x:fZ)(k:mBr nZ):Cm P w H h':=λa o e=>
 (x a o e).Ia (λb u _ q=>k b u q) aEM λ_ _ q=>q
theorem Cm.DV(x:fZ)(k:mBr nZ)(hp:aHC)(new:C9 P w aC7 h' a o):Cm P w aC7 h':=λb u e=>by
 have j:=x.BC hp;by_cases hb:b=a
 .subst hb;rw[Af] at e;cases e;exact new
 rw[gX] at e;exact(x b u e).Ia (λc v _ q=>k c v q) (λc q=>by rw[mAv j];exact q) λc xs q=>(by rw[mAv j];exact q)
end
def Rd(H:Hp)(a:Addr)(u:HO):Prop:=H a=aM \/∃o,H a=qW o u
theorem Rd.of(h:H a=aM):Rd H a u:= mG h
theorem Rd.ok(r:uN u)(x:fZ):C9 P w H h a u:=by
 rcases r with r|⟨o,r⟩
 .exact x a u r
 obtain⟨_,q⟩:=x a _ r;exact q
def JW:oK HO->Prop
 |some (.Ac _)=>True
 |some (.dK _)=>True
 |some (.dT _)=>True
 |some (.set _ _)=>True
 |some (.Ag _ _ _)=>True
 |some (.ext _)=>True
 |_=>False
section
variable {P:Program} {w:World} {H:Hp} {h h':Heap} {x e:Addr} {o':HO}
theorem Cm.Ib(ok:fZ)(j:JW (H x))(he:aHD)(k:mGS nZ)(B:∃u,qC e=aM)
 (new:C9 P w (oA x o') h' x o'):Cm P w (oA x o') h':=λb u q=>by
 have I:∀c y,H c=mBp y->c≠x:=λc y r z=>(mJC r);by_cases hb:b=x
 .subst hb;rw[Af] at q;cases q;exact new
 rw[gX] at q;by_cases J:b=e
 .have L:oI H b (.own x):=by
   rcases he with z|z
   .exact nK (J.trans z) hb
   rw[J];exact z
  rw[q] at L;cases L;obtain⟨v,M⟩:=B;exact(v,by rw[J];exact M)
 refine(ok b u q).Ia (λc v hc r=>k c v ?_ r) (λc r=>by rw[Ah (I c b r)];exact r) λc xs r=>(by rw[Ah ((λc xs r z=>by subst z;rw[r] at j;exact j) c xs r)];exact r);rcases hc with rfl|hc
 .exact J
 rintro rfl;rcases he with z|z
 .exact I c b hc z
 rw[hc] at z;cases z;exact hb rfl
end
structure Un(fs ex:aQ)(H H':Hp)(h h':Heap):Prop where
 keep:∀b o,nZ b=aI ->H b=none->b∉fs->b∉ex->qC b=some o
 slot:∀b o,nZ b=aI ->H b=none->b∈fs->b∉ex->∃sl,qC b=some {o with slots:=sl}
 free:∀b o,nZ b=aI ->H b=none->b∉ex->H' b=none
 there:∀b o,nZ b=aI ->b∉ex->∃o',qC b=some o'
 Gk:∀b xs,H b=fJ ->H' b=some iP
 F1:∀b o u,H b=qW o u->H' b=some (.Bw o u)
 Gm:∀b ps,H b=mB (.Lb ps)->∃more,H' b=mB (.Lb (ps++more))
section
variable {fs fs' ex ex':aQ} {H H1 H2:Hp} {h h1 h2 h':Heap} {a x e:Addr} {o:HO}
theorem Un.any(u:mGT H)(q:nZ b=mB j)(n:mV H b)(hx:b∉ex):∃sl,h1.get? b=some {j with slots:=sl}:=by
 by_cases hb:b∈fs
 .exact u.slot b j q n hb hx
 exact(j.slots,u.keep b j q n hb hx)
theorem Un.trans(a:mGT H)(b:Un fs ex H1 H2 h1 h2):Un fs ex H H2 h h2 where
 keep:=λc j q n hc hx=>b.keep c j (a.keep c j q n hc hx) aHE hc hx
 slot:=λc j q n hc hx=>by obtain⟨sl,z⟩:=a.slot c j q n hc hx;obtain⟨B,I⟩:=b.slot c _ z aHE hc hx;exact(B,I)
 free:=λc j q n hx=>by obtain⟨o',z⟩:=a.there c j q hx;exact b.free c o' z aHE hx
 there:=λc j q hx=>by obtain⟨o',z⟩:=a.there c j q hx;exact b.there c o' z hx
 Gk:=λc xs q=>b.Gk c xs (a.Gk c xs q)
 F1:=λc j xs q=>b.F1 c j xs (a.F1 c j xs q)
 Gm:=λc ps q=>by obtain⟨J,z⟩:=a.Gm c ps q;obtain⟨L,I⟩:=b.Gm c _ z;exact(J++L,by rw[I,Array.append_assoc])
theorem Un.CF(k:mBr nZ):Un fs ex H H h h':=
 (λb j q _ _ _=>k b j q,λb j q _ _ _=>(j.slots,k b j q),λ_ _ _ n _=>n,λb j q _=>(j,k b j q),λ_ _ q=>q,λ_ _ _ q=>q,λ_ ps q=>(#[],by rw[q];simp))
theorem Un.refl:Un fs ex H H h h:=Un.CF λ_ _ q=>q
theorem Un.DV(k:mBr nZ)(hp:aHC)(j:mV H a):Un fs ex H aC7 h h' where
 keep:=λb u q _ _ _=>k b u q
 slot:=λb u q _ _ _=>(u.slots,k b u q)
 free:=λb u q n _=>by rw[Ah (mCQ q hp)];exact n
 there:=λb u q _=>(u,k b u q)
 Gk:=λb xs q=>by rw[mAv j];exact q
 F1:=λb u xs q=>by rw[mAv j];exact q
 Gm:=λb ps q=>(#[],by rw[mAv j,q];simp)
theorem Un.Ib(j:JW (H x))(he:aHD)(k:mGS nZ)(B:∃u,qC e=aM):Un fs ex H (oA x o) h h':=by
 have hx:mEt x:=λb n z=>(mJC n);have hb:mEt e:=λb n z=>by
  subst z;rcases he with r|r
  .exact hx b n r
  rw[n] at r;cases r
 have hm:∀b u,H b=aM ->¬JW aM ->b≠x:=λb u q nm z=>(by subst z;rw[q] at j;exact nm j);refine(λb u q n _ _=>k b u (hb b n) q,λb u q n _ _=>(u.slots,k b u (hb b n) q),λb u q n _=>by rw[Ah (hx b n)];exact n,λb u q _=>?_,λb xs q=>by rw[mGU b];exact q,λb u xs q=>by rw[mGU b];exact q,λb ps q=>(#[],by rw[mGU b,q];simp))
 by_cases I:b=e
 .subst I;exact B
 exact(u,k b u I q)
theorem Un.As(u:mGT H)(hs:∀b∈fs,b∈fs')(hx:∀b∈ex,b∈ex'):Un fs' ex' H H1 h h1:=
 (λb j q n hb he=>u.keep b j q n (λz=>hb (hs b z)) λz=>he (hx b z),λ_ _ q n _ he=>u.any q n λz=>he (hx _ z),λb j q n he=>u.free b j q n λz=>he (hx b z),λb j q he=>u.there b j q λz=>he (hx b z),u.Gk,u.F1,u.Gm)
end
def TW(h:Heap)(H:Hp):List Addr:=(mBs pB).filter λa=>(H a).isSome
def Jg(h:Heap)(H:Hp):Heap:=PySem.W.hideAll h (TW h H)
theorem Aht(h:Heap)(H:Hp):(Jg h H).objs.size=h.objs.size:=PySem.W.hideAll_size _ _
theorem Ahu(e:nZ b=aI)(n:mV H b):oI (Jg h H).get? b o:=
 PySem.W.hideAll_get _ e λhm=>by have q:=(AtO.mp hm).2;rw[n] at q;simp at q
theorem Ahv(e:(Jg h H).get? b=aI):nZ b=aI /\H b=none:=by
 have e':oI nZ b o:=PySem.W.of_hideAll (TW h H) e;refine(oS e')
 cases q:H b with
 |none=>rfl
 |some x=>
  have z:mV (Jg h H).get? b:=PySem.W.hideAll_none (TW h H) (AtO.mpr (Atj.mpr (Asu e'),by simp[q]));rw[z] at e;cases e
end L2
namespace L2
open PySem PySem.Spec PyProof.Rows
structure Mod(K:PySem.W.Frag)(mg:aN)(base:Heap):Prop where
 O5:K.In base
 Jh:base.Ns mainGlobals mg
 Ji:∃mb,base.Ns builtinsNs mb/\∀x:Str,x≠"__name__"->mb x=bootBuiltins x
 nolimit:base.NoLimit
structure Cx where
 prog:Program
 w:World
 K:PySem.W.Frag
 mg:Str->Option Value
 base:Heap
 A:Around
 N:List Str
 EK:Shared
 Le:Hp
 env:Env
 outer:List Env
 stack:List Env
 ex:List Addr
 fn:Str->Bool
 calm:Bool
 pn:List aK6
 xe:Value->Shared->Prop
def Hu(l:jP):List Addr:=l.filterMap (·.frame)
abbrev Cx.fs(X:Cx):List Addr:=Hu X.outer
def TX(sc:Scope)(x:Str):Prop:=vH x=kS \/vH x=aAR \/vH x=aEN
def O6(sc:Scope)(x:Str):Prop:=vH x=kS \/vH x=aAR
def Ahw(env:Env)(h:Heap)(m:aN)(x:Str)(u:Value):Prop:=
 (env.kindOf x=kS /\m x=aM)\/((mEu env.kindOf x)/\∃c,mEv x=bT /\h.IsCell c aM)
structure Cx.Ok(X:Cx):Prop where
 mod:Mod X.K X.mg X.base
 kind:X.env.scope.kind= .function
 Jh:X.env.globals=mainGlobals
 Ji:X.env.builtins=builtinsNs
 above:X.EK.heap.objs.size<=X.env.locals
 inj:∀x y c,sW x=bT ->sW y=bT ->x=y
 Lf:∀x,(mEu X.env.kindOf x)->∃c,sW x=some c
 O7:∀x c,X.fn x=true->sW x=bT ->X.EK.heap.objs.size<=c
 hd:X.calm=true->X.A.handled=none
 frames:X.A.frames=some X.stack
 Di:X.stack=X.outer\/(X.stack=X.env::X.outer/\X.env.frame=mB X.env.locals)
 QA:∀b∈X.ex,b≠X.env.locals/\∀x c,sW x=bT ->c≠b
 bs:∀b o,mCR b=aI -> aHF=aI /\X.Le b=none
 Jj:X.base.objs.size<=X.EK.heap.objs.size
 O8:∀b o,mCR b=aI ->b∉X.ex
 O9:∀b∈X.ex,b∉X.fs
 GS:X.EK.heap.FunFrames X.base X.outer
 Lg:∀b∈X.fs,X.Le b=none
structure Inv(X:Cx)(pins:bC)(σ:mZ bQ)(H:Hp)(s:Shared):Prop where
 ok:X.Ok
 os:s.os=X.EK.os
 DM:AllBare s.gens
 base:Un X.fs X.ex X.Le H X.EK.heap s.heap
 EX:∃m,aK7 /\∀(i:Nat)(x:Str)(v:V),X.N[i]? =aW ->σ[i]? =nG mB v->mAw TX->∃u,nT v/\Ahw X.env s.heap m x u
 cell:∀x c,sW x=bT ->∃v,s.heap.IsCell c v
 free:H X.env.locals=none
 Gn:∀x c,sW x=bT ->H c=none
 FH:∀p∈X.pn++pins,oB p.1=mB p.2/\H p.1=none/\p.1≠X.env.locals/\p.1∉X.fs/\∀v,p.2.data≠ .cell v
 Av:Cm X.prog X.w H s.heap
 len:σ.length=X.N.length
section
variable {X:Cx} {pins:bC} {σ:mZ bQ} {H H':Hp} {s:Shared} {h':Heap}
theorem Cx.Ok.Ahx(ok:X.Ok)(e:mCR b=aI):b∉X.fs:=λhb=>by have:=(ok.GS.mem hb).1;rw[e] at this;cases this
theorem Inv.bs(j:aF):∀b o,mCR b=aI ->oB b=aI /\H b=none:=λb o e=>
 (j.base.keep b o (aEO).1 (aEO).2 (j.ok.Ahx e) (qD j.ok.O8),j.base.free b o (aEO).1 (aEO).2 (qD j.ok.O8))
theorem Inv.bk(j:aF):∀b o,mCR b=aI ->oB b=some o:=λb o e=>(qD j.bs).1
theorem Inv.mod(j:aF):Mod X.K X.mg X.base:=j.ok.mod
theorem Inv.E3(j:aF):X.K.In s.heap:=j.ok.mod.O5.keeps j.bk
theorem Inv.lt(j:aF):zB X.env.locals:=let(_,q,_):=j.EX;q.lt
theorem Inv.sz(j:aF):X.EK.heap.objs.size<=s.heap.objs.size:=AsV j.ok.above (Avv j.lt)
theorem Inv.Ahy(j:aF)(h:mEw a):a∉X.fs:=λhb=>by obtain⟨_,o,q,_⟩:=j.ok.GS.mem hb;exact mBq (Asu q) (AsV j.sz h)
theorem Inv.Lh(j:aF):mGV X.env.locals:=λx c e z=>by obtain⟨v,o,q,hd⟩:=aEP;obtain⟨m,⟨o',es,ep,B,I,_⟩,_⟩:=j.EX;rw[z,B] at q;cases q;rw[I] at hd;cases hd
theorem Inv.GS(j:aF):s.heap.FunFrames X.base X.outer:=by
 have all:∀(l:jP),(∀b∈Hu l,b∈X.fs)->X.EK.heap.FunFrames X.base l->s.heap.FunFrames X.base l:=by
  intro l
  induction l with
  |nil=>intro _ _;trivial
  |cons env r q=>
   intro hs B;obtain⟨hk,⟨L,o,hf,I,J,hd⟩,M⟩:=B;have O:=hs L (by unfold Hu;rw[AvD,hf];exact AsG);obtain⟨sl,e⟩:=j.base.slot L o J (j.ok.Lg L O) O λz=>j.ok.O9 L z O;exact(hk,(L,_,hf,I,e,hd),q (λb hb=>hs b (by unfold Hu;rw[AvD,hf];exact rM hb)) M)
 exact all X.outer (λ_ hb=>hb) j.ok.GS
theorem Inv.stack(j:aF):s.heap.FunFrames X.base X.stack:=by
 rcases j.ok.Di with e|⟨e,hf⟩
 .rw[e];exact j.GS
 rw[e];obtain⟨m,q,_⟩:=j.EX;refine .cons (by rw[j.ok.kind];decide) hf q ?_ j.GS;exact Heap.get?_none_of_le (mEx j.ok.above)
theorem Inv.TY(j:aF):∀b∈ aEQ,b∈X.env.locals::X.fs:=λb hb=>by
 rcases j.ok.Di with e|⟨e,hf⟩
 .rw[e] at hb;exact rM hb
 rw[e] at hb;unfold Hu at hb;rw[AvD,hf] at hb;exact hb
theorem Inv.Yi(j:aF):∀b∈ aEQ,H b=none:=λb hb=>by
 rcases oG (nN j.TY) with e|hb
 .rw[e];exact j.free
 obtain⟨_,o,q,_⟩:=j.ok.GS.mem hb;exact j.base.free b o q (nN j.ok.Lg) λz=>j.ok.O9 b z hb
theorem Inv.step{ch:aQ}(j:aF)
 (B:aHG)
 (keep:∀b o,b≠X.env.locals->b∉X.fs->b∉ch->oB b=aI ->H b=none->qC b=aI)
 (slot:∀b o,b≠X.env.locals->b∈X.fs->b∉ch->oB b=aI ->H b=none->∃sl,qC b=some {o with slots:=sl}) (free:∀b o,b∉ch->oB b=aI ->H b=none->H' b=none)
 (there:∀b o,b∉ch->oB b=aI ->∃o',qC b=mB o')
 (Gk:aBO) (F1:∀b o u,H b=qW o u->H' b=qW o u) (Gm:∀b ps,H b=mB (.Lb ps)->∃more,H' b=mB (.Lb (ps++more)))
 (ns:∀m,aK7 ->h'.Ns X.env.locals m) (Av:mEy h') (hg:AllBare g'):
 Inv X pins σ H' {s with heap:=h',gens:=g',drawn:=d',toks:=t'}:=by
 have I:∀b o,aHF=aI ->b≠X.env.locals:=λb o e=>mCQ e j.ok.above;have J:∀b o,aHF=aI ->b∉X.ex->b∉ch:=λb o e hx hb=>by
  rcases(nN B).1 with z|z
  .exact hx z
  exact mBq fI z
 have cellK:∀x c,sW x=bT ->∀v,s.heap.IsCell c v->h'.IsCell c v:=λx c e v (o,L,hd)=>by
  have M:c∉ch:=λz=>(B c z).2.2.1 x c e rfl;by_cases hc:c∈X.fs
  .obtain⟨sl,q⟩:=mJD slot;exact(_,q,hd)
  exact(o,mJD keep,hd)
 refine(j.ok,j.os,hg,(57,57,233,λb o e hx=>?_,λb xs e=>Gk b xs (j.base.Gk b xs e),λb o xs e=>F1 b o xs (j.base.F1 b o xs e),λb ps e=>?_),138,138,gY,Av,j.len)
 .exact keep b o (qD I) hb (zC J) (mBt j.base.keep) aC9
 .obtain⟨sl,O⟩:=mBt j.base.slot;obtain⟨aa,U⟩:=slot b _ (qD I) hb (zC J) O aC9;exact(aa,U)
 .obtain⟨o',O⟩:=zC j.base.there;exact free b o' (zC J) O aC9
 .obtain⟨o',O⟩:=zC j.base.there;exact there b o' (zC J) O
 .obtain⟨ab,O⟩:=j.base.Gm b ps e;obtain⟨ac,U⟩:=Gm b _ O;exact(ab++ac,by rw[U,Array.append_assoc])
 .obtain⟨m,ae,af⟩:=j.EX;refine(m,ns m ae,λi x v O U e3=>?_);obtain⟨u,r,l⟩:=af i x v O U e3;refine(rR u r);rcases l with l|⟨k,c,e,z⟩
  .exact mG l
  exact mI (k,c,e,cellK x c e _ z)
 .obtain⟨v,z⟩:=aEP;exact(v,cellK x c e v z)
 .obtain⟨m,⟨o,_,_,L,_⟩,_⟩:=j.EX;exact free _ o (λz=>(B _ z).2.1 rfl) L j.free
 .obtain⟨v,o,L,hd⟩:=aEP;exact free c o (λz=>(B c z).2.2.1 x c e rfl) L aER
 obtain⟨e,n,ne,Y,d⟩:=j.FH p hp;have M:p.1∉ch:=λz=>(B p.1 z).2.2.2 p hp rfl;exact(keep p.1 p.2 ne Y M e n,free p.1 p.2 M e n,ne,Y,d)
theorem Inv.un(j:aF)(u:mEz X.fs [] h')(Av:mEy h'):mBu H':=by
 obtain⟨m,⟨o,es,ep,q,r⟩,_⟩:=id j.EX;obtain⟨sl,B⟩:=u.any q j.free aC;exact j.step (g':=s.gens) (d':=s.drawn) (ch:=[]) (λ_ z=>nomatch z) (mJE u.keep) (mJE u.slot) (λb o _ e n=>u.free b o e n aC) (λb o _ e=>u.there b o e aC) u.Gk u.F1 u.Gm (λI hm=>by obtain⟨o',J,L,M,O⟩:=hm;rw[q] at M;cases M;exact(_,J,L,B,O)) Av j.DM
theorem Inv.call(j:aF)(u:mEz aEQ ch h')(Av:mEy h')(hg:AllBare g')
 (q:aHG):
 Inv X pins σ H' {s with heap:=h',gens:=g',drawn:=d',toks:=t'}:=by
 obtain⟨m,⟨o,es,ep,B,r⟩,_⟩:=id j.EX;obtain⟨sl,I⟩:=u.any B j.free λz=>(q _ z).2.1 rfl;exact j.step (ch:=ch) q (λb o I hb hc e n=>u.keep b o e n (λz=>(oG (j.TY b z)).elim I hb) hc) (λb o _ _ hc e n=>u.any e n hc) (λb o hc e n=>u.free b o e n hc) (λb o hc e=>u.there b o e hc) u.Gk u.F1 u.Gm (λJ hm=>by obtain⟨o',L,M,O,U⟩:=hm;rw[B] at O;cases O;exact(_,L,M,I,U)) Av hg
theorem Inv.DN(j:aF)(k:∀b o,b≠it->oB b=aI ->qC b=aI)(B:mV H it)(I:it≠X.env.locals)
 (h1:mJF it) (h2:mGV it) (J:∀p∈X.pn++pins,p.1≠it):mBu H:=by
 have L:∀b u,H b=aM ->b≠it:=λb u e z=>(mBv z B);refine j.step (g':=s.gens) (d':=s.drawn) (ch:=[it]) fK (mGW aHH) (mGX aHH) (λ_ _ _ _ n=>n)
  (λb o hc e=>(o,k b o aHH e)) aES (λ_ _ _ e=>e) aK8 aHI aHJ j.DM
 .have e:b=it:=cH;subst e;exact(h1,I,h2,J)
 .obtain⟨o,es,ep,M,r⟩:=hm;exact(o,71,k _ o (Asr I) M,r)
 refine aHK.Ia aHL aEM λ_ _ q=>q;rcases hc with z|z
 .rw[z];exact L b u e
 exact L c _ z
theorem Inv.BW(j:aF)(t:Nat):Inv X pins σ H {s with toks:=t}:=j.un (h':=s.heap) (t':=t) Un.refl j.Av
theorem Inv.CF(j:aF)(k:mBr oB):mBu H:=j.un (Un.CF k) (j.Av.CF k)
theorem Inv.DV(j:aF)(k:mBr oB)(hp:mEw a)(new:mEA a o):
 Inv X pins σ aC7 {s with heap:=h',toks:=t'}:=j.un (Un.DV k hp (j.Av.BC hp)) (j.Av.DV k hp new)
theorem Inv.Ib(j:aF)(q:JW (H x))(he:aHD)(k:mGS oB)(z:∃u,qC e=aM)
 (new:mEA x o):mBu (oA x o):=j.un (Un.Ib q he k z) (j.Av.Ib q he k z new)
theorem Inv.Ahz(j:aF)(q:z.length=σ.length)(w:∀(i:Nat)v,z[i]? =nG mB v->σ[i]? =nG mB v):Inv X pins z H s:=
 (j.ok,j.os,j.DM,j.base,let(m,B,I):=j.EX;(m,B,λi x v J L e3=>I i x v J (w i v L) e3),j.cell,j.free,j.Gn,j.FH,j.Av,q.trans j.len)
theorem Inv.Yj(j:aF)(h:∀p∈q,oB p.1=mB p.2/\H p.1=none/\p.1≠X.env.locals/\p.1∉X.fs/\∀v,p.2.data≠ .cell v):Inv X q σ H s:=
 (j.ok,38,λp hp=>(pD hp).elim (λz=>j.FH p (AsI _ z)) (h p),j.Av,j.len)
theorem TZ{N:cB}(n:N.Nodup){i j:Nat}(a:N[i]? =aW)(b:N[j]? =aW):i=j:=by obtain⟨h1,q⟩:=nL a;obtain⟨h2,z⟩:=nL b;exact(List.getElem_inj n).mp (q.trans z.symm)
theorem Yk(B:aF)(D:X.N.Nodup)(hi:mBw i)(hx:mAw O6)(r:nT v)
 (h:∀s',wL aHM H->(∃a,Heap.SameBut a s.heap s'.heap/\(a=X.env.locals\/sW x=mB a))->Q () s') (hf:aDa:=by first|exact bA|exact eB|assumption):wpAny M A (mGY u) Q E s:=by
 obtain⟨m,G,aa⟩:=id B.EX;have ab:i<σ.length:=(zD B.len (nL hi).1);have Lh:=B.Lh;have tracked:∀{a:Addr}{h':Heap},(∃o,oB a=aI /\H a=none)->zE a->Cm X.prog X.w H h':=λ{a h'}ha hs b ac e=>by
  obtain⟨_,_,ae⟩:=ha;refine(B.Av b ac e).Ia (λc I hc q=>(hs.2 c ?_).trans q) aEM λ_ _ q=>q;rintro rfl;rcases hc with rfl|hc
  .rw[ae] at e;cases e
  rw[ae] at hc;cases hc
 rcases hx with hk|hk
 .refine wpAny_storeName_local hk G (λh' af hs=>?_) (qO B.ok.kind);obtain⟨ag,_,_,ah,_⟩:=id G;refine h _ (195,(_,af,175),176,B.free,B.Gn,gY,tracked (mQ ag ah B.free) hs,166) (_,hs,bA)
  .exact aHN.trans (mBt B.base.keep)
  .obtain⟨sl,J⟩:=mBt B.base.slot;exact(sl,aHN.trans J)
  .obtain⟨o',J⟩:=zC B.base.there;exact(o',aHN.trans J)
  .by_cases hj:j=i
   .subst hj;rw[hi] at J;cases J;rw[Avi ab] at L
    cases L
    exact(u,r,mG (hk,9))
   rw[Avw (Asr hj)] at L;obtain⟨u',N,q⟩:=aa j y v' J L e3;refine(rR u' N);rcases q with⟨k,e⟩|⟨k,c,e,z⟩
   .refine mG (oS k);have:y≠x:=λe=>hj (TZ D J (e▸hi));simp[this,e]
   exact mI (k,c,e,aLa)
  .obtain⟨I,z⟩:=B.cell y c e;exact(I,aLa)
  obtain⟨e,n,ne,O,d⟩:=B.FH p hp;exact((hs.2 p.1 ne).trans e,n,ne,O,d)
 have U:nJ X.fn x:=by
  rcases hf with z|z
  .exact z
  rw[z] at hk;cases hk
 obtain⟨c,hc⟩:=B.ok.Lf x (mG hk);obtain⟨I,z⟩:=B.cell x c hc;refine wpAny_storeName_cell B.ok.kind hk hc z (λh' hc' hs=>?_);obtain⟨ai,aj,ak⟩:=id z;refine h {s with heap:=h'} (195,(m,G.sameBut hs (Asr (Lh x c hc)),175),λy Y e=>?_,B.free,B.Gn,gY,tracked (ai,aj,B.Gn x c hc) hs,166) (c,hs,mI hc)
 .exact aHO.trans (mBt B.base.keep)
 .obtain⟨sl,J⟩:=mBt B.base.slot;exact(sl,aHO.trans J)
 .obtain⟨o',J⟩:=zC B.base.there;exact(o',aHO.trans J)
 .by_cases hj:j=i
  .subst hj;rw[hi] at J;cases J;rw[Avi ab] at L
   cases L
   exact(u,r,mI (mG hk,c,hc,hc'))
  rw[Avw (Asr hj)] at L;obtain⟨u',N,q⟩:=aa j y v' J L e3;refine(rR u' N);rcases q with q|⟨k,Y,e,al⟩
  .exact mG q
  refine mI (k,Y,e,al.sameBut hs ?_);rintro rfl;exact hj (TZ D J (B.ok.inj _ _ _ e hc▸hi))
 .by_cases am:Y=c
  .subst am;exact(pX hc')
  obtain⟨an,ao⟩:=B.cell y Y e;exact(an,ao.sameBut hs am)
 obtain⟨e,n,ne,O,d⟩:=B.FH p hp;refine((hs.2 p.1 ?_).trans e,n,ne,O,d);intro q;rw[q,aj] at e;exact d I (tV jQ ak)
theorem T_(j:aF)(n:X.N.Nodup)(hi:mBw i)(hx:mAw O6)(r:nT v)
 (h:∀s',wL aHM H->Q () s') (hf:aDa:=by first|exact bA|exact eB|assumption):wpAny M A (mGY u) Q E s:=
 Yk j n hi hx r (λs' q _=>h s' q) hf
theorem Inv.Ah0(j:aF)(q:s'.os=s.os)(u:mEz aEQ ch s'.heap)(Av:mEy s'.heap)(hg:AllBare s'.gens)
 (z:aHG):Inv X pins σ H' s':=by
 obtain⟨h',g',d',t',o'⟩:=s';subst q;exact j.call (g':=g') (t':=t') (d':=d') u Av hg z
end
abbrev XK:=Value-> hP ->Hp->Prop
abbrev St:=mZ bQ
abbrev VK:=V->Hp->Prop
abbrev TE:=St->Hp->VK->Prop
abbrev TT:=St->Hp-> kT ->Prop
abbrev TA:=St->Hp->(mCS aL)->Prop
structure Hv where
 nx:St->Hp->Prop
 rt:VK
 bk:vS St:=λ_ _=>False
 ct:vS St:=λ_ _=>False
abbrev TS:=Hv->St->Hp->Prop
def EP(X:Cx)(pins:bC)(σ:St)(Q:VK)(u:Value)(s':Shared):Prop:=∃v H',aAS /\nT v/\oV v
def TP(X:Cx)(pins:bC)(σ:St)(Q:kT)(b:Bool)(s':Shared):Prop:=∃H',aAS /\oV b
def AP(X:Cx)(pins:bC)(σ:St)(Q:mCS aL)(us:aV)(s':Shared):Prop:=∃vs H',aAS /\rD vs/\oV vs
def SP(X:Cx)(pins:bC)(D:Hv)(f:Flow)(s':Shared):Prop:=
 match f with
 | .next=>∃j H',wL j H'/\D.nx j H'
 | .brk=>∃j H',wL j H'/\D.bk j H'
 | .cont=>∃j H',wL j H'/\D.ct j H'
 | .ret u=>∃v j H',wL j H'/\nT v/\D.rt v H'
def PE(X:Cx)(e:Expr)(t:TE):Prop:=
 ∀(pins:bC)(s:Shared)(σ:St)(H:Hp)(Q:VK),aF -> aAT ->sG (pE e) gA s
def PT(X:Cx)(e:Expr)(t:TT):Prop:=
 ∀(pins:bC)(s:Shared)(σ:St)(H:Hp)(Q:kT),aF -> aAT ->sG (isTrue e X.env (pE e)) aET s
def PW(X:Cx)(e:Expr)(t:TT):Prop:=
 ∀(whole:Sem Value)(pins:bC)(s:Shared)(σ:St)(H:Hp)(Q:kT),aF -> aAT ->sG (isTrue e X.env whole) aET s
theorem PW.pt(h:PW X e t):PT X e t:=h _
def PA(X:Cx)(es:hQ)(t:TA):Prop:=
 ∀(pos:Pos)(pins:bC)(s:Shared)(σ:St)(H:Hp)(Q:mCS aL),aF -> aAT ->sG (spliced aLb) (AP X pins σ Q) s
def PS(X:Cx)(st:Stmt)(t:TS):Prop:=
 ∀(pins:bC)(s:Shared)(σ:St)(H:Hp)(D:Hv),aF ->t D σ H->mJG exec
def Go(X:Cx)(st:mZ Stmt)(t:TS):Prop:=
 ∀(pins:bC)(s:Shared)(σ:St)(H:Hp)(D:Hv),aF ->t D σ H->mJG execs
theorem A5(h:xS M t Q s)(j:∀a s,Q a s->n a s):wpAny M A t n E s:=AtL h j λ_ _ x=>x
end L2
namespace L2
open PySem PySem.Spec PyProof.Rows
section
variable {X:Cx}
def Bo(i:Nat):TE:=λσ H Q=>∃v,σ[i]? =nG mB v/\Q v H
def tC(v:V):TE:=λ_ H Q=>Q v H
theorem Ah1(j:mBw i)(n:mAw TX)(hd:vI x:=by decide)(q:pH aLc:=by decide):PE X aBQ (Bo i):=by
 intro pins s σ H Q z h;obtain⟨v,e,h⟩:=h;obtain⟨m,B,D⟩:=z.EX;obtain⟨u,r,l⟩:=D i x v j e n;have fin:EP X pins σ Q u s:=(v,H,z,r,h);rcases l with⟨hk,hm⟩|⟨hk,c,hc,G⟩
 .exact wpAny_Name (wpAny_loadName_local z.ok.kind hk B hm fin) hd
 rcases hk with hk|hk
 .exact wpAny_Name (wpAny_loadName_cell z.ok.kind hk hc G fin) hd
 exact wpAny_Name (wpAny_loadName_free z.ok.kind hk hc G fin q) hd
theorem Ar{i j pos}:PE X (mEB eV) (tC eV):=λ_ _ _ H _ n h=>wpAny_Constant_int (mCT mE i h)
theorem Dw{b j pos}:PE X (mEB (.bool b)) (tC (.bl b)):=λ_ _ _ H _ n h=>Constant_bool (.bl b,H,n,2,h)
theorem Da{j pos}:PE X (mEB .none) (tC .Ax):=λ_ _ _ H _ n h=>Constant_none (.Ax,H,n,2,h)
theorem Ic{x j pos}:PE X (mEB dA) (tC dA):=λ_ _ _ H _ n h=>Calls.Constant_str (dA,H,n.BW _,bY,h)
def Gl(X:Cx)(x:Str):Prop:=X.env.kindOf x=some .globalImplicit
theorem QB(j:aF)(hg:lY)(hm:X.mg x=aM)(h:Q u s)
 (hd:vI x:=by decide):wpAny bO X.A (pE aBQ) Q E s:=
 mJH (Calls.loadGlobal_global aLd hm h)
theorem Gp(j:aF)(hg:lY)(hm:sX x)(n:mEC x=aM)(h:Q u s)
 (q:mCU x:=by decide) (hd:vI x:=by decide):wpAny bO X.A (pE aBQ) Q E s:=by
 obtain⟨z,h1,h2⟩:=j.mod.Ji;exact mJH (Calls.loadGlobal_builtin aLd hm (wM j.ok.Ji h1.keeps j.bk) ((h2 x q).trans n) h)
theorem AQ(hg:lY)(hm:X.mg x=aM)(r:nT v)(hd:vI x:=by decide):PE X aBQ (tC v):=
 λ_ _ _ H _ j h=>QB j hg hm (v,H,j,r,h) hd
variable {a b:Expr} {ta tb:TE} {pos:Pos}
def PC(X:Cx)(op:CmpOp)(a b:Expr)(t:TE):Prop:=
 ∀(pins:bC)(s:Shared)(σ:St)(H:Hp)(Q:VK),aF -> aAT ->
  wpAny bO X.A (pE a) (λv j=>sG (pE b) (λu n=>sG (compareOp op v u) gA n) j) X.xe s
theorem Ah2(b:Expr)(h:op≠ .In)(h2:op≠ .NotIn):mCV b:=by
 have j:pH (op==CmpOp.In):=by cases op<;>first|rfl|exact rB h
 have n:pH (op==CmpOp.NotIn):=by cases op<;>first|rfl|exact rB h2
 cases b<;>simp[behindInMarks,j,n]
def tB(t:TE):TT:=λσ H Q=>t σ H λx H1=>∃c,x= .bl c/\Q c H1
theorem Yl(h:PC X op a b t)(h1:mCV b:=by first|exact Ah2 _ aZ aZ|rfl):PT X aHP (tB t):=by
 intro pins s σ H Q j hw;refine wpAny_isTrue_Compare1 (A5 (mCW _) λv s1 h1=>A5 h1 λu s2 h2=>A5 h2 λc s3 (x,H1,n,z,B)=>?_) h1;obtain⟨d,rfl,q⟩:=B
 cases z
 exact Atm (mQ H1 n q)
theorem D9(h:nR e t)(he:mGZ e e.pos:=by intro _;rfl):PT X e (tB t):=by
 intro pins s σ H Q j hw;refine isTrue_plain (mJI (mCW _)) (he _);obtain⟨d,rfl,q⟩:=B
 cases z
 exact Atm (mQ H1 n q)
variable {tA tB':TT} {rest:hQ}
def Ym(t u:TT):TT:=λσ H Q=>t σ H λc H1=>if c=true then u σ H1 Q else Q false H1
def tOr(t u:TT):TT:=λσ H Q=>t σ H λc H1=>if c=true then Q true H1 else u σ H1 Q
def Ah4(t:TT):TT:=λσ H Q=>t σ H λc H1=>Q (!c) H1
theorem Jk(ha:aDb):PW X (mCX .And [a]) tA:=by
 intro j pins s σ H Q n h;refine isTrue_and aLe
 cases c with
 |true=>exact isTrue_and_nil e
 |false=>exact e
theorem JX(ha:aDb):PW X (mCX .Or [a]) tA:=by
 intro j pins s σ H Q n h;refine isTrue_or aLe
 cases c with
 |false=>exact isTrue_or_nil e
 |true=>exact e
theorem Gq(ha:aDb)(hb:PW X (mED .And) tB'):PW X (mEE .And) (Ym tA tB'):=by
 intro j pins s σ H Q n h;refine isTrue_and aLf
 cases c with
 |true=>exact aLg
 |false=>exact(mQ H1 q z)
theorem Id(ha:aDb)(hb:PW X (mED .Or) tB'):PW X (mEE .Or) (tOr tA tB'):=by
 intro j pins s σ H Q n h;refine isTrue_or aLf
 cases c with
 |true=>exact(mQ H1 q z)
 |false=>exact aLg
theorem Ff(ha:aDb):PT X (.UnaryOp .Not a pos) (Ah4 tA):=by intro pins s σ H Q j h;exact isTrue_not (ha pins s σ H (λc H1=>Q (!c) H1) j h)
def Ah5(ta tb:TE):TE:=λσ H Q=>ta σ H λx H1=>∃c,x= .bl c/\if c=true then tb σ H1 Q else Q aAU H1
def Ah6(ta tb:TE):TE:=λσ H Q=>ta σ H λx H1=>∃c,x= .bl c/\if c=true then Q (.bl true) H1 else tb σ H1 Q
theorem JY{op}(h:nR a t):PE X (mCX op [a]) t:=λpins s σ H Q j hw=>BoolOp_one (mCW Q)
theorem OB(ha:hR)(hb:nR (mED .And) tb):PE X (mEE .And) (Ah5 ta tb):=by
 intro pins s σ H Q j h;refine BoolOp_and aLh;obtain⟨c,rfl,z⟩:=z
 cases q
 refine Atm ?_
 cases c with
 |true=>exact mBx hb Q z
 |false=>exact(aAU,H1,n,2,z)
theorem QC(ha:hR)(hb:nR (mED .Or) tb):PE X (mEE .Or) (Ah6 ta tb):=by
 intro pins s σ H Q j h;refine BoolOp_or aLh;obtain⟨c,rfl,z⟩:=z
 cases q
 refine Atm ?_
 cases c with
 |false=>exact mBx hb Q z
 |true=>exact(.bl true,H1,n,2,z)
def tIf(t:TT)(ta tb:TE):TE:=λσ H Q=>t σ H λc H1=>if c=true then ta σ H1 Q else tb σ H1 Q
theorem Ie(hc:PT X c tA)(ha:hR)(hb:lZ):PE X (.IfExp c a b pos) (tIf tA ta tb):=by
 intro pins s σ H Q j h;refine wpAny_IfExp aLi
 cases d with
 |true=>exact mBx ha Q q
 |false=>exact mBx hb Q q
end
end L2
namespace L2
open PySem PySem.Spec PyProof.Rows
def Ae(K:PySem.W.Frag)(H:Hp)(a:Addr)(xs:aL):Prop:=
 uN (.Ac xs)\/
  ∃(o:Obj)(its:jO)(n:Nat),sH a=aI /\o.cls= fH /\o.dict=none/\o.data= .seq its n/\its.size<=sizeLine/\AB xs its.toList
def A8(K:PySem.W.Frag)(H:Hp)(a:Addr)(xs:aL):Prop:=
 uN iP \/
  ∃(o:Obj)(its:jO)(n:Nat),sH a=aI /\o.cls= gW /\o.data= .seq its n/\its.size<=sizeLine/\AB xs its.toList
def Ah8:Value-> bQ
 | .none=>some .Ax
 | .bool b=>zF b
 | .int i _=>mX i
 | .str x _=>mB dA
 | .bytes b _=>mB (.FG b)
 | .float b _=>mB (.Q9 b)
 | .ref a=>mH a
 | .type n=>mB (.ty n)
 |_=>none
theorem AJ.Yn(r:nT x):oI Ah8 u x:=by
 cases x with
 |Ax=>cases r;rfl
 |bl _=>cases r;rfl
 |int _=>obtain⟨t,rfl⟩:=r;rfl
 |str _=>obtain⟨t,rfl⟩:=r;rfl
 |FG _=>obtain⟨t,rfl⟩:=r;rfl
 |Q9 _=>obtain⟨t,rfl⟩:=r;rfl
 |ref _=>cases r;rfl
 |ty _=>cases r;rfl
theorem AJ.inj(r:nT x)(q:nT y):x=y:=Ase (r.Yn.symm.trans q.Yn)
theorem AB.inj:∀{xs ys:aL}{us:aV},fF ->rD ys->xs=ys
 |_,_,_,.nil,.nil=>rfl
 |_,_,_,.cons r t,.cons j t'=>by rw[r.inj j,AB.inj t t']
section
variable {X:Cx} {pins:bC} {σ:St} {H:Hp} {s:Shared} {a:Addr} {xs ys:aL}
theorem Ae.of{K:PySem.W.Frag}(h:H a=gZ):Ae K H a xs:= nG mG h
theorem A8.of{K:PySem.W.Frag}(h:H a=fJ):A8 K H a xs:= nG mG h
theorem Inv.list(j:aF)(h:mBy Ae):mJJ PlainL:=by
 rcases h with h|⟨o,its,n,hk,hc,hd,hs,hz,r⟩
 .obtain⟨z,its,n,r,e⟩:=h.ok j.Av;exact(its,r,(_,n,e,26,2),z)
 refine(its.toList,r,(o,n,j.E3 a o hk,hc,hd,210),5);have e:=r.length;simp at e;omega
theorem Inv.tuple(j:aF)(h:mBy A8):mJJ IsTup:=by
 rcases h with h|⟨o,its,n,hk,hc,hs,hz,r⟩
 .obtain⟨z,its,r,p⟩:=h.ok j.Av;exact(its,r,p,z)
 refine(its.toList,r,(o,j.E3 a o hk,hc,n,210),5);have e:=r.length;simp at e;omega
theorem Inv.M6(j:aF)(h:mBy Ae)(h':Ae X.K H a ys):xs=ys:=by
 obtain⟨its,r,⟨o,n,e,_,_,d⟩,_⟩:=uO h;obtain⟨its',q,⟨o',n',e',_,_,d'⟩,_⟩:=uO h';rw[e] at e';cases e';rw[d] at d';injection d' with z _
 have:its=its':=aLj;subst this;exact r.inj q
theorem Inv.Ua(j:aF)(h:mBy A8)(h':A8 X.K H a ys):xs=ys:=by
 obtain⟨its,r,⟨o,e,_,n,d⟩,_⟩:=j.tuple h;obtain⟨its',q,⟨o',e',_,n',d'⟩,_⟩:=j.tuple h';rw[e] at e';cases e';rw[d] at d';injection d' with z _
 have:its=its':=aLj;subst this;exact r.inj q
end
abbrev Cx.Ig(X:Cx)(E:bN):Cx:={X with xe:=E}
abbrev Cx.QD(X:Cx):Cx:=X.Ig λ_ _=>False
theorem Cx.Ok.Ig{X:Cx}(ok:X.Ok)(E:bN):aDc.Ok:=
 aLk
theorem Cx.Ok.JZ{X:Cx}(ok:aDc.Ok):X.Ok:=
 aLk
section
variable {X:Cx} {pins:bC} {σ:St} {H:Hp} {s:Shared} {E:bN}
theorem Inv.Ig(j:aF)(E:bN):Inv aDc pins σ H s:=(j.ok.Ig E,196)
theorem Inv.JZ(j:Inv aDc pins σ H s):Inv X pins σ H s:=(j.ok.JZ,196)
theorem SP.JZ(h:SP aDc pins D f s'):SP X pins D f s':=by
 cases f with
 |next=>obtain⟨j,H',z,q⟩:=h;exact aHQ
 |brk=>obtain⟨j,H',z,q⟩:=h;exact aHQ
 |cont=>obtain⟨j,H',z,q⟩:=h;exact aHQ
 |ret u=>obtain⟨v,j,H',z,r,q⟩:=h;exact(v,j,H',z.JZ,r,q)
theorem Go.QD{st:mZ Stmt}(h:Go X.QD st t):Go X st t:=λpins s σ H D j hw=>
 AtL (h pins s σ H D (j.Ig _) hw) (λ_ _ q=>q.JZ) λ_ _ z=>sY z
end
section
variable {X:Cx} {st:Stmt} {rest:mZ Stmt} {t u:TS} {e:Expr} {te:TE} {pos:Pos}
def Ih:TS:=λD σ H=>tW H
def EL(t u:TS):TS:=λD σ H=>t {D with nx:=u D} σ H
theorem AY:Go X [] Ih:=λ_ _ σ H _ j h=>Avx aHR
theorem Ak(h1:PS X st t)(h2:Go X rest u):Go X (st::rest) (EL t u):=by
 intro pins s σ H D j h;refine wpAny_execs_cons (A5 (h1 pins s σ H {D with nx:=u D} j h) λf s1 q=>?_)
 cases f with
 |next=>
  obtain⟨n,H',z,q⟩:=q;exact h2 pins s1 n H' D z q
 |ret v=>exact q
 |brk=>exact q
 |cont=>exact q
theorem Ao(h1:PS X st t):Go X [st] t:=by
 intro pins s σ H D j h;refine wpAny_execs_cons (A5 (h1 pins s σ H D j h) λf s1 q=>?_)
 cases f with
 |next=>exact Avx q
 |ret v=>exact q
 |brk=>exact q
 |cont=>exact q
def Ah9:TS:=λD σ H=>D.ct σ H
theorem Yo:PS X (.Continue pos) Ah9:=λ_ _ σ H _ j h=>wpAny_Continue aHR
theorem Inv.quiet(j:aF):qP interactive X.env:=by simp[interactive,j.ok.kind]
def OC(te:TE):TS:=λD σ H=>te σ H λ_ H1=>tW H1
theorem Cu(he:hA)(hs:swapsWith e none pos.line X.env=pure false:=by rfl):PS X (.Expr e pos) (OC te):=by intro pins s σ H D j h;exact wpAny_Expr_any (mJK (σ,H1,n,z)) j.quiet hs
def J_(te:TE):TS:=λD σ H=>te σ H D.rt
theorem A3(he:hA):PS X (.Return (mB e) pos) (J_ te):=by intro pins s σ H D j h;exact wpAny_Return_some (mJK (x,σ,H1,n,q,z))
def Ii(c:TT)(t u:TS):TS:=λD σ H=>c σ H λb H1=>if b=true then t D σ H1 else u D σ H1
theorem AU(hc:PT X c tc)(ha:Go X a t)(hb:Go X b u):PS X (.If c a b pos) (Ii tc t u):=by
 intro pins s σ H D j h;refine wpAny_If aLi
 cases d with
 |true=>exact mBx ha D q
 |false=>exact mBx hb D q
end
abbrev TG:=V->St->Hp-> gB ->Prop
abbrev OD:=aL ->St->Hp-> gB ->Prop
def PG(X:Cx)(target:Expr)(t:TG):Prop:=
 ∀(pins:bC)(s:Shared)(σ:St)(H:Hp)(v:V)(u:Value)(Q:gB),aF ->nT v->t v σ H Q->
  wpAny bO X.A (assign target X.env u) (λ_ s'=>∃j H',wL j H'/\oV j) X.xe s
def OE(X:Cx)(j:hQ)(t:OD):Prop:=
 ∀(pins:bC)(s:Shared)(σ:St)(H:Hp)(vs:aL)(us:aV)(Q:gB),aF ->rD vs->t vs σ H Q->
  wpAny bO X.A (assignInOrder ((zG j).map (·.2)) us) (λ_ s'=>∃n H',wL n H'/\oV n) X.xe s
abbrev Ub:=V->V->V->Hp-> hB ->Prop
def Uc(X:Cx)(t:Ub):Prop:=
 ∀(pins:bC)(s:Shared)(σ:St)(H:Hp)(o i v:V)(j iv u:Value)(Q:hB),aF ->AJ o j->AJ i iv->nT v->t o i v H Q->
  wpAny bO X.A (setItem j iv u) (λ_ s'=>∃H',aAS /\Q H') X.xe s
abbrev Ud:=V->V->Hp->VK->Prop
def Yp(X:Cx)(op:Operator)(t:Ud):Prop:=
 ∀(pins:bC)(s:Shared)(σ:St)(H:Hp)(x y:V)(v u:Value)(Q:VK),aF -> hS ->nT y->t x y H Q->
  wpAny bO X.A (inplaceOp op v u) gA X.xe s
section
variable {X:Cx} {pos:Pos}
def EY(i:Nat):TG:=λv σ H Q=>Q aHM H
theorem AI(j:X.N.Nodup)(hi:mBw i)(hx:mAw O6)(hf:aDa:=by first|exact bA|exact eB|assumption):PG X aBQ (EY i):=by intro pins s σ H v u Q n r h;exact wpAny_assign_Name (T_ n j hi hx r (λs' q=>(_,H,q,h)) hf)
def Ue:OD:=λvs σ H Q=>vs=[]/\Q σ H
def OF(t:TG)(u:OD):OD:=λvs σ H Q=>∃v r,vs=v::r/\t v σ H λj H'=>u r j H' Q
theorem F2:OE X [] Ue:=by
 intro pins s σ H vs us Q j r h;obtain⟨e,h⟩:=h;subst e
 cases r
 exact assignInOrder_nil aHR
theorem CG(h1:PG X e t)(h2:OE X es u)
 (hs:(zG gJ).map (·.2)=assign e X.env::(zG es).map (·.2):=by rfl):OE X gJ (OF t u):=by
 intro pins s σ H vs us Q j r h;obtain⟨v,n,q,h⟩:=h;subst q
 cases r with
 |cons r z=>
  rw[hs];refine assignInOrder_cons (A5 (h1 pins s σ H _ _ _ j r h) λ_ s1 (B,H1,D,G)=>?_);exact h2 pins s1 B H1 _ _ Q D z G
def QE(K:PySem.W.Frag)(n:Nat)(t:OD):TG:=λv σ H Q=>∃a xs,v= aJ /\uP H/\xs.length=n/\t xs σ H Q
theorem AhA(hc:fL)(h:OE X es t)
 (j:uJ zG es n:=by rfl) (q:(zG es).findIdx? (·.1)=none:=by rfl):PG X (.Tuple es k pos) (QE X.K n t):=by
 intro pins s σ H v u Q z r hw;obtain⟨a,xs,B,hq,D,hw⟩:=hw;subst B
 cases r
 obtain⟨its,G,I,hz⟩:=z.tuple hq;refine assign_Tuple_tuple (z.ok.hd hc) I (by simp[j,<-D,G.length]) q λh' hx=>?_;exact h pins _ σ H xs _ Q (z.CF (t':=s.toks) λb o e=>hx b o (AsP fI) e) (mR G) hw
def AhB(to j:TE)(t:Ub):TG:=λv σ H Q=>to σ H λo H1=>j σ H1 λi H2=>t o i v H2 λn=>Q σ n
theorem AhC(j:jR)(hi:nR i n)(hs:Uc X t)
 (ha:∀v,assign (mBz o i) X.env v=(do
  let q<-holding [v] (pE o);let iv<-holding [v,q] (pE i)
  standAt pos
  holding [v,q,iv] (setItem q iv v)
  release [v,q,iv] []):=by intro _;rfl):PG X (mBz o i) (AhB to n t):=by
 intro pins s σ H v u Q z r h;rw[ha];refine nF (Au0 (A5 (oT j z) λq s1 (x,H1,B,D,G)=>?_));refine nF (Au0 (A5 (sI hi B G) λiv s2 (y,H2,I,J,L)=>?_));refine ArZ (wpAny_standAt (ArZ (Au0 (A5 (hs pins s2 σ H2 x y v q iv u _ I D J r L) λ_ s3 (M,N,O)=>?_))));exact wpAny_release (σ,M,N,O)
def OG(te:TE)(g:TG):TS:=λD σ H=>te σ H λx H1=>g x σ H1 D.nx
theorem AhD(he:hA)(hg:PG X tg g)(hs:swapsWithSole [tg] e pos.line X.env=pure false:=by rfl)(hw:swappedStores [tg] e X.env=pure none:=by rfl)
 (h1:(zG [tg]).map (·.2)=[assign tg X.env]:=by rfl):PS X (.Assign [tg] e pos) (OG te g):=by
 intro pins s σ H D j h;refine wpAny_Assign_stores (mJI aBR) hs hw;rw[h1];exact A5 (hg pins s1 σ H1 x v _ n z B) λ_ s2 q=>q
theorem A6(j:X.N.Nodup)(hi:mBw i)(hx:mAw O6)(he:hA)(hs:mG0 e aHS:=by rfl)(hf:aDa:=by first|exact bA|exact eB|assumption):
 PS X (.Assign [aHS] e pos) (OG te (EY i)):=by
 intro pins s σ H D n h;refine wpAny_Assign_Name (A5 (oT he n) λv s1 (y,H1,q,z,B)=>?_) hs;exact T_ q j hi hx z (λs2 G=>(_,H1,G,B)) hf
def Yq(i:Nat)(te:TE)(j:Ud):TS:=λD σ H=>∃x,σ[i]? =mB aW /\te σ H λy H1=>j x y H1 λz H2=>D.nx (σ.set i (mB z)) H2
theorem Hw(j:X.N.Nodup)(hi:mBw i)(hx:mAw O6)(he:hA)(n:Yp X op q)(hf:aDa:=by first|exact bA|exact eB|assumption):
 PS X (mG1 aHS e) (Yq i te q):=by
 intro pins s σ H D B h;obtain⟨v,G,h⟩:=h;obtain⟨m,I,J⟩:=B.EX;obtain⟨u,r,l⟩:=J i x v hi G (by rcases hx with k|k;exact mG k;exact mI (mG k));refine wpAny_AugAssign_Name ?_;have go:wpAny bO X.A (pE e) (λw L=>sG (inplaceOp op u w) (λr M=>sG (mGY r) (λ_=>SP X pins D .next) M) L) X.xe s:=by refine A5 (oT he B) λw s1 (y,H1,N,O,U)=>?_;refine A5 (n pins s1 σ H1 v y u w _ N r O U) λz s2 (aa,H2,Y,ab,ac)=>?_;exact T_ Y j hi hx ab (λs3 ae=>(_,H2,ae,ac)) hf
 rcases l with⟨hk,hm⟩|⟨hk,c,hc,af⟩
 .exact wpAny_loadName_local B.ok.kind hk I hm go
 rcases hk with hk|hk
 .exact wpAny_loadName_cell B.ok.kind hk hc af go
 rcases hx with k|k
 .have:mCY x=some .free:=hk;rw[k] at this;cases this
 have:mCY x=some .free:=hk;rw[k] at this;cases this
def AhE(to j te:TE)(n:aDd)(q:Ud)(B:Ub):TS:=λD σ H=>to σ H λo H1=>j σ H1 λi H2=>n o i H2 λx G=>te σ G λy I=>q x y I λz J=>B o i z J λL=>tW L
def Yr(X:Cx)(t:aDd):Prop:=
 ∀(pins:bC)(s:Shared)(σ:St)(H:Hp)(o i:V)(j iv:Value)(Q:VK),aF ->AJ o j->AJ i iv->t o i H Q->
  wpAny bO X.A (getItem j iv) gA X.xe s
theorem QF(j:jR)(hi:nR i n)(hg:Yr X q)(he:hA)(hp:Yp X op z)(hs:Uc X B)
 (ha:∀G iv new,augStore i G iv new=(do holding [new,G,iv] (setItem G iv new);release [new,G,iv] [];pure .next):=by intros;rfl):PS X (mG1 (.Subscript o i tpos) e) (AhE to n te q z B):=by
 intro pins s σ H D I h;refine wpAny_AugAssign_SubscriptAny (A5 (oT j I) λG s1 (J,H1,L,M,N)=>?_) ha;refine A5 (sI hi L N) λiv s2 (O,H2,U,Y,aa)=>?_;refine A5 (hg pins s2 σ H2 J O G iv _ U M Y aa) λBM s3 (ab,ac,ae,af,ag)=>?_;refine A5 (he pins s3 σ ac _ ae ag) λv s4 (ah,ai,aj,ak,al)=>?_;refine A5 (hp pins s4 σ ai ab ah BM v _ aj af ak al) λnew s5 (am,an,ao,ap,aq)=>?_;exact A5 (hs pins s5 σ an J O am G iv new _ ao M Y ap aq) λ_ ar (as,au,av)=>(σ,as,au,av)
end
section
variable {X:Cx} {pos:Pos}
def Uf(c:TT)(tb:TS):TS:=λD σ H=>∃W:aBS,(∃m,W m σ H)/\∀m σ H,W m σ H->
 c σ H λb H1=>if b=true then∃N:gB,(∀j H',N j H'->∃n,n<m/\W n j H')/\tb {D with nx:=N,ct:=N,bk:=D.nx} σ H1 else tW H1
theorem Ka(hp:aLl)(hc:PT X c tc)(hb:Go X body tb):PS X (.While c body [] pos) (Uf tc tb):=by
 intro pins s σ H D j h;obtain⟨W,⟨m0,aa⟩,turn⟩:=h;refine wpAny_While (codeAny_whileLoop (λn s'=>∃q H',wL q H'/\W n q H') ?_ m0 (σ,H,j,aa));rintro n s1 ⟨z,H1,ab,ac⟩;refine Aul hp (A5 (hc pins s1 z H1 _ ab (turn n z H1 ac)) λb s2 (H2,B,G)=>?_)
 cases b with
 |true=>
  obtain⟨N,I,G⟩:=G;rw[bF];refine Aul hp (A5 (hb pins s2 z H2 _ B G) λf s3 J=>?_)
  cases f with
  |next=>
   obtain⟨L,M,O,n3⟩:=J;obtain⟨U,hm,Y⟩:=I L M n3;exact(U,hm,L,M,O,Y)
  |cont=>
   obtain⟨L,M,O,n3⟩:=J;obtain⟨U,hm,Y⟩:=I L M n3;exact(U,hm,L,M,O,Y)
  |brk=>exact J
  |ret v=>exact J
 |false=>
  rw[mM Ast];exact Avx (z,H2,B,G)
end
structure It where
 go:Nat->Hp->Prop
 Fg:Nat->Hp->V->Hp->Prop
 stop:Nat->Hp->Prop
def Gr(X:Cx)(pins:bC)(H:Hp)(b:Addr):Prop:=
 H b=none/\b≠X.env.locals/\b∉X.fs/\(mJF b)/\(mGV b)/\∀p∈X.pn++pins,p.1≠b
theorem Inv.Hx(j:aF)(hb:mEw b)(B:mV H' b):Gr X pins H' b:=by
 refine(B,Auj (Ass j.lt hb),j.Ahy hb,mI (AsV j.sz hb),λx c e z=>?_,λp hp z=>?_)
 .obtain⟨v,q⟩:=aEP;exact mBq q.lt (oL z hb)
 exact absurd (Ass (Asu (j.FH p hp).1) (oL z hb)) (AtT _)
structure F3(P:Program)(w:World)(K:PySem.W.Frag)(tg:Expr)(J:It)(fp:aQ)(it:Addr)(tn:mAx Nat Heap):Prop where
 mem:it∈fp
 obj:∀i h,tn i h->∀b∈fp,∃o,nZ b=aI /\∀v,o.data≠ .cell v
 keep:∀i h h',tn i h->(∀b∈fp,∀o,nZ b=aI ->qC b=aI)->tn i h'
 item:∀(X:Cx),X.prog=P->X.w=w->X.K=K->X.calm=true->∀(i:Nat)(pins:bC)(s:Shared)(σ:St)(H:Hp)(E:bN),aF ->(∀b∈fp,aBT)->tn i s.heap-> kU ->
  wpAny aAa X.A aDe (λr s1=>∃u,r=aM /\
   wpAny aAa X.A aLm (λ_ s2=>∃x H',sZ H' s2/\nT x/\ kW /\tn (i+1) s2.heap/\∀b∈fp,H' b=none) E s1) E s
 done:∀(X:Cx),X.prog=P->X.w=w->X.K=K->X.calm=true->∀(i:Nat)(pins:bC)(s:Shared)(σ:St)(H:Hp)(E:bN),aF ->(∀b∈fp,aBT)->tn i s.heap->xT i->
  wpAny aAa X.A aDe (λr s1=>r=none/\sZ H s1) E s
 self:∀(A:Around)(i:Nat)(s:Shared)(Q:bN)(E:bN),tn i s.heap->Q iQ s->xS aAa (pyIter iQ) Q s
abbrev TI:=St->Hp->(vS It)->Prop
def Ug(X:Cx)(pins:bC)(σ:St)(tg:Expr)(R:vS It)(j:Value)(s2:Shared):Prop:=
 ∃(it:Addr)(n:aQ)(q:mAx Nat Heap)(J:It)(H':Hp),j= iQ /\sZ H' s2/\F3 X.prog X.w X.K tg J n it q/\q 0 s2.heap/\(∀b∈n,mEF H' b)/\R J H'
def PI(X:Cx)(tg iter:Expr)(j:TI):Prop:=
 ∀(pins:bC)(s:Shared)(σ:St)(H:Hp)(R:vS It),aF ->j σ H R->
  wpAny bO X.A (pE iter) (λv s1=>sG (pyIter v) (Ug X pins σ tg R) s1) X.xe s
theorem Kc(j:oB it=aI)(hc:o.cls= oH n)(hd:o.data= mAu vs)
 (q:mJL n) (z:Q () s):wpAny M A aLm Q E s:=by
 cases tg<;>first
  |exact Asg z
  |(cases u<;>first
   |exact Asg z
   |(refine wK wpAny_load j
     rw[hc,hd];show xS M (if(["enumerate","zip","dict_itemiterator","dict_reverseitemiterator","odict_iterator","itertools.zip_longest","itertools.pairwise"].contains n&&vs[0]? ==mB (rawInt _))=true then _ else _) Q s;rw[Asa (by intro h;rw[q,At5] at h;cases h)];exact Asg z))
def Cf(K:PySem.W.Frag)(a:Addr):It:=
 (λi H=>∃xs x,eW /\xs[i]? =aW,λi H x H'=>H'=H/\∀xs,eW ->xs[i]? =aW,λi H=>∃xs,eW /\xs.length<=i)
def GU(K:PySem.W.Frag)(a:Addr):It:=
 (λi H=>∃xs x,uP H/\xs[i]? =aW,λi H x H'=>H'=H/\∀xs,uP H->xs[i]? =aW,λi H=>∃xs,uP H/\xs.length<=i)
def Jl(lo:Int)(n:Nat):It:=(mJM (lo+i))
theorem Ys{K:PySem.W.Frag}(a it:Addr):mG2 aAb (λi h=>mBA it a) where
 mem:=by simp
 obj:=λi h st b hb=>by have e:b=it:=cH;subst e;obtain⟨o,e,c,d⟩:=st;exact(mCZ o d)
 keep:=λi h h' st k=>st.at λo e=>k it aC o e
 item:=by intro X j hw n hc i pins s σ H E q hf st hg;subst j hw n;obtain⟨xs,x,hq,hx⟩:=hg;obtain⟨its,B,p,hz⟩:=q.list hq;obtain⟨u,hu,D⟩:=B.get hx;obtain⟨f0,f1,f2,G,f4,I⟩:=eC;refine wpAny_pyNext_list_item st p.isList (x:=u) aBU λh' J L=>?_;obtain⟨o,e,c,d⟩:=id J;exact(u,2,mC0 d (132,(mG3 q.M6),J,aAc))
 done:=by intro X j hw n hc i pins s σ H E q hf st hg;subst j hw n;obtain⟨xs,hq,hx⟩:=hg;obtain⟨its,B,p,hz⟩:=q.list hq;obtain⟨f0,f1,f2,G,f4,I⟩:=eC;have M:=B.length;exact wpAny_pyNext_list_end (q.ok.hd hc) st p.isList dR λh' N=>(mEH q.DN N)
 self:=λ_ _ _ _ _ st h=>wpAny_pyIter_listiter st h
theorem Yt{K:PySem.W.Frag}(a it:Addr):mG2 (GU K a) (λi h=>aEU) where
 mem:=by simp
 obj:=λi h st b hb=>by have e:b=it:=cH;subst e;obtain⟨o,e,c,d⟩:=st;exact(mCZ o d)
 keep:=λi h h' st k=>st.at λo e=>k it aC o e
 item:=by intro X j hw n hc i pins s σ H E q hf st hg;subst j hw n;obtain⟨xs,x,hq,hx⟩:=hg;obtain⟨its,B,p,hz⟩:=q.tuple hq;obtain⟨u,hu,D⟩:=B.get hx;obtain⟨f0,f1,f2,G,f4,I⟩:=eC;refine wpAny_pyNext_tuple_item st (mG4 mAy) (x:=u) aBU λh' J L=>?_;obtain⟨o,e,c,d⟩:=id J;exact(u,2,mC0 d (132,(mG3 q.Ua),J,aAc))
 done:=by intro X j hw n hc i pins s σ H E q hf st hg;subst j hw n;obtain⟨xs,hq,hx⟩:=hg;obtain⟨its,B,p,hz⟩:=q.tuple hq;obtain⟨f0,f1,f2,G,f4,I⟩:=eC;have M:=B.length;exact wpAny_pyNext_tuple_end (q.ok.hd hc) st (mG4 mAy) dR λh' N=>(mEH q.DN N)
 self:=λ_ _ _ _ _ st h=>wpAny_pyIter_tupleiter st h
theorem AhF{K:PySem.W.Frag}(it:Addr)(lo:Int)(n:Nat):mG2 aEV (mJN 1) where
 mem:=by simp
 obj:=λi h st b hb=>by
  have e:b=it:=cH;subst e;exact(_,st,λv z=>by
   cases z)
 keep:=λi h h' st k=>k it aC _ st
 item:=by intro X j hw q hc i pins s σ H E B hf st hg;subst j hw q;obtain⟨f0,f1,f2,D,f4,G⟩:=eC;refine(mJO 1).item i s _ _ hg st λv h' tk I J L=>?_;obtain⟨t,rfl⟩:=I;refine(0,mJP (mE (lo+i),H,aLn,(oS t),aAd,J,aAc));rw[Int.mul_one]
 done:=by intro X j hw q hc i pins s σ H E B hf st hg;subst j hw q;obtain⟨f0,f1,f2,D,f4,G⟩:=eC;exact wpAny_pyNext_range_end aDf st (by have:n<=i:=hg;omega) λh' M=>aLo
 self:=λ_ _ _ _ _ st h=>aLp
end L2
namespace L2
open PySem PySem.Spec PyProof.Rows
section
variable {X:Cx} {tg:Expr}
def QG(K:PySem.W.Frag)(tl:TE):TI:=λσ H R=>tl σ H λx H1=>∃a,x= aJ /\ aHT /\mAz Cf
def Yu(K:PySem.W.Frag)(tl:TE):TI:=λσ H R=>tl σ H λx H1=>∃a,x= aJ /\(∃xs,uP H1)/\mAz GU
theorem Yv(j:nR l tl):PI X tg l (QG X.K tl):=by
 intro pins s σ H R n h;refine A5 aDg λv s1 (x,H1,z,B,D)=>?_;obtain⟨a,e,⟨xs,hq⟩,q⟩:=D;subst e
 cases B
 obtain⟨its,G,p,hz⟩:=z.list hq;refine At_ p.isList ?_;refine(mJQ Ys a);have e:mG5 b:=cH;subst e;exact z.Hx aD aDh
theorem AhG(j:nR l tl):PI X tg l (Yu X.K tl):=by
 intro pins s σ H R n h;refine A5 aDg λv s1 (x,H1,z,B,D)=>?_;obtain⟨a,e,⟨xs,hq⟩,q⟩:=D;subst e
 cases B
 obtain⟨its,G,p,hz⟩:=z.tuple hq;refine AtG (mG4 s1.heap.IsTuple) ?_;refine(mJQ Yt a);have e:mG5 b:=cH;subst e;exact z.Hx aD aDh
theorem Yw{lo hi:Int}(j:aF)(h1:-aAV <=lo)(h2:lo<2 ^ 62)(n:-aAV <=hi)(h4:hi<2 ^ 62)
 (q:R (Jl lo (hi - lo).toNat) H):wpAny bO X.A (pyIter eO) (Ug X pins σ tg R) E {s with heap:=s.heap.push {cls:= mAt oH,data:= mEr u},toks:=tk}:=by
 refine mJR (small_one h1 h2 n h4);have z:Inv X pins σ H {s with heap:=s.heap.push {cls:= mAt oH,data:= mEr u},toks:=tk}:=j.CF λb o e=>oD e;refine((mG6 u).objs.size,[(mG6 u).objs.size],19,H,2,z.CF (t':=tk) λb o e=>oD e,AhF _ lo (hi - lo).toNat,5,fK,q)
 .have B:lo+((0:Nat):Int)*1=lo:=aC;have D:(((hi - lo).toNat:Nat):Int) - ((0:Nat):Int)=Builtin.Range.rangeSize lo hi 1:=(by rw[rangeSize_one];split<;>omega);rw[B,D];exact cQ
 have e:b=(mG6 u).objs.size:=cH;subst e;exact z.Hx aD aDh
def AhH(ta:TA):TI:=λσ H R=>ta σ H λvs H1=>∃j:Int,vs=[mE j]/\ -aAV <=j/\j<2 ^ 62/\R (Jl 0 j.toNat) H1
def AhI(ta:TA):TI:=λσ H R=>ta σ H λvs H1=>∃i j:Int,vs=[eV,mE j]/\(-aAV <=i/\i<2 ^ 62/\ -aAV <=j/\j<2 ^ 62)/\R (Jl i (j - i).toNat) H1
theorem OH(hg:Gl X "range")(hm:mAt sX)(ha:PA X [a] ta)(hs:xU a:=by rfl):PI X tg (wN "range" [a]) (AhH ta):=by
 intro pins s σ H R n h;refine AuA (xV n boot_range (mC2 (A5 (xW H n) λus s1 (vs,H1,z,B,D)=>?_)));obtain⟨j,e,D,G,q⟩:=D;subst e
 cases B with
 |cons r I=>
  cases I
  obtain⟨t,rfl⟩:=r;exact call_range_1 (Yw z aA aA D G (mR q))
theorem AhJ(hg:Gl X "range")(hm:mAt sX)(ha:PA X [a,b] ta)(hs:mAA [a,b]=[(false,pE a,),(false,pE b,)]:=by rfl)(n:xU b:=by rfl):
 PI X tg (wN "range" [a,b]) (AhI ta):=by
 intro pins s σ H R z h;refine AuA (xV z boot_range (AsO (mJS H z) (pJ hs n) (qO n)));obtain⟨i,j,e,⟨G,I,J,L⟩,q⟩:=G;subst e
 cases D with
 |cons r M=>
  cases M with
  |cons N M=>
   cases M
   obtain⟨t,rfl⟩:=r;obtain⟨t',rfl⟩:=N;exact call_range_2 (Yw B G I J L q)
def M7(j:TI)(g:TG)(tb:TS):TS:=λD σ H=>j σ H λJ H1=>∃W:aBV,(mBB H1)/\∀i m σ H,aBW ->
 (xT i/\tW H)\/(kU /\∃N:gB,(∀n H',N n H'->∃q,q<m/\W (i+1) q n H')/\∀x H',kW ->g x σ H' λz H2=>tb {D with nx:=N,ct:=N,bk:=D.nx} z H2)
def OI(j:aQ)(h:Heap):List aK6:=j.filterMap λb=>(nZ b).map λo=>(b,o,)
theorem Uh(hb:b∈j)(e:nZ b=aI):(b,o,)∈OI j h:=List.mem_filterMap.mpr (b,hb,by rw[e];rfl)
theorem AhK(hp:p∈OI j h):p.1∈j/\nZ p.1=some p.2:=by
 obtain⟨b,hb,e⟩:=List.mem_filterMap.mp hp
 cases q:nZ b with
 |none=>rw[q] at e;cases e
 |some o=>
  rw[q] at e;have e':=jQ;subst e';exact(hb,q)
theorem Inv.Yx(j:aF)(hf:∀b∈q,aBT)(B:∀b∈q,∃o,oB b=aI /\∀v,o.data≠ .cell v):Inv X (pins++OI q s.heap) σ H s:=
 j.Yj λp hp=>(pD hp).elim (λz=>j.FH p (sJ z)) λz=>by obtain⟨hb,e⟩:=AhK z;obtain⟨f0,f1,f2,_⟩:=hf p.1 hb;obtain⟨o,e',d⟩:=B p.1 hb;rw[e] at e';cases e';exact(e,f0,f1,f2,d)
theorem Inv.QH(j:Inv X (pins++pl) σ H s):Inv X pins σ H s:=j.Yj λp hp=>j.FH p (sJ (AsI _ hp))
theorem BS(hp:aLl)(hc:fL)(hi:mEI aa)(hg:PG X tg g)(hb:Go X body tb)
 (hs:aEW:=by intro _;rfl):PS X (.For tg iter body [] pos) (M7 aa g tb):=by
 intro pins s σ H D ab h;refine wpAny_For (A5 (oT hi ab) λv s1 h1=>A5 h1 λac s2 h2=>?_) hs;obtain⟨it,j,ae,J,H2,e,af,T,ag,f2,W,⟨m0,ah⟩,turn⟩:=h2;subst e;have stat:∀{H':Hp},aHU ->∀b∈j,Gr X pins H' b:=λai b hb=>(nN ai,(nN f2).2);refine codeAny_forLoop_any (λn s'=>∃i q H',wL q H'/\ae i s'.heap/\ aHU /\W i n q H') ?_ m0 (64,σ,H2,af,ag,mAB (nN f2).1,ah);rintro n s3 ⟨i,z,B,aj,ak,al,am⟩;rcases turn i n z B am with⟨stop,an⟩|⟨go,N,ao,step⟩
 .refine Aul hp (A5 (T.done X rfl rfl rfl hc i pins s3 z B X.xe aj (stat al) ak stop) λr s4 (G,ap)=>?_);subst G;exact Avx (z,B,ap,an)
 refine Aul hp (A5 (T.item X rfl rfl rfl hc i pins s3 z B X.xe aj (stat al) ak go) λr s4 (u,G,h4)=>?_);subst G;refine Aul hp (A5 h4 λ_ s5 (x,aq,ar,as,au,I,av)=>?_);refine Aul hp (A5 (hg _ s5 z aq x u _ (ar.Yx (stat av) (mC T.obj I)) as (step x aq au)) λ_ aw (ax,ay,az,a0)=>?_);refine Aul hp (A5 (hb _ aw ax ay _ az a0) λf a1 L=>?_);have again:∀{M:St}{O:Hp},Inv X (pins++OI j s5.heap) M O a1->N M O->∃m,m<n/\∃i q H',Inv X pins q H' a1/\ae i a1.heap/\ aHU /\W i m q H':=λ{M O}U Y=>by obtain⟨a2,hm,a3⟩:=ao M O Y;refine(a2,hm,i+1,M,O,U.QH,T.keep _ _ _ I λb hb o e=>(U.FH (b,o,) aHV).1,fK,a3);obtain⟨o,e,d⟩:=T.obj _ _ I b hb;exact(U.FH (b,o,) aHV).2.1
 cases f with
 |next=>obtain⟨M,O,U,Y⟩:=L;exact again U Y
 |cont=>obtain⟨M,O,U,Y⟩:=L;exact again U Y
 |brk=>obtain⟨M,O,U,L⟩:=L;exact(M,O,U.QH,L)
 |ret v=>obtain⟨a4,M,O,U,a5,L⟩:=L;exact(a4,M,O,U.QH,a5,L)
end
theorem E4{K:PySem.W.Frag}{g:TG}{tb:TS}{D:Hv}(Pv:aBS)(h0:vJ 0)(j:∀i σ H,i<=xs.length->vJ i-> eW)
 (hs:aLq) (hd:mC3 mC4):
 ∃W:aBV,(mBB H)/\∀i m σ H,aBW ->
  (aAb.stop i H/\tW H)\/(aAb.go i H/\∃N:gB,aLr /\∀x H',aAb.Fg i H x H'->g x σ H' λn H2=>tb {D with nx:=N,ct:=N,bk:=D.nx} n H2):=by
 refine(mC3 mC5);rintro i m σ H ⟨rfl,hi,p⟩;have q:=j i σ H hi p;by_cases G:i<xs.length
 .refine mJT i;obtain⟨e,y⟩:=y;subst e;exact hs i x σ _ (y xs q) p
 have e:i=xs.length:=aA;subst e;exact aLs
theorem AhL{K:PySem.W.Frag}{g:TG}{tb:TS}{D:Hv}(Pv:aBS)(h0:vJ 0)(j:∀i σ H,i<=xs.length->vJ i->uP H)
 (hs:aLq) (hd:mC3 mC4):
 ∃W:aBV,(mBB H)/\∀i m σ H,aBW ->
  ((GU K a).stop i H/\tW H)\/((GU K a).go i H/\∃N:gB,aLr /\∀x H',(GU K a).Fg i H x H'->g x σ H' λn H2=>tb {D with nx:=N,ct:=N,bk:=D.nx} n H2):=by
 refine(mC3 mC5);rintro i m σ H ⟨rfl,hi,p⟩;have q:=j i σ H hi p;by_cases G:i<xs.length
 .refine mJT i;obtain⟨e,y⟩:=y;subst e;exact hs i x σ _ (y xs q) p
 have e:i=xs.length:=aA;subst e;exact aLs
theorem QI{lo:Int}{g:TG}{tb:TS}{D:Hv}(Pv:aBS)(h0:vJ 0)
 (hs:∀i σ H,i<n->vJ i->g (mE (lo+i)) σ H λj H2=>tb {D with nx:=aAe,ct:=aAe,bk:=D.nx} j H2) (hd:mC4 n):
 ∃W:aBV,(mBB H)/\∀i m σ H,aBW ->
  (aEV.stop i H/\tW H)\/(aEV.go i H/\∃N:gB,aLt /\∀x H',aEV.Fg i H x H'->g x σ H' λj H2=>tb {D with nx:=N,ct:=N,bk:=D.nx} j H2):=by
 refine(mC5 n);rintro i m σ H ⟨rfl,hi,p⟩;by_cases B:i<n
 .refine aLu;obtain⟨e,y⟩:=y;subst e y;exact hs i σ _ B p
 have e:i=n:=aA;subst e;exact mG (aD,hd σ H p)
theorem Yy(Pv:gB)(j:St->Hp->Nat)(h0:Pv σ H)
 (hs:∀σ H,Pv σ H->c σ H λb H1=>if b=true then tb {D with nx:=λn H'=>Pv n H'/\j n H'<j σ H,ct:=λn H'=>Pv n H'/\j n H'<j σ H,bk:=D.nx} σ H1 else tW H1)
 (As:∀σ H Q z,(∀b H1,Q b H1->z b H1)->c σ H Q->c σ H z):Uf c tb D σ H:=by
 refine(λm σ H=>m=j σ H/\Pv σ H,(0,h0),5);rintro m σ H ⟨rfl,p⟩;refine As σ H _ _ (λb H1 q=>?_) (hs σ H p)
 cases b with
 |true=>exact(_,λn H' (B,l)=>(_,l,2,B),q)
 |false=>exact q
end L2
namespace L2
open PySem PySem.Spec PyProof.Rows
abbrev R2:=V->V->Hp->VK->Prop
def Bt(X:Cx)(f:aLv)(r:R2):Prop:=
 ∀(pins:bC)(s:Shared)(σ:St)(H:Hp)(x y:V)(v u:Value)(Q:VK),aF -> hS ->nT y->r x y H Q->
  wpAny bO X.A (f v u) gA X.xe s
def QJ(X:Cx)(f:Value->Sem Value)(r:aHW):Prop:=
 ∀(pins:bC)(s:Shared)(σ:St)(H:Hp)(x:V)(v:Value)(Q:VK),aF -> hS ->r x H Q->
  wpAny bO X.A (f v) gA X.xe s
def DW(X:Cx)(f:Value)(r:aAf):Prop:=
 ∀(pins:bC)(s:Shared)(σ:St)(H:Hp)(xs:aL)(us:aV)(Q:VK),aF -> fF ->r xs H Q->
  wpAny bO X.A (call f us) gA X.xe s
def AhM(X:Cx)(r:V->Hp-> kT ->Prop):Prop:=
 ∀(pins:bC)(s:Shared)(σ:St)(H:Hp)(x:V)(v:Value)(Q:kT),aF -> hS ->r x H Q->
  wpAny bO X.A (truthy v) aET X.xe s
def CU(r:R2)(ta tb:TE):TE:=λσ H Q=>ta σ H λx H1=>tb σ H1 λy H2=>r x y H2 Q
def Ui(r:aHW)(ta:TE):TE:=λσ H Q=>ta σ H λx H1=>r x H1 Q
def rI(C:Int->Int->Prop)(g:Int->Int->V):R2:=λx y H Q=>∃i j,x= eV /\y= mE j/\C i j/\Q iR H
def DO(g:Int->Int->V):R2:=λx y H Q=>∃i j,x= eV /\y= mE j/\Q iR H
def rU(g:Int->V):aHW:=λx H Q=>∃i,x= eV /\Q (g i) H
section
variable {X:Cx} {a b c:Expr} {ta tb tc:TE} {pos:Pos}
theorem Uj(ha:hR)(hb:lZ){R:mBC V}(j:aF)
 (h:ta σ H λx H1=>tb σ H1 λy H2=>R x y H2) {f:aLv}
 (hf:∀v u s2 x y H2,sZ H2 s2-> hS ->nT y->R x y H2->sG (f v u) Q s2):
 wpAny bO X.A (pE a) (λv n=>sG (pE b) (λu q=>sG (f v u) Q q) n) X.xe s:=by
 refine A5 (oT ha j) λv s1 (x,H1,z,B,D)=>?_;refine A5 (sI hb z D) λu s2 (y,H2,G,I,J)=>?_;exact hf v u s2 x y H2 G B I J
theorem AE(j:Bt X (binaryOp op) r)(ha:hR)(hb:lZ):PE X (.BinOp a op b pos) aEX:=by intro pins s σ H Q n h;exact wpAny_BinOp aLw
theorem Db(j:QJ X (unaryOp op) r)(ha:hR):PE X (.UnaryOp op a pos) (Ui r ta):=by intro pins s σ H Q n h;exact UnaryOp_ (A5 (oT ha n) λv s1 (x,H1,q,z,B)=>j pins s1 σ H1 x v Q q z B)
theorem QK{g:Int->Int->Int}
 (rule:∀(i j:Int)(t u:Tok)(s:Shared)(Q:bN)(E:bN),C i j->Q (mEJ iR) {s with toks:=s.toks+1}-> aHX):
 Bt X f (mC6 C iR):=by
 intro pins s σ H x y v u Q n z B h;obtain⟨i,j,rfl,rfl,hc,q⟩:=h;obtain⟨t,rfl⟩:=z;obtain⟨t',rfl⟩:=B;exact rule i j t t' s _ _ hc (mCT mE iR q)
theorem Jm{g:Int->Int->Int}
 (rule:∀(i j:Int)(t u:Tok)(s:Shared)(Q:bN)(E:bN),Q (mEJ iR) {s with toks:=s.toks+1}-> aHX):
 Bt X f (zH iR):=by
 intro pins s σ H x y v u Q n z B h;obtain⟨i,j,rfl,rfl,q⟩:=h;obtain⟨t,rfl⟩:=z;obtain⟨t',rfl⟩:=B;exact rule i j t t' s _ _ (mCT mE iR q)
theorem QL{g:Int->Int->Bool}
 (rule:∀(i j:Int)(t u:Tok)(s:Shared)(Q:bN)(E:bN),Q (.bool iR) s-> aHX):
 Bt X f (mC7 iR):=by
 intro pins s σ H x y v u Q n z B h;obtain⟨i,j,rfl,rfl,q⟩:=h;obtain⟨t,rfl⟩:=z;obtain⟨t',rfl⟩:=B;exact rule i j t t' s _ _ (.bl iR,H,n,2,q)
def AhN(i j:Int):Prop:=0<=j/\j<=1000000/\i.natAbs<2 ^ 64
def Yz(i j:Int):Prop:=(-(2 ^ 64)<i/\i<2 ^ 64)\/(-(2 ^ 64)<j/\j<2 ^ 64)
theorem Yz.ok(h:Yz i j):IntMulOk i j:=by
 rcases h with⟨h1,h2⟩|⟨h1,h2⟩
 .exact .of_left aLx
 exact .of_right aLx
theorem AhO(k:Nat):(0:Int)<=2 ^ k:=by rw[two_pow_cast];exact Int.natCast_nonneg _
theorem DA:Bt X aHY (zH (i+j)):=Jm λ_ _ _ _ _ _ _ q=>add_int q
theorem FI:Bt X (binaryOp .Sub) aHZ:=Jm λ_ _ _ _ _ _ _ q=>sub_int q
theorem AhP:Bt X (binaryOp .Mod) aLy:=QK λi j _ _ _ _ _ hc q=>by have h1:=hc;exact mod_int' aA (by rw[Int.fmod_eq_emod_of_nonneg i aA];exact q)
theorem AhQ:Bt X (binaryOp .RShift) (mC6 (λ_ j=>0<=j) (i/2 ^ j.toNat)):=QK λi j _ _ _ _ _ hc q=>
 rshift_int hc (by rw[Int.fdiv_eq_ediv_of_nonneg i (AhO _)];exact q)
theorem Uk:Bt X aEY (zH (Builtin.bitAnd i j)):=Jm λ_ _ _ _ _ _ _ q=>and_int q
theorem AhR:Bt X (binaryOp .BitOr) aLz:=Jm λ_ _ _ _ _ _ _ q=>or_int q
theorem AhS:Bt X (binaryOp .BitXor) aLA:=Jm λ_ _ _ _ _ _ _ q=>xor_int q
theorem Jn:Bt X (inplaceOp .Add) (zH (i+j)):=Jm λ_ _ _ _ _ _ _ q=>iadd_int q
theorem Y0:Bt X (inplaceOp .Sub) aHZ:=Jm λ_ _ _ _ _ _ _ q=>isub_int q
theorem AhT:Bt X (inplaceOp .LShift) (mC6 AhN (i*2 ^ j.toNat)):=QK λ_ _ _ _ _ _ _ hc q=>ilshift_int_small hc.1 hc.2.1 hc.2.2 q
theorem AhU:Bt X (inplaceOp .BitOr) aLz:=Jm λ_ _ _ _ _ _ _ q=>ior_int q
theorem AhV:Bt X (inplaceOp .BitXor) aLA:=Jm λ_ _ _ _ _ _ _ q=>ixor_int q
theorem Y1{g:Int->Int}
 (rule:∀(i:Int)(t:Tok)(s:Shared)(Q:bN)(E:bN),Q (mEJ (g i)) {s with toks:=s.toks+1}->wpAny bO X.A (f aC6) Q E s):
 QJ X f (rU λi=> mE (g i)):=by
 intro pins s σ H x v Q j n h;obtain⟨i,rfl,q⟩:=h;obtain⟨t,rfl⟩:=n;exact rule i t s _ _ (mE (g i),156)
theorem DX:QJ X (unaryOp .USub) aH0:=Y1 λ_ _ _ _ _ q=>neg_int q
theorem M8:QJ X (unaryOp .Invert) (rU λi=> mE (Builtin.bitNot i)):=Y1 λ_ _ _ _ _ q=>invert_int q
end
def Y2:V->V->Bool
 | .Ax,.Ax=>true| .Ax,.int _=>true| .int _,.Ax=>true| .Ax,.bl _=>true| .bl _,.Ax=>true| .Ax,.str _=>true| .str _,.Ax=>true
 | .int _,.int _=>true| .bl _,.bl _=>true| .str _,.str _=>true| .FG _,.FG _=>true
 | .int _,.str _=>true| .str _,.int _=>true| .bl _,.str _=>true| .str _,.bl _=>true
 |_,_=>false
def QM:R2:=λx y H Q=>Y2 x y=true/\rS (decide (x=y))
def rNe:R2:=λx y H Q=>Y2 x y=true/\rS (!decide (x=y))
theorem Y3:decide (mO i=mO j)=(i==j):=by rw[Aty];simp
theorem Y4:decide (V.bl i=V.bl j)=(i==j):=by rw[Aty];simp
theorem Y5:decide (V.str i=V.str j)=(i==j):=by rw[Aty];simp
theorem Y6:decide (V.FG i=V.FG j)=(i.toList==j.toList):=by
 rw[Aty]
 cases i
 cases j
 simp
section
variable {X:Cx} {a b c:Expr} {ta tb tc:TE} {pos:Pos}
theorem Cv(j:aF)(q:rS k)(e:k=k'):EP X pins σ Q (.bool k') s:=by subst e;exact(.bl k,H,j,2,q)
theorem CL:Bt X (compareOp .Eq) QM:=by
 intro pins s σ H x y v u Q n z B h;obtain⟨hs,q⟩:=h
 cases x with
 |Ax=>
  cases z
  cases y with
  |Ax=>cases B;exact PySem.EqNone.eq_none_none dC
  |bl j=>cases B;exact PySem.EqNone.eq_none_bool dC
  |int j=>obtain⟨t',rfl⟩:=B;exact PySem.EqNone.eq_none_int dC
  |str j=>obtain⟨t',rfl⟩:=B;exact PySem.EqNone.eq_none_str dC
  |_=>exact hT
 |bl i=>
  cases z
  cases y with
  |Ax=>cases B;exact PySem.EqNone.eq_bool_none dC
  |bl j=>cases B;exact eq_bool (Cv n q Y4)
  |str j=>obtain⟨t',rfl⟩:=B;exact PySem.EqMixed.eq_bool_str dC
  |_=>exact hT
 |int i=>
  obtain⟨t,rfl⟩:=z
  cases y with
  |Ax=>cases B;exact PySem.EqNone.eq_int_none dC
  |int j=>obtain⟨t',rfl⟩:=B;exact eq_int (Cv n q Y3)
  |str j=>obtain⟨t',rfl⟩:=B;exact PySem.EqMixed.eq_int_str dC
  |_=>exact hT
 |str i=>
  obtain⟨t,rfl⟩:=z
  cases y with
  |Ax=>cases B;exact PySem.EqNone.eq_str_none dC
  |bl j=>cases B;exact PySem.EqMixed.eq_str_bool dC
  |int j=>obtain⟨t',rfl⟩:=B;exact PySem.EqMixed.eq_str_int dC
  |str j=>obtain⟨t',rfl⟩:=B;exact eq_str (Cv n q Y5)
  |_=>exact hT
 |FG i=>
  obtain⟨t,rfl⟩:=z
  cases y with
  |FG j=>obtain⟨t',rfl⟩:=B;exact PySem.W.eq_bytes (Cv n q Y6)
  |_=>exact hT
 |_=>cases y<;>exact hT
theorem Y7:Bt X (compareOp .NotEq) rNe:=by
 intro pins s σ H x y v u Q n z B h;obtain⟨hs,q⟩:=h
 cases x with
 |Ax=>
  cases z
  cases y with
  |Ax=>cases B;exact PySem.EqNone.ne_none_none dC
  |bl j=>cases B;exact PySem.EqNone.ne_none_bool dC
  |int j=>obtain⟨t',rfl⟩:=B;exact PySem.EqNone.ne_none_int dC
  |str j=>obtain⟨t',rfl⟩:=B;exact PySem.EqNone.ne_none_str dC
  |_=>exact hT
 |bl i=>
  cases z
  cases y with
  |Ax=>cases B;exact PySem.EqNone.ne_bool_none dC
  |bl j=>cases B;exact mEK ne_bool Y4
  |str j=>obtain⟨t',rfl⟩:=B;exact PySem.EqMixed.ne_bool_str dC
  |_=>exact hT
 |int i=>
  obtain⟨t,rfl⟩:=z
  cases y with
  |Ax=>cases B;exact PySem.EqNone.ne_int_none dC
  |int j=>obtain⟨t',rfl⟩:=B;exact mEK ne_int Y3
  |str j=>obtain⟨t',rfl⟩:=B;exact PySem.EqMixed.ne_int_str dC
  |_=>exact hT
 |str i=>
  obtain⟨t,rfl⟩:=z
  cases y with
  |Ax=>cases B;exact PySem.EqNone.ne_str_none dC
  |bl j=>cases B;exact PySem.EqMixed.ne_str_bool dC
  |int j=>obtain⟨t',rfl⟩:=B;exact PySem.EqMixed.ne_str_int dC
  |str j=>obtain⟨t',rfl⟩:=B;exact mEK ne_str Y5
  |_=>exact hT
 |FG i=>
  obtain⟨t,rfl⟩:=z
  cases y with
  |FG j=>obtain⟨t',rfl⟩:=B;exact mEK PySem.W.ne_bytes Y6
  |_=>exact hT
 |_=>cases y<;>exact hT
theorem OJ:Bt X (compareOp .Lt) (mC7 (decide (i<j))):=QL λ_ _ _ _ _ _ _ q=>lt_int q
theorem DB:Bt X (compareOp .LtE) aH1:=QL λ_ _ _ _ _ _ _ q=>le_int q
theorem Li:Bt X (compareOp .Gt) (mC7 (decide (j<i))):=QL λ_ _ _ _ _ _ _ q=>gt_int q
theorem QN:Bt X (compareOp .GtE) (mC7 (decide (j<=i))):=QL λ_ _ _ _ _ _ _ q=>ge_int q
theorem Ij:Bt X (compareOp .Is) aLB:=by
 intro pins s σ H x y v u Q j n z h;obtain⟨rfl,q⟩:=h
 cases z
 refine is_none_gen (Cv j q ?_)
 cases x<;>first
  |(cases n;rfl)
  |(obtain⟨t,rfl⟩:=n;rfl)
theorem AhX:Bt X (compareOp .IsNot) (λx y H Q=>y= .Ax/\rS (!decide (x= .Ax))):=by
 intro pins s σ H x y v u Q j n z h;obtain⟨rfl,q⟩:=h
 cases z
 refine isnot_none_gen (Cv j q ?_)
 cases x<;>first
  |(cases n;rfl)
  |(obtain⟨t,rfl⟩:=n;rfl)
theorem Bf(b:Expr)(h:op≠ .In:=by decide)(h2:op≠ .NotIn:=by decide):mCV b:=by
 have j:pH (op==CmpOp.In):=by cases op<;>first|rfl|exact rB h
 have n:pH (op==CmpOp.NotIn):=by cases op<;>first|rfl|exact rB h2
 cases b<;>simp[behindInMarks,j,n]
theorem Hy(j:mBD op r)(ha:hR)(hb:lZ)(hm:mCV b):PE X aHP aEX:=by intro pins s σ H Q n h;exact wpAny_Compare1 aLw hm
def Kd(t:TE):TT:=λσ H Q=>t σ H λx H'=>∃k,x= .bl k/\oV k
theorem Ba(j:mBD op r)(ha:hR)(hb:lZ)(hm:mCV b):PT X aHP (Kd aEX):=by
 intro pins s σ H Q n h;refine wpAny_isTrue_Compare1 (A5 (oT ha n) λv s1 (x,H1,q,B,D)=>A5 (sI hb q D) λu s2 (y,H2,G,I,J)=>
  A5 (j pins s2 σ H2 x y v u _ G B I J) λc s3 (z,L,M,N,k,e,O)=>?_) hm
 subst e
 cases N
 exact Atm (mQ L M O)
def Y8(r j:R2)(ta tb tc:TE):TE:=λσ H Q=>ta σ H λx H1=>tb σ H1 λy H2=>r x y H2 λz n=>∃k,z= .bl k/\
 (if k=true then tc σ n λq B=>j y q B Q else Q aAU n)
theorem Ul(j:mBD op r)(n:mBD q B)(ha:hR)(hb:lZ)(hc:nR c tc)
 (hm:aLC:=by with_unfolding_all rfl):PE X aLD (Y8 r B ta tb tc):=by
 intro pins s σ H Q D h;refine Compare_chain (A5 (oT ha D) λv s1 (x,H1,G,I,J)=>chain_link (A5 (sI hb G J) λu s2 (y,H2,L,M,N)=>
  A5 aLE λd s3 (z,O,U,aa,k,e,Y)=>?_)) hm
 subst e
 cases aa
 refine Atm ?_
 cases k with
 |false=>exact ite_ff (aAU,O,U,2,Y)
 |true=>exact ite_tt (chain_last (A5 aLF λab s4 (ac,ae,af,ag,ah)=>n pins s4 σ ae y ac u ab Q af M ag ah))
theorem QO(j:mBD op r)(n:mBD q B)(ha:hR)(hb:lZ)(hc:nR c tc)
 (hm:aLC:=by with_unfolding_all rfl):PT X aLD (Kd (Y8 r B ta tb tc)):=by
 intro pins s σ H Q D h;refine isTrue_chain (A5 (oT ha D) λv s1 (x,H1,G,I,J)=>test_link (A5 (sI hb G J) λu s2 (y,H2,L,M,N)=>
  A5 aLE λd s3 (z,O,U,aa,k,e,Y)=>?_)) hm
 subst e
 cases aa
 refine Atm ?_
 cases k with
 |false=>
  obtain⟨k',e',ab⟩:=Y
  cases e'
  exact ite_ff (mQ O U ab)
 |true=>
  refine ite_tt (test_last (A5 aLF λac s4 (ae,af,ag,ah,ai)=>A5 (n pins s4 σ af y ae u ac _ ag M ah ai) λd' s5 (aj,ak,al,am,an,ao,ap)=>?_));subst ao
  cases am
  exact Atm (mQ ak al ap)
def Um(K:PySem.W.Frag)(x:V)(H:Hp)(k:Bool):Prop:=
 match x with
 | .Ax=>k=false
 | .bl b=>k=b
 | .int i=>k=(i != 0)
 | .str y=>y.length<=sizeLine/\k=aLG
 | .FG y=>y.size<=sizeLine/\k=((y.size:Int) != 0)
 | .ref p=>(∃xs,xX H p/\k= !xs.isEmpty)\/(∃xs,A8 K H p xs/\k= !xs.isEmpty)\/∃kvs,H p=qH kvs/\k= !kvs.isEmpty
 |_=>False
theorem AhY(r:hO):(!vs.isEmpty)= !kvs.isEmpty:=by
 cases r<;>rfl
theorem Y9(r:aC8):(!its.toArray.isEmpty)= !xs.isEmpty:=by
 cases r<;>simp
theorem Ke:(sizeLine:Nat)<2 ^ 63:=by rw[AuP];decide
theorem AhZ:AhM X (λx H Q=>∃k,Um X.K x H k/\Q k H):=by
 intro pins s σ H x v Q j n h;obtain⟨k,e,q⟩:=h;have z:=Ke;have hs:=AuP
 cases x with
 |Ax=>
  cases n
  have e':=e;subst e';exact truthy_none (mQ H j q)
 |bl b=>
  cases n
  have e':=e;subst e';exact Atm (mQ H j q)
 |int i=>
  obtain⟨t,rfl⟩:=n;have e':=e;subst e';exact PySem.P.truthy_int (mQ H j q)
 |str y=>
  obtain⟨t,rfl⟩:=n;obtain⟨hy,e'⟩:y.length<=sizeLine/\k=aLG:=e;subst e';exact PySem.P.truthy_str aA (mQ H fM q)
 |FG y=>
  obtain⟨t,rfl⟩:=n;obtain⟨hy,e'⟩:y.size<=sizeLine/\k=((y.size:Int) != 0):=e;subst e';exact PySem.W.truthy_bytes aA (mQ H fM q)
 |ref p=>
  cases n
  have e':=e;rcases e' with⟨xs,hx,e'⟩|⟨xs,hx,e'⟩|⟨kvs,hx,e'⟩
  .subst e';obtain⟨its,r,pl,hz⟩:=uO hx;have hlen:=r.length;exact wpAny_truthy_list pl.isList dR (mG7 Y9)
  .subst e';obtain⟨its,r,pl,hz⟩:=j.tuple hx;have hlen:=r.length;exact truthy_tuple pl dR (mG7 Y9)
  subst e';obtain⟨hz,B,vs,r,m⟩:kvs.length<=sizeLine/\(mAC p)=false/\∃vs,hO /\s.heap.DictOf aDi p vs:=j.Av p _ hx;have hlen:=xR r;exact wpAny_truthy_dict B m aA (mG7 AhY)
 |_=>exact(show False from e).elim
theorem Uo(ha:hR)(he:mGZ a a.pos):
 PT X a (λσ H Q=>ta σ H λx H'=>∃k,Um X.K x H' k/\oV k):=by
 intro pins s σ H Q j h;exact isTrue_plain (A5 (oT ha j) λv s1 (x,H1,n,q,z)=>AhZ pins s1 σ H1 x v Q n q z) (he _)
theorem Ah_:Bt X aHY (λx y H Q=>∃i j,x= nO i/\y= nO j/\i.length+j.length<=sizeLine/\Q (nO (i++j)) H):=by intro pins s σ H x y v u Q n z B h;obtain⟨i,j,rfl,rfl,hz,q⟩:=h;obtain⟨t,rfl⟩:=z;obtain⟨t',rfl⟩:=B;exact add_str (λt' tk=>(mCT nO (i++j) q)) hz
theorem OK(r:rD [x]):∃u,us=[u]/\AJ x u:=by
 cases r with
 |cons j n=>cases n;exact(0,j)
theorem Aia(r:rD [x,y]):∃u j,us=[u,j]/\nT x/\AJ y j:=by
 cases r with
 |cons n q=>
  cases q with
  |cons z B=>cases B;exact(mC8 n z)
theorem QP(hc:fL):DW X (tD "min") (λxs H Q=>∃i j,xs=[eV,mE j]/\tE (if j<i then j else i)):=by
 intro pins s σ H xs us Q n r h;obtain⟨i,j,rfl,q⟩:=h;obtain⟨u,z,rfl,⟨t,rfl⟩,⟨t',rfl⟩⟩:=Aia r;refine min_two_ints (n.ok.hd hc) λh' tk k=>(_,H,n.CF k,5,q);by_cases hj:j<i
 .rw[mJ hj,mJ hj];exact bY
 rw[mM hj,mM hj];exact bY
theorem Aib:DW X (oH "str") (λxs H Q=>∃i,xs=[eV]/\i.natAbs.log2<1920/\Q (nO (toString i)) H):=by intro pins s σ H xs us Q j r h;obtain⟨i,rfl,hz,q⟩:=h;obtain⟨u,rfl,t,rfl⟩:=OK r;exact PySem.P.str_of_int hz (.str _,156)
theorem Aic:DW X (tD "ord") (λxs H Q=>∃x,xs=[dA]/\x.length=1/\tE (x.cps.getD 0 0:Nat)):=by intro pins s σ H xs us Q j r h;obtain⟨x,rfl,hz,q⟩:=h;obtain⟨u,rfl,t,rfl⟩:=OK r;exact ord_of_one hz (.int _,156)
end
end L2
namespace L2
open PySem PySem.Spec PyProof.Rows
structure Lj(h:Heap)(x dx C:Addr)(mA:aN):Prop where
 obj:nZ x=some aHA
 ns:h.Ns1 dx mA
 ne:dx≠x
theorem Aid{h:Heap}(n:h.Ns1 dx mA):∃od,nZ dx=mB od/\∀name,aH2=some (mA name):=by
 obtain⟨o,es,ep,j,hd,hk,_,hm⟩:=n;refine(o,j,λname=>?_);have e:=hm name;unfold nsFind findBy at e;rw[<-Array.find?_toList] at e;unfold PySem.W.lookIn;rw[hd];dsimp only;split
 .rename_i y q;rw[q] at e;exact AtB some e
 rename_i q;rw[q] at e;have a:es.toList.any (·.refKey)=false:=by rw[List.any_eq_false];intro y hy;obtain⟨z,t,B⟩:=hk y (Array.mem_toList_iff.mp hy);simp[DictEntry.refKey,B]
 rw[yY a];exact AtB some e
theorem Lj.Ll(j:Lj h x dx C mA):∃od,PySem.W.InstAt h x aHA C (mB od)/\∀name,aH2=some (mA name):=
 let(od,q,z):=Aid j.ns
 (od,(j.obj,26,q),z)
section
variable {prog:Program} {w:World} {A:Around} {E:bN} {s:Shared} {K:PySem.W.Frag} {x dx C f:Addr} {mA:aN} {name:Str} {v:Value}
theorem Aie(X:aDj)(j:mG8 x)(hg:mEL name=true)(n:oZ aH3)
 (ha:xY name=jS) (q:mA name=bK) (z:nJ PySem.W.handedIn v) (h:mGQ v 1):
 wpAny bD A (getAttr cU name expr) Q E s:=by
 obtain⟨od,J,B⟩:=j.Ll;exact PySem.W.get_value X J (AvE hg).1 (PySem.W.findObj_own n ha rfl (pJ B q)) z h
theorem Aif(X:aDj)(j:mG8 x)(hg:mEL name=true)
 (hf:xY name=oR mH f) (n:mC9 f=true) (q:mV mA name) (h:Q (iN,[cU],) s):
 wpAny bD A (mEM cU name) Q E s:=by
 obtain⟨od,J,z⟩:=j.Ll;exact PySem.W.method_fn X J (AvE hg).1 (AvE hg).2 hf (Auu.mp n) (by show aH2.map (·.isSome)=some false;rw[z,q];rfl) h
theorem Aig(X:aDj)(j:mG8 x)
 (hs:xY "__setattr__"=aLH) (hp:PySem.W.plainOver K C=true) (n:PySem.W.takerIn K C name=jS) (q:oZ aH3)
 (hw:PySem.Within mA ns) (hsz:qI ns.length)
 (h:∀h',Lj h' x dx C (λy=>if y=name then bK else mA y)->zE dx->Q () {s with heap:=h',toks:=s.toks+2}):
 wpAny bD A (setAttr cU name v) Q E s:=by
 obtain⟨od,J,z⟩:=j.Ll;refine PySem.W.set_plain X J hs (PySem.W.osa_open (s:={s with toks:=s.toks+1}) (r:=none) X J hp n λb=>?_);obtain⟨cd,hc,B⟩:=PySem.W.any_some q;refine ArZ (Asg (ArZ (ArZ (wpAny_loadPart j.obj (nF (PySem.W.Looks.here (s:={s with toks:=s.toks+1}) (PySem.W.looks_clsIn X hc) ?_))))));rw[B];refine Asg (a:=mB dx) (sU cI);refine wpAny_nsSet1 (s:={s with toks:=s.toks+1}) j.ns λh' D G=>?_;obtain⟨I,L,M,N,O,U⟩:=D.count (PySem.Within.cons name v hw);refine ArZ (wpAny_lookBehind N (wM O pastItsLine_dict (AsV U (qQ As1))) ?_);exact Asg (h _ ((G.2 _ (Asr j.ne)).trans j.obj,D,j.ne) G)
theorem Aih(X:aDj)(hm:oZ aH4)
 (hi:aH5=oR mH f) (hf:PySem.W.typeIn K iN=mB (oH "function"))
 (h:codeAny bD (mJU mF vs) (.call iN (mF dD::vs,kw)) (PySem.W.InitBack dD R)
  {s with heap:=aBX.push aDk}):
 codeAny bD A (.call (mF C) (vs,kw)) R s:=by
 obtain⟨j,g,d,t,os⟩:=s;exact PySem.W.make_core (PySem.W.makes_of X hm) (PySem.W.looks_findIn X hi) (λself=>PySem.W.bind_fn X self hf) bA h
end
def Cn(f:Str)(v:V):oU V->oU V
 |[]=>[(f,v,)]
 |(g,x)::r=>if g=f then(g,v,)::r else(g,x,)::Cn f v r
theorem YA(f g:Str)(v:V):∀fs:oU V,aEZ.lookup g=if g=f then bK else oE g
 |[]=>by
  show List.lookup g [(f,v,)]=_;by_cases h:g=f
  .have hb:=zI h;simp only[List.lookup,hb,if_pos h]
  have hb:=vG h;simp only[List.lookup,hb,if_neg h]
 |(k,x)::r=>by
  rw[show aH6=(mG9 k x) from rfl];by_cases hk:k=f
  .rw[mJ hk];by_cases h:g=k
   .have hb:=zI h;simp only[List.lookup,hb,if_pos (h.trans hk)]
   have hb:=vG h;simp only[List.lookup,hb,if_neg (λe:g=f=>h (e.trans hk.symm))]
  rw[mM hk];by_cases h:g=k
  .have hb:=zI h;simp only[List.lookup,hb,if_neg (λe:g=f=>hk (h.symm.trans e))]
  have hb:=vG h;simp only[List.lookup,hb];exact YA f g v r
theorem Up(f:Str)(v:V):∀fs:oU V,f∈ aEZ.map (·.1)/\∀g,g∈fs.map (·.1)->g∈ aEZ.map (·.1)
 |[]=>(by simp[Cn],λg h=>by simp at h)
 |(k,x)::r=>by
  obtain⟨i1,j⟩:=Up f v r;rw[show aH6=(mG9 k x) from rfl];by_cases hk:k=f
  .rw[mJ hk];subst hk;exact(9,λg h=>by simpa using h)
  rw[mM hk];refine(5,λg h=>?_)
  .rw[Asn];exact rM i1
  rw[Asn] at h⊢;rcases oG h with e|e
  .exact Asz.mpr (mG e)
  exact rM (j g e)
theorem YB(f:Str)(v:V):∀fs:oU V,aEZ.length<=fs.length+1
 |[]=>by simp[Cn]
 |(k,x)::r=>by
  have j:=YB f v r;rw[show aH6=(mG9 k x) from rfl];by_cases hk:k=f
  .rw[mJ hk,As1,As1];omega
  rw[mM hk,As1,As1];omega
theorem EJ.Uq(r:EJ bK o):∃u,o=aM /\AJ v u:=by
 cases o with
 |none=>exact aBY.elim
 |some u=>exact(mQ u rfl r)
theorem EJ.BL(r:EJ none o):o=none:=by
 cases o with
 |none=>rfl
 |some u=>exact aBY.elim
theorem Aii(r:nT v):nJ PySem.W.handedIn u:=by
 cases v with
 |Ax=>cases (show u=Value.none from r);rfl
 |bl b=>cases (show u=Value.bool b from r);rfl
 |int i=>obtain⟨t,e⟩:=(mBE u Value.int i);cases e;rfl
 |str x=>obtain⟨t,e⟩:=(mBE u Value.str x);cases e;rfl
 |FG b=>obtain⟨t,e⟩:=(mBE u Value.bytes b);cases e;rfl
 |Q9 b=>obtain⟨t,e⟩:=(mBE u Value.float b);cases e;rfl
 |ref a=>cases (mEN a r);rfl
 |ty n=>cases (show u=Value.type n from r);rfl
section
variable {P:Program} {w:World} {H H':Hp} {h h':Heap} {a C dx:Addr} {fs fs':oU V}
theorem QQ(Av:fZ)(e:H a=hC):∃mA,Lj h a dx C mA/\(∀f,aHB)/\ aK4 /\fs.length<=1000/\H dx=some (.own a):=by obtain⟨d,z,ne,j,mA,n,r,q⟩:=(show zA (nC C fs) from Av a _ e);exact(mA,(mQ j n ne),r,q,z,d)
end
structure GV(K:PySem.W.Frag)(C:Addr):Prop where
 pg:mEL Str.empty=true
 hd:aH3=true
 po:PySem.W.plainOver K C=true
 sa:xY "__setattr__"=aLH
theorem GV.get{K:PySem.W.Frag}(c:GV K C)(f:Str):mEL f=true:=c.pg
def AS(K:PySem.W.Frag)(C:Addr)(f:Str):Prop:=xY f=jS
theorem AS.Aij{K:PySem.W.Frag}(n:AS K C f):PySem.W.takerIn K C f=some none:=by unfold PySem.W.takerIn;rw[show xY f=jS from n];rfl
structure QR(K:PySem.W.Frag)(C:Addr)(m:Str)(f:Addr):Prop where
 at_:xY m=some (mH f)
 fn:mC9 f=true
 kp:mDa K f=true
section
variable {X:Cx} {pins:bC} {σ:St} {H:Hp} {s:Shared} {a C dx:Addr} {fs:oU V} {f:Str} {v:V} {A:Around} {E:bN}
theorem YC(j:aF)(e:H a=hC)(c:aDl)(n:AS X.K C f)(l:oE f=bK)
 (h:∀u s',sZ H s'->nT v->Q u s'):wpAny bO A (getAttr aJ f b) Q E s:=by
 obtain⟨mA,O,r,_,_,_⟩:=rG QQ;obtain⟨u,hu,q⟩:=EJ.Uq (v:=v) (o:=mA f) (vT l r f);exact Aie j.E3 O (c.get f) c.hd n hu (Aii q) (h u _ fM q)
theorem YD(j:aF)(e:H a=hC)(c:aDl)(k:QR X.K C m g)(l:mV oE m)
 (h:Q (mF g,cR,) s):wpAny bO A (mEM aJ m) Q E s:=by
 obtain⟨mA,O,r,_,_,_⟩:=rG QQ;exact Aif j.E3 O (c.get m) k.at_ k.fn (EJ.BL (vT l r m)) h
theorem YE(j:aF)(e:H a=hC)(c:aDl)(n:AS X.K C f)(B:fs.length<1000)(D:nT y)
 (h:∀s',sZ (oA a (nC C (Cn f y fs))) s'->Q () s'):wpAny bO A (setAttr aJ f u) Q E s:=by
 obtain⟨mA,O,r,G,_,I⟩:=rG QQ;refine Aig j.E3 O c.sa c.po n.Aij c.hd G (mBF AuP) λh' J L=>h _ ?_;refine j.Ib (x:=a) (e:=dx) (mBG e) (mI I) (λb q hb z=>(nN L.2).trans z) (let(o,_,_,e',_):=J.ns;(o,e')) ?_;refine(by rw[Ah O.ne];exact I,5,O.ne,J.obj,_,J.ns,λg=>?_,211)
 .have:=YB f y fs;omega
 .show EJ ((Cn f y fs).lookup g) aLI;rw[YA];by_cases q:g=f
  .rw[mJ q,mJ q];exact D
  rw[mM q,mM q];exact r g
 by_cases q:g=f
 .rw[q];exact(Up f y fs).1
 refine(Up f y fs).2 g (G g λz=>hg ?_);show aLI=none;rw[mM q];exact z
theorem Inv.Aik(j:aF):Inv X pins σ (Aa (mEO qX H dD) dD aLJ)
 {s with heap:=aBX.push aDk}:=by
 have z:oI aBX.get? s.heap.objs.size PySem.W.emptyDict:=Asp s.heap rfl;have B:(aBX.push aDk).get? dD=some aDk:=by have:=Asp aBX (o:=aDk) rfl;rwa[AsX] at this
 refine(j.DV (a:=s.heap.objs.size) (o:= .own dD) (h':=aBX) (t':=s.toks) aH7 aD (pX z)).DV (a:=s.heap.objs.size+1) (o:= aLJ) (t':=s.toks) aH7 (Avy (AsX _ _)) ?_;have ne:s.heap.objs.size≠s.heap.objs.size+1:=AsP (Avl _);refine(by rw[Ah ne,Af],aT,ne,B,λ_=>none,(Heap.Ns1.of_empty aPW).at λo q=>oD q,λ_=>True.intro,λy hy=>rB hy)
theorem Ail(hb:attributeBase e f env (xZ e)=xZ e)
 (h:xS bD (xZ e) (λo j=>xS bD (getAttr o f true) Q j) s):wpAny bD A (xZ (mBH e pos)) Q E s:=
 Attribute_any_ h (pJ arm_eval_Attribute hb)
end
def FJ(K:PySem.W.Frag)(ta:TE)(f:Str):TE:=λσ H Q=>ta σ H λx H1=>∃a C dx fs v,x= aJ /\H1 a=hC /\GV K C/\AS K C f/\oE f=bK /\Q v H1
def YF(K:PySem.W.Frag)(ta tv:TE)(f:Str):TS:=λD σ H=>tv σ H λy H1=>ta σ H1 λx H2=>∃a C dx fs,x= aJ /\H2 a=hC /\GV K C/\AS K C f/\fs.length<1000/\
 D.nx σ (Aa H2 a (nC C (Cn f y fs)))
def Aim(X:Cx)(op:Operator)(j:aDd):Prop:=
 ∀(pins:bC)(s:Shared)(σ:St)(H:Hp)(x y:V)(u v:Value)(Q:VK),aF ->nT x->AJ y v->j x y H Q->sG (inplaceOp op u v) gA s
def M9(K:PySem.W.Frag)(ta tv:TE)(j:aDd)(f:Str):TS:=λD σ H=>ta σ H λx H1=>∃a C dx fs v,x= aJ /\H1 a=hC /\GV K C/\AS K C f/\oE f=bK /\
 tv σ H1 λy H2=>j v y H2 λz n=>∃q fs',n a=mB (.Ag C q fs')/\fs'.length<1000/\tW (Aa n a (.Ag C q (Cn f z fs')))
section
variable {X:Cx} {o e value:Expr} {f:Str} {pos pos' tpos:Pos} {ta tv:TE}
theorem Ain(he:nR e ta)(hb:vK e f):PE X (mBH e pos) (FJ X.K ta f):=by intro pins s σ H Q j h;refine Ail hb (A5 aBR λu s1 (x,H1,z,B,a,C,dx,fs,v,ex,D,c,n,l,q)=>?_);subst ex;obtain rfl:uQ a:=B;exact YC z D c n l λu' s2 G I=>(v,H1,G,I,q)
theorem AX(ha:nR o ta)(j:nR value tv)(hs:mG0 value (mBH o pos')):PS X (.Assign [mBH o pos'] value pos) (YF X.K ta tv f):=by intro pins s σ H D z h;refine plainObj_wpAny_Assign_Attribute (A5 (oT j z) λu s1 (y,H1,B,G,q)=>A5 (sI ha B q) λI s2 (x,H2,J,L,a,C,dx,fs,ex,M,c,n,l,N)=>?_) hs;subst ex;obtain rfl:I=Value.ref a:=L;exact YE J M c n l G λs3 O=>(σ,_,O,N)
theorem GW(ha:nR o ta)(j:nR value tv)(B:Aim X op G):PS X (mG1 (mBH o tpos) value) (M9 X.K ta tv G f):=by intro pins s σ H D I h;refine wpAny_AugAssign_AttributeAny (A5 (oT ha I) λJ s1 (x,H1,L,M,a,C,dx,fs,v,ex,N,c,n,l,q)=>?_);subst ex;obtain rfl:J=Value.ref a:=M;refine YC L N c n l λu s2 O U=>A5 (j pins s2 σ H1 _ O q) λY s3 (y,H2,aa,ab,ac)=>A5 (B pins s3 σ H2 v y u Y _ aa U ab ac) λae s4 (z,af,ag,ah,ai,fs',aj,ak,al)=>?_;exact YE ag aj c n ak ah λs5 am=>(σ,_,am,al)
end
section
variable {X:Cx} {pins:bC} {σ:St} {H:Hp} {s:Shared} {A:Around} {E:bN} {Q:bN} {c:Value} {b:Bool}
end
end L2
namespace L2
open PySem PySem.Spec PyProof.Rows
structure Dj(k:Nat)(A:Around):Prop where
 hd:A.handled=none
 dp:A.depth+3*k+5<recursionLimit
 un:A.units+16*k+200<cLine
theorem Dj.As(r:Dj k A)(h:j<=k):Dj j A:=(r.hd,by have:=r.dp;omega,by have:=r.un;omega)
theorem Dj.deeper(r:Dj (k+1) A)(env:Env):Dj k (A.deeper env):=
 (r.hd,by have:=r.dp;show A.depth+1+3*k+5<_;omega,by have:=r.un;show A.units+3+16*k+200<_;omega)
theorem Aio{A:Around}:aE0.depth=A.depth+1:=by
 first|rfl|simp[Around.under,Code.weight,Code.isCreation,Code.isGuard,Code.isCaller,Code.frames,Code.isFrame,guardIds]
theorem Aip{A:Around}:aE0.units=A.units+1:=by
 first|rfl|simp[Around.under,Code.cUnits,Code.frames,Code.isFrame]
theorem Dj.Ur(r:Dj (k+1) A)(C:Addr)(us:aV)(kw:oU Value):Dj k aE0:=
 (r.hd,by have:=r.dp;rw[Aio];omega,by have:=r.un;rw[Aip];omega)
theorem Dj.depth(r:Dj k A):A.depth<recursionLimit:=by have:=r.dp;omega
theorem Dj.units(r:Dj k A):kX:=by have:=r.un;omega
def E5:TA:=λ_ H Q=>Q [] H
def DY(ta:TE)(j:TA):TA:=λσ H Q=>ta σ H λx H1=>j σ H1 λxs H2=>Q (x::xs) H2
section
variable {X:Cx} {e:Expr} {es:hQ} {te:TE} {t:TA} {pos:Pos}
theorem Ai:PA X [] E5:=λ_ _ _ _ H Q j h=>Aua ([],H,j,.nil,h)
theorem Ad(ha:hA)(j:PA X es t)(hs:aAg:=by rfl):PA X gJ (DY te t):=by intro pos pins s σ H Q n h;rw[hs];refine At7 (A5 (oT ha n) λu s1 (x,H1,q,z,B)=>?_);exact A5 (j pos pins s1 σ H1 _ q B) λus s2 (xs,H2,D,G,I)=>(x::xs,H2,D,sF z G,I)
def QS(t:TA):TE:=λσ H Q=>t σ H λxs H1=>xs.length<=sizeLine/\∀p,H1 p=none->mBI H1 iP
def Us(t:TA):TE:=λσ H Q=>t σ H λxs H1=>xs.length<=sizeLine/\∀p,H1 p=none->mAD H1 xs
theorem CV{j}(h:PA X es t):PE X (.Tuple es j pos) (QS t):=by intro pins s σ H Q n hq;refine wpAny_Tuple_spliced (A5 (h pos pins s σ H _ n hq) λus s1 (xs,H1,B,r,z,q)=>aLK);refine(167,Aa H1 s1.heap.objs.size iP,mJV B.DV,197);exact(z,us,r,(_,cQ,31))
theorem By(h:PA X es t):PE X (.List es pos) (Us t):=by intro pins s σ H Q j hq;refine wpAny_List_spliced (A5 (h pos pins s σ H _ j hq) λus s1 (xs,H1,n,r,z,q)=>aLK);refine(167,nD H1 s1.heap.objs.size xs,mJV n.DV,2,q _ (n.Av.BC aD));exact(z,us,64,r,cQ)
end
abbrev Sp:=aL ->Hp->VK->XK->Prop
abbrev Kf:=jP ->Hp->Shared->XK->Value->Shared->Prop
structure Lm(P:Program)(w:World)(K:PySem.W.Frag)(mg:aN)(base:Heap)(A:Around)(outer:jP)(s:Shared)(H:Hp):Prop where
 frames:A.frames=some outer
 mod:Mod K mg base
 bs:∀b o,base.get? b=aI ->oB b=aI /\H b=none
 Jj:base.objs.size<=s.heap.objs.size
 GS:s.heap.FunFrames base outer
 Lg:∀b∈Hu outer,H b=none
 Av:Cm P w H s.heap
 DM:AllBare s.gens
def CE(outer:jP)(P:Program)(w:World)(H:Hp)(s:Shared)(Q:VK)(u:Value)(s':Shared):Prop:=
 ∃v H',s'.os=s.os/\AllBare s'.gens/\mEz (Hu outer) [] s'.heap/\Cm P w H' s'.heap/\nT v/\oV v
def CR(CX:Kf)(outer:jP)(P:Program)(w:World)(H:Hp)(s:Shared)(Q:VK)(E:XK)(r:Result)(s':Shared):Prop:=
 match r with
 | .ok (.ret u)=>CE outer P w H s Q u s'
 | .ok _=>False
 | .error e=>CX outer H s E e s'
structure A4(P:Program)(w:World)(K:PySem.W.Frag)(mg:aN)(base:Heap)(CX:Kf)(k:Nat)(f:Addr)(fd:FuncData)(ps:cB)(sp:Sp):Prop where
 len:∀vs H Q E,mBJ H->vs.length=ps.length
 Ik:∀(A:Around)(outer:jP)(s:Shared)(H:Hp)(args:Args)(us:aV)(vs:aL)(Q:VK)(E:XK),Dj k A->mHa H->BindsTo s fd args aDm ->rD vs->mBJ H->
  codeAny aAa A (.call iN args) (CR CX outer P w H s Q E) s
theorem A4.As{K:PySem.W.Frag}(F:A4 P w K mg base CX j f fd ps sp)(h:j<=k):
 A4 P w K mg base CX k f fd ps sp:=(F.len,λA outer s H args us vs Q E q=>F.Ik A outer s H args us vs Q E (q.As h))
theorem Lm.Ur{K:PySem.W.Frag}(e:mHa H)(C:Addr)(us:aV)(kw:oU Value):
 Lm P w K mg base aE0 outer s H:=(by first|exact e.frames|(simpa[Around.under,Code.envs,Code.isFrame,pushEnvs] using e.frames),e.mod,e.bs,e.Jj,e.GS,e.Lg,e.Av,e.DM)
section
variable {X:Cx} {pins:bC} {σ:St} {H:Hp} {s s':Shared}
theorem Inv.YG(j:aF):Lm X.prog X.w X.K X.mg X.base X.A X.stack s H:=
 (j.ok.frames,j.ok.mod,j.bs,mEx j.sz,j.stack,j.Yi,j.Av,j.DM)
theorem Inv.Dt(j:aF)(h:CE X.stack X.prog X.w H s Q u s'):EP X pins σ Q u s':=by obtain⟨v,H',os,DM,un,Av,r,q⟩:=h;obtain⟨B,g,d,t,I⟩:=s';obtain rfl:I=s.os:=os;exact(v,H',j.call (h':=B) (g':=g) (d':=d) (t':=t) (ch:=[]) un Av DM (λb z=>nK z aC),r,q)
end
def QT(sp:Sp)(dvs:aL)(E:XK)(t:TA):TE:=λσ H Q=>t σ H λvs H1=>sp aAW H1 Q E
def OL(C:Addr)(m:Str)(sp:Sp)(dvs:aL)(E:XK)(ta:TE)(t:TA):TE:=λσ H Q=>ta σ H λx H1=>∃a dx fs,x= aJ /\H1 a=hC /\oE m=none/\
 t σ H1 λvs H2=>sp (x::aAW) H2 Q E
def QU(C:Addr)(sp:Sp)(dvs:aL)(E:XK)(t:TA):TE:=λσ H Q=>t σ H λvs H1=>∀x dx,H1 x=none->H1 dx=none->dx≠x->
 sp (cU::aAW) (mBK H1 C) aLL E
def GX(K:PySem.W.Frag)(fd:FuncData)(ps:cB)(ds:aV):Prop:=
 ∀(s:Shared)(us:aV),aDj -> aDn.length=ps.length->BindsTo s fd aDo (ps.zip aDn)
theorem GX.all{K:PySem.W.Frag}(h:∀us:aV,us.length=ps.length->bindArgs fd aDo=pure aDm):GX K fd ps []:=λs us _ j=>by rw[Aum] at j⊢;exact .of_eq (h us j)
def Kg(CX:Kf)(X:Cx)(E:XK):Prop:=∀(pins:bC)(σ:St)(H:Hp)(s:Shared)(e:Value)(s':Shared),aF ->CX X.stack H s E e s'->X.xe e s'
section
variable {X:Cx} {CX:Kf} {k:Nat} {f C:Addr} {fd:FuncData} {ps:cB} {sp:Sp} {dvs:aL} {ds:aV} {E:XK} {x m:Str} {p pos apos:Pos} {e o:Expr} {es:hQ} {ta:TE} {t:TA}
theorem QV(F:aAX)(j:aDp)(hb:aAY)(hd:aAZ)(hx:aA0)
 (n:aF) (r:rD vs) (h:sp aAW H Q E):wpAny bO X.A (call iN us) gA X.xe s:=by
 have q:=r.append hd;refine wpAny_call (Awm (F.Ik X.A X.stack s H aDo aDn aAW Q E j n.YG (hb s us n.E3 (by rw[<-q.length];exact rT F.len h)) q h) λr s' hq=>?_)
 cases r with
 |error e=>exact hx pins σ H s e s' n hq
 |ok fl=>
  cases fl with
  |ret u=>exact n.Dt hq
  |next=>exact sY hq
  |brk=>exact sY hq
  |cont=>exact sY hq
theorem Bb(F:aAX)(j:aDp)(hg:lY)(hm:X.mg x=mH f)(hk:mDb X.K)(hb:aAY)(hd:aAZ)(hx:aA0)
 (ha:aA1) (n:vI x:=by decide) (he:aAg:=by rfl) (z:aDq:=by rfl):
 PE X aE1 (QT sp dvs E t):=by
 intro pins s σ H Q B h;refine mHb B;refine mJW hk;exact QV F j hb hd hx D r q
theorem YH(F:aAX)(j:aDp)(hg:lY)(hm:X.mg x=mH f)(hk:mDb X.K)(hb:aAY)(hd:aAZ)(hx:aA0)
 (n:vI x:=by decide):PE X (mJX (.Name x p) []) (QT sp dvs E E5):=by
 intro pins s σ H Q q h;refine mHb q;exact PySem.W.callWith_K0 q.E3 hk (QV (us:=[]) F j hb hd hx q .nil h)
theorem Bx(he:nR o ta)(c:aDl)(hm:QR X.K C m f)(F:aAX)(j:aDp)(hb:aAY)(hd:aAZ)(hx:aA0)(ha:aA1)
 (n:aAg:=by rfl) (z:aDq:=by rfl)
 (B:pE (mBL m gJ)=(do
  let D<-eval o X.env
  standAt apos.atName
  let(f,first,)<-holding [D] (mEM D m)
  callWith pos f first (yA gJ) (mBM pos)):=by rfl):
 PE X (mBL m gJ) (OL C m sp dvs E ta t):=by
 intro pins s σ H Q G h;refine mJY (A5 (oT he G) λu s1 (x,H1,I,J,a,dx,fs,ex,L,l,q)=>?_) B;subst ex;obtain rfl:uQ a:=J;refine YD I L c hm l ?_;refine AvP (first:=cR) (h₀:=X.base) G.ok.mod.O5 hm.kp (A5 (ha pos pins s1 σ H1 _ I q) λus s2 (vs,H2,M,r,N)=>(oS M.E3)) n z;exact QV (us:= aJ::us) (vs:= aJ::vs) F j hb hd hx M (sF rfl r) N
theorem GY(he:nR o ta)(c:aDl)(hm:QR X.K C m f)(F:aAX)(j:aDp)(hb:aAY)(hd:aAZ)(hx:aA0)
 (n:pE (mBL m [])=(do
  let z<-eval o X.env
  standAt apos.atName
  let(f,first,)<-holding [z] (mEM z m)
  callWith pos f first (yA []) (mBM pos)):=by rfl):
 PE X (mBL m []) (OL C m sp dvs E ta E5):=by
 intro pins s σ H Q B h;refine mJY (A5 (oT he B) λu s1 (x,H1,D,G,a,dx,fs,ex,I,l,q)=>?_) n;subst ex;obtain rfl:uQ a:=G;refine YD D I c hm l ?_;exact PySem.W.callWith_K0 (first:=cR) D.E3 hm.kp (QV (us:=cR) (vs:=cR) F j hb hd hx D (wO rfl) q)
structure Mk(K:PySem.W.Frag)(C f:Addr):Prop where
 Aiq:aH4=true
 Air:aH5=some (mH f)
 fn:mC9 f=true
 kp:mDa K C=true
theorem Ais(M:Mk X.K C f)(F:aAX)(j:Dj (k+1) X.A)(hb:aAY)(hd:aAZ)
 (hx:aA0) (n:aF) (r:rD vs)
 (h:∀x dx,H x=none->H dx=none->dx≠x->sp (cU::aAW) (mBK H C) aLL E):
 wpAny bO X.A (call (mF C) us) gA X.xe s:=by
 have hq:=h dD s.heap.objs.size (n.Av.BC hU) (n.Av.BC aD) (AsP (Avl _));have q:=Inv.Aik (C:=C) n;have z:AB (nE dD::aAW) (rQ dD::aDn):= sF rfl (r.append hd);have B:(rQ dD::us++ds).length=ps.length:=by have e:=z.length;rw[rT F.len hq] at e;exact e.symm
 refine wpAny_call (Aih (f:=f) n.E3 M.Aiq M.Air (Auu.mp M.fn) (Awm (F.Ik _ X.stack _ _ (rQ dD::us,[]) (rQ dD::aDn) _ _ E (j.Ur C us [])
  (q.YG.Ur C us []) (hb _ (rQ dD::us) q.E3 B) z hq) λr s' D=>?_))
 cases r with
 |error e=>exact hx pins σ _ _ e s' q D
 |ok fl=>
  cases fl with
  |ret u=>
   obtain⟨v,H',G,I,ev,J⟩:=q.Dt D;subst ev;exact(I,(nE dD,H',G,2,J))
  |next=>exact sY D
  |brk=>exact sY D
  |cont=>exact sY D
theorem Dc(M:Mk X.K C f)(F:aAX)(j:Dj (k+1) X.A)(hg:lY)(hm:X.mg x=mH C)(hb:aAY)(hd:aAZ)(hx:aA0)
 (ha:aA1) (n:vI x:=by decide) (he:aAg:=by rfl) (z:aDq:=by rfl):
 PE X aE1 (QU C sp dvs E t):=by
 intro pins s σ H Q B h;refine mHb B;refine mJW M.kp;exact Ais M F j hb hd hx D r q
end
section
variable {X:Cx} {CX:Kf} {k:Nat} {f C:Addr} {fd:FuncData} {ps ks:cB} {sp:Sp} {E:XK} {x m:Str} {p pos apos kpos:Pos} {e o:Expr} {es:hQ} {kws:aDr} {te ta:TE} {t tk:TA} {nm:oK Str}
variable {g:aV -> aV -> aV} {gV:aL -> aL -> aL}
end
structure AD(N P:cB)(sc:Scope):Prop where
 kind:sc.kind= .function
 co:sc.isCoroutine=false
 gen:sc.isGenerator=false
 nd:N.Nodup
 pre:N.take P.length=P
 YI:∀x∈P,vH x=kS \/vH x=some .cell
 Aiu:∀y∈sc.names,y.2≠ .free
theorem YJ{kindOf:aE2}:∀{Kh:oU Value}{m:aN},(∀v,(x,v,)∉Kh)->bindL kindOf Kh m x=m x
 |[],_,_=>rfl
 |(n,v)::r,m,h=>by
  unfold bindL;rw[YJ λw hw=>pA h w hw];split
  .have:x≠n:=(by rintro rfl;exact h v AsG);simp[this]
  rfl
theorem YK{kindOf:aE2}:∀{Kh:oU Value}{m:aN},(∀v,(x,v,)∉Kh)->bindC kindOf Kh m x=m x
 |[],_,_=>rfl
 |(n,v)::r,m,h=>by
  unfold bindC;rw[YK λw hw=>pA h w hw];split
  .rfl
  have:x≠n:=(by rintro rfl;exact h v AsG);simp[this]
theorem YL{kindOf:aE2}:∀{P:cB}{vs:aV}{i:Nat}{m:aN},P.Nodup->P[i]? =aW ->vs[i]? =bK ->kindOf x=kS ->
 bindL kindOf (P.zip vs) m x=bK
 |[],_,_,_,_,h,_,_=>by simp at h
 |_::_,[],_,_,_,_,h,_=>by simp at h
 |p::P,w::vs,0,m,nd,h1,h2,hk=>by
  simp at h1 h2;subst h1;subst h2;show mJZ bindL=_;unfold bindL;rw[YJ λv j=>(AtY.mp nd).1 (Avz j).1,mJ hk];simp
 |p::P,w::vs,i+1,m,nd,h1,h2,hk=>by
  unfold bindL;exact mJ0 YL
theorem YM{kindOf:aE2}:∀{P:cB}{vs:aV}{i:Nat}{m:aN},P.Nodup->P[i]? =aW ->vs[i]? =bK ->kindOf x≠ kS ->
 bindC kindOf (P.zip vs) m x=bK
 |[],_,_,_,_,h,_,_=>by simp at h
 |_::_,[],_,_,_,_,h,_=>by simp at h
 |p::P,w::vs,0,m,nd,h1,h2,hk=>by
  simp at h1 h2;subst h1;subst h2;show mJZ bindC=_;unfold bindC;rw[YK λv j=>(AtY.mp nd).1 (Avz j).1,mM hk];simp
 |p::P,w::vs,i+1,m,nd,h1,h2,hk=>by
  unfold bindC;exact mJ0 YM
def start(N:cB)(vs:aL):St:=vs.map some++List.replicate (N.length - vs.length) none
def MA(CX:Kf)(P:Program)(w:World)(K:PySem.W.Frag)(mg:aN)(base:Heap)(N:cB)(qual:Str)(scope:Scope)(f:Addr)(cd:Value)(A:Around)(outer:jP)(s:Shared)(H:Hp)(E:XK):Cx where
 prog:=P
 w:=w
 K:=K
 mg:=mg
 base:=base
 A:=A.deeper (mBN cd)
 N:=N
 EK:=s
 Le:=H
 env:=envOfC qual scope s.heap.objs.size f cd
 outer:=outer
 stack:=mBN cd::outer
 ex:=[]
 calm:=true
 fn:=λ_=>true
 pn:=[]
 xe:=λe s'=>wpAny aAa (A.deeper (mBN cd)) (leaving (mBN cd) e) (λ_ j=>CX outer H s E e j) (λe' j=>CX outer H s E e' j) s'
theorem YN{sc:Scope}(h:vH x=aAR):∃c,(cellsFrom n sc.names []).lookup x=some c:=by exact Awn.mp (PySem.W.cellsFrom_some sc.names n [] (mG h))
theorem Aiv{K:PySem.W.Frag}
 (S:AD N ps scope) (hd:kY) (j:mHa H) (B:vs.length=ps.length) (r:rD vs)
 (x:InCallC s s.heap.objs.size (mJ1 bindL) (mHc []) (mJ1 bindC) s1):
 Inv (mDc cd) [] aDs H s1:=by
 have D:ps.length<=N.length:=(by have:=yU S.pre;rw[AsS] at this;omega);obtain⟨h1,tk,rfl,hk⟩:=x.done;have G:∀b:Addr,b∉(mDc cd).ex:=λb z=>mEP b aQ z;refine((j.mod,S.kind,26,aD,λy z c h1 h2=>?_,hJ,λy c _ h=>?_,λ_=>hd,Around.frames_deeper j.frames,mI aAd,212,j.bs,j.Jj,λb _ _=>G b,212,j.GS,j.Lg),2,j.DM,Un.CF hk,(_,x.toInCall.ns,λi y v h1 h2 I=>?_),λy c h=>(_,x.cell y c h),aA2,λy c h=>?_,λp hp=>mEP p bC hp,j.Av.CF hk,5)
 .exact name_of_addr x.apart (AsQ h1) (AsQ h2)
 .have hy:=hy;rcases hy with hy|hy
  .exact YN hy
  exact rB (S.Aiu _ (AsQ hy))
 .exact aLM
 .have hi:i<vs.length:=by
   unfold start at h2;by_cases hi:i<vs.length
   .exact hi
   rw[Aso (mR hi)] at h2;rw[List.getElem?_replicate] at h2;split at h2<;>cases h2
  have ha:pO vs[i]? v:=by
   unfold start at h2;rw[Ask (mR hi),ArY] at h2
   cases e:vs[i]? with
   |none=>rw[e] at h2;cases h2
   |some a=>rw[e] at h2;cases h2;rfl
  obtain⟨u,hu,J⟩:=r.get ha;have hp:pO ps[i]? y:=by rw[<-S.pre,Awo aA];exact h1
  have L:ps.Nodup:=(vT S.pre S.nd.sublist aLN);refine(rR u J);rcases S.YI y (Asl hp) with k|k
  .exact mG (k,YL L hp hu k)
  obtain⟨c,e⟩:=YN (n:=s.heap.objs.size+1) k;refine mI (mG k,c,e,5);have q:=x.cell y c e;rw[YM L hp hu (by show wP y≠_;rw[k];decide)] at q;exact q
 .exact j.Av.BC aLM
 unfold start;show _=N.length;rw[Asi,ArX,AuB];omega
theorem Aiw{K:PySem.W.Frag}{j kV doc pm z ct B:Value}
 (D:sH f=mEQ B aLO aa) (G:mER z=true) (S:AD N ps scope)
 (len:aLP)
 (ab:∀(A:Around)(outer:jP)(s:Shared)(H:Hp)(vs:aL)(Q:VK)(E:XK),Dj k (A.deeper (mBN z))->mBJ H->
  ∃t,Go (mDc z) body t/\t {nx:=λ_ H'=>cW,rt:=Q} aDs H):
 A4 P w K mg base CX (k+1) f aLO ps sp:=by
 refine(len,λA outer s H args us vs Q E I L hb r M=>?_);have O:K.In s.heap:=L.mod.O5.keeps λb o e=>(qD L.bs).1;have ac:∀y∈ aDm,wP y.1=kS \/(wP y.1=aAR /\((mHc []).lookup y.1).isSome=true):=λ(n,v) hy=>by
  rcases S.YI n (Avz hy).1 with q|q
  .exact mG q
  exact mI (q,sL PySem.W.cellsFrom_some (mG q))
 refine codeAny_call_function I.depth (mC O D) rfl S.co S.gen rfl (PySem.W.codeRec_of O G) (hb _ _ _ _ ?_);refine wpAny_newFunctionEnv_cells S.kind ac λenv he s1 x=>?_;subst he;refine((L.mod.nolimit.keeps λb o e=>(qD L.bs).1).keeps x.toInCall.keep,codeAny_func ?_);obtain⟨t,ae,hq⟩:=ab A outer s H vs Q E (I.deeper _) M;have af:Inv (mDc z) [] aDs H s1:=Aiv S I.hd L (rT len M) r x;refine AtL (ae [] s1 aDs H _ af hq) (λfl s' hs=>?_) λe s' hs=>hs;have fin:∀{U:St}{H':Hp}{v:V}{u:Value},Inv (mDc z) [] U H' s'->nT v->oV v->CE outer P w H s Q u s':=
  λ{U H' v u}J Y q=>(v,H',J.os,J.DM,J.base,J.Av,Y,q)
 cases fl with
 |ret u=>
  obtain⟨v,U,H',J,Y,q⟩:=hs;exact fin J Y q
 |next=>
  obtain⟨U,H',J,q⟩:=hs;exact fin (v:=V.Ax) (u:=Value.none) J rfl q
 |brk=>
  obtain⟨_,_,_,q⟩:=hs;exact sY q
 |cont=>
  obtain⟨_,_,_,q⟩:=hs;exact sY q
end L2
namespace L2
open PySem PySem.Spec PyProof.Rows
section
variable {X:Cx} {x:Str} {p pos:Pos} {e:Expr} {es:hQ} {t:TA} {id T:String} {r:aAf}
def Ut(r:aAf)(t:TA):TE:=λσ H Q=>t σ H λvs H1=>r vs H1 Q
theorem Bh(hc:DW X (tD id) r)(hg:lY)(hm:sX x)(j:mEC x=mB (tD id))(ha:aA1)(n:mCU x:=by decide)(q:vI x:=by decide)
 (he:aAg:=by rfl) (z:aDq:=by rfl):PE X aE1 (Ut r t):=by
 intro pins s σ H Q B h;refine aLQ;exact PyProof.Rows.callWith_builtin1 aLR he z
theorem QW(hc:DW X (oH T) r)(hg:lY)(hm:sX x)(j:mEC x=mB (oH T))(ha:aA1)(n:mCU x:=by decide)(q:vI x:=by decide)
 (he:aAg:=by rfl) (z:aDq:=by rfl):PE X aE1 (Ut r t):=by
 intro pins s σ H Q B h;refine aLQ;exact AsO aLR he z
end
end L2
namespace HT
open PySem PyProof.Rows
section
open PySem.SeqAt
open PySem.AutoSeq1 (wpAny_loadPart')
open PySem.MeetsSeq PySem.MeetsSeq2 PySem.MeetsSeq3
end
section
variable {prog:Program} {w:World} {A:Around} {E:bN} {s:Shared}
def AK(n d:Nat):dV ->Nat
 |none=>d
 |some v=>if v<0 then(v+(n:Int)).toNat else min v.toNat n
theorem Ki(n d:Nat):AK n d none=d:=rfl
theorem Hz(n d k:Nat):AK n d (mB (k:Int))=min k n:=by show(if(k:Int)<0 then((k:Int)+(n:Int)).toNat else min (k:Int).toNat n)=min k n;rw[fC,AtN]
theorem Uu(n d:Nat)(hd:d<=n)(o:dV):AK n d o<=n:=by
 cases o with
 |none=>exact hd
 |some v=>
  show aH8 <=n;by_cases j:v<0
  .rw[mJ j];omega
  rw[mM j];exact Nat.min_le_right _ _
theorem YO(v:Int)(n d:Nat):aLS=((AK n d bK:Nat):Int):=by
 show aLS=((aH8:Nat):Int);by_cases j:v<0
 .simp only[if_pos j];omega
 simp only[if_neg j];omega
theorem Aix(lo hi:dV)(n:Nat):Builtin.Slice.sliceAdjust lo hi 1 (n:Int)=(((AK n 0 lo:Nat):Int),((AK n n hi:Nat):Int),):=by
 have h1:¬((1:Int)<0):=aA;unfold Builtin.Slice.sliceAdjust;simp only[h1,if_false];refine Prod.ext ?_ ?_
 .cases lo with
  |none=>rfl
  |some v=>exact YO v n 0
 cases hi with
 |none=>rfl
 |some v=>exact YO v n n
theorem Aiy(i j:Nat):mHd (i:Int) (j:Int)=j - i:=by unfold Builtin.Slice.slicePlaces;have h1:(1:Int)>0:=aA;simp;split<;>omega
theorem YQ(p:IsPart v o)(h:Q o s):wpAny bD A (Builtin.Slice.slicePartIndex v) Q E s:=by
 cases p with
 |none=>exact slicePart_none h
 |int i t=>exact slicePart_int h
theorem Aiz{sl:Addr}{j q:Value}{lo hi:dV}{n:Nat}{Q:Int×Int×Nat->Shared->Prop}(hs:mHe j q)(pl:IsPart j lo)(pu:IsPart q hi)
 (h:Q (((AK n 0 lo:Nat):Int),1,AK n n hi - AK n 0 lo,) s):wpAny bD A (Builtin.Slice.sliceApplied (mF sl) (pure (n:Int))) Q E s:=by
 obtain⟨os,z,B,D⟩:=id hs;refine ArZ (ArZ (Ats z D (x:=j) rfl (nF (Ats z D (x:=q) rfl (nF (mHf z D))))));refine mAE slicePart_none;rw[bS];refine nF (YQ pl (nF (YQ pu (nF cN))));show rC (match Builtin.Slice.sliceAdjust lo hi 1 (n:Int) with|(lo,hi)=>pure (lo,(1:Int),mHd lo hi,)) s;rw[Aix lo hi n];show rC (pure (((AK n 0 lo:Nat):Int),(1:Int),mHd ((AK n 0 lo:Nat):Int) ((AK n n hi:Nat):Int),)) s;rw[Aiy];exact Asg h
theorem Ai0(xs:jO)(i k:Nat):((pB k).filterMap λ(m:Nat)=>xs[aH9.toNat]?).toArray=((xs.toList.drop i).take k).toArray:=by
 have e:(λ(m:Nat)=>xs[aH9.toNat]?)=λm=>xs[i+m]? :=by funext m;have:aH9.toNat=i+m:=aA;rw[this]
 rw[e];have:=pick_run xs i k;rw[List.filterMap_map] at this;have j:((λx=>xs[x]?)∘λx=>i+x)=λm=>xs[i+m]? :=rfl;rw[j] at this;rw[this]
theorem Ai1{lo hi:dV}(j:rP IsTup t items)(hs:mHe n z)(pl:IsPart n lo)(pu:IsPart z hi)
 (hw:¬(mJ2 AK items.size))
 (h:Q eO {s with heap:=s.heap.push {cls:= gW,data:= .seq aIa.toArray}})
 (hsz:qI items.size):wpAny bD A (getItem (mF t) (mF sl)) Q E s:=by
 have B:sizeOk (.seq aIa.toArray):=by show aIa.toArray.size<=sizeLine;rw[As2,AsS,AtH,Aug];omega
 have hj:AK items.size items.size hi<=items.size:=mP Uu aD hi;obtain⟨os,D,G,I⟩:=id hs;unfold getItem
 try with_reducible refine Au0 ?_
 first|refine nF cN|skip
 refine pQ wpAny_sequenceKey j.typeIs aZ;refine ArZ (Atu (name:=zJ "__getitem__") j.typeIs Auh
  (Atf Auh j.typeIs entry_tuple_getitem ?_ (args_tuple_getitem _ _)))
 show mJz (mF t);refine wK tupleItemsOf_ j;refine wK wpAny_typeOf (mQ os D G);rw[mJ aZ];refine nF (Aiz hs pl pu ?_);have J:¬(oZ aLT):=by intro q;rw[AsF,AsF] at q;have L:((AK items.size 0 lo:Nat):Int)=0:=eq_of_beq q.1.1;have M:AK items.size items.size hi - AK items.size 0 lo=items.size:=eq_of_beq q.2;exact hw aLU
 show rC (if aLT=true then _ else _) s;rw[mM J,Ai0]
 first
  |exact mES aE3
  |exact mES (sU aE3)
  |exact yZ mES aE3
  |exact nF (mES aE3)
end
end HT
namespace L2
open PySem PySem.Spec PyProof.Rows
abbrev TO:=St->Hp->(mCS dV)->Prop
def PO(X:Cx)(e:oK Expr)(t:TO):Prop:=
 ∀(pins:bC)(s:Shared)(σ:St)(H:Hp)(Q:mCS dV),aF -> aAT ->
  wpAny bO X.A (evalPart e X.env) (λu s'=>∃o H',aAS /\IsPart u o/\oV o) X.xe s
def Uv:TO:=λ_ H Q=>Q none H
def Uw(t:TE):TO:=λσ H Q=>t σ H λx H1=>∃i,x= eV /\Q (mB i) H1
section
variable {X:Cx} {e:Expr} {te:TE} {lo hi:oK Expr} {tl th:TO} {pos p2:Pos}
theorem Gu:PO X none Uv:=by intro pins s σ H Q j h;rw[evalPart_none];exact Asg (61,H,j,.none,h)
theorem EZ(h:hA):PO X (mB e) (Uw te):=by intro pins s σ H Q j hw;rw[evalPart_some];refine A5 (mCW _) λu s1 (x,H1,n,z,B)=>?_;obtain⟨i,rfl,q⟩:=B;obtain⟨t,rfl⟩:=z;exact(mB i,H1,n,aC6,q)
def MB(X:Cx)(r:mDd Int):Prop:=
 ∀(pins:bC)(s:Shared)(σ:St)(H:Hp)(x:V)(v j n:Value)(lo hi:dV)(sl:Addr)(Q:VK),aF -> hS ->mHe j n->IsPart j lo->IsPart n hi->r x lo hi H Q->
  ∃T id,aLV=pure (mB (tD id))/\s.TypeIs v T/\sG (getItem v (mF sl)) gA s
def Ux(r:mDd Int)(te:TE)(tl th:TO):TE:=λσ H Q=>te σ H λx H1=>tl σ H1 λl H2=>th σ H2 λu j=>r x l u j Q
theorem F4(j:MB X r)(he:hA)(n:PO X lo tl)(hu:PO X hi th):PE X (mBz e (.Slice lo hi none p2)) (Ux r te tl th):=by intro pins s σ H Q z h;refine Subscript_ (mHg he);refine wpAny_Slice (A5 (sI n B G) λI s2 (l,H2,J,pl,L)=>A5 (mHh hu J) λM s3 (u,N,O,pu,U)=>?_);rw[evalPart_none];refine cN;obtain⟨T,id,Y,aa,hg⟩:=j pins {s3 with heap:=s3.heap.push {cls:= oH "slice",data:= mAu #[I,M,.none]}} σ N x v I M l u s3.heap.objs.size Q (O.CF (t':=s3.toks) λb ab q=>oD q) D (Heap.IsSliceOf.new ..) pl pu U;exact tail_any (ops:=[mF s3.heap.objs.size,v]) aa Y hg aE4
def Dx(xs:aL)(lo hi:dV):List V:=(sV (HT.AK xs.length 0 lo)).take (mBO mET HT.AK)
theorem YR(xs:aL)(lo hi:dV):mEU aDt.length:=by unfold Dx;rw[AsS,AtH];omega
def Uy(K:PySem.W.Frag):mDd Int:=λx lo hi H Q=>∃a xs,x= aJ /\uP H/\
 ¬(mBO mJ2 HT.AK)/\∀p,H p=none->mBI H (.Al aDt)
theorem Ai2:MB X (Uy X.K):=by
 intro pins s σ H x v j n lo hi sl Q z B hs pl pu h;obtain⟨a,xs,rfl,hx,hw,q⟩:=h
 cases B
 obtain⟨its,r,D,hz⟩:=z.tuple hx;have hlen:its.toArray.size=xs.length:=(oL As2 r.length.symm);refine("tuple",_,Auh.lookup,D.typeIs,5);refine HT.Ai1 D hs pl pu (oL hlen hw) ?_ (oL hlen hz);rw[hlen];refine(eO,_,z.DV (t':=s.toks) (o:= .Al aDt) (λb G q=>oD q) aD ?_,2,q _ aDh);exact(153,mBO mEV r.drop,IsTup.new _ _)
end
end L2
namespace L2
open PySem PySem.Spec PyProof.Rows
def FK(n:Nat)(i:Int):Option Nat:=if 0<=i then(if i<n then mB i.toNat else none) else if -(n:Int)<=i then mB (i+n).toNat else none
def BX{α:Type}(xs:cM)(i:Int):Option α:=(zK FK i).bind λj=>xs[j]?
theorem YS(h:FK n i=mB j):seqIndex? i n=mB j/\j<n/\ -(n:Int)<=i/\i<n:=by
 unfold FK at h;by_cases h0:0<=i
 .rw[mJ h0] at h;by_cases h1:i<n
  .rw[mJ h1] at h;have e:=Ase h;exact(by rw[seqIndex_of h0 h1,e],4,4,h1)
  rw[mM h1] at h;cases h
 rw[mM h0] at h;by_cases h1:-(n:Int)<=i
 .rw[mJ h1] at h;have e:=Ase h;exact(by rw[mHi h1,e],4,h1,4)
 rw[mM h1] at h;cases h
theorem Uz(h:BX xs i=bK):∃j,mBO seqIndex? i=mB j/\xs[j]? =bK /\j<xs.length/\ -(xs.length:Int)<=i/\i<xs.length:=by
 unfold BX at h
 cases e:zK FK i with
 |none=>rw[e] at h;cases h
 |some j=>
  rw[e] at h;obtain⟨h1,h2,n,h4⟩:=YS e;exact(j,h1,h,h2,n,h4)
theorem AZ{xs:cM}{j:Nat}{v:α}(h:xs[j]? =bK):BX xs (j:Int)=some v:=by
 have hj:=(nL h).1;have e:zK FK (j:Int)=some j:=by unfold FK;rw[gT,gT];simp
 unfold BX;rw[e];exact h
theorem U0(xs:cM)(v:α):BX (xs++[v]) (-1)=some v:=by
 have j:(xs++[v]).length=xs.length+1:=aC;have e:FK (xs++[v]).length (-1)=some xs.length:=by unfold FK;rw[j,bS,gT];congr 1;omega
 unfold BX;rw[e];simp
def Ai3(b:Expr):Prop:=∀o i,subscripted b false o i=mHj o i
def MC(X:Cx)(r:R2):Prop:=
 ∀(value slice:Expr)(pins:bC)(s:Shared)(σ:St)(H:Hp)(x y:V)(v u:Value)(Q:VK),aF -> hS ->nT y->r x y H Q->
  subscripted slice false v u=mHj v u->sG (subscriptTail value slice v u) gA s
def EM(X:Cx)(id:String)(r:hD):Prop:=
 ∀(pins:bC)(s:Shared)(σ:St)(H:Hp)(x:V)(xs:aL)(v:Value)(us:aV)(Q:VK),aF -> hS -> fF ->r x xs H Q->
  wpAny bO X.A (uR id (v::us)) gA X.xe s
section
variable {X:Cx} {a b:Expr} {ta tb:TE} {pos:Pos}
theorem AF(j:MC X r)(ha:hR)(hb:lZ)(hs:Ai3 b):PE X (mBz a b) aEX:=by intro pins s σ H Q n h;exact Subscript_ (Uj ha hb n h λv u s2 x y H2 z B D q=>j a b pins s2 σ H2 x y v u Q z B D q (hs _ _))
def QX(K:PySem.W.Frag):R2:=λx y H Q=>∃p xs i v,x= aS /\y= eV /\xX H p/\BX xs i=bK /\Q v H
def HA(K:PySem.W.Frag):R2:=λx y H Q=>∃p xs i v,x= aS /\y= eV /\A8 K H p xs/\BX xs i=bK /\Q v H
def Ai4:R2:=λx y H Q=>∃z i c,x= nO z/\y= eV /\z.length<=sizeLine/\BX z.cps.toList i=bT /\Q (vU c) H
theorem Ln:MC X (QX X.K):=by
 intro value slice pins s σ H x y v u Q n B D h hs;obtain⟨p,xs,i,z,rfl,rfl,hq,he,q⟩:=h
 cases B
 obtain⟨t,rfl⟩:=D;obtain⟨its,r,pl,hz⟩:=n.list hq;obtain⟨j,h1,h2,G,h4,I⟩:=Uz he;obtain⟨w,J,L⟩:=r.get h2;have M:=r.length;have N:=Ke;have fin:EP X pins σ Q w s:=(z,H,n,L,q);by_cases h0:0<=i
 .have hj:i.toNat=j:=by
   rw[seqIndex_of h0 I] at h1;exact Ase h1
  exact item_listR pl.isList h0 aA (mEW hj J) fin hs
 have hj:mJ3 i:=by rw[mHi h4] at h1;rw[As2,<-M];exact Ase h1
 exact subscriptTail_builtinR (x:=w) pl.isList.typeIs slot_list_getitem.lookup
  (wpAny_getItem_list_neg (Q:=λr s'=>r=w/\EP X pins σ Q r s') pl.isList aA (by rw[As2]<;>omega) aA (mEW hj J) (2,fin)) hs
theorem Ai5:MC X (HA X.K):=by
 intro value slice pins s σ H x y v u Q n B D h hs;obtain⟨p,xs,i,z,rfl,rfl,hq,he,q⟩:=h
 cases B
 obtain⟨t,rfl⟩:=D;obtain⟨its,r,pl,hz⟩:=n.tuple hq;obtain⟨j,h1,h2,G,h4,I⟩:=Uz he;obtain⟨w,J,L⟩:=r.get h2;have M:=Ke;exact subscriptTail_builtinR (x:=w) pl.typeIs Auh.lookup
  (getItem_tuple (j:=j) (Q:=λr s'=>r=w/\EP X pins σ Q r s') pl aA aA (mEX r.length h1) (mR J) (2,(z,H,n,L,q))) hs
theorem QY:MC X Ai4:=by
 intro value slice pins s σ H x y v u Q n B D h hs;obtain⟨z,i,c,rfl,rfl,hz,he,q⟩:=h;obtain⟨t,rfl⟩:=B;obtain⟨t',rfl⟩:=D;obtain⟨j,h1,h2,G,h4,I⟩:=Uz he;have J:z.cps.toList.length=z.length:=(by simp[Str.length]);rw[J] at h1 h4 I;have L:=Ke;exact tail_any (AuH s z t) slot_str_getitem.lookup (getItem_str (c:=c) (by rw[(mT aA),mT aA,Bool.or_false]) (mEW h1 h2) (mCT vU c q)) hs
theorem Ai6(its:aV)(n j:Nat)(u:Value):Obj.mapSeq (·.setIfInBounds j u) {cls:= fH,data:= aAP}={cls:= fH,data:= .seq (its.set j u).toArray n}:=by simp[Obj.mapSeq]
theorem Inv.Ac(j:aF)(h:H p=gZ):
 ∃(its:aV)(n:Nat),aC8 /\oB p=some {cls:= fH,data:= aAP}/\xs.length<=sizeLine:=by
 obtain⟨z,its,n,r,e⟩:=j.Av p _ h;exact(its,n,r,e,z)
theorem Inv.Ai7{its its':aV}(j:aF)(h:H p=gZ)
 (z:mHk oB p aAP) (hf:f {cls:= fH,data:= aAP}={cls:= fH,data:= .seq its'.toArray n'}) (r:AB ys its') (hz:aE5) (t:Nat):
 Inv X pins σ (nD H p ys) {s with heap:=mEY p f,toks:=t}:=by
 have e:(mEY p f).get? p=some {cls:= fH,data:= .seq its'.toArray n'}:=by rw[AuC f z (by rw[hf]<;>rfl),hf]
 refine j.Ib (x:=p) (e:=p) (by rw[h];trivial) bA (λb u hb q=>(mC Heap.get?_update_other (Asr hb)).trans q) (pX e) ?_;exact(hz,its',n',r,e)
def QZ:V->V->V->Hp-> hB ->Prop:=λo i v H Q=>∃p xs k j,o= aS /\i= mE k/\H p=gZ /\zK FK k=mB j/\Q aLW
theorem OM:Uc X QZ:=by
 intro pins s σ H o i v z iv u Q B D G I h;obtain⟨p,xs,k,j,rfl,rfl,hp,hj,q⟩:=h
 cases D
 obtain⟨t,rfl⟩:=G;obtain⟨its,n,r,J,hz⟩:=B.Ac hp;obtain⟨h1,h2,L,h4⟩:=YS hj;have M:=r.length;have N:=Ke;have O:Inv X pins σ aLW {s with heap:=mEY p (Obj.mapSeq (·.setIfInBounds j u))}:=
  B.Ai7 hp J (Ai6 its n j u) (r.set I j) (oL List.length_set hz) s.toks
 by_cases h0:0<=k
 .have hk:k.toNat=j:=by
   rw[seqIndex_of h0 h4] at h1;exact Ase h1
  exact PySem.W.ki_setAt J h0 aA (mEX M h4) (zD hk (_,O,q))
 have hk:mJ3 k:=by rw[mHi L] at h1;rw[As2,<-M];exact Ase h1
 exact PySem.W.ki_setBack J aA (mEX M L) aA (zD hk (_,O,q))
theorem Ai8(lo hi:dV)(n:Nat):(aIb).1=((HT.AK n 0 lo:Nat):Int)/\(aIb).2.1=((HT.AK n n hi:Nat):Int)/\(aIb).2.2=1:=by
 refine(53,2)
 .cases lo with
  |none=>simp[sliceBounds,HT.AK]
  |some i=>
   simp only[sliceBounds,HT.AK,Option.getD_none,show(1:Int)>0 by decide,if_true];by_cases h:i<0
   .simp only[h,if_true]<;>omega
   simp only[h,if_false]<;>omega
 cases hi with
 |none=>simp[sliceBounds,HT.AK]
 |some i=>
  simp only[sliceBounds,HT.AK,Option.getD_none,show(1:Int)>0 by decide,if_true];by_cases h:i<0
  .simp only[h,if_true]<;>omega
  simp only[h,if_false]<;>omega
theorem Ai9(its:aV)(lo hi:dV):slicePick its.toArray lo hi none=(mEV its.drop its.length).toArray:=by obtain⟨h1,h2,j⟩:=Ai8 lo hi its.toArray.size;unfold slicePick;rw[h1,h2,j];simp only[sliceRange_one,pick_run,List.size_toArray]<;>rfl
def U1(K:PySem.W.Frag):mDd Int:=λx lo hi H Q=>∃a xs,x= aJ /\ eW /\∀p,H p=none->mBI H (.Ac aDt)
theorem U2:MB X (U1 X.K):=by
 intro pins s σ H x v j n lo hi sl Q z B hs pl pu h;obtain⟨a,xs,rfl,hx,q⟩:=h
 cases B
 obtain⟨its,r,D,hz⟩:=z.list hx;have hlen:=r.length;refine("list",_,slot_list_getitem.lookup,D.isList.typeIs,5);refine wpAny_getItem_list_slice D.isList hs pl pu .none aC ?_ (by rw[As2]<;>omega);rw[Ai9,<-hlen];refine(eO,_,z.DV (t':=s.toks) (o:= .Ac aDt) (λb G q=>oD q) aD ?_,2,q _ aDh);exact(153,64,mBO mEV r.drop,cQ)
def Fh:V->Bool
 | .Ax=>true
 | .bl _=>true
 | .int _=>true
 | .str _=>true
 |_=>false
def FM:V->V->Bool
 | .Ax,.Ax=>true
 | .bl a,.bl b=>a==b
 | .bl a,.int b=>(mAr a)==b
 | .int a,.bl b=>a==(mAr b)
 | .int a,.int b=>a==b
 | .str a,.str b=>a==b
 |_,_=>false
theorem AiA(j:nT y)(n:hS)(q:nJ Fh y)(z:nJ Fh x):SeqAt.EqAt A s u v (FM y x):=by
 cases y with
 |Ax=>
  cases j
  cases x with
  |Ax=>cases n;exact aIc
  |bl b=>cases n;exact SeqAt.EqAt.none_bool b
  |int b=>obtain⟨t,rfl⟩:=n;exact SeqAt.EqAt.none_int b t
  |str b=>obtain⟨t,rfl⟩:=n;exact SeqAt.EqAt.none_str b t
  |_=>exact mAF z
 |bl a=>
  cases j
  cases x with
  |Ax=>cases n;exact SeqAt.EqAt.bool_none a
  |bl b=>cases n;exact SeqAt.EqAt.bool_bool a b
  |int b=>obtain⟨t,rfl⟩:=n;exact SeqAt.EqAt.bool_int a b t
  |str b=>obtain⟨t,rfl⟩:=n;exact SeqAt.EqAt.bool_str a b t
  |_=>exact mAF z
 |int a=>
  obtain⟨t',rfl⟩:=j
  cases x with
  |Ax=>cases n;exact SeqAt.EqAt.int_none a t'
  |bl b=>cases n;exact SeqAt.EqAt.int_bool a t' b
  |int b=>obtain⟨t,rfl⟩:=n;exact SeqAt.EqAt.int_int a t' b t
  |str b=>obtain⟨t,rfl⟩:=n;exact AvN a t' b t
  |_=>exact mAF z
 |str a=>
  obtain⟨t',rfl⟩:=j
  cases x with
  |Ax=>cases n;exact SeqAt.EqAt.str_none a t'
  |bl b=>cases n;exact SeqAt.EqAt.str_bool a t' b
  |int b=>obtain⟨t,rfl⟩:=n;exact AvO a t' b t
  |str b=>obtain⟨t,rfl⟩:=n;exact SeqAt.EqAt.str_str a t' b t
  |_=>exact mAF z
 |_=>exact mAF q
def E6(x:V)(u:Value):Bool:=match u with
 | .none=>FM .Ax x
 | .bool b=>FM (.bl b) x
 | .int i _=>FM eV x
 | .str z _=>FM (nO z) x
 |_=>false
theorem Q_(r:nT y)(f:nJ Fh y):E6 x u=FM y x:=by
 cases y with
 |Ax=>cases r;rfl
 |bl b=>cases r;rfl
 |int i=>obtain⟨t,rfl⟩:=r;rfl
 |str z=>obtain⟨t,rfl⟩:=r;rfl
 |_=>exact mAF f
theorem ON:∀{xs:aL}{us:aV},fF ->xs.all Fh=true->us.any (E6 x)=xs.any λy=>FM y x
 |_,_,.nil,_=>rfl
 |y::xs,u::us,.cons r t,f=>by
  rw[AtJ,AsF] at f;rw[Ata,Ata,Q_ r f.1,ON t f.2]
theorem MD(j:hS)(n:nJ Fh x):∀{xs:aL}{us:aV},fF ->xs.all Fh=true->∀u∈us,SeqAt.EqAt A s u v (E6 x u)
 |_,_,.nil,_=>λu hu=>by cases hu
 |y::xs,u::us,.cons r t,f=>λu' hu=>by
  rw[AtJ,AsF] at f;rcases oG hu with rfl|hu
  .rw[Q_ r f.1];exact AiA r j f.1 n
  exact MD j n t f.2 u' hu
def DP(x:V)(xs:aL):Bool:=xs.any λy=>FM y x
def Ra(K:PySem.W.Frag)(neg:Bool):R2:=λx y H Q=>∃p xs,y= aS /\(mEZ K H xs)/\Fh x=true/\xs.all Fh=true/\rS (if neg then !DP x xs else DP x xs)
theorem ME:Bt X aE6 (Ra X.K false):=by
 intro pins s σ H x y v u Q j n z h;obtain⟨p,xs,rfl,hq,B,fs,q⟩:=h
 cases z
 rcases hq with hq|hq
 .obtain⟨its,r,pl,hz⟩:=uO hq;refine mE0 SeqAt.in_listAt pl.isList;rw[show mE1 x=its.any (E6 x) by simp,ON r fs];exact q
 obtain⟨its,r,pl,hz⟩:=aBZ;refine mE0 SeqAt.in_tupleAt pl;rw[show mE1 x=its.any (E6 x) by simp,ON r fs];exact q
theorem YT:Bt X (compareOp .NotIn) (Ra X.K true):=by
 intro pins s σ H x y v u Q j n z h;obtain⟨p,xs,rfl,hq,B,fs,q⟩:=h
 cases z
 rcases hq with hq|hq
 .obtain⟨its,r,pl,hz⟩:=uO hq;refine mE0 SeqAt.notIn_listAt pl.isList;rw[show mE1 x=its.any (E6 x) by simp,ON r fs];exact q
 obtain⟨its,r,pl,hz⟩:=aBZ;refine mE0 SeqAt.notIn_tupleAt pl;rw[show mE1 x=its.any (E6 x) by simp,ON r fs];exact q
theorem Rb:DW X aDu (mHl X.K):=by
 intro pins s σ H xs us Q j r h;obtain⟨p,ys,rfl,hq,q⟩:=h;obtain⟨u,rfl,n⟩:=OK r
 cases n
 have z:=Ke;rcases hq with hq|hq
 .obtain⟨its,B,pl,hz⟩:=uO hq;have hlen:=B.length;exact Calls.call_len_list pl.isList aId (mJ4 H)
 obtain⟨its,B,pl,hz⟩:=aBZ;have hlen:=B.length;exact len_tuple pl aId (mJ4 H)
theorem HB:DW X aDu (λxs H Q=>∃z,xs=[nO z]/\z.length<=sizeLine/\tE z.length):=by intro pins s σ H xs us Q j r h;obtain⟨z,rfl,hz,q⟩:=h;obtain⟨u,rfl,t,rfl⟩:=OK r;have n:=Ke;exact len_str aA (mE z.length,156)
theorem AiB:DW X gW (mJ5 X.K):=by
 intro pins s σ H xs us Q j r h;obtain⟨p,ys,rfl,h⟩:=h;obtain⟨u,rfl,n⟩:=OK r
 cases n
 rcases h with⟨hq,q⟩|⟨hq,q⟩
 .obtain⟨its,z,pl,hz⟩:=uO hq;have hlen:=z.length;refine call_tuple_list pl.isList (λh' kp=>?_) aId;have B:=j.CF (t':=s.toks) kp;have D:Inv X pins σ (oA h'.objs.size (.Al ys)) {s with heap:=h'.push {cls:= gW,data:= .seq its.toArray}}:=
   B.DV (t':=s.toks) (λb o e=>oD e) aD (show C9 X.prog X.w _ _ _ (.Al ys) from(hz,its,z,IsTup.new _ _))
  exact(mF h'.objs.size,_,D,197)
 obtain⟨its,z,pl,hz⟩:=aBZ;exact call_tuple_same pl (aS,H,j,2,q)
def U3(K:PySem.W.Frag)(T:String)(x:V)(H:Hp):Prop:=match x with
 | .str _=>T="str"
 | .int _=>T="int"
 | .ref p=>(T="list"/\∃xs,xX H p)\/(T="tuple"/\∃o,sH p=aI /\o.cls= gW /\o.dict=none)\/
  (T="dict"/\((∃kvs,H p=qH kvs)\/∃kvs,H p=sM kvs))\/(T="set"/\∃S n,H p=mB (.set S n))
 |_=>False
theorem YU(j:aF)(r:hS)(ty:U3 X.K T x H):
 s.TypeIs v T/\∀a,v= aJ ->∃q,oB a=dE /\q.dict=none:=by
 cases x with
 |str z=>
  obtain⟨t,rfl⟩:=r
  cases (show T="str" from ty)
  exact(AuH s z t,234)
 |int i=>
  obtain⟨t,rfl⟩:=r
  cases (show T="int" from ty)
  exact(mE2 s i,234)
 |ref p=>
  cases r
  rcases ty with⟨rfl,xs,hq⟩|⟨rfl,o,hk,hc,hd⟩|⟨rfl,hk⟩|⟨rfl,S,n,hk⟩
  .obtain⟨its,_,pl,_⟩:=uO hq;refine(pl.isList.typeIs,λa e=>?_)
   cases e
   obtain⟨o,n,e,c,hd,_⟩:=pl;exact(mQ o e hd)
  .refine((o,j.E3 p o hk,hc),λa e=>?_)
   cases e
   exact(o,j.E3 _ o hk,hd)
  .have z:∃o,oB p=aI /\o.ExactDict:=by
    rcases hk with⟨kvs,hk⟩|⟨kvs,hk⟩
    .obtain⟨_,_,_,_,o,_,_,e,ex,_⟩:=j.Av p _ hk;exact(mQ o e ex)
    obtain⟨_,_,_,_,o,_,_,e,ex,_⟩:=j.Av p _ hk;exact(mQ o e ex)
   obtain⟨o,e,ex⟩:=z;refine aLX
   cases B
   exact(mQ o e ex.2.1)
  obtain⟨o,_,_,_,e,ex,_⟩:=j.Av p _ hk;refine aLX
  cases B
  exact(mQ o e ex.2.1)
 |_=>exact sY ty
def YV(K:PySem.W.Frag)(T:String)(r:hD)(to:TE):TE:=λσ H Q=>to σ H λx H1=>U3 K T x H1/\r x [] H1 Q
def Rc(K:PySem.W.Frag)(T:String)(r:hD)(to:TE)(t:TA):TE:=λσ H Q=>to σ H λx H1=>U3 K T x H1/\t σ H1 λxs H2=>r x xs H2 Q
variable {o e:Expr} {es:hQ} {to:TE} {t:TA} {name:Str} {apos cpos:Pos} {T id:String} {r:hD}
theorem AiC(j:aE7)(slot:mBP T)(n:aB0)(hm:aB1)(q:jR)
 (z:vK o name:=by rfl) (B:wQ cpos.line:=by rfl):PE X (mBQ [] cpos) (YV X.K T r to):=by
 intro pins s σ H Q D h;refine wpAny_Call_method0_late z B (A5 (oT q D) λv s1 (x,H1,G,I,ty,J)=>?_);obtain⟨h1,h2⟩:=YU G I ty;exact(177,Ato rfl (AuQ (hm pins s1 σ H1 x [] v [] Q G I .nil J)))
theorem YW(j:aE7)(slot:mBP T)(n:aB0)(hm:aB1)(q:jR)(ha:aA1)
 (z:vK o name:=by rfl)
 (B:((mAG gJ).all aE8&&(mBM cpos).all aE9
  &&decide (gJ.length+([]:aDr).length+aFa<30))=true:=by rfl)
 (D:wQ cpos.line:=by rfl) (hs:aAg:=by rfl) (G:(mAG es).any (·.1)=false:=by rfl):
 PE X (mBQ gJ cpos) (Rc X.K T r to t):=by
 intro pins s σ H Q I h;refine wpAny_Call_method_late z B D rfl (A5 (oT q I) λv s1 (x,H1,J,L,ty,M)=>?_);obtain⟨h1,h2⟩:=YU J L ty;refine(177,5);have N:=ha cpos pins s1 σ H1 _ J M;rw[hs] at N⊢;refine Ato (by show(false||(mAG es).any (·.1))=false;rw[G]<;>rfl) (Auv ?_);exact A5 N λus s2 (vs,H2,O,U,Y)=>hm pins s2 σ H2 x vs v us Q O L U Y
end
end L2
namespace L2
open PySem PySem.Spec PyProof.Rows
def U4(X:Cx)(id:String)(r:hD):Prop:=
 ∀(pins:bC)(s:Shared)(σ:St)(H:Hp)(x:V)(xs:aL)(v:Value)(us:aV)(Q:VK),aF -> hS -> fF ->r x xs H Q->
  wpAny bO X.A (uR id (v::us)) gA X.xe s
theorem AB.FN:∀{x:V}{us:aV},rD [x]->∃u,us=[u]/\nT x
 |_,_,.cons r .nil=>(0,r)
theorem AB.U5:∀{x y:V}{us:aV},rD [x,y]->∃u v,us=[u,v]/\nT x/\AJ y v
 |_,_,_,.cons r (.cons q .nil)=>(mC8 r q)
theorem AB.zero:∀{us:aV},rD []->us=[]
 |_,.nil=>rfl
theorem AB.dropLast(h:fF):AB xs.dropLast us.dropLast:=by
 induction h with
 |nil=>exact .nil
 |cons r t j=>
  cases t with
  |nil=>exact .nil
  |cons q t'=>exact sF r j
theorem AB.YX(h:fF):∀k:Nat,AB (pG k xs).flatten (pG k us).flatten
 |0=> .nil
 |k+1=>by
  rw[AtC,AtC,Aub,Aub];exact AB.append h (AB.YX h k)
theorem AiD(l:cM):l.eraseIdx (l.length - 1)=l.dropLast:=by
 induction l with
 |nil=>rfl
 |cons a r j=>
  cases r with
  |nil=>rfl
  |cons b r=>
   have e:(a::b::r).length - 1=(aA3.length - 1)+1:=by have h1:(a::b::r).length=r.length+2:=rfl;have h2:aA3.length=r.length+1:=rfl;omega
   rw[e,List.eraseIdx_cons_succ,j]
   all_goals rfl
theorem YY(its:aV):∀(k:Nat)(acc:aV),
 List.foldl (λj n=>j++n) acc.toArray (mDe pG k)=(acc++(pG k its).flatten).toArray
 |0,acc=>by simp
 |k+1,acc=>by
  have e:acc.toArray++its.toArray=(acc++its).toArray:=aC;have q:(acc++its)++(pG k its).flatten=acc++(pG (k+1) its).flatten:=by rw[AtC,Aub,At3]
  rw[<-q,<-YY its k (acc++its),<-e,AtC,Ati]
section
variable {X:Cx} {pins:bC} {σ:St} {H:Hp} {s:Shared} {l b:Addr} {xs ys zs:aL}
theorem Inv.Re{its its':aV}(j:aF)(z:H l=gZ)
 (e:mHk oB l aAP) (hf:f its.toArray=its'.toArray) (B:AB ys its') (hz:aE5):
 Inv X pins σ (nD H l ys) {s with heap:=mEY l (Obj.mapSeq f),toks:=t'}:=by
 have q:=PySem.IsL.update e f;rw[hf] at q;refine j.Ib (x:=l) (e:=l) (oL z trivial) bA (λI u hb hu=>(rP Heap.get?_update_other (Obj.mapSeq f) (Asr hb)).trans hu) (pX q) ?_;exact(hz,its',_,B,q)
theorem Inv.YZ(j:aF)(z:AB ys its)(hz:aE5):
 Inv X pins σ (mEO nD H ys) {s with heap:=s.heap.push {cls:= fH,data:= .seq its.toArray},toks:=t'}:=
 j.DV aIe aD (hz,its,64,z,cQ)
theorem Inv.BC(j:aF):mV mDf H:=aA2
theorem Inv.Kj(j:aF)(q:H l=gZ):xs.length<=sizeLine/\∃(its:aV)(n:Nat),aC8 /\xs.length=its.length/\oB l=some {cls:= fH,data:= aAP}:=by obtain⟨z,its,n,r,e⟩:=j.Av l _ q;exact(z,its,n,r,r.length,e)
theorem Y_(h:qI n):qP Builtin.List.listTooLong n:=by exact mT aA
end
section
variable {X:Cx}
def AiE:hD:=λx vs H Q=>∃l xs y,x= eP /\vs=[y]/\H l=gZ /\xs.length<sizeLine/\rH (nD H l (xs++[y]))
theorem E_:U4 X "list.append" AiE:=by
 intro pins s σ H x vs v us Q j B D h;obtain⟨l,xs,y,rfl,rfl,G,hz,q⟩:=h
 cases B
 obtain⟨u,rfl,I⟩:=D.FN;obtain⟨z,its,n,r,J,e⟩:=j.Kj G;refine mE3 AsH F.entry_list_append (F.args_list_append_2 _ _) (PySem.list_append l its.toArray n u (qQ As2));refine(.Ax,_,j.Re (its':=its++[u]) G e aC (r.append (wO I)) ?_,2,q);rw[Asi,AsD];omega
def U6:hD:=λx vs H Q=>∃l b xs zs,x= eP /\vs=[bU]/\H l=gZ /\H b=nU zs/\xs.length+zs.length<=sizeLine/\rH (nD H l (xs++zs))
theorem Rh:U4 X "list.extend" U6:=by
 intro pins s σ H x vs v us Q j B D h;obtain⟨l,b,xs,zs,rfl,rfl,G,I,hz,q⟩:=h
 cases B
 obtain⟨u,rfl,J⟩:=D.FN
 cases J
 obtain⟨z,its,n,r,L,e⟩:=j.Kj G;obtain⟨M,N,n2,O,aa,U⟩:=j.Kj I;have hsz:its.toArray.size+N.toArray.size<=sizeLine:=aLY;have Y:¬(!its.toArray.isEmpty&&Builtin.List.listTooLong (its.toArray.size+N.toArray.size))=true:=by rw[Y_ hsz,AuD];exact Ast
 refine Auc Au2 (rE e) F.entry_list_extend (F.args_list_extend_2 _ _)
  (AutoSeq1.list_extend_list_list_0 l its.toArray n b N.toArray n2 Y (qQ As2) aA) (rR e U)
 refine(.Ax,_,j.Re (its':=its++N) G e aC (r.append O) ?_,2,q);rw[Asi];omega
def AiF:hD:=λx vs H Q=>∃l xs y,x= eP /\vs=[]/\H l=gZ /\xs[xs.length - 1]? =mB y/\Q y (nD H l xs.dropLast)
theorem AiG:U4 X "list.pop" AiF:=by
 intro pins s σ H x vs v us Q j B D h;obtain⟨l,xs,y,rfl,rfl,G,hy,q⟩:=h
 cases B
 have I:=D.zero;subst I;obtain⟨z,its,n,r,J,e⟩:=j.Kj G;obtain⟨u,hu,L⟩:=r.get hy;have M:pO its.toArray[its.toArray.size - 1]? u:=by show its.toArray[its.length - 1]? =aM;rw[<-Array.getElem?_toList,<-J];exact hu
 refine mE3 F.slot_list_pop F.entry_list_pop (F.args_list_pop_1 _) (MeetsSeq.list_pop_last l its.toArray n u M (qQ As2));refine(y,_,j.Re (its':=its.dropLast) G e ?_ r.dropLast ?_,L,q)
 .show its.toArray.eraseIdxIfInBounds (its.toArray.size - 1)=its.dropLast.toArray;rw[As2,List.eraseIdxIfInBounds_toArray,AiD]
 rw[Av0];omega
def Za:R2:=λx y H Q=>∃l b xs zs,x= eP /\y= bU /\H l=gZ /\H b=nU zs/\xs.length+zs.length<=sizeLine/\∀p,H p=none->mAD H (xs++zs)
theorem HC:Bt X aHY Za:=by
 intro pins s σ H x y v u Q j B D h;obtain⟨l,b,xs,zs,rfl,rfl,G,I,hz,q⟩:=h
 cases B
 cases D
 obtain⟨z,its,n,r,J,e⟩:=j.Kj G;obtain⟨L,M,n2,N,O,U⟩:=j.Kj I;refine PySem.P.add_list e U ?_ aLY;have Y:its.toArray++M.toArray=(its++M).toArray:=aC;rw[Y];exact(mJ6 (r.append N) (qQ Asi))
def Zb:R2:=λx y H Q=>∃l k xs,x= eP /\y= mE k/\H l=gZ /\ -(2 ^ 63)<=k/\k<2 ^ 63/\xs.length*k.toNat<=sizeLine/\
 ∀p,H p=none->mAD H (pG k.toNat xs).flatten
theorem AiH(xs:cM)(k:Nat):(pG k xs).flatten.length=k*xs.length:=by
 induction k with
 |zero=>simp
 |succ k j=>rw[AtC,Aub,Asi,j,Nat.succ_mul,Nat.add_comm]
theorem Lo:Bt X (binaryOp .Mult) Zb:=by
 intro pins s σ H x y v u Q j B D h;obtain⟨l,k,xs,rfl,rfl,G,h1,h2,hz,q⟩:=h
 cases B
 obtain⟨t,rfl⟩:=D;obtain⟨z,its,n,r,I,e⟩:=j.Kj G;have hlen:its.toArray.size*k.toNat<=sizeLine:=(mEX I hz);have J:¬its.toArray.size*k.toNat>(2 ^ 63 - 1)/8:=by have:(sizeLine:Nat)<=(2 ^ 63 - 1)/8:=aZ;omega
 have L:¬(!Builtin.List.listFitsIndex k)=true:=by rw[fitsIndex_both h1 h2];exact Ast
 have M:¬Builtin.List.listTooLong (its.toArray.size*k.toNat)=true:=by rw[Y_ hlen];exact Ast
 have N:mJ7 (if its.toArray.isEmpty=true then 0 else k.toNat)=(pG k.toNat its).flatten.toArray:=by
  have f0:∀m:Nat,mJ7 m=(pG m its).flatten.toArray:=λm=>by have:=YY its m [];rw[Atz] at this;exact this
  rw[f0]
  cases its with
  |nil=>simp
  |cons a aa=>rw[jT]
 refine wpAny_binaryOp_repeat_ref (T:="list") (U:="int") aZ (rE e) (λs'=>mE2 s' k) noFill_list_mul F.fills_int_mul F.slot_int_rmul repeat_list F.slot_int_index.lookup
  (Auc F.slot_int_rmul (mE2 s k) F.entry_int_rmul (F.args_int_rmul_2 _ _) (int___rmul___int_list k t l its.toArray n)
   (e,2,(rE e),mE3 F.slot_list_mul F.entry_list_mul (F.args_list_mul_2 _ _) (AutoListH.list___mul___list_int_3 l its.toArray n k t L J M)))
 rw[N];exact(mJ6 (r.YX k.toNat) (by rw[AiH,Avu];exact hz))
end
section
variable {prog:Program} {w:World} {A:Around} {E:bN} {s:Shared}
set_option maxRecDepth 100000 in
end
section
variable {X:Cx}
end
end L2
namespace L2
open PySem PySem.Spec PyProof.Rows
theorem AB.ints:∀{ns:bH}{us:aV},rD hV->mBR us
 |[],us,h=>by
  rw[AuX] at h
  cases h
  exact IntsAre.nil
 |n::ns,us,h=>by
  rw[Asn] at h
  cases h with
  |cons r t=>
   obtain⟨k,rfl⟩:=r;exact IntsAre.cons n k (AB.ints t)
theorem U7:∀{us:aV}{ns:bH},mBR us->rD hV
 |_,_,.nil=>by rw[AuX];exact Paired.nil
 |_,_,.cons n t h=>by rw[Asn];exact Paired.cons (show AJ (mO n) (Value.int n t) from aA4) (U7 h)
theorem AB.Zc:∀{bs:mZ Bool}{us:aV},rD (bs.map V.bl)->us=bs.map Value.bool
 |[],us,h=>by
  rw[AuX] at h
  cases h
  rfl
 |b::bs,us,h=>by
  rw[Asn] at h
  cases h with
  |cons r t=>
   cases r
   rw[AB.Zc t,Asn]
theorem AB.Lq(r:rD [nE a]):us=[rQ a]:=by
 cases r with
 |cons r t=>
  cases t
  cases r
  rfl
section
variable {prog:Program} {w:World} {A:Around} {E:bN} {s:Shared} {l:Addr} {its:aV} {ns:bH} {Q:bN}
theorem AiI(j:kY)(n:mDe s.heap.IsList l)(hi:mBR its)
 (h:∀h' tk t',aIf ->Q (.int ns.sum t') {s with heap:=h',toks:=tk}):wpAny bD A (uR "sum" [eP]) Q E s:=by
 obtain⟨xs,e⟩:=hi.allInts.items;have q:aLZ:=(tV e hi.numsOf);rw[nums_intItems] at q;rw[e] at n;refine PySem.sum_intListG j n λh' tk t' hk=>?_;have:=h h' tk t' hk;rw[preSum_eq,AsW aC,q];exact this
theorem AiJ(n:kY)(q:mDe s.heap.IsList l)(hi:mBR its)(z:0<ns.length)
 (h:∀h' tk M t',aIf ->M∈ns->(∀a,a∈ns->a<=M)->Q (.int M t') {s with heap:=h',toks:=tk}):wpAny bD A (uR "max" [eP]) Q E s:=by
 obtain⟨xs,e⟩:=hi.allInts.items;have B:aLZ:=(tV e hi.numsOf);rw[nums_intItems] at B;subst B;rw[e] at q;have hsz:0<xs.size:=(mR z);refine PySem.max_intList n q hsz λv h' tk D hk=>?_;obtain⟨t,rfl⟩:=intItems_at D;obtain⟨h1,h2⟩:=argBest_gt (numAt xs) (xs.size - 1);refine h h' tk _ t hk ?_ λa ha=>?_
 .rw[numAt_eq];exact PySem.getD_mem (mBF Aug)
 obtain⟨j,hj,rfl⟩:=mem_getD ha;rw[ArX,Aug] at hj;rw[<-numAt_eq];exact h2 j aA
end
section
variable {X:Cx}
def Zd(K:PySem.W.Frag):aAf:=λvs H Q=>∃(a:Addr)(ns:bH),vs=[nE a]/\ hW /\tE ns.sum
def Ze(K:PySem.W.Frag):aAf:=λvs H Q=>∃(a:Addr)(ns:bH),vs=[nE a]/\ hW /\0<ns.length/\∀m,m∈ns->(∀y,y∈ns->y<=m)->tE m
theorem AiK(hc:fL):DW X (tD "sum") (Zd X.K):=by intro pins s σ H vs us Q j r h;obtain⟨a,ns,rfl,hs,q⟩:=h;obtain⟨its,n,z,_⟩:=uO hs;rw[aA5];exact AiI aIg z.isList n.ints λh' tk t' hk=>(178,q)
theorem AiL(hc:fL):DW X (tD "max") (Ze X.K):=by intro pins s σ H vs us Q j r h;obtain⟨a,ns,rfl,hs,n,q⟩:=h;obtain⟨its,z,B,_⟩:=uO hs;rw[aA5];exact AiJ aIg B.isList z.ints n λh' tk m t' hk h1 h2=>(178,q m h1 h2)
end
section
variable {X:Cx}
def Zf(K:PySem.W.Frag):hD:=λx xs H Q=>∃(a:Addr)(ys:aL)(y:V)(j:Nat)(z:V),x=nE a/\xs=[y]/\uS ys/\Fh y=true/\ys.all Fh=true/\ys[j]? =mB z/\FM z y=true/\
 (∀(m:Nat)(n:V),m<j->ys[m]? =mB n->FM n y=false)/\tE (j:Nat)
theorem Zg{ys:aL}(f:nJ ys.all Fh){j:Nat}(h:ys[j]? =mB z):nJ Fh z:=AsL.mp f z (Asl h)
theorem AiM:EM X "list.index" (Zf X.K):=by
 intro pins s σ H x xs v us Q B D G h;obtain⟨a,ys,y,j,z,rfl,rfl,hs,I,J,hz,L,M,q⟩:=h
 cases D
 cases G with
 |cons aa rt=>
  rename_i ab ut
  cases rt
  obtain⟨its,N,⟨⟨cls,dd,data,sl⟩,n,O,hc,ac,hd⟩,hlen⟩:=B.list hs;simp only at hc hd;subst hc hd;obtain⟨u,hu,ae⟩:=N.get hz;obtain⟨af,ag⟩:=nL hu;have ah:=N.length;have ai:=AuP;refine Auc AvF (rE O) PySem.F.entry_list_index (PySem.F.args_list_index_2 _ _)
   (SeqAt.list_indexAt a its.toArray n dd sl ab (E6 y) j (mR af) aA ?_ ?_) (O,λu' aj=>MD aa I N J u' (mR aj),5)
  .have U:its.toArray[j]=u:=(mR ag);rw[U,Q_ ae (Zg J hz)];exact L
  .intro m hm ak;have al:m<its.length:=(mR hm);have Y:pO ys[m]? ys[m]:=fN;obtain⟨am,an,ao⟩:=N.get Y;obtain⟨_,ap⟩:=nL an;have U:its.toArray[m]=am:=(mR ap);rw[U,Q_ ao (Zg J Y)];exact M m _ ak Y
  exact(mE (j:Nat),H,B.BW _,bY,q)
end
section
variable {X:Cx}
end
theorem AiN(j:s.heap.IsList l items)
 (h:∀n:Shared,n={s with heap:=s.heap.push {cls:= oH "list_iterator",data:= aL0}}->
  (n.heap.IsListIter s.heap.objs.size l 0/\n.heap.IsList l items)->l≠s.heap.objs.size->Q eO n):wpAny bD A (pyIter eP) Q E s:=by
 exact At_ j (h _ rfl (iS,j.push _) (AsP (by obtain⟨_,e,_⟩:=j;exact fI)))
theorem AiO{bs:mZ Bool}(e:its=bs.map Value.bool):
 TruthOf prog w A (λi v=>its.toArray[i]? =bK) (λi=>mE4 i):=λi v s Q E j hq=>by
 have n:pO its[i]? v:=(mR j);rw[e,ArY] at n;obtain⟨b,hb,rfl⟩:=Option.map_eq_some_iff.mp n;have hg:mE4 i=b:=(by rw[Asv,hb]<;>rfl);have q:Q (mE4 i) s:=hq;rw[hg] at q;exact Atm q
theorem Zh:∀bs:mZ Bool,(pB bs.length).all (λi=>mE4 i)=bs.all id
 |[]=>rfl
 |b::bs=>by
  rw[As1,Avj,AtJ,Atw,AtJ,<-Zh bs]
  all_goals rfl
section
variable {X:Cx}
def Zi(K:PySem.W.Frag):aAf:=λvs H Q=>∃(a:Addr)(bs:mZ Bool),vs=[nE a]/\uS (bs.map V.bl)/\rS (bs.all id)
theorem AiP(hc:fL):DW X (tD "all") (Zi X.K):=by
 intro pins s σ H vs us Q j r h;obtain⟨a,bs,rfl,hs,q⟩:=h;obtain⟨its,n,z,_⟩:=uO hs;rw[aA5];have hb:=n.Zc;refine call_all_walk (AiN z.isList λB D st G=>?_);subst D;refine(49,_,3,Walks.list (A:=X.A.in1) aIg _ a G its.toArray,st,AiO hb,λh' tk hk=>(.bl _,H,j.CF λb o I=>hk b o (λhmem=>?_) (oD I),5,q))
 .rcases oG hmem with J|hmem
  .exact nK (J▸Asu I) (AtT _)
  cases hmem
 show Value.bool _=Value.bool _;rw[<-Zh,hb,As2,ArX]
end
section
variable {X:Cx} {pins:bC} {σ:St} {H:Hp} {s:Shared}
end
section
variable {X:Cx}
end
end L2
namespace L2
open PySem PySem.Spec PyProof.Rows
abbrev Zj(h:Heap)(c:Addr)(v:kR):Prop:=h.IsCell c v
def AiQ(scope sc:Scope):Scope:=
 {scope with names:=scope.names.map λ(n,k)=>if(k== .free&&sc.kind== .function&&vH n==aAR) then(n,.cell,) else(n,k,)}
def DZ(cells:fO):jU -> fO -> fO
 |[],acc=>acc
 |(n,k)::r,acc=>if k== .free then DZ cells r ((n,aIh.getD 0,)::acc) else DZ cells r acc
theorem Zk(env:Env)(f:Str×NameKind-> fO ->Sem (ForInStep fO))
 (hf:∀n k c,f (n,k,) c=if k== .free then(do let a<-cellOf env n;pure (.yield ((n,a,)::c))) else pure (.yield c)):
 ∀(names:jU)(acc:fO),(∀y∈names,y.2= .free->∃c,mEv y.1=bT)->forIn names acc f=pure (DZ env.cells names acc)
 |[],acc,_=>by rw[AwH];rfl
 |(n,k)::r,acc,h=>by
  rw[List.forIn_cons,hf];have j:=λacc=>Zk env f hf r acc λy hy=>pA h y hy;unfold DZ;by_cases hk:(k==NameKind.free)=true
  .rw[mJ hk,mJ hk];obtain⟨c,hc⟩:=h (n,k,) AsG (mR hk);have e:cellOf env n=pure c:=(by unfold cellOf;rw[hc]);rw[e];have q:(mEv n).getD 0=c:=(qO hc);rw[q];exact j _
  rw[mM hk,mM hk];exact j _
theorem AiR(h:∀y∈scope.names,y.2= .free->∃c,mEv y.1=bT):closureFor scope env=pure (DZ env.cells scope.names []):=by simp only[closureFor];rw[Zk env _ (λn k c=>rfl) scope.names [] h];rfl
theorem U8:∀{l:oU α}{n:Str}{c:α},(n,c,)∈l->∃j,l.lookup n=mB j
 |(k,v)::r,n,c,h=>by
  rw[List.lookup_cons]
  cases hb:n==k with
  |true=>exact bY
  |false=>
   rcases oG h with e|h
   .cases e;simp at hb
   exact U8 h
theorem Ri:∀{names:jU}{acc:fO}{n:Str}{c:Addr},(n,c,)∈ aIi ->(n,c,)∈acc\/((n,.free,)∈names/\c=aIh.getD 0)
 |[],_,_,_,h=> mG h
 |(m,k)::r,acc,n,c,h=>by
  unfold DZ at h;split at h
  .rename_i hk;have hk:k= .free:=(mR hk);rcases Ri h with h|⟨h1,h2⟩
   .rcases oG h with e|h
    .cases e;exact mI (hk▸AsG,2)
    exact mG h
   exact mI (rM h1,h2)
  rcases Ri h with h|⟨h1,h2⟩
  .exact mG h
  exact mI (rM h1,h2)
theorem U9:∀{names:jU}{acc:fO}{p:Str×Addr},p∈acc->p∈ aIi
 |[],_,_,h=>h
 |(m,k)::r,acc,p,h=>by
  unfold DZ;split
  .exact U9 (rM h)
  exact U9 h
theorem UA:∀{names:jU}{acc:fO}{n:Str},(n,.free,)∈names->(n,aIh.getD 0,)∈ aIi
 |(m,k)::r,acc,n,h=>by
  unfold DZ;rcases oG h with e|h
  .cases e
   exact U9 AsG
  split
  .exact UA h
  exact UA h
theorem OO:∀{names:jU}{h:Heap}{acc:fO}{x:Str}{c:Addr},(x,c,)∈mBs mDg->
 (x,c,)∈acc\/((x,.cell,)∈names/\h.objs.size<=c/\Zj (pushCells h names) c none)
 |[],_,_,_,_,h=> mG h
 |(n,k)::r,h,acc,x,c,hm=>by
  unfold cellsFrom at hm;unfold pushCells;split at hm
  .rename_i hk;rw[mJ hk];have hk:k= .cell:=(mR hk);rw[<-AsX h {cls:= oH "cell",data:= .cell none}] at hm;rcases OO hm with hm|⟨h1,h2,j⟩
   .rcases oG hm with e|hm
    .cases e
     exact mI (hk▸AsG,aD,_,Av1 r _ _ _ cQ,2)
    exact mG hm
   rw[AsX] at h2;exact mI (rM h1,Ave h2,j)
  rename_i hk;rw[mM hk];rcases OO hm with hm|⟨h1,h2,j⟩
  .exact mG hm
  exact mI (rM h1,h2,j)
theorem Rj:∀{names:jU}{n:Nat}{acc:fO}{p:Str×Addr},p∈acc->p∈mDg n
 |[],_,_,_,h=>h
 |(m,k)::r,n,acc,p,h=>by
  unfold cellsFrom;split
  .exact Rj (rM h)
  exact Rj h
theorem UB:∀{names:jU}{n:Nat}{acc:fO}{x:Str},(x,.cell,)∈names->∃c,(x,c,)∈mDg n
 |(m,k)::r,n,acc,x,h=>by
  unfold cellsFrom;rcases oG h with e|h
  .cases e
   exact(n,Rj AsG)
  split
  .exact UB h
  exact UB h
theorem UC:∀{names:jU}{h:Heap}{acc:fO}{x y:Str}{c:Addr},(∀p∈acc,p.2<h.objs.size)->(∀x y c,(x,c,)∈acc->(y,c,)∈acc->x=y)->
 (x,c,)∈mBs mDg->(y,c,)∈mBs mDg->x=y
 |[],_,_,_,_,_,_,hi,h1,h2=>hi _ _ _ h1 h2
 |(n,k)::r,h,acc,x,y,c,j,hi,h1,h2=>by
  unfold cellsFrom at h1 h2;split at h1
  .rename_i hk;rw[mJ hk] at h2;rw[<-AsX h {cls:= oH "cell",data:= .cell none}] at h1 h2;refine UC (h:=h.push _) gY (λx y c a b=>?_) h1 h2
   .rw[AsX];rcases oG hp with rfl|hp
    .exact Avl _
    exact Au7 (j p hp)
   rcases oG a with e|a<;>rcases oG b with e'|b
   .cases e;cases e';rfl
   .cases e;exact nK (j _ b) (AtT _)
   .cases e';exact nK (j _ a) (AtT _)
   exact hi _ _ _ a b
  rename_i hk;rw[mM hk] at h2;exact UC j hi h1 h2
theorem AiS{code:Value}
 (h:Q (newEnv scope s.heap.objs.size globals (mHc closure) qual func code (mB around) builtins)
  {s with heap:=mBS mBT}):
 wpAny M A (newFunctionEnv scope globals closure [] qual func code (mB around) builtins) Q E s:=by
 simp only[newFunctionEnv,Option.isSome_some,if_true];refine mAE wpAny_alloc;refine nF (wpAny_layCells _ (λn k c=>rfl) scope.names closure _ _ ?_);rw[show({s with heap:=s.heap.push {cls:= oH "dict",data:= .dict #[]}}:Shared).heap.objs.size=s.heap.objs.size+1 from AsX ..];rw[AwH];exact nF (nG Asg h)
theorem UD{sc:Scope}:∀{names:jU}{x:Str}{k:NameKind},
 (names.map λ(n,k)=>if(mE5 k n) then(n,NameKind.cell,) else(n,k,)).lookup x=mB k->
 ∃k',names.lookup x=mB k'/\(k=k'\/(k'= .free/\k= .cell))
 |[],_,_,h=>by simp at h
 |(n,j)::r,x,k,h=>by
  have q:=@UD sc r x k;have h':List.lookup x ((if(mE5 j n)=true then(n,NameKind.cell,) else(n,j,))::(r.map _))=some k:=h
  cases hx:x==n with
  |true=>
   simp only[List.lookup_cons,hx];by_cases hc:(mE5 j n)=true
   .rw[mJ hc] at h';simp only[List.lookup_cons,hx] at h'
    cases h'
    simp at hc;exact(j,2,xQ hc.1.1 rfl)
   rw[mM hc] at h';simp only[List.lookup_cons,hx] at h'
   cases h'
   exact(0,bA)
  |false=>
   simp only[List.lookup_cons,hx];by_cases hc:(mE5 j n)=true
   .rw[mJ hc] at h';simp only[List.lookup_cons,hx] at h';exact q h'
   rw[mM hc] at h';simp only[List.lookup_cons,hx] at h';exact q h'
structure OP(N:cB)(sc scope:Scope)(own:oU Nat):Prop where
 kind:scope.kind= .function
 UE:∀y∈scope.names,wP y.1=some y.2
 ix:∀p∈own,N[p.2]? =some p.1
 free:∀y∈scope.names,y.2= .free->vH y.1=aAR \/vH y.1=some .free
 own:∀y∈scope.names,y.2= .local\/y.2= .cell->y.1∈ aIj \/y.1∉N
def Co(σ:St):aB ->St
 |[]=>σ
 |v::vs=>eD.set v none
theorem UF(σ:St):∀vs:aB,eD.length=σ.length
 |[]=>rfl
 |v::vs=>by unfold Co;rw[List.length_set,UF σ vs]
theorem UG:∀{vs:aB},eD[i]? =mB aW ->σ[i]? =mB aW /\i∉vs
 |[],h=>(h,9)
 |v::vs,h=>by
  unfold Co at h;by_cases hi:v=i
  .subst hi;by_cases j:v<eD.length
   .rw[Avi j] at h;cases h
   rw[As9 (mR j)] at h;cases h
  rw[Avw hi] at h;obtain⟨h1,h2⟩:=UG h;exact(h1,by simp;exact(λe=>vV hi,h2))
abbrev Cx.E7(X:Cx)(s:Shared)(H:Hp)(scope:Scope)(j:Env)(q:aQ):Cx:={X with EK:=s,Le:=H,env:=j,outer:=X.stack,ex:=q,fn:=λx=>wP x==aAR,pn:=[],xe:=λ_ _=>False}
section
variable {X:Cx} {pins:bC} {σ:St} {H:Hp} {s:Shared}
theorem AiT(j:aF)(ok:aFb)(aa:X.N.Nodup)(B:∀b∈ab,aBT /\b<s.heap.objs.size):
 Inv (X.E7 s H scope aL1 ab) [] (Co σ aDv) H {s with heap:=mBS mBT}:=by
 have ac:aL2:=λy hy e=>by
  rcases ok.free y hy e with k|k
  .exact j.ok.Lf _ (mG k)
  exact j.ok.Lf _ (mI k)
 generalize D:aL1=G;have kp:∀b o,oB b=aI ->(mBS mBT).get? b=some o:=λb o e=>rT Av1 (oD e);have I:mHm G.locals:=(mAH D);have J:G.cells=cellsFrom dD scope.names aIk:=(mAH D);have ae:G.scope=AiQ scope X.env.scope:=(mAH D);rw[<-AsX s.heap {cls:= oH "dict",data:= .dict #[]}] at J;have L:∀{y c},(y,c,)∈ aIk ->sW y=bT /\c<s.heap.objs.size:=λ{y c}hm=>by
  rcases Ri hm with hm|⟨h1,rfl⟩
  .cases hm
  obtain⟨c,hc⟩:=ac _ h1 rfl;rw[hc];obtain⟨w,z⟩:=mC j.cell hc;exact(2,z.lt)
 have mem:∀{y c},aFc=bT ->(sW y=bT /\c<s.heap.objs.size)\/(s.heap.objs.size+1<=c/\Zj (mBS mBT) c none):=λ{y c}e=>by
  rw[J] at e;rcases OO (AsQ e) with hm|⟨_,h2,af⟩
  .exact mG (L hm)
  rw[AsX] at h2;exact xQ h2 af
 have Ll:∀{y},wP y=aEN ->∃c,aFc=bT /\sW y=some c:=λ{y}M=>by
  have hy:=AsQ M;obtain⟨N,e'⟩:=U8 (Rj (names:=scope.names) (n:=(mBS mDh).objs.size) (UA (cells:=X.env.cells) (acc:=[]) hy));rw[<-J] at e';refine(rR N e');rw[J] at e';rcases OO (AsQ e') with hm|⟨h1,_,_⟩
  .exact(L hm).1
  have:=ok.UE _ h1;rw[M] at this;cases this
 have ag:(X.E7 s H scope G ab).Ok:=by
  refine(j.ok.mod,by show G.scope.kind=_;rw[ae];exact ok.kind,by show G.globals=_;rw[<-D];exact j.ok.Jh,by show G.builtins=_;rw[<-D];exact j.ok.Ji,by show s.heap.objs.size<=G.locals;rw[I];exact aD,λy z c O U=>?_,hJ,λy c z e=>?_,j.ok.hd,j.ok.frames,bA,mAB (5,λy c e z=>?_),j.bs,mEx j.sz,aIl,λb hb z=>?_,j.stack,j.Yi)
  .have O:=O;have U:=U;rw[J] at O U;refine UC gY (λy z c a b=>j.ok.inj y z c (L a).1 (L b).1) (AsQ O) (AsQ U);rw[AsX];exact Au7 (L (y:=p.1) (c:=p.2) hp).2
  .show∃c,aFc=bT;have key:∀k,G.kindOf y=mB k->(k= .cell\/k= .free)->∃c,aFc=some c:=λk hk ah=>by
    unfold Env.kindOf at hk;rw[ae] at hk;obtain⟨k',e,r⟩:=UD hk;have:k'= .cell\/k'= .free:=by
     rcases r with rfl|⟨rfl,_⟩
     .exact ah
     exact eB
    rcases this with rfl|rfl
    .obtain⟨c,hm⟩:=UB (n:=(mBS mDh).objs.size) (acc:=aIk) (AsQ e);obtain⟨N,e'⟩:=U8 hm;exact(N,by rw[J];exact e')
    obtain⟨c,h1,_⟩:=Ll e;exact(c,h1)
   rcases hy with hy|hy
   .exact key _ hy bA
   exact key _ hy eB
  .have z:=z;have z:wP y=some .cell:=(mR z);have e:=e;rw[J] at e;rcases OO (AsQ e) with hm|⟨_,h2,_⟩
   .rcases Ri hm with hm|⟨h1,_⟩
    .cases hm
    have q:=ok.UE _ h1;rw[z] at q;cases q
   rw[AsX] at h2;exact Ave h2
  .show b≠G.locals;rw[I];exact AsP (nN B).2
  .have e:=e;rcases mem e with⟨h1,_⟩|⟨h1,_⟩
   .exact(nN B).1.2.2.2.2.1 y c h1 z
   have h2:s.heap.objs.size+1<=b:=(tV z h1);exact mBq (nN B).2 (Ave h2)
  .rcases(nN B).1.2.2.2.1 with z|z
   .exact j.ok.O8 b o e z
   exact mBq fI (mEx z)
  rcases oG (j.TY b z) with z|z
  .exact(nN B).1.2.1 z
  exact(nN B).1.2.2.1 z
 refine(ag,2,j.DM,Un.CF kp,(λ_=>none,5,λi y ai O U e3=>?_),176,5,176,gY,j.Av.CF kp,by rw[UF];exact j.len)
 .show Heap.Ns _ G.locals _;rw[I];exact Heap.Ns.keeps (Heap.Ns.new ..) λb o e=>rT Av1 e
 .obtain⟨U,aj⟩:=UG U;have Y:wP y=aEN /\(mEu G.kindOf y):=by
   have key:∀k,G.scope.names.lookup y=mB k->k= .local\/k= .cell\/k= .free->wP y=aEN /\(mEu G.kindOf y):=λk hk ah=>by
    have ak:=hk;rw[ae] at hk;obtain⟨k',e,r⟩:=UD hk;have no:¬(k'= .local\/k'= .cell):=λal=>by
     rcases ok.own _ (AsQ e) al with e'|e'
     .obtain⟨p,hp,am⟩:=nY e';have e3:=ok.ix p hp;have:p.1=y:=am;rw[this] at e3;exact aj (Asx.mpr (p,hp,TZ aa e3 O))
     exact e' (Asl O)
    rcases r with rfl|⟨rfl,rfl⟩
    .rcases ah with rfl|rfl|rfl
     .exact nK bA no
     .exact nK eB no
     exact(e,mI ak)
    exact(e,mG ak)
   have e3:=e3;rcases e3 with e3|e3|e3
   .exact key _ e3 bA
   .exact key _ e3 (mI bA)
   exact key _ e3 (nG mI rfl)
  obtain⟨m,an,M⟩:=j.EX;obtain⟨w,r,q⟩:=M i y ai O U (aL3.elim (λk=> mI (mG k)) (λk=> nG mI k));refine(w,r,mI (oS Y.2));obtain⟨c,h1,h2⟩:=Ll Y.1;rcases q with⟨k,_⟩|⟨_,N,e',z⟩
  .have k:mCY y=some .local:=k;rcases aL3 with k'|k'<;>rw[show mCY y=_ from k'] at k<;>cases k
  rw[h2] at e';cases e';exact(c,h1,z.keeps kp)
 .have e:=e;rcases mem e with⟨h1,_⟩|⟨_,z⟩
  .obtain⟨w,z⟩:=j.cell y c h1;exact(w,z.keeps kp)
  exact(pX z)
 .show H G.locals=none;rw[I];exact aA2
 .have e:=e;rcases mem e with⟨h1,_⟩|⟨h1,_⟩
  .exact j.Gn y c h1
  exact j.Av.BC (Ave h1)
 exact aL4
theorem AiU(j:aF)(z:H D=gZ)(hz:xs.length<sizeLine)(r:AJ y v)
 (h:∀s',sZ (nD H D (xs++[y])) s'->Q .none s'):wpAny bO X.A (uR "list.append" [hE,v]) Q E s:=by
 obtain⟨B,its,n,G,e⟩:=j.Av D _ z;have I:=G.length;refine append_at (hsz:=by rw[As2];omega) e λh' J L=>?_;refine h {s with heap:=h'} (j.Ib (t':=s.toks) (by rw[z];trivial) bA (λb u hb q=>(nN J.2).trans q) (pX L) (by rw[Asi];exact hz,its++[v],n+1,G.append (wO r),5));rw[L];simp
def OQ(X:Cx)(ifs:hQ)(t:TT):Prop:=
 ∀(pins:bC)(s:Shared)(σ:St)(H:Hp)(Q:kT),aF -> aAT ->
  wpAny bO X.A (forIn ifs true λc r=>if r=true then do let ok<-isTrue c X.env (pE c);mE6 ok else mE6 r) aET X.xe s
def MF:TT:=λ_ H Q=>Q true H
theorem Cw:OQ X [] MF:=λ_ _ _ H _ j h=>wpAny_tests_nil (mQ H j h)
theorem Rk(h:PT X c t):OQ X [c] t:=λpins s σ H Q j hw=>wpAny_tests_one (mCW Q)
end
theorem MG(h:wpAny M A t Q aIm s)(j:∀a s,Q a s->n a s):wpAny M A t n E s:=AtL h j λ_ _ z=>sY z
theorem AiV(j:mAs Nat)
 (turn:∀n s,j n s->wpAny bD A (pyNext it) (λr q=>match r with
  |none=>R (.ok .next) q
  |some v=>wpAny bD A (letOwnedTupleGo target it v) (λ_ z=>wpAny bD A (assign target env v) (λ_ B=>
   wpAny bD A (forIn ifs true λc r=>if r=true then do let ok<-isTrue c env (xZ c);mE6 ok else mE6 r) (λok D=>
    if ok=true then wpAny bD A (xZ elt) (λx G=>
     wpAny bD A (uR "list.append" [acc,x]) (λ_ I=>∃m,m<n/\j m I) aB2 G) aB2 D
    else∃m,m<n/\j m D) aB2 B) aB2 z) aB2 q) aB2 s)
 (n:Nat) (h:j n s):
 codeAny bD A (.compLoop (mJ8 target) 0 it acc env) R s:=by
 refine codeAny_loop rfl j (λn s J=>?_) n h;refine wpAny_noted ?_;rw[compTurn_list];refine ArZ (wpAny_standAt (mDi (turn n s J) (λr q L=>?_)))
 cases r with
 |none=>exact Asg L
 |some v=>
  refine mDi L (λ_ z M=>?_);refine mDi M (λ_ B N=>mDi N (λok D O=>?_))
  cases ok with
  |false=>exact Asg (2,O)
  |true=>
   exact ArZ (ArZ (AtL O (λx G U=>mDi U (λ_ I Y=>nG Asg (2,Y))) λ_ _ h'=>h'))
section
variable {X:Cx}
def UH(j:TI)(g:TG)(tt:TT)(te:TE)(vs:aB):TE:=λσ H Q=>j σ H λJ H1=>∀D,H1 D=none->∃W:mBC Nat,(mDj H1 D)/\∀i m H,W i m H->
 (xT i/\Q hE H)\/(kU /\∃n:hB,(∀H',n H'->∃q,q<m/\W (i+1) q H')/\∀x H',kW ->g x eD H' λz H2=>Co z vs=eD /\tt z H2 λb B=>
  if b=true then te z B λy G=>∃acc,G D=nU acc/\acc.length<sizeLine/\n (zL G) else n B)
theorem Zl
 (hc:fL) (aa:X.N.Nodup) (ab:aF) (hi:mEI ac) (ok:aFb)
 (hg:mHn PG tg g) (ae:mHn OQ ifs tt)
 (he:mHn PE elt te) (hs:aEW)
 (h:UH ac g tt te aDv σ H Q)
 (af:∀D C s' m H',aAS ->oQ D->s'.heap.Ns C m->mEF H' C->compPost bO X.A X.xe use Qf hE C (.ok .next) s'):
 wpAny bO X.A (comprehension aB3 scope X.env pos' (newList []) false (pE iter) use) Qf X.xe s:=by
 have ag:aL2:=λy hy e=>by
  rcases ok.free y hy e with k|k
  .exact ab.ok.Lf _ (mG k)
  exact ab.ok.Lf _ (mI k)
 refine wpAny_comprehension_free (use:=use) rfl hs (AiR ag) ok.kind (λy hy e=>by rw[ok.UE y hy,e])
  (A5 (oT hi ab) λah s1 hx=>A5 hx λai s2 h2=>?_)
 obtain⟨it,B,G,J,H2,e,aj,T,ak,f2,q⟩:=h2;subst e;refine As_ (AiS ?_) (mAI 0);generalize I:s2.heap.objs.size=D;obtain⟨W,⟨m0,al⟩,turn⟩:=q D (aj.Av.BC (Avy I));generalize am:({s2 with heap:=s2.heap.push {cls:= fH,data:= .seq ([]:aV).toArray}}:Shared)=s3;have an:Inv X pins σ (pK H2 D) s3:=by rw[<-am];refine aj.DV (t':=s2.toks) (λb o e=>oD e) (Avy I) (aT,[],64,.nil,5);rw[<-I];exact cQ
 have ao:s3.heap=s2.heap.push {cls:= fH,data:= .seq ([]:aV).toArray}:=(by rw[<-am]);have sz:∀b∈B,b<s2.heap.objs.size:=λb hb=>by obtain⟨o,e,_⟩:=T.obj _ _ ak b hb;exact fI
 have L:∀b∈B,mEF (pK H2 D) b/\b<s3.heap.objs.size:=λb hb=>by have ap:=nN sz;refine((5,(nN f2).2),by rw[ao,AsX];exact Au7 ap);rw[Ah (vT I AsP ap)];exact(nN f2).1
 have aq:G 0 s3.heap:=T.keep _ _ _ ak λb _ o e=>(wM ao oD e);have ar:=AiT an ok aa L;have pg:=mHo hg B;have pt:=mHo ae B;have as:=mHo he B;show codeAny _ _ (.compStart aB3 0 iQ hE aL5) aL6 {s3 with heap:=mBT s3.heap.push};have au:∀b∈B,(pK H2 D) b=none:=λb hb=>(nN L).1.1;generalize av:aL5=ce at ar pg pt as⊢;have aw:ce.locals=s3.heap.objs.size:=(by subst av;rfl);generalize ax:pK H2 D=M at an ar pg pt as al au L;generalize ay:({s3 with heap:=mBT s3.heap.push}:Shared)=s4 at ar⊢;have az:G 0 s4.heap:=T.keep _ _ _ aq λb _ o e=>(by rw[<-ay];exact rT Av1 (oD e));have stat:∀{a0:St}{H':Hp}{s':Shared},Inv aA6 [] a0 H' s'-> aIn ->∀b∈B,Gr aA6 [] H' b:=λ{a0 H' s'}N O b hb=>
  (nN O,(nN N.ok.QA).1,nN N.ok.O9,mG hb,λx c e=>(nN N.ok.QA).2 x c e,λp hp=>aL4)
 have loop:codeAny bO X.A (.compLoop aB3 0 iQ hE ce) aL6 s4:=by
  refine AiV (λn s'=>∃i H',aL7 /\G i s'.heap/\ aIn /\W i n H') ?_ m0 (64,M,ar,az,au,al);rintro n s5 ⟨i,U,a1,a2,n5,a3⟩;rcases turn i n U a3 with⟨stop,a4⟩|⟨go,a5,a6,step⟩
  .have td:=T.done aA6 rfl rfl rfl hc i [] s5 _ U aIm a1 (stat a1 n5) a2 stop;refine MG td λr a7 (a8,Y)=>?_;subst a8;have a9:Inv X pins σ U a7:=an.Ah0 (ch:=B) Y.os Y.base Y.Av Y.DM λb hb=>((nN L).1.2.2.2.1,(nN L).1.2.1,(nN L).1.2.2.2.2.1,(nN L).1.2.2.2.2.2);have ba:mV U s3.heap.objs.size:=by
    have z:mV U ce.locals:=Y.free;rw[aw] at z;exact z
   obtain⟨m,O,_⟩:=Y.EX;have O:a7.heap.Ns ce.locals m:=O;rw[aw] at O;exact af D s3.heap.objs.size a7 m U a9 a4 O (an.Hx aD ba)
  have bb:=T.item aA6 rfl rfl rfl hc i [] s5 _ U aIm a1 (stat a1 n5) a2 go;refine MG bb λr a7 (u,a8,h6)=>?_;subst a8;refine MG h6 λ_ bc (x,bd,a9,be,bf,bg,bh)=>?_;refine MG (pg _ bc _ bd x u _ (a9.Yx (stat a9 bh) (mC T.obj bg)) be (step x bd bf)) λ_ bi (bj,bk,bl,bm,bn)=>?_;refine MG (pt _ bi bj bk _ bl bn) λb bo (bp,bq,br)=>?_;have fin:∀{s':Shared}{H':Hp},Inv aA6 ([]++OI B bc.heap) bj H' s'->a5 H'->∃m,m<n/\∃i H',aL7 /\G i s'.heap/\ aIn /\W i m H':=λ{s' H'}N nx=>by
   obtain⟨bs,hm,bt⟩:=a6 H' nx;have bu:∀b∈B,∀o,bc.heap.get? b=aI ->s'.heap.get? b=aI /\H' b=none:=λb hb o e=>
    let z:=N.FH (b,o,) aHV
    (z.1,z.2.1)
   refine(bs,hm,i+1,H',(N.QH (pins:=[])).Ahz (mBU bm UF) (λj v e=>?_),T.keep _ _ _ bg λb hb o e=>(bu b hb o e).1,fK,bt)
   .rw[<-bm] at e;exact(UG e).1
   obtain⟨o,e,_⟩:=T.obj _ _ bg b hb;exact(bu b hb o e).2
  cases b with
  |false=>
   simp at br⊢;exact fin bq br
  |true=>
   simp at br⊢;refine MG (as _ bo bj bp _ bq br) λz bv (bw,bx,bz,b0,acc,b1,b2,nx)=>?_;exact AiU (X:=aA6) bz b1 b2 b0 λb3 b4=>fin b4 nx
 exact codeAny_compStart_list loop (T.self X.A 0 _ _ _ az loop)
theorem Dk(hc:fL)(j:X.N.Nodup)(hi:mEI n)(ok:aFb)
 (hg:mHp PG tg g) (B:mHp OQ ifs tt)
 (he:mHp PE elt te) (hs:aEW:=by intro _;rfl):
 PE X aB3 (UH n g tt te aDv):=by
 intro pins s σ H Q G h;rw[eval_ListComp];refine Zl hc j G hi ok hg B he hs h λD C s' m H' I q J f=>(m,J,λL M=>?_);obtain⟨f0,f1,f2,N,f4,O⟩:=f;exact(hE,H',I.DN (t':=s'.toks) (mC1 M.2) f0 f1 N f4 O,2,q)
theorem HD(hc:fL)(j:X.N.Nodup)(hy:X.N[i]? =mB y)(n:mCY y=kS)
 (B:swapsWith aB3 (mB (.Name y py)) G.line X.env=pure true) (hi:mEI I) (ok:aFb)
 (hg:mHq PG tg g) (M:mHq OQ ifs tt)
 (he:mHq PE elt te) (hs:aEW:=by intro _;rfl):
 PS X (.Assign [.Name y py] aB3 G) (OG (UH I g tt te aDv) (EY i)):=by
 intro pins s σ H D N h;rw[rT exec_Assign_Name_used B];refine nF (wpAny_standAt cI);have h:=h;refine ArZ (A5 (Zl (Qf:=λ_ s'=>SP X pins D .next s') hc j N hi ok hg M he hs h λL C s' m H' O q U f=>?_) λ_ s' hq=>nG Asg hq);refine wpAny_assign_Name (Yk (v:=nE L) O j hy (mG n) rfl (λs2 Y (a,aa,ha)=>?_) (mI n));obtain⟨f0,f1,f2,ab,f4,ac⟩:=f;have ae:C≠a:=by
  rcases ha with z|z
  .rw[z];exact f1
  exact λe=>f4 y a z e.symm
 exact(m,U.sameBut aa ae,λaf ag=>(_,H',Y.DN (t':=s2.toks) (mC1 ag.2) f0 f1 ab f4 ac,q))
theorem HE(hk:env.scope.kind= .function)(hy:env.scope.names.lookup y=kS)(j:oZ (py.line==pos.line))
 (ha:pH (scope.names.any λ(n,k)=>n==y&&(k== .local||k== .cell))):swapsWith (.ListComp elt q scope pos) (mB (.Name y py)) l env=pure true:=by
 have ky:env.kindOf y=some .local:=hy;have hb:env.blockKind= .function:=(by unfold Env.blockKind;rw[hk];rfl);unfold swapsWith;simp only[hb,ky,ha,Expr.pos,j];rfl
end
def BV(N:cB)(sc scope:Scope)(own:oU Nat):Bool:=
 (match scope.kind with| .function=>true|_=>false)&&(scope.names.all λy=>decide (wP y.1=mB y.2))&&(own.all λp=>decide (N[p.2]? =mB p.1))&&
  (scope.names.all λy=>match y.2 with
   | .free=>(match sc.names.lookup y.1 with|some .cell=>true|some .free=>true|_=>false)
   | .local=>decide (y.1∈ aIj)||decide (y.1∉N)
   | .cell=>decide (y.1∈ aIj)||decide (y.1∉N)
   |_=>true)
theorem BZ(h:BV N sc scope own=true):OP N sc scope own:=by
 unfold BV at h;simp only[Bool.and_eq_true,List.all_eq_true,decide_eq_true_eq] at h;obtain⟨⟨⟨h1,h2⟩,j⟩,h4⟩:=h;refine(5,h2,j,λy hy e=>?_,λy hy e=>?_)
 .split at h1
  .assumption
  cases h1
 .have q:=h4 y hy;simp only[e] at q;split at q<;>first|exact mG (by assumption)|exact mI (by assumption)|cases q
 have q:=h4 y hy;rcases e with e|e<;>(simp only[e,Bool.or_eq_true,decide_eq_true_eq] at q;exact q)
end L2
namespace L2
open PySem PySem.Spec PyProof.Rows
section
variable {prog:Program} {w:World} {A:Around} {R:mAs Result} {s:Shared} {elt t0 i0 t1 i1:Expr} {ifs0 ifs1:hQ} {scope:Scope} {pos:Pos} {it acc:Value} {env:Env}
end
section
variable {X:Cx}
end
end L2
namespace L2
open PySem PySem.Spec PyProof.Rows
section
variable {κ:Type} [mDk κ]
def Bc(kvs:fG)(k:κ):Option V:=(kvs.find? λj=>decide (j.1=k)).map (·.2)
def Dy(kvs:fG)(k:κ)(v:V):List (κ×V):=
 if aFd=true then kvs.map (λj=>if j.1=k then(j.1,v,) else j) else kvs++[(k,v,)]
theorem AiW:yB ([]:fG) k:=rfl
theorem FO{p:κ×V}{r:fG}{k:κ}(e:p.1=k):Bc iT k=some p.2:=by simp[Bc,List.find?_cons,e]
theorem FP{p:κ×V}{r:fG}{k:κ}(e:¬p.1=k):Bc iT k=Bc r k:=by simp[Bc,List.find?_cons,e]
theorem MH(k:κ):∀kvs:fG,aFd=iU.isSome
 |[]=>rfl
 |p::r=>by
  rw[Ata];by_cases e:p.1=k
  .simp only[FO e,decide_eq_true e,Bool.true_or,Option.isSome_some]
  rw[FP e,mT e,Bool.false_or];exact MH k r
theorem Zm(k j:κ)(y:V):∀kvs:fG,Bc (kvs.map λn=>if n.1=k then(n.1,y,) else n) j=(Bc kvs j).map λx=>if j=k then y else x
 |[]=>rfl
 |p::r=>by
  have q:=Zm k j y r;rw[Asn];by_cases h:p.1=k
  .rw[mJ h];by_cases e:p.1=j
   .rw[FO (p:=(p.1,y,)) e,FO e,AuU,mJ (e.symm.trans h)]
   rw[FP (p:=(p.1,y,)) e,FP e,q]
  rw[mM h];by_cases e:p.1=j
  .rw[FO (p:=p) e,FO e,AuU,yC h (e.trans z)]
  rw[FP (p:=p) e,FP e,q]
theorem OR(k j:κ)(y:V):∀kvs:fG,iU=none->Bc (kvs++[(k,y,)]) j=if j=k then mB y else Bc kvs j
 |[],_=>by
  by_cases e:k=j
  .rw[vV mJ];exact FO (p:=(k,y,)) e
  rw[yC e z.symm];exact FP (p:=(k,y,)) e
 |p::r,n=>by
  rw[At8];have hk:¬p.1=k:=λz=>(by rw[FO z] at n;cases n);rw[FP hk] at n;by_cases e:p.1=j
  .rw[FO e,FO e,yC hk (e.trans z)]
  rw[FP e,FP e,(OR k j y r n)]
theorem MI(kvs:fG)(k j:κ)(y:V):Bc aIo j=if j=k then mB y else Bc kvs j:=by
 unfold Dy;by_cases a:(kvs.any λn=>decide (n.1=k))=true
 .rw[mJ a,Zm];rw[MH] at a;by_cases e:j=k
  .obtain⟨x,hx⟩:=Awn.mp a;rw[bV,e,hx,AuU,bF]
  rw[bP]
  cases Bc kvs j with
  |none=>rfl
  |some x=>rw[AuU,bP]
 rw[mM a];refine OR k j y kvs ?_;rw[MH] at a
 cases q:iU with
 |none=>rfl
 |some x=>rw[q] at a;exact(a rfl).elim
theorem Jo(kvs:fG)(k:κ)(v:V):aAh.length<=kvs.length+1:=by
 unfold Dy;split
 .rw[ArX];omega
 rw[Asi,As1,AuV];omega
theorem MJ{kvs:fG}{k:κ}(v:V)(h:iU=none):aAh=kvs++[(k,v,)]:=by unfold Dy;rw[MH,h];exact bS
theorem EJ.UI(r:EJ o u):o.isSome=u.isSome:=by
 cases o with
 |none=>cases u with
  |none=>rfl
  |some _=>exact aBY.elim
 |some _=>cases u with
  |none=>exact aBY.elim
  |some _=>rfl
theorem EJ.getD(r:EJ o u)(j:AJ d d'):AJ (o.getD d) (u.getD d'):=by
 cases o with
 |none=>cases u with
  |none=>exact j
  |some _=>exact aBY.elim
 |some _=>cases u with
  |none=>exact aBY.elim
  |some _=>exact r
theorem KV.val{kvs:fG}{vs:uM κ Value}(r:hO)(k:κ):EJ iU (valueAt vs k):=by
 induction r with
 |nil=>exact True.intro
 |@cons p q ps j h t B=>
  obtain⟨h1,h2⟩:=h;by_cases e:p.1=k
  .have e':=aFe;have b:valueAt (q::j) k=some q.2:=aL8;rw[FO e,b];exact h2
  have e':¬q.1=k:=λz=>e aFf;have b:valueAt (q::j) k=valueAt j k:=aL8;rw[FP e,b];exact B
theorem KV.any(r:hO)(k:κ):aFd=vs.any λj=>decide (j.1=k):=by
 induction r with
 |nil=>rfl
 |cons h t q=>rw[Ata,Ata,q,h.1]
theorem KV.UJ(r:hO)(k:κ)(j:nT y):
 KV (mHr kvs.map y) (mHr vs.map u):=by
 induction r with
 |nil=>exact .nil
 |@cons p q ps I h t J=>
  rw[Asn,Asn];refine .cons ?_ J;obtain⟨h1,h2⟩:=h;by_cases e:p.1=k
  .rw[bV,mJ aFe];exact(h1,j)
  rw[bP,yC e aFf];exact(h1,h2)
theorem KV.CA(r:hO)(k:κ)(j:nT y):KV aIo (stored vs k u):=by
 unfold Dy stored;rw[r.any k];by_cases e:(vs.any λq=>decide (q.1=k))=true
 .rw[bV,bV];exact r.UJ k j
 rw[bP,bP];exact Paired.snoc r (2,j)
theorem KV.length(r:hO):kvs.length=vs.length:=xR r
end
theorem MK(r:nT (kV k)):(GR P w).is k u=true:=by
 cases k with
 |inl i=>obtain⟨t,e⟩:=(mBE u Value.int i);subst e;exact Ahr P w i t
 |inr x=>obtain⟨t,e⟩:=(mBE u Value.str x);subst e;exact Ahs P w x t
theorem AiX(e:kV a=kV b):a=b:=by
 cases a with
 |inl i=>cases b with
  |inl j=>have e':mO i=V.int j:=e;injection e' with e';rw[e']
  |inr y=>exact nomatch (show mO i=V.str y from e)
 |inr x=>cases b with
  |inl j=>exact nomatch (show V.str x=mO j from e)
  |inr y=>have e':V.str x=V.str y:=e;injection e' with e';rw[e']
abbrev KT(H:Hp):bI -> aEL ->Prop:=Paired λp q=>p.1=q.1/\Dv H p.1 q.2.1/\AJ p.2 q.2.2
theorem KT.val{H:Hp}{kvs:bI}{xs:aEL}(r:aB4)(k:Ky):EJ iU (aAi.map (·.2)):=by
 induction r with
 |nil=>exact True.intro
 |@cons p q ps j h t B=>
  obtain⟨h1,_,h2⟩:=h;by_cases e:p.1=k
  .have e':=aFe;have b:atKey (q::j) k=some q.2:=aL9;rw[FO e,b];exact h2
  have e':¬q.1=k:=λz=>e aFf;have b:atKey (q::j) k=atKey j k:=aL9;rw[FP e,b];exact B
theorem KT.UJ(r:aB4)(k:Ky)(j:nT y):
 KT H (mHr kvs.map y) (xs.map (putAt k u)):=by
 induction r with
 |nil=>exact .nil
 |@cons p q ps I h t J=>
  rw[Asn,Asn];refine .cons ?_ J;obtain⟨h1,h2,L⟩:=h;unfold putAt;by_cases e:p.1=k
  .rw[bV,mJ aFe];exact(mQ h1 h2 j)
  rw[bP,yC e aFf];exact(mQ h1 h2 L)
theorem KT.CA(r:aB4)(k:Ky)(hb:aDw)(j:nT y):
 KT H aIo (storedH xs k b u):=by
 have e:(kvs.any λz=>decide (z.1=k))=aAi.isSome:=by rw[MH,(r.val k).UI,Option.isSome_map]
 unfold Dy storedH;rw[e];by_cases q:aAi.isSome=true
 .rw[mJ q,mJ q];exact r.UJ k j
 rw[mM q,mM q];exact Paired.snoc r (mQ rfl hb j)
theorem KT.keeps(r:aB4)(j:∀b ys,H b=oO ys->H' b=oO ys):KT H' kvs xs:=
 Paired.TV r λ_ _ z=>(z.1,z.2.1.keeps j,z.2.2)
section
variable {P:Program} {w:World} {H:Hp} {h:Heap} {a:Addr}
theorem UK(ok:fZ)(e:uN u):C9 P w H h a u:=e.ok ok
theorem Jp(ok:fZ)(e:uN jV):aMa:=
 show zA jV from UK ok e
theorem AiY(ok:fZ)(e:H a=qH kvs):aMa:=Jp ok (mG e)
theorem AiZ(ok:fZ):∀(n:Nat)(k:Ky)(v:V)(u:Value),k.depth<=n->JV H k v->nT v->EW h k u:=by
 intro n
 induction n with
 |zero=>
  intro k v u hd hk r
  cases k with
  |num i=>
   rcases hk with rfl|⟨b,rfl,rfl⟩
   .exact mG r
   exact mI (xO b r)
  |Ce x=>
   have j:=hk;subst j;exact r
  |Al l=>simp[Ky.depth] at hd
 |succ n q=>
  intro k v u hd hk r
  cases k with
  |num i=>
   rcases hk with rfl|⟨b,rfl,rfl⟩
   .exact mG r
   exact mI (xO b r)
  |Ce x=>
   have j:=hk;subst j;exact r
  |Al l=>
   obtain⟨a,vs,rfl,h1,h2⟩:=hk;obtain⟨_,its,z,o,g1,g2,m,g3⟩:=(show zA (.Al vs) from ok a _ h1);refine(a,o,its.toArray,m,r,g1,g2,g3,5);have all:∀(l:iL)(vs:aL)(us:aV),Ky.C2 l<=n->Ld H l vs->rD vs->Ht h l us:=by
    intro l
    induction l with
    |nil=>
     intro vs us _ e B;subst e
     cases B
     rfl
    |cons k ks D=>
     intro vs us hd2 e B;obtain⟨v,G,rfl,I,p2⟩:=e
     cases B with
     |cons J L=>
      have M:mBn ks:=aEK;exact(3,q k v _ M.1 I J,D G _ M.2 p2 L)
   simpa using all l vs its aAO h2 z
theorem Il(ok:fZ)(e:Dv H k a):aBP.is h k a:=(AiZ ok 8 k _ _ e.2 e.1 rfl,e.2)
theorem Kk(ok:fZ)(e:uN aDx):kvs.length<=sizeLine/\ aAQ=false/\
 ∃xs,aB4 /\h.DictOfH aBP a xs:=by
 obtain⟨z,y,xs,r,o,es,ep,h1,h2,j,h4,n⟩:=(show zA aDx from UK ok e);refine(z,y,xs,r,o,71,h1,h2,j,h4,eA,n);have all:∀{l:bI}{m:aEL},KT H l m->∀x∈m,aBP.is h x.1 x.2.1:=by
  intro l m q
  induction q with
  |nil=>intro x hx;exact nomatch hx
  |@cons p q ps B hq t D=>
   intro x hx;rcases oG hx with e|hx
   .subst e;exact Il ok (tV hq.1 hq.2.1)
   exact pI D
 exact all r x hx
theorem Zn(ok:fZ)(e:H a=sM kvs):kvs.length<=sizeLine/\ aAQ=false/\
 ∃xs,aB4 /\h.DictOfH aBP a xs:=Kk ok (mG e)
end
def E8(H:Hp)(a:Addr)(y:V)(r:bQ):Prop:=
 (∃kvs k,uN jV /\y=kV k/\r=iU)\/∃kvs k b,uN aDx /\y= bU /\ aDw /\r=iU
def HF(H:Hp)(a:Addr)(y v:V)(H':Hp):Prop:=
 (∃kvs k,H a=qH kvs/\y=kV k/\kvs.length<sizeLine/\H'=oA a (.dK aAh))\/
 ∃kvs k b,H a=sM kvs/\y= bU /\ aDw /\kvs.length<sizeLine/\H'=oA a (.dT aAh)
theorem E8.k{H:Hp}{a:Addr}{kvs:hN}{k:C3}(e:H a=qH kvs):E8 H a (kV k) iU:= mG (kvs,k,mG e,26)
theorem E8.t{k:Ky}(e:H a=sM kvs)(j:aDw):E8 H a bU iU:= mI (kvs,k,b,mG e,2,j,2)
theorem HF.k{H:Hp}{a:Addr}{kvs:hN}{k:C3}{v:V}(e:H a=qH kvs)(j:kvs.length<sizeLine):HF H a (kV k) v (oA a (.dK aAh)):= mG (kvs,k,e,2,j,2)
theorem HF.t{k:Ky}(e:H a=sM kvs)(j:aDw)(q:kvs.length<sizeLine):
 HF H a bU v (oA a (.dT aAh)):= mI (kvs,k,b,e,2,j,q,2)
section
variable {X:Cx} {pins:bC} {σ:St} {H:Hp} {s:Shared} {a:Addr} {y v:V} {u r:Value} {o:bQ} {A:Around} {E:bN}
theorem Inv.Kl(j:aF):zB sysModules:=by exact Nat.lt_trans aZ ((j.mod.Jh.keeps j.bk).lt)
theorem ML(hu:kX):aBP.room A.in1:=by show A.units+1+8<cLine;omega
theorem Ai_(hu:kX)(j:aF)(g:E8 H a y bK)(n:nT y)(h:mJ9 H v):
 wpAny bO A (getItem aJ u) Q E s:=by
 rcases g with⟨kvs,k,e,B,l⟩|⟨kvs,k,b,e,B,D,l⟩
 .subst B;obtain⟨z,hd,vs,rel,dd⟩:=rG Jp;obtain⟨q,hw,G⟩:=EJ.Uq (v:=v) (o:=valueAt vs k) (by rw[l];exact jW);exact wpAny_getItem_of (MK n) dd.mapOf hw (h q _ fM G)
 subst B
 cases aDy
 obtain⟨z,hd,xs,rel,dd⟩:=rG Kk;obtain⟨q,hw,G⟩:=EJ.Uq (v:=v) (o:=aAi.map (·.2)) (by rw[l];exact jW);obtain⟨p,hp,I⟩:=Option.map_eq_some_iff.mp hw;refine wpAny_getItem_heap (ML hu) (Il j.Av D) dd hp ?_;rw[I];exact h q _ fM G
theorem Aja(hu:kX)(j:aF)(g:yD H)(n:nT y)(h:∀s',sZ H s'->Q (.bool (!o.isSome)) s'):
 wpAny bO A (compareOp .NotIn u aJ) Q E s:=by
 rcases g with⟨kvs,k,e,B,l⟩|⟨kvs,k,b,e,B,D,l⟩
 .subst B;obtain⟨z,hd,vs,rel,dd⟩:=rG Jp;refine wpAny_notIn_of (MK n) hd dd.mapOf ?_;rw[<- jW.UI,<-l];exact h _ fM
 subst B
 cases aDy
 obtain⟨z,hd,xs,rel,dd⟩:=rG Kk;refine wpAny_notIn_heap (ML hu) (Il j.Av D) hd dd ?_;have q:=jW.UI;rw[Option.isSome_map] at q;rw[<-q,<-l];exact h _ fM
theorem OS(j:aF)(n:JW (H a))(hs:zE a)(he:∃q,qC a=dE)(new:mEA a B):
 Inv X pins σ (oA a B) {s with heap:=h',toks:=t'}:=
 j.Ib (x:=a) (e:=a) n bA (λb q hb z=>(nN hs.2).trans z) he new
theorem Zo(z:qI kvs.length)(hd:pH aAQ)(rel:hO)(dd:h'.DictOf (GR P w) a vs):
 C9 P w H' h' a jV:=(z,hd,vs,rel,dd)
theorem Ajb(hu:kX)(j:aF)(g:HF H a y v H')(n:nT y)(B:AJ v r)(h:∀s',aAS ->Q () s'):
 wpAny bO A (setItem aJ u r) Q E s:=by
 rcases g with⟨kvs,k,e,D,l,G⟩|⟨kvs,k,b,e,D,I,l,G⟩
 .subst D G;obtain⟨z,hd,vs,rel,dd⟩:=rG AiY;have hz:qI vs.length:=(tV rel.length z);have J:qI aAh.length:=(mE7 kvs k v);refine wpAny_setItem_pairs (hsz:=hz) (MK n) dd λh' L hs=>h _ ?_;exact OS j (mBG e) hs (let(q,_,_,hq,_):=L;(q,hq)) (Zo J hd (rel.CA k B) L)
 subst D G
 cases aDy
 obtain⟨z,hd,xs,rel,dd⟩:=rG Zn;have hz:qI xs.length:=(by rw[<-xR rel];exact z);have J:qI aAh.length:=(mE7 kvs k v);refine wpAny_setItem_heap (hsz:=hz) (ML hu) (Il j.Av I) dd λh' L hs=>h _ ?_;obtain⟨q,es,ep,hq,h2,M,h4,_,N⟩:=L;refine OS j (mBG e) hs (q,hq) (J,hd,_,(rel.CA k I B).keeps λc ys O=>?_,q,71,hq,h2,M,h4,N);rw[Ah (mAJ O e)];exact O
end
section
variable {X:Cx} {pins:bC} {σ:St} {H:Hp} {s:Shared} {a:Addr} {kvs:hN} {k:C3} {u:Value} {A:Around} {E:bN}
theorem Ajc(j:aF)(e:uN jV)(h:∀t s',sZ H s'->Q (.int kvs.length t) s'):wpAny bO A (uR "len" cR) Q E s:=by obtain⟨z,hd,vs,rel,dd⟩:=rG Jp;refine call_len_dict hd dd (by rw[<-rel.length];rw[AuP] at z;omega) ?_;rw[<-rel.length];exact mC h fM
end
def Zp(i:Expr):Prop:=∀j iv,subscripted i false j iv=mHj j iv
theorem Ajd{T id:String}
 (j:aLV=pure (mB (tD id))) (hs:Zp slice)
 (h:xS bD (xZ value) (λo n=>xS bD (xZ slice) (λi q=>q.TypeIs o T/\xS bD (getItem o i) Q q) n) s):
 wpAny bD A (xZ (mBz value slice)) Q E s:=by
 refine Subscript_ (AtL h (λo n z=>AtL z (λi q B=>?_) λ_ _ x=>x) λ_ _ x=>x);obtain⟨D,B⟩:=B;refine cI;rw[getitemInPython_of_ne D.not_modules];refine pQ Au1 D j;have fin:wpAny bD A (subscripted slice false o i) (λr G=>xS bD (letTemporaryGo value o r >>= λ_=>pure r) Q G) E q:=by rw[hs o i];exact wpAny_operating (AtL B (λr G I=>yZ wpAny_letTemporaryGo I) λ_ _ x=>x)
 first
  |exact Asg (nF fin)
  |exact sU (nF fin)
  |exact nF fin
theorem Aje(j:aF)(g:yD H):s.TypeIs aJ "dict":=by
 rcases g with⟨kvs,k,e,_,_⟩|⟨kvs,k,b,e,_,_,_⟩
 .obtain⟨_,_,vs,_,dd⟩:=rG Jp;exact dd.typeIs
 obtain⟨_,_,xs,_,dd⟩:=rG Kk;exact dd.typeIs
def Zq(td ty:TE):TE:=λσ H Q=>td σ H λx H1=>ty σ H1 λy H2=>∃a v,x= aJ /\E8 H2 a y bK /\Q v H2
def Ajf(ty td:TE):TE:=λσ H Q=>ty σ H λy H1=>td σ H1 λx H2=>∃a o,x= aJ /\yD H2/\Q (.bl (!o.isSome)) H2
def Ajg(td ty tv:TE):TS:=λD σ H=>tv σ H λv H1=>td σ H1 λx H2=>ty σ H2 λy j=>∃a n,x= aJ /\HF j a y v n/\tW n
section
variable {X:Cx} {o i e value:Expr} {pos pos' tpos:Pos} {td ty tv:TE}
theorem Lr(hu:kZ)(j:nR o td)(hi:nR i ty)(hs:Zp i):PE X (mBz o i) (Zq td ty):=by intro pins s σ H Q n h;refine Ajd PySem.F.slot_dict_getitem.lookup hs (A5 aDg λu s1 (x,H1,q,z,B)=>A5 (sI hi q B) λiv s2 (y,H2,D,G,a,v,ex,g,I)=>?_);subst ex;obtain rfl:uQ a:=z;exact(Aje D g,Ai_ hu D g G λJ s3 L M=>(v,H2,L,M,I))
theorem Zr(hu:kZ)(hi:nR i ty)(j:nR o td):PC X .NotIn i o (Ajf ty td):=by intro pins s σ H Q n h;refine A5 (oT hi n) λiv s1 (y,H1,q,z,B)=>A5 (sI j q B) λu s2 (x,H2,D,G,a,I,ex,g,J)=>?_;subst ex;obtain rfl:uQ a:=G;exact Aja hu D g z λs3 L=>(.bl (!I.isSome),H2,L,2,J)
theorem Ls(hu:kZ)(j:nR o td)(hi:nR i ty)(n:nR value tv)(hs:mG0 value (.Subscript o i pos')):
 PS X (.Assign [.Subscript o i pos'] value pos) (Ajg td ty tv):=by
 intro pins s σ H D q h;refine wpAny_Assign_Subscript (A5 (oT n q) λr s1 (v,H1,z,B,G)=>A5 (sI j z G) λu s2 (x,H2,I,J,L)=>A5 (mHh hi I) λiv s3 (y,aa,M,N,a,O,ex,g,U)=>?_) hs;subst ex;obtain rfl:uQ a:=J;exact Ajb hu M g N B λs4 Y=>(σ,O,Y,U)
end
theorem Ajh(h:Heap)(hb:mEs sysModules):C9 P w H (mDh h.push) h.objs.size hX:=
 (110,Heap.DictOf.new h)
theorem Zs(h:Heap)(hb:mEs sysModules):C9 P w H (mDh h.push) h.objs.size hY:=
 (110,_,#[],64,cQ,(26,2),26,Auw)
def Aji:TE:=λ_ H Q=>∀p,H p=none->mBI H hX
def Ajj:TE:=λ_ H Q=>∀p,H p=none->mBI H hY
section
variable {X:Cx} {pos:Pos}
theorem OT:PE X (.Dict [] [] pos) Aji:=λpins s σ H Q j h=>
 mKa hX Ajh
theorem OU:PE X (.Dict [] [] pos) Ajj:=λpins s σ H Q j h=>
 mKa hY Zs
end
structure M1(X:Cx)(o:Expr)(m:Str)(apos:Pos)(e:Expr)(cpos:Pos):Prop where
 base:aMb=eval o X.env
 AA:((mAG [e]).all aE8&&(mBM cpos).all aE9
  &&decide (([e]:hQ).length+([]:aDr).length+aFa<30))=true
 line:aMc=true
 Rl:mAG [e]=[(false,pE e,)]
structure M2(X:Cx)(o:Expr)(m:Str)(apos:Pos)(e f:Expr)(cpos:Pos):Prop where
 base:aMb=eval o X.env
 AA:((mAG [e,f]).all aE8&&(mBM cpos).all aE9
  &&decide (([e,f]:hQ).length+([]:aDr).length+aFa<30))=true
 line:aMc=true
 Rl:mAG [e,f]=[(false,pE e,),(false,pE f,)]
def Rm(H:Hp)(a:Addr):Prop:=(∃kvs,uN jV)\/∃kvs,uN aDx
theorem UL(j:aF)(d:Rm H a):
 s.TypeIs aJ "dict"/\(∀b,rQ a= bU ->∃n,oB b=mB n/\n.dict=none)/\ aAQ=false:=by
 rcases d with⟨kvs,e⟩|⟨kvs,e⟩
 .obtain⟨_,hd,vs,_,dd⟩:=rG Jp;refine aMd
  cases q
  obtain⟨n,_,_,h1,h2,_⟩:=dd;exact(mQ n h1 h2.2.1)
 obtain⟨_,hd,xs,_,dd⟩:=rG Kk;refine aMd
 cases q
 obtain⟨n,_,_,h1,h2,_⟩:=dd;exact(mQ n h1 h2.2.1)
section
variable {X:Cx} {pins:bC} {σ:St} {H:Hp} {s:Shared} {a:Addr} {y d:V} {u r:Value} {o:bQ} {A:Around} {E:bN}
theorem Ajk(hu:kX)(j:aF)(g:yD H)(n:nT y)(h:mJ9 H (o.getD .Ax)):
 wpAny bO A (uR "dict.get" [aJ,u]) Q E s:=by
 rcases g with⟨kvs,k,e,B,l⟩|⟨kvs,k,b,e,B,D,l⟩
 .subst B;obtain⟨z,hd,vs,rel,dd⟩:=rG Jp;refine mE8 aMe (meets_dict_get aDi a (MK n) hd) aMf;rw[l];exact jW.getD rfl
 subst B
 cases aDy
 obtain⟨z,hd,xs,rel,dd⟩:=rG Kk;refine mE8 aMe (meetsH_dict_get (mDl HZ) a b hd) (mKb D);rw[l];exact jW.getD rfl
theorem Ajl(hu:kX)(j:aF)(g:yD H)(n:nT y)(q:AJ d r)(h:∀B s',sZ H s'->AJ (o.getD d) B->Q B s'):
 wpAny bO A (uR "dict.get" [aJ,u,r]) Q E s:=by
 rcases g with⟨kvs,k,e,D,l⟩|⟨kvs,k,b,e,D,G,l⟩
 .subst D;obtain⟨z,hd,vs,rel,dd⟩:=rG Jp;refine mE8 aMg (meets_dict_get_default aDi a (MK n) hd r) aMf;rw[l];exact jW.getD q
 subst D
 cases aDy
 obtain⟨z,hd,xs,rel,dd⟩:=rG Kk;refine mE8 aMg (meetsH_dict_get_default (mDl HZ) a b hd r) (mKb G);rw[l];exact jW.getD q
end
def Ajm(td ty:TE):TE:=λσ H Q=>td σ H λx H1=>∃a,x= aJ /\Rm H1 a/\ty σ H1 λy H2=>∃o,yD H2/\Q (o.getD .Ax) H2
def Zt(td ty tx:TE):TE:=λσ H Q=>td σ H λx H1=>∃a,x= aJ /\Rm H1 a/\ty σ H1 λy H2=>tx σ H2 λz j=>∃o,yD j/\Q (o.getD z) j
section
variable {X:Cx} {o e f:Expr} {apos cpos:Pos} {td ty tx:TE}
theorem Ajn(hu:kZ)(j:nR o td)(he:nR e ty)(m:M1 X o "get" apos e cpos):PE X (mKc [e]) (Ajm td ty):=by intro pins s σ H Q n h;refine mKd (A5 aDg λu s1 (x,H1,q,z,a,ex,d,B)=>?_);subst ex;obtain rfl:uQ a:=z;obtain⟨t1,D,_⟩:=UL q d;refine(rR t1 D);rw[m.Rl];refine Ato rfl (Auv (At7 (A5 (sI he q B) λiv s2 (y,H2,G,I,J,g,L)=>Aua ?_)));exact Ajk hu G g I λM s3 N O=>(_,H2,N,O,L)
theorem Zu(hu:kZ)(j:nR o td)(he:nR e ty)(hf:nR f tx)(m:M2 X o "get" apos e f cpos):PE X (mKc [e,f]) (Zt td ty tx):=by
 intro pins s σ H Q n h;refine mKd (A5 aDg λu s1 (x,H1,q,B,a,ex,d,D)=>?_);subst ex;obtain rfl:uQ a:=B;obtain⟨t1,G,_⟩:=UL q d;refine(rR t1 G);rw[m.Rl];refine Ato rfl (Auv (At7 (A5 (sI he q D) λiv s2 (y,H2,I,J,L)=>
  At7 (A5 (mHh hf I) λaa s3 (z,M,N,O,ab,g,U)=>Aua ?_))))
 exact Ajl hu N g J O λac s4 Y ae=>(_,M,Y,ae,U)
end
end L2
namespace L2
open PySem PySem.Spec PyProof.Rows
theorem Ajo:mBV "reversed":=by decide+kernel
section
variable {X:Cx} {pins:bC} {σ:St} {H:Hp} {s:Shared} {h':Heap}
theorem Inv.Zv{ch:aQ}(j:aF)(k:aMh)(hf:∀b∈ch,aBT):mBu H:=by
 have B:aMi:=λb u e z=>by have q:=(hf b z).1;rw[q] at e;cases e
 refine j.step (g':=s.gens) (d':=s.drawn) (ch:=ch) (mAB aMj) (mGW hc) (mGX hc)
  (λ_ _ _ _ n=>n) aMk aES (λ_ _ _ e=>e) aK8 aHI aHJ j.DM
 .obtain⟨o,es,ep,I,r⟩:=hm;exact(mKe I)
 refine aHK.Ia aHL aEM λ_ _ q=>q;rcases hc with z|z
 .rw[z];exact B b u e
 exact B c _ z
theorem Inv.OV{ch:aQ}(j:aF)(k:aMh)(hf:∀b∈ch,aBT)(B:mEw T)
 (new:mEA T I):mBu (oA T I):=by
 have J:=j.Av.BC B;have L:aMi:=λb u e z=>by have q:=(hf b z).1;rw[q] at e;cases e
 refine j.step (g':=s.gens) (d':=s.drawn) (ch:=ch) (mAB aMj) (mGW hc) (mGX hc)
  (λb o _ e n=>?_) aMk (λb xs e=>?_) (λb o u e=>?_) (λb ps e=>(oS #[])) aHI aHJ j.DM
 .rw[Ah (mCQ e B)];exact n
 .rw[oF J];exact e
 .rw[oF J];exact e
 .rw[oF J,e];simp
 .obtain⟨o,es,ep,M,r⟩:=hm;exact(mKe M)
 by_cases hb:b=T
 .subst hb;rw[Af] at e
  cases e
  exact new
 rw[gX] at e;refine aHK.Ia aHL (λc q=>by rw[mAv J];exact q) λc xs q=>(by rw[mAv J];exact q);rcases hc with z|z
 .rw[z];exact L b u e
 exact L c _ z
theorem Inv.Ajp(j:aF)(h:H d=aM)(B:JW aM):∃od,Inv X pins σ aIp s:=by
 have x:=j.Av d u h;have ex:∃od,oB d=some od:=by
  cases u with
  |Ac xs=>obtain⟨_,_,_,_,e⟩:=x;exact(pX e)
  |dK kvs=>obtain⟨_,_,_,_,o,_,_,e,_⟩:=x;exact(o,e)
  |dT kvs=>obtain⟨_,_,_,_,o,_,_,e,_⟩:=x;exact(o,e)
  |set S n=>obtain⟨o,_,_,_,e,_⟩:=x;exact(o,e)
  |Ag C dx fs=>obtain⟨_,_,_,e,_⟩:=x;exact(pX e)
  |ext I=>obtain⟨_,⟨_,e⟩,_⟩:=x;exact(pX e)
  |_=>exact sY B
 obtain⟨od,e⟩:=ex;have new:C9 X.prog X.w aIp s.heap d (.Bw od u):=by
  refine(e,x.Ia (λb v _ q=>q) (λb q=>?_) λb xs q=>?_)
  .rw[aMl];exact q
  rw[aMl];exact q
 exact(od,j.Ib (x:=d) (e:=d) (t':=s.toks) (h':=s.heap) (oL h B) bA (λb v _ q=>q) (od,e) new)
theorem Inv.Rn(j:aF)(h:H d=aM)(z:JW aM):∀o' u',X.Le d≠some (.Bw o' u'):=λo' u' e=>by
 have q:=j.base.F1 d o' u' e;rw[h] at q
 cases q
 exact z
theorem Inv.Ro(j:aF)(h:H d=qW od u)(B:∀o' u',X.Le d≠qW o' u'):Inv X pins σ (oA d u) s:=by
 have I:∀b o,H b=aI ->(∀o' u',o≠ .Bw o' u')->b≠d:=λb o e J z=>by
  rw[z,h] at e
  cases e
  exact mC J rfl
 have neN:mEt d:=λb e z=>(mBv z h);refine(j.ok,j.os,j.DM,(j.base.keep,j.base.slot,233,j.base.there,λb xs e=>?_,λb o x e=>?_,λb ps e=>?_),j.EX,j.cell,138,gY,179,j.len)
 .rw[Ah (neN b aC9)];exact aC9
 .have q:=j.base.Gk b xs e;rw[mBW b];exact q
 .have q:=j.base.F1 b o x e;rw[Ah (λz=>by rw[z] at e;exact mC B e)];exact q
 .obtain⟨m,q⟩:=j.base.Gm b ps e;exact(m,by rw[mBW b];exact q)
 .rw[Ah (neN _ j.free)];exact j.free
 .rw[Ah (neN c aER)];exact aER
 .obtain⟨e,n,r⟩:=j.FH p hp;exact(e,by rw[Ah (neN _ n)];exact n,r)
 by_cases hb:b=d
 .rw[hb,Af] at e
  cases e
  rw[hb];obtain⟨_,x⟩:=j.Av d _ h;exact x.Ia (λc v _ q=>q) (λc q=>by rw[mBW c];exact q) λc xs q=>(wR mBW c q)
 rw[gX] at e;exact(qD j.Av).Ia (λc v _ q=>q) (λc q=>by rw[mBW c];exact q) λc xs q=>(wR mBW c q)
end
def Zw(t:TS):TS:=λD σ H=>∃d u,H d=aM /\JW aM /\∀od,t (mHs D.nx,λv H'=>H' d=qW od u/\D.rt v (Aa H' d u),mHs D.bk,mHs D.ct) σ aIp
section
variable {X:Cx}
theorem Rp{st:Stmt}(h:PS X st t):PS X st (Zw t):=by
 intro pins s σ H D j hw;obtain⟨d,u,hd,n,hw⟩:=hw;obtain⟨od,z⟩:=j.Ajp hd n;refine A5 (h pins s σ _ _ z (hw od)) λf s1 q=>?_
 cases f with
 |next=>obtain⟨B,H',G,e,q⟩:=q;exact aIq
 |brk=>obtain⟨B,H',G,e,q⟩:=q;exact aIq
 |cont=>obtain⟨B,H',G,e,q⟩:=q;exact aIq
 |ret v=>obtain⟨x,B,H',G,r,e,q⟩:=q;exact(x,154,r,q)
theorem Lu(j:aF)(o:Obj)
 (T:F3 X.prog X.w X.K tg J [s.heap.objs.size] s.heap.objs.size n) (st:n 0 (s.heap.push o)) (q:R J H):Ug X pins σ tg R eO {s with heap:=s.heap.push o,toks:=tk}:=by
 refine(s.heap.objs.size,[s.heap.objs.size],n,J,H,2,j.CF λb z e=>oD e,T,st,fK,q);have e:mHm b:=cH;subst e;exact j.Hx aD aA2
end
def OW(lo c:Int)(n:Nat):It:=(mJM aIr)
theorem Ajq{K:PySem.W.Frag}(it:Addr)(lo c:Int)(n:Nat):F3 P w K tg aFg [it] it (mJN c) where
 mem:=by simp
 obj:=λi h st b hb=>by have e:b=it:=cH;subst e;exact(_,st,λv z=>nomatch z)
 keep:=λi h h' st k=>k it aC _ st
 item:=by intro X j hw q hc i pins s σ H E B hf st hg;subst j hw q;obtain⟨f0,f1,f2,D,f4,G⟩:=eC;refine(mJO c).item i s _ _ hg st λv h' tk I J L=>?_;obtain⟨t,rfl⟩:=I;exact(0,mJP (mE aIr,H,aLn,aA4,aAd,J,aAc))
 done:=by intro X j hw q hc i pins s σ H E B hf st hg;subst j hw q;obtain⟨f0,f1,f2,D,f4,G⟩:=eC;exact wpAny_pyNext_range_end aDf st (by have:n<=i:=hg;omega) λh' M=>aLo
 self:=λA i s Q E st h=>aLp
def Rq(i j c:Int)(n:Nat):Prop:=c≠0/\c.natAbs<1073741824/\Builtin.Range.small i j c=true/\Builtin.Range.rangeSize i j c=n
theorem Rq.neg(ha:-aAV <=i)(q:i<2 ^ 62)(hb:-aAV <=j)(z:j<2 ^ 62):Rq i j (-1) (i - j).toNat:=
 (21,21,PySem.W.small_down ha q hb z,PySem.W.rangeSize_downNat i j)
def Ajr(ta:TA):TI:=λσ H R=>ta σ H λvs H1=>∃(i j c:Int)(n:Nat),vs=[eV,mE j,mE c]/\Rq i j c n/\R (OW i c n) H1
section
variable {X:Cx} {tg:Expr}
theorem Ajs(hg:Gl X "range")(hm:mAt sX)(ha:PA X [a,b,c] ta)
 (hs:mAA [a,b,c]=(false,pE a,)::starEach [b,c] X.env:=by rfl) (z:(yA [b,c]).any (·.1)=false:=by rfl):
 PI X tg (wN "range" [a,b,c]) (Ajr ta):=by
 intro pins s σ H R B h;refine AuA (xV B boot_range (mKf H z));obtain⟨i,j,k,n,e,⟨c0,c1,J,L⟩,q⟩:=I;subst e
 cases G with
 |cons r M=>
  cases M with
  |cons N M=>
   cases M with
   |cons O M=>
    cases M
    obtain⟨t,rfl⟩:=r;obtain⟨t',rfl⟩:=N;obtain⟨aa,rfl⟩:=O;refine call_range_3 c0 ?_ (mG (PyProof.noPylong_small c1));refine mJR J;refine mAK (mHt D.CF) (Ajq _ i k n) ?_;have U:i+((0:Nat):Int)*k=i:=aC;have Y:(n:Int) - ((0:Nat):Int)=Builtin.Range.rangeSize i j k:=(pP L);rw[U,Y];exact cQ
end
theorem Ajt{lo c:Int}{g:TG}{tb:TS}{D:Hv}(Pv:aBS)(h0:vJ 0)
 (hs:∀i σ H,i<n->vJ i->g (mE aIr) σ H λj H2=>tb {D with nx:=aAe,ct:=aAe,bk:=D.nx} j H2) (hd:mC4 n):
 ∃W:aBV,(mBB H)/\∀i m σ H,aBW ->
  (aFg.stop i H/\tW H)\/(aFg.go i H/\∃N:gB,aLt /\∀x H',aFg.Fg i H x H'->g x σ H' λj H2=>tb {D with nx:=N,ct:=N,bk:=D.nx} j H2):=by
 refine(mC5 n);rintro i m σ H ⟨rfl,hi,p⟩;by_cases B:i<n
 .refine aLu;obtain⟨e,y⟩:=y;subst e y;exact hs i σ _ B p
 have e:i=n:=aA;subst e;exact mG (aD,hd σ H p)
def Rr(K:PySem.W.Frag)(a:Addr)(n:Nat):It:=
 (λi H=>i<n/\∃(xs:aL)(x:V),eW /\xs[n - 1 - i]? =aW,λi H x H'=>H'=H/\∀xs,eW ->xs[n - 1 - i]? =aW,λi _=>n<=i)
theorem Aju{K:PySem.W.Frag}(a it:Addr)(n:Nat):F3 P w K tg (Rr K a n) [it] it (λi h=>i<=n/\h.IsRevIter it a ((n:Int) - 1 - (i:Nat))) where
 mem:=by simp
 obj:=λi h st b hb=>by have e:b=it:=cH;subst e;obtain⟨_,o,e,c,d⟩:=st;exact(mCZ o d)
 keep:=λi h h' st k=>(st.1,mHu k it)
 item:=by intro X j hw q hc i pins s σ H E B hf st hg;subst j hw q;obtain⟨D,xs,x,hq,hx⟩:=hg;obtain⟨its,G,p,hz⟩:=B.list hq;obtain⟨u,hu,I⟩:=G.get hx;obtain⟨f0,f1,f2,J,f4,L⟩:=eC;obtain⟨_,hit⟩:=st;have M:(n:Int) - 1 - ((i:Nat):Int)=((n - 1 - i:Nat):Int):=aA;rw[M] at hit;refine wpAny_pyNext_rev_item hit p.isList (x:=u) aBU λh' N O=>?_;have U:((n - 1 - i:Nat):Int) - 1=(n:Int) - 1 - ((i+1:Nat):Int):=aA;rw[U] at N;obtain⟨o,e,c,d⟩:=id N;exact(u,2,mC0 d (x,H,mKg (mC1 O.2),I,(mG3 B.M6),(D,N),aAc))
 done:=by intro X j hw q hc i pins s σ H E B hf st hg;subst j hw q;obtain⟨f0,f1,f2,J,f4,L⟩:=eC;obtain⟨D,hit⟩:=st;have hge:n<=i:=hg;have M:(n:Int) - 1 - ((i:Nat):Int)= -1:=aA;rw[M] at hit;exact wpAny_pyNext_rev_end aDf hit λh' Y=>(2,mKg (mDm Y hb))
 self:=λA i s Q E st h=>wpAny_pyIter_revIter st.2 h
def Ajv(K:PySem.W.Frag)(ta:TA):TI:=λσ H R=>ta σ H λvs H1=>∃(a:Addr)(xs:aL),vs=cR /\xX H1 a/\R (Rr K a xs.length) H1
section
variable {X:Cx} {tg:Expr}
theorem Zx(hg:Gl X "reversed")(hm:sX "reversed")(ha:PA X [e] ta)(hs:xU e:=by rfl):PI X tg (wN "reversed" [e]) (Ajv X.K ta):=by
 intro pins s σ H R j h;refine AuA (xV j Ajo (mC2 (A5 (xW H j) λus s1 (vs,H1,n,z,B)=>?_)));obtain⟨a,xs,e,hq,q⟩:=B;subst e
 cases z with
 |cons r D=>
  cases D
  cases r
  obtain⟨its,G,I,hz⟩:=n.list hq;have J:=G.length;have L:((its.toArray.size:Nat):Int) - 1=(xs.length:Int) - 1 - ((0:Nat):Int):=dR;refine call_reversed_list I.isList (wpAny_pyIter_revIter (l:=a) (i:=((its.toArray.size:Nat):Int) - 1) iS ?_);refine mAK n (Aju a _ xs.length) (aT,5);rw[<-L];exact iS
end
def Zy(x:Str):It:=(180,λi H v H'=>H'=H/\∃c,x.cps[i]? =bT /\v= vU c,168)
theorem Zz{K:PySem.W.Frag}(it:Addr)(x:Str)(t:Tok)(ty:String)(j:aMm):
 F3 P w K tg (Zy x) [it] it aFh where
 mem:=by simp
 obj:=λi h st b hb=>by have e:b=it:=cH;subst e;obtain⟨o,e,c,d⟩:=st;exact(mCZ o d)
 keep:=λi h h' st k=>let(o,n,r):=st;(o,k it aC o n,r)
 item:=by
  intro X q hw B hc i pins s σ H E D hf st hg;subst q hw B;obtain⟨f0,f1,f2,G,f4,I⟩:=eC;have W:Walks X.prog X.w X.A it [it] [it] x.cps.size (SignAt x) aFh:=by
   rcases j with e|e
   .rw[e];exact Walks.strAscii aDz it x t
   rw[e];exact Walks.strWide aDz it x t
  have J:mJL ty:=by
   rcases j with e|e
   .rw[e];decide
   rw[e];decide
  refine W.item i s _ _ hg st λv h' tk L M N=>?_;obtain⟨c,u,O,rfl⟩:=L;obtain⟨aa,e,U,dd⟩:=id M;exact(0,Kc (s:={s with heap:=h',toks:=tk}) e U dd J (vU c,H,D.DN (mDm N cH) f0 f1 G f4 I,(u,2),(2,c,O,2),M,aAc))
 done:=by
  intro X q hw B hc i pins s σ H E D hf st hg;subst q hw B;obtain⟨f0,f1,f2,G,f4,I⟩:=eC;have hx:=mHv hg;rcases j with e|e
  .rw[e] at st;exact wpAny_pyNext_ascii_end aDz st hx λh' Y=>(mEH D.DN Y)
  rw[e] at st;exact wpAny_pyNext_wide_end aDz st hx λh' Y=>(mEH D.DN Y)
 self:=λA i s Q E st h=>by
  rcases j with e|e
  .rw[e] at st;exact wpAny_pyIter_striter_ascii st h
  rw[e] at st;exact wpAny_pyIter_striter_wide st h
def Ajw(te:TE):TI:=λσ H R=>te σ H λv H1=>∃x,v= dA /\R (Zy x) H1
theorem Ajx(he:hA):PI X tg e (Ajw te):=by
 intro pins s σ H R j h;refine A5 aBR λv s1 (y,H1,n,z,x,ex,q)=>?_;subst ex;obtain⟨t,rfl⟩:=z
 cases ha:x.cps.all (·<128)
 .exact wpAny_pyIter_wide ha (mAK n (Zz _ x t "str_iterator" eB) iS)
 exact wpAny_pyIter_ascii ha (mAK n (Zz _ x t "str_ascii_iterator" bA) iS)
section
variable {prog:Program} {w:World} {A:Around} {E:bN} {s:Shared}
theorem Z0(hd:pH (mAC d))(j:oB d=aI)(hc:o.ExactDict)(n:aFi)
 (q:mKh "dict_keyiterator"):
 wpAny bD A (pyIter dG) Q E s:=by
 have z:s.TypeIs dG "dict":=(mQ o j hc.1);refine wpAny_pyIter_slot z F.slot_dict_iter (Atf F.slot_dict_iter z F.entry_dict_iter ?_ (F.args_dict_iter_1 _));refine cI;refine wK Avq z;refine cN;show aMn;unfold Builtin.Dict.showsAll;rw[yY hd];refine nF cN;refine pQ Aur j n;refine pQ AuW j n;refine yZ As_ (0,"dict_keyiterator",_,(rE cQ),AuE.lookup,5);simpa[rawInt] using q
theorem Ajy(j:kY)(hit:s.heap.IsKeyIter it d i n ep)(q:oB d=mB od)(z:od.data= lX)
 (hsz:es.size=n) (hge:n<=i) (B:aMo):wpAny bD A aDe Q E s:=by
 obtain⟨o,D,hc,hd⟩:=id hit;refine ArZ (AuN (Atu (name:=zJ "__next__") hit.typeIs AuE
  (Atf AuE hit.typeIs F.entry_dict_keyiterator_next ?_ (F.args_dict_keyiterator_next_1 _))))
 refine nF cN;refine cI;refine cI
 first|refine aMp|refine aMq
 refine mHw D;have G:qP Builtin.Dict_items.ownsTuple "dict_keyiterator":=aZ;simp only[G,Bool.false_eq_true,if_false];show mDn d s;rw[mM (show¬(oZ (rQ d==Value.none)) from Ast)];refine nF cN;refine pQ Aur q z;rw[mM (pP hsz)];refine nF cN;refine pQ AuW q z;rw[jT];refine cN;simp only[show¬((i:Int)<0) from by omega,if_false,Int.toNat_natCast,mHv (oL hsz hge)];refine cI
 first|refine aMp|refine aMq
 show aMr;refine mE9 D;refine cI;simp only[newExc,newTuple];refine mAE mBX;refine aMs;refine mBX ?_;simp only[raiseNew];refine aIs;rw[show A.in1.handled=none from j];refine sU (wpAny_throw ?_);refine wK mFa (rE cQ);exact Asg (B _ aIt)
end
theorem Ajz{kvs:fG}{vs:uM κ Value}(h:hO):∀{i:Nat}{k:κ}{v:V},kvs[i]? =mB (k,v,)->∃u,vs[i]? =vW k/\AJ v u:=by
 induction h with
 |nil=>intro i k v e;simp at e
 |@cons a b n q r t z=>
  intro i k v e
  cases i with
  |zero=>
   simp at e;subst e;refine(b.2,5,r.2);simp only[List.getElem?_cons_zero];exact AtB some (Prod.ext r.1.symm rfl)
  |succ j=>
   simp at e⊢;exact z e
theorem Z1{G:mAx α β}{n:cM}{q:mZ β}(h:Paired G n q):∀{i:Nat}{a:α},n[i]? =mB a->∃b,q[i]? =mB b/\G a b:=by
 induction h with
 |nil=>intro i a e;simp at e
 |@cons a b n q r t z=>
  intro i B e
  cases i with
  |zero=>
   simp at e;subst e;exact(mQ b rfl r)
  |succ j=>
   simp at e⊢;exact z e
theorem Aj0(h:JU k u=true):AJ (kV k) u:=by
 rcases H_ h with⟨i,t,rfl,rfl⟩|⟨x,t,rfl,rfl⟩
 .exact aA4
 exact aA4
section
variable {X:Cx} {pins:bC} {σ:St} {H:Hp} {s:Shared} {d:Addr} {o:Obj}
theorem Inv.Rs(j:aF)(h:H d=qW o jV):
 (d==sysModules)=false/\oB d=aI /\o.ExactDict/\∃(es:aB5)(ep:Nat)(vs:uM C3 Value),o.data= lX /\es.size=kvs.length/\ hO /\s.heap.DictAt aDi d vs ep:=by
 obtain⟨hd,z,hs,vs,q,o',es,ep,B,hx,I,r⟩:=j.Av d _ h;rw[hd] at B
 cases B
 refine(hs,hd,hx,71,vs,I,5,q,o,es,hd,hx,I,r);have J:=r.2.1.length;have L:=xR q;rw[Aug] at J;omega
end
def Lv(d:Addr)(o:Obj)(kvs:hN):It:=
 (λi H=>H d=qW o jV /\i<kvs.length,λi H x H'=>H'=H/\∃k v,kvs[i]? =mB (k,v,)/\x=kV k,λi H=>H d=qW o jV /\kvs.length<=i)
theorem Rt{o:Obj}(h:aFi)(h':o.data= .dict j n):j=es/\n=ep:=by
 rw[h] at h'
 cases h'
 exact aAd
section
variable {P:Program} {w:World} {K:PySem.W.Frag} {tg:Expr} {d:Addr} {o:Obj} {es:aB5} {ep:Nat}
theorem Z2(it:Addr)(j:aFi):F3 P w K tg (Lv d o kvs) [it] it (λi h=>h.IsKeyIter it d i kvs.length ep) where
 mem:=by simp
 obj:=λi h st b hb=>by have e:b=it:=cH;subst e;obtain⟨n,e,c,dd⟩:=st;exact(mCZ n dd)
 keep:=λi h h' st k=>st.at λn e=>k it aC n e
 item:=by intro X q hw B hc i pins s σ H E D hf st hg;subst q hw B;obtain⟨hd,hi⟩:=hg;obtain⟨f0,f1,f2,G,f4,I⟩:=eC;obtain⟨hs,J,hx,aa,ab,vs,L,hsz,M,hm⟩:=D.Rs hd;obtain⟨rfl,rfl⟩:=Rt j L;obtain⟨⟨k,v⟩,N⟩:∃p,kvs[i]? =some p:=(kvs[i],mK hi);obtain⟨u,hu,ac⟩:=Ajz M N;have O:=xR M;rw[O] at st;refine wpAny_pyNext_dict_item st hm hu λkey h' ae U af=>?_;obtain⟨n,e,c,dd⟩:=id U;refine(key,2,mC0 dd (kV k,H,mEG D.DN (λb Y hb e=>(nN af.2).trans e),Aj0 (show JU k key=true from ae),(2,k,v,N,2),5,aAc));rw[O];exact U
 done:=by intro X q hw B hc i pins s σ H E D hf st hg;subst q hw B;obtain⟨hd,hi⟩:=hg;obtain⟨f0,f1,f2,G,f4,I⟩:=eC;obtain⟨hs,J,hx,aa,ab,vs,L,hsz,M,hm⟩:=D.Rs hd;obtain⟨rfl,rfl⟩:=Rt j L;exact Ajy aDz st J L hsz hi λh' ag=>(2,D.DN (t':=s.toks) (λb Y hb e=>ag b Y hb e) f0 f1 G f4 I)
 self:=λA i s Q E st h=>wpAny_pyIter_keyiter st h
end
def Aj1(td:TE):TI:=λσ H R=>td σ H λx H1=>∃d o kvs,x= dG /\H1 d=qW o jV /\R (Lv d o kvs) H1
section
variable {X:Cx} {tg e:Expr} {td:TE} {apos cpos:Pos}
theorem Aj2(he:nR e td):PI X tg e (Aj1 td):=by intro pins s σ H R j h;refine A5 aBR λu s1 (x,H1,n,z,d,o,kvs,ex,hd,q)=>?_;subst ex;obtain rfl:uQ d:=z;obtain⟨hs,B,hx,es,ep,vs,D,hsz,G,hm⟩:=n.Rs hd;refine Z0 hs B hx D (mAK n (Z2 _ D) (_,cQ,2,5));rw[hsz]<;>rfl
end
def MM(K:PySem.W.Frag)(a:Addr):It:=
 (λi H=>∃(xs:aL)(x:V),eW /\xs[i]? =aW,λi H v H'=>∃T x,v= mF T/\H T=none/\H'=mDo [aB6,x]/\∀xs,eW ->xs[i]? =aW,λi H=>∃xs:aL,eW /\xs.length<=i)
theorem Aj3{K:PySem.W.Frag}(a e it:Addr):
 F3 P w K aIu (MM K a) [e,it] e (λi h=>aIv /\mBA it a/\e≠it) where
 mem:=by simp
 obj:=λi h st b hb=>by
  obtain⟨⟨BM,he⟩,⟨o,j,hc,hd⟩,_⟩:=st;have e':aFj:=cH;rcases e' with z|z
  .rw[z];exact(mDp he)
  rw[z];exact(mFb o j hd)
 keep:=λi h h' st k=>let((BM,he),hi,n):=st;(aIw,mBY hi.at it,n)
 item:=by
  intro X B hw D hc i pins s σ H E G hf st hg;subst B hw D;obtain⟨⟨BM,he⟩,hit,n⟩:=st;obtain⟨xs,x,hq,hx⟩:=hg;obtain⟨its,I,p,hz⟩:=G.list hq;obtain⟨u,hu,J⟩:=I.get hx;have L:=Asu he;refine wpAny_pyNext_enum_item he hit p.isList (x:=u) aBU n λh' j M N hsz hk=>?_;refine(0,AuO (s:={s with heap:=h',toks:=s.toks+1}) j λO U Y=>?_);have new:C9 X.prog X.w aIx O s.heap.objs.size (.Al [aB6,x]):=
   (20,[mEJ i,u],sF bY (wO J),(mHx Y.2 L N))
  have ab:mKi O s.toks:=
   G.OV (ch:=[e,it]) (λb ac hb q=>(Y.2 b iV).trans (hk b ac iV iV q)) hf aD new
  refine(eO,_,ab,2,(mKj G.Av.BC G.M6),((oS u),M.at λo q=>(Y.2 it (Asr n)).trans q,n),fK)
  .have ae:aMt:=aA;rw[ae];exact U
  have af:zB b:=by
   have e':aFj:=cH;rcases e' with z|z
   .rw[z];exact L
   rw[z];exact(by obtain⟨_,q,_⟩:=hit;exact Asu q)
  rw[Ah (AsP af)];exact(nN hf).1
 done:=by intro X B hw D hc i pins s σ H E G hf st hg;subst B hw D;obtain⟨⟨BM,he⟩,hit,n⟩:=st;obtain⟨xs,hq,hx⟩:=hg;obtain⟨its,I,p,hz⟩:=G.list hq;obtain⟨f0,f1,f2,ag,f4,ah⟩:=eC;have ai:=I.length;exact wpAny_pyNext_enum_end (G.ok.hd hc) he hit p.isList dR λh' aj=>(2,G.DN (t':=s.toks) (mHy aj) f0 f1 ag f4 ah)
 self:=λA i s Q E st h=>let((_,he),_):=st;Aus he h
def Aj4(K:PySem.W.Frag)(ta:TA):TI:=λσ H R=>ta σ H λvs H1=>∃a xs,vs=cR /\xX H1 a/\mAz MM
theorem Ru(hg:aIy)(hm:zM sX)(ha:PA X [e] ta)(hs:xU e:=by rfl):
 PI X (yE j tpos) aIz (Aj4 X.K ta):=by
 intro pins s σ H R n h;refine AuA (xV n Avf (mC2 (mJS H n)));obtain⟨a,xs,ex,hq,q⟩:=G;subst ex
 cases D with
 |cons r I=>
  cases I
  cases r
  obtain⟨its,J,L,hz⟩:=B.list hq;refine call_enumerate_list L.isList λh' he hit hsz hk=>Aus he ?_;refine(103,mDq B.CF,Aj3 a (tF 1) s1.heap.objs.size,aMu,fK,q);have hle:mDr b:=by
   rcases cH with z|z
   .rw[z];exact aAj
   rw[z];exact aD
  exact B.Hx hle (B.Av.BC hle)
theorem Z3:mBV "zip":=by decide+kernel
def Lw(K:PySem.W.Frag)(a b:Addr):It:=
 (λi H=>∃(xs ys:aL)(x y:V),eW /\Ae K H b ys/\xs[i]? =aW /\ys[i]? =mB y,λi H v H'=>∃T x y,v= mF T/\H T=none/\H'=mDo [x,y]/\(∀xs,eW ->xs[i]? =aW)/\∀ys,Ae K H b ys->ys[i]? =mB y,λi H=>∃xs ys:aL,eW /\Ae K H b ys/\(mKk i))
theorem Aj5{K:PySem.W.Frag}{a b z TI TO i1 j:Addr}(D:ZipApart z TI TO i1 j a b):
 F3 P w K aIu (Lw K a b) aIB z (λi h=>mFc h/\IsPair h TI (mF i1) (mF j)/\ aMv /\mBA i1 a/\mBA j b) where
 mem:=by simp
 obj:=λi h st c hc=>by
  obtain⟨hz,n,⟨x,y,B⟩,⟨ab,G,_,ac⟩,⟨ae,I,_,af⟩⟩:=st;have e':aMw:=(mR hc);rcases e' with q|q|q|q|q
  .rw[q];exact(mDp hz)
  .rw[q];exact(mDp n)
  .rw[q];exact(mDp B)
  .rw[q];exact(mFb ab G ac)
  rw[q];exact(mFb ae I af)
 keep:=λi h h' st k=>by obtain⟨hz,n,⟨x,y,B⟩,h1,h2⟩:=st;exact(k z aC _ hz,k TI aC _ n,(x,y,k TO aC _ B),mBY h1.at i1,mBY h2.at j)
 item:=by
  intro X J hw L hc i pins s σ H E M hf st hg;subst J hw L;obtain⟨hz,n,⟨x0,ag,B⟩,h1,h2⟩:=st;obtain⟨xs,ys,x,y,N,O,hx,hy⟩:=hg;obtain⟨its,ah,p,_⟩:=M.list N;obtain⟨ai,aj,p2,_⟩:=M.list O;obtain⟨u,hu,ak⟩:=ah.get hx;obtain⟨al,am,an⟩:=aj.get hy;have ao:=Asu hz;refine wpAny_pyNext_zip_item D hz n B h1 h2 p.isList p2.isList (x:=u) (y:=al) aBU (mR am) λh' ap aq ar as au hsz hk=>?_;refine(0,wpAny_letOwnedTupleGo_zip (s:={s with heap:=h'}) ap λav aw U=>?_);have new:C9 X.prog X.w (mDs [x,y]) av s.heap.objs.size (.Al [x,y]):=
   (20,[u,al],sF ak (wO an),(mHx U.2 ao au))
  have ax:mKl x av:=
   M.OV (t':=s.toks) (ch:=aIB) (mKm U.2 aMx) hf aD new
  refine(eO,_,ax,2,(_,x,y,2,M.Av.BC aD,2,λl ay=>by rw[M.M6 ay N];exact hx,λl ay=>by rw[M.M6 ay O];exact hy),(aw,5,(rR u al),53),λc az=>?_)
  .exact(U.2 _ D.TIz).trans (mKn n)
  .exact(U.2 _ D.TOz).trans aq
  .exact ar.at λo q=>(U.2 _ D.i1z).trans q
  .exact as.at λo q=>(U.2 _ D.i2z).trans q
  have a0:zB c:=by
   have e':aMw:=(mR az);rcases e' with q|q|q|q|q
   .rw[q];exact ao
   .rw[q];exact Asu n
   .rw[q];exact Asu B
   .rw[q];obtain⟨_,G,_⟩:=h1;exact Asu G
   rw[q];obtain⟨_,I,_⟩:=h2;exact Asu I
  rw[Ah (AsP a0)];exact(hf c az).1
 done:=by
  intro X J hw L hc i pins s σ H E M hf st hg;subst J hw L;obtain⟨hz,n,⟨x0,ag,B⟩,h1,h2⟩:=st;obtain⟨xs,ys,N,O,a1⟩:=hg;obtain⟨its,ah,p,_⟩:=M.list N;obtain⟨ai,aj,p2,_⟩:=M.list O;have a2:=ah.length;have a3:=aj.length;have he:its.toArray[i]? =none\/ai.toArray[i]? =none:=by
   rcases a1 with q|q
   .exact mG dR
   exact mI dR
  exact wpAny_pyNext_zip_end (M.ok.hd hc) D hz n B h1 h2 p.isList p2.isList he λh' hk=>(2,M.Zv (t':=s.toks) (ch:=aIB) (λc o hb q=>
   mHz aMx q) hf)
 self:=λA i s Q E st h=>Avm st.1 h
def Aj6(K:PySem.W.Frag)(ta:TA):TI:=λσ H R=>ta σ H λvs H1=>∃a b xs ys,vs=aAk /\xX H1 a/\Ae K H1 b ys/\R (Lw K a b) H1
theorem MN(hg:Gl X "zip")(hm:sX "zip")(ha:PA X [e,j] ta)
 (hs:mHA e j:=by rfl) (n:(yA [j]).any (·.1)=false:=by rfl):
 PI X aIu (wN "zip" [e,j]) (Aj6 X.K ta):=by
 intro pins s σ H R B h;refine AuA (xV B Z3 (mKf H n));obtain⟨a,b,xs,ys,ex,J,L,q⟩:=I;subst ex
 cases G with
 |cons r M=>
  cases M with
  |cons N M=>
   cases M
   cases r
   cases N
   obtain⟨its,ab,O,_⟩:=D.list J;obtain⟨ac,ae,p2,_⟩:=D.list L;refine call_zip_2 O.isList p2.isList λh' hz U Y h1 h2 hsz hk=>Avm hz ?_;refine(235,mDq D.CF,Aj5 (mKo a b O.lt p2.lt),(hz,U,(19,Y),h1,h2),λc af=>?_,q);have hle:mDr c:=by
    rcases(mR af) with z|z|z|z|z
    .rw[z];exact aAj
    .rw[z];exact aAj
    .rw[z];exact aAj
    .rw[z];exact aD
    rw[z];exact aAj
   exact D.Hx hle (D.Av.BC hle)
end L2
section
namespace Bits
open PySem PyProof.Rows
end Bits
end
section
namespace TL
open PySem PySem.Builtin PySem.Builtin.Str PySem.StrLaws
abbrev tl(x:Str):List Nat:=x.cps.toList
theorem Gv(x:Str):x.length=eX.length:=by simp[tl,Str.length]
theorem Rv(h:eX=iW):x=y:=Str.ext' (Array.toList_inj.mp h)
theorem Z4(x y:Str):tl (x++y)=eX++tl y:=by show(x++y).cps.toList=_;rw[Str.cps_append,Array.toList_append]
theorem Z5:∀{l m:cB},sT tl=m.map tl->l=m
 |[],[],_=>rfl
 |[],_::_,h=>by simp at h
 |_::_,[],h=>by simp at h
 |x::l,y::m,h=>by
  rw[Asn,Asn] at h;injection h with h1 h2
  rw[Rv h1,Z5 h2]
def pre(S l:aB):Bool:=l.take S.length==S
def DC(S:aB):Nat-> aB -> aB -> bW
 |_,acc,[]=>[acc]
 |0,acc,c::r=>if pre S (c::r)=true then acc::DC S (S.length - 1) [] r else DC S 0 (acc++[c]) r
 |k+1,acc,_::r=>mAL k r
theorem UM(S:aB)(k:Nat)(acc:aB):mAL k []=[acc]:=by cases k<;>rfl
theorem Aj7(h:pre S (c::r)=true):mAL 0 (c::r)=acc::DC S (S.length - 1) [] r:=by show aMz=_;rw[mJ h]
theorem Aj8(h:pre S (c::r)=false):mAL 0 (c::r)=DC S 0 (acc++[c]) r:=by show aMz=_;rw[yY h]
theorem Z6(S:aB):∀(k:Nat)(acc l:aB),mAL k l=mAL 0 (l.drop k)
 |0,_,_=>by rw[Atv]
 |k+1,acc,[]=>by rw[List.drop_nil,UM,UM]
 |k+1,acc,c::r=>by
  exact Z6 S k acc r
theorem Aj9(j:S≠[]):pre S []=false:=by
 cases S with
 |nil=>exact rB j
 |cons s S=>rfl
theorem AjA{L:aB}(h:a<L.length):∃c,wS a=c::L.drop (a+1):=(L[a],As8 h)
theorem UN(S L:aB):∀(m a:Nat)(acc:aB),a+m<=L.length->(∀k,a<=k->k<a+m->pre S (wS k)=false)->
 DC S 0 acc (wS a)=DC S 0 (acc++(wS a).take m) (wS (a+m))
 |0,a,acc,_,_=>by rw[AwK,Aum,Nat.add_zero]
 |m+1,a,acc,h,j=>by
  have n:a<L.length:=aA;obtain⟨c,e⟩:=AjA n;have h0:=j a aD aA;have q:=UN S L m (a+1) (acc++[c]) aA (λk h1 h2=>j k aA aA);have z:a+1+m=a+(m+1):=aA;rw[z] at q;rw[e] at h0;rw[e,Aj8 h0,q,Auf,At3]<;>rfl
theorem AjB(L:aB)(a b:Nat):(wS a).drop b=L.drop (a+b):=by
 first
  |rw[AvJ]
  |rw[AvJ,Nat.add_comm]
theorem AjC{S L:aB}(j:S≠[])(h:pre S (wS c)=true):mAL 0 (wS c)=acc::DC S 0 [] (wS (c+S.length)):=by
 rw[<-AjB]
 cases e:wS c with
 |nil=>rw[e,Aj9 j] at h;cases h
 |cons d r=>
  rw[e] at h;rw[Aj7 h,Z6]
  cases S with
  |nil=>exact rB j
  |cons s S=>rfl
theorem Z7(hy:aDA)(i:Nat):mHB i↔mHC i=true:=by
 have hx:=Gv x;have j:=Gv y;constructor
 .intro h;have h2:=h.2;rw[subAt_eq,j] at h2;exact h2
 intro h;have n:=yU (eq_of_beq h);rw[AsS,AtH] at n;have q:=aMA;refine(4,5);rw[subAt_eq,j];exact h
theorem Z8(hy:aDA)(h:¬mHB i):mHC i=false:=by
 cases hp:mHC i with
 |false=>rfl
 |true=>exact nK ((Z7 hy i).mpr hp) h
theorem Z9(hy:aDA):1<=y.length:=by rw[Gv y];exact aMA
theorem ZA(x:Str)(i j:Nat):tl (strSub x i j)=(eX.drop i).take (j - i):=strSub_toList x i j
theorem AjD(x:Str)(i:Nat):mHD x i=eX.drop i:=by rw[ZA,Gv x];exact aMB
theorem UO(hy:aDA):∀(cuts:aB)(a f:Nat),a<= eX.length->ChainG x y x.length a cuts f->(∀k,f<=k->¬mHB k)->
 (partsFrom x y.length a cuts).map tl=DC iW 0 [] (eX.drop a)
 |[],a,f,ha,h,j=>by
  subst h;show[mHD x f]=_;have Ik:=UN iW eX (eX.length - f) f [] aA (λk h1 _=>Z8 hy (j k h1));have n:f+(eX.length - f)=eX.length:=aA;rw[n,AuI,UM,Atz,aMB] at Ik;rw[Ik,AjD]
 |c::r,a,f,ha,h,j=>by
  obtain⟨h1,h2,q,h4⟩:=h;have hc:=h2.1;have hx:=Gv x;show tl (strSub x a c)::(partsFrom x y.length (c+y.length) r).map tl=_;have Ik:=UN iW eX (c - a) a [] aA (λk z B=>Z8 hy (q k z aA));have n:a+(c - a)=c:=aA;rw[n,Atz,AjC hy ((Z7 hy c).mp h2)] at Ik;rw[Ik,UO hy r (c+y.length) f aA h4 j,ZA,(Gv y)]
theorem AjE(x y:Str)(hy:aDA)(hk:¬zN x<zN y):(Txt.split x y).map tl=DC iW 0 [] eX:=by
 obtain⟨f,g,j⟩:=occ_tight x y (Z9 hy);have key:=UO hy _ 0 f aT g j;rw[Atv] at key;have none_case:mHE x=[]->[x].map tl=DC iW 0 [] eX:=λn=>by rw[n] at key;rw[<-key];show[eX]=[mHD x 0];rw[sub_whole]
 unfold Txt.split;by_cases h1:(decide (x.length<y.length)||decide (zN x<zN y))=true
 .rw[mJ h1];have q:x.length<y.length:=by
   simp at h1;rcases h1 with h|h
   .exact h
   exact nK h hk
  refine none_case ?_
  cases n:mHE x with
  |nil=>rfl
  |cons c r=>
   rw[n] at g;have hc:=g.2.1.1;omega
 rw[mM h1];by_cases h2:(mHE x).isEmpty=true
 .rw[mJ h2];exact none_case (List.isEmpty_iff.mp h2)
 rw[mM h2,partsBetween_eq];exact key
theorem AjF(h:y.cps.all (·<256)=true):¬zN x<Builtin.Str.strKind y:=by
 have e:zN y=1:=(by unfold PySem.Builtin.Str.strKind;rw[mJ h]);rw[e];unfold PySem.Builtin.Str.strKind;split
 .omega
 split<;>omega
def OX(S:aB):bW -> aB
 |[]=>[]
 |[p]=>p
 |p::q::r=>p++(S++OX S (q::r))
theorem ZB(y:Str):∀parts:cB,tl (Str.join y parts)=OX iW (parts.map tl)
 |[]=>rfl
 |[_]=>rfl
 |x::z::r=>by
  show tl (x++y++Str.join y (z::r))=eX++(iW++OX iW ((z::r).map tl));rw[Z4,Z4,ZB y (z::r),At3]
theorem AjG(y:Str)(parts:cB):Txt.join y parts=Str.join y parts:=glued_eq_join y parts
end TL
end
namespace L2
open PySem PySem.Spec PyProof.Rows
theorem ZC:∀l:oU Tok,AB (aAN.map V.str) aIC
 |[]=> .nil
 |p::r=> sF (p.2,2) (ZC r)
theorem UP:∀{ys:cB}{us:aV},rD aDB ->StrsAre us ys
 |[],_,.nil=> .nil
 |y::ys,_,.cons r t=>by
  obtain⟨k,rfl⟩:=r;exact .cons y k (UP t)
def UQ(ys:cB):mAx Hp VK:=λH Q=>∀p,H p=none->mAD H aDB
section
variable {X:Cx} {pins:bC} {σ:St} {H:Hp} {s:Shared} {Q:VK}
theorem UR(j:aF)(e:aAN=ys)(hz:aE5)(h:UQ ys H Q):
 EP X pins σ Q eO {s with toks:=k,heap:=s.heap.push {cls:= fH,data:= .seq aIC.toArray}}:=by
 refine(eO,mEO nD H aDB,j.DV aH7 aD (181,aIC,_,5,cQ),2,h _ aA2);rw[<-e];exact ZC l
end
section
variable {X:Cx}
theorem AjH:EM X "str.split" aMC:=by
 intro pins s σ H x xs v us Q j n rs h;obtain⟨a,b,rfl,rfl,hb,hz,h⟩:=h;obtain⟨t,rfl⟩:=n
 cases rs with
 |cons q rs=>
  cases rs
  obtain⟨u,rfl⟩:=q;have z:=AsV (PyProof.Rows.split_le a b) hz;have B:qI (Builtin.Str.partsBetween a (mKp a b) b.length).length:=by have D:=StrLaws.occ_length_le a b 0 a.length (a.length+1);rw[length_partsBetween];omega
  cases h1:(decide (a.length<b.length)||decide (zN a<zN b))
  .cases hf:(mKp a b).isEmpty
   .refine mHF (meets_str_split_sep a b t u h1 hb hf aA B);rw[strsFrom_eq];exact UR (ys:=Txt.split a b) j ((numbered_texts _ _).trans ((mM (AvG h1)).trans (mM (AvG hf))).symm) z h
   refine mHF (meets_str_split_not_found a b t u h1 hb hf);exact mKq ((mM (AvG h1)).trans (mJ hf)).symm
  refine mHF (meets_str_split_cannot_occur a b t u h1);exact mKq (mJ h1).symm
theorem AjI:EM X "str.join" (λx xs H Q=>∃a p,∃ys:cB,x= nO a/\xs=[aS]/\(mEZ X.K H aDB)/\
 (ys.map (·.length)).sum+ys.length*a.length<=16777216/\ aMD):=by
 intro pins s σ H x xs v us Q j q rs h;obtain⟨a,p,ys,rfl,rfl,hp,hz,h⟩:=h;obtain⟨t,rfl⟩:=q
 cases rs with
 |cons z rs=>
  cases rs
  cases z
  rcases hp with hp|hp
  .obtain⟨its,r,⟨o,n,B,hc,_,hd⟩,_⟩:=uO hp;exact PyProof.Rows.join_list (items:=its.toArray) (o,B,hc,n,hd) (wM AvH UP r) hz λt' k=>(mKr H)
  obtain⟨its,r,D,_⟩:=j.tuple hp;exact PyProof.Rows.join_tuple (items:=its.toArray) D (wM AvH UP r) hz λt' k=>(mKr H)
theorem mt0{id:String}{C:Str->Prop}{g:Str->V}(rule:∀(a:Str)(t:Tok)(s:Shared)(Q:bN),C a->(∀(u:Value)(k:Nat),nT (g a)->Q u {s with toks:=k})->
 wpAny bO X.A (uR id [.str a t]) Q X.xe s):EM X id (λx xs H Q=>∃a,x= nO a/\xs=[]/\C a/\Q (g a) H):=by
 intro pins s σ H x xs v us Q j n rs h;obtain⟨a,rfl,rfl,hc,h⟩:=h;obtain⟨t,rfl⟩:=n
 cases rs
 exact rule a t s _ hc λu k r=>(g a,H,j.BW k,r,h)
theorem ZD{id:String}{g:Str->Str->V}(rule:∀(a b:Str)(t u:Tok)(s:Shared)(Q:bN),(∀(v:Value)(k:Nat),AJ (g a b) v->Q v {s with toks:=k})->
 wpAny bO X.A (uR id [.str a t,.str b u]) Q X.xe s):EM X id (λx xs H Q=>∃a b,x= nO a/\xs=[nO b]/\Q (g a b) H):=by
 intro pins s σ H x xs v us Q j n rs h;obtain⟨a,b,rfl,rfl,h⟩:=h;obtain⟨t,rfl⟩:=n
 cases rs with
 |cons q rs=>
  cases rs
  obtain⟨u,rfl⟩:=q;exact rule a b t u s _ λv k r=>(g a b,H,j.BW k,r,h)
theorem AjK:EM X "str.endswith" (mKs rS Txt.endswith):=
 ZD (g:=λa b=> .bl (Txt.endswith a b)) λ_ _ _ _ s _ h=>PySem.SC.endswith (h _ s.toks rfl)
theorem ZE:EM X "str.count" (mKs tE Txt.count):=
 ZD (g:=λa b=> mE (Txt.count a b)) λ_ _ _ _ s _ h=>PySem.SC.count (h _ (s.toks+1) bY)
end
section
variable {X:Cx} {o e:Expr} {to te:TE}
def tM0(r:hD)(to:TE):TE:=λσ H Q=>to σ H λx H1=>(∃a,x= nO a)/\r x [] H1 Q
def US(r:hD)(to te:TE):TE:=λσ H Q=>to σ H λx H1=>(∃a,x= nO a)/\te σ H1 λy H2=>r x [y] H2 Q
theorem AjM{id:String}(slot:mBP "str")(ty:aB0)(rule:aB1)(j:jR)
 (n:vK o name:=by rfl) (q:wQ pos.line:=by rfl):PE X (mBQ [] pos) (tM0 r to):=by
 intro pins s σ H Q z h;refine PySem.Call_method0 n q (mHg j);obtain⟨⟨a,rfl⟩,G⟩:=G;obtain⟨t,rfl⟩:=_root_.id D;exact(48,Ato rfl (AuQ (rule pins s1 σ H1 _ [] _ [] Q B D .nil G)))
theorem OY{id:String}(slot:mBP "str")(ty:aB0)(rule:aB1)(j:jR)(he:hA)
 (hs:xU e:=by rfl) (n:vK o name:=by rfl) (q:wQ pos.line:=by rfl):
 PE X (mBQ [e] pos) (US r to te):=by
 intro pins s σ H Q z h;refine PySem.Call_method1 n hs q (mHg j);obtain⟨⟨a,rfl⟩,G⟩:=G;obtain⟨t,rfl⟩:=_root_.id D;refine(48,Ato rfl (Auv (At7 ?_)));exact A5 (sI he B G) λu s2 (y,H2,I,J,L)=>Aua (rule pins s2 σ H2 _ [y] _ [u] Q I D (wO J) L)
theorem MO(j:jR)(he:hA)(hs:xU e:=by rfl)(n:vK o "split":=by rfl)(q:wQ pos.line:=by rfl):
 PE X (mBL "split" [e]) (US aMC to te):=
 OY Avn F.type_str_split AjH j he hs n q
theorem AjN(j:jR)(he:hA)(hs:xU e:=by rfl)(n:vK o "join":=by rfl)(q:wQ pos.line:=by rfl):
 PE X (mBL "join" [e]) (US (λx xs H Q=>∃a p,∃ys:cB,x= nO a/\xs=[aS]/\(mEZ X.K H aDB)/\
  (ys.map (·.length)).sum+ys.length*a.length<=16777216/\ aMD) to te):=
 OY F.slot_str_join F.type_str_join AjI j he hs n q
end
end L2
namespace L2
open PySem PySem.Spec PyProof.Rows
section
variable {X:Cx}
theorem AjO:Bt X aE6 (λx y H Q=>∃(c:Nat)(z:Str),x= vU c/\y= nO z/\rS (decide (c∈z.cps.toList))):=by intro pins s σ H x y v u Q j n B h;obtain⟨c,z,rfl,rfl,q⟩:=h;obtain⟨t,rfl⟩:=n;obtain⟨t',rfl⟩:=B;exact PyProof.Rows.in_str (Cv j q (PySem.StrLaws.found_one z c).symm)
end
theorem IsPart.Bm(p:IsPart v o):∃l:oK (Int×Tok),v=partValue l/\ aAN=o:=by
 cases p with
 |none=>exact aFk
 |int i t=>exact(mB (i,t,),26)
def Rx(n d:Nat):dV ->Int
 |none=>(d:Int)
 |some i=>max 0 (mKt i (n:Int))
theorem ZF(n d:Nat)(o:dV):Rx n d o=((HT.AK n d o:Nat):Int):=by
 cases o with
 |none=>rfl
 |some v=>
  show max (0:Int) (mKt v (n:Int))=((aH8:Nat):Int);by_cases j:v<0
  .simp only[if_pos j];omega
  simp only[if_neg j];omega
theorem AjP(a b:dV)(n:Nat):mHG a b n=sliceRange (Rx n 0 a) (Rx n n b) 1:=by
 cases a<;>cases b<;>first
  |rfl
  |(simp;rfl)
  |simp[Builtin.Str.strSliceIndices,Rx]
theorem AjQ(a b:dV)(n:Nat):mHG a b n=(pB (HT.AK n n b - HT.AK n 0 a)).map (λk=>HT.AK n 0 a+k):=by
 rw[AjP,ZF,ZF];generalize HT.AK n 0 a=p;generalize HT.AK n n b=q;simp only[sliceRange,show((1:Int)>0)=True from by simp,if_true];by_cases j:(p:Int)<q
 .have e3:(((q:Int) - p+1 - 1)/1).toNat=q - p:=by first|omega|(simp;done)|(simp;omega)
  simp only[j,if_true,e3];refine AsU λk _=>?_;omega
 have:q - p=0:=aA;simp[j,this]
def MP(z:Str)(lo hi:dV):Str:=
 ⟨ aME.toArray⟩
theorem ZG(z:Str)(lo hi:dV):mHH lo hi=MP z lo hi:=by
 have hp:aB7 <=max aB7 aFl:=Nat.le_max_left _ _;have hq:max aB7 aFl <=z.length:=Nat.max_le.mpr (HT.Uu _ _ aT _,HT.Uu _ _ aD _);have hd:max aB7 aFl - aB7=HT.AK z.length z.length hi - HT.AK z.length 0 lo:=aA;have e:mHG lo hi z.length=
  Builtin.Str.strSliceIndices aMF aMG 1 z.length:=by
  rw[PySem.StrLaws.strSliceIndices_plain hp hq,hd,AjQ]
 have j:mHH lo hi=
  PySem.StrLaws.sliceText z aMF aMG:=by
  unfold PySem.StrLaws.sliceText;rw[e]
 rw[j,PySem.StrLaws.sliceText_nat z hp hq,hd];rfl
theorem AjR(z:Str)(lo hi:dV):(MP z lo hi).length<=z.length:=by show(aME.toArray).size<=z.cps.size;rw[As2,AsS,AtH,Aug];omega
def AjS:mDd Int:=λx lo hi H Q=>∃z,x= nO z/\z.length<=sizeLine/\Q (nO (MP z lo hi)) H
theorem ZH:MB X AjS:=by
 intro pins s σ H x v j n lo hi sl Q B D hs pl pu h;obtain⟨z,rfl,hz,q⟩:=h;obtain⟨t,rfl⟩:=D;obtain⟨os,G,I,J⟩:=hs;obtain⟨l,rfl,rfl⟩:=IsPart.Bm pl;obtain⟨u,rfl,rfl⟩:=IsPart.Bm pu;refine("str",_,F.slot_str_getitem.lookup,AuH _ _ _,5);refine wpAny_getItem_str_slice (l:=l) (u:=u) (st:=none) (os,G,I,J) rfl ?_;have L:(mHH aAN (u.map (·.1))).length<=sizeLine:=by rw[ZG];exact AsV (AjR z _ _) hz
 rw[<-ZG] at q;unfold PySem.StrLaws.sliceText at q L;show Made.post (if aMH=true then Made.val (.str z t)
  else Made.str ⟨(aMI.filterMap (z.cps[·]?)).toArray⟩) gA s
 by_cases c:aMH=true
 .rw[mJ c] at q⊢;exact(nO z,H,B,aA4,q)
 rw[mM c] at q L⊢;exact(L,.str _,H,B.BW _,bY,q)
end L2
namespace ZI
open PySem PySem.W PySem.Calls PyProof.Rows
theorem AjT:∀(ns:bH)(vs:aV),WellAll P h vs (ns.map WData.int)->IntsAre vs ns:=by
 intro ns
 induction ns with
 |nil=>
  intro vs w;rw[AuX] at w
  cases w
  exact .nil
 |cons n ns j=>
  intro vs w;rw[Asn] at w
  cases w with
  |cons a b=>
   cases a
   exact .cons _ _ (j _ b)
section
variable {prog:Program} {w:World} {A:Around} {E:bN} {s:Shared} {K:Frag}
end
end ZI
namespace L2
open PySem PySem.Spec PyProof.Rows
theorem ZJ:∀{vs:aV}{ns:bH},mBR vs->AB hV vs
 |_,_,.nil=> .nil
 |_,_,.cons n t h=> sF aA4 (ZJ h)
def UT(H:Hp):Prop:=∀b,H b=none\/∃o xs,H b=qW o (.Ac xs)
end L2
namespace L2
open PySem PySem.Spec PyProof.Rows
abbrev UU{K:PySem.W.Frag}{h:Heap}(_:K.In h):PySem.W.Frag:=K
end L2
namespace L2
open PySem PySem.Spec PyProof.Rows
def Bp(s:Stmt)(j:Nat):Stmt:=match s with
 | .ClassDef _ _ _ body _ _ _ _ _ _ _=>body.getD j aID
 |_=> aID
def Jq(s:Stmt):Arguments:=match s with
 | .FunctionDef _ a _ _ _ _ _ _ _ _=>a
 |_=>{posonlyargs:=[],args:=[],vararg:=none,kwonlyargs:=[],kw_defaults:=[],kwarg:=none,defaults:=[]}
def Im(s:Stmt):List Stmt:=match s with
 | .FunctionDef _ _ b _ _ _ _ _ _ _=>b
 |_=>[]
def A0(s:Stmt):Scope:=match s with
 | .FunctionDef _ _ _ _ _ _ sc _ _ _=>sc
 |_=>{kind:= .function,names:=[],isGenerator:=false,isCoroutine:=false}
abbrev A9:Kf:=λ_ _ _ _ _ _=>False
abbrev E0:XK:=λ_ _ _=>False
theorem Ay:Kg A9 X E0:=λ_ _ _ _ _ _ _ h=>h.elim
structure Lx(K:PySem.W.Frag)(x qual:Str)(st:Stmt)(f:Addr)(fd:FuncData):Prop where
 ex:∃(oc:Value)(od:hP)(kV doc pm:Value)(an:hP)(cdv ct:Value)(osl:Array kR),
  fd=mFd cdv/\sH f=mB (oc,od,.func fd,osl)/\mER cdv=true
 kp:mDa K f=true
section
variable {P:Program} {w:World} {K:PySem.W.Frag} {mg:aN} {base:Heap}
theorem Lx.ok{st:Stmt}(F:Lx K x qual st f fd)(S:AD N ps (A0 st))(len:aLP)
 (j:∀(z:Value)(A:Around)(outer:jP)(s:Shared)(H:Hp)(vs:aL)(Q:VK)(E:XK),Dj k (A.deeper (envOfC qual (A0 st) s.heap.objs.size f z))->mBJ H->
  ∃t,Go (MA A9 P w K mg base N qual (A0 st) f z A outer s H E).QD (Im st) t/\t {nx:=λ_ H'=>cW,rt:=Q} aDs H):A4 P w K mg base A9 (k+1) f fd ps sp:=by
 obtain⟨B,od,kV,doc,pm,an,z,ct,I,rfl,J,L⟩:=F.ex;refine Aiw J L S len λA outer s H vs Q E M O=>?_;obtain⟨t,h,q⟩:=j z A outer s H vs Q E M O;exact(mQ t h.QD q)
theorem Lx.Kh{st:Stmt}(F:Lx K x qual st f fd)
 (h:∀(kV doc pm:Value)(an:hP)(j ct:Value)(us:aV),us.length=ps.length->bindArgs (mFd j) aDo=pure aDm):GX K fd ps []:=by
 obtain⟨q,od,kV,doc,pm,an,j,ct,z,rfl,B,I⟩:=F.ex;exact .all (h kV doc pm an j ct)
theorem Ry{st:Stmt}{kV doc pm j ct:Value}(l:sH f=mEQ n (mFd j) q)
 (c:mER j=true) (k:mDb K):Lx K x qual st f (mFd j):=((n,od,kV,doc,pm,an,j,ct,q,2,l,c),k)
end
theorem F5(j:Dj k A):kX:=j.units
section
variable {X:Cx}
theorem pv(i:Nat)(j:pO X.N[i]? x:=by rfl)(n:TX X.env.scope x:=by first|exact aFm|exact Or.inr aFm|exact nG Or.inr rfl)(hd:vI x:=by decide)
 (q:pH aLc:=by decide):PE X aBQ (Bo i):=Ah1 j n hd q
end
theorem Az{A B:Prop}(h:B):if false=true then A else B:=by rw[mM Ast];exact h
theorem Au{A B:Prop}(h:A):if true=true then A else B:=by rw[bF];exact h
theorem ZK{c A B:Prop}[Decidable c](h1:c->A)(h2:¬c->B):if c then A else B:=by
 by_cases h:c
 .rw[mJ h];exact h1 h
 rw[mM h];exact h2 h
def Ab(H H':Hp):Prop:=∀b o,H b=aI ->H' b=aI
theorem Ab.refl(H:Hp):Ab H H:=λ_ _ h=>h
theorem Ab.trans(a:fP)(b:tX H2):Ab H H2:=λc o h=>b c o (a c o h)
theorem Ab.free(e:aO)(h:H' l=Option.none):H l=Option.none:=by
 cases q:H l with
 |none=>rfl
 |some o=>
  rw[e l o q] at h
  cases h
theorem Ab.seq{K:PySem.W.Frag}(e:aO)(h:eW):Ae K H' a xs:=by
 rcases h with(h|⟨o,h⟩)|h
 .exact nG mG (mC e h)
 .exact mG (mI (o,mC e h))
 exact mI h
section
variable {κ:Type} [mDk κ]
theorem ZL{kvs:fG}{k:κ}(h:iU=none):¬k∈kvs.map (·.1):=by intro m;obtain⟨p,hp,e⟩:=nY m;have q:oZ aFd:=List.any_eq_true.mpr (p,hp,mW e);rw[MH,h] at q;exact nK q aC
end
end L2
namespace Vp
open PySem L2
def AG(i:Nat):Stmt:=PySem.Challenge.pw_versefeet_s01_answers.main.body.getD i aID
abbrev UV:Stmt:=AG 5
abbrev ZM:Stmt:=AG 20
abbrev ZN:Stmt:=AG 21
abbrev ZO:Stmt:=AG 22
abbrev ZP:Stmt:=AG 23
abbrev ZQ:Stmt:=AG 24
abbrev ZR:Stmt:=AG 25
abbrev ZS:Stmt:=AG 26
abbrev ZT:Stmt:=AG 27
abbrev UW:Stmt:=nS 28 0
abbrev ZU:Stmt:=nS 29 0
abbrev ZV:Stmt:=AG 34
abbrev OZ:Stmt:=AG 35
abbrev Rz:Stmt:=AG 36
abbrev ZW:Stmt:=AG 37
abbrev ZX:Stmt:=nS 46 0
abbrev ZY:Stmt:=AG 47
abbrev UX:Stmt:=AG 48
abbrev UY:Stmt:=AG 49
abbrev ZZ:Stmt:=AG 50
abbrev UZ:Stmt:=AG 51
abbrev R3:Stmt:=AG 52
abbrev Z_:Stmt:=AG 54
abbrev Aaa:Stmt:=AG 55
abbrev Aab:Stmt:=AG 56
abbrev U_:Stmt:=AG 57
abbrev Aac:Stmt:=nS 62 0
abbrev Aad:Stmt:=nS 63 0
abbrev Aae:Stmt:=nS 63 1
abbrev Aaf:Stmt:=nS 64 0
abbrev Aag:Stmt:=nS 64 1
abbrev Aah:Stmt:=nS 64 2
abbrev Aai:Stmt:=nS 64 3
abbrev Aaj:Stmt:=nS 64 4
abbrev Aak:Stmt:=AG 65
abbrev Aal:Stmt:=AG 66
abbrev Aam:Stmt:=AG 67
abbrev Aan:Stmt:=AG 68
abbrev Aao:Stmt:=uT 0
abbrev Aap:Stmt:=uT 1
abbrev Aaq:Stmt:=uT 2
abbrev Aar:Stmt:=uT 3
abbrev Va:Stmt:=uT 4
abbrev Vb:Stmt:=uT 5
abbrev Aas:Stmt:=uT 6
abbrev Aat:Stmt:=uT 7
abbrev Aau:Stmt:=uT 8
abbrev Aav:Stmt:=uT 9
abbrev Aaw:Stmt:=uT 10
abbrev Aax:Stmt:=uT 11
abbrev R4:Stmt:=uT 12
abbrev Aay:Stmt:=nS 71 0
abbrev Aaz:Stmt:=nS 71 1
abbrev Aa0:Stmt:=nS 71 2
abbrev Aa1:Stmt:=nS 71 3
abbrev Aa2:Stmt:=nS 71 4
abbrev Vc:Stmt:=nS 73 0
abbrev Aa3:Stmt:=nS 73 1
abbrev Vd:Stmt:=AG 74
abbrev Ly:Stmt:=nS 75 0
abbrev Aa4:Stmt:=nS 75 1
abbrev Aa5:Stmt:=nS 75 2
abbrev Aa6:Stmt:=nS 75 3
abbrev Aa7:Stmt:=nS 75 4
abbrev Aa8:Stmt:=nS 77 0
abbrev Ve:Stmt:=AG 78
abbrev R5:Stmt:=AG 79
abbrev Vg:Stmt:=AG 80
abbrev O_:Stmt:=nS 81 0
abbrev Aa9:Stmt:=nS 81 1
abbrev AaA:Stmt:=nS 83 0
abbrev AaB:Stmt:=nS 84 0
abbrev AaC:Stmt:=nS 84 1
abbrev AaD:Stmt:=nS 84 2
abbrev AaE:Stmt:=nS 84 3
abbrev AaF:Stmt:=nS 84 4
abbrev AaG:Stmt:=nS 84 5
abbrev AaH:Stmt:=nS 84 6
abbrev AaI:Stmt:=nS 86 0
abbrev AaJ:Stmt:=nS 86 1
abbrev AaK:Stmt:=nS 86 2
abbrev AaL:Stmt:=nS 86 3
abbrev Vh:Stmt:=nS 86 4
abbrev AaM:Stmt:=nS 86 5
abbrev AaN:Stmt:=nS 86 6
abbrev AaO:Stmt:=nS 100 0
abbrev AaP:Stmt:=nS 100 1
abbrev AaQ:Stmt:=nS 100 2
abbrev AaR:Stmt:=nS 100 3
abbrev Vi:Stmt:=nS 100 4
abbrev AaS:Stmt:=AG 101
abbrev AaT:Stmt:=AG 102
abbrev AaU:Stmt:=AG 103
abbrev AaV:Stmt:=AG 104
abbrev AaW:Stmt:=AG 105
abbrev R6:Stmt:=AG 106
abbrev Vj:Stmt:=AG 107
abbrev AaX:Stmt:=AG 108
abbrev AaY:Stmt:=AG 109
abbrev Vk:Stmt:=AG 110
set_option genInjectivity false in
set_option genSizeOf false in
structure Aw where
 (Gx Lz L5 L7 Fi L9 LA Io Fj LB LC Gy LD Fk Ip MQ LF LG Iq LH LI Gz Fl Ir G0 LJ G1 MR MS MT MU MV MW MX Iu G3 Iv Iw MY Km Ko MZ Kp M_ FQ Na Kq Nb Nc Nd Nf Ng Ks Nh Ni Ku Nj Nk LK Nl Ix Kv Iy Iz Nm LL LM LN Nn No LO Np Nq Nr Nt Kw Nu Nv LP Nw Kx I0 Ny Nz N0 N2 N3 IA Kz N4 padded speak IB scan way LQ LR Jr answer answers FR IC ID FS CH BD AV DD CI A_ CM Cp Dd CB Dq Cy LS Pa Pb Pc FT:Addr)
 (AaZ Aa_ Aba Abb Abc Abd Abe Abf Abg Abh Abi Abj Abk Abl Abm Abn Abo Abp Abq Abr Abs Abt Abu Abv Abw Abx Aby Abz Ab0 Ab1 Ab2 Ab3 Ab4 Ab5 Ab6 Ab7 Ab8 Ab9 AbA AbB AbC AbD AbE AbF N5 AbG Vl AbH AbI AbJ AbK AbL AbM AbN AbO AbP AbQ AbR AbS AbT AbU AbV AbW AbX AbY AbZ Ab_ Aca Acb Acc Acd Ace Acf Acg Ach Aci Acj Ack Acl Acm Acn Aco Acp Acq Acr Acs Act Acu Acv Acw Acx Acy Acz Ac0 Ac1 Ac2 Ac3 R7 Ac4 R8:FuncData)
variable (K:PySem.W.Frag) (mg:aN)
structure BN(x:Str)(st:Stmt)(ps:cB)(f:Addr)(d:FuncData):Prop where
 F:Lx K x x st f d
 b:GX K d ps []
 m:mg x=mH f
structure Bn(C:Addr)(x q:Str)(st:Stmt)(ps:cB)(f:Addr)(d:FuncData):Prop where
 F:Lx K x q st f d
 b:GX K d ps []
 h:QR K C x f
structure Fa(x:Str)(C i:Addr):Prop where
 c:GV K C
 m:mg x=some (mF C)
 k:Mk K C i
abbrev N6(A:Addr)(l:aL):Prop:=∃(o:Obj)(a:jO)(n:Nat),sH A=aI /\o.cls= gW /\o.data= .seq a n/\a.size<=sizeLine/\AB l a.toList
abbrev BY(x:Str)(v:V):Prop:=∃u,mg x=aM /\nT v
structure Txt(t:Aw):Prop where
 Gx:BN K mg "text_of" UV aIE t.Gx t.AaZ
 Lz:BN K mg "is_silent" ZM aA7 t.Lz t.Aa_
 L5:BN K mg "sound_at" ZN aA7 t.L5 t.Aba
 L7:BN K mg "sounds_of" ZO ["word"] t.L7 t.Abb
 Fi:BN K mg "is_vowel" ZP ["sound"] t.Fi t.Abc
 L9:BN K mg "is_long" ZQ ["vowel"] t.L9 t.Abd
 LA:BN K mg "without_passed_over" ZR aFn t.LA t.Abe
 Io:BN K mg "weight_of" ZS aFo t.Io t.Abf
 Fj:BN K mg "joined_weight" ZT aFp t.Fj t.Abg
 Gy:BN K mg "read_line" ZV aA8 t.Gy t.Abj
 LD:BN K mg "shapes_of" OZ lA t.LD t.Abk
 Fk:BN K mg "syllables_of" Rz lA t.Fk t.Abl
 Ip:BN K mg "is_speakable" ZW aFq t.Ip t.Abm
 LF:BN K mg "is_way" ZY lA t.LF t.Abo
 LG:BN K mg "is_foot" UX ["ways"] t.LG t.Abp
 Iq:BN K mg "written_numbers" UY ["most"] t.Iq t.Abq
 LH:BN K mg "read_cut" ZZ aIF t.LH t.Abr
 LI:BN K mg "read_cuts" UZ aIG t.LI t.Abs
 Gz:BN K mg "read_measure" R3 aA8 t.Gz t.Abt
 Fl:BN K mg "lowest" Z_ gK t.Fl t.Abu
 Ir:BN K mg "highest" Aaa gK t.Ir t.Abv
 G0:BN K mg "single_bits" Aab gK t.G0 t.Abw
 LJ:BN K mg "choices_of" U_ gK t.LJ t.Abx
 Iu:BN K mg "plain_lack" Aak [] t.Iu t.Ab6
 G3:BN K mg "joined_lack" Aal aFr t.G3 t.Ab7
 Iv:BN K mg "lack_ahead" Aam aFs t.Iv t.Ab8
 Iw:BN K mg "finish_ahead" Aan aFt t.Iw t.Ab9
 LK:BN K mg "stretches_of" Vd ["measure"] t.LK t.AbS
 LL:BN K mg "costs_of" Ve aIH t.LL t.AbZ
 LM:BN K mg "words_at_most" R5 aII t.LM t.Ab_
 LN:BN K mg "sort_key" Vg aIJ t.LN t.Aca
 padded:BN K mg "padded" AaS aFu t.padded t.Acx
 speak:BN K mg "speak" AaT ["line"] t.speak t.Acy
 IB:BN K mg "scan_refusal" AaU aFv t.IB t.Acz
 scan:BN K mg "scan" AaV aIK t.scan t.Ac0
 way:BN K mg "way" AaW aIL t.way t.Ac1
 LQ:BN K mg "read_stock" R6 ["stock"] t.LQ t.Ac2
 LR:BN K mg "is_row" Vj aIM t.LR t.Ac3
 Jr:BN K mg "next_row" AaX aFw t.Jr t.R7
 answer:BN K mg "answer" AaY aFx t.answer t.Ac4
 answers:BN K mg "answers" Vk aDC t.answers t.R8
 DQ:Fa K mg "Shape" t.FR t.LB
 LB:Bn K t.FR "__init__" "Shape.__init__" UW aIN t.LB t.Abh
 N7:AS K t.FR "lead"
 GZ:AS K t.FR "weights"
 Fm:Fa K mg "Word" t.IC t.LC
 LC:Bn K t.IC "__init__" "Word.__init__" ZU (qR "text") t.LC t.Abi
 N8:AS K t.IC "vowel_first"
 N9:AS K t.IC "shapes"
 IE:Fa K mg "Measure" t.ID t.MQ
 MQ:Bn K t.ID "__init__" "Measure.__init__" ZX aFy t.MQ t.Abn
 RB:AS K t.ID "feet"
 RC:AS K t.ID "cuts"
 BF:Fa K mg "Note" t.FS t.G1
 G1:Bn K t.FS "__init__" "Note.__init__" Aac aFz t.G1 t.Aby
 NA:AS K t.FS "is_finish"
 Js:AS K t.FS "words"
 LU:AS K t.FS "rest"
 LW:AS K t.FS "room"
 E9:Fa K mg "Group" t.CH t.MR
 MR:Bn K t.CH "__init__" "Group.__init__" Aad aFA t.MR t.Abz
 MS:Bn K t.CH "add_sort" "Group.add_sort" Aae aFB t.MS t.Ab0
 LX:AS K t.CH "cost"
 Vm:AS K t.CH "followers"
 Vn:AS K t.CH "sorts"
 Vo:AS K t.CH "words"
 CN:Fa K mg "Knot" t.BD t.MT
 MT:Bn K t.BD "__init__" "Knot.__init__" Aaf aFC t.MT t.Ab1
 MU:Bn K t.BD "known_finish" "Knot.known_finish" Aag aB8 t.MU t.Ab2
 MV:Bn K t.BD "known_lack" "Knot.known_lack" Aah aB8 t.MV t.Ab3
 MW:Bn K t.BD "keep_note" "Knot.keep_note" Aai aFD t.MW t.Ab4
 MX:Bn K t.BD "forget_notes" "Knot.forget_notes" Aaj cL t.MX t.Ab5
 Ac5:AS K t.BD "mode"
 Ac6:AS K t.BD "state"
 RD:AS K t.BD "fewest"
 Pd:AS K t.BD "groups"
 RE:AS K t.BD "finishes"
 NB:AS K t.BD "lacks"
 B_:Fa K mg "Finisher" t.AV t.MY
 MY:Bn K t.AV "__init__" "Finisher.__init__" Aao aFE t.MY t.AbA
 Km:Bn K t.AV "can_finish" "Finisher.can_finish" Aap aIO t.Km t.AbB
 Ko:Bn K t.AV "hopeful" "Finisher.hopeful" Aaq aB9 t.Ko t.AbC
 MZ:Bn K t.AV "first_twins" "Finisher.first_twins" Aar aA9 t.MZ t.AbD
 Kp:Bn K t.AV "knots_in" "Finisher.knots_in" Va aB9 t.Kp t.AbE
 M_:Bn K t.AV "knot_at" "Finisher.knot_at" Vb aIP t.M_ t.AbF
 FQ:Bn K t.AV "note_at" "Finisher.note_at" Aas aBa t.FQ t.N5
 Na:Bn K t.AV "keep" "Finisher.keep" Aat aIQ t.Na t.AbG
 Kq:Bn K t.AV "search" "Finisher.search" Aau aBa t.Kq t.Vl
 Nb:Bn K t.AV "search_group" "Finisher.search_group" Aav aCa t.Nb t.AbH
 Nc:Bn K t.AV "search_sorts" "Finisher.search_sorts" Aaw aCa t.Nc t.AbI
 Nd:Bn K t.AV "groups_at" "Finisher.groups_at" Aax aBb t.Nd t.AbJ
 Nf:Bn K t.AV "make_groups" "Finisher.make_groups" R4 aBb t.Nf t.AbK
 Vq:AS K t.AV "places"
 Ac7:AS K t.AV "sorts"
 Vr:AS K t.AV "views"
 NC:AS K t.AV "knots"
 RF:AS K t.AV "kept"
 Em:Fa K mg "Outlook" t.DD t.Ng
 Ng:Bn K t.DD "__init__" "Outlook.__init__" Aay aFF t.Ng t.AbL
 Ks:Bn K t.DD "view_of_end" "Outlook.view_of_end" Aaz cL t.Ks t.AbM
 Nh:Bn K t.DD "view_ahead" "Outlook.view_ahead" Aa0 aIR t.Nh t.AbN
 Ni:Bn K t.DD "add_shape" "Outlook.add_shape" Aa1 aIS t.Ni t.AbO
 Ku:Bn K t.DD "add_led" "Outlook.add_led" Aa2 aIT t.Ku t.AbP
 Pe:AS K t.DD "places"
 Ac8:AS K t.DD "sorts"
 Pf:AS K t.DD "views"
 De:Fa K mg "Stretch" t.CI t.Nj
 Nj:Bn K t.CI "__init__" "Stretch.__init__" Vc aIU t.Nj t.AbQ
 Nk:Bn K t.CI "lay_place" "Stretch.lay_place" Aa3 aFG t.Nk t.AbR
 ND:AS K t.CI "size"
 Vs:AS K t.CI "starts"
 RG:AS K t.CI "ends"
 Vt:AS K t.CI "longs"
 Vu:AS K t.CI "inner"
 Vv:AS K t.CI "cuts"
 NE:AS K t.CI "twins"
 B6:Fa K mg "Places" t.A_ t.Nl
 Nl:Bn K t.A_ "__init__" "Places.__init__" Ly aIV t.Nl t.AbT
 Ix:Bn K t.A_ "twice" "Places.twice" Aa4 aA9 t.Ix t.AbU
 Kv:Bn K t.A_ "after_syllable" "Places.after_syllable" Aa5 aCb t.Kv t.AbV
 Iy:Bn K t.A_ "before_syllable" "Places.before_syllable" Aa6 aCb t.Iy t.AbW
 Iz:Bn K t.A_ "after_shape" "Places.after_shape" Aa7 aIW t.Iz t.AbX
 IF:AS K t.A_ "half"
 RH:AS K t.A_ "cuts"
 RI:AS K t.A_ "inner"
 Pg:AS K t.A_ "doors"
 RJ:AS K t.A_ "fitting"
 Ac9:AS K t.A_ "first"
 AcA:AS K t.A_ "done"
 RK:AS K t.A_ "twins"
 En:Fa K mg "Sort" t.CM t.Nm
 Nm:Bn K t.CM "__init__" "Sort.__init__" Aa8 aFH t.Nm t.AbY
 Ph:AS K t.CM "vowel_first"
 Pk:AS K t.CM "shapes"
 RL:AS K t.CM "cost"
 RM:AS K t.CM "words"
 EN:Fa K mg "Stock" t.Cp t.Nn
 Nn:Bn K t.Cp "__init__" "Stock.__init__" O_ aCc t.Nn t.Acb
 No:Bn K t.Cp "give_bits" "Stock.give_bits" Aa9 cL t.No t.Acc
 Pl:AS K t.Cp "most"
 AcB:AS K t.Cp "room"
 RN:AS K t.Cp "sorts"
 RO:AS K t.Cp "sort_of"
 CW:Fa K mg "Beginning" t.Dd t.LO
 LO:Bn K t.Dd "__init__" "Beginning.__init__" AaA aFI t.LO t.Acd
 NF:AS K t.Dd "row"
 Pm:AS K t.Dd "used"
 RP:AS K t.Dd "states"
 RQ:AS K t.Dd "room"
 Pn:AS K t.Dd "upcoming"
 Df:Fa K mg "RowFinder" t.CB t.Np
 Np:Bn K t.CB "__init__" "RowFinder.__init__" AaB aCc t.Np t.Ace
 Nq:Bn K t.CB "first_behind" "RowFinder.first_behind" AaC aCd t.Nq t.Acf
 Nr:Bn K t.CB "path_to" "RowFinder.path_to" AaD aCd t.Nr t.Acg
 Nt:Bn K t.CB "with_word" "RowFinder.with_word" AaE aBc t.Nt t.Ach
 Kw:Bn K t.CB "longer_by" "RowFinder.longer_by" AaF aBc t.Kw t.Aci
 Nu:Bn K t.CB "can_finish" "RowFinder.can_finish" AaG aBd t.Nu t.Acj
 Nv:Bn K t.CB "scans" "RowFinder.scans" AaH aBd t.Nv t.Ack
 Jt:AS K t.CB "stock"
 NG:AS K t.CB "places"
 Vw:AS K t.CB "finisher"
 Ca:Fa K mg "Scansion" t.Dq t.LP
 LP:Bn K t.Dq "__init__" "Scansion.__init__" AaI aFJ t.LP t.Acl
 Nw:Bn K t.Dq "fits" "Scansion.fits" AaJ aIX t.Nw t.Acm
 Kx:Bn K t.Dq "meets_cut" "Scansion.meets_cut" AaK aIY t.Kx t.Acn
 I0:Bn K t.Dq "count_by_way" "Scansion.count_by_way" AaL aFK t.I0 t.Aco
 Ny:Bn K t.Dq "count_from" "Scansion.count_from" Vh aIZ t.Ny t.Acp
 Nz:Bn K t.Dq "count_all" "Scansion.count_all" AaM cL t.Nz t.Acq
 N0:Bn K t.Dq "way_numbered" "Scansion.way_numbered" AaN (qR "k") t.N0 t.Acr
 RS:AS K t.Dq "feet"
 Vx:AS K t.Dq "cuts"
 NH:AS K t.Dq "syllables"
 RT:AS K t.Dq "met_values"
 RU:AS K t.Dq "counts"
 Vy:AS K t.Dq "total"
 Eo:Fa K mg "Reader" t.Cy t.N2
 N2:Bn K t.Cy "__init__" "Reader.__init__" AaO aFL t.N2 t.Acs
 N3:Bn K t.Cy "is_at_end" "Reader.is_at_end" AaP cL t.N3 t.Act
 IA:Bn K t.Cy "read_number" "Reader.read_number" AaQ cL t.IA t.Acu
 Kz:Bn K t.Cy "read_list" "Reader.read_list" AaR cL t.Kz t.Acv
 N4:Bn K t.Cy "read_lists" "Reader.read_lists" Vi cL t.N4 t.Acw
 RV:AS K t.Cy "numbers"
 LY:AS K t.Cy "at"
 AjU:BY mg "VOWELS" (mFe nO)
 AcC:BY mg "LETTERS" (mHI nO)
 AcD:BY mg "BLANK" (nO " ")
 AjV:BY mg "MEASURE_SIGNS" (nO "-u|,;.0123456789")
 AcE:mg "PAIRS"=some (mF t.LS)
 AjW:N6 K t.LS aFM
 AjX:mg "DOUBLES"=some (mF t.Pa)
 AjY:N6 K t.Pa aFN
 AjZ:mg "STOPS"=some (mF t.Pb)
 Aj_:N6 K t.Pb aFO
 Aka:mg "LIQUIDS"=some (mF t.Pc)
 Akb:N6 K t.Pc aFP
 Akc:BY mg "SHORT" bZ
 Akd:BY mg "LONG" (mE 1)
 AcF:BY mg "EITHER" (mE 2)
 AcG:BY mg "EMPTY" bZ
 Ake:BY mg "SINGLE" (mE 1)
 Akf:BY mg "LOOSE" (mE 2)
 Vz:BY mg "HEAVY" (mE 3)
 LZ:BY mg "START" (mE 4)
 Po:mg "LENGTHS"=some (mF t.FT)
 Akg:N6 K t.FT [bZ,bZ,mE 2,mE 1]
 V0:BY mg "LINE_MOST" (mE 255)
 AcH:BY mg "SYLLABLES_MOST" (mE 64)
 V1:BY mg "WORD_END" (mE 4)
 Akh:BY mg "MEASURE_MOST" (mE 255)
 AcI:BY mg "FEET_MOST" (mE 16)
 Aki:BY mg "WAYS_MOST" (mE 4)
 AcJ:BY mg "PLACES_MOST" (mE 4)
 Akj:BY mg "CUTS_MOST" (mE 8)
 V2:BY mg "LONG_SIGN" (nO "-")
 Akk:BY mg "SHORT_SIGN" (nO "u")
 V3:BY mg "ANY" (mE 1000)
 Akl:BY mg "NOTES_MOST" (mE 300000)
 Akm:BY mg "LACKS_MOST" (mE 2000)
 Akn:BY mg "SPEAK" bZ
 Ako:BY mg "SCAN" (mE 1)
 Akp:BY mg "WAY" (mE 2)
 V4:BY mg "BAD_FIRST" (mE (-22))
 AcK:BY mg "BAD_SECOND" (mE (-23))
 Akq:BY mg "BAD_THIRD" (mE (-24))
 AcL:BY mg "UNSPEAKABLE" (mE (-71))
 Akr:BY mg "NO_MORE" (mE (-2))
 Aks:BY mg "SCAN_MOST" (mE 1000000)
 Akt:BY mg "WORD_MOST" (mE 23)
 Aku:BY mg "STOCK_MOST" (mE 64)
 Akv:BY mg "ROW_MOST" (mE 12)
 B7:mg "len"=none
 L_:mAt mg=none
 Ma:zM mg=none
 K0:mg "zip"=none
 RX:mg "min"=none
 Akw:mg "max"=none
 K3:mg "sum"=none
 AcM:mg "sorted"=none
 AcN:mg "reversed"=none
 Akx:mg "str"=none
 Aky:mg "list"=none
 AcO:mg "tuple"=none
 Akz:mg "set"=none
 Ak0:mg "ord"=none
 RY:mg "all"=none
end Vp
namespace Vp
open PySem PySem.Spec L2
theorem B8:mAM "len":=by decide+kernel
theorem Ak1:mAM "ord":=by decide+kernel
theorem RZ:mAM "all":=by decide+kernel
theorem K4:mAM "sum":=by decide+kernel
theorem R_:mAM "min":=by decide+kernel
theorem Ak2:mAM "max":=by decide+kernel
theorem Ak3:mBV "str":=by decide+kernel
theorem Ak4:mBV "list":=by decide+kernel
theorem AcP:mBV "tuple":=by decide+kernel
theorem Ak5:mBV "set":=by decide+kernel
theorem AcQ:mAM "sorted":=by decide+kernel
theorem Ab.Aa(h:mV H p):Ab H (mY H o):=λb u e=>by rw[oF h];exact e
theorem Ab.BG(s:fP)(h:mV H p):Ab H (L2.Aa H1 p o):=λb u e=>by rw[oF h];exact s b u e
def CC(D:Addr)(H H':Hp):Prop:=∀b o,b≠D->H b=aI ->H' b=aI
theorem CC.refl:CC D H H:=λ_ _ _ h=>h
theorem CC.trans(a:CC D H H1)(b:CC D H1 g):CC D H g:=λc o n h=>b c o n (a c o n h)
theorem CC.Ak6(s:aO):CC D H H':=λb o _ h=>s b o h
theorem CC.Aa:CC D H (L2.Aa H D o):=λb u n h=>by rw[Ah n];exact h
theorem CC.same(e:CC D H H')(h:mV H D):Ab H H':=λb o q=>e b o (AR q h) q
theorem Fn{J:It}{g:TG}{a:TS}{D:Hv}(n:Nat)(Pv:aBS)(h0:vJ 0)
 (b:∀i σ H,i<n->vJ i-> kU) (c:∀σ H,vJ n->xT n)
 (hs:∀i σ H x H',i<n->vJ i-> kW ->g x σ H' λd e=>a {D with nx:=aAe,ct:=aAe,bk:=D.nx} d e)
 (hd:mC4 n):
 ∃W:aBV,(mBB H)/\∀i m σ H,aBW ->
  (xT i/\tW H)\/(kU /\∃N:gB,(∀f H',N f H'->∃h,h<m/\W (i+1) h f H')/\∀x H',kW ->g x σ H' λd e=>a {D with nx:=N,ct:=N,bk:=D.nx} d e):=by
 refine(mC5 n);rintro i m σ H ⟨rfl,j,p⟩;by_cases k:i<n
 .exact .inr (b i σ H k p,aAe,λf H' l=>(139,k,l),λx H' y=>hs i σ H x H' k p y)
 grind
theorem EA{J:It}{g:TG}{tt:TT}{a:TE}{c:hB}(n:Nat)(Pv:vS Nat)(h0:Pv 0 (pK H1 D))
 (d:∀i H,i<n->Pv i H-> kU) (e:∀H,Pv n H->xT n)
 (hs:∀i H x H',i<n->Pv i H-> kW ->g x eD H' λf h=>Co f vs=eD /\tt f h λb j=>
  if b=true then a f j λy k=>∃acc,k D=nU acc/\acc.length<sizeLine/\Pv (i+1) (zL k) else Pv (i+1) j) (hd:∀H,Pv n H->c H):
 ∃W:mBC Nat,(mDj H1 D)/\∀i m H,W i m H->
  (xT i/\c H)\/(kU /\∃l:hB,(mKu l i)/\∀x H',kW ->g x eD H' λf h=>Co f vs=eD /\tt f h λb j=>
   if b=true then a f j λy k=>∃acc,k D=nU acc/\acc.length<sizeLine/\l (zL k) else l j):=by
 refine(λi m H=>m=n - i/\i<=n/\Pv i H,(n,9,aT,h0),5);rintro i m H ⟨rfl,q,p⟩;by_cases r:i<n
 .exact .inr (d i H r p,aAe,λH' s=>(139,r,s),λx H' y=>hs i H x H' r p y)
 grind
theorem F6{J:It}{g:TG}{tt:TT}{a:TE}{c:hB}(n:Nat)(d:mV H1 D)(aa:qI n)
 (R:Nat->V->Hp->Prop) (f:∀j v H H',R j v H->CC D H H'->R j v H')
 (k:∀i H,i<n->tX H-> kU) (l:∀H,tX H->xT n)
 (hs:∀i H x H',i<n->tX H->H D≠none-> kW ->∀Kt:vS V,(∀y s,Ab H s->R i y s->Kt y s)->
  g x eD H' λu z=>Co u vs=eD /\tt u z λb C=>if b=true then a u C Kt else False)
 (hd:∀H ys,tX H->H D=nU ys->ys.length=n->(∀j v,ys[j]? =bK ->R j v H)->c H)
 (E:∀x G H'(A B:gB),(∀u z,A u z->B u z)->g x G H' A->g x G H' B)
 (I:∀G H'(A B:kT),(∀b z,A b z->B b z)->tt G H' A->tt G H' B):
 ∃W:mBC Nat,(mDj H1 D)/\∀i m H,W i m H->
  (xT i/\c H)\/(kU /\∃L:hB,(∀H',L H'->∃M,M<m/\W (i+1) M H')/\∀x H',kW ->g x eD H' λu z=>Co u vs=eD /\tt u z λb C=>
   if b=true then a u C λy s=>∃acc,s D=nU acc/\acc.length<sizeLine/\L (zL s) else L C):=by
 refine EA n (λi H=>tX H/\∃ys,H D=nU ys/\ys.length=i/\∀j v,ys[j]? =bK ->R j v H) (mS d,[],90,λj v h=>by simp at h)
  (λi H N p=>k i H N p.1) (λH p=>l H p.1) (λi H x H' N p y=>?_) λH p=>?_
 .obtain⟨O,ys,hy,Q,T⟩:=p;refine E _ _ _ _ _ (λu z q=>(q.1,I _ _ _ _ (λb C r=>?_) q.2)) (hs i H x H' N O (pP hy) y
   (λy s=>∃acc,s D=nU acc/\acc.length<sizeLine/\(tX (zL s)/\∃zs,(zL s) D=nU zs/\zs.length=i+1/\∀j v,zs[j]? =bK ->R j v (zL s))) λy s s4 U=>?_)
  .grind
  refine(ys,mC s4 hy,4,qS (λb o e=>s4 b o (qD O)) d,ys++[y],Af,by simp[Q],λj v hj=>?_);by_cases Y:j<ys.length
  .rw[Ask Y] at hj;exact f j v H _ (T j v hj) (CC.trans (CC.Ak6 s4) CC.Aa)
  have ab:=(nL hj).1;simp at ab;have e:j=ys.length:=aA;subst e;rw[lB] at hj;simp at hj;subst hj;rw[Q];exact f i _ s _ U CC.Aa
 grind
theorem G_:∀x a H'(A B:gB),aMJ ->EY i x a H' A->EY i x a H' B:=λ_ _ _ _ _ h q=>mC h q
theorem F7:∀a H'(A B:kT),aMJ ->MF a H' A->MF a H' B:=λ_ _ _ _ h q=>mC h q
theorem V5:∀x b H'(A B:gB),(∀c d,A c d->B c d)->QE K 2 aMK x b H' A->QE K 2 aMK x b H' B:=by rintro x b H' A B h ⟨a,xs,e,s,l,v,r,f,v2,g,e3,k,q⟩;exact(a,xs,e,s,l,v,r,f,v2,g,e3,k,mC h q)
abbrev mk(l:aB):Str:=⟨l.toArray⟩
theorem Fo(l:aB):tG (mk l)=l:=rfl
theorem BT(l:aB):uJ mk l l.length:=by simp[Str.length]
theorem Pp(h:aR=l):x=mk l:=TL.Rv h
theorem AcR(x y:Str):decide (V.str x=V.str y)=decide (aR=tG y):=by apply At0.mpr;exact(λe=>by cases e;rfl,λe=>by rw[TL.Rv e])
theorem AcS(x y:Str):(x==y)=decide (aR=tG y):=by
 by_cases e:x=y
 .subst e;simp
 have:aR ≠TL.tl y:=λq=>e (TL.Rv q);grind
theorem AL(h:n<=16777216):qI n:=by rw[AuP];exact h
theorem BA(h:n<16777216):n<sizeLine:=by rw[AuP];exact h
theorem Ak7:EM X "str.isupper" (λx xs H Q=>∃a,x= nO a/\xs=[]/\True/\rS (mFf a)):=
 mt0 (C:=λ_=>True) (g:=λa=> .bl (mFf a)) λ_ _ s _ _ h=>PySem.SC.isupper (h _ s.toks rfl)
section
variable {X:Cx} {K:PySem.W.Frag}
theorem F8(a:cJ)(hc:fL)(h:OE X es t)
 (b:uJ zG es n:=by rfl) (c:(zG es).findIdx? (·.1)=none:=by rfl):PG X (.Tuple es k pos) (QE K n t):=by subst a;exact AhA hc h b c
theorem Ap(a:cJ)(he:nR e b)(hb:vK e f):PE X (mBH e pos) (FJ K b f):=by subst a;exact Ain he hb
theorem B9(a:cJ):MC X (QX K):=by subst a;exact Ln
theorem BH(a:cJ):MC X (HA K):=by subst a;exact Ai5
theorem IG(a:cJ):MB X (U1 K):=by subst a;exact U2
theorem Ak8(a:cJ):MB X (Uy K):=by subst a;exact Ai2
theorem V6(a:cJ):Bt X aE6 (Ra K false):=by subst a;exact ME
theorem AcT(a:cJ):Bt X (compareOp .NotIn) (Ra K true):=by subst a;exact YT
theorem C4(a:cJ):DW X aDu (mHl K):=by subst a;exact Rb
theorem AcU(a:cJ):DW X gW (mJ5 K):=by subst a;exact AiB
theorem K5(a:cJ)(hc:fL):DW X (tD "sum") (Zd K):=by subst a;exact AiK hc
theorem Ak9(a:cJ)(hc:fL):DW X (tD "max") (Ze K):=by subst a;exact AiL hc
theorem Sa(a:cJ)(hc:fL):DW X (tD "all") (Zi K):=by subst a;exact AiP hc
theorem AcV(a:cJ):EM X "list.index" (Zf K):=by subst a;exact AiM
theorem Dz{T id:String}(a:cJ)(b:aE7)(slot:mBP T)(c:aB0)(hm:aB1)(d:jR)(ha:aA1)
 (f:vK o name:=by rfl)
 (g:((mDt h gJ).all aE8&&(mBM h).all aE9
  &&decide (gJ.length+([]:aDr).length+aFa<30))=true:=by rfl)
 (i:wQ h.line:=by rfl) (hs:aAg:=by rfl) (j:(mDt h es).any (·.1)=false:=by rfl):
 PE X (mBQ gJ h) (Rc K T r to t):=by subst a;exact YW b slot c hm d ha f g i hs j
def V7(K:PySem.W.Frag)(a:TE):TT:=λσ H Q=>a σ H λx H'=>∃k,Um K x H' k/\oV k
theorem Ep(b:cJ)(ha:nR a c)(he:mGZ a a.pos):
 PT X a (V7 K c):=by subst b;exact Uo ha he
theorem BJ(a:cJ)(b:nR l tl):PI X c l (QG K tl):=by subst a;exact Yv b
theorem V8(a:cJ)(b:nR l tl):PI X c l (Yu K tl):=by subst a;exact AhG b
end
end Vp
namespace L2
open PySem PySem.Spec PyProof.Rows
theorem AkA{RR:vS V}{P:Program}{w:World}{K:PySem.W.Frag}{mg c:aN}{f:Kf}{k:Nat}{g a:Addr}{fd:FuncData}{x:Str}{sp:Sp}{i:Shared}{vs:aV}{ns:bH}
 (j:K.In i.heap) (l:mAN i.heap.Ns mg) (hb:i.heap.Ns builtinsNs c) (p:∀x:Str,x≠"__name__"->c x=mEC x) (y:i.heap.NoLimit) (hg:i.gens=#[])
 (ha:mHk i.heap.get? a aI0) (A:mBR vs) (B:qI ns.length) (C:Dj k callerA)
 (F:∀base:Heap,K.In base->mAN base.Ns mg->A4 P w K mg base f k g fd [x] sp) (D:mKv x)
 (E:∀H:Hp,UT H-> hW ->sp cR H RR λ_ _ _=>False)
 (G:∀H e I,f [] H i (λ_ _ _=>False) e I->False):
 codeAny aAa callerA aML aMM i:=by
 have J:=ZJ A;have L:=A.length;have core:∀H:Hp,UT H-> hW ->Cm P w H i.heap->(∀b,H b≠none->b=a)->(H a≠none->sH a=none)->
  codeAny aAa callerA aML aMM i:=by
  intro H M aa Av N ab;have base_of:∀{b:Addr}{o:Obj},i.heap.get? b=aI ->H b=none-> aDD.get? b=some o:=λe n=>Ahu e n;have ac:∀{b:Addr}{o:Obj}{es:aB5}{ep:Nat},i.heap.get? b=aI ->o.data= lX ->H b=none:=λ{b o es ep}e d=>by
   cases q:H b with
   |none=>rfl
   |some u=>
    have e':b=a:=N b (pP q);subst e';rw[ha] at e;cases e;have d':Data.seq vs.toArray _=Data.dict es ep:=d
    cases d'
  have O:∀{b:Addr}{m:aN},i.heap.Ns b m-> aDD.Ns b m:=λ{b m}(o,es,ep,e,d,r)=>(o,71,base_of e (ac e d),d,r);have Q:K.In aDD:=λb o e=>base_of (qD j) (by
   cases q:H b with
   |none=>rfl
   |some u=>
    have e':b=a:=N b (pP q);subst e';rw[ab (pP q)] at e;cases e)
  have ae:Mod K mg aDD:=(Q,O l,(c,O hb,p),let(af,ag,ah):=y;(af,O ag,ah));have ai:Lm P w K mg aDD callerA [] i H:=(2,ae,λb o e=>Ahv e,Avy (Aht _ _),86,λb hb=>mEP b aQ hb,Av,.of_eq hg);refine Awm ((F _ Q (O l)).Ik callerA [] i H (cR,[]) cR cR _ _ C ai (D i aJ) (wO rfl) (E H M aa)) λr I h=>?_
  cases r with
  |error e=>exact(G H e I h).elim
  |ok fl=>
   cases fl with
   |next=>exact sY h
   |brk=>exact sY h
   |cont=>exact sY h
   |ret u=>
    obtain⟨v,H',os,DM,un,T,aj,q⟩:=h;refine((u,v,H',2,T,aj,q),OldK.of_keep λb o e=>?_,os,DM)
    cases q:H b with
    |none=>exact un.keep b o e q (by intro z;exact mEP b aQ z) aC
    |some u=>
     rcases M b with z|⟨ak,xs,z⟩
     .rw[q] at z;cases z
     have al:=un.F1 b ak _ z;obtain⟨U,_⟩:=Av b _ z;obtain⟨am,_⟩:=T b _ al;rw[e] at U;cases U;exact am
 cases hk:sH a with
 |some o=>
  have e:=j a o hk;rw[ha] at e
  cases e
  refine core (λ_=>none) (λ_=> bA) (mI (_,vs.toArray,_,hk,26,2,by rw[As2,L];exact B,by simpa using J)) (λb u z=>by have Y:(none:oK HO)=some u:=z;cases Y) (λb z=>rB z) λz=>rB z
 |none=>
  refine core (λb=>if b=a then mB (.Bw {cls:= fH,data:= aI0} (.Ac hV)) else none) (λb=>?_) (mG (mI ({cls:= fH,data:= aI0},bF))) (λb u z=>?_) (λb z=>?_) λ_=>hk
  .by_cases hb:b=a
   .exact mI (19,mJ hb)
   exact mG (mM hb)
  .by_cases hb:b=a
   .have Y:=(mJ hb).symm.trans z
    cases Y
    subst hb;exact(ha,by rw[ArX];exact B,vs,_,J,ha)
   have Y:=(mM hb).symm.trans z
   cases Y
  by_cases hb:b=a
  .exact hb
  exact nK (mM hb) z
end L2
namespace Vp
open PySem PySem.Spec L2 PySem.W
theorem AcW{R:WRecords}{cl:Str-> hP}{h:Heap}:∀{zs:bH}{a:aV},AB (zs.map V.int) a->ReadsAllW R cl h a (zs.map WData.int) []
 |[],_,.nil=> .nil
 |z::zs,_,.cons r b=>by
  obtain⟨t,rfl⟩:=r;exact .cons (as:=[]) (bs:=[]) (.int z t) (AcW b)
theorem AkB{r:OpenSpec}{n k:Nat}{q:Program}{loose:cB}{b:aN ->Heap->Prop}{c:mAx World Heap}{d:DefRec}{K:Params->PySem.W.Frag}{sp:PySem.W.Frag->Sp}{x:Str}(ok:bH ->Prop)(f:bH -> bH)
 (g:qI n) (i:d.params.defaults=[]) (j:Dj k callerA)
 (l:∀args,r.pre args=true->∃ns:bH,args=aCe /\ns.length<=n/\ok ns)
 (p:∀ns:bH,ok ns->r.pre aCe=true->mKw r.post f=true)
 (z:∀(w:World)(h:Heap),c w h-> aDE.In h)
 (F:∀(w:World)(mg:aN)(A:Addr)(h:Heap),aDE.In h-> aFQ ->mg d.name=mH A->
  ∃fd:FuncData,(mKv x)/\
   ∀base:Heap,aDE.In base->mAN base.Ns mg->A4 r.prog w aDE mg base A9 k A fd [x] (sp aDE))
 (B:∀(K:PySem.W.Frag)(H:Hp)(a:Addr)(ns:bH),ok ns->UT H-> hW ->sp K cR H (mKx mF f) λ_ _ _=>False):
 PySem.W.WalkOS q loose b c r d [] (λf vs=>PySem.call f vs):=by
 intro w aa ab mg ac G Y A o pm cd doc C kV ae hd af E I hg args vals as J ag ah L ai;obtain rfl:C= .none:=Dflts.none E i;obtain rfl:kV= .none:=Dflts.noKw E;obtain⟨ns,rfl,hlen,Av⟩:=l args J;have M:=z w _ Y;obtain⟨fd,hb,hF⟩:=F w mg A _ M G.T.g I
 cases L with
 |cons N O=>
  cases O
  cases N with
  |list Q T=>
   refine enter_call (Awm (AkA (RR:=λv H'=>∃D,v= hE /\H' D=nU ((f ns).map V.int)) M G.T.g G.T.b G.T.builtins G.T.nolimit hg Q (ZI.AjT ns _ T) (AsV hlen g) j hF hb (λH U aj=>B _ H _ ns Av U aj) (λH e ak h=>?_)) λres ak hq=>?_)
   .exact h
   obtain⟨⟨v,y,H',rfl,al,am,D,rfl,an⟩,ao,ap,h4⟩:=hq;obtain rfl:v=Value.ref D:=am;obtain⟨_,aq,m,ar,au⟩:=mC al an;exact(.inl (hE,.list ((f ns).map WData.int),[D],2,lC,.list (as:=[]) au rfl rfl (by simpa using AcW ar),p ns Av J,λhu=>by cases hu),ao,ap,h4)
def NI(ns:bH):Prop:=ns.length<=30000/\ aI1 /\PyKgz.answers_asked ns=true
end Vp
namespace Vp
open PySem PySem.W
abbrev RW:=PySem.Challenge.rw_versefeet_s01_answers
theorem AcX(h:nJ RW.pre args):∃ns:bH,aMN=mB (ns,(),)/\args=aCe /\ns.length<=30000/\NI ns:=by
 unfold OpenSpec.pre at h
 cases e:aMN with
 |none=>rw[e] at h;cases h
 |some a=>
  obtain⟨b,c⟩:=sL Codec.encAll_of_decAll e;obtain⟨ns,u⟩:=a;rw[e] at h;have h4:oZ (Codec.inList 0 30000 (Codec.inInt 0 4294967295) ns&&true):=c;simp only[Codec.inList,Codec.inLen,Codec.inNat,Bool.and_eq_true,decide_eq_true_eq,and_true] at h4;have d:aI1:=λz hz=>by have:=AsL.mp h4.2 z hz;simp only[Codec.inInt,Bool.and_eq_true,decide_eq_true_eq] at this;exact this.1
  exact(ns,2,b,h4.1.2,h4.1.2,d,h)
theorem AkC(args:mZ WData)(h:nJ RW.pre args):∃ns:bH,args=aCe /\ns.length<=30000/\NI ns:=by obtain⟨ns,_,a,b,c⟩:=AcX h;exact(ns,a,b,c)
theorem AkD(ns:bH)(_:NI ns)(h:nJ RW.pre aCe):mKw RW.post PyKgz.answers=true:=by
 obtain⟨ms,a,b,_,_⟩:=AcX h;have e:ns=ms:=by
  injection b with b _
  injection b with b
  exact Codec.map_inj WData.int aMO _ _ b
 subst e;unfold OpenSpec.post;rw[a];exact same_self _
end Vp
namespace Vp
open PySem PySem.Spec L2
variable {K:PySem.W.Frag}
abbrev V9(x qual:Str)(st:Stmt)(a:cB):Prop:=∀(b doc pm:Value)(an:hP)(c ct:Value)(us:aV),us.length=a.length->bindArgs (PySem.W.fnOf x qual (Jq st) (Im st) (A0 st) .none b doc pm an c ct) aDo=pure (a.zip us)
theorem AkE{mg:aN}{h:Heap}{x:Str}{st:Stmt}{b:cB}{f:Addr}{d:Value}{od an:hP}{e:Array kR}{g doc pm i ct:Value}(j:K.In h)(G:aFQ)(hb:V9 x x st b)(a:mAN mDu x=oR mH f)(l:sH f=mEQ d (mKy i) e)
 (c:PySem.W.codeIn K i x=true) (k:mDb K):BN K mg x st b f (mKy i):=(127,AvU j G a)
theorem AkF{C:Addr}{x qual:Str}{st:Stmt}{b:cB}{f:Addr}{d:Value}{od an:hP}{e:Array kR}{g doc pm h ct:Value}(hb:V9 x qual st b)(a:xY x=oR mH f)(i:mC9 f=true)
 (l:sH f=mEQ d aMP e)
 (c:mER h=true) (k:mDb K):Bn K C x qual st b f aMP:=(127,(mQ a i k))
theorem AkG{mg:aN}{h:Heap}{x:Str}{C i:Addr}(b:K.In h)(G:aFQ)(a:mAN mDu x=oR mH C)(c:GV K C)(m:oZ aH4)(e:aH5=oR mH i)(f:mC9 i=true)(k:mDa K C=true):Fa K mg x C i:=(c,AvU b G a,(m,e,f,k))
theorem AkH{mg:aN}{h:Heap}{x:Str}{u:Value}{v:V}(b:K.In h)(G:aFQ)(a:mAN mDu x=mB aM)(r:nT v):BY mg x v:=(u,AvU b G a,r)
theorem AkI{A:Addr}{o:Obj}{a:jO}{n:Nat}{vs:aL}(l:sH A=aI)(r:o.cls= gW /\o.data= .seq a n/\a.size<=sizeLine/\AB vs a.toList):N6 K A vs:=(o,a,n,l,r)
def VB(K:PySem.W.Frag)(C:Addr):Prop:=∃(nm q:Str)(N:Addr)(bs:aV)(a:Bool)(sn:cB)(sub:aV)(b:Bool)(col:oK Bool)(dd:hP)(c d e f g:kR)(newId:String),
 sH C=aMQ /\PySem.W.nsOkIn K N=true/\ aI2=jS /\ aI3=jS
theorem AkJ{C N:Addr}{nm q:Str}{bs:aV}{b:Bool}{sn:cB}{sub:aV}{c:Bool}{col:oK Bool}{dd:hP}{d f g h i:kR}{newId:String}{j:Value}{od:hP}{es:aB5}{ep:Nat}{k:Array kR}
 (l:sH C=some (excClassObj nm q C N bs [oH "object"] b sn sub c col dd d f g h i newId)) (n:sH N=mB (j,od,lX,k)) (a:oZ (es.all λe=>match e.key with| .str _ _=>true|_=>false)) (e:aI2=jS) (e':aI3=jS):VB K C:=
 (nm,q,N,bs,b,sn,sub,c,col,dd,d,f,g,h,i,newId,l,by unfold PySem.W.nsOkIn;rw[n];exact a,e,e')
end Vp
section
open PySem PySem.W L2
set_option hygiene false
local macro_rules|`(bnd0)=>`(λ_ _ _ _ _ _ u h=>match u,h with|[],_=>rfl)|`(bnd1)=>`(λ_ _ _ _ _ _ u h=>match u,h with|[_],_=>rfl)|`(bnd2)=>`(λ_ _ _ _ _ _ u h=>match u,h with|[_,_],_=>rfl)|`(bnd3)=>`(λ_ _ _ _ _ _ u h=>match u,h with|[_,_,_],_=>rfl)|`(bnd4)=>`(λ_ _ _ _ _ _ u h=>match u,h with|[_,_,_,_],_=>rfl)|`(bnd5)=>`(λ_ _ _ _ _ _ u h=>match u,h with|[_,_,_,_,_],_=>rfl)|`(bnd6)=>`(λ_ _ _ _ _ _ u h=>match u,h with|[_,_,_,_,_,_],_=>rfl)|`(fnA $b)=>`(by dsimp only;refine' Vp.AkE KX G $b ?za ?zl ?zc ?zk;case za|zl|zc|zk=>k_is)|`(meA $b)=>`(by dsimp only;refine' Vp.AkF $b ?za ?zi ?zl ?zc ?zk;case za|zi|zl|zc|zk=>k_is)|`(clA)=>`(by dsimp only;refine' Vp.AkG KX G ?za ⟨?zp,?zh,?zq,?zs⟩ ?zm ?ze ?zf ?zk;case za|zp|zh|zq|zs|zm|ze|zf|zk=>k_is)|`(coA)=>`(by refine' Vp.AkH KX G ?za ?zr;(case za=>k_is);case zr=>exact⟨_,rfl⟩)|`(mgA)=>`(by dsimp only;refine' AvU KX G ?za;case za=>k_is)|`(noA)=>`(by refine' PySem.W.mg_none_of KX G ?za;case za=>k_is)|`(tuA)=>`(by dsimp only;refine' Vp.AkI ?zl ?zr;(case zl=>k_is);case zr=>exact⟨rfl,rfl,Vp.AL (by decide),by repeat first|exact .nil|refine .cons ⟨_,rfl⟩ ?_⟩)|`(cmA)=>`(by dsimp only;refine' Vp.AkJ ?zcl ?zcn ?zca ?zce ?zcf;(case zcl|zcn=>k_is);(case zca=>simp);case zce|zcf=>k_is)|`(atA)=>`(by dsimp only[L2.AS];k_is)
theorem Vp.U5 {p T:Prop} (hc:T) (main:p):p:=main
set_option maxRecDepth 100000 in
set_option maxHeartbeats 0 in
theorem Vp.early (sp:PySem.W.Frag→Sp) (gs:∀(K:PySem.W.Frag) (H:Hp) (a:Addr) (ns:List Int),Vp.NI ns→Ae K H a (ns.map V.int)→sp K [.ref a] H (λv H'=>∃D,v= .ref D∧H' D=some (.Ac ((PyKgz.answers ns).map V.int))) λ_ _ _=>False)
 (gf:∀(w:World) (K:PySem.W.Frag) (mg:Str→Option Value) (base:Heap) (t:Vp.Aw),Vp.VB K t.CM→Vp.Txt K mg t→A4 PySem.Challenge.rw_versefeet_s01_answers.prog w K mg base A9 59 t.answers t.R8 ["calls"] (sp K)):PySem.Challenge.rw_versefeet_s01_answers.Holds:=by
 have k1:=Vp.Agw;apply Vp.U5
 case main=>
  w_on;k_headS
  case hw=>exact⟨[.list [.int 0,.int 0,.int 1,.int 1,.int 97]],by decide+kernel,by decide+kernel⟩
 case hc=>
  k_fillS
  refine Vp.AkB (r:=PySem.Challenge.rw_versefeet_s01_answers) (n:=30000) (k:=59) (x:="calls") (sp:=sp) Vp.NI PyKgz.answers (by decide) rfl ⟨rfl,by decide,by decide⟩ Vp.AkC Vp.AkD (λw h Y=>PySem.W.kIn_of Y) ?F ?S
  case S=>exact λK H a ns Av _ hs=>gs K H a ns Av hs
  case F=>
   intro w mg fa h KX G hmg;have T:∃t,Vp.Txt (L2.UU KX) mg t∧Vp.VB (L2.UU KX) t.CM:=by dsimp only[L2.UU];exact⟨⟨_,_,_,_,_,_,_,_,_,_,_,_,_,_,_,_,_,_,_,_,_,_,_,_,_,_,_,_,_,_,_,_,_,_,_,_,_,_,_,_,_,_,_,_,_,_,_,_,_,_,_,_,_,_,_,_,_,_,_,_,_,_,_,_,_,_,_,_,_,_,_,_,_,_,_,_,_,_,_,_,_,_,_,_,_,_,_,_,_,_,_,_,_,_,_,_,_,_,_,_,_,_,_,_,_,_,_,_,_,_,_,_,_,_,_,_,_,_,_,_,_,_,_,_,_,_,_,_,_,_,_,_,_,_,_,_,_,_,_,_,_,_,_,_,_,_,_,_,_,_,_,_,_,_,_,_,_,_,_,_,_,_,_,_,_,_,_,_,_,_,_,_,_,_,_,_,_,_,_,_,_,_,_,_,_,_,_,_,_,_,_,_,_,_,_,_,_,_,_,_,_,_,_,_,_,_,_,_,_,_,_,_,_,_,_,_,_,_,_,_,_⟩,⟨fnA bnd2,fnA bnd2,fnA bnd2,fnA bnd1,fnA bnd1,fnA bnd1,fnA bnd1,fnA bnd1,fnA bnd2,fnA bnd1,fnA bnd1,fnA bnd1,fnA bnd1,fnA bnd1,fnA bnd1,fnA bnd1,fnA bnd2,fnA bnd2,fnA bnd1,fnA bnd1,fnA bnd1,fnA bnd1,fnA bnd1,fnA bnd0,fnA bnd2,fnA bnd3,fnA bnd3,fnA bnd1,fnA bnd2,fnA bnd3,fnA bnd2,fnA bnd2,fnA bnd1,fnA bnd2,fnA bnd2,fnA bnd3,fnA bnd1,fnA bnd3,fnA bnd4,fnA bnd3,fnA bnd1,clA,meA bnd2,atA,atA,clA,meA bnd2,atA,atA,clA,meA bnd3,atA,atA,clA,meA bnd5,atA,atA,atA,atA,clA,meA bnd3,meA bnd2,atA,atA,atA,atA,clA,meA bnd4,meA bnd4,meA bnd4,meA bnd2,meA bnd1,atA,atA,atA,atA,atA,atA,clA,meA bnd4,meA bnd5,meA bnd2,meA bnd2,meA bnd2,meA bnd3,meA bnd5,meA bnd3,meA bnd5,meA bnd6,meA bnd6,meA bnd2,meA bnd2,atA,atA,atA,atA,atA,clA,meA bnd4,meA bnd1,meA bnd2,meA bnd5,meA bnd3,atA,atA,atA,clA,meA bnd4,meA bnd3,atA,atA,atA,atA,atA,atA,atA,clA,meA bnd2,meA bnd2,meA bnd4,meA bnd4,meA bnd3,atA,atA,atA,atA,atA,atA,atA,atA,clA,meA bnd3,atA,atA,atA,atA,clA,meA bnd4,meA bnd1,atA,atA,atA,atA,clA,meA bnd5,atA,atA,atA,atA,atA,clA,meA bnd4,meA bnd2,meA bnd2,meA bnd3,meA bnd3,meA bnd2,meA bnd2,atA,atA,atA,clA,meA bnd3,meA bnd3,meA bnd4,meA bnd6,meA bnd3,meA bnd1,meA bnd2,atA,atA,atA,atA,atA,atA,clA,meA bnd2,meA bnd1,meA bnd1,meA bnd1,meA bnd1,atA,atA,coA,coA,coA,coA,mgA,tuA,mgA,tuA,mgA,tuA,mgA,tuA,coA,coA,coA,coA,coA,coA,coA,coA,mgA,tuA,coA,coA,coA,coA,coA,coA,coA,coA,coA,coA,coA,coA,coA,coA,coA,coA,coA,coA,coA,coA,coA,coA,coA,coA,coA,noA,noA,noA,noA,noA,noA,noA,noA,noA,noA,noA,noA,noA,noA,noA⟩,cmA⟩
   obtain⟨t,T,hc⟩:=T;have e0:=hmg.symm.trans T.answers.m
   cases e0
   obtain⟨oc,od,kv,doc,pm,an,cdv,ct,osl,efd,_,_⟩:=T.answers.F.ex;refine⟨t.R8,λs u=>?_,λbase _ _=>gf w _ mg base t hc T⟩;rw[efd];exact .of_eq ((λ_ _ _ _ _ _ u h=>match u,h with|[_],_=>rfl:Vp.V9 "answers" "answers" Vp.Vk ["calls"]) kv doc pm an cdv ct [u] rfl)
end
namespace Vp
open PySem PySem.Spec L2
section
variable {P:Program} {w:World} {K:PySem.W.Frag} {mg:aN} {base:Heap} {t:Aw}
def K6(x:aB)(ns:bH):V:=if ns.all (mHJ x.any) then oW iX else .Ax
def AkK(K:PySem.W.Frag):Sp:=λvs H Q _=>∃(a:Addr)(ns:bH)(x:Str),vs=[aJ,dA]/\ hW /\ns.length<=30000/\x.length<=100/\
 ∀H',aO ->oV (K6 aR ns)
theorem Pq:AD aMR aIE (A0 UV):=aG
def HG(l:aB)(n:Int):Option V:=if l.any (λc=>(c:Int)==n) then oR oW [n.toNat] else none
theorem AkL(l:aB)(c:Nat)(n:Int):HG (l++[c]) n=if n=(c:Int) then oR oW [c] else HG l n:=by unfold HG;grind
theorem AcY:∀l:aL,DP .Ax l=l.any λv=>decide (v= .Ax)
 |[]=>rfl
 |v::r=>by
  unfold DP at*;rw[Ata,Ata];have:=AcY r;unfold DP at this;rw[this]
  cases v<;>rfl
theorem AcZ(l:aB):∀ns:bH,DP .Ax (ns.map λn=>(HG l n).getD .Ax)= !ns.all (mHJ l.any)
 |[]=>rfl
 |n::r=>by
  have a:=AcZ l r;rw[AcY] at a⊢;rw[Asn,Ata,AtJ,a];by_cases e:(l.any λc=>(c:Int)==n)=true
  .simp[HG,e]
  simp only[Bool.not_eq_true] at e;simp[HG,e]
theorem AkM:∀ys:cB,tG (Txt.join "" ys)=(ys.map TL.tl).flatten:=by
 intro ys;rw[TL.AjG,TL.ZB]
 induction ys with
 |nil=>rfl
 |cons y r a=>
  cases r with
  |nil=>simp[TL.OX]
  |cons z q=>
   simp only[List.map_cons,TL.OX,List.flatten_cons] at a⊢;rw[a];rfl
theorem VC(T:aE):A4 P w K mg base A9 1 t.Gx t.AaZ aIE (AkK K):=by
 refine mBZ T.Gx.F.ok Pq
 .obtain⟨a,ns,x,rfl,_⟩:=h;rfl
 obtain⟨a,ns,x,rfl,f,g,hx,k⟩:=h;have hu:=F5 b;refine(_,(Ak (qJ Pq.nd OT)
  (Ak (rV (Ajx aP) (oJ 3 Pq.nd) (Ao (mB0 aX (Bh Aic rfl T.Ak0 Ak1 (mU bB)) bB)))
  (Ak (HD (i:=4) rfl Pq.nd rfl rfl iY (Yv aK) (BZ (own:=[("number",5,)]) (yF aMR UV)) (pR 5 Pq.nd) cK (qK (Ajn hu aX bJ aCf)))
  (Ak (zO (wT ME Da bG))
  (oM (AjN Ic bG)))))),5)
 intro d hd;refine(0,x,2,Fn aR.length (λi σ H1=>∃(l:hN)(v:bQ),σ=[mH a,mB dA,mH d,v,none,none]/\CC d H H1/\H1 d=qH l/\l.length<=i/\∀n:Int,Bc l (Sum.inl n:C3)=HG (aR.take i) n)
  ([],61,2,CC.Aa,Af,aD,λn=>rfl) (λi σ H1 m _=>m) (λσ H1 _=>aD) ?_ ?_)
 .rintro i σ H1 v o m ⟨l,v0,rfl,p,hk,u,z⟩ ⟨rfl,c,hc,rfl⟩;have hc':pO aR[i]? c:=(mR hc);have hlen:aR.length<=100:=(tV TL.Gv hx);refine(16,16,2,d,0,HF.k (k:=Sum.inl (c:Int)) hk (BA aA),Dy l (Sum.inl (c:Int)) (vU c),0,CC.trans p CC.Aa,Af,AsV (Jo _ _ _) aA,λn=>?_);rw[MI,AsA,hc',Atp,AkL,z];by_cases e:n=(c:Int)
  .rw[bV,mJ (by rw[e])]
  rw[bP,vQ e (Sum.inl.inj q)]
 rintro σ H1 ⟨l,v,rfl,p,hk,u,z⟩;rw[AsC] at z;have C:∀o,CC d H1 o->Ab H o:=λo e=>CC.same (CC.trans p e) hd;refine(78,2,(_,(C H1 CC.refl).seq f),λD ab=>?_);have G:∀o,tX o->Ab H o:=λo e=>nB (C H1 CC.refl) e;refine F6 ns.length ab eE (λj v _=>∃n,ns[j]? =mB n/\v=(HG aR n).getD .Ax) hZ
  (λi o m s2=>(19,(G o s2).seq f,by rw[ArY,mK m];rfl)) (λo s2=>(_,(G o s2).seq f,9)) ?_ ?_ G_ F7
 .rintro i o y ac m s2 ae ⟨rfl,hy⟩ Kt af;have I:=hy _ ((G _ s2).seq f);rw[ArY,mK m] at I;simp only[Option.map_some,Option.some.injEq] at I;subst I;have J:=pS hk;refine(2,yG ?_);refine(0,d,2,mG (l,mG J),0,_,E8.k (k:=Sum.inl ns[i]) J,5);rw[z];exact mP af eQ (ns[i],by rw[mK m],2)
 intro o ys s2 hy L M;have N:ys=ns.map λn=>(HG aR n).getD .Ax:=by
  apply AsJ;intro j;rw[ArY]
  cases e:ys[j]? with
  |none=>
   have:=iM;rw[lD];rfl
  |some v=>
   obtain⟨n,O,ag⟩:=M j v e;rw[O,ag];rfl
 have JO:nJ ys.all Fh:=by rw[N,Atw,AsL];intro n _;simp only[Function.comp,HG];split<;>rfl
 refine(mKz D JO);rw[N,AcZ];by_cases e:(mFg ns.all aR.any)=true
 .rw[e];refine cF;have U:ys=aFR.map V.str:=by
   rw[N,AsB];apply AsU;intro n O;have:=AsL.mp e n O;simp only[HG,this,if_true,Option.getD_some,Function.comp]
  refine(bY,0,_,D,aFR,26,mG (vT U mN hy),53)
  .have ah:(aFR.map (·.length)).sum=ns.length:=by
    rw[AsB];clear U N JO M L k f e
    induction ns with
    |nil=>rfl
    |cons n r Y=>
     rw[Asn,AtK,Y (by simp at g;omega),As1];show 1+_=_;omega
   rw[ah,ArX];show ns.length+ns.length*0<=_;omega
  have ai:Txt.join "" aFR=mk iX:=by
   apply Pp;rw[AkM,AsB];clear U N JO M L k f e g
   induction ns with
   |nil=>rfl
   |cons n r Y=>rw[Asn,Aub,Y];rfl
  rw[ai];have:=k o (G o s2);unfold K6 at this;rw[bV] at this;exact this
 have e':pH (mFg ns.all aR.any):=hL;rw[e'];refine eF;have:=k o (G o s2);unfold K6 at this;rw[bP] at this;exact this
end
end Vp
namespace Vp
open PySem PySem.Spec L2 Vf
section
variable {P:Program} {w:World} {K:PySem.W.Frag} {mg:aN} {base:Heap} {t:Aw}
theorem Sb(h:tG s=[k]):decide (V.str ⟨#[c]⟩=V.str s)=(c==k):=by rw[AcR,h];grind
theorem AkN(h:tG s=m):decide (sN l=V.str s)=decide (l=m):=by rw[AcR,h]
theorem Sc(h:i<aR.length):BX x.cps.toList (i:Int)=some (aR.getD i 0):=by apply AZ;grind
theorem Ac_(x:Str)(lo a:dV):tG (MP x lo a)=(mAO (mFh lo)).take (HT.AK aR.length aR.length a - mFh lo):=by unfold MP;rw[TL.Gv]
theorem AkO(x:Str)(h:tG s=[k]):Txt.endswith x s=decide (aR.getLast? =mB k):=by
 have hs:=Pp h;subst hs;unfold Txt.endswith;rw[BT,TL.Gv,StrLaws.subAt_eq];show(decide (0+1<= aR.length)&&((mAO (aR.length - 1)).take 1==[k]))=_;generalize TL.tl x=l;rcases AsR l with rfl|⟨r,c,rfl⟩
 .rfl
 grind
theorem Ada(n d k:Nat)(h:k<=n):HT.AK n d (mB (k:Int))=k:=by rw[HT.Hz];omega
def AkP:Sp:=λvs H Q _=>∃(x:Str)(i:Nat),vs=[dA,sO mE]/\i<aR.length/\x.length<=1000/\rS (GO aR i)
theorem AkQ:AD aA7 aA7 (A0 ZM):=aG
theorem AkR:uU "h"=[104]:=by decide+kernel
theorem Adb:uU "u"=[117]:=by decide+kernel
theorem AkS:uU "q"=[113]:=by decide+kernel
theorem AkT(T:aE):A4 P w K mg base A9 1 t.Lz t.Aa_ aA7 AkP:=by
 refine qT T.Lz.F.ok AkQ
 .obtain⟨x,i,rfl,_⟩:=h;rfl
 obtain⟨x,i,rfl,c,hx,k⟩:=h;have d:qI x.length:=eE;refine(_,(Ao (A3 (QC aMS (JY (OB aMS (JY (OY F.slot_str_endswith F.type_str_endswith AjK (F4 ZH aK Gu (EZ aP)) Ic))))))),140,80);rw[Sb AkR];by_cases f:aR.getD i 0=104
 .rw[zI f];refine eF;have:GO aR i=true:=(by unfold GO Ge;rw[f];rfl);rw[this] at k;exact k
 rw[vG f];refine cF;refine(140,80);rw[Sb Adb];by_cases g:aR.getD i 0=117
 .rw[zI g];refine eF;refine(42,x,2,d,bY,8,5);rw[AkO _ AkS,Ac_];have e:decide (((mAO (mFh none)).take (HT.AK aR.length aR.length (sO mB) - mFh none)).getLast? =mB 113)=GO aR i:=by
   rw[sL Ada (Avv c),HT.Ki,Atv,Nat.sub_zero];unfold GO Ge GN;rw[g]
   cases i with
   |zero=>simp
   |succ j=>
    have hj:j<aR.length:=aA;rw[List.getLast?_take];simp[List.getElem?_eq_getElem hj];rfl
  rw[e];exact k
 rw[vG g];refine cF;have:GO aR i=false:=by unfold GO Ge;rw[vG f,vG g];rfl
 rw[this] at k;exact k
theorem Adc(T:aE):A8 K H t.LS aFM:= mI T.AjW
theorem Mb(l:Vf.Txt):∀(ss:cB)(ms:dH),ss.map TL.tl=ms->wU l (ss.map V.str)=decide (l∈ms)
 |[],_,rfl=>rfl
 |s::ss,_,rfl=>by
  have a:=Mb l ss _ rfl;unfold DP at a⊢;rw[Asn,Asn,Ata,a];show((s==mk l)||_)=_;rw[AcS];grind
theorem Ade:(aI4:cB).map TL.tl=FF:=by decide+kernel
def AkU:Sp:=λvs H Q _=>∃(x:Str)(i:Nat),vs=[dA,sO mE]/\i<aR.length/\x.length<=1000/\Q (oW aBe) H
theorem Adf:AD ["word","at","pair"] aA7 (A0 ZN):=aG
theorem AkV(T:aE):A4 P w K mg base A9 1 t.L5 t.Aba aA7 AkU:=by
 refine qT T.L5.F.ok Adf
 .obtain⟨x,i,rfl,_⟩:=h;rfl
 obtain⟨x,i,rfl,c,hx,k⟩:=h;have d:qI x.length:=eE;refine(_,(Ak (qJ Adf.nd (F4 ZH aK (EZ aP) (EZ (vX aP))))
  (Ao (A3 (Ie (wT ME aX (mB1 mF t.LS T.AcE)) aX (zP QY aK aP))))),5)
 have hc:MP x (sO mB) (mB ((i:Int)+2))=mk aI5:=by apply Pp;rw[Ac_,sL Ada (Avv c)];rw[show((i:Int)+2)=((i+2:Nat):Int) by omega,HT.Hz];rw[List.take_eq_take_iff,AtH];omega
 refine(16,16,8,0,x,2,d,5);rw[hc];refine(125,5);rw[show wU aI5 aFM=decide ((mAO i).take 2∈FF) from(Mb aI5 aI4 _ Ade)];by_cases e:(mAO i).take 2∈FF
 .rw[mW e];refine Au aAl;unfold D8 at k;rw[bV] at k;exact k
 rw[mT e];refine Az (140,5);unfold D8 at k;rw[bP] at k;exact k
def AkW:Sp:=λvs H Q _=>∃(x:Str),vs=[dA]/\x.length<=1000/\∀p H',H p=none-> aO ->H' p=nU (aCg.map λs=> oW s)->oV aS
theorem Pr:AD ["word","sounds","at","sound"] ["word"] (A0 ZO):=aG
theorem AkX(T:aE):A4 P w K mg base A9 2 t.L7 t.Abb ["word"] AkW:=by
 refine qT T.L7.F.ok Pr
 .obtain⟨x,rfl,_⟩:=h;rfl
 obtain⟨x,rfl,hx,k⟩:=h;refine(_,(Ak (tY Pr.nd dM)
  (Ak (qJ Pr.nd Ar)
  (Ak (Ka Asq (pL OJ aX (tZ HB aK)) (Ak (rW Pr.nd (Bb (AkV T) dW rfl T.L5.m T.L5.F.kp T.L5.b .nil Ay (oP aK aX)))
  (Ak (nI (Ff (D9 (Bb (AkT T) dW rfl T.Lz.m T.Lz.F.kp T.Lz.b .nil Ay (oP aK aX)))) (Ao (Cu (YW As3 AsH AsK E_ aP (mU bB)))))
  (Ao (Hw (i:=2) Pr.nd rfl cX (tZ HB bB) Jn)))))
  aCh))),5)
 refine(aT,gY);refine Yy (λσ H1=>∃(i:Nat)(v:bQ)(S:dH),σ=[mB dA,bM,sO mX,v]/\i<= aR.length/\CC p H H1/\H1 p=nU (S.map λs=> oW s)/\S.length<=i/\S++Cg (GN aR i) (mAO i)=aCg)
  (λσ _=>match σ with|[_,_,some (.int i),_]=>aR.length - i.toNat|_=>0) (64,61,[],2,aT,CC.Aa,Af,aD,2) ?_ ?_
 .rintro σ H1 ⟨i,v,S,rfl,c,d,e,f,g⟩;have l:=TL.Gv x;refine(16,x,2,eE,58);refine ZK (λm=>?_) (λhge=>?_)
  .have n:i<aR.length:=(mCL Aut m);have o:=AgU aR i;have q:=AgW aR i n;refine(16,x,i,2,n,hx,16,x,i,2,n,hx,0,5);have r:(mDv (i:Int) aBe)=((i+aBe.length:Nat):Int):=(qQ BT);have u:=AgV aR i n;have y:aR.length - (mDv (i:Int) aBe).toNat<aR.length - ((i:Int)).toNat:=(qQ BT)
   cases B:GO aR i with
   |true=>
    refine cF;rw[B,bF,Atz] at q;exact(42,fQ,8,(i+aBe.length,_,S,236,d,e,4,by rw[<-q];exact g),y)
   |false=>
    refine eF;rw[B] at q;refine(0,pY e,0,p,8,e,fR,42,fQ,8,5);refine((i+aBe.length,_,S++[aBe],236,CC.trans d CC.Aa,by rw[Af,As7];rfl,43,5),y);rw[<-g,q,At3];rfl
  have C:i=aR.length:=(by have:=hge;simp at this;omega);refine aAl;rw[C,AuI,Cg,Aum] at g;rw[g] at e;exact k p H1 hp (CC.same d hp) e
 rintro σ H1 D G hq ⟨v1,I,v2,J,z,e3,L,i,j,M,N,O,U,Y⟩;exact(v1,I,v2,J,z,e3,L,i,j,M,N,O,U,mC hq Y)
theorem AkY:mFe uU=M5:=by decide+kernel
def AkZ:Sp:=λvs H Q _=>∃(x:Str),vs=[dA]/\1<= aR.length/\x.length<=1000/\rS (Dp aR)
theorem Ak_:AD ["sound"] ["sound"] (A0 ZP):=aG
theorem Sd(T:aE):A4 P w K mg base A9 1 t.Fi t.Abc ["sound"] AkZ:=by
 refine qT T.Fi.F.ok Ak_
 .obtain⟨x,rfl,_⟩:=h;rfl
 obtain⟨x,rfl,c,hx,k⟩:=h;obtain⟨d,f,g⟩:=T.AjU;refine(_,(Ao (A3 (Hy AjO (zP QY aK Ar) (nP f g) aE4))),0,x,8,eE,Sc (i:=0) aA,8,5);have e:decide (aR.getD 0 0∈(mFe zJ).cps.toList)=Dp aR:=by
  rw[show(mFe zJ).cps.toList=M5 from AkY]
  cases aR<;>rfl
 rw[e];exact k
theorem Ala:∀c,c<123->Kgz1.isLetter c=true->mFf (mk [c])=Kgz1.isCapital c:=by decide+kernel
theorem Alb(h:nJ Kgz1.isLetter c):c<123:=by
 unfold Kgz1.isLetter at h;simp at h;rcases h with h|h
 .omega
 rw[Q3] at h;grind
def Alc:Sp:=λvs H Q _=>∃(l:Vf.Txt),vs=[oW l]/\GM l/\rS (HY l)
theorem Ald:AD ["vowel"] ["vowel"] (A0 ZQ):=aG
theorem Ale(T:aE):A4 P w K mg base A9 1 t.L9 t.Abd ["vowel"] Alc:=by
 refine qT T.L9.F.ok Ald
 .obtain⟨l,rfl,_⟩:=h;rfl
 obtain⟨l,rfl,f,k⟩:=h;refine(_,(Ao (A3 (QC (Hy ME aK (mB1 mF t.LS T.AcE) aE4) (JY (AjM F.slot_str_isupper F.type_str_isupper Ak7 aK))))),125,5);rw[show wU l aFM=decide (l∈FF) from(Mb l aI4 _ Ade)];by_cases e:l∈FF
 .rw[mW e];refine eF;have:nJ HY l:=(by unfold HY;rw[mW e];rfl);rw[this] at k;exact k
 rw[mT e];refine Az (0,bY,0,2,86,5);have:mFf (mk l)=HY l:=by
  rcases f with⟨c,rfl,hc⟩|⟨c,d,rfl,hp⟩
  .rw[Ala c (Alb hc) hc];unfold HY;rw[mT e];rfl
  exact nK ((Q4 c d).mp hp) e
 rw[this];exact k
abbrev sv(ss:dH):List V:=ss.map λs=> oW s
def Adg(K:PySem.W.Frag):Sp:=λvs H Q _=>∃(a:Addr)(ss:dH),vs=cR /\uS (sv ss)/\ aEJ /\ss.length<=1000/\
 ∀p H',aO ->Ae K H' p (sv (Hr ss))->oV aS
theorem K7(h:GM s):1<=s.length/\s.length<=2:=by rcases h with⟨c,rfl,_⟩|⟨c,d,rfl,_⟩<;>simp
theorem Alf:uU "m"=[109]:=by decide+kernel
theorem Alg(xs:cM)(k:Nat)(hk:1<=k)(h:mEU k)(a:xs[xs.length - k]? =bK):BX xs (-(k:Int))=some v:=by unfold BX FK;grind
theorem Se(xs:aL)(k:Nat)(a:1<=k)(h:mEU k):mFi xs (-(k:Int))=xs.take (xs.length - k):=by unfold Dx;rw[HT.Ki,Atv,Nat.sub_zero];congr 1;unfold HT.AK;grind
theorem Alh:AD aFn aFn (A0 ZR):=aG
theorem Ali(T:aE):A4 P w K mg base A9 2 t.LA t.Abe aFn (Adg K):=by
 refine mB2 T.LA.F.ok Alh
 .obtain⟨a,ss,rfl,_⟩:=h;rfl
 obtain⟨a,ss,rfl,e,f,g,k⟩:=h;refine(_,(Ak (nI (PW.pt (Gq (Uo aK lC) aMT)) aMU)
  (Ak (nI (PW.pt (Gq (pL Li (tZ Rb aK) Ar) (Gq (vL (zP Ln aK eY) Ic) aMT))) aMU)
  (oM aK))),5)
 refine(0,_,mG (rE e),5);rcases AsR ss with rfl|⟨r,z,rfl⟩
 .refine Az cF;refine(78,0,mG e,8,0,nG Az aAl);exact k a H eQ e
 rw[Atk] at e f g k;have hlen:aFS.length=r.length+1:=aC;have i:BX aFS (-1)=some (oW z):=by have:aFS=sv r++[oW z]:=aC;rw[this];exact U0 _ _
 have hz:=f z aC;have he:oZ (!aFS.isEmpty):=aC;rw[Atk,he];refine eF;refine(mKA i hz);have j:=Ahd r z;rw[Fo];by_cases l:Dp z=true
 .rw[l];refine mKB a e;refine aMV;rw[Af,show(-(1:Int))= -((1:Nat):Int) from rfl,Se _ 1 aA aA,hlen,j,mJ l];simp
 have m:qP Dp z:=(mR l);rw[m];refine cF;refine(zQ a e);rw[hlen];refine ZK (λn=>?_) (λhle=>?_)
 .have o:1<=r.length:=(mCL Aut n);obtain⟨q,b,rfl⟩:∃q b,r=q++[b]:=by
   rcases AsR r with rfl|⟨q,b,rfl⟩
   .simp at o
   exact(q,b,Atk ..)
  have hb:=f b aC;have u:BX (sv (q++[b]++[z])) (-2)=some (oW b):=by refine Alg (sv (q++[b]++[z])) 2 aA aC ?_;simp
  refine(16,a,36,e,i,80);rw[AkN Alf];by_cases hm:z=[109]
  .rw[mW hm];refine eF;refine(mKA u hb);rw[Fo];by_cases v:Dp b=true
   .rw[v];refine mKB a e;refine aMV;rw[Af,show(-(2:Int))= -((2:Nat):Int) from rfl,Se _ 2 aA aC,j,mM l,mJ (hm,b,9,v)];simp
   have x:qP Dp b:=(mR v);rw[x];refine Az aI6;rw[j,mM l,Asa]
   .exact e
   rintro⟨_,y,B,C⟩;simp at B;subst B;rw[x] at C;cases C
  rw[mT hm];refine nG Az aI6;rw[j,mM l,vQ hm q.1];exact e
 have D:r=[]:=by have G:¬((1:Int)<((r.length+1:Nat):Int)):=λq=>hle (mW q);exact uV aA
 subst D;refine jT.mpr aI6;rw[j,mM l,Asa (λq=>by obtain⟨_,b,hb,_⟩:=q;simp at hb)];exact e
theorem Alj(T:aE):A8 K H t.Pa aFN:= mI T.AjY
theorem Alk(T:aE):A8 K H t.Pb aFO:= mI T.Aj_
theorem Alm(T:aE):A8 K H t.Pc aFP:= mI T.Akb
theorem Aln(c:Nat):wU [c] aFN=Mx c:=by rw[show wU [c] aFN=_ from(Mb [c] [("x":Str),"z"] [[120],[122]] aFT)];unfold Mx;rw[Aty];simp
theorem Alo(c:Nat):wU [c] aFO=Kgz1.mute c:=by rw[show wU [c] aFO=_ from(Mb [c] [("b":Str),"c","d","f","g","p","t"] [[98],[99],[100],[102],[103],[112],[116]] aFT)];unfold Kgz1.mute;rw[Aty];simp
theorem Alp(c:Nat):wU [c] aFP=Kgz1.liquid c:=by rw[show wU [c] aFP=_ from(Mb [c] [("l":Str),"r"] [[108],[114]] aFT)];unfold Kgz1.liquid;rw[Aty];simp
abbrev cv(cs:aB):List V:=cs.map λc=> oW [c]
def Alq(K:PySem.W.Frag):Sp:=λvs H Q _=>∃(a:Addr)(cs:aB),vs=cR /\uS (cv cs)/\tE (Ez cs:Nat)
theorem Alr:AD aFo aFo (A0 ZS):=aG
theorem Adh(T:aE):A4 P w K mg base A9 1 t.Io t.Abf aFo (Alq K):=by
 refine T.Io.F.ok Alr cO (λf A outer s H vs Q E g h=>?_)
 .obtain⟨a,cs,rfl,_⟩:=h;rfl
 obtain⟨a,cs,rfl,i,k⟩:=h;obtain⟨l,m,n⟩:=T.AcG;obtain⟨o,p,u⟩:=T.Ake;obtain⟨x,y,z⟩:=T.Akf;obtain⟨B,C,D⟩:=T.Vz;refine(_,(Ak (nI (Ff (Uo aK lC)) (zR m n))
  (Ak (nI (PW.pt (Gq (yH (tZ Rb aK)) (Jk (wT YT aI7 (mB1 mF t.Pa T.AjX))))) (zR p u))
  (Ak (nI (PW.pt (Gq (yH (tZ Rb aK)) (Gq (wT ME aI7 (mB1 mF t.Pb T.AjZ)) (Jk (wT ME aI7 (mB1 mF t.Pc T.Aka)))))) (zR y z))
  (zR C D)))),5)
 refine(0,_,mG (rE i),5)
 match cs,i,k with
 |[],i,k=>exact Au k
 |[c],i,k=>
  refine cF;refine(mHK a i);refine(mHL i t.Pa Alj);rw[Aln]
  cases e:Mx c with
  |true=>
   refine cF;refine(mKC a i);simp only[Ez,e,if_true] at k;exact k
  |false=>
   refine eF;simp only[Ez,e,Bool.false_eq_true,if_false] at k;exact k
 |[b,c],i,k=>
  refine cF;refine(mKC a i);refine(mHK a i);refine(mHL i t.Pb Alk);rw[Alo]
  cases e:Kgz1.mute b with
  |false=>
   refine Az cF;simp only[Ez,e,Bool.false_and,Bool.false_eq_true,if_false] at k;exact k
  |true=>
   refine eF;refine(mHL i t.Pc Alm);rw[Alp]
   cases G:Kgz1.liquid c with
   |false=>
    refine cF;simp only[Ez,e,G,Bool.and_false,Bool.false_eq_true,if_false] at k;exact k
   |true=>
    refine eF;simp only[Ez,e,G,Bool.and_true,if_true] at k;exact k
 |b::c::d::r,i,k=>
  refine cF;have I:∀j:Int,j<=2->decide (mO ((cv (b::c::d::r)).length:Nat)=mO j)=false:=by
   intro j hj;apply Ar_;intro q;injection q with q
   simp at q;omega
  refine(mFj a mG i);rw[I 1 aZ];refine Az cF;refine(mFj a mG i);rw[I 2 aZ];exact nG Az k
def Als:Sp:=λvs H Q _=>∃(x y:Nat),vs=[aCi,mE (y:Int)]/\tE (BE x y:Nat)
theorem Fp(x y:Nat):decide (mO (x:Int)=mO (y:Int))=decide (x=y):=by grind
theorem Alt:AD aFp aFp (A0 ZT):=aG
theorem Sf(T:aE):A4 P w K mg base A9 1 t.Fj t.Abg aFp Als:=by
 refine qT T.Fj.F.ok Alt
 .obtain⟨x,y,rfl,_⟩:=h;rfl
 obtain⟨x,y,rfl,k⟩:=h;obtain⟨c,d,e⟩:=T.AcG;obtain⟨f,g,i⟩:=T.LZ;obtain⟨j,l,m⟩:=T.Vz;refine(_,(Ak (nI (PW.pt (Id (mDw g i) (JX (vL aP (nP d e))))) (oM aK))
  (Ak (nI (mDw d e) aCh)
  (zR l m))),5)
 refine iA;unfold BE at k;rw[show decide (mO (x:Int)=mO 4)=decide (x=4) from Fp x 4];by_cases n:x=4
 .rw[mW n];rw[mJ (mG n)] at k;exact nG Au aI8
 rw[mT n];refine Az iA;rw[show decide (mO (y:Int)=mO 0)=decide (y=0) from Fp y 0];by_cases o:y=0
 .rw[mW o];rw[mJ (mI o)] at k;exact Au aI8
 rw[mT o];rw[mM (λq=>q.elim n o)] at k;refine Az iA;rw[show decide (mO (x:Int)=mO 0)=decide (x=0) from Fp x 0];by_cases p:x=0
 .rw[mW p];rw[mJ p] at k;exact Au aI8
 rw[mT p];rw[mM p] at k;exact Az k
abbrev iv(l:aB):List V:=l.map λ(n:Nat)=>mO (n:Int)
abbrev VD(Bk:Nat)(q:Addr):List gC:=[("lead",mE (Bk:Int),),("weights",mF q,)]
def DE(t:Aw)(H:Hp)(p:Addr)(sh:BU):Prop:=∃dx q,H p=oN t.FR (VD sh.Bk q)/\H q=oC sh.A2
theorem DE.same(h:wV p sh)(s:aO):DE t H' p sh:=by obtain⟨dx,q,g,i⟩:=h;exact(dx,q,nM g,nM i)
structure Alu(H0 H:Hp)(L R:Addr)(rl:bW)(lg:mZ Bool)(ps:aQ):Prop where
 r:H R=some (yI ps.map)
 l:H L=some (tH lg.map V.bl)
 len:ps.length=rl.length
 at_:∀(j:Nat)(p:Addr)(c:aB),ps[j]? =mB p->rl[j]? =bT ->H p=some (tH cv c)
 nd:ps.Nodup
 lp:L∉ps
 rp:R∉ps
 lr:L≠R
 new:H0 L=none/\H0 R=none/\∀p∈ps,H0 p=none
def VE(K:PySem.W.Frag)(t:Aw):Sp:=λvs H Q _=>∃(p dx a:Addr)(ss:dH),vs=[aS,aJ]/\H p=rX t.FR/\uS (sv ss)/\ aEJ /\ss.length<=1000/\
 ∀H',aMW ->(∃q,H q=none/\H' p=oN t.FR (VD (DU hM).Bk q)/\H' q=oC (DU hM).A2)-> cW
abbrev Alv:List Str:=aMX
theorem Mc:AD aMX aIN (A0 UW):=aG
theorem Adi(T:aE):A4 P w K mg base A9 2 t.LB t.Abh aIN (VE K t):=by
 refine pF T.LB.F.ok Mc
 .obtain⟨p,dx,a,ss,rfl,_⟩:=h;rfl
 obtain⟨p,dx,a,ss,rfl,hp,ac,ae,af,k⟩:=h;obtain⟨ag,ah,ai⟩:=T.Vz;refine(_,(Ak (qJ Mc.nd dM)
  (Ak (rW Mc.nd (rY dM))
  (Ak (BS Asq rfl (pT aP) (oJ 4 Mc.nd) (Ao (AU (D9 (Bb (Sd T) bR rfl T.Fi.m T.Fi.F.kp T.Fi.b .nil Ay lE)) (Ak (Cu (mDx (mU (Bb (Ale T) bR rfl T.L9.m T.L9.F.kp T.L9.b .nil Ay lE))))
  (Ao (Cu (mHM bB dM)))) (Ao (Cu (Dz (K:=K) rfl As3 AsH AsK E_ (qU bB eY) lE))))))
  (Ak (nW (mKD (mU (vM B9 3))))
  (Ao (AX aK (Dk rfl Mc.nd (mB3 (zS aX (mDy IG bB))) (BZ (own:=[("is_heavy",5,),("run",6,)]) (yF Alv UW)) (λ_ _ _ _ _=>(mKE (CG (AI (i:=5) Mc.nd rfl aFm) (CG (AI (i:=6) Mc.nd rfl aFm) F2)))) cK (λ_ _ _ _ _=>(Ie (D9 bJ) (nP ah ai) (mKD (mU cA))))) rfl)))))),5)
 refine(aT,λL aj=>(aT,λd ak=>(92,λR al=>?_)));have am:Ab H (pK H L):=mS aj;have s0:Ab H (mDz H L):=pC am ak;have an:L≠d:=AR (Af:Aa H L aDF L=_) ak;have ao:L≠R:=AR (by rw[Ah an];exact Af:(mDz H L) L=some _) al;have ap:d≠R:=AR (Af:(mDz H L) d=some _) al;refine(78,2,(_,(pC s0 al).seq ac),E4 (K:=K) (a:=a) (xs:=sv ss) (λi σ H1=>∃(v:bQ)(f:aQ),σ=[bM,mH a,mH L,mH R,v,none,none]/\ fP /\Alu H H1 L R (DK iZ) (EI iZ) f/\(∀c∈DK iZ,c.length<=i)/\(EI iZ).length<=i/\f.length<=i+1)
  (61,[d],2,pC s0 al,(Af,by rw[Ah ao,Ah an,Af];rfl,2,5,9,by simpa using an,by simpa using ap.symm,ao,aj,s0.free al,by simpa using(am.free ak)),by simp[DK,Bs],by simp[EI,Bs],9)
  (λi σ l _ (_,_,_,s2,_)=>s2.seq ac) ?_ ?_)
 .intro j q c m u
  cases j with
  |zero=>
   simp at m;simp only[List.take_zero,List.map_nil,DK,Bs,List.getElem?_cons_zero,Option.some.injEq] at u;subst m;subst u;rw[Ah ap,Af];rfl
  |succ j=>simp at m
 .rintro i x σ H1 C ⟨v,f,rfl,aq,G,ar,as,au⟩;obtain⟨z,hz,rfl⟩:∃z,ss[i]? =mB z/\x= .str (mk z):=by
   rw[ArY] at C
   cases e:ss[i]? with
   |none=>rw[e] at C;cases C
   |some z=>rw[e] at C;exact(tI z C)
  have av:i<ss.length:=(nL hz).1;have aw:=ae z (Asl hz);have I:(vF ss.take).map BO=(ss.take i).map BO++[BO z]:=by rw[AsA,hz,Atp,As7];rfl
  have J:=Q5 aw;have M:uJ DK iZ f.length:=G.len.symm;refine(16,(K7 aw).1,by rw[BT];have:=K7 aw;omega,0,5);rw[Fo];by_cases ax:Dp z=true
  .rw[ax];refine eF;rw[ax,bF] at J;obtain⟨ay,N⟩:=AgX iZ (HY z);refine(0,pY G.l,0,z,2,aw,L,8,G.l,fR,5);have az:∀q,H1 q=none->q≠L:=λq h e=>(by subst e;rw[G.l] at h;cases h);have RR:(Aa H1 L (.Ac ((EI iZ).map V.bl++[V.bl (HY z)]))) R=some (yI f.map):=(wW G.lr G.r);refine(0,pY RR,aT,λq hq=>(213,0,2,5,fR,5))
   .rw[nX (λe=>by subst e;rw[RR] at hq;cases hq)];exact RR
   have a0:q≠R:=λe=>(mKF RR);have a1:q≠L:=λe=>(mKF Af);have a2:mV H1 q:=(by rw[Ah a1] at hq;exact hq);have a3:q∉f:=λhm=>by obtain⟨j,hj,a4⟩:=Asy hm;have:=G.at_ j q (DK iZ)[j] (pJ cT a4) fN;rw[this] at a2;cases a2
   have a5:mV H q:=aq.free a2;refine(_,f++[q],2,179,(53,53,53,5,G.lr,G.new.1,G.new.2.1,5),53,5)
   .rw[oF G.new.2.1,oF a5,oF G.new.1];exact qD aq
   .rw[Af,As7];rfl
   .rw[Ah G.lr,Ah a1.symm,Af,I,J,N,As7];rfl
   .rw[I,J,ay,Asi,Asi,G.len];rfl
   .intro j b c m u;rw[I,J,ay] at u;by_cases hj:j<f.length
    .rw[Ask hj] at m;rw[Ask aA] at u;have hb:b∈f:=Asl m;rw[Ah (λ(e:b=R)=>G.rp (e▸hb)),Ah (λ(e:b=q)=>a3 (e▸hb)),Ah (λ(e:b=L)=>G.lp (e▸hb))];exact G.at_ j b c m u
    have a6:=(nL m).1;simp at a6;have a4:j=f.length:=aA;subst a4;rw[lB] at m;rw[eN] at u;simp only[Nat.sub_self,List.getElem?_cons_zero,Option.some.injEq,M] at m u;subst m;subst u;rw[Ah a0,Af];rfl
   .rw[AsT];exact(G.nd,9,λb hb c hc=>by simp at hc;subst hc;exact λe=>a3 (e▸hb))
   .simp;exact(G.lp,a1.symm)
   .simp;exact(G.rp,a0.symm)
   .intro b hb;simp at hb;rcases hb with hb|rfl
    .exact nN G.new.2.2
    exact a5
   .rw[I,J,ay];intro c hc;simp only[List.mem_append,List.mem_singleton] at hc;rcases hc with hc|rfl
    .exact Nat.le_succ_of_le (ar c hc)
    simp
   .rw[I,J,N,Asi];show _+1<=_;omega
   simp;omega
  have a7:qP Dp z:=(mR ax);rw[a7];refine cF;rw[a7,jT] at J;obtain⟨_,a8⟩:=TR aw a7;obtain⟨ay,N⟩:=AgY iZ (z.headD 0);obtain⟨a9,cl,O⟩:∃a9 cl,DK iZ=a9++[cl]:=by
   rcases AsR (DK iZ) with h|⟨q,b,h⟩
   .exact nK h (by unfold DK;simp)
   exact(q,b,157)
  obtain⟨ba,pl,U⟩:∃ba pl,f=ba++[pl]:=by
   rcases AsR f with h|⟨q,b,h⟩
   .rw[h,O] at M;simp at M
   exact(q,b,157)
  have bb:ba.length=a9.length:=by rw[O,U] at M;simp at M;exact M.symm
  have bc:tJ H1 pl (cv cl):=G.at_ ba.length pl cl (pP U) (by rw[O,bb];simp);have bd:cl.length<=i:=ar cl (pP O);refine(16,213,_,nE pl,26,mN G.r,by rw[U,As7];exact U0 _ _,pY bc,0,pl,8,bc,fR,5);have be:pl∈f:=(pP U);have bf:R≠pl:=λe=>G.rp (e▸be);have bg:L≠pl:=λe=>G.lp (e▸be);refine(_,f,2,179,(53,53,G.nd,G.lp,G.rp,G.lr,G.new),53,5)
  .rw[oF (G.new.2.2 pl be)];exact qD aq
  .rw[Ah bf];exact G.r
  .rw[Ah bg,I,J,N];exact G.l
  .rw[I,J,ay,O,U];simp[bb]
  .intro j b c m u;rw[I,J,ay,O] at u;simp only[List.dropLast_concat,List.getLast?_append,List.getLast?_singleton,Option.some_or,Option.getD_some] at u;by_cases hj:j<ba.length
   .have bh:pO ba[j]? b:=(by rw[U,Ask hj] at m;exact m);rw[Ask aA] at u;have bi:b≠pl:=by
     intro e;subst e;have nd:=G.nd;rw[U,AsT] at nd;exact nd.2.2 b (Asl bh) b aC rfl
    rw[Ah bi];exact G.at_ j b c m (by rw[O,Ask aA];exact u)
   have a6:=(nL m).1;rw[U] at a6;simp only[List.length_append,List.length_cons,List.length_nil] at a6;have a4:j=ba.length:=aA;subst a4;rw[U,lB] at m;rw[eN] at u;simp only[Nat.sub_self,List.getElem?_cons_zero,Option.some.injEq,bb] at m u;subst m;subst u;rw[Af,show cv (cl++[z.headD 0])=cv cl++[sN [z.headD 0]] by simp,<-a8]
  .rw[I,J,ay,O];simp only[List.dropLast_concat,List.getLast?_append,List.getLast?_singleton,Option.some_or,Option.getD_some];intro c hc;simp only[List.mem_append,List.mem_singleton] at hc;rcases hc with hc|rfl
   .exact Nat.le_succ_of_le (ar c (by rw[O];simp[hc]))
   simp;omega
  .rw[I,J,N];omega
  omega
 rintro σ H1 ⟨v,f,rfl,aq,G,ar,as,au⟩;have bj:(ss.take (sv ss).length).map BO=ss.map BO:=(pJ ArX AsC);rw[bj] at G ar as;rw[ArX] at as au;have bk:=AgZ hM;obtain⟨bl,pt,Y⟩:∃bl pt,f=bl::pt:=by
  cases f with
  |nil=>have:=G.len;unfold DK at this;simp at this
  |cons x y=>exact aFU
 obtain⟨c1,ct,M⟩:∃c1 ct,DK hM=c1::ct:=aI9;have bm:pt.length=ct.length:=(by have:=G.len;rw[Y,M] at this;simpa using this);have bn:uJ EI hM ct.length:=by
  have m:ct=(Bs hM).2.map (·.2):=by have:=M;unfold DK at this;injection this with _ q;exact q.symm
  rw[m];unfold EI;simp
 rw[M] at bk;simp at bk;refine(0,213,_,nE bl,26,mN G.r,mB4 (qO Y),bl,c1,2,mN (G.at_ 0 bl c1 (qO Y) (qO M)),72,mC aq hp,65,aZ,5);have bo:∀q∈f,q≠p:=λq hq e=>(by subst e;rw[G.new.2.2 q hq] at hp;cases hp);generalize bp:mY H1 aMY=l;have N:∀b,b≠p->l b=H1 b:=λb hb=>(mBU bp gX);have bq:oI l p aMY:=(zT bp);have br:oI l L (tH (EI hM).map V.bl):=(by rw[mHN N L G.new.1];exact G.l);refine(42,R,0,mN (by rw[mHN N R G.new.2.1];exact G.r),λS bs=>?_);have bt:mHO f.map pt.map:=by unfold Dx;rw[show(mB (1:Int))=mB ((1:Nat):Int) from rfl,HT.Hz,HT.Ki,Y];simp only[List.map_cons,List.length_cons,List.length_map];rw[show min 1 (pt.length+1)=1 by omega,Auz,Atv,At6];exact AsW aC
 rw[bt];have s3:Ab l (nD l S (nH pt.map)):=mS bs;generalize bu:nD l S (nH pt.map)=bv at s3;have bw:tJ bv S (nH pt.map):=(zT bu);refine(L,S,3,nA s3 br,mN bw,λD bx=>?_);refine F6 ct.length bx (AL (by have:=G.len;rw[Y,M] at this;rw[Y] at au;simp at this au;omega)) (λj v _=>∃g c,(EI hM)[j]? =mB g/\ct[j]? =bT /\v= mE ((if g then 3 else Ez c:Nat):Int)) hZ
  (λi bz C s4=>(49,nA s4 (rZ br),nA s4 bw,214,214))
  (λbz s4=>(mHP s4 (rZ br) bw)) ?_ ?_ V5 F7
 .rintro i bz y b0 C s4 b1 ⟨b2,b3,b4,rfl,b5,rfl,b6,b7⟩ Kt b8;have b9:=b6 _ (nA s4 (rZ br));have ca:=b7 _ (nA s4 bw);rw[ArY,fN] at b9 ca;simp at b9 ca;subst b9;subst ca;have s5:∀o,Ab bz (Aa bz b2 o):=λo=>mS b5;have cb:tJ bz pt[i] (cv ct[i]):=by
   apply s4;apply s3;have hm:pt[i]∈f:=(by rw[Y];exact rM (Asw _));rw[N _ (bo _ hm)];exact G.at_ (i+1) pt[i] ct[i] (pP Y) (pP M)
  refine(mDA b2 Af yG);refine aAm
  cases hg:(EI hM)[i] with
  |true=>
   refine eF;exact b8 _ _ (s5 _) (true,100)
  |false=>
   refine Az (0,pt[i],ct[i],2,mN (sL s5 cb),5);exact b8 _ _ (s5 _) (182,100)
 intro bz ys s4 hy cc cd;refine(72,nV s4 s3 bq,T.DQ.c,T.GZ,198);have ce:ys=iv (mJw (EI hM) ct):=by
  apply AsJ;intro j;rw[ArY];by_cases hj:j<ct.length
  .obtain⟨v,ax⟩:∃v,ys[j]? =some v:=(_,fN);obtain⟨g,c,hg,hc,rfl⟩:=cd j v ax;rw[ax,List.getElem?_zipWith,hg,hc];rfl
  rw[lD,As9 (qQ List.length_zipWith)];rfl
 have cf:D≠p:=λe=>(by subst e;rw[rZ bq] at bx;cases bx);refine k _ aIl (D,53,5)
 .rw[gX];exact mC s4 (rZ (by rw[nN N];exact qD aq))
 .cases cg:H D with
  |none=>rfl
  |some o=>
   have:=rZ (by rw[N D cf];exact aq D o cg);rw[this] at bx;cases bx
 .rw[Af,bk];rfl
 rw[Ah cf,hy,ce,bk]
structure Wd where
 vf:Nat
 DF:BU
 CO:BU
deriving DecidableEq
def Hb(x:Vf.Txt):Wd:=(GP (Cg 0 x),mDB DU x,DU (mDB Kgz1.cut x))
abbrev Adj(vf:Nat)(q:Addr):List gC:=[("vowel_first",mE (vf:Int),),("shapes",mF q,)]
def Er(t:Aw)(H:Hp)(p:Addr)(wd:Wd):Prop:=∃dx q a b,H p=oN t.IC (Adj wd.vf q)/\H q=oO aAk /\wV a wd.DF/\wV b wd.CO
theorem Er.same(h:Er t H p wd)(s:aO):Er t H' p wd:=by obtain⟨dx,q,g,i,j,u,v,h4⟩:=h;exact(dx,q,g,i,nM j,nM u,v.same s,h4.same s)
def nw(H:Hp)(p:Addr)(H':Hp):Hp:=λb=>if H b=none\/b=p then H' b else none
theorem Ps(h:mV H b):nw H p H' b=H' b:=mJ (mG h)
theorem Alw:nw H p H' p=H' p:=mJ eB
theorem Adk:Ab aFV H':=λb o h=>by
 unfold nw at h;split at h
 .exact h
 cases h
def HH(D:Addr)(H:Hp):Hp:=λb=>if b=D then none else H b
theorem Alx:Ab (HH D H) H:=λb o h=>by
 unfold HH at h;split at h
 .cases h
 exact h
theorem VF(h:b≠D):HH D H b=H b:=mM h
theorem Aly(a:H D≠none)(hp:p≠D):Ab aFV (HH D H'):=λb o h=>by
 have h':=Adk b o h;unfold nw at h;split at h
 .rename_i hc;have hb:b≠D:=by
   rcases hc with hc|hc
   .rintro rfl;exact a hc
   rintro rfl;exact hp hc.symm
  rw[VF hb];exact h'
 cases h
def Alz(K:PySem.W.Frag)(t:Aw):Sp:=λvs H Q _=>∃(p dx:Addr)(x:Str),vs=[aS,dA]/\H p=rX t.IC/\ aR.all Kgz1.isLetter=true/\x.length<=1000/\
 ∀H',aMW ->Er t aFV p (Hb aR)-> cW
theorem Adl:AD (tK "text" "sounds") (qR "text") (A0 ZU):=aG
theorem Adm(T:aE):A4 P w K mg base A9 4 t.LC t.Abi (qR "text") (Alz K t):=by
 refine mDC T.LC.F.ok Adl
 .obtain⟨p,dx,x,rfl,_⟩:=h;rfl
 obtain⟨p,dx,x,rfl,hp,hx,ab,k⟩:=h;refine(_,(Ak (qJ Adl.nd (Bb (AkX T) eG rfl T.L7.m T.L7.F.kp T.L7.b .nil Ay dX))
  (Ak (nW (Ie (PW.pt (Gq (qY aX) (Jk (D9 (Bb (Sd T) eG rfl T.Fi.m T.Fi.F.kp T.Fi.b .nil Ay (mU gL)))))) Ar Ar))
  (Ao (nW (CV (Ad (mKG jX) (mU (mKG (mU (Bb (Ali T) eG rfl T.LA.m T.LA.F.kp T.LA.b .nil Ay jX)))))))))),5)
 have ac:=TL.Gv x;refine(0,x,2,ab,λa H1 ha s1 d=>?_);have f:=La 0 _ hx;have hlen:aCg.length<=1000:=(by have:=Q6 0 aR;omega);have ae:Hb aR=(GP aCg,DU (aCg.map BO),DU ((Hr aCg).map BO)):=by unfold Hb;rw[Aha f,(Mw 0 aR)]
 rw[ae] at k;generalize Cg 0 aR=ss at*;have g:=rF hp;have rest:∀(vf:Nat),vf=GP ss->∀l,l=mY H1 (mKH Int)->
  YF K (Bo 0) (QS (DY (QU t.FR (VE K t) [] E0 (vY Bo 2)) (DY (QU t.FR (VE K t) [] E0 (DY (QT (Adg K) [] E0 (vY Bo 2)) E5)) E5))) "shapes" {nx:=λ_ H'=>cW,rt:=Q} [bM,mB dA,mH a] l:=by
  intro vf af l m;have n:oI l p (mKH Int):=(pJ m Af);have u:∀b,b≠p->l b=H1 b:=λb hb=>(by rw[m,gX]);have v:tJ l a (sv ss):=(by rw[mHN u a ha];exact d);refine(0,λx0 y B ag ah=>?_);have C:Ab l (Aa (qX l y x0) x0 (.Ag t.FR y [])):=pC (mS ag) (wW ah B);refine(x0,y,a,ss,215,nA C v,f,hlen,λai aj (D,ak,e3,al)=>fT);have s3:Ab l ai:=λb o e=>aj b o (qD C) (AR e B);refine(78,ss,2,nA s3 v,f,hlen,λam G s4 an=>?_);intro I J L ao ap;have sB:Ab G (Aa (qX G J I) I (.Ag t.FR J [])):=pC (mS ao) (wW ap L);refine(I,J,am,Hr ss,215,sB.seq an,λs hs=>f s (Ahb hs),AsV (Ahc ss) hlen,λaq ar (M,as,au,av)=>fT);have s5:Ab G aq:=λb o e=>ar b o (qD sB) (AR e L);refine(mDD 2);have N:=qE s3 s4 s5;have O:=Ab.Aa (o:= .Al [nE x0,nE I]) hq;refine(72,nV O N n,66,198);have fr:∀b,l b=none->H b=none:=λb hb=>by
   by_cases e:b=p
   .subst e;rw[n] at hb;cases hb
   rw[u b e] at hb;exact s1.free hb
  have h0:=fr x0 B;have U:=fr I (mDE s3 s4 L);have Y:=fr D (C.free ak);have aw:=fr M (Ab.free (qE s3 s4 sB) as);have np:mEt p:=λb hb e=>(by subst e;rw[hb] at hp;cases hp);refine k _ aIl (dx,q,x0,I,by rw[Alw,Af,af];rfl,by rw[Ps (fr q (N.free hq)),Ah (λe=>by subst e;rw[mC N n] at hq;cases hq),Af],(y,D,by rw[Ps h0,Ah (np _ h0)];exact nV O s5 (mC s4 e3),by rw[Ps Y,Ah (np _ Y)];exact nV O s5 (mC s4 al)),(J,M,by rw[Ps U,Ah (np _ U)];exact mC O au,by rw[Ps aw,Ah (np _ aw)];exact mC O av));rw[gX];exact mC O (mC N (by rw[nN u];exact qD s1))
 refine(mFk d)
 cases ss with
 |nil=>exact nG Az (72,g,81,aZ,rest 0 rfl _ rfl)
 |cons z r=>
  have hz:=f z aC;refine Au (78,19,sN z,26,mN d,cP,0,(K7 hz).1,by rw[BT];have:=K7 hz;omega,0,5);rw[Fo]
  cases ax:Dp z with
  |true=>exact mKI Au 1
  |false=>exact mKI Az 0
end
end Vp
namespace Vp
open PySem PySem.Spec L2 Vf
section
variable {P:Program} {w:World} {K:PySem.W.Frag} {mg:aN} {base:Heap} {t:Aw}
open Classical in
noncomputable def only (N:aCj) (H:Hp):Hp:=λb=>if N b then H b else none
theorem VG(h:N b):only N H b=H b:=mJ h
theorem Ju:Ab (only N H) H:=λb o h=>by
 unfold only at h;split at h
 .exact h
 cases h
theorem Sg(h:only N H b=aI):N b:=by
 unfold only at h;split at h
 .assumption
 cases h
theorem VH(a:∀b,N b->c b)(e:∀b o,N b->H b=aI ->H' b=aI):Ab (only N H) (only c H'):=λb o h=>by have hb:=Sg h;rw[VG (nN a)];exact e b o hb (Ju b o h)
theorem Al0(h:∀b,H b=none->N b)(hp:N p):Ab aFV (only N H'):=λb o q=>by
 have a:=Adk b o q;unfold nw at q;split at q
 .rename_i hc;rw[VG (hc.elim (h b) λe=>e▸hp)];exact a
 cases q
def K8:Vf.Txt:=[97,98,99,100,101,102,103,104,105,106,107,108,109,110,111,112,113,114,115,116,117,118,119,120,121,122,65,69,73,79,85,89,32]
theorem Al1:tG (mHI zJ++zJ " ")=K8:=by decide+kernel
def Md(ns:bH):V:=if 1<=ns.length/\ns.length<=255 then K6 K8 ns else .Ax
def Al2(K:PySem.W.Frag):Sp:=λvs H Q _=>∃(a:Addr)(ns:bH),vs=cR /\ hW /\∀H',aO ->oV (Md ns)
theorem Al3:AD aA8 aA8 (A0 ZV):=aG
theorem VI(T:aE):A4 P w K mg base A9 2 t.Gy t.Abj aA8 (Al2 K):=by
 refine vZ T.Gy.F.ok Al3
 .obtain⟨a,ns,rfl,_⟩:=h;rfl
 obtain⟨a,ns,rfl,d,k⟩:=h;obtain⟨e,f,g⟩:=T.V0;obtain⟨i,j,l⟩:=T.AcC;obtain⟨m,n,o⟩:=T.AcD;refine(_,(Ak (zO (mHQ aAn (nP f g)))
  (Ao (A3 (Bb (VC T) eG rfl T.Gx.m T.Gx.F.kp T.Gx.b .nil Ay (Ad aK (mU (AE Ah_ (nP j l) (nP n o)))))))),5)
 refine(zQ a d);unfold Md at k;rw[ArX];by_cases p:1<=ns.length
 .rw[mAP (ns.length:Nat)];refine aDG;by_cases r:ns.length<=255
  .rw[mW (by omega:((ns.length:Nat):Int)<=255)];rw[mJ (p,r)] at k;refine Az (0,8,12,a,ns,0,d,4,12,λH' u=>?_);rw[Al1];exact k H' u
  rw[mT (by omega:¬((ns.length:Nat):Int)<=255)];rw[vQ r q.2] at k;exact mB5 H
 rw[mAQ (ns.length:Nat)];rw[vQ p q.1] at k;exact Az (0,mB5 H)
def Al4(K:PySem.W.Frag):Sp:=λvs H Q _=>∃(a:Addr)(xs:aL),vs=cR /\ eW /\rS (decide (1<=xs.length/\xs.length<=64))
theorem Al5:AD aFq aFq (A0 ZW):=aG
theorem Adn(T:aE):A4 P w K mg base A9 1 t.Ip t.Abm aFq (Al4 K):=by
 refine vZ T.Ip.F.ok Al5
 .obtain⟨a,xs,rfl,_⟩:=h;rfl
 obtain⟨a,xs,rfl,d,k⟩:=h;obtain⟨e,f,g⟩:=T.AcH;refine(_,(wA (Ul DB DB Ar aAn (nP f g))),78,0,mG d,58);by_cases i:1<=xs.length
 .rw[mAP (xs.length:Nat)];refine Au aFW;show Q (V.bl (decide (((xs.length:Nat):Int)<=64))) H;rw[show decide (((xs.length:Nat):Int)<=64)=decide (1<=xs.length/\xs.length<=64) from aC4];exact k
 rw[mAQ (xs.length:Nat)];refine cF;rw[mT (λq=>i q.1)] at k;exact k
def CP:dY -> fX
 |[]=>[]
 |[a]=>[a.DF]
 |a::b::r=>(if b.vf=1 then a.CO else a.DF)::CP aA3
theorem VJ:∀ws:dH,(∀x∈ws,iB=true)->CP (ws.map Hb)=HV ws
 |[],_=>rfl
 |[a],_=>rfl
 |a::b::r,h=>by
  have c:=VJ aA3 λx hx=>gI;have d:=(Yc (La 0 b (h b aC))).1;rw[Mw] at d;simp only[List.map_cons,CP,Kgz1.left] at c⊢;rw[c];congr 1;show(if GP (Cg 0 b)=1 then DU (mDB Kgz1.cut a) else mDB DU a)=_;simp only[d];split<;>rfl
theorem Ado:∀(BQ:dY)(j:Nat)(wd:Wd),BQ[j]? =mB wd->(CP BQ)[j]? =mB (if aDH.getD j 0=1 then wd.CO else wd.DF)
 |[],j,wd,h=>by simp at h
 |[a],0,wd,h=>by simp at h;subst h;simp[CP]
 |[a],j+1,wd,h=>by simp at h
 |a::b::r,0,wd,h=>by simp at h;subst h;simp[CP]
 |a::b::r,j+1,wd,h=>by
  simp only[CP,List.getElem?_cons_succ,(Ado aA3 j wd fB)];simp
theorem Adp:∀BQ:dY,(CP BQ).length=BQ.length
 |[]=>rfl
 |[a]=>rfl
 |a::b::r=>by simp only[CP,List.length_cons,Adp aA3]
theorem Sh(c:Nat):∀(l acc:Vf.Txt),TL.DC [c] 0 acc l=Kgz1.parts c l acc
 |[],acc=>rfl
 |d::r,acc=>by
  unfold TL.DC Kgz1.parts;have hp:TL.pre [c] kL=(d==c):=by unfold TL.pre;simp
  rw[hp];by_cases e:d=c
  .subst e;simp;congr 1;exact Sh d r []
  have:pH (d==c):=hL;rw[this,bP];simp;exact Sh c r (acc++[d])
theorem NJ(x y:Str)(c:Nat)(hy:tG y=[c])(hc:c<256):Txt.split x y=(sP c aR).map mk:=by
 apply TL.Z5;have hk:y.cps.all (·<256)=true:=by have:y=mk [c]:=Pp hy;subst this;simp[hc]
 rw[TL.AjE x y (pP hy) (TL.AjF hk),hy,Sh,AsB]
 conv=>lhs;rw[<-List.map_id (sP c aR)]
 rfl
theorem Me(c:Nat):∀(b w:Vf.Txt),aJa.length<=b.length+1/\∀p∈ aJa,p.length<=b.length+w.length
 |[],w=>by simp[Kgz1.parts]
 |d::r,w=>by
  unfold Kgz1.parts;split
  .have:=Me c r [];grind
  have:=Me c r aCX;grind
theorem Al6:uU " "=[32]:=by decide+kernel
def Al7(t:Aw)(H:Hp)(a:aQ)(b:fX):Prop:=a.length=b.length/\∀(j:Nat)(p:Addr)(sh:BU),a[j]? =mB p->b[j]? =mB sh->wV p sh
def Al8(K:PySem.W.Frag)(t:Aw):Sp:=λvs H Q _=>∃(x:Str),vs=[dA]/\Kgz1.okLine aR=true/\x.length<=1000/\
 ∀D H',aO ->H D=none->(∃a,H' D=aCk /\Al7 t (only (λb=>H b=none/\b≠D) H') a (HV (wX aR)))->oQ D
theorem Si:∀zs:aL,(∀v∈zs,∃p:Addr,v= aS)->∃a:aQ,zs=nH a.map
 |[],_=>([],2)
 |v::r,h=>by
  obtain⟨p,rfl⟩:=h v aC;obtain⟨a,e⟩:=Si r λx hx=>gI;exact(p::a,by rw[e];rfl)
theorem Al9(f:α->Bool)(l:cM)(i:Nat)(x:α)(h:l[i]? =aW):(vF l.take).filter f=(l.take i).filter f++(if f x then[x] else[]):=by rw[AsA,h,Atp,Ath];grind
abbrev VL:List Str:=aMZ
theorem Jv:AD aMZ lA (A0 OZ):=aG
theorem AlA(T:aE):A4 P w K mg base A9 6 t.LD t.Abk lA (Al8 K t):=by
 refine pF T.LD.F.ok Jv
 .obtain⟨x,rfl,_⟩:=h;rfl
 obtain⟨x,rfl,Av,ac,k⟩:=h;obtain⟨ae,af,ag⟩:=T.AcD;refine(_,(Ak (HD (i:=1) rfl Jv.nd rfl rfl iY (pT (MO aK aFX)) (qM ("part",2,) VL OZ) (pR 2 Jv.nd) (mHR (qY aX)) (λ_ _ _ _ _=>(Dc T.Fm.k (Adm T) bR rfl T.Fm.m T.LC.b .nil Ay jX)))
  (Ak (rW Jv.nd (AE HC (Dk rfl Jv.nd (pT (mDy IG aP)) (qM ("word",4,) VL OZ) (pR 4 Jv.nd) cK (qK gM)) (rY Ar)))
  (Ao (A3 (Dk rfl Jv.nd (mB3 (pM 1 3)) (BZ (own:=[("word",4,),("follower",5,)]) (yF VL OZ)) (qK (uA 4 Jv.nd 5)) cK (qK (tL gM bJ))))))),5)
 have ah:=TL.Gv x;have ai:=Me 32 aR [];have aj:=Ag_ Av;refine(0,bY,8,12,eE,216);rw[NJ x _ 32 Al6 aZ];rw[TM] at k aj;generalize Kgz1.parts 32 aR []=parts at*;have ak:parts.length<=1001:=aA;rw[show(parts.map mk).map V.str=sv parts by rw[AsB];rfl];generalize al:nD H a (sv parts)=am;have an:Ab H am:=(vT al mS ha);have ao:tJ am a (sv parts):=(zT al);refine(a,2,(oX ao),λD ap=>?_);have aq:=an.free ap;refine EA (J:=aAb) parts.length (λi H1=>Ab am H1/\∃c:aQ,H1 D=pU c.map/\c.length=(mKJ i).length/\∀(j:Nat)(p:Addr)(y:Vf.Txt),c[j]? =mB p->((parts.take i).filter λp=> !p.isEmpty)[j]? =mB y->Er t (only (λb=>H b=none/\b≠D) H1) p (Hb y))
  (mS ap,[],90,λj p y h=>by simp at h) (λi H1 d (s1,_)=>(tM s1 ao d)) (λH1 (s1,_)=>(_,nA s1 ao,9)) ?_ ?_
 .rintro i H1 y g d ⟨s1,c,l,m,u⟩ ⟨rfl,hy⟩;have z:=rJ s1 ao;rw[ArY,mK d] at z;simp at z;subst z;have ar:=ai.2 parts[i] (Asw d);simp only[List.length_nil,Nat.add_zero] at ar;have as:=Al9 (λp:Vf.Txt=> !p.isEmpty) parts i parts[i] (mK d);have au:mBm mKJ i 1001:=AsV (Aun ..) (qQ AsS);refine(31,_,(fQ,2),5);rw[BT];by_cases C:parts[i]=[]
  .have av:pH aM0:=(qO C);rw[av];refine Az (s1,c,l,53)
   .rw[as,C];simpa using m
   rw[as,C];simpa using u
  have av:oZ aM0:=by have:parts[i].length≠0:=λq=>C (uV q);simp only[bne_iff_ne,ne_eq];omega
  have aw:oZ (!parts[i].isEmpty):=(mR C);rw[av];refine Au (0,λp dx hp ax ay=>?_);have az:Ab g (mHS g t.IC):=mAR ax ay;refine(p,dx,mk parts[i],215,aj parts[i] (AtO.mpr (Asw d,aw)),by rw[BT];omega,λG a0 a1=>fT);have s3:Ab g G:=λb o e=>a0 b o (qD az) (AR e hp);have a2:Ab H g:=nB an s1;refine(nH c.map,rZ l,BA (mBF m),wB s1 s3 ap,c++[p],53,5)
  .rw[Af,As7];rfl
  .rw[as,aw,bF,Asi,Asi,m];rfl
  intro j q y I L;rw[as,aw,bF] at L;by_cases hj:j<c.length
  .rw[Ask hj] at I;rw[Ask (tV m hj)] at L;refine(u j q y I L).same aM1;rw[Ah hb.2];exact qD s3
  have a3:=(nL I).1;simp at a3;have a4:j=c.length:=aA;subst a4;rw[lB] at I;rw[Aso (Avy m.symm),<-m] at L;simp at I L;subst I;subst L;refine(a1.same (Al0 (N:=λb=>H b=none/\b≠D) (mAB (mDE a2 az hb,λe=>?_)) (a2.free hp,(λe=>by subst e;rw[l] at hp;cases hp)))).same aM1
  .subst e;rw[mC az l] at hb;cases hb
  rw[Ah hb.2];exact e
 rintro H1 ⟨s1,c,l,m,u⟩;rw[AsC] at m u;have au:aJb.length<=1001:=AsV (Aun ..) ak;have a5:=VJ aJb aj;rw[<-a5] at k;generalize a6:aJb.map Hb=BQ at*;have a7:c.length=BQ.length:=(by rw[<-a6,ArX];exact m);have a8:∀(j:Nat)(p:Addr)(wd:Wd),c[j]? =mB p->BQ[j]? =mB wd->Er t (only (λb=>H b=none/\b≠D) H1) p wd:=by
  intro j p wd I L;rw[<-a6,ArY] at L
  cases e:(parts.filter λp=> !p.isEmpty)[j]? with
  |none=>rw[e] at L;cases L
  |some y=>
   rw[e] at L;injection L with L
   subst L;exact u j p y I e
 have a9:BQ.length<=1001:=(by rw[<-a7,m];exact au);have ba:Ab H H1:=nB an s1;have bb:∀wd∈BQ,wd.vf<=1:=by
  intro wd hw;rw[<-a6] at hw;obtain⟨y,_,rfl⟩:=nY hw;show GP _<=1;unfold GP;split
  .omega
  split<;>omega
 clear u aj a6 a5 m;refine(16,D,0,mN l,λS bc=>?_);have bd:mHO c.map c.tail.map:=by
  unfold Dx;rw[show(mB (1:Int))=mB ((1:Nat):Int) from rfl,HT.Hz,HT.Ki]
  cases c with
  |nil=>rfl
  |cons a r=>
   simp only[List.map_cons,List.length_cons,List.length_map,List.tail_cons];rw[show min 1 (r.length+1)=1 by omega,Auz,Atv,At6];exact AsW aC
 rw[bd];have s2:Ab H1 (nD H1 S aJc):=mS bc;generalize be:nD H1 S aJc=g at s2;have bf:tJ g S aJc:=(zT be);refine(S,2,(oX bf),λbg bh=>?_);refine F6 (J:=pZ S) BQ.tail.length bh (AL (qQ AtI)) (λj v _=>∃wd,BQ.tail[j]? =mB wd/\v= aDI) hZ
  (λi G d s3=>(tM s3 bf aM2)) (λG s3=>(_,nA s3 bf,by rw[ArX,AtI,AtI];omega)) ?_ ?_ G_ F7
 .rintro i G y bi d s3 bj ⟨rfl,hy⟩ Kt bk;have z:=rJ s3 bf;have bl:i<c.tail.length:=aM2;rw[ArY,mK bl] at z;simp only[Option.map_some,Option.some.injEq] at z;subst z;obtain⟨dx,q,bm,bn,bo,bp,bq,br⟩:=(a8 (i+1) c.tail[i] BQ.tail[i] (by rw[List.getElem_tail];rw[AtI] at bl;exact fN) (by rw[List.getElem_tail];rw[AtI] at d;exact fN)).same (qE Ju s2 s3);refine(zU (0,19,dx,3,bo,81,2,5));exact mHT bk d
 intro G ys s3 hy bs bt;have bu:ys=iv aBf:=by
  apply AsJ;intro j;rw[ArY,ArY]
  cases e:ys[j]? with
  |none=>
   have:=iM;rw[lD];rfl
  |some v=>
   obtain⟨wd,I,L⟩:=bt j v e;rw[I,L];rfl
 refine(92,fK);have s4:=wC gE hb;refine(bg,b,ys,0,2,mC s4 hy,Af,AL (by simp only[List.length_cons,List.length_nil,bs,List.length_tail];omega),217);have s5:=wC (ys++gE) hf;generalize bv:Aa (nD G b gE) f (.Ac (ys++gE))=bw at s5;have bx:zV bw f aDH:=(mKK bv bu);have M:=qE s2 s3 (nB s4 s5);have bz:=mC M l;refine(16,D,f,3,mN bz,mN bx,λb0 b1=>?_);have b2:=mDE ba M b1;have b3:BQ.length<= aDH.length:=dR;refine F6 (J:=Lw K D f) BQ.length b1 eE (λj v H'=>∃p sh,(CP BQ)[j]? =mB sh/\v= aS /\DE t (only (λb=>H b=none/\b≠b0) H') p sh) (λj v O b4 (p,sh,I,L,b5) e=>(p,sh,I,L,b5.same (VH (mAB hb) λb o hb q=>e b o hb.2 q)))
  (λi O d U=>(mKL U bz bx))
  (λO U=>(mHP U bz bx)) ?_ ?_ V5 F7
 .rintro i O y b4 d U bj ⟨b6,b7,b8,rfl,b9,rfl,ca,cb⟩ Kt bk;have cc:=ca _ (nA U bz);have cd:=cb _ (nA U bx);have ce:i<c.length:=aA;have cf:i<aDH.length:=aA;rw[ArY,mK ce] at cc;rw[ArY,mK cf] at cd;simp only[Option.map_some,Option.some.injEq] at cc cd;subst cc;subst cd;have cg:∀o,Ab O (Aa O b6 o):=λo=>mS b9;have ch:Er t (only (λb=>H b=none/\b≠b0) (Aa O b6 (.Al [nE c[i],mO ((aBf++[0])[i]:Nat)]))) c[i] BQ[i]:=by
   refine(a8 i c[i] BQ[i] (mK ce) (mK d)).same λb o e=>?_;have hb:=Sg e;have Y:=qD Ju;rw[VG (hb.1,(λq=>by subst q;rw[mC M Y] at b1;cases b1))];exact sL cg (nV U M Y)
  obtain⟨dx,q,bm,bn,bo,bp,bq,br⟩:=ch;have cj:=Ado BQ i BQ[i] (mK d);have ck:aDH.getD i 0=(aBf++[0])[i]:=(vR Asv cf);rw[ck] at cj;have cl:(aBf++[0])[i]<=1:=by
   rcases pD (Asw cf) with h|h
   .obtain⟨wd,hw,e⟩:=nY h;rw[<-e];exact bb wd (List.mem_of_mem_tail hw)
   simp only[List.mem_singleton] at h;omega
  refine(mDA b6 Af yG);by_cases cm:(aBf++[0])[i]=1
  .refine(104,nE bn,26,rK Ju bp,AZ (qO cm),5);rw[mJ cm] at cj;exact mP bk (cg _) (bn,_,cj,2,br)
  have cn:(aBf++[0])[i]=0:=aA;refine(104,nE bm,26,rK Ju bp,AZ (qO cn),5);rw[mM cm] at cj;exact mP bk (cg _) (bm,_,cj,2,bq)
 intro O zs U hz co cp;obtain⟨cq,cr⟩:∃cq:aQ,zs=cq.map V.ref:=Si zs λv cs=>by obtain⟨j,hj,e⟩:=Asy cs;obtain⟨p,sh,_,L,_⟩:=cp j v aBg;exact(p,L)
 refine k b0 O (qE ba M U) b2 (cq,by rw[hz,cr],5,λj p sh I L=>?_)
 .rw[Adp,<-co,cr,ArX]
 obtain⟨ct,cu,Y,cx,e3⟩:=cp j aS (mFl cr I);rw[L] at Y
 cases Y;cases cx
 exact e3
end
end Vp
namespace Vp
open PySem PySem.Spec L2 Vf
section
variable {P:Program} {w:World} {K:PySem.W.Frag} {mg:aN} {base:Heap} {t:Aw}
theorem Pt(T:aE):A8 K H t.FT [bZ,bZ,mE 2,mE 1]:= mI T.Akg
theorem Pu{n:Nat}(h:n<=3):BX [mO 0,mO 0,mO 2,mO 1] (n:Int)=some (mE (BB n:Nat)):=by apply AZ;have:n=0\/n=1\/n=2\/n=3:=aA;rcases this with rfl|rfl|rfl|rfl<;>rfl
theorem Adq(cs:aB):Ez cs<=3:=by unfold Ez;grind
theorem VM(s:aCl):(DU s).Bk<=3/\∀x∈(DU s).A2,x<=3:=by
 refine(Adq _,eA);obtain⟨y,_,rfl⟩:=nY hx;split
 .omega
 exact Adq _
theorem AlB(ws:dH):∀sh∈HV ws,sh.Bk<=3/\∀x∈sh.A2,x<=3:=by intro sh h;obtain⟨y,_,rfl⟩:=nY h;exact VM y
theorem Jw(ha:a<=3)(hb:b<=3):BE a b<=3:=by
 unfold BE;split
 .exact ha
 split<;>omega
theorem Sj(l:aB)(a b:Nat):Gf (l++[a]) b=l++[BE a b]:=by unfold Gf;simp
theorem ArS(b:Nat):Gf [] b=[]:=rfl
theorem VN:∀s:aCl,(cS).2.length<=s.length
 |[]=>by simp[Bs]
 | .cons c::r=>by have:=VN r;simp only[Bs,List.length_cons];omega
 | .vowel g::r=>by have:=VN r;simp only[Bs,List.length_cons];omega
def Sk(n:Nat)(st:aCT):Prop:=st.1.length=st.2.length/\st.1.length<=n/\(∀x∈st.1,x<=3)/\∀x∈st.2,x=0\/x=4
theorem Pw(l:aB)(b:Nat):(Gf l b).length=l.length:=by
 rcases AsR l with rfl|⟨r,a,rfl⟩
 .rfl
 rw[Atk,Sj];simp
theorem Ads(h:mEm 3)(hb:b<=3):∀x∈Gf l b,x<=3:=by
 rcases AsR l with rfl|⟨r,a,rfl⟩
 .exact h
 rw[Atk] at h⊢;rw[Sj];intro x hx;rcases pD hx with hx|hx
 .exact h x aJd
 simp at hx;subst hx;exact Jw hK hb
theorem Adt(h:1<=n):(Gg n).length=n:=by unfold Gg;simp;omega
theorem AlC(h:Sk n st)(a:sh.Bk<=3)(hw:∀x∈sh.A2,x<=3):Sk (n+sh.A2.length) (CZ st sh):=by
 obtain⟨b,c,d,h4⟩:=h;unfold CZ;split
 .exact(by rw[Pw];exact b,by rw[Pw];omega,Ads d a,h4)
 rename_i e;have hp:aJe:=by grind
 refine(by simp only[List.length_append,Pw,Adt hp];omega,by simp only[List.length_append,Pw];omega,eA,eA)
 .rcases pD hx with hx|hx
  .exact Ads d a x hx
  exact pI hw
 rcases pD hx with hx|hx
 .exact pI h4
 unfold Gg at hx;grind
def D_(a:fX):Nat:=AM (a.map λs=>s.A2.length)
theorem VO:∀(a:fX)(n:Nat)(st:aCT),Sk n st->(∀sh∈a,sh.Bk<=3/\∀x∈sh.A2,x<=3)->Sk (n+D_ a) (a.foldl CZ st)
 |[],n,st,h,_=>by simpa[D_,AM] using h
 |s::r,n,st,h,hs=>by
  have:=VO r _ _ (AlC h (hs s aC).1 (hs s aC).2) λx hx=>pA hs x hx;rw[Ati];unfold D_ at this⊢;rw[Asn,C7,<-Nat.add_assoc];exact this
theorem Adu(b:fX)(i:Nat):D_ (b.take i)<=D_ b:=by
 unfold D_
 induction b generalizing i with
 |nil=>simp
 |cons a r c=>
  cases i with
  |zero=>simp[AM]
  |succ i=>
   rw[Auf,Asn,Asn,C7,C7];have:=c i;omega
theorem Adv:∀L:nG mZ Kgz1.Sound,yT (Kgz1.left L).map<=yT L.map
 |[]=>aD
 |[a]=>aD
 |a::b::r=>by
  have c:=Adv aA3;have hc:∀s:aCl,(Kgz1.cut s).length<=s.length:=by intro s;have d:s.reverse.length=s.length:=AvC;unfold Kgz1.cut;grind
  simp only[Kgz1.left,List.map_cons,C7] at c⊢;have:=hc a;split<;>omega
theorem Adw(p:Nat)(x:Vf.Txt):(Kgz1.sounds p x).length<=x.length:=by rw[<-Mw,ArX];exact Q6 p x
theorem AlD(l:Vf.Txt):yT (wX l).map<=l.length:=by
 rw[TM];have b:=My 32 l [];simp at b;refine AsV ?_ b;generalize Kgz1.parts 32 l []=c
 induction c with
 |nil=>exact aD
 |cons a r d=>
  rw[AuJ];split
  .rw[Asn,Asn,C7,C7];omega
  rw[Asn,C7];omega
theorem AlE(l:Vf.Txt):D_ (HV (wX l))<=l.length:=by
 unfold D_ HV;rw[AsB];have a:AM ((Kgz1.left aFY).map ((λs:BU=>s.A2.length)∘DU))<=AM (mAn (Kgz1.left aFY).map):=by apply Qt;intro s _;show((cS).2.map _).length<=_;rw[ArX];exact VN s
 have b:=Adv aFY;have c:yT aFY.map<=AM (mAn (wX l).map):=by rw[AsB];apply Qt;intro x _;exact Adw 0 x
 have h4:=AlD l;omega
def AlF(K:PySem.W.Frag):Sp:=λvs H Q _=>∃(x:Str),vs=[dA]/\Kgz1.okLine aR=true/\x.length<=1000/\
 ∀D H',aO ->H D=none->H' D=oC (Ck aR)->oQ D
theorem Adx(h:1<=n):FK n (-1)=some (n - 1):=by unfold FK;grind
theorem AlG(l:aL)(a b:V):(l++[a]).set ((l++[a]).length - 1) b=l++[b]:=by simp
theorem AlH(n:Nat):(pG n gE).flatten=List.replicate n (mO 0):=by
 induction n with
 |zero=>rfl
 |succ n a=>rw[AtC,Aub,a];rfl
abbrev Ady:List Str:=aM3
theorem IH:AD aM3 lA (A0 Rz):=aG
theorem Sl(T:aE):A4 P w K mg base A9 7 t.Fk t.Abl lA (AlF K):=by
 refine pF T.Fk.F.ok IH
 .obtain⟨x,rfl,_⟩:=h;rfl
 obtain⟨x,rfl,Av,ac,k⟩:=h;obtain⟨ae,af,ag⟩:=T.V1;obtain⟨ah,ai,aj⟩:=T.AcF;refine(_,(Ak (tY IH.nd dM)
  (Ak (qJ IH.nd dM)
  (Ak (BS Asq rfl (pT (Bb (AlA T) bR rfl T.LD.m T.LD.F.kp T.LD.b .nil Ay aBh)) (oJ 3 IH.nd) (Ak (nI (qY aP) (Ao (AhD (mKM (uW (qU aP eY) dI)) (AhC aP eY OM))))
  (Ao (AU (qY dI) (Ak (Cu (Dz (K:=K) rfl As3 Au2 AuZ Rh aP (mU dI)))
  (Ao (Cu (mKN (mU (AE HC (mDF (zW (uX pV 3))) (rY aFX))))))) AY))))
  (Ak (nI (Ff (qY aP)) (oM dM))
  (Ak (qN IH.nd (AE HC (Dk rfl IH.nd (pT (mDG aP eY)) (qM ("weight",5,) Ady Rz) (pR 5 IH.nd) cK (qK (mHU bJ))) (rY (nP ai aj))))
  (Ao (A3 (Dk rfl IH.nd (mB3 (pM 4 2)) (BZ (own:=[("length",6,),("end",7,)]) (yF Ady Rz)) (qK (uA 6 IH.nd 7)) cK (qK (AE DA cA eZ)))))))))),5)
 have ak:x.length=aR.length:=TL.Gv x;refine(aT,λc al=>(aT,λd am=>?_));have an:Ab H (pK H c):=mS al;have ao:Ab (pK H c) (mDz H c):=mS am;have ap:c≠d:=AR (Af:(pK H c) c=_) am;refine(0,x,2,Av,ac,λD H1 s1 aq (m,ar,as)=>?_);have au:=AlB (wX aR);have av:=AlE aR;have aw:Ck aR=Jb ((HV (wX aR)).foldl CZ ([],[],)):=rfl;rw[aw] at k;generalize HV (wX aR)=u at*;have ax:mV H D:=mDE an ao aq;have ay:m.length=u.length:=as.1;have az:∀(j:Nat)(p:Addr)(sh:BU),m[j]? =mB p->u[j]? =mB sh->∃dx q,(p≠c/\p≠d/\q≠c/\q≠d)/\H1 p=oN t.FR (VD sh.Bk q)/\H1 q=some (pW sh.A2):=by intro j p sh a0 C;obtain⟨dx,q,a1,a2⟩:=as.2 j p sh a0 C;have n1:=(Sg a1).1;have n2:=(Sg a2).1;have a3:∀b,(mDz H c) b=none->b≠c/\b≠d:=λb hb=>(λe=>(by subst e;rw[mC ao (Af:(pK H b) b=_)] at hb;cases hb),λe=>(by subst e;rw[Af] at hb;cases hb));exact(dx,q,((a3 p n1).1,(a3 p n1).2,(a3 q n2).1,(a3 q n2).2),mC Ju a1,mC Ju a2)
 refine(D,2,(oX ar),E4 (K:=K) (a:=D) (xs:=nH m.map) (λi σ G=>∃v,σ=(mKO c)/\(mHV G)/\G c=oC (mHW i).1/\G d=oC (mHW i).2)
  (61,2,λb o _ _ h=>h,nV s1 ao Af,rF Af) (λi σ G _ (_,_,C,_)=>Ae.of (C _ _ (λe=>by subst e;rw[mC ao (Af:(pK H D) D=_)] at aq;cases aq) (λe=>by subst e;rw[Af] at aq;cases aq) ar)) ?_ ?_)
 .rintro i y σ G I ⟨v,rfl,C,L,a4⟩;rw[ArY] at I;obtain⟨p,hp,rfl⟩:∃p,m[i]? =mB p/\y= .ref p:=by
   cases e:m[i]? with
   |none=>rw[e] at I;cases I
   |some p=>rw[e] at I;exact(tI p I)
  have a5:i<u.length:=(wY ay hp);obtain⟨dx,q,⟨n1,n2,n3,n4⟩,a1,a2⟩:=az i p u[i] hp (mK a5);have hle:=VO (u.take i) 0 ([],[],) aM4 λsh h=>au sh (Av2 h);have a6:=Adu u i;have a7:aJf.foldl CZ ([],[],)=CZ (mHW i) u[i]:=by rw[AsA,mK a5,Atp,At4];rfl
  have a8:D_ aJf <=D_ u:=Adu u (i+1);have a9:u[i].A2.length<=D_ u:=by
   have:D_ aJf=D_ (u.take i)+u[i].A2.length:=by unfold D_;rw[AsA,mK a5,Atp,As7];unfold AM;rw[At4];rfl
   omega
  rw[a7];generalize (u.take i).foldl CZ ([],[],)=st at*;obtain⟨ba,bb,bc,bd⟩:=hle;generalize u[i]=sh at*;have be:=C _ _ n3 n4 a2;have second:∀M(ws:aB),ws=aEy ->(mHV M)->M c=oC ws->M d=oC st.2->
   Ii (V7 K (mDH 3))
    (EL (OC (Rc K "list" U6 (Bo 1) (vY mDH 3)))
     (OC (Rc K "list" U6 (Bo 2) (DY (CU Za (CU Zb (Us (vY tC bZ)) (CU aHZ (Ut (mHl K) (vY mDH 3)) lF)) (Us (vY tC (mE 4)))) E5)))) Ih
    {nx:=λσ G=>∃v,σ=(mKO c)/\(mHV G)/\G c=oC (CZ st sh).1/\G d=oC (CZ st sh).2,rt:=Q}
    [mB dA,mH c,mH d,bM,none,none,none,none] M:=by
   intro M ws bf bg bh bi;have bj:=bg _ _ n1 n2 a1;have bk:=bg _ _ n3 n4 a2;have bl:ws.length=st.1.length:=(pJ bf Pw);refine(17,bj,27,_,mDI bk,5);by_cases N:sh.A2=[]
   .have O:pH (!aCm.isEmpty):=(qO N);rw[O];refine Az (0,bg,53)
    .unfold CZ;rw[mJ N,bh,bf]
    unfold CZ;rw[mJ N];exact bi
   have O:oZ (!aCm.isEmpty):=(mR N);have bm:aJe:=by have:sh.A2.length≠0:=λq=>N (uV q);omega
   rw[O];refine Au (0,pY bh,17,bj,27,c,q,8,bh,bk,AL (by simp only[List.length_map];omega),5);generalize bn:nD M c (iv ws++aCm)=U;have bo:zV U c (ws++sh.A2):=(by rw[<-bn,Af];simp only[iv,List.map_append]);have h4:∀b,b≠c->U b=M b:=λb hb=>(mBU bn gX);have bp:zV U d st.2:=(by rw[h4 d ap.symm];exact bi);refine(0,pY bp,92,lR);have s5:=wC gE hz;refine(17,mC s5 (by rw[h4 p n1];exact bj),27,q,0,wZ s5 (by rw[h4 q n3];exact bk),8,5);have bq:mDJ ((aCm.length:Nat):Int) sh.A2.length:=jY;refine(z,8,Af,by show -(2 ^ 63:Int)<=_;rw[bq];omega,by show _<(2 ^ 63:Int);rw[bq];omega,by show 1*_<=_;rw[bq,AtN];exact eE,λr ab=>?_);have br:aM5.flatten=iv aFZ:=by rw[bq,AtN,AlH];simp only[iv,List.map_replicate];rfl
   generalize bs:Aa (nD U z gE) r (.Ac aM5.flatten)=bt;have bu:Ab (nD U z gE) bt:=(vT bs mS ab);refine(92,217);have Y:=wC [mO 4] hf;refine(r,f,8,mC Y (by rw[<-bs,Af,br]),Af,AL (by simp only[List.length_map,List.length_replicate,List.length_cons,List.length_nil];omega),211);generalize bv:Aa (nD bt f [mO 4]) g (.Ac (iv aFZ++[mO 4]))=bw;have bx:zV bw g aBG:=(by rw[<-bv,Af];simp only[iv,Gg,List.map_append];rfl);have bz:Ab U bw:=nB s5 (qE bu Y (vT bv mS hg));refine(d,g,8,mC bz bp,bx,AL (by simp only[List.length_map,Adt bm];omega),0,λb o b0 b1 e=>?_,53)
   .rw[Ah b1];exact mC bz (by rw[h4 b b0];exact bg b o b0 b1 e)
   .rw[Ah ap,mC bz bo];unfold CZ;rw[mM N,bf]
   rw[Af];unfold CZ;rw[mM N];simp only[iv,List.map_append]
  refine(mFk L);rcases AsR st.1 with b2|⟨r,a,b3⟩
  .have O:pH aF0:=(qO b2);rw[O];refine Az (second G st.1 (qO b2) C L a4)
  rw[Atk] at b3;have O:oZ aF0:=(pP b3);have b4:aCn=iv r++[yJ mO]:=(by rw[b3];simp only[iv,List.map_append];rfl);have b5:a<=3:=bc a (pP b3);rw[O];refine Au (16,c,19,yJ mO,26,mN L,by rw[b4];exact U0 _ _,17,C _ _ n1 n2 a1,65,2,a,sh.Bk,2,5);refine(16,c,aCn,_,aCn.length - 1,26,L,Adx (pP b4),5);have b6:aCn.set (aCn.length - 1) (mO (BE a sh.Bk:Nat))=iv aEy:=by rw[b4,AlG,b3,Sj];simp only[iv,List.map_append];rfl
  rw[b6];exact second _ _ rfl (λb o b0 b1 e=>by rw[Ah b0];exact C b o b0 b1 e) Af (oY ap.symm a4)
 rintro σ G ⟨v,rfl,C,L,a4⟩;have b7:u.take (nH m.map).length=u:=(by rw[ArX,ay,AsC]);rw[b7] at L a4;have hle:=VO u 0 ([],[],) aM4 au;generalize u.foldl CZ ([],[],)=st at*;obtain⟨ba,bb,bc,bd⟩:=hle;have s2:Ab H G:=λb o e=>C b o (AR e al) (AR e (an.free am)) (qD (qE an ao s1));refine(mFk L);by_cases b8:st.1=[]
 .have O:pH aF0:=(qO b8);rw[O];refine Au (aT,lR);refine k z _ (pC s2 hz) (s2.free hz) ?_;rw[Af];unfold Vf.Jb;rw[mJ b8];rfl
 have O:oZ aF0:=(mR b8);have bm:1<=st.1.length:=by have:st.1.length≠0:=λq=>b8 (uV q);omega
 rw[O];refine cF;refine(42,c,0,mN L,λS b9=>?_);have ca:mFi aCn (-1)=iv st.1.dropLast:=by rw[show(-(1:Int))= -((1:Nat):Int) from rfl,Se _ 1 aA jY,ArX];simp only[iv];rw[<-AuM,<-List.dropLast_eq_take]
 rw[ca];have s3:Ab G aM6:=mS b9;generalize cb:aM6=M at s3;have cc:zV M S st.1.dropLast:=(zT cb);have cd:st.1.dropLast.length<=1000:=(qQ Av0);refine(S,2,(oX cc),λce cf=>?_);refine F6 (J:=pZ S) st.1.dropLast.length cf eE (λj v _=>∃x,st.1.dropLast[j]? =aW /\v= mE (BB x:Nat)) hZ
  (λi U I s4=>(tM s4 cc I)) (λU s4=>(sA s4 cc)) ?_ ?_ G_ F7
 .rintro i U y cg I s4 ch ⟨rfl,hy⟩ Kt cj;have ck:=rJ s4 cc;rw[ArY,mK I] at ck;simp only[Option.map_some,Option.some.injEq] at ck;subst ck;refine(2,yG (0,73,Pu (bc _ ((List.dropLast_sublist _).mem (Asw I))),5));exact mHT cj I
 intro U ys s4 hy cl cm;have cn:ys=iv aBH:=by
  apply AsJ;intro j;rw[ArY,ArY]
  cases e:ys[j]? with
  |none=>
   have:=iM;rw[lD];rfl
  |some v=>
   obtain⟨z,a0,C⟩:=cm j v e;rw[a0,C];rfl
 refine(92,fK);have s5:=wC [mO 2] hb;refine(ce,b,ys,0,2,mC s5 hy,Af,AL (by simp only[List.length_cons,List.length_nil,cl];omega),217);have bu:=wC (ys++[mO 2]) hf;generalize bs:Aa (nD U b [mO 2]) f (.Ac (ys++[mO 2]))=bt at bu;have co:zV bt f (aBH++[2]):=(mKK bs cn);have cp:Ab G bt:=qE s3 s4 (nB s5 bu);have cq:=mC cp a4;have cr:(aBH++[2]).length=st.1.length:=dR;refine(16,f,d,3,mN co,mN cq,λcs ct=>?_);refine F6 (J:=Lw K f d) st.1.length ct eE (λj v _=>∃x y,(aBH++[2])[j]? =aW /\st.2[j]? =mB y/\v= mE ((x+y:Nat):Int)) hZ
  (λi cu I Y=>(mKL Y co cq))
  (λcu Y=>(mHP Y co cq)) ?_ ?_ V5 F7
 .rintro i cu y bw I Y ch ⟨cx,cy,cz,rfl,c0,rfl,c1,c2⟩ Kt cj;have c3:=c1 _ (nA Y co);have c4:=c2 _ (nA Y cq);rw[ArY,fN] at c3 c4;simp only[Option.map_some,Option.some.injEq] at c3 c4;subst c3;subst c4;refine(mDA cx Af yG);refine aM7;exact cj _ _ (mS c0) (19,fN,fN,by show mO (_+_)=V.int _;congr 1)
 intro cu zs Y hz c5 c6;refine k cs cu (qE s2 cp Y) (mDE s2 cp ct) ?_;rw[hz];congr 2;unfold Vf.Jb;rw[mM b8];apply AsJ;intro j;rw[ArY,List.getElem?_zipWith]
 cases e:zs[j]? with
 |none=>
  have:=iM;rw[As9 (l:=st.2) aA]
  cases (aBH++[2])[j]? <;>rfl
 |some v=>
  obtain⟨a,c7,a0,C,bg⟩:=c6 j v e;rw[a0,C,bg];rfl
theorem Adz(x:Str)(n:Nat):∀(cuts:aB)(a:Nat),(StrLaws.partsFrom x n a cuts).length=cuts.length+1
 |[],a=>rfl
 |c::r,a=>by
  show(StrLaws.partsFrom x n (c+n) r).length+1=_;rw[Adz x n r];rfl
theorem VP(c:Nat):∀(b w:Vf.Txt),aJa.length=b.count c+1
 |[],w=>rfl
 |d::r,w=>by
  unfold Kgz1.parts;by_cases e:d=c
  .subst e;rw[bF,As1,VP d r,List.count_cons_self]
  rw[bP,VP c r,List.count_cons_of_ne hL]
theorem Ad0(x y:Str)(c:Nat)(hy:tG y=[c]):Txt.count x y=(aR.count c:Nat):=by have a:tG y≠[]:=(pP hy);obtain⟨f,g,b⟩:=StrLaws.occ_tight x y (TL.Z9 a);have key:=TL.UO a _ 0 f aT g b;rw[Atv,hy,Sh] at key;have d:=yU key;rw[ArX,Adz,VP] at d;unfold Txt.count;grind
theorem Ad1:∀b:Vf.Txt,b.count 45+b.count 117<=b.length/\((b.count 45+b.count 117=b.length)↔b.all aHh=true)
 |[]=>by simp
 |d::r=>by
  have a:=Ad1 r;grind
theorem VQ:uU "-"=[45]:=by decide+kernel
def AlI:Sp:=λvs H Q _=>∃(b:Vf.Txt),vs=[oW b]/\b.length<=100000/\rS (Eh b)
theorem Ad2:AD ["text","signs"] lA (A0 ZY):=aG
theorem AlJ(T:aE):A4 P w K mg base A9 1 t.LF t.Abo lA AlI:=by
 refine T.LF.F.ok Ad2 cO (λa A outer s H vs Q E d h=>?_)
 .obtain⟨b,rfl,_⟩:=h;rfl
 obtain⟨b,rfl,hb,k⟩:=h;obtain⟨f,g,j⟩:=T.V2;obtain⟨l,m,n⟩:=T.Akk;obtain⟨o,p,r⟩:=T.AcJ;refine(_,(Ak (tY Ad2.nd (AE DA (mKP g j) (mKP m n)))
  (Ao (A3 (OB (Ul DB DB Ar (tZ HB aK) (nP p r)) (JY (mAS CL aP (tZ HB aK))))))),5)
 have u:qI (mk b).length:=fQ;refine(0,bY,8,0,bY,8,8,5);rw[mP Ad0 45 VQ,mP Ad0 117 Adb];refine(mKQ u);rw[BT];unfold Eh at k;by_cases c1:1<=b.length
 .rw[mAT mAP];rw[mW c1] at k;refine aDG;by_cases v:b.length<=4
  .rw[mKR 4];rw[mW v] at k;refine Au (42,u,2,5);rw[BT];have e:decide (mO (((tG (mk b)).count 45:Nat)+((tG (mk b)).count 117:Nat))=mAT mO)=b.all aHh:=by
    rw[Fo,Aty,Aup,<-(Ad1 b).2];constructor
    .intro q;injection q with q;omega
    intro q;congr 1;omega
   rw[e];exact k
  rw[mKS Int 4];rw[mT v] at k;exact Az k
 rw[mAT mAQ];rw[mT c1] at k;exact Az (0,Az k)
def Ad3(K:PySem.W.Frag):Sp:=λvs H Q _=>∃(a:Addr)(ws:dH),vs=cR /\uS (sv ws)/\(∀x∈ws,x.length<=100000)/\ws.length<=100000/\∀H',aO ->mAU (E1 ws)
abbrev AlK:List Str:=["ways","way"]
theorem VR:AD ["ways","way"] ["ways"] (A0 UX):=aG
theorem AlL(T:aE):A4 P w K mg base A9 2 t.LG t.Abp ["ways"] (Ad3 K):=by
 refine vZ T.LG.F.ok VR
 .obtain⟨a,ws,rfl,_⟩:=h;rfl
 obtain⟨a,ws,rfl,d,hw,f,k⟩:=h;obtain⟨g,l,m⟩:=T.Aki;refine(_,(Ao (A3 (OB (mAS DB aAn (nP l m)) (JY (mFm (Ad (Dk rfl VR.nd aCo (qM ("way",1,) AlK UX) (pR 1 VR.nd) cK (λ_ _ _ _ _=>(Bb (AlJ T) eG rfl T.LF.m T.LF.F.kp T.LF.b .nil Ay dX))) Ai)))))),78,0,mG d,58);rw[ArX];unfold E1 at k;by_cases c1:ws.length<=4
 .rw[mW (by omega:((ws.length:Nat):Int)<=4)];rw[mW c1,AtS] at k;refine Au (78,2,(pX d),λD o=>?_);refine F6 (J:=aAb) ws.length o eE (mFn ws[j]? (Eh x)) hZ
   (λi p q s2=>(mHX d q)) (λp s2=>(mHY d)) ?_ ?_ G_ F7
  .rintro i p y r q s2 u ⟨rfl,hy⟩ Kt z;have C:=hy _ (s2.seq d);rw[ArY,mK q] at C;simp at C;subst C;refine(zU (16,vN hw q,5));exact mHT z q
  intro p ys s2 hy G I;have L:ys=(ws.map Eh).map V.bl:=by
   apply AsJ;intro j;rw[ArY,ArY]
   cases e:ys[j]? with
   |none=>
    have:=iM;rw[lD];rfl
   |some v=>
    obtain⟨n,M,N⟩:=I j v e;rw[M,N];rfl
  refine(D,ws.map Eh,2,mN (pJ hy L),5);rw[show(ws.map Eh).all id=ws.all Eh by rw[Atw];rfl];exact k p s2
 rw[mT (by omega:¬((ws.length:Nat):Int)<=4)];rw[mT c1,At5] at k;exact Az (k H eQ)
theorem AlM:∀k,k<17->tG (toString ((k:Nat):Int):String)=Jd k:=by decide+kernel
def AlN:Sp:=λvs H Q _=>∃(n:Nat),vs=[jZ]/\n<=16/\∀D H',H D=none-> aO ->H' D=zX (Fe n)->oQ D
abbrev AlO:List Str:=["most","number"]
theorem VS:AD ["most","number"] ["most"] (A0 UY):=aG
theorem Ad4(T:aE):A4 P w K mg base A9 1 t.Iq t.Abq ["most"] AlN:=by
 refine qT T.Iq.F.ok VS
 .obtain⟨n,rfl,_⟩:=h;rfl
 obtain⟨n,rfl,c,k⟩:=h;refine(_,(Ao (A3 (Dk rfl VS.nd (AhJ rfl T.L_ (uW Ar (vX aK))) (qM ("number",1,) AlO UY) (pR 1 VS.nd) cK (qK (QW Aib rfl T.Akx Ak3 dX))))),0,8,(1),(n:Int)+1,2,(21,21,4,4),λD d=>?_);have f:(((n:Int)+1) - 1).toNat=n:=aA;rw[f];refine F6 (J:=Jl 1 n) n d eE (λj v _=>v= oW (Jd (j+1))) hZ (λi g l s2=>l) (λg s2=>aD) ?_ ?_ G_ F7
 .rintro i g y m l s2 o ⟨rfl,rfl⟩ Kt p;refine(zU (16,53))
  .have q:∀k:Nat,k<17->(1+(k:Int)).natAbs.log2<1920:=aFT;exact q i aA
  refine p _ _ eQ ?_;have:=AlM (i+1) aA;rw[show((1:Int)+(i:Int))=((i+1:Nat):Int) by omega];congr 1;exact Pp this
 intro g ys s2 hy r u;refine k D g d s2 ?_;rw[hy];congr 2;apply AsJ;intro j;rw[ArY];unfold Fe;rw[ArY]
 cases e:ys[j]? with
 |none=>
  have:=iM;rw[As9 (qQ As4)];rfl
 |some v=>
  rw[u j v e,mK (zD As4 (zY (nL e).1)),List.getElem_range];rfl
theorem AlP:uU "."=[46]:=by decide+kernel
theorem Ad5(l:Vf.Txt)(ms:dH):wU l (sv ms)=decide (l∈ms):=by have:=Mb l (ms.map mk) ms (by rw[AsB];(conv=>rhs;rw[<-List.map_id ms]);rfl);rw[<-this,AsB];rfl
theorem Sm(ms:dH):nJ (sv ms).all Fh:=by rw[Atw,AsL];intro x _;rfl
theorem Ad6(h:l∈ms):∃i,Fz ms l=mB i/\ms[i]? =mB l/\∀j y,j<i->ms[j]? =mB y->y≠l:=by
 unfold Fz
 cases e:List.findIdx? (·==l) ms with
 |none=>
  grind
 |some i=>
  refine(i,2,53)
  .rw[AtQ] at e;grind
  intro j y hj hy q;rw[AtQ] at e;grind
theorem Ad7(h:l∉ms):Fz ms l=none:=by unfold Fz;grind
def AlQ:oK Nat->oK Nat->oK gS
 |some x,some y=>mB (x,y,)
 |_,_=>none
def Ad8(H:Hp)(H':Hp)(o:oK gS)(v:V):Prop:=match o with
 |none=>v= .Ax
 |some c=>∃q,v= mF q/\H q=none/\H' q=mKT Int
def AlR:Sp:=λvs H Q _=>∃(b:Vf.Txt)(n:Nat),vs=[oW b,jZ]/\b.length<=100000/\n<=16/\∀v H',aO ->Ad8 H H' (EF n b) v->oV v
theorem Sn:AD ["text","foot_count","parts","feet","places"] aIF (A0 ZZ):=aG
theorem AlS(T:aE):A4 P w K mg base A9 2 t.LH t.Abr aIF AlR:=by
 refine mDC T.LH.F.ok Sn
 .obtain⟨b,n,rfl,_⟩:=h;rfl
 obtain⟨b,n,rfl,hb,d,k⟩:=h;obtain⟨ab,o,p⟩:=T.AcJ;refine(_,(Ak (qJ Sn.nd (MO aK Ic))
  (Ak (rW Sn.nd (mKU dX))
  (Ak (qN Sn.nd (mKU (mU (nP o p))))
  (Ak (zO (PW.pt (Id (pL Y7 aCp Ar) (Id (wT (sC AcT) gL bB) (JX (wT (sC AcT) gL bG))))))
  (Ao (A3 (CV (zS (mKV bB) (mKV bG))))))))),5)
 refine(0,93,216);rw[NJ _ _ 46 AlP aZ,Fo];rw[show((sP 46 b).map mk).map V.str=sv (sP 46 b) by rw[AsB];rfl];have s1:Ab H (oA a (tH sv (sP 46 b))):=mS ha;unfold EF at k;generalize Kgz1.parts 46 b []=r at*;generalize u:nD H a (sv r)=H1 at*;refine(0,n,2,d,λf ac hf s2 z=>((4),2,21,λg B hg s3 C=>?_));have D:=nV s3 s2 (zT u);have G:=rZ z;have I:Ab H B:=aF1;refine(mFj a uB D);have hlen:decide (mO ((sv r).length:Nat)=mO 2)=decide (r.length=2):=by
  rw[ArX];apply At0.mpr;constructor
  .intro q;injection q with q;omega
  intro q;rw[q];rfl
 rw[hlen]
 match r,D,k with
 |[],D,k=>exact nG Au (zZ B I)
 |[_],D,k=>exact nG Au (zZ B I)
 |_::_::_::_,D,k=>
  refine eF;exact Au (zZ B I)
 |[x,y],D,k=>
  have k':∀v H',aO ->Ad8 H H' (AlQ (Fz (Fe n) x) (Fz (Fe 4) y)) v->Q v H':=k;refine cF;refine(158,0,f,0,uB G,2,Sm _,0,5);rw[Ad5];by_cases hx:x∈Fe n
  .rw[mW hx];refine cF;refine(159,0,g,0,uB C,2,Sm _,0,5);rw[Ad5];by_cases hy:y∈Fe 4
   .rw[mW hy];refine cF;obtain⟨i,J,L,M⟩:=Ad6 hx;obtain⟨j,ae,af,ag⟩:=Ad6 hy;have N:∀O U:Vf.Txt,FM (oW O) (oW U)=decide (O=U):=λO U=>by
     show(mk O==mk U)=_;rw[AcS]
    have Jx:∀(ms:dH)(l:Vf.Txt)(i:Nat),(∀j y,j<i->ms[j]? =mB y->y≠l)->∀(m:Nat)(Y:V),m<i->(sv ms)[m]? =mB Y->FM Y (oW l)=false:=by
     intro ms l i h m Y hm hz;rw[ArY] at hz
     cases e:ms[m]? with
     |none=>rw[e] at hz;cases hz
     |some ah=>
      rw[e] at hz;injection hz with hz
      subst hz;rw[N];exact mT (h m ah hm e)
    refine(0,pY G,158,f,19,i,sN x,26,mN G,2,Sm _,by rw[ArY,L];rfl,by rw[N];simp,sL Jx M,5);refine(0,pY C,159,g,19,j,sN y,26,mN C,2,Sm _,by rw[ArY,af];rfl,by rw[N];simp,sL Jx ag,5);refine(mDD 2);refine k' _ _ (pC I hq) ?_;rw[J,ae];exact(q,2,I.free hq,Af)
   rw[mT hy];refine eF;refine k' .Ax B I ?_;rw[Ad7 hy]
   cases Fz (Fe n) x<;>rfl
  rw[mT hx];refine Au eF;refine k' .Ax B I ?_;rw[Ad7 hx];rfl
theorem AlT(b:cJ)(hu:kZ):Bt X aE6 (λx y H Q=>x= .Ax/\∃p xs,y= aS /\xX H p/\(mKW K)/\rS (xs.any λv=>decide (v= .Ax))):=by
 subst b;intro pins s σ H x y v u Q d e f h;obtain⟨rfl,p,xs,rfl,hq,hf,q⟩:=h
 cases e
 cases f
 obtain⟨g,r,pl,hz⟩:=d.list hq;have i:∀{xs:aL}{g:aV},AB xs g->(mKW X.K)->(∀w∈g,SeqAt.EqAt X.A.in1 s w .none (E6 .Ax w))/\g.any (E6 .Ax)=xs.any λv=>decide (v= .Ax):=by
  intro xs g r
  induction r with
  |nil=>intro _;exact(λw hw=>(by cases hw),2)
  |cons j k l=>
   intro hf;rename_i v0 m n o;obtain⟨z,A⟩:=l λv B=>pA hf v B;rcases hf v0 AsG with rfl|⟨a,c,rfl,C⟩
   .cases j
    refine aM8;rcases oG hw with rfl|hw
    .exact aIc
    exact z w hw
   cases j
   obtain⟨D,_,pt,_⟩:=d.tuple C;refine aM8;rcases oG hw with rfl|hw
   .exact SeqAt.EqAt.tuple_none pt aM9
   exact z w hw
 obtain⟨z,A⟩:=i r hf;refine SeqAt.in_listAt (E6 .Ax) pl.isList (λw hw=>z w (mR hw)) (.bl _,H,d,2,5);grind
abbrev VT(f c:V):List gC:=[("feet",f,),("cuts",c,)]
def Ad9(t:Aw):Sp:=λvs H Q _=>∃(p dx:Addr)(f c:V),vs=[aS,f,c]/\H p=rX t.ID/\rH (mY H (nC t.ID (VT f c)))
theorem AlU:AD aFy aFy (A0 ZX):=aG
theorem AlV(T:aE):A4 P w K mg base A9 1 t.MQ t.Abn aFy (Ad9 t):=by
 refine qT T.MQ.F.ok AlU
 .obtain⟨p,dx,f,c,rfl,_⟩:=h;rfl
 obtain⟨p,dx,f,c,rfl,hp,k⟩:=h;refine(_,(Ak aAo
  (Ao lG)),5)
 refine(87,112,54,113,198);rw[B1];exact k
def F9(H:Hp)(c:Addr)(cuts:cD):Prop:=∃a:aQ,H c=aCk /\a.length=cuts.length/\∀(j:Nat)(p:Addr)(x:gS),a[j]? =mB p->cuts[j]? =aW ->H p=oO [mE (x.1:Int),mE (x.2:Int)]
theorem F9.same(h:F9 H c cuts)(s:aO):F9 H' c cuts:=by obtain⟨g,i,q,u⟩:=h;exact aNa
def AlW(H':Hp)(o:oK cD)(v:V):Prop:=match o with
 |none=>v= .Ax
 |some cs=>∃q,v= mF q/\F9 H' q cs
def AlX(K:PySem.W.Frag):Sp:=λvs H Q _=>∃(a:Addr)(l:dH)(n:Nat),vs=[aJ,jZ]/\uS (sv l)/\(∀x∈l,x.length<=100000)/\l.length<=100000/\n<=16/\∀v H',aO ->AlW H' (JP n l) v->oV v
abbrev AlY:List Str:=aNb
theorem VU:AD aNb aIG (A0 UZ):=aG
theorem AlZ(T:aE):A4 P w K mg base A9 3 t.LI t.Abs aIG (AlX K):=by
 refine mBZ T.LI.F.ok VU
 .obtain⟨a,l,n,rfl,_⟩:=h;rfl
 obtain⟨a,l,n,rfl,d,hx,ab,ac,k⟩:=h;obtain⟨ae,af,ag⟩:=T.Akj;refine(_,(Ak (HD (i:=2) rfl VU.nd rfl rfl iY aCo (qM ("text",3,) AlY UZ) (pR 3 VU.nd) cK (λ_ _ _ _ _=>(Bb (AlS T) dW rfl T.LH.m T.LH.F.kp T.LH.b .nil Ay (pM 3 1))))
  (Ak (zO (PW.pt (Id (pL Li aCp aFX) (JX (wT (mB6 AlT (F5 b)) Da aX)))))
  aBi)),5)
 refine(78,2,(pX d),λD ah=>?_);refine F6 (J:=aAb) l.length ah eE (λj v H'=>∃x,l[j]? =aW /\((EF n x=none/\v= .Ax)\/∃c q,EF n x=bT /\v= mF q/\q≠D/\H' q=mKT Int))
  (λj v H1 f (x,g,m) e=>(x,g,m.imp (λz=>z) λ(c,q,ai,aj,o,ak)=>(c,q,ai,aj,o,mP e o ak)))
  (λi f r s2=>(mHX d r)) (λf s2=>(mHY d)) ?_ ?_ G_ F7
 .rintro i f y al r s2 am ⟨rfl,hy⟩ Kt an;have u:=hy _ (s2.seq d);rw[ArY,mK r] at u;simp at u;subst u;refine(zU (16,l[i],n,2,vN hx r,ac,λv ao s4 C=>?_));refine an v ao s4 (l[i],mK r,5)
  cases e:EF n l[i] with
  |none=>rw[e] at C;exact xP rfl C
  |some c=>
   rw[e] at C;obtain⟨q,g,m,G⟩:=C;exact mI (c,q,2,g,λz=>am (z▸m),G)
 intro f ys s2 hy I L;have ap:(ys.any λv=>decide (v= .Ax))= !l.all aJg:=by
  rw[Aty];simp only[List.any_eq_true,decide_eq_true_eq,Bool.not_eq_true',List.all_eq_false];constructor
  .rintro⟨v,C,rfl⟩;obtain⟨j,hj,e⟩:=Asy C;obtain⟨x,g,m⟩:=L j .Ax aBg;refine(x,Asl g,5);rcases m with⟨m,_⟩|⟨c,q,_,G,_⟩
   .rw[m];simp
   cases G
  rintro⟨x,aq,M⟩;obtain⟨j,hj,e⟩:=Asy aq;have ar:j<ys.length:=aA;obtain⟨as,g,m⟩:=L j ys[j] (mK ar);rw[cT,e] at g;injection g with g
  subst g;rcases m with⟨_,m⟩|⟨c,q,G,_⟩
  .exact(ys[j],Asw ar,m)
  rw[G] at M;simp at M
 refine(zQ D (mN hy));rw[I];unfold JP at k;by_cases N:l.length<=8
 .rw[mT (by omega:¬(8:Int)<(l.length:Nat))];refine Az (0,2,D,ys,2,mN hy,λv C=>?_,0,5)
  .obtain⟨j,hj,e⟩:=Asy C;obtain⟨x,g,m⟩:=L j v aBg;rcases m with⟨_,m⟩|⟨c,q,_,G,_,h4⟩
   .exact mG m
   exact mI (q,_,G,nQ h4)
  rw[ap];by_cases ha:l.all aJg=true
  .rw[ha];rw[mJ N,mJ ha] at k;refine Az aAl;refine k _ f s2 (rR D rfl);obtain⟨au,O⟩:=Si ys λv C=>by
    obtain⟨j,hj,e⟩:=Asy C;obtain⟨x,g,m⟩:=L j v aBg;rcases m with⟨m,_⟩|⟨c,q,_,G,_⟩
    .have:=AsL.mp ha x (Asl g);rw[m] at this;cases this
    exact(q,G)
   refine(au,by rw[hy,O],by rw[ArX,<-I,O,ArX],λj p x g m=>?_);obtain⟨as,av,U⟩:=L j aS (mFl O g);rw[ArY,av] at m;injection m with m
   rcases U with⟨_,U⟩|⟨c,q,e3,Y,_,aw⟩
   .cases U
   injection Y with Y
   subst Y;simp only[e3,Option.getD_some] at m;subst m;exact aw
  have ax:qP l.all aJg:=(mR ha);rw[ax];rw[mJ N,mM ha] at k;exact Au (zZ f s2)
 rw[mW (by omega:(8:Int)<(l.length:Nat))];rw[mM N] at k;exact nG Au (zZ f s2)
def NK(H:Hp)(f:Addr)(feet:jA):Prop:=∃a:aQ,H f=aCk /\a.length=feet.length/\∀(j:Nat)(p:Addr)(x:dH),a[j]? =mB p->feet[j]? =aW ->H p=zX x
theorem NK.same(h:NK H f feet)(s:aO):NK H' f feet:=by obtain⟨g,i,q,u⟩:=h;exact aNa
def II(t:Aw)(H:Hp)(p:Addr)(m:Bi):Prop:=∃dx f c,H p=oN t.ID (VT iN (mF c))/\NK H f m.feet/\F9 H c m.cuts
theorem II.same(h:II t H p m)(s:aO):II t H' p m:=by obtain⟨dx,f,c,g,i,j⟩:=h;exact(dx,f,c,155)
def AdA(t:Aw)(H':Hp)(o:oK Bi)(v:V):Prop:=match o with
 |none=>v= .Ax
 |some m=>∃p,v= aS /\II t H' p m
theorem VV(f:Vf.Txt):Ho [f]=if EG cY then mB (cY,[]) else none:=rfl
theorem So(f c:Vf.Txt):Ho [f,c]=if EG cY then(match JP cY.length (sP 44 c) with
 |some k=>mB (cY,k)
 |none=>none) else none:=rfl
theorem AdB{a:aQ}{feet:jA}{c:hB}
 (d:f D=aCk) (g:a.length=feet.length) (k:∀(j:Nat)(p:Addr)(x:dH),a[j]? =mB p->feet[j]? =aW ->f p=zX x)
 (hsz:∀x∈feet,x.length<=100000/\∀y∈x,y.length<=100000) (l:feet.length<=100000) (n:mV f o) (q:∀v,Co (eD.set i bK) vs=eD) (r:∀v,(eD.set i bK)[i]? =nG mB v)
 (hd:∀s,Ab f s->s o=nU ((feet.map E1).map V.bl)->c s):
 ∃W:mBC Nat,(mDj f o)/\∀j m H,W j m H->
  ((pZ D).stop j H/\c H)\/((pZ D).go j H/\∃u:hB,(∀H',u H'->∃z,z<m/\W (j+1) z H')/\∀x H',(pZ D).Fg j H x H'->EY i x eD H' λA C=>Co A vs=eD /\MF A C λb E=>
    if b=true then QT (Ad3 K) [] E0 (vY Bo i) A E λy G=>∃acc,G o=nU acc/\acc.length<sizeLine/\u (nD G o (acc++[y])) else u E):=by
 refine F6 (J:=pZ D) feet.length n eE (mFn feet[j]? (E1 x)) hZ
  (λi s q I=>(tM I d aA)) (λs I=>(sA I d)) ?_ ?_ G_ F7
 .rintro j s y L hj I M ⟨rfl,hy⟩ Kt N;have O:=rJ I d;rw[ArY,fN] at O;simp at O;subst O;have Q:=hsz feet[j] (Asw hj);refine(q _,yG (_,r _,_,feet[j],2,nA I (k j _ _ fN cT),Q.2,Q.1,λT U=>?_));grind
 intro s ys I hy Y aa;refine hd s I ?_;rw[hy];congr 2;apply AsJ;intro j;rw[ArY,ArY]
 cases e:ys[j]? with
 |none=>
  grind
 |some v=>
  grind
def Al_(K:PySem.W.Frag)(t:Aw):Sp:=λvs H Q _=>∃(a:Addr)(ns:bH),vs=cR /\ hW /\ns.length<=30000/\(∀n∈ns,0<=n)/\∀v H',aO ->AdA t H' (Je iX) v->oV v
theorem Ama:uU "-u|,;.0123456789"=Jc:=by decide+kernel
theorem Amb:uU ";"=[59]:=by decide+kernel
theorem Amc:uU "|"=[124]:=by decide+kernel
theorem AdC:uU ","=[44]:=by decide+kernel
theorem Amd(x:Vf.Txt)(ns:bH)(h:∀n∈ns,0<=n):(mFg ns.all x.any)=iX.all λc=>x.contains c:=by
 rw[Atw]
 induction ns with
 |nil=>rfl
 |cons n r a=>
  grind
abbrev AdD:List Str:=aNc
theorem K9:AD aNc aA8 (A0 R3):=aG
theorem VW(T:aE):A4 P w K mg base A9 4 t.Gz t.Abt aA8 (Al_ K t):=by
 refine pF T.Gz.F.ok K9
 .obtain⟨a,ns,rfl,_⟩:=h;rfl
 obtain⟨a,ns,rfl,ac,ae,af,k⟩:=h;obtain⟨ag,ah,ai⟩:=T.AjV;obtain⟨aj,ak,al⟩:=T.Akh;obtain⟨am,an,ao⟩:=T.AcI;refine(_,(Ak (tY K9.nd (Bb (VC T) bR rfl T.Gx.m T.Gx.F.kp T.Gx.b .nil Ay (oP aK (nP ah ai))))
  (Ak (zO (PW.pt (Id (xA aP) (JX (Ff (QO DB DB Ar (tZ HB aP) (nP ak al)))))))
  (Ak (qJ K9.nd (MO aP Ic))
  (Ak (HD (i:=3) rfl K9.nd rfl rfl iY (pT (MO gL Ic)) aNd (pR 4 K9.nd) cK (qK (MO bG Ic)))
  (Ak (AU (PW.pt (Id (pL Li aCp Ar) (Id (pL Li (uX pv 3) (nP an ao)) (JX (Ff (D9 (mFm (Ad (Dk rfl K9.nd (pT bB) aNd (pR 4 K9.nd) cK (λ_ _ _ _ _=>(Bb (AlL T) bR rfl T.LG.m T.LG.F.kp T.LG.b .nil Ay lE))) Ai)))))))) (oM Da) AY)
  (Ak (sQ K9.nd (Ie (yH aCp) (Bb (AlZ T) bR rfl T.LI.m T.LI.F.kp T.LI.b .nil Ay (uW (MO gL Ic) (uX pv 3))) dM))
  (Ak (zO (xA bJ))
  (Ao (A3 (Dc T.IE.k (AlV T) bR rfl T.IE.m T.MQ.b .nil Ay (pM 3 5))))))))))),5)
 refine(78,ns,0,ac,ae,12,λH1 s1=>?_);rw[Ama];unfold K6;rw[Amd Jc ns af];unfold Je at k;generalize hb:iX=b at*;have ap:b.length=ns.length:=(mBU hb ArX);by_cases aq:(b.all λc=>mCM c)=true
 .rw[mJ aq];rw[aq,AtS] at k;refine aF2;refine(mKQ fQ);rw[BT];by_cases ar:1<=b.length
  .rw[mAT mAP];rw[mW ar,AtS] at k;refine aDG;by_cases d:b.length<=255
   .rw[mKR 255];rw[mW d,bF] at k;refine cF;refine(0,93,λg as=>?_);rw[NJ _ _ 59 Amb aZ,Fo];rw[show((sP 59 b).map mk).map V.str=sv (sP 59 b) by rw[AsB];rfl];have au:=Qs 59 b [];have av:=Me 59 b [];have s2:Ab H1 (Aa H1 g (tH sv (sP 59 b))):=mS as;generalize Kgz1.parts 59 b []=aw at*;generalize ax:nD H1 g (sv aw)=ay at*;have az:tJ ay g (sv aw):=(zT ax);obtain⟨f0,pt,rfl⟩:∃f0 pt,aw=f0::pt:=by
     cases aw with
     |nil=>simp at au
     |cons x y=>exact aFU
    have a0:=av.2 f0 aC;simp at a0;refine(0,g,19,sN f0,26,mN az,cP,93,λl a1=>?_);rw[NJ _ _ 124 Amc aZ,Fo];rw[show((sP 124 f0).map mk).map V.str=sv (sP 124 f0) by rw[AsB];rfl];have a2:=Me 124 f0 [];have a3:dJ=(sP 124 f0).map λf=>Kgz1.parts 44 f []:=rfl;generalize Kgz1.parts 124 f0 []=m at*;have s3:Ab ay (nD ay l (sv m)):=mS a1;generalize a4:nD ay l (sv m)=a5 at*;have a6:tJ a5 l (sv m):=(zT a4);refine(l,2,(oX a6),λD a7=>?_);refine F6 (J:=pZ l) m.length a7 eE (λj v H'=>∃x p,m[j]? =aW /\v= aS /\p≠D/\H' p=zX (sP 44 x))
     (λj v n u (x,p,a8,a9,ba,bb) e=>(x,p,a8,a9,ba,mP e ba bb))
     (λi n bc s5=>(tM s5 a6 bc)) (λn s5=>(sA s5 a6)) ?_ ?_ G_ F7
    .rintro i n y u bc s5 bd ⟨rfl,hy⟩ Kt be;have bf:=rJ s5 a6;rw[ArY,mK bc] at bf;simp at bf;subst bf;have bg:=a2.2 m[i] (Asw bc);simp at bg;refine(zU (0,93,gY));rw[NJ _ _ 44 AdC aZ,Fo];rw[show((sP 44 m[i]).map mk).map V.str=sv (sP 44 m[i]) by rw[AsB];rfl];exact be _ _ (mS hp) (m[i],p,mK bc,2,λe=>bd (e▸hp),Af)
    intro n ys s5 hy bh bi;obtain⟨bj,bk⟩:=Si ys λv C=>by obtain⟨j,hj,e⟩:=Asy C;obtain⟨x,p,_,d,_⟩:=bi j v aBg;exact(p,d)
    have G:bj.length=dJ.length:=(by rw[a3,ArX,<-bh,bk,ArX]);have hF:NK n D dJ:=by
     refine(bj,by rw[hy,bk],G,λj p x I bm=>?_);obtain⟨z,bn,a8,a9,ba,bb⟩:=bi j aS (mFl bk I);injection a9 with a9
     subst a9;rw[a3,ArY,a8] at bm;injection bm with bm
     subst bm;exact bb
    have hsz:∀x∈ dJ,x.length<=100000/\∀y∈x,y.length<=100000:=by intro x hx;rw[a3] at hx;obtain⟨z,hz,rfl⟩:=nY hx;have ar:=a2.2 z hz;have d:=Me 44 z [];simp at ar d;exact(4,λy hy=>by have:=d.2 y hy;omega)
    have bo:dJ.length<=100000:=(by rw[a3,ArX];omega);have L:Ab H n:=qE s1 s2 (nB s3 s5);have M:=nV s5 s3 az;have N:∀(o:oK Bi),Ho (f0::pt)=o->∀v H',aO ->AdA t H' o v->Q v H':=λo e v H' bp h=>k v H' bp (oL e h);have O:tJ n D (nH bj.map):=(pJ hy bk);obtain⟨_,bq⟩:True/\∀(j:Nat)(p:Addr)(x:dH),bj[j]? =mB p-> dJ[j]? =aW ->n p=some (tH sv x):=by
     obtain⟨br,I,bm,e3⟩:=hF;rw[O] at I;injection I with I
     injection I with I
     have:bj=br:=Au3 aMO |>.mp I;subst this;exact(86,e3)
    have fin:∀(c:Addr)(cs:cD)(u:Hp),Ab n u->F9 u c cs->Ho (f0::pt)=mB (dJ,cs)->
     EL (Ii (Kd (CU aLB (Bo 5) (tC .Ax))) (J_ (tC .Ax)) Ih) (J_ (QU t.ID (Ad9 t) [] E0 (DY (Bo 3) (vY Bo 5)))) {nx:=λ_ H'=>cW,rt:=Q} [mH a,oR oW b,mH g,mH D,none,mH c] u:=by
     intro c cs u U hc he;refine aF2;refine(16,λp dx hp bs bt=>?_);have bu:Ab u (mHS u t.ID):=mAR bs bt;refine(p,dx,3,90,5);rw[B1];have bv:Ab u (mY (qX u dx p) (nC t.ID (VT hE (mF c)))):=mAR bs bt;exact N _ he _ _ (qE L U bv) (p,2,dx,D,c,Af,hF.same (nB U bv),hc.same bv)
    refine(zQ g (mN M))
    match pt,M,N,fin with
    |c1::bw::r,M,N,fin=>
     rw[mW (by simp;omega:(2:Int)<((sv (f0::c1::bw::r)).length:Nat))];exact nG Au (N none rfl .Ax n L rfl)
    |[],M,N,fin=>
     refine Az (zQ D (mN O));rw[ArX,G];by_cases Y:dJ.length<=16
     .rw[aNe];refine aNf;refine AdB O G bq hsz bo bz lC lC λu U h6=>?_;refine aNg;rw[show(dJ.map E1).all id=dJ.all E1 by rw[Atw];rfl];by_cases Av:dJ.all E1=true
      .rw[Av];refine Az (0,g,0,wZ U M,31,Az (aT,λc hc=>?_));refine fin c [] _ (pC U hc) ([],90,141) ?_;rw[VV];rw[Asd];unfold EG;rw[Av,mW Y];rfl
      have b0:qP dJ.all E1:=(mR Av);rw[b0];refine Au (mDK u (nB L U));rw[VV];rw[Asa];unfold EG;rw[b0];simp
     rw[aNh];refine nG Au (mDK n L);rw[VV];rw[Asa];unfold EG;rw[mT Y];simp
    |[c0],M,N,fin=>
     refine Az (zQ D (mN O));rw[ArX,G];by_cases Y:dJ.length<=16
     .rw[aNe];refine aNf;refine AdB O G bq hsz bo bz lC lC λu U h6=>?_;refine aNg;rw[show(dJ.map E1).all id=dJ.all E1 by rw[Atw];rfl];by_cases Av:dJ.all E1=true
      .have b1:nJ EG dJ:=(by unfold EG;rw[Av,mW Y];rfl);rw[Av];have b2:=av.2 c0 aC;simp at b2;have b3:=Me 44 c0 [];simp at b3;refine Az (mHK g (nA U M));refine(0,g,19,sN c0,26,nA U M,77,93,λb4 b5=>?_);rw[NJ _ _ 44 AdC aZ,Fo];rw[show(aDJ.map mk).map V.str=sv aDJ by rw[AsB];rfl];have bu:Ab u (Aa u b4 (tH sv aDJ)):=mS b5;refine(0,D,0,wZ bu (mC U O),b4,aDJ,dJ.length,by rw[ArX,G];rfl,mN Af,λx hx=>by have:=pI b3.2;omega,4,Y,λv b6 bv C=>?_);have b7:Ab n b6:=qE U bu bv
       cases b8:JP dJ.length aDJ with
       |none=>
        rw[b8] at C;subst C;refine(mHZ Au (mDK b6 (nB L b7)));rw[So];rw[mJ b1,b8]
       |some cs=>
        rw[b8] at C;obtain⟨c,rfl,hc⟩:=C;refine fin c cs b6 b7 hc ?_;rw[So];rw[mJ b1,b8]
      have b0:qP dJ.all E1:=(mR Av);rw[b0];refine Au (mDK u (nB L U));rw[So];rw[Asa];unfold EG;rw[b0];simp
     rw[aNh];refine nG Au (mDK n L);rw[So];rw[Asa];unfold EG;rw[mT Y];simp
   rw[mKS Int 255];rw[mT d,jT] at k;exact Au (zZ H1 s1)
  rw[mAT mAQ];rw[mT ar,jT] at k;exact Az (0,Au (zZ H1 s1))
 rw[mM aq];rw[vQ aq (Bool.and_eq_true_iff.mp (Bool.and_eq_true_iff.mp q).1).1] at k;exact(0,31,nG Au (zZ H1 s1))
end
end Vp
namespace Vp
open PySem PySem.Spec L2
section
variable {X:Cx}
def Ame:hD:=λx vs H Q=>∃l xs y,x= eP /\vs=[bZ,y]/\H l=gZ /\xs.length<sizeLine/\rH (nD H l (y::xs))
theorem Amf:EM X "list.insert" Ame:=by
 intro pins s σ H x vs v us Q a b c h;obtain⟨l,xs,y,rfl,rfl,d,hz,q⟩:=h
 cases b
 obtain⟨f,g,rfl,i,j⟩:=c.U5;obtain⟨tk,rfl⟩:=i;obtain⟨z,k,n,r,m,e⟩:=a.Kj d;refine mE3 PySem.F.slot_list_insert PySem.F.entry_list_insert (PySem.F.args_list_insert_3 _ _ _) (PySem.AutoSeq1.list_insert_list_int_val_1 l k.toArray n 0 tk g aZ (qQ As2));refine(.Ax,_,a.Re (its':=g::k) d e aC (sF j r) ?_,2,q);rw[As1];omega
end
end Vp
namespace Vp
open PySem PySem.Spec L2
section
variable {X:Cx}
def Amg(i j:Int):Prop:=0<=j/\j<=100000/\i.natAbs<2 ^ 2000
theorem Amh:Bt X (binaryOp .LShift) (mC6 Amg (i*2 ^ j.toNat)):=QK λi j _ _ _ _ _ hc q=>by have hb:=PyProof.Rows.intBits_le hc.2.2;have a:=hc.2.1;exact PyProof.Rows.lshift_int hc.1 aA q
def Ami(tk a:TE):TE:=λσ H Q=>∀p,H p=none->tk σ (mY H hY) λx H1=>a σ H1 λy c=>c p=sM []/\∃k b,x= bU /\Dv c k b/\mBI c (.dT [(k,y,)])
theorem Amj(hu:kZ)(hk:nR k tk)(d:nR v f):PE X (.Dict [mB k] [v] pos) (Ami tk f):=by
 intro pins s σ H Q g q;refine wpAny_Dict_any rfl rfl aC (by show 1<=15;decide) ?_;refine pairTrees_cons_walk (A5 (hk pins _ σ _ _ (g.DV (a:=s.heap.objs.size) (o:= hY) (h':=s.heap.push {cls:= oH "dict",data:= .dict #[]}) (t':=s.toks) aIe aD (Zs s.heap g.Kl)) (q _ (g.Av.BC (mDf Asb)))) λu s1 (x,H1,h,i,j)=>A5 (sI d h j) λl s2 (y,m,n,p,e,ky,b,ex,kb,r)=>pairTrees_nil_walk ?_);subst ex
 cases (mEN b i)
 obtain⟨z,hd,xs,rel,dd⟩:=Zn n.Av e
 cases rel
 unfold storeAll;rw[List.forIn_cons];refine nF cI;refine wpAny_dictSet_heap (hsz:=aT) (show X.A.units+8<cLine by omega) (Il n.Av kb) dd λh' A hs=>?_;refine cN;show rC (forIn [] PUnit.unit _) _;rw[AwH];refine cN;obtain⟨o,es,ep,hq,B,C,h4,_,D⟩:=A;have new:C9 X.prog X.w (mEO Aa m (.dT [(ky,y,)])) h' s.heap.objs.size (.dT [(ky,y,)]):=by refine(92,hd,[(ky,b,l,)],wO (2,kb.keeps λc ys E=>?_,p),o,71,hq,B,C,h4,D);rw[Ah (mAJ E e)];exact E
 exact(eO,_,OS n (mBG e) hs (o,hq) new,2,r)
def Sq(x:Str):It:=(180,λi H v H'=>∃T c,v= mF T/\H T=none/\H'=mDo aF3 /\x.cps[i]? =bT,168)
theorem Amk(x:Str)(t:Tok)(ty:String)(a:aMm)(e it:Addr):
 F3 P w K (yE aa ab) (Sq x) [e,it] e (λi h=>i<=x.cps.size/\ aIv /\h.IsStrIter it ty x t i/\e≠it) where
 mem:=by simp
 obj:=λi h st b hb=>by
  obtain⟨_,⟨BM,he⟩,⟨o,d,hc,hd⟩,_⟩:=st;have e':aFj:=cH;rcases e' with z|z
  .rw[z];exact(mDp he)
  rw[z];exact(mFb o d hd)
 keep:=λi h h' st k=>let(f,(BM,he),(o,d,r),g):=st;(f,aIw,(o,k it aC o d,r),g)
 item:=by
  intro X j hw l hc i pins s σ H E m hf st hg;subst j hw l;obtain⟨_,⟨BM,he⟩,hit,g⟩:=st;have n:=hg;have D:Draws X.prog X.w X.A.in1 it [it] x.cps.size aNi aFh:=by
   rcases a with z|z
   .rw[z];exact mFo Draws.strAscii
   rw[z];exact mFo Draws.strWide
  have p:=Asu he;refine wpAny_pyNext_enum_itemD D he hit n g (mR g) λu h' tk y d B C hsz hk=>?_;obtain⟨c,G,I,rfl⟩:=y;refine(0,AuO (s:={s with heap:=h',toks:=tk+1}) d λJ L M=>?_);have new:C9 X.prog X.w (mDs aF3) J s.heap.objs.size (.Al aF3):=
   (20,[.int i tk,.str ⟨#[c]⟩ G],.cons bY (wO bY),(mHx M.2 p C))
  have N:Inv X pins σ (mDs aF3) {s with heap:=J,toks:=tk+1}:=
   mKX (λb O hb q=>(M.2 b iV).trans (hk b O iV iV q))
  obtain⟨T,U,c1,Y⟩:=id B;refine(eO,_,N,2,(_,c,2,m.Av.BC aD,2,I),(n,(.str ⟨#[c]⟩ G,5),(T,(M.2 it (Asr g)).trans U,c1,Y),g),fK)
  .have U:aMt:=aA;rw[U];exact L
  have ac:zB b:=by
   have e':aFj:=cH;rcases e' with z|z
   .rw[z];exact p
   rw[z];exact(by obtain⟨_,q,_⟩:=hit;exact Asu q)
  rw[Ah (AsP ac)];exact(nN hf).1
 done:=by
  intro X j hw l hc i pins s σ H E m hf st hg;subst j hw l;obtain⟨f,⟨BM,he⟩,hit,g⟩:=st;have n:x.cps.size<=i:=hg;have ae:i=x.cps.size:=aA;subst ae;have D:Draws X.prog X.w X.A.in1 it [it] x.cps.size aNi aFh:=by
   rcases a with z|z
   .rw[z];exact mFo Draws.strAscii
   rw[z];exact mFo Draws.strWide
  obtain⟨f0,f1,f2,af,f4,ag⟩:=eC;exact wpAny_pyNext_enum_endD D he hit λh' ah=>(2,mKY (mHy ah))
 self:=λA i s Q E st h=>let(_,(_,he),_):=st;Aus he h
def Aml(a:TA):TI:=λσ H R=>a σ H λvs H1=>∃x,vs=[dA]/\R (Sq x) H1
theorem AdE(hg:aIy)(hm:zM sX)(ha:PA X [e] a)(hs:xU e:=by rfl):
 PI X (yE c d) aIz (Aml a):=by
 intro pins s σ H R f h;refine AuA (xV f Avf (mC2 (A5 (xW H f) λus s1 (vs,H1,g,i,j)=>?_)));obtain⟨x,ex,q⟩:=j;subst ex
 cases i with
 |cons r k=>
  cases k
  obtain⟨t,rfl⟩:=r;refine call_enumerate_str λh' he hit hsz hk=>Aus he ?_;refine(103,mDq g.CF,Amk x t _ (by unfold strIterType;split<;>simp) (tF 1) s1.heap.objs.size,(aT,(.none,he),hit,Awq _),fK,q);have hle:mDr b:=by
   rcases cH with z|z
   .rw[z];exact aAj
   rw[z];exact aD
  exact g.Hx hle (g.Av.BC hle)
end
end Vp
namespace Vp
open PySem PySem.Spec L2 Vf
section
variable {P:Program} {w:World} {K:PySem.W.Frag} {mg:aN} {base:Heap} {t:Aw}
structure ScF(fs:oU V)(f c s m:Addr):Prop where
 feet:oE ("feet":Str)=some (nE f)
 cuts:oE ("cuts":Str)=some (nE c)
 Cq:oE ("syllables":Str)=some (nE s)
 Es:oE ("met_values":Str)=some (nE m)
 n1:oE ("fits":Str)=none
 n2:oE ("meets_cut":Str)=none
 n3:oE ("count_by_way":Str)=none
 n4:oE ("count_from":Str)=none
 n5:oE ("count_all":Str)=none
structure Jy(t:Aw)(H:Hp)(p:Addr)(m:Bi)(sy:aB):Prop where
 ex:∃dx fs f c s q,H p=oN t.Dq fs/\ScF fs f c s q/\NK H f m.feet/\F9 H c m.cuts/\H s=oC sy/\H q=oO (if m.cuts=[] then[.bl true] else[aAU,.bl true])
theorem Jy.same(h:mB7 g)(s:aO):Jy t H' p m g:=by obtain⟨dx,fs,f,c,sa,q,i,j,u,h4,v,h6⟩:=h.ex;exact(dx,fs,f,c,sa,q,nM i,j,u.same s,h4.same s,nM v,nM h6)
def IJ(b:aB)(w:Vf.Txt)(a j:Nat):Bool:=tT (a+j)%4 != (if w.getD j 0=45 then 0 else 1)
theorem Amn(b:aB)(w:Vf.Txt)(a:Nat)(h:mGP a):uK w=aC0.all (IJ b w a):=by
 unfold Ct;rw[mW h,AtS];have key:∀(w:Vf.Txt)(a:Nat),a+w.length<=b.length->((w.zip aC3).all λx=>x.2%4 != aKP)=aC0.all (IJ b w a):=by
  intro w
  induction w with
  |nil=>intro a _;rfl
  |cons c r d=>
   intro a ha;simp at ha;rw[As8 aA,List.zip_cons_cons,AtJ,d (a+1) aA,As1,Avj,AtJ,Atw];congr 1
   .unfold IJ;grind
   apply AwO rfl;intro j;unfold IJ;grind
 exact key w a h
theorem Amo(x:Int)(y:Nat)(z:Nat)(h:x=z):decide (mO x=mO (y:Int))=decide (z=y):=by subst h;exact Fp z y
def Amp(t:Aw):Sp:=λvs H Q _=>∃(p:Addr)(m:Bi)(b:aB)(w:Vf.Txt)(a:Nat),vs=[aS,oW w,yJ mE]/\mB7 b/\w.length<=1000/\∀H',aO ->mAU (uK w)
theorem Sr:AD ["self","way","at","place","sign","unfit"] aIX (A0 AaJ):=aG
theorem Amq(T:aE):A4 P w K mg base A9 1 t.Nw t.Acm aIX (Amp t):=by
 refine pF T.Nw.F.ok Sr
 .obtain⟨p,m,b,x,a,rfl,_⟩:=h;rfl
 obtain⟨p,m,b,x,a,rfl,hs,hx,k⟩:=h;obtain⟨dx,fs,f,c,sa,q,d,hF,ac,h4,g,h6⟩:=hs.ex;obtain⟨ae,l,o⟩:=T.Akc;obtain⟨af,r,v⟩:=T.Akd;obtain⟨ag,z,B⟩:=T.V2;obtain⟨ah,C,D⟩:=T.V1;refine(_,(Ak (nI (pL Li (AE DA aX (tZ HB aP)) aCq) aBj)
  (Ak (BS Asq rfl (AdE rfl T.Ma dX) (uA 3 Sr.nd 4) (Ak (sQ Sr.nd (Ie (vL bG (nP z B)) (nP l o) (nP r v)))
  (Ao (nI (vL (AE AhP (qU aY (AE DA aX bB)) (nP C D)) bJ) aBj))))
  aBj)),5)
 refine(42,fQ,8,18,d,68,sa,0,uB g,58);rw[BT,ArX];by_cases hle:a+x.length<=b.length
 .rw[mT (by omega:¬((b.length:Nat):Int)<(a:Int)+(x.length:Nat))];rw[Amn b x a hle] at k;refine Az (0,mk x,2,Fn (J:=Sq (mk x)) x.length (λi σ H1=>∃v1 v2 G,σ=[bM,aBk,aAp,v1,v2,G]/\ fP /\∀j,j<i->IJ b x a j=true)
   (183,2,eQ,λj hj=>by omega) (λi σ H1 I _=>by show i<x.toArray.size;simpa using I) (λσ H1 _=>by show x.toArray.size<=_;simp) ?_ ?_)
  .rintro i σ H1 y ai I ⟨v1,v2,G,rfl,s1,hj⟩ ⟨L,M,rfl,aj,rfl,ak⟩;have N:mB8 i=M:=by
    have:pO x[i]? M:=(mR ak);rw[Asv,this];rfl
   have s2:Ab H aNj:=pC s1 aj;refine(L,0,nQ Af,2,3,8,0,80);rw[Sb VQ];have O:a+i<b.length:=aA;have al:BX (iv b) ((a:Int)+(i:Nat))=some (mE (b.getD (a+i) 0:Nat)):=by rw[show(a:Int)+((i:Nat):Int)=((a+i:Nat):Int) by omega];apply AZ;rw[ArY,mK O,Asv,mK O];rfl
   have step:∀(u:Nat),u=(if mB8 i=45 then 0 else 1)->Ii (Kd (CU QM (CU aLy (CU (QX K) (mB9 0 "syllables") (CU (zH (i+j)) (Bo 2) (Bo 3))) (tC (mE 4))) (Bo 5))) (J_ (tC aAU)) Ih
    {nx:=λσ H1=>∃v1 v2 G,σ=[bM,aBk,aAp,v1,v2,G]/\ fP /\∀j,j<i+1->IJ b x a j=true,rt:=Q}
    [bM,aBk,aAp,mX (i:Nat),mB (vU M),mX (u:Int)] aNj:=by
    intro u hu;refine(18,pS d,68,16,8,sa,36,nA s2 g,al,8,(by show(0:Int)<4;decide),0,80);rw[Amo _ u (tT (a+i)%4) aA];by_cases e:tT (a+i)%4=u
    .rw[mW e];have am:qP (pB x.length).all (IJ b x a):=by
      rw[List.all_eq_false];refine(i,Atj.mpr I,5);unfold IJ;rw[e,hu];simp
     rw[am] at k;exact Au (k _ s2)
    rw[mT e];refine Az (_,3,s2,λj U=>?_);by_cases an:j=i
    .subst an;unfold IJ;rw[<-hu];simpa using e
    exact hj j aA
   by_cases Y:M=45
   .rw[zI Y];exact Au (step 0 (by rw[N,mJ Y]))
   rw[vG Y];exact Az (step 1 (by rw[N,mM Y]))
  rintro σ H1 ⟨v1,v2,G,rfl,s1,hj⟩;have ao:nJ (pB x.length).all (IJ b x a):=by rw[AsL];intro j U;exact hj j (Atj.mp U)
  rw[ao] at k;exact k _ s1
 rw[mW (by omega:((b.length:Nat):Int)<(a:Int)+(x.length:Nat))];have:uK x=false:=(by unfold Ct;rw[mT hle];rfl);rw[this] at k;exact mB5 H
def Amr(t:Aw):Sp:=λvs H Q _=>∃(p:Addr)(m:Bi)(b:aB)(i:Nat)(w:Vf.Txt)(a:Nat),vs=[aS,sO mE,oW w,yJ mE]/\mB7 b/\w.length<=1000/\a+w.length<=b.length/\∀H',aO ->mAU (mBl i w)
theorem AdF:AD ["self","foot","way","at","cut"] aIY (A0 AaK):=aG
theorem AdG(T:aE):A4 P w K mg base A9 1 t.Kx t.Acn aIY (Amr t):=by
 refine pF T.Kx.F.ok AdF
 .obtain⟨p,m,b,i,x,a,rfl,_⟩:=h;rfl
 obtain⟨p,m,b,i,x,a,rfl,hs,hx,hle,k⟩:=h;obtain⟨dx,fs,f,c,sa,q,d,hF,ac,h4,g,h6⟩:=hs.ex;obtain⟨l,n,o,r⟩:=h4;obtain⟨ae,u,z⟩:=T.V1;refine(_,(Ak (rV aAq (oJ 4 AdF.nd) (Ao (nI (PW.pt (Gq (vL (qZ 4) aP) (Gq (pL OJ (qZ 4) (tZ HB aX)) (Jk (pL QN (qU aY (AE DA bB (qZ 4))) (nP u z)))))) aBj)))
  aBj),5)
 refine(18,d,33,T.Vx,hF.cuts,c,2,(oX n),E4 (K:=K) (a:=c) (xs:=nH l.map) (λj σ H1=>∃v,σ=[bM,sO mX,aBk,aAp,v]/\H1=H/\ aJh.any aNk=false)
  (61,26,2) (λj σ H1 _ (_,_,e,_)=>by rw[e];exact mN n) ?_ ?_)
 .rintro j y σ H1 hj ⟨v,rfl,rfl,B⟩;rw[ArY] at hj;obtain⟨pc,C,rfl⟩:mH0 l[j]?:=by
   cases e:l[j]? with
   |none=>rw[e] at hj;cases hj
   |some pc=>rw[e] at hj;exact(tI pc hj)
  have D:j<m.cuts.length:=(wY o C);have G:=r j pc m.cuts[j] C (mK D);have I:mAV m.cuts.take m.cuts[j]:=(vR AsA D);generalize m.cuts[j]=J at*;have L:(J.1==i&&decide (J.2<x.length)&&decide (4<=tT (a+J.2)))=false->∃v,[oR V.ref p,sO mX,aBk,aAp,mH pc]=[oR V.ref p,sO mX,aBk,aAp,v]/\H1=H1/\(m.cuts.take (j+1)).any aNk=false:=by intro hb;exact(0,2,by rw[I,List.any_append,B,Ata,hb];rfl)
  refine(0,218,cP,0,80);rw[Fp];by_cases M:J.1=i
  .rw[mW M];refine Au (0,218,77,16,fQ,58);rw[BT];by_cases N:J.2<x.length
   .rw[mW (by omega:(J.2:Int)<(x.length:Nat))];have O:a+J.2<b.length:=aA;have U:BX (iv b) ((a:Int)+(J.2:Nat))=some (mE (b.getD (a+J.2) 0:Nat)):=by
     rw[show(a:Int)+((J.2:Nat):Int)=((a+J.2:Nat):Int) by omega];apply AZ;rw[ArY,mK O,Asv,mK O];rfl
    refine Au (18,d,68,16,218,77,8,sa,36,mN g,U,58);by_cases e3:4<=tT (a+J.2)
    .rw[mW (by omega:(4:Int)<=(b.getD (a+J.2) 0:Nat))];have Y:mBl i x=true:=by
      unfold Ei;rw[List.any_eq_true];refine(J,5,by rw[zI M,mW N,mW e3];rfl);have:J∈m.cuts.take (j+1):=(pP I);exact Av2 this
     rw[Y] at k;exact mB5 H1
    rw[mT (by omega:¬(4:Int)<=(b.getD (a+J.2) 0:Nat))];exact Az (L (by rw[mT e3,AuD]))
   rw[mT (by omega:¬(J.2:Int)<(x.length:Nat))];exact nG Az (L (by rw[mT N,AuD,At5]))
  rw[mT M];exact nG Az (L (by rw[vG M,At5,At5]))
 rintro σ H1 ⟨v,rfl,rfl,B⟩;rw[ArX,o,AsC] at B;have L:mBl i x=false:=B;rw[L] at k;exact k H1 eQ
def EO(a:Nat)(Am:Bool):Ky:= mFp (a:Int) (mAr Am)
def Mf(H:Hp)(d:Addr)(N:aCr)(ok:Bool->Prop):Prop:=∃b:bI,H d=sM b/\∀a Am,ok Am->(mCa b).getD bZ= mE (N a Am:Nat)
theorem Mf.same(h:Mf H d N ok)(s:aO):Mf H' d N ok:=by obtain⟨g,i,j⟩:=h;exact(g,nM i,j)
theorem Ss(h:H q=oO [yJ mE,.bl Am]):Dv H (EO a Am) q:=by refine(oS (q,133,mI (Am,26),2));simp[EO,Ky.depth,Ky.C2]
def FU(m:Bi)(Am:Bool):Prop:=Am=true\/m.cuts≠[]
def Ams(t:Aw):Sp:=λvs H Q _=>∃(p:Addr)(m:Bi)(b:aB)(i:Nat)(w:Vf.Txt)(a:Nat)(Am:Bool)(d:Addr)(N:aCr),vs=[aS,sO mE,oW w,yJ mE,.bl Am,dG]/\mB7 b/\w.length<=1000/\FU m Am/\Mf H d N (FU m)/\
 ∀H',aO ->oV (.int ((if uK w then mGN N else 0:Nat):Int))
theorem Amt:AD aFK aFK (A0 AaL):=aG
theorem VX(T:aE):A4 P w K mg base A9 2 t.I0 t.Aco aFK (Ams t):=by
 refine T.I0.F.ok Amt cO (λb A outer s H vs Q E e h=>?_)
 .obtain⟨p,m,g,i,x,a,Am,d,N,rfl,_⟩:=h;rfl
 obtain⟨p,m,g,i,x,a,Am,d,N,rfl,hs,hx,hm,hd,k⟩:=h;obtain⟨dx,fs,f,c,sa,q,j,hF,l,h4,n,h6⟩:=hs.ex;refine(_,(Ak (nI (Ff (D9 (Bx aK T.Ca.c T.Nw.h (Amq T) (e.As aZ) T.Nw.b .nil Ay (pM 2 3)))) (oM Ar))
  (Ao (A3 (Zu (F5 e) bJ (CV (Ad (AE DA bB (tZ HB aX)) (mU (QC bG (JY (Bx aK T.Ca.c T.Kx.h (AdG T) (e.As aZ) T.Kx.b .nil Ay (Ad aP (pM 2 3)))))))) Ar aCf)))),5)
 refine(74,j,hF.n1,16,p,m,g,x,a,2,hs,hx,λH1 s1=>aAl)
 cases r:Ct g x a with
 |false=>
  rw[r] at k;exact Au (k H1 s1)
 |true=>
  rw[r] at k;refine cF;have hle:a+x.length<=g.length:=by unfold Ct at r;simp at r;exact r.1
  obtain⟨u,v,z⟩:=hd;have fin:∀(mt:Bool)(B:Hp),FU m mt->tX B->mt=(Am||Ei m.cuts g i x a)->[mO (mDv (a:Int) x),V.bl mt].length<=sizeLine/\∀C,B C=none->
   (λy B=>∃o,E8 B d y o/\Q (o.getD bZ) B) (nE C) (Aa B C aNl):=by
   intro mt B Av s2 D;refine(qL 2,λC G=>?_);have s3:=Ab.Aa (o:= aNl) G;refine(_,E8.t (nV s3 s2 (rF v)) (Ss (by rw[Af,BT];congr 3)),5);rw[mC z Av];subst D;exact k _ aF1
  refine(0,d,2,mI (u,mG (rF v)),42,fQ,8,16,5)
  cases Am with
  |true=>exact Au (fin true H1 bA eQ (by rfl))
  |false=>
   refine Az (74,rF j,hF.n2,42,p,m,g,i,x,a,2,hs.same s1,hx,hle,λB s2=>?_);have I:m.cuts≠[]:=by
    rcases hm with hm|hm
    .cases hm
    exact hm
   exact fin _ B (mI I) s2 (by rfl)
def Es(m:Bi):List Bool:=if m.cuts=[] then[true] else[false,true]
theorem Su(m:Bi):aF4=lH.map V.bl:=by unfold Es;split<;>rfl
theorem Amu(h:FU m Am):Am∈Es m:=by
 unfold Es;rcases h with h|h
 .subst h;split<;>simp
 rw[mM h];cases Am<;>simp
theorem VY(h:Am∈ lH):FU m Am:=by
 unfold Es at h;by_cases e:m.cuts=[]
 .rw[bV] at h;exact mG fB
 exact mI e
theorem AdH(m:Bi):lH.length<=2:=by unfold Es;split<;>simp
theorem Sv(m:Bi):pO lH[0]? m.cuts.isEmpty:=by
 unfold Es
 cases e:m.cuts with
 |nil=>simp
 |cons a r=>simp
theorem Sw(h:EO a x=EO b y):a=b/\x=y:=by
 injection h with h
 injection h with c d
 injection c with c
 injection d with d _
 injection d with d
 refine(4,5)
 cases x<;>cases y<;>first|rfl|(simp at d)
theorem AdI:∀l:aB,iC.sum=((AM l:Nat):Int)
 |[]=>rfl
 |a::r=>by rw[Asn,AtK,AdI r,C7];omega
def Px(m:Bi)(b:aB)(N:aCr)(i a:Nat)(Am:Bool)(w:Vf.Txt):Nat:=if uK w then mGN N else 0
def Jz(m:Bi)(b:aB)(N:aCr)(i a:Nat)(Am:Bool):Nat:=AM ((m.feet.getD i []).map (Px m b N i a Am))
def Py(H:Hp)(d:Addr)(m:Bi)(n:Nat)(N:aCr):Prop:=∃b:bI,H d=sM b/\(∀a Am,a<n->FU m Am->mCa b=mX (N a Am:Nat))/\∀a Am,n<=a->mCa b=none
def Amv(t:Aw):Sp:=λvs H Q _=>∃(p:Addr)(m:Bi)(a:aB)(i:Nat)(d:Addr)(N:aCr),vs=[aS,sO mE,dG]/\mB7 a/\m.Ok/\a.length<=100000/\i<m.feet.length/\Mf H d N (FU m)/\
 ∀d' H',aO ->H d'=none->Py H' d' m a.length (Jz m a N i)->oQ d'
abbrev Amw:List Str:=aNm
theorem NL:AD aNm aIZ (A0 Vh):=aG
theorem Amx(T:aE):A4 P w K mg base A9 3 t.Ny t.Acp aIZ (Amv t):=by
 refine pF T.Ny.F.ok NL
 .obtain⟨p,m,b,i,d,N,rfl,_⟩:=h;rfl
 obtain⟨p,m,b,i,d,N,rfl,hs,hm,ac,ae,hd,k⟩:=h;obtain⟨dx,fs,f,c,sa,q,g,hF,af,h4,ag,h6⟩:=hs.ex;rw[Su] at h6;obtain⟨l,ah,ai,aj⟩:=af;have ak:aEA:=aA;have r:=aj i l[i] m.feet[i] (mK ak) (mK ae);have al:BX (nH l.map) (i:Int)=some (mF l[i]):=by apply AZ;rw[ArY,mK ak];rfl
 have am:m.feet.getD i []=m.feet[i]:=(vR Asv ae);obtain⟨an,ao,ap⟩:=mCP hm.Bz i ae;generalize aq:m.feet[i]=ws at r an ao ap am;generalize l[i]=ar at r al;refine(_,(Ak (rW NL.nd OU)
  (Ak (BS Asq rfl (mFq aCq) (oJ 4 NL.nd) (Ao (BS Asq rfl (mB6 V8 aY) (oJ 5 NL.nd) (Ao (Ls (F5 ab) bB (CV (pM 4 5)) (mFr (Ad (Dk rfl NL.nd (pT (qU aY aP)) (qM ("way",6,) Amw Vh) (pR 6 NL.nd) cK (λ_ _ _ _ _=>(mH1 (Ad aP (Ad cA (Ad bG (pM 5 2))))))) Ai)) rfl)))))
  (oM bB))),5)
 refine λD u=>(18,mAa u g,68,sa,0,uB (mAa u ag),0,34,34,5);have as:(((iv b).length:Nat):Int).toNat=b.length:=jY;rw[as];refine QI (lo:=0) (n:=b.length) (λz σ H1=>∃v1 v2 C,σ=[bM,sO mX,mH d,mH D,v1,v2,C]/\ fP /\∃G:bI,H1 D=sM G/\G.length<=2*z/\ aNn /\∀a Am,z<=a->mCa G=none)
  (183,2,mS u,[],Af,9,λa Am h=>by omega,λa Am _=>rfl) ?_ ?_
 .rintro z σ H1 au ⟨v1,v2,C,rfl,s1,G,I,M,O,U⟩;rw[Int.zero_add];refine(18,rF g,33,T.RT,hF.Es,q,2,(_,rK s1 h6),5);refine AhL (K:=K) (a:=q) (xs:=lH.map V.bl) (λj σ H1=>∃v2 C,σ=[bM,sO mX,mH d,mH D,mX (z:Nat),v2,C]/\ fP /\∃G:bI,H1 D=sM G/\G.length<=2*z+j/\ aNn /\(∀Am,Am∈ lH.take j->Bc G (EO z Am)=mX (Jz m b N i z Am:Nat))/\∀a Am,z+1<=a->mCa G=none)
   (v2,C,2,s1,G,I,4,O,λAm h=>by simp at h,λa Am h=>U a Am aA) (λj σ av _ (_,_,_,s2,_)=>rK s2 h6) ?_ ?_
  .rintro j y σ av hj ⟨aw,ax,rfl,s2,G,I,M,O,ay,U⟩;rw[ArY] at hj;obtain⟨Am,Y,rfl⟩:∃Am,lH[j]? =mB Am/\y= .bl Am:=by
    cases e:lH[j]? with
    |none=>rw[e] at hj;cases hj
    |some Am=>rw[e] at hj;exact(tI Am hj)
   refine(18,pS g,114,0,f,36,nA s2 ah,al,ar,2,(_,nA s2 r),λL az=>?_);refine F6 (J:=pZ ar) ws.length az eE (λj v _=>∃x,ws[j]? =aW /\v= mE ((Px m b N i z Am x:Nat):Int)) hZ
    (λk a0 hk s3=>(mKZ r hk)) (λa0 s3=>(sA s3 (pS r))) ?_ ?_ G_ F7
   .rintro k' a0 y a1 a2 s3 a3 ⟨rfl,hy⟩ Kt a4;have a5:=rJ s3 (pS r);rw[ArY,mK a2] at a5;simp at a5;subst a5;have a6:(ws[k']).length<=1000:=by
     have:=vN ap a2;simp only[Eh,Bool.and_eq_true,decide_eq_true_eq] at this;omega
    have a7:=lI;refine(2,yG (74,mC a7 g,hF.n3,16,42,p,m,b,i,ws[k'],z,Am,d,N,2,hs.same a7,a6,VY (Asl Y),hd.same a7,λa8 s5=>?_));exact mP a4 s5 (ws[k'],mK a2,2)
   intro a0 ys s3 hy a9 ba;have bb:ys=aNo.map V.int:=by
    apply AsJ;intro j;rw[ArY,ArY,ArY]
    cases e:ys[j]? with
    |none=>
     have:=iM;rw[lD];rfl
    |some v=>
     obtain⟨n,bc,bd⟩:=ba j v e;rw[bc,bd];rfl
   refine(L,aNo,2,mN (pJ hy bb),5);rw[AdI,show AM aNp=Jz m b N i z Am by unfold Jz;rw[am]];refine(42,qL 2,λbe bf=>?_);have s4:=Ab.Aa (o:= mCb (z:Nat) V.bl Am) bf;refine(D,0,HF.t (nV s4 s3 I) (Ss Af) (BA (by have:=AdH m;have:=(nL Y).1;omega)),3,qS aJi u,_,Af,by have:=Jo G (EO z Am) (mO (Jz m b N i z Am:Nat));omega,53,5)
   .intro a mt ha hmt2;rw[MI,aNq];exact O a mt ha hmt2
   .intro mt hmt2;rw[MI];by_cases e:EO z mt=EO z Am
    .rw[bV,(Sw e).2]
    rw[bP];rw[AsA,Y] at hmt2;simp at hmt2;rcases hmt2 with hmt2|hmt2
    .exact ay mt hmt2
    exact nK (by rw[hmt2]) e
   intro a mt ha;rw[MI,aNq];exact U a mt ha
  rintro σ av ⟨aw,ax,rfl,s2,G,I,M,O,ay,U⟩;rw[ArX] at M;rw[ArX,AsC] at ay;refine(_,3,s2,G,I,by have:=AdH m;omega,λa mt ha Y=>?_,U);by_cases e:a=z
  .subst e;exact ay mt (Amu Y)
  exact O a mt aA Y
 rintro σ H1 ⟨v1,v2,C,rfl,s1,G,I,M,O,U⟩;exact(0,k D H1 s1 u (G,I,O,U))
def NW(m:Bi)(b:aB)(i a:Nat)(Am:Bool):Nat:=(mGM i).length
theorem AdJ(b:wJ i)(a:Nat)(Am:Bool):Jz m c (NW m c (i+1)) i a Am=NW m c i a Am:=by unfold NW;rw[As8 b,XO];unfold Jz;rw[Asv,mK b];rfl
theorem Amy(hm:m.Ok)(b:wJ i)(a:Nat)(Am:Bool)(ha:c.length<=a):NW m c i a Am=0:=by
 unfold NW;rw[As8 b,AgH _ _ _ _ _ _ _ (λw hw=>?_) ha]
 .rfl
 have:=(vN hm.Bz b).2.2 w hw;simp only[Eh,Bool.and_eq_true,decide_eq_true_eq] at this;exact this.1.1
theorem AdK(m:Bi)(b:aB)(a:Nat)(Am:Bool):NW m b m.feet.length a Am=if a=b.length/\Am=true then 1 else 0:=by unfold NW;rw[AuI];unfold Bz;split<;>rfl
def IK(H:Hp)(d:Addr)(m:Bi)(a:aB)(i:Nat):Prop:=Mf H d (NW m a i) (FU m)/\(i<m.feet.length->Py H d m a.length (NW m a i))
theorem Py.same(h:Py H d m n N)(s:aO):Py H' d m n N:=by obtain⟨g,i,j⟩:=h;exact(g,nM i,j)
theorem IK.same(h:IK H d m g i)(s:aO):IK H' d m g i:=(h.1.same s,λq=>(h.2 q).same s)
def J0(H:Hp)(L:Addr)(m:Bi)(a:aB)(i:Nat):Prop:=∃ds:aQ,H L=pU ds.map/\ds.length=m.feet.length+1 - i/\∀k d,ds[k]? =mB d->d≠L/\IK H d m a (i+k)
theorem J0.same(h:J0 H L m g i)(s:aO):J0 H' L m g i:=by obtain⟨ds,j,q,u⟩:=h;exact(ds,nM j,q,λk d e=>((u k d e).1,(u k d e).2.same s))
theorem IK.ne(h:IK H d m g i)(n:d≠D):IK (oA D o) d m g i:=by
 refine(5,λq=>?_)
 .obtain⟨j,s,u⟩:=h.1;exact aNr
 obtain⟨j,s,u⟩:=h.2 q;exact aNr
def Amz(t:Aw):Sp:=λvs H Q _=>∃(p:Addr)(m:Bi)(a:aB),vs=[aS]/\mB7 a/\m.Ok/\a.length<=100000/\
 ∀L H',aO ->H L=none->J0 H' L m a 0->oQ L
theorem VZ:AD (tK "counts" "foot") cL (A0 AaM):=aG
theorem Am0(T:aE):A4 P w K mg base A9 4 t.Nz t.Acq cL (Amz t):=by
 refine mBZ T.Nz.F.ok VZ
 .obtain⟨p,m,g,rfl,_⟩:=h;rfl
 obtain⟨p,m,g,rfl,hs,hm,ab,k⟩:=h;obtain⟨dx,fs,f,c,sa,q,l,hF,ac,h4,ae,h6⟩:=hs.ex;obtain⟨af,ag,n,ah⟩:=ac;have ai:=hm.KY;have aj:=hm.Qr;refine(_,(Ak (tY VZ.nd (By (mU (Amj (F5 b) (CV (oP aCq Dw)) Ar))))
  (Ak (rV (Ajs rfl T.L_ (Ad (zW aCq) (vO eY))) (oJ 2 VZ.nd) (Ao (Cu (Dz (K:=K) rfl As3 F.slot_list_insert F.type_list_insert Amf aP (Ad Ar (mU (Bx aK T.Ca.c T.Ny.h (Amx T) dW T.Ny.b .nil Ay (oP aX (vM B9 1)))))))))
  aCh)),5)
 intro r u;have s0:Ab H (oA r hY):=mS u;refine(18,mC s0 l,68,sa,0,wZ s0 ae,qL 2,λv x=>?_);rw[ArX];refine(by rw[Ah (λe=>by rw[e,Af] at x;cases x),Af],EO g.length true,v,2,Ss Af,92,λL y=>?_);have s2:Ab H aNs:=qS (pC s0 x) u;have z:L≠r:=λe=>(by rw[e,Af] at y;cases y);have B:mV H L:=by
  cases e:H L with
  |none=>rfl
  |some o=>rw[pS e] at y;cases y
 generalize ak:aNs=al at s2 y;have s3:Ab H (nD al L [mF r]):=qS s2 B;refine(18,rZ l,114,f,0,wZ s3 ag,8,16,(((nH af.map).length:Nat):Int) - 1,-1,-1,m.feet.length,2,53)
 .rw[ArX,n];have:=Rq.neg (i:=(m.feet.length:Int) - 1) (j:= -1) aA aA aZ aZ;rw[show((m.feet.length:Int) - 1 - -1).toNat=m.feet.length by omega] at this;exact this
 rw[ArX,n];refine Ajt (λj σ H1=>∃v1,σ=[bM,mH L,v1]/\ fP /\j<=m.feet.length/\J0 H1 L m g (m.feet.length - j))
  (61,2,s3,aT,[r],Af,by show 1=_;omega,λk d hk=>?_) ?_ ?_
 .cases k with
  |succ k=>simp at hk
  |zero=>
   simp at hk;subst hk;refine(Asr z,IK.ne ((_,by rw[<-ak,Af],λa Am Av=>?_),λq=>by omega) (Asr z));rw[show m.feet.length - 0+0=m.feet.length by omega,AdK];by_cases e:a=g.length/\Am=true
   .rw[bV,FO (pJ e.1 e.2)];rfl
   rw[bP,FP (λh=>e (by have:=Sw h;exact(this.1.symm,this.2.symm))),AiW];rfl
 .rintro j σ H1 hj ⟨v1,rfl,s4,_,ds,C,am,D⟩;have hlen:0<ds.length:=aA;have an:aNt:=by
   refine mB4 ?_;rw[ArY,mK hlen];rfl
  have ao:(m.feet.length:Int) - 1+((j:Nat):Int)* -1=((m.feet.length - 1 - j:Nat):Int):=aA;rw[ao];have ap:Mf H1 ds[0] (NW m g (m.feet.length - 1 - j+1)) (FU m):=by have:=(D 0 ds[0] (mK hlen)).2.1;rw[show m.feet.length - j+0=m.feet.length - 1 - j+1 by omega] at this;exact this
  refine(0,pY C,74,mC s4 l,hF.n4,16,160,an,p,m,g,m.feet.length - 1 - j,ds[0],0,hs.same s4,hm,ab,4,ap,λd' aq s5 G ar=>(L,aDK,mF d',26,mC s5 C,fR,0,wB s4 s5 B,hj,d'::ds,by rw[Af];rfl,by rw[As1];omega,λk d hk=>?_));have I:d'≠L:=λe=>(by rw[e,C] at G;cases G)
  cases k with
  |zero=>
   simp at hk;subst hk;refine(I,IK.ne ?_ I);have J:m.feet.length - 1 - j<m.feet.length:=aA;rw[show m.feet.length - (j+1)+0=m.feet.length - 1 - j by omega];obtain⟨M,N,O,e3⟩:=ar;refine((M,N,λa Am Av=>?_),λ_=>(M,N,λa Am ha Av=>?_,e3))
   .by_cases ha:a<g.length
    .rw[O a Am ha Av,AdJ J];rfl
    rw[e3 a Am aA,Amy hm J a Am aA];rfl
   rw[O a Am ha Av,AdJ J]
  |succ k=>
   rw[AtM] at hk;have U:=D k d hk;refine(U.1,IK.ne ?_ U.1);have:=U.2.same s5;rw[show m.feet.length - j+k=m.feet.length - (j+1)+(k+1) by omega] at this;exact this
 rintro σ H1 ⟨v1,rfl,s4,_,Y⟩;rw[At9] at Y;exact(0,k L H1 s4 B Y)
structure Pz(t:Aw)(H:Hp)(p:Addr)(m:Bi)(sy:aB):Prop where
 at_:Jy t H p m sy
 ex:∃dx fs L,H p=oN t.Dq fs/\oE ("counts":Str)=oR V.ref L/\oE ("total":Str)=oR mO (NW m sy 0 0 m.cuts.isEmpty:Nat)/\oE ("way_numbered":Str)=none/\J0 H L m sy 0
theorem Pz.same(h:Pz t H p m g)(s:aO):Pz t H' p m g:=by obtain⟨h0,dx,fs,L,i,j,q,h4,u⟩:=h;exact(h0.same s,dx,fs,L,nM i,j,q,h4,u.same s)
theorem J0.AdL(h:J0 H L m g i)(hp:H p=hC):J0 (mY H o) L m g i:=by obtain⟨ds,j,q,s⟩:=h;refine(ds,by rw[Ah (mAJ j hp)];exact j,q,λk d e=>(oS (s k d e).1));obtain⟨u,v,_⟩:=(s k d e).2.1;exact(s k d e).2.ne (mAJ v hp)
def Am1(t:Aw):Sp:=λvs H Q _=>∃(p dx mp sa:Addr)(m:Bi)(a:aB)(G:Hp),vs=[aS,mF mp,mF sa]/\H p=rX t.Dq/\G p=none/\Ab G H/\mCc G/\m.Ok/\G sa=oC a/\1<=a.length/\a.length<=100000/\
 ∀H',mFs G->Pz t H' p m a-> cW
theorem Am2:AD aFJ aFJ (A0 AaI):=aG
theorem AdM(T:aE):A4 P w K mg base A9 5 t.LP t.Acl aFJ (Am1 t):=by
 refine T.LP.F.ok Am2 cO aJj
 .obtain⟨p,dx,mp,sa,m,g,G,rfl,_⟩:=h;rfl
 obtain⟨p,dx,mp,sa,m,g,G,rfl,hp,i,l,hm,n,u,ab,ac,k⟩:=h;obtain⟨v,f,c,x,ae,y⟩:=hm;have z:∀o,Ab G (mY H o):=λo=>qS l i;obtain⟨pc,af,B,ag⟩:=id y;refine(_,(Ak (nW cC)
  (Ak (nW cC)
  (Ak lG
  (Ak (nW (Ie (qY aY) (CV (vO Dw)) (CV (mU Dw))))
  (Ak (nW (GY aK T.Ca.c T.Nz.h (Am0 T) eH T.Nz.b .nil Ay))
  (Ao (nW (Lr (F5 d) (qU aY Ar) (CV (Ad Ar (mU (tL aY Ar)))) fD)))))))),5)
 refine(199,v,3,mC l x,112,2,72,hp,33,T.RS,aZ,199,v,3,sL z x,113,2,72,Af,33,T.Vx,198);rw[B1];refine(mAW T.Ca.c T.NH 2);rw[B1];refine(17,Af,33,T.Vx,2,_,mDI (sL z af),5);have ah:(!(nH pc.map).isEmpty)= !m.cuts.isEmpty:=by
  cases pc with
  |nil=>rw[Av9 B.symm];rfl
  |cons a r=>
   cases e:m.cuts with
   |nil=>rw[e] at B;cases B
   |cons b ai=>rfl
 rw[ah];by_cases C:m.cuts=[]
 case' pos=>
  rw[show(!m.cuts.isEmpty)=false by rw[C];rfl];refine Az (mDD 1);have aj:[V.bl true]=aF4:=(by rw[mJ C])
 case' neg=>
  rw[show(!m.cuts.isEmpty)=true by cases e:m.cuts with|nil=>exact nK e C|cons a r=>rfl];refine Au (mDD 2);have aj:[V.bl false,V.bl true]=aF4:=(by rw[mM C])
 all_goals
  rw[aj];have D:q≠p:=λe=>(by rw[e,Af] at hq;cases hq);refine(72,by rw[nX D,Af],33,T.RT,200);generalize I:mY (Aa (mY H _) q _) _=J;have M:J p=some (nC t.Dq [("feet",iN,),("cuts",mF c,),("syllables",mF sa,),("met_values",mF q,)]):=(by rw[<-I,Af];rfl);have ak:oI J q (.Al aF4):=(by rw[<-I,Ah D,Af]);have s4:Ab G J:=(by rw[<-I];exact qS (pC (z _) hq) i);refine(219,M,2,p,m,g,2,(19,f,c,sa,q,M,aNu,ae.same s4,y.same s4,mC s4 u,ak),n,ac,λL N s5 al am=>?_);have an:=mC s5 M;refine(72,an,33,T.RU,(qG 4),5);have ao:(mY N aDL) q=some (.Al (lH.map V.bl)):=(by rw[Ah D,<-Su];exact mC s5 ak);have ap:=am.AdL (o:= aDL) an;have O:xB N aDL:=Af;have aq:Ab G (mY N aDL):=wB s4 s5 i;generalize (mY N aDL)=ar at*;obtain⟨ds,as,hd2,au⟩:=id ap;have av:=n.Qr;have aw:0<ds.length:=aA;have ax:aNt:=by refine mB4 ?_;rw[ArY,mK aw];rfl
  have ay:aNv:=by refine mB4 ?_;rw[ArY,Sv];rfl
  obtain⟨az,a0,a1,a2⟩:=(au 0 ds[0] (mK aw)).2.2 aA;refine(17,O,33,T.RU,2,L,36,mN as,ax,17,O,33,T.RT,2,q,36,nQ ao,ay,qL 2,λa3 a4=>?_);have U:=Ab.Aa (o:= aNw) a4;have hg:=E8.t (mC U a0) (Ss (a:=0) (Am:=m.cuts.isEmpty) (q:=a3) Af);rw[a1 0 _ aA (VY (Asl (Sv m)))] at hg;refine(3,hg,72,mC U O,33,T.Vy,142);have Y:Ab G (mY (Aa ar a3 aNw) (nC t.Dq (Cn "total" (mO (NW m g (0+0) 0 m.cuts.isEmpty:Nat)) aNx))):=wB aq U i;refine k _ Y ((19,f,c,sa,q,Af,aNu,ae.same Y,y.same Y,mC Y u,by rw[Ah D,Su];exact mC U ao),19,L,Af,26,2,(ap.same U).AdL (mC U O))
def Am3(t:Aw):Sp:=λvs H Q _=>∃(p:Addr)(m:Bi)(a:aB)(k:Nat),vs=[aS,mE (k:Int)]/\Pz t H p m a/\m.Ok/\a.length<=100000/\k<mH2 a/\
 ∀D H' tk,aO ->H D=none->H' D=oC tk->(mAq a)[k]? =mB tk->oQ D
def muC(n:Nat)(σ:St)(_:Hp):Nat:=match σ[7]? with|some (some (V.int z))=>n - z.toNat|_=>0
theorem Am5(g:α->Nat)(l:cM)(c:Nat)(x:α)(h:l[c]? =aW):AM ((l.take (c+1)).map g)=AM ((l.take c).map g)+g x:=by
 rw[AsA,h,As7];have:∀(u v:aB),AM (u++v)=AM u+AM v:=by
  intro u v
  induction u with
  |nil=>simp[AM]
  |cons a r b=>rw[At8,C7,C7,b];omega
 rw[this];congr 1;simp[AM]
theorem G4:AD ["self","k","taken","at","met","foot","ways","choice","count"] (qR "k") (A0 AaN):=aG
theorem Am6(T:aE):A4 P w K mg base A9 3 t.N0 t.Acr (qR "k") (Am3 t):=by
 refine pF T.N0.F.ok G4
 .obtain⟨p,m,b,ac,rfl,_⟩:=h;rfl
 obtain⟨p,m,b,ac,rfl,hf,hm,ae,af,k⟩:=h;have hs:=hf.at_;obtain⟨dx,fs,f,c,sa,q,d,hF,ag,h4,ah,h6⟩:=hs.ex;rw[Su] at h6;obtain⟨ai,aj,L,g1,ak,_,_,al⟩:=hf.ex;rw[d] at g1;injection g1 with g1
 injection g1 with _ _ g1
 subst g1;obtain⟨am,an,ao,ap⟩:=ag;obtain⟨ds,aq,hd2,ar⟩:=al;have as:aNv:=by refine mB4 ?_;rw[ArY,Sv];rfl
 refine(_,(Ak (qJ G4.nd dM)
  (Ak (rW G4.nd Ar)
  (Ak (qN G4.nd (tL aY Ar))
  (Ak (BS Asq rfl aJk (uA 5 G4.nd 6) (Ak (mH3 G4.nd Ar)
  (Ak (mCd G4.nd (mH1 (Ad bJ (Ad (vM B9 6) aNy))))
  (Ak (Ka Asq (pL QN aP kB) (Ak (Hw (i:=1) G4.nd rfl cX kB Y0)
  (Ak (Hw (i:=7) G4.nd rfl cX Ar Jn)
  (Ao (mCd G4.nd (mH1 (Ad bJ (Ad (qU cA eZ) aNy))))))))
  (Ak (Cu (mDx (mU eZ)))
  (Ak (qN G4.nd (QC bG (JY (Bx aK T.Ca.c T.Kx.h (AdG T) bR T.Kx.b .nil Ay (Ad bJ (uW (qU cA eZ) bB))))))
  (Ao (Hw (i:=3) G4.nd rfl cX (mFt HB (mU (qU cA eZ))) Jn))))))))
  aBi)))),5)
 refine(aT,λD au=>?_);have s0:Ab H (pK H D):=mS au;refine(18,mC s0 d,33,T.RT,hF.Es,q,36,rK s0 h6,as,18,mC s0 d,114,f,0,nA s0 an,5);refine Fn (J:=MM K f) m.feet.length (λi σ H1=>∃(a:Nat)(Am:Bool)(g:Nat)(tk:aB)(l v6 u v:bQ),σ=[bM,mX (g:Int),mH D,aAp,zF Am,l,v6,u,v]/\ fP /\H1 D=oC tk/\tk.length=i/\FU m Am/\g<NW m b i a Am/\
  (mAq b)[ac]? =((mGM i)[g]?).map (tk++·))
  (64,m.cuts.isEmpty,ac,[],14,14,2,s0,90,VY (Asl (Sv m)),af,9)
  (λi σ H1 av (_,_,_,_,_,_,_,_,_,s1,_)=>(tM s1 an (by omega:i<am.length)))
  (λσ H1 (_,_,_,_,_,_,_,_,_,s1,_)=>(sA s1 an)) ?_ ?_
 .rintro i σ H1 y aw av ⟨a,Am,g,tk,l,v6,u,v,rfl,s1,ax,ay,Av,z,hw⟩ ⟨az,x,rfl,a0,rfl,hx⟩;have a1:i<am.length:=aA;have hx':=hx _ (nA s1 an);rw[ArY,mK a1] at hx';simp at hx';subst hx';have B:=ap i am[i] m.feet[i] (mK a1) (mK av);have a2:=As8 av;obtain⟨a3,a4,a5⟩:=mCP hm.Bz i av;have a6:i+1<ds.length:=aA;have a7:=(ar (i+1) ds[i+1] (mK a6)).2.1;rw[AsZ] at a7;have a8:BX aDK ((i:Int)+1)=some (mF ds[i+1]):=by
   rw[show(i:Int)+1=((i+1:Nat):Int) by omega];apply AZ;rw[ArY,mK a6];rfl
  generalize m.feet[i]=ws at*;generalize am[i]=C at*;generalize ds[i+1]=dd at*;have a9:∀w∈ws,w.length<=1000:=λw hw=>by have:=a5 w hw;simp only[Eh,Bool.and_eq_true,decide_eq_true_eq] at this;omega
  have s2:Ab H (mH4 az C):=pC s1 a0;have ba:=Ab.Aa (o:= mCb (i:Nat) nE C) a0 _ _ ax;refine(mFu az Af);generalize (mH4 az C)=aw at*;have G:∀(j:Nat)(hj:j<ws.length),BX (sv ws) (j:Int)=some (oW ws[j]):=λj hj=>by apply AZ;rw[ArY,cT];rfl
  rw[a2] at hw;have bb:g<AM (ws.map (mFv cw aAr)):=by rw[<-XO,<-a2];exact z
  refine(74,pS d,hF.n3,16,C,36,nA s2 B,G 0 a4,16,18,pS d,184,nA s2 aq,a8,p,m,b,i,ws[0],a,Am,dd,0,hs.same s2,vN a9 a4,Av,a7.same s2,λbc s3=>?_);refine Yy (λσ I=>∃(M N:Nat)(bd be:Int)(hc:M<ws.length),bd=M/\be=N/\σ=[bM,mX be,mH D,aAp,zF Am,mX (i:Nat),mH C,mX bd,aNz]/\Ab aw I/\N+aNA=g) (muC ws.length)
   (64,g,19,a4,26,2,s3,by simp[AM]) ?_ ?_
  .rintro σ I ⟨M,N,bd,be,hc,rfl,rfl,rfl,s4,he⟩;have O:=nB s2 s4;refine(16,58);have bf:=Am5 (mFv cw aAr) ws M ws[M] (mK hc);by_cases hge:aNB <=N
   .rw[mW aA];have bg:M+1<ws.length:=by
     rcases Atq (M+1) ws.length with h|h
     .exact h
     rw[AsW h] at bf;omega
    refine Au aM7;refine(0,8,5);have bh:BX (sv ws) ((M:Int)+1)=some (oW ws[M+1]):=by rw[show(M:Int)+1=((M+1:Nat):Int) by omega];exact G (M+1) bg
    refine(74,mC O d,hF.n3,42,C,36,nA O B,bh,16,18,mC O d,184,nA O aq,a8,p,m,b,i,ws[M+1],a,Am,dd,0,hs.same O,vN a9 bg,Av,a7.same O,λbi s5=>((M+1,N - aNB,19,bg,4,4,2,nB s4 s5,4),5));show ws.length - ((M:Int)+1).toNat<ws.length - ((M:Nat):Int).toNat;omega
   rw[mT aA];refine Az (0,mG (2,_,nA s4 ba),0,D,8,mC s4 ba,BA (by rw[ArX];have:=hm.KY;omega),5);have s5:Ab H aJl:=qS O au;have bj:zV (aJl) D (tk++[M]):=(pP Af);generalize aJl=bi at*;have U:N<cw m.cuts b aAr i a Am ws[M]:=aA;have bk:uK ws[M]=true:=by
    unfold cw at U;split at U
    .assumption
    omega
   have hle:a+(ws[M]).length<=b.length:=by unfold Ct at bk;simp at bk;exact bk.1
   have bm:=AgG m.cuts b ws aAr i a Am M N ws[M] (mK hc) U;rw[show aNA+N=g by omega] at bm;rw[bm] at hw;have bn:qI (mk ws[M]).length:=AL (by rw[BT];have:=vN a9 hc;omega);have fin:∀(mt:Bool)(Y:Hp),FU m mt->Ab bi Y->mt=(Am||mBl i ws[M])->
    ∃(bo:Nat)(bp:Bool)(bq:Nat)(br:aB)(l v6 u v:bQ),[oR V.ref p,mX (N:Int),mH D,mX (mDv (a:Int) ws[M]),zF mt,mX (i:Nat),mH C,mX (M:Int),aNz]=[bM,mX (bq:Int),mH D,mX (bo:Int),zF bp,l,v6,u,v]/\Ab H Y/\Y D=oC br/\br.length=i+1/\FU m bp/\bq<NW m b (i+1) bo bp/\
     (mAq b)[ac]? =((mGO bo bp)[bq]?).map (br++·):=by
    intro mt Y bs bt bu;refine(a+(ws[M]).length,mt,N,tk++[M],49,by rw[BT];congr 5,nB s5 bt,mC bt bj,by rw[Asi,ay];rfl,bs,53)
    .unfold cw at U;rw[mJ bk] at U;rw[bu];exact U
    rw[hw,bu,Option.map_map];congr 1;funext r;simp
   refine aAm
   cases Am with
   |true=>exact Au (134,bn,8,fin true bi bA eQ rfl)
   |false=>
    refine Az (74,mC s5 d,hF.n2,134,p,m,b,i,ws[M],a,2,hs.same s5,vN a9 hc,hle,λY bt=>?_);refine(42,C,36,nA (nB s5 bt) B,G M hc,0,bn,8,fin _ Y ?_ bt rfl);rcases Av with h|h
    .cases h
    exact mI h
  rintro σ I bv bw bx ⟨bz,b0,b1,b2,n1,n2,e3,b3,b4,b5,hq⟩;exact(bz,b0,b1,b2,n1,n2,e3,b3,b4,b5,mC bx hq)
 rintro σ H1 ⟨a,Am,g,tk,l,v6,u,v,rfl,s1,ax,ay,Av,z,hw⟩;refine(0,k D H1 tk s1 au ax ?_);rw[AdK] at z;rw[hw,AuI];unfold Bz;by_cases e:a=b.length/\Am=true
 .rw[bV] at z⊢;rw[show g=0 by omega];simp
 rw[bP] at z;omega
theorem HI(l:aB):iv l=iC.map V.int:=by simp
theorem Mg(l:aB):iC.map Int.toNat=l:=by
 rw[AsB]
 conv=>rhs;rw[<-List.map_id l]
 apply AsU;intro n _;simp
theorem AdN(n:Nat):aJm=aNC:=by
 by_cases h:n<128
 .exact(by decide+kernel:∀n:Nat,n<128-> aJm=aNC) n h
 have hc:∀c∈K8,c<128:=aZ;have a:pH aJm:=by grind
 rw[a];have b:qP Kgz1.isCapital n:=by
  cases e:Kgz1.isCapital n with
  |false=>rfl
  |true=>
   have:n<128:=by simp[Kgz1.isCapital] at e;omega
   omega
 unfold Kgz1.isLetter;grind
theorem Am7(l:aB):(mFg iC.all K8.any)=Kgz1.okLine l:=by rw[Atw];apply AwO rfl;intro n;exact AdN n
theorem V_(l:aB):Md iC=if kC=true then .Ax else .str (mk l):=by unfold Md K6;rw[Am7,Mg,ArX];unfold Kgz1.wrong;grind
theorem Sx(h:pH kC):Kgz1.okLine l=true/\1<=l.length/\l.length<=255:=by unfold Kgz1.wrong at h;grind
theorem AdO(l:aB):dZ.length=aBl.length:=by rw[O1,ArX]
theorem Sy(l:aB):aAs= !decide (1<= kD.length/\ kD.length<=64):=by
 rw[ArX,AdO];unfold Kgz1.bad
 cases e:aBl with
 |nil=>rfl
 |cons a r=>
  grind
theorem Wb(l:aB):decide (1<= kD.length/\ kD.length<=64)= !Kgz1.bad aBl:=by rw[Sy,Bool.not_not]
theorem Wc(n:Nat)(l:aB)(h:l.length<=n):mAb n l=l++List.replicate (n - l.length) 0:=by unfold Kgz1.padded;apply AsJ;grind
theorem AdP(x:α):∀n:Nat,(pG n [x]).flatten=pG n x
 |0=>rfl
 |n+1=>by rw[AtC,Aub,AdP x n];rfl
def IL(a:Kgz1.Ans):List V:= mE a.value::iv a.out
def Am8:Sp:=λvs H Q _=>∃(a:Addr)(l:aB)(n:Nat),vs=[aJ,jZ]/\H a=oC l/\l.length<=n/\n<=1000/\∀D H',aO ->H D=none->H' D=oC (mAb n l)->oQ D
theorem Am9:AD aFu aFu (A0 AaS):=aG
theorem AdQ(T:aE):A4 P w K mg base A9 1 t.padded t.Acx aFu Am8:=by
 refine vZ T.padded.F.ok Am9
 .obtain⟨a,l,n,rfl,_⟩:=h;rfl
 obtain⟨a,l,n,rfl,ha,d,e,k⟩:=h;refine(_,(Ao (A3 (AE HC aK (mDF (AE FI aP aAn))))),0,92,eI);have s1:=wC gE hq;refine(16,a,0,wZ s1 ha,8,q,8,Af,5);rw[ArX];have f:((n:Int) - ((l.length:Nat):Int)).toNat=n - l.length:=aA;rw[f,AdP];refine(4,4,AL (by show 1*_<=_;omega),λg i=>?_);have s2:=wC (pG (n - l.length) (mO 0)) i;refine(a,g,8,nV s2 s1 ha,Af,AL (mBF AuB),λD j=>?_);refine k D _ (nB s1 (pC s2 j)) (s1.free (s2.free j)) ?_;rw[Af,Wc n l d];simp
def AmA(K:PySem.W.Frag):Sp:=λvs H Q _=>∃(a:Addr)(l:aB),vs=cR /\yK l/\∀D H',aO ->H D=none->H' D=nU (IL aDM)->oQ D
theorem We:AD ["line","text","syllables"] ["line"] (A0 AaT):=aG
theorem AmB(T:aE):A4 P w K mg base A9 8 t.speak t.Acy ["line"] (AmA K):=by
 refine vZ T.speak.F.ok We
 .obtain⟨a,l,rfl,_⟩:=h;rfl
 obtain⟨a,l,rfl,d,k⟩:=h;obtain⟨e,f,g⟩:=T.V4;obtain⟨j,m,p⟩:=T.AcL;obtain⟨r,u,x⟩:=T.AcH;refine(_,(Ak (tY We.nd (mH5 aBh))
  (Ak (nI (xA aP) (mCe f g))
  (Ak (qJ We.nd (mH6 dX))
  (Ak (nI (Ff (D9 (Bb (Adn T) eG rfl T.Ip.m T.Ip.F.kp T.Ip.b .nil Ay jX))) (mCe m p))
  (Ao (A3 (AE HC (rY aCp) (mK0 (oP aX (nP u x)))))))))),5)
 refine(78,iC,2,by rw[<-HI];exact d,λH1 s1=>?_);generalize y:Md iC=v;rw[V_] at y
 cases hw:kC with
 |true=>
  rw[hw,bF] at y;subst y;have z:aDM=Kgz1.say (-22):=(by show(if _ then _ else _)=_;rw[hw,bF]);rw[z] at k;refine(mHZ Au (mK1 s1 s1.free))
 |false=>
  rw[hw,bS] at y;subst y;obtain⟨Av,C,G⟩:=Sx hw;refine(mCf (0,41,λS I s2 J L=>?_));rw[Fo] at L;refine(0,S,0,mN L,0,5);have hb:=Sy l;have M:=lJ
  cases N:aAs with
  |true=>
   rw[N] at hb;rw[Wb l,N];have z:aDM=Kgz1.say (-71):=by show aND=_;rw[hw,bS,N,bF]
   rw[z] at k;refine Au (mK1 M M.free)
  |false=>
   rw[N] at hb;rw[Wb l,N];have hlen:dZ.length<=64:=by have:decide (1<= kD.length/\ kD.length<=64)=true:=cH;have:=Aut this;rw[ArX] at this;exact this.2
   have z:aDM=((aBl.length:Nat),mAb 64 (aBl.map Kgz1.number)):=by show aND=_;rw[hw,bS,N,bS]
   rw[z,<-O1,<-AdO] at k;refine Az (0,S,0,uB L,92,eI);rw[ArX];have s3:=wC [mO (dZ.length:Nat)] hq;refine(0,S,dZ,(64),2,rZ L,hlen,21,λO U s4 aa Y=>(q,O,8,mC s4 Af,Y,mK2 64 hlen,λD B=>?_));exact k D _ (qE M s3 (pC s4 B)) (M.free (s3.free (s4.free B))) Af
def FV(o:Bool)(l:aB):Int:=if o then -22 else if kC=true then -23 else if aAs=true then -71 else 0
def HJ(l:aB):V:=if kC=true then .Ax else oW l
def AmC:Sp:=λvs H Q _=>∃(a:V)(o:Bool)(l:aB),vs=[a,HJ l]/\((o=true/\a= .Ax)\/(o=false/\∃p,a= aS))/\∀H',aO ->oV (mE (FV o l))
theorem AmD:AD aFv aFv (A0 AaU):=aG
theorem AdR(T:aE):A4 P w K mg base A9 8 t.IB t.Acz aFv AmC:=by
 refine qT T.IB.F.ok AmD
 .obtain⟨c,o,l,rfl,_⟩:=h;rfl
 obtain⟨c,o,l,rfl,d,k⟩:=h;obtain⟨e,f,g⟩:=T.V4;obtain⟨i,j,m⟩:=T.AcK;obtain⟨n,q,r⟩:=T.AcL;refine(_,(Ak (nI (xA aK) (zR f g))
  (Ak (nI (xA aP) (zR j m))
  (Ak (nI (Ff (D9 (Bb (Adn T) dW rfl T.Ip.m T.Ip.F.kp T.Ip.b .nil Ay (mU (Bb (Sl T) dW rfl T.Fk.m T.Fk.F.kp T.Fk.b .nil Ay dX))))) (zR q r))
  (oM Ar)))),5)
 unfold FV at k;rcases d with⟨rfl,rfl⟩|⟨rfl,p,rfl⟩
 .exact(mHZ mB5 H)
 refine aF2;rw[bS] at k
 cases hw:kC with
 |true=>
  have u:HJ l= .Ax:=(mFw bF);rw[hw,bF] at k;refine iA;rw[u];exact mB5 H
 |false=>
  have u:aJn:=(mFw bS);rw[hw,bS] at k;obtain⟨Av,v,x⟩:=Sx hw;refine iA;rw[u];refine Az (0,41,λS y s2 z B=>?_);rw[Fo] at B;refine(S,0,mN B,0,5);rw[Wb l]
  cases C:aAs with
  |true=>rw[C,bF] at k;exact Au (k y s2)
  |false=>rw[C,bS] at k;exact Az (k y s2)
theorem AmE(m:Bi)(l:aB):mH2 dZ=aF5.length:=by rw[T4,<-O1];rfl
def AmF(K:PySem.W.Frag):Sp:=λvs H Q _=>∃(a b:Addr)(c l:aB),vs=aAk /\yK c/\Ae K H b (iv l)/\c.length<=30000/\∀D H',aO ->H D=none->H' D=nU (IL (mFx c.length c))->oQ D
theorem Sz:AD ["measure_numbers","line","measure","text","refusal"] aIK (A0 AaV):=aG
theorem AmG(T:aE):A4 P w K mg base A9 9 t.scan t.Ac0 aIK (AmF K):=by
 refine mDC T.scan.F.ok Sz
 .obtain⟨a,b,d,l,rfl,_⟩:=h;rfl
 obtain⟨a,b,d,l,rfl,e,f,g,k⟩:=h;obtain⟨ab,j,o⟩:=T.Aks;refine(_,(Ak (qJ Sz.nd (Bb (VW T) eG rfl T.Gz.m T.Gz.F.kp T.Gz.b .nil Ay aBh))
  (Ak (rW Sz.nd (mH5 dX))
  (Ak (qN Sz.nd (mK3 (pM 2 3)))
  (Ak (nI (qY bG) (oM (rY bG)))
  (Ao (A3 (By (mU (mH7 (Ad (mH8 (mK4 (uW aX (mH6 (mU bB))))) (mU (nP j o)))))))))))),5)
 refine(78,mCg d.map,2,by rw[<-HI];exact e,by rw[ArX];exact g,λn q=>?_,λr H1 s1 u=>?_)
 .obtain⟨x,_,rfl⟩:=nY q;omega
 rw[Mg] at u;refine(0,b,iC,2,by rw[<-HI];exact aCs,λac s2=>?_);rw[show Md iC=HJ l from V_ l];have v:=T1 d;have y:=lJ
 cases hm:Je d with
 |none=>
  rw[hm] at u v;have z:mFx d.length d=Kgz1.say (-22):=(by show aF6=_;rw[v];rfl);rw[z] at k;refine(16,r,true,l,2,xP rfl u,λB s3=>?_);have C:=nB y s3;exact aJo
 |some m=>
  rw[hm] at u v;obtain⟨mp,rfl,I⟩:=u;have J:mFx d.length d=if kC=true then mDL 23 else if aAs=true then mDL 71 else Kgz1.say (min Kgz1.MOST aF5.length:Nat):=by show aF6=_;rw[v];rfl
  rw[J] at k;refine(16,mF mp,182,l,2,mI (2,mp,2),λB s3=>?_);have C:=nB y s3
  cases hw:kC with
  |true=>
   rw[hw,bF] at k;rw[show aCt= -23 by unfold FV;rw[bS,hw,bF]];exact aJo
  |false=>
   rw[hw,bS] at k;obtain⟨Av,ae,af⟩:=Sx hw
   cases M:aAs with
   |true=>
    rw[M,bF] at k;rw[show aCt= -71 by unfold FV;rw[bS,hw,bS,M,bF]];exact aJo
   |false=>
    rw[M,bS] at k;rw[show aCt=0 by unfold FV;rw[bS,hw,bS,M,bS]];have hb:=Sy l;rw[M] at hb;have hlen:aNE:=by have:decide (1<= kD.length/\ kD.length<=64)=true:=cH;have:=Aut this;rw[ArX] at this;exact this
    have N:aJn:=(mFw bS);refine aNF;rw[N];refine(41,λS O s4 ag U=>?_);rw[Fo] at U;intro p dx hp ah ai;refine(p,dx,mp,S,m,dZ,O,215,hp,(mAR ah ai),I.same aJi,T2 hm,U,hlen.1,4,λaj s5 hF=>fT);obtain⟨_,ak,fs,L,g1,_,g3,_,_⟩:=hF;have Y:=qE C s4 s5;refine(p,_,ak,201,3,92,λD G=>k D _ (pC Y G) (Y.free G) ?_);rw[Af,AmE];congr 3;congr 1;show(if(1000000:Int)<_ then(1000000:Int) else _)=((min 1000000 _:Nat):Int);split<;>omega
theorem AmH(m:Bi)(l:aB)(tk:aB)(k:Nat)(hm:m.Ok)(h:(mAq dZ)[k]? =mB tk):tk.length<=16:=by
 have key:∀(r:jA)(i a:Nat)(Am:Bool)(tk:aB),tk∈Bz m.cuts dZ r i a Am->tk.length=r.length:=by
  intro r
  induction r with
  |nil=>
   intro i a Am tk h;unfold Bz at h;grind
  |cons f r b=>
   intro i a Am tk h;simp only[Bz] at h;grind
 rw[key _ _ _ _ _ (Asl h)];exact hm.KY
def AmI(K:PySem.W.Frag):Sp:=λvs H Q _=>∃(c:Nat)(a b:Addr)(d l:aB),vs=[aAt,aJ,bU]/\yK d/\Ae K H b (iv l)/\d.length<=30000/\∀D H',aO ->H D=none->H' D=nU (IL (mFy d.length d c))->oQ D
theorem P3:AD ["k","measure_numbers","line","measure","text","refusal","scansion"] aIL (A0 AaW):=aG
theorem AmJ(T:aE):A4 P w K mg base A9 9 t.way t.Ac1 aIL (AmI K):=by
 refine mDC T.way.F.ok P3
 .obtain⟨d,a,b,e,l,rfl,_⟩:=h;rfl
 obtain⟨d,a,b,e,l,rfl,f,g,ab,k⟩:=h;obtain⟨ac,ae,af⟩:=T.Akr;obtain⟨ag,ah,ai⟩:=T.AcI;refine(_,(Ak (rW P3.nd (mK5 eG))
  (Ak (qN P3.nd (mH5 jX))
  (Ak (sQ P3.nd (mK3 (pM 3 4)))
  (Ak (nI (qY bJ) (oM (rY bJ)))
  (Ak (uC P3.nd (mK4 (uW bB (mH6 lE))))
  (Ak (nI (pL DB (pV 6) aK) (mCe ae af))
  (Ao (A3 (AE HC (rY Ar) (mK0 (Ad (Bx cA T.Ca.c T.N0.h (Am6 T) eG T.N0.b .nil Ay aBh) (mU (nP ah ai))))))))))))),5)
 refine(78,mCg e.map,2,by rw[<-HI];exact f,by rw[ArX];exact ab,λn aj=>?_,λak H1 s1 j=>?_)
 .obtain⟨x,_,rfl⟩:=nY aj;omega
 rw[Mg] at j;refine(0,b,iC,2,by rw[<-HI];exact s1.seq g,λal s2=>?_);rw[show Md iC=HJ l from V_ l];have r:=T1 e;have u:=lJ
 cases hm:Je e with
 |none=>
  rw[hm] at j r;have am:mFy e.length e d=Kgz1.say (-22):=(by show(mH9 e.length e)=_;rw[r];rfl);rw[am] at k;refine(16,ak,true,l,2,xP rfl j,λan s3=>?_);have v:=nB u s3;exact aJp
 |some m=>
  rw[hm] at j r;have z:=T2 hm;obtain⟨mp,rfl,ao⟩:=j;have ap:mFy e.length e d=if kC=true then mDL 23 else if aAs=true then mDL 71 else(match aF5[d]? with|none=>mDL 2|some tk=>(64,mAb 16 tk)):=by show(mH9 e.length e)=_;rw[r];rfl
  rw[ap] at k;refine(16,mF mp,182,l,2,mI (2,mp,2),λan s3=>?_);have v:=nB u s3
  cases hw:kC with
  |true=>
   rw[hw,bF] at k;rw[show aCt= -23 by unfold FV;rw[bS,hw,bF]];exact aJp
  |false=>
   rw[hw,bS] at k;obtain⟨Av,aq,ar⟩:=Sx hw
   cases B:aAs with
   |true=>
    rw[B,bF] at k;rw[show aCt= -71 by unfold FV;rw[bS,hw,bS,B,bF]];exact aJp
   |false=>
    rw[B,bS] at k;rw[show aCt=0 by unfold FV;rw[bS,hw,bS,B,bS]];have hb:=Sy l;rw[B] at hb;have hlen:aNE:=by have:decide (1<= kD.length/\ kD.length<=64)=true:=cH;have:=Aut this;rw[ArX] at this;exact this
    have as:aJn:=(mFw bS);refine aNF;rw[as];refine(41,λS au s4 av C=>?_);rw[Fo] at C;intro p dx hp aw ax;refine(p,dx,mp,S,m,dZ,au,215,hp,(mAR aw ax),ao.same aJi,z,C,hlen.1,4,λay s5 hF=>fT);obtain⟨_,G,fs,L,g1,_,g3,az,_⟩:=id hF;have I:=qE v s4 s5;have J:aF5[d]? =(mAq dZ)[d]? :=(by rw[T4,<-O1]);refine(7,G,201,0,58);by_cases hk:mH2 dZ<=d
    .rw[mW (by omega:((NW m dZ 0 0 m.cuts.isEmpty:Nat):Int)<=(d:Int))];rw[J,As9 (show(mAq dZ).length<=d from hk)] at k;exact Au (92,λD y=>k D _ (pC I y) (I.free y) Af)
    rw[mT (by omega:¬((NW m dZ 0 0 m.cuts.isEmpty:Nat):Int)<=(d:Int))];refine Az (mDD 1);have M:=wC gE hq;refine(0,p,G,fs,2,mC M g1,az,0,p,m,dZ,d,2,hF.same M,z,4,4,λa0 a1 tk N a2 a3 O=>?_);have U:=AmH m l tk d z O;rw[J,O] at k;refine(a0,tk,(16),2,a3,U,21,λa4 a5 Y a6 a7=>(q,a4,8,nV Y N Af,a7,mK2 16 U,λD y=>?_));exact k D _ (nB I (qE M N (pC Y y))) (I.free (M.free (N.free (Y.free y)))) Af
theorem NM(h:eW)(hp:H p=hC)(e:aJq):Ae K H' a xs:=by
 rcases h with(h|⟨o,h⟩)|h
 .exact nG mG (e _ _ (mAJ h hp) h)
 .exact mG (mI (o,e _ _ (mAJ h hp) h))
 exact mI h
abbrev CJ(a:Addr)(n:Nat):List gC:=[("numbers",aJ,),("at",jZ,)]
def AmK(t:Aw):Sp:=λvs H Q _=>∃(p dx a:Addr),vs=[aS,aJ]/\H p=rX t.Cy/\rH (mY H (uD nC 0))
theorem AmL:AD aFL aFL (A0 AaO):=aG
theorem AmM(T:aE):A4 P w K mg base A9 1 t.N2 t.Acs aFL (AmK t):=by
 refine vZ T.N2.F.ok AmL
 .obtain⟨p,dx,a,rfl,_⟩:=h;rfl
 obtain⟨p,dx,a,rfl,hp,k⟩:=h;refine(_,(Ak aAo
  aDN),5)
 refine(87,115,aZ,72,Af,55,198);rw[B1];exact k
def AmN(K:PySem.W.Frag)(t:Aw):Sp:=λvs H Q _=>∃(p dx a:Addr)(n:Nat)(xs:aB),vs=[aS]/\H p=uD oN n/\yK xs/\rS (decide (n=xs.length))
theorem AmO:AD cL cL (A0 AaP):=aG
theorem AmP(T:aE):A4 P w K mg base A9 1 t.N3 t.Act cL (AmN K t):=by
 refine vZ T.N3.F.ok AmO
 .obtain⟨p,dx,a,n,xs,rfl,_⟩:=h;rfl
 obtain⟨p,dx,a,n,xs,rfl,hp,d,k⟩:=h;refine(_,(Ao (A3 (mAS CL aY aCq))),17,hp,55,2,17,hp,115,2,a,0,mG d,2,5);rw[ArX,Fp];exact k
theorem Wf{xs:aB}(h:sV n=v::r):n<xs.length/\xs[n]? =bK /\sV (n+1)=r:=by
 have a:n<xs.length:=by
  rcases mBO Atq n with q|q
  .exact q
  rw[List.drop_of_length_le q] at h;cases h
 rw[As8 a] at h;grind
def AmQ(K:PySem.W.Frag)(t:Aw):Sp:=λvs H Q _=>∃(p dx a:Addr)(n v:Nat)(xs r:aB),vs=[aS]/\H p=uD oN n/\yK xs/\sV n=v::r/\Q (mE (v:Int)) (mY H aCu)
theorem AmR:AD cL cL (A0 AaQ):=aG
theorem Wg(T:aE):A4 P w K mg base A9 1 t.IA t.Acu cL (AmQ K t):=by
 refine mB2 T.IA.F.ok AmR
 .obtain⟨p,dx,a,n,v,xs,r,rfl,_⟩:=h;rfl
 obtain⟨p,dx,a,n,v,xs,r,rfl,hp,f,hd,k⟩:=h;obtain⟨g,i,_⟩:=Wf hd;refine(_,(Ak aJr
  (wA (qU aY (zW aY)))),5)
 refine(17,hp,55,2,8,19,hp,aAu,5);have j:BX (iv xs) (((n+1:Nat):Int) - 1)=some (mE (v:Int)):=by rw[show((n+1:Nat):Int) - 1=((n:Nat):Int) by omega];apply AZ;rw[ArY,i];rfl
 exact(82,115,2,82,55,2,8,a,36,(NM (H':=mY H aCu) f hp (λb o hb e=>by rw[gX];exact e)),j,k)
def G5:aB ->oK aCT
 |[]=>none
 |n::r=>if n<=r.length then mB (r.take n,r.drop n,) else none
def Et:Nat-> aB ->oK (bW × aB)
 |0,r=>mB ([],r,)
 |k+1,r=>match G5 r with
  |none=>none
  |some (x,s)=>match Et k s with
   |none=>none
   |some (xs,t)=>mB (x::xs,t,)
theorem S0(h:G5 l=mB (x,s,)):∃r,l=x.length::r/\r=x++s:=by
 cases l with
 |nil=>cases h
 |cons n r=>
  have h':aNG=some (x,s,):=h;by_cases a:n<=r.length
  .rw[mJ a] at h';injection h' with h'
   injection h' with b c
   subst b c;simp_all
  rw[mM a] at h';cases h'
theorem AmS(xs:aB)(n:Nat)(x s:aB)(h:sV n=x++s):sV (n+x.length)=s:=by rw[<-AvJ,h,List.drop_left]
def AmT(K:PySem.W.Frag)(t:Aw):Sp:=λvs H Q _=>∃(p dx a:Addr)(n:Nat)(xs x s:aB),vs=[aS]/\H p=uD oN n/\yK xs/\xs.length<=100000/\G5 (sV n)=mB (x,s,)/\
 ∀D n',H D=none->sV n'=s->n<n'->n'<=xs.length->Q hE (Aa (mY H (uD nC n')) D (pW x))
theorem AdS:AD (qR "size") cL (A0 AaR):=aG
theorem AdT(T:aE):A4 P w K mg base A9 2 t.Kz t.Acv cL (AmT K t):=by
 refine mB2 T.Kz.F.ok AdS
 .obtain⟨p,dx,a,n,xs,x,s,rfl,_⟩:=h;rfl
 obtain⟨p,dx,a,n,xs,x,u,rfl,hp,f,g,j,k⟩:=h;obtain⟨r,l,m⟩:=S0 j;obtain⟨q,v,y⟩:=Wf l;rw[m] at y;have hle:n+1+x.length<=xs.length:=by have:=yU y;rw[AtH,Asi] at this;omega
 refine(_,(Ak (tY AdS.nd (mIa aK eH))
  (Ak (GW aK aP Jn)
  (Ao (A3 (F4 (sC IG) aY (EZ (AE FI aY aP)) (EZ aY)))))),5)
 refine(219,hp,83,n,x.length,xs,r,2,hp,f,l,5);have z:∀o b u,b≠p->H b=aM ->(mY H o) b=some u:=λo b u hb e=>(oY hb e);refine(82,55,31,8,19,Af,aAu,5);rw[B1];have B:=NM (H':=mY H (uD nC aF7)) f hp (z _);have C:Dx (iv xs) (mB (((n+1+x.length:Nat):Int) - ((x.length:Nat):Int))) (mB ((n+1+x.length:Nat):Int))=iv x:=by unfold Dx;rw[show((n+1+x.length:Nat):Int) - ((x.length:Nat):Int)=((n+1:Nat):Int) by omega,HT.Hz,HT.Hz,ArX,AtZ aA,AtZ aA,<-List.map_drop,y,<-AuM,show n+1+x.length - (n+1)=x.length by omega,List.take_left]
 refine(95,115,2,95,55,31,8,0,95,55,31,a,0,B,λD G=>?_);rw[C];rw[Ah (λe=>by rw[e,Af] at G;cases G)] at G;exact k D _ G (by rw[show n+1+x.length=(n+1)+x.length from rfl];exact AmS xs (n+1) x u y) aA hle
def Mh(H:Hp)(L:Addr)(ls:bW):Prop:=∃ds:aQ,H L=pU ds.map/\ds.length=ls.length/\∀(i:Nat)(d:Addr)(x:aB),ds[i]? =mB d->ls[i]? =aW ->H d=oC x
theorem Mh.same(h:Mh H L ls)(s:aO):Mh H' L ls:=by obtain⟨ds,g,j,q⟩:=h;exact(ds,nM g,j,λi d x a b=>nM (q i d x a b))
theorem Wh:∀(k:Nat)(l:aB)(ls:bW)(u:aB),Et k l=vW ls->ls.length=k/\k+u.length<=l.length
 |0,l,ls,u,h=>by injection h with h;injection h with a b;subst a b;exact(mDM rfl)
 |k+1,l,ls,u,h=>by
  unfold Et at h
  cases e:G5 l with
  |none=>rw[e] at h;cases h
  |some q=>
   obtain⟨x,s⟩:=q;rw[e] at h;simp only at h
   cases c:Et k s with
   |none=>rw[c] at h;cases h
   |some d=>
    obtain⟨xs,t⟩:=d;rw[c] at h;injection h with h
    injection h with a b
    subst a b;have f:=Wh k s xs t c;obtain⟨r,g,h4⟩:=S0 e;grind
def AmU(K:PySem.W.Frag)(t:Aw):Sp:=λvs H Q _=>∃(p dx a:Addr)(n k:Nat)(xs r:aB)(ls:bW)(u:aB),vs=[aS]/\H p=uD oN n/\yK xs/\xs.length<=100000/\sV n=k::r/\Et k r=vW ls/\
 ∀D n' H',H D=none->sV n'=u->n<n'->n'<=xs.length-> aJq ->H' p=uD oN n'->Mh H' D ls->oQ D
abbrev AmV:List Str:=(qR "number")
theorem Wi:AD (qR "number") cL (A0 Vi):=aG
theorem AmW(T:aE):A4 P w K mg base A9 3 t.N4 t.Acw cL (AmU K t):=by
 refine pF T.N4.F.ok Wi
 .obtain⟨p,dx,a,n,c,xs,r,ls,u,rfl,_⟩:=h;rfl
 obtain⟨p,dx,a,n,c,xs,r,ls,u,rfl,hp,ac,ae,af,ag,k⟩:=h;obtain⟨ah,ai,aj⟩:=Wf af;have hlen:=rT Wh ag;have ak:mCh 100000:=(by rw[<-aj,AtH];omega);refine(_,(Ao (A3 (Dk rfl Wi.nd (mFq (mIa aK bR)) (qM ("number",1,) AmV Vi) (pR 1 Wi.nd) cK (qK (mK6 aK bR))))),219,hp,83,n,c,xs,r,2,hp,ac,af,0,4,4,λD f=>?_);have g:D≠p:=λe=>aNH;have l:mV H D:=(by rw[Ah g] at f;exact f);rw[show((c:Nat):Int).toNat=c by omega];refine EA (J:=Jl 0 c) c (λj H'=>∃(n':Nat)(ds:aQ),aJq /\H' p=uD oN n'/\n<n'/\n'<=xs.length/\Et (c - j) (sV n')=mB (ls.drop j,u,)/\H' D=pU ds.map/\ds.length=j/\∀(i:Nat)(d:Addr)(x:aB),ds[i]? =mB d->ls[i]? =aW ->d≠D/\d≠p/\H' d=oC x)
  (n+1,[],λb o hb e=>by rw[oF l,gX];exact e,by rw[nX g,Af],4,4,by rw[aj];exact ag,90,λi d x h=>by simp at h)
  (λi H' v _=>v) (λH' _=>aD) ?_ ?_
 .rintro j al y am hj ⟨n',ds,C,G,an,ao,I,L,M,hit⟩ ⟨rfl,rfl⟩;obtain⟨m,hm⟩:∃m,c - j=m+1:=(mBh c j);rw[hm] at I;unfold Et at I
  cases e:G5 (sV n') with
  |none=>rw[e] at I;cases I
  |some q=>
   obtain⟨x,s2⟩:=q;rw[e] at I;simp only at I
   cases e3:Et m s2 with
   |none=>rw[e3] at I;cases I
   |some ap=>
    obtain⟨ys,aq⟩:=ap;rw[e3] at I;injection I with I
    injection I with N O
    subst O;have ar:j<ls.length:=aA;rw[As8 ar] at N;injection N with N as
    refine(2,yG ?_);refine(219,G,83,n',xs,x,s2,2,G,NM ac hp C,ae,e,λau n2 U hd2 av hle=>?_);have aw:au≠p:=λz=>(mIb z G);have ax:au≠D:=λz=>(mIb z L);refine(aDK,by rw[nX ax,Ah g];exact L,fR,n2,ds++[au],λb o hb Y=>?_,5,4,hle,5,23,by simp[M],λi d ay v hx'=>?_)
    .have az:=AR Y l;rw[Ah az,Ah (λz=>by rw[z] at Y hb;rw[mP C hb Y] at U;cases U),gX];exact mP C hb Y
    .rw[nX g,nX aw,Af]
    .rw[hd2,show c - (j+1)=m by omega,e3,as]
    by_cases a0:i<ds.length
    .rw[Ask a0] at v;obtain⟨a1,a2,a3⟩:=hit i d ay v hx';exact(a1,a2,by rw[Ah a1,Ah (λz=>by rw[z] at a3;rw[a3] at U;cases U),Ah a2];exact a3)
    rw[eN] at v;have a4:i=ds.length:=by have:=(nL v).1;simp at this;omega
    subst a4;rw[At9,List.getElem?_cons_zero] at v;injection v with v
    subst v;rw[M,mK ar] at hx';injection hx' with hx'
    refine(rR ax aw);rw[Ah ax,Af,<-hx',N]
 rintro al ⟨n',ds,C,G,an,ao,I,L,M,hit⟩;rw[At9] at I;injection I with I
 injection I with _ I
 exact k D n' al l I an ao C G (ds,L,4,λi d x N O=>(hit i d x N O).2.2)
def KA(a:Kgz2.Ans):List V:= mE a.value::iv aNI
def C5(l:aB):List Nat:=l++pG (24 - l.length) 0
def Wj:Nat-> aB -> bW ->oK aL
 |0,[],[l]=>oR IL aDM
 |1,[],[m,l]=>oR IL (mFx m.length m)
 |2,[k],[m,l]=>oR IL (mFy m.length m k)
 |10,[Aq],m::a::st=>some (mIc (.next m.length m gN st.length Aq a a.length))
 |_,_,_=>none
def Wl(K:PySem.W.Frag):Sp:=λvs H Q _=>∃(Aq:Nat)(m a L:Addr)(b c:aB)(st:bW),vs=[wD mE,mF m,aJ,mF L]/\Ae K H m (iv b)/\H a=oC c/\Mh H L st/\b.length<=30000/\c.length<=30000/\st.length<=30000/\(∀x∈st,x.length<=30000/\∀z∈x,z≠0)/\
 ∀D H',aO ->H D=none->H' D=some (tH mIc (.next b.length b gN st.length Aq c c.length))->oQ D
structure Cl where
 c:Nat
 ns:List Nat
 ls:bW
structure Cl.Ok(x:Cl)(v:aL):Prop where
 st:Wj x.c x.ns x.ls=some v
 len:x.ls.length<=30000
 ArT:∀l∈x.ls,l.length<=30000
 nz:x.c=10->∀l∈x.ls.drop 2,∀z∈l,z≠0
def AmX:Sp:=λvs H Q _=>∃(x:Cl)(n L:Addr)(v:aL),vs=[mE (x.c:Int),mF n,mF L]/\H n=oC x.ns/\Mh H L x.ls/\x.Ok v/\∀D H',aO ->H D=none->H' D=nU v->oQ D
theorem AmY:AD aFx aFx (A0 AaY):=aG
theorem AmZ(b:aNJ)(T:aE):A4 P w K mg base A9 58 t.answer t.Ac4 aFx AmX:=by
 refine T.answer.F.ok AmY cO (λaa A outer s H vs Q E f h=>?_)
 .obtain⟨x,n,L,v,rfl,_⟩:=h;rfl
 obtain⟨⟨c,ns,ls⟩,n,L,v,rfl,g,p,⟨q,hlen,r,u⟩,k⟩:=h;simp only at g p q hlen r u;obtain⟨ds,y,hd2,z⟩:=p;obtain⟨ab,B,C⟩:=T.Akn;obtain⟨ac,G,I⟩:=T.Ako;obtain⟨ae,J,M⟩:=T.Akp;refine(_,(Ak (nI (mDw B C) (Ao (A3 (Bb (AmB T) aDO rfl T.speak.m T.speak.F.kp T.speak.b .nil Ay (mU gL)))))
  (Ak (nI (mDw G I) (Ao (A3 (Bb (AmG T) aDO rfl T.scan.m T.scan.F.kp T.scan.b .nil Ay (vO gL)))))
  (Ak (nI (mDw J M) (Ao (A3 (Bb (AmJ T) aDO rfl T.way.m T.way.F.kp T.way.b .nil Ay (Ad (vM B9 1) (vO gL))))))
  (Ao (A3 (Bb b aDO rfl T.Jr.m T.Jr.F.kp T.Jr.b .nil Ay (Ad (vM B9 1) (Ad gL (zS gL (mDy IG aX)))))))))),5)
 have N:∀(j:Nat)(d:Addr),ds[j]? =mB d->BX aDK (j:Int)=some dG:=λj d e=>by apply AZ;rw[ArY,e];rfl
 match c,ns,ls,q with
 |0,[],[l],q=>
  injection q with q
  subst q;obtain⟨d,rfl⟩:∃d,ds=[d]:=by
   match ds,hd2 with
   |[d],_=>exact(d,2)
  refine aF8;refine(0,L,36,mN y,N 0 d rfl,d,l,2,mDN 0 d l,k)
 |1,[],[m,l],q=>
  injection q with q
  subst q;obtain⟨d,e,rfl⟩:∃d e,ds=[d,e]:=by
   match ds,hd2 with
   |[d,e],_=>exact(xO d e)
  refine(mCf aF8);refine(0,37,84)
 |2,[O],[m,l],q=>
  injection q with q
  subst q;obtain⟨d,e,rfl⟩:∃d e,ds=[d,e]:=by
   match ds,hd2 with
   |[d,e],_=>exact(xO d e)
  refine(nG mCf aF8);refine(185,O,84)
 |10,[Aq],m::a::st,q=>
  injection q with q
  subst q;obtain⟨d,e,U,rfl⟩:∃d e U,ds=d::e::U:=by
   match ds,hd2 with
   |d::e::U,_=>exact(d,e,U,2)
  refine(nG mCf aF2);have af:Dx (nH (d::e::U).map) (mB 2) none=U.map V.ref:=by unfold Dx;rw[show(mB (2:Int))=mB ((2:Nat):Int) from rfl,HT.Hz,HT.Ki];simp only[List.map_cons,List.length_cons,List.length_map];rw[show min 2 (U.length+1+1)=2 by omega,Auz,Auz,Atv];exact AsW jY
  refine(185,16,L,0,mN y,λS ag=>?_);rw[af];have Y:=wC (nH U.map) ag;simp at hlen hd2;refine(Aq,d,e,S,m,a,st,2,nA Y (z 0 d m rfl rfl),mC Y (z 1 e a rfl rfl),(U,Af,4,λi d' x ah ai=>mC Y (z (i+2) d' x ah ai)),r m aC,r a aC,4,λx hx=>(r x aJd,u rfl x hx),λD H' aj ak e'=>k D H' (nB Y aj) (Y.free ak) e')
def J1:aB ->oK (Cl× aB)
 |[]=>none
 |p::r=>match G5 r with
  |none=>none
  |some (_,[])=>none
  |some (ns,k::t)=>match Et k t with
   |none=>none
   |some (xs,u)=>vW aJs
def Fq:Nat-> aB ->oK (mZ Cl)
 |_,[]=>mB []
 |0,_::_=>none
 |f+1,p::r=>match J1 iT with
  |none=>none
  |some (c,t)=>match Fq f t with
   |none=>none
   |some cs=>mB (c::cs)
theorem AdU(h:J1 iT=vW c):∃ns k t ls,G5 r=mB (ns,k::t,)/\Et k t=vW ls/\c=(mQ p ns ls):=by
 unfold J1 at h;simp only at h
 cases e:G5 r with
 |none=>rw[e] at h;cases h
 |some q=>
  obtain⟨ns,s⟩:=q;rw[e] at h
  cases s with
  |nil=>cases h
  |cons k t=>
   simp only at h
   cases a:Et k t with
   |none=>rw[a] at h;cases h
   |some b=>
    grind
theorem Am_(h:Fq f iT=mB cs):∃a c u cr,J1 iT=vW c/\Fq a u=mB cr/\cs=c::cr:=by
 cases f with
 |zero=>cases h
 |succ f=>
  unfold Fq at h
  cases e:J1 iT with
  |none=>rw[e] at h;cases h
  |some q=>
   obtain⟨c,u⟩:=q;rw[e] at h;simp only at h
   cases b:Fq f u with
   |none=>rw[b] at h;cases h
   |some cr=>
    grind
def KB:aDP -> aL
 |[]=>[]
 |(_,v)::r=> mE (v.length:Nat)::v++KB r
def Wm(K:PySem.W.Frag):Sp:=λvs H Q _=>∃(a:Addr)(xs:aB)(f:Nat)(cv:aDP),vs=cR /\yK xs/\xs.length<=30000/\Fq f xs=aJt /\cv.length<=300/\ aJu /\
 ∀D H',aO ->H D=none->H' D=nU (KB cv)->oQ D
theorem NN:AD ["calls","reader","given","call","numbers","answered"] aDC (A0 Vk):=aG
theorem Ana(aa:aNJ)(T:aE):A4 P w K mg base A9 59 t.answers t.R8 aDC (Wm K):=by
 refine T.answers.F.ok NN cO (λab A outer s H vs Q E d h=>?_)
 .obtain⟨a,xs,f,cv,rfl,_⟩:=h;rfl
 obtain⟨a,xs,f,g,rfl,j,ac,ae,af,Av,k⟩:=h;refine(_,(Ak (tY NN.nd (Dc T.Eo.k (AmM T) eH rfl T.Eo.m T.N2.b .nil Ay aBh))
  (Ak (qJ NN.nd dM)
  (Ak (Ka Asq (Ff (D9 (GY aP T.Eo.c T.N3.h (AmP T) eH T.N3.b .nil Ay))) (Ak (rW NN.nd (mIa aP eH))
  (Ak (qN NN.nd (mK6 aP eH))
  (Ak (sQ NN.nd (Bb (AmZ aa T) eH rfl T.answer.m T.answer.F.kp T.answer.b .nil Ay (Ad bB (Ad bG (mU (GY aP T.Eo.c T.N4.h (AmW T) eH T.N4.b .nil Ay))))))
  (Ak (Cu (mDx (mU (uX pv 5))))
  (Ao (Cu (mKN (mU bJ)))))))))
  aBi))),5)
 refine(0,λp dx hp ag ah=>(mDO p dx a));rw[B1];have s1:Ab H (mY (qX H dx p) (uD nC 0)):=mAR ag ah;refine(aT,λG l=>?_);have q:G≠p:=λe=>(by rw[e,Af] at l;cases l);have ai:mV H G:=s1.free l;refine(λm σ H1=>∃(n f:Nat)(cv:aDP)(x:aL)(aj v4 ak:bQ),m=xs.length - n/\σ=[mH a,bM,mH G,aj,v4,ak]/\ fP /\H1 p=uD oN n/\H1 G=nU x/\n<=xs.length/\Fq f (sV n)=aJt /\ aJu /\x++KB cv=KB g/\x.length+66*cv.length<=66*300,(xs.length,64,f,g,[],183,26,pC s1 l,by rw[nX q,Af],Af,aT,ae,Av,2,43),5)
 rintro m σ H1 ⟨n,f,cv,x,aj,v4,ak,rfl,rfl,y,z,al,am,hc,an,ao,ap⟩;refine(219,z,83,n,xs,2,z,y.seq j,0,5);by_cases B:n=xs.length
 .rw[mW B];refine Az (0,k G H1 y ai ?_);rw[B,AuI] at hc;have:cv.map (·.1)=[]:=by
   cases f<;>(injection hc with hc;exact hc.symm)
  have aq:cv=[]:=At2.mp this;subst aq;rw[al,<-ao];show oR HO.Ac x=oR HO.Ac (x++[]);rw[Aum]
 rw[mT B];refine Au (_,λar H' h=>h,5);have as:n<xs.length:=aA;have C:=As8 as;generalize xs[n]=c0 at C;generalize au:sV (n+1)=r at C;rw[C] at hc;obtain⟨av,c,u,cr,aw,ax,D⟩:=Am_ hc;obtain⟨ns,ay,tt,ls,az,a0,rfl⟩:=AdU aw
 cases cv with
 |nil=>cases D
 |cons cw a1=>
  obtain⟨c1,v⟩:=cw;rw[Asn] at D;injection D with a2 a3
  simp only at a2;subst a2;obtain⟨a4,a5⟩:=an _ AsG;have a5:v.length<=65:=a5;refine(219,z,83,n,c0,xs,r,2,z,y.seq j,C,5);have I:mV H p:=hp;have s2:Ab H (mY H1 aCu):=qS y I;have J:oI (mY H1 aCu) G (.Ac x):=(oY q al);have L:xB H1 aCu:=Af;generalize (mY H1 aCu)=M at s2 J L;rw[<-au] at az;refine(219,L,83,n+1,xs,ns,ay::tt,2,L,s2.seq j,4,az,λN n2 O hd2 a6 a7=>?_);have a8:N≠p:=λe=>(by rw[e,L] at O;cases O);have s3:Ab H aDQ:=qS (qS s2 I) (s2.free O);have a9:oI (aDQ) G (.Ac x):=(by rw[Ah (λe=>by rw[<-e,J] at O;cases O),Ah q];exact J);have U:oI (aDQ) p (uD nC n2):=(wE nX a8);have ba:zV (aDQ) N ns:=Af;generalize aDQ=bb at s3 a9 U ba;refine(16,219,U,83,n2,ay,xs,tt,ls,u,2,U,s3.seq j,4,hd2,a0,λbc n3 bd be bf bg bh Y bi bj=>?_);have bk:=mP Y q a9;refine((mQ c0 ns ls),N,bc,v,2,mP Y a8 ba,bj,a4,λbl bm s5 bn bo=>?_);have bp:=mC s5 bk;simp at ap;refine(0,pY bp,0,bl,0,uB bo,G,8,bp,BA aA,0,pY Af,0,G,bl,8,Af,by rw[Ah (λe=>by rw[e,bk] at bn;cases bn)];exact bo,AL (by rw[Asi];simp;omega),5)
  rw[B1];refine(xs.length - n3,4,n3,av,a1,19,8,Ab.BG (nB (λb o e=>Y b o (AR e I) (qD s3)) s5) ai,by rw[nX q];exact mC s5 bi,Af,bh,by rw[bf,ax,a3],λc hc=>pA an c hc,53)
  .rw[<-ao];simp[KB]
  simp;omega
end
end Vp
namespace Vp
open PySem L2 Vf
abbrev ci(l:aB):List Int:=l.map λn=>((n:Nat):Int)
theorem ArU(l:aB)(n:Nat):kE.take n=ci (l.take n):=by simp[ci,List.map_take]
theorem ArV(l:aB)(n:Nat):kE.drop n=ci (l.drop n):=by simp[ci,List.map_drop]
theorem AdV(l:aB):PyFlat.row kE=(G5 l).map λq=>(ci q.1,ci q.2,):=by
 cases l with
 |nil=>rfl
 |cons n r=>
  show(if 0<=((n:Nat):Int)/\((n:Nat):Int).toNat<=(ci r).length then mB ((ci r).take ((n:Nat):Int).toNat,(ci r).drop ((n:Nat):Int).toNat,) else none)=Option.map _ aNG;simp
theorem AdW:∀(k:Nat)(l:aB),PyFlat.rows k kE=(Et k l).map λq=>(q.1.map ci,ci q.2,)
 |0,l=>rfl
 |k+1,l=>by
  unfold PyFlat.rows Et;rw[AdV]
  cases e:G5 l with
  |none=>rfl
  |some q=>
   obtain⟨x,s⟩:=q;simp;rw[AdW k s]
   cases a:Et k s with
   |none=>rfl
   |some b=>rfl
def enc(c:Cl):List bH:=ci (c.c::c.ns)::c.ls.map ci
theorem Anb(l:aB):PyWide.call kE=(J1 l).map λq=>(enc q.1,ci q.2,):=by
 cases l with
 |nil=>rfl
 |cons p r=>
  show(match PyFlat.row (ci r) with|none=>none|some (_,[])=>none|some (ns,k::t)=>if 0<=k then(match PyFlat.rows k.toNat t with|none=>none|some (xs,u)=>mB ((((p:Nat):Int)::ns)::xs,u,)) else none)=Option.map _ (match G5 r with|none=>none|some (_,[])=>none|some (ns,k::t)=>match Et k t with|none=>none|some (xs,u)=>vW (aJs:Cl));rw[AdV]
  cases e:G5 r with
  |none=>rfl
  |some q=>
   obtain⟨ns,s⟩:=q
   cases s with
   |nil=>rfl
   |cons k t=>
    show(if 0<=((k:Nat):Int) then(match PyFlat.rows ((k:Nat):Int).toNat (ci t) with|none=>none|some (xs,u)=>mB ((((p:Nat):Int)::ci ns)::xs,u,)) else none)=Option.map _ (match Et k t with|none=>none|some (xs,u)=>vW (aJs:Cl));rw[gT,AtN,AdW]
    cases a:Et k t with
    |none=>rfl
    |some b=>rfl
theorem AdX:∀(f:Nat)(l:aB),PyWide.calls f kE=(Fq f l).map λcs=>cs.map enc
 |f,[]=>by cases f<;>rfl
 |0,p::r=>rfl
 |f+1,p::r=>by
  unfold Fq;show(match PyWide.call (ci iT) with|none=>none|some (c,t)=>match PyWide.calls f t with|none=>none|some cs=>mB (c::cs))=_;rw[(Anb iT)]
  cases e:J1 iT with
  |none=>rfl
  |some q=>
   obtain⟨c,t⟩:=q;simp;rw[AdX f t]
   cases a:Fq f t with
   |none=>rfl
   |some cs=>rfl
theorem AdY:∀(k:Nat)(l:aB)(ls:bW)(u:aB),Et k l=vW ls->∀x∈ls,x.length<=l.length
 |0,l,ls,u,h=>by injection h with h;injection h with a b;subst a;intro x hx;cases hx
 |k+1,l,ls,u,h=>by
  unfold Et at h
  cases e:G5 l with
  |none=>rw[e] at h;cases h
  |some q=>
   obtain⟨x,s⟩:=q;rw[e] at h;simp only at h
   cases c:Et k s with
   |none=>rw[c] at h;cases h
   |some d=>
    obtain⟨xs,t⟩:=d;rw[c] at h;injection h with h
    injection h with a b
    subst a;obtain⟨r,f,h4⟩:=S0 e;subst f h4;intro y hy;simp;rcases oG hy with rfl|hy
    .omega
    have:=AdY k s xs t c y hy;omega
theorem Anc(h:J1 l=vW c):u.length<l.length/\c.ls.length<=l.length/\∀x∈c.ls,x.length<=l.length:=by
 cases l with
 |nil=>cases h
 |cons p r=>
  obtain⟨ns,k,t,ls,a,b,rfl⟩:=AdU h;obtain⟨d,e,h4⟩:=S0 a;subst e h4;have f:=rT Wh b;have h6:=rT AdY b;grind
theorem AdZ:∀(f:Nat)(l:aB)(cs:mZ Cl),Fq f l=mB cs->∀c∈cs,c.ls.length<=l.length/\∀x∈c.ls,x.length<=l.length
 |f,[],cs,h=>by
  have:cs=[]:=(by cases f<;>(injection h with h;exact h.symm));subst this;intro c hc;cases hc
 |0,p::r,cs,h=>by cases h
 |f+1,p::r,cs,h=>by
  unfold Fq at h
  cases e:J1 iT with
  |none=>rw[e] at h;cases h
  |some q=>
   obtain⟨c,t⟩:=q;rw[e] at h;simp only at h
   cases a:Fq f t with
   |none=>rw[a] at h;cases h
   |some cr=>
    rw[a] at h;injection h with h
    subst h;have hs:=Anc e;intro b hc';rcases oG hc' with rfl|hc'
    .exact hs.2
    have:=AdZ f t cr a b hc';grind
theorem P4(l:aB):KgzNeutral.P1.natsOf kE=l:=Mg l
theorem Wn(l:aB):KgzNeutral.P2.natsOf kE=l:=Mg l
theorem Ane(l:aB):KgzNeutral.P2.word kE=C5 l:=by unfold KgzNeutral.P2.word C5;rw[Wn,ArX]
theorem Wo(a:Kgz1.Ans):(a.value::KgzNeutral.P1.ints a.out).map V.int=IL a:=by unfold IL KgzNeutral.P1.ints;rw[Asn,HI]
theorem Anf(a:Kgz2.Ans):(a.value::KgzNeutral.P2.ints aNI).map V.int=KA a:=by unfold KA KgzNeutral.P2.ints;rw[Asn,HI]
theorem Wp(n:Nat)(l:aB):(mAb n l).length=n:=by unfold Kgz1.padded;simp
theorem Wq(x:Kgz1.Call):mBm IL (mDP x) 65:=by
 have h:(mDP x).out.length<=64:=by
  cases x with
  |speak n l=>
   simp only[Kgz1.answer];split
   .exact aT
   split
   .exact aT
   simp only[Wp];omega
  |scan m b n l=>
   simp only[Kgz1.answer];split
   .exact aT
   split
   .exact aT
   split<;>exact aT
  |way m b n l k=>
   simp only[Kgz1.answer];split
   .exact aT
   split
   .exact aT
   split
   .exact aT
   split
   .exact aT
   simp only[Wp];omega
 unfold IL;rw[As1,ArX];omega
theorem Ang(x:Kgz2.Call):mBm mIc x 65:=by
 have h:(Kgz2.answer x).out.length<=12:=by
  cases x with
  |next m b c w Aq Dt a=>
   simp only[Kgz2.answer];split
   .exact aT
   split
   .exact aT
   split
   .exact aT
   split
   .exact aT
   simp only[Wp];omega
 unfold KA;grind
theorem Anh(h:nJ KgzNeutral.P1.asked1 ((z::ns)::ls)):(z=0/\ns=[]/\∃a,ls=[a])\/(z=1/\ns=[]/\∃a c,ls=[a,c])\/(z=2/\(∃b,ns=[b])/\∃a c,ls=[a,c]):=by unfold KgzNeutral.P1.asked1 at h;grind
theorem Ani(h:nJ KgzNeutral.P2.asked1 ((z::ns)::ls)):z=0/\∃b a c l,ns=[b]/\ls=a::c::l/\l.all (λ(w:List Int)=>w.all (λ(z:Int)=>KgzNeutral.P2.natural z 8&&z != 0))=true:=by unfold KgzNeutral.P2.asked1 at h;grind
theorem Wr(h:sT f=[b]):∃a,l=[a]:=by
 match l,h with
 |[a],_=>exact(a,2)
theorem Ad_(h:sT f=[b,c]):∃a d,l=[a,d]:=by
 match l,h with
 |[a,d],_=>exact(xO a d)
theorem Anj(h:sT f=b::c::r):∃a d s,l=a::d::s/\s.map f=r:=by
 match l,h with
 |a::d::s,h=>exact(a,d,s,2,by simpa using(List.cons.inj (List.cons.inj h).2).2)
theorem Ank(c:Cl)(h:nJ KgzNeutral.asked1 (enc c)):∃v,Wj c.c c.ns c.ls=bK /\(mId c).2.map V.int=v/\v.length<=65/\(c.c=10->∀l∈c.ls.drop 2,∀z∈l,z≠0):=by
 obtain⟨c,ns,ls⟩:=c;have d:KgzNeutral.place aJv=(c:Int):=rfl;unfold KgzNeutral.asked1 at h;unfold KgzNeutral.step;rw[d] at h⊢;by_cases e:(c:Int)<10
 .rw[bV] at h⊢;have hd:KgzNeutral.down 0 aJv=(((c:Nat):Int)::ci ns)::ls.map ci:=by
   rfl
  rw[hd] at h⊢;rcases Anh h with⟨f,g,a,i⟩|⟨f,g,a,b,i⟩|⟨f,⟨k,g⟩,a,b,i⟩
  .have f:c=0:=aA;have g:=At2.mp g;obtain⟨l,i⟩:=Wr i;subst f g i;refine aJw;show aJx=_;rw[Wo,P4,ArX]
  .have f:c=1:=aA;have g:=At2.mp g;obtain⟨m,l,i⟩:=Ad_ i;subst f g i;refine aJw;show aJx=_;rw[Wo,P4,P4,ArX,ArX]
  have f:c=2:=aA;obtain⟨k',g⟩:=Wr g;obtain⟨m,l,i⟩:=Ad_ i;subst f g i;refine aJw;show aJx=_;rw[Wo,P4,P4,ArX,ArX];rfl
 rw[bP] at h⊢;by_cases j:(10:Int)<=(c:Int)/\(c:Int)<20
 .rw[mJ j] at h⊢;have hd:KgzNeutral.down 10 aJv=((((c:Nat):Int) - 10)::ci ns)::ls.map ci:=rfl;rw[hd] at h⊢;obtain⟨f,b,a,n,l,g,i,h4⟩:=Ani h;have f:c=10:=aA;obtain⟨Aq,g⟩:=Wr g;obtain⟨m,o,st,i,p⟩:=Anj i;subst f g i;refine(0,5,Ang _,λ_ l r z hz=>?_)
  .show(_::KgzNeutral.P2.ints _).map V.int=_;rw[Anf,Wn,Wn,ArX,ArX,ArX];have:(st.map ci).map KgzNeutral.P2.word=st.map C5:=by
    rw[AsB];apply AsU;intro x _;exact Ane x
   rw[this];rfl
  have s:=r;rw[<-p,AsL] at h4;have p:=h4 kE (AtE s);grind
 rw[mM j] at h
 cases h
theorem Aea:∀(cs:mZ Cl),aNK ->∃cv:aDP,cv.map (·.1)=cs/\(∀x∈cv,Wj x.1.c x.1.ns x.1.ls=mB x.2/\x.2.length<=65/\(x.1.c=10->∀l∈x.1.ls.drop 2,∀z∈l,z≠0))/\
 KB cv=(PyFlat.told (mK7 KgzNeutral.start)).map V.int
 |[],_=>([],2,(λx hx=>nomatch hx),2)
 |c::cs,h=>by
  obtain⟨v,a,b,d,h4⟩:=Ank c (h c AsG);obtain⟨cv,g1,g2,g3⟩:=Aea cs λc hc=>pA h c hc;refine((c,v,)::cv,by rw[Asn,g1],eA,5)
  .grind
  show mO (v.length:Nat)::v++KB cv=_;rw[g3];show _=(PyFlat.told ((mId c).2::mK7 (mId c).1)).map V.int;unfold PyFlat.told;grind
theorem Anl(xs:aB)(a:xs.length<=30000)(h:nJ PyKgz.answers_asked (ci xs)):∃cv:aDP,zK Fq xs=aJt /\cv.length<=300/\ aJu /\KB cv=(PyKgz.answers (ci xs)).map V.int:=by
 unfold PyKgz.answers_asked at h;unfold PyKgz.answers;have hc:PyKgz.calls (ci xs)=(zK Fq xs).map λcs=>cs.map enc:=by unfold PyKgz.calls;rw[ArX];exact zK AdX xs
 rw[hc] at h⊢
 cases e:zK Fq xs with
 |none=>rw[e] at h;cases h
 |some cs=>
  rw[e] at h;simp at h;have b:cs.length<=300:=by have:=h.1;unfold PyFlat.atMost at this;grind
  have d:aNK:=by have:=h.2;unfold KgzNeutral.asked at this;grind
  obtain⟨cv,g1,g2,g3⟩:=Aea cs d;refine(cv,by rw[g1],by rw[<-g1,ArX] at b;exact b,λc hc=>?_,g3);have f:=(sL AdZ e) c.1 (vT g1 AtE hc);obtain⟨g,i,j⟩:=g2 c hc;exact((g,4,λl a=>by have:=f.2 l a;omega,j),i)
end Vp
namespace Vp
open PySem PySem.Spec L2 Vf
section
variable {P:Program} {w:World} {K:PySem.W.Frag} {mg:aN} {base:Heap} {t:Aw}
def P5:Vf.Txt:=[97,98,99,100,101,102,103,104,105,106,107,108,109,110,111,112,113,114,115,116,117,118,119,120,121,122,65,69,73,79,85,89]
theorem Anm:mHI uU=P5:=by decide+kernel
theorem Ann(n:Nat):(P5.any λc=>(c:Int)==(n:Int))=Kgz1.isLetter n:=by
 have h:=AdN n;have a:K8=P5++[32]:=rfl;rw[a,List.any_append] at h;by_cases e:n=32
 .subst e;decide+kernel
 grind
theorem Ano(l:aB):K6 P5 iC=if l.all Kgz1.isLetter=true then oW l else .Ax:=by
 unfold K6;rw[Mg,Atw];have:(l.all ((mHJ P5.any)∘λn=>((n:Nat):Int)))=l.all Kgz1.isLetter:=by apply AwO rfl;intro n;exact Ann n
 rw[this]
theorem Anp(st:bW):DP .Ax (st.map λx=>if iB=true then sN x else .Ax)= !(st.all λx=>iB):=by
 unfold DP
 induction st with
 |nil=>rfl
 |cons x r a=>
  rw[Asn,Ata,a,AtJ]
  cases iB<;>simp[FM]
def FW(x:aB):Bool:=decide (1<=x.length)&&decide (x.length<=23)
def G6(st:bW):Bool:=decide (1<=st.length/\st.length<=64)&&aNL
def P6(H H':Hp)(st:bW)(v:V):Prop:=if G6 st=true then∃D,v= hE /\H D=none/\H' D=zX st else v= .Ax
def Anq:Sp:=λvs H Q _=>∃(L:Addr)(st:bW),vs=[mF L]/\Mh H L st/\st.length<=30000/\(∀x∈st,x.length<=30000)/\∀v H',aO ->P6 H H' st v->oV v
abbrev Aeb:List Str:=aNM
theorem P7:AD aNM ["stock"] (A0 R6):=aG
theorem Anr(T:aE):A4 P w K mg base A9 2 t.LQ t.Ac2 ["stock"] Anq:=by
 refine T.LQ.F.ok P7 cO aNN
 .obtain⟨L,st,rfl,_⟩:=h;rfl
 obtain⟨L,st,rfl,b,ab,hx,k⟩:=h;obtain⟨ds,c,hd2,ac⟩:=b;have hd:∀(d:Hp),Ab H d->∀i(f:i<ds.length),Ae K d ds[i] (iv (st[i]' aA)):=λd s2 i f=>nA s2 (ac i ds[i] _ (mK f) fN);obtain⟨ae,af,ag⟩:=T.Akt;obtain⟨ah,ai,aj⟩:=T.Aku;obtain⟨ak,al,am⟩:=T.AcC;refine(_,(Ak (zO (PW.pt (Id (mHQ aAn (nP ai aj)) (JX (Ff (D9 (mFm (Ad (Dk rfl P7.nd aCo aNO (pR 1 P7.nd) cK (qK (Ul DB DB Ar (uX pv 1) aFX))) Ai))))))))
  (Ak (HD (i:=2) rfl P7.nd rfl rfl iY aCo aNO (pR 1 P7.nd) cK (λ_ _ _ _ _=>(Bb (VC T) (a.As aZ) rfl T.Gx.m T.Gx.F.kp T.Gx.b .nil Ay (oP aP (nP al am)))))
  (wA (Ie (wT (sC V6) Da aX) Da aX)))),5)
 have bad:G6 st=false->Q .Ax H:=λh=>k .Ax H eQ aNP;have g:∀d,Ab H d->G6 st=false->Q .Ax d:=λd s2 h=>k .Ax d s2 aNP;refine(zQ L (mN c));rw[ArX,hd2];by_cases l:1<=st.length
 .rw[mAP (st.length:Nat)];refine aDG;by_cases m:st.length<=64
  .rw[mW (by omega:((st.length:Nat):Int)<=64)];refine Az (0,L,2,(oX c),λD an=>?_);refine F6 (J:=pZ L) ds.length an eE (mFn st[j]? (FW x)) hZ
    (λi d f s2=>(tM s2 c f)) (λd s2=>(sA s2 c)) ?_ ?_ G_ F7
   .rintro i d y o f s2 ao ⟨rfl,hy⟩ Kt p;have r:=rJ s2 c;rw[ArY,mK f] at r;simp at r;subst r;have u:mAX i:=aA;refine(zU (zQ ds[i] (hd _ s2 i f)));rw[ArX];by_cases g1:1<=(st[i]).length
    .rw[mAP ((st[i]).length:Nat)];refine Au (8,aNQ);unfold FW;rw[mW g1,AtS];show V.bl _=V.bl _;congr 1;exact aC4
    rw[mAQ ((st[i]).length:Nat)];refine Az aNQ;unfold FW;rw[mT g1];rfl
   intro d ys s2 hy ap aq;have z:ys=(st.map FW).map V.bl:=by
    apply AsJ;intro j;rw[ArY,ArY]
    cases e:ys[j]? with
    |none=>
     have:=iM;rw[lD];rfl
    |some v=>
     obtain⟨n,C,G⟩:=aq j v e;rw[C,G];rfl
   refine(D,st.map FW,2,mN (pJ hy z),0,5);rw[show(st.map FW).all id=st.all FW by rw[Atw];rfl]
   cases I:st.all FW with
   |false=>
    exact Au (g d s2 (by unfold G6;rw[I,At5,AuD]))
   |true=>
    refine Az (0,L,2,(_,nA s2 c),λM N=>?_);refine F6 (J:=pZ L) ds.length N eE (λj v _=>∃x,st[j]? =aW /\v=if iB=true then oW x else .Ax) hZ
     (λi o f s3=>(mKZ c f)) (λo s3=>(sA s3 (pS c))) ?_ ?_ G_ F7
    .rintro i o y ar f s3 ao ⟨rfl,hy⟩ Kt p;have r:=rJ s3 (pS c);rw[ArY,mK f] at r;simp at r;subst r;have u:mAX i:=aA;have O:=hd _ lI i f;rw[HI] at O;refine(zU (0,ds[i],3,O,by rw[ArX];exact vN hx u,12,λas s5=>?_));rw[Anm,Ano];exact mP p s5 (st[i],mK u,2)
    intro o ys s3 hy au av;have z:ys=st.map λx=>if iB=true then sN x else .Ax:=by
     apply AsJ;intro j;rw[ArY]
     cases e:ys[j]? with
     |none=>
      have:=iM;rw[lD];rfl
     |some v=>
      obtain⟨n,C,G⟩:=av j v e;rw[C,G];rfl
    have U:=lI;have aw:nJ ys.all Fh:=by rw[z,Atw,AsL];intro x _;simp;split<;>rfl
    have ax:DP .Ax ys= !(st.all λx=>iB):=(wM z Anp st);refine(mKz M aw);rw[bS,ax]
    cases Y:st.all λx=>iB with
    |false=>
     exact Au (g o U (by unfold G6;rw[Y,AuD,AuD]))
    |true=>
     refine Az (0,k _ o U ?_);unfold P6;rw[mJ (by unfold G6;rw[Y,I,mW (l,m)];rfl)];refine(M,2,s2.free N,5);rw[hy,z];congr 2;apply AsU;intro x hx';rw[mJ (AsL.mp Y x hx')]
  rw[mT (by omega:¬((st.length:Nat):Int)<=64)];exact mK8 m q.2
 rw[mAQ (st.length:Nat)];exact Az (0,mK8 l q.1)
end
end Vp
namespace Vp
open PySem PySem.Spec L2
section
variable {X:Cx} {K:PySem.W.Frag}
def Mi(ns:bH):List Int:=PyProof.Rows.firstMet aJy ns.length
def QZ(K:PySem.W.Frag):aAf:=λvs H Q=>∃(a:Addr)(ns:bH),vs=[nE a]/\ hW /\ns.length<=4000/\∀l,H l=none->Q eP (oA l (mIe ns))
theorem Ant(hc:fL):DW X (oH "set") (QZ X.K):=by intro pins s σ H vs us Q c r h;obtain⟨a,ns,rfl,hs,d,q⟩:=h;obtain⟨f,g,i,_⟩:=c.list hs;rw[aA5];have hsz:f.toArray.size=ns.length:=(zD As2 (by have:=g.length;rw[ArX] at this;omega));refine PySem.call_set_list (c.ok.hd hc) i.isList g.ints (by rw[hsz];show ns.length+1<4096;omega) λh' tk j kp=>?_;rw[hsz] at j;exact(eO,_,c.DV (t':=tk) (λb o e=>kp b o fI e) aD (show C9 X.prog X.w _ h' _ (mIe ns) from j),2,q _ (c.Av.BC aD))
theorem Anu(a:cJ)(hc:fL):DW X (oH "set") (QZ K):=by subst a;exact Ant hc
theorem Anv:DW X aDu (λxs H Q=>∃p S n,xs=[aS]/\H p=mB (.set S n)/\tE n):=by intro pins s σ H xs us Q a r h;obtain⟨p,S,n,rfl,b,q⟩:=h;rw[aA5];obtain⟨o,es,ep,t,c,hex,hd,_,_,hb,hf,d⟩:=mC a.Av b;subst d;have e:es.size<4096:=hb;exact PySem.call_len_set c hex hd hf aA (mIf a.BW)
end
end Vp
namespace Vp
open PySem PySem.Spec L2 Vf
section
variable {P:Program} {w:World} {K:PySem.W.Frag} {mg:aN} {base:Heap} {t:Aw}
theorem Ws:∀(l acc:bH),aNR.length<=acc.length+l.length/\(aNR.length=acc.length+l.length↔l.Nodup/\∀x∈l,x∉acc)
 |[],acc=>(aD,9)
 |x::l,acc=>by
  rw[Ati];by_cases h:x∈acc
  .have e:mK9 x=acc:=by
    unfold PyProof.Rows.step_dedup;simp[h]
   rw[e];have a:=Ws l acc;grind
  have e:mK9 x=acc++[x]:=by unfold PyProof.Rows.step_dedup;simp[h]
  rw[e];have a:=Ws l (acc++[x]);grind
theorem Anw(ns:bH):decide ((Mi ns).length=ns.length)=decide ns.Nodup:=by
 have e:(pB ns.length).map aJy=ns:=by apply AsJ;grind
 have h:=(Ws ns []).2;rw[AuV,AsZ] at h;apply At0.mpr;show(((pB ns.length).map aJy).foldl PyProof.Rows.step_dedup []).length=ns.length↔_;grind
theorem Anx(l:aB):decide (l.map λn=>((n:Nat):Int)).Nodup=decide l.Nodup:=by grind
def J2(n Aq:Nat)(a:aB):Bool:=decide (a.length<=Aq)&&(decide a.Nodup&&a.all λx=>decide (x<n))
def Any(K:PySem.W.Frag):Sp:=λvs H Q _=>∃(a:Addr)(b:aB)(n Aq:Nat),vs=[aJ,jZ,wD mE]/\yK b/\Aq<=12/\∀H',aO ->mAU (J2 n Aq b)
abbrev Anz:List Str:=aNS
theorem Wt:AD aNS aIM (A0 Vj):=aG
theorem An0(T:aE):A4 P w K mg base A9 1 t.LR t.Ac3 aIM (Any K):=by
 refine vZ T.LR.F.ok Wt
 .obtain⟨a,d,n,Aq,rfl,_⟩:=h;rfl
 obtain⟨a,d,n,Aq,rfl,f,hm,k⟩:=h;refine(_,(Ao (A3 (OB (mAS DB aAn aX) (OB (mAS CL (mFt Anv (mU (QW (Anu (K:=K) rfl rfl) rfl T.Akz Ak5 aBh))) aAn) (JY (mFm (mU (Dk rfl Wt.nd aCo (qM ("number",3,) Anz Vj) (pR 3 Wt.nd) cK (qK (mAS OJ bB aP)))))))))),5);unfold J2 at k;refine(78,0,mG f,0,58);rw[ArX];by_cases c1:d.length<=Aq
 .rw[mW (by omega:((d.length:Nat):Int)<=(Aq:Int))];rw[mW c1,AtS] at k;have g:=f;rw[HI] at g;refine Au (78,0,g,34,λl m=>?_);have s1:=Ab.Aa (o:= mIe (mCg d.map)) m;refine(l,3,Af,78,0,mG aCs,80);rw[ArX,Fp];have p:=Anw (mCg d.map);rw[ArX,Anx] at p;rw[p]
  cases q:decide d.Nodup with
  |false=>
   rw[q,At5] at k;exact Az (k _ s1)
  |true=>
   rw[q,AtS] at k;refine Au (78,2,(_,aCs),λD r=>?_);refine F6 (J:=aAb) d.length r eE (mFn d[j]? (decide (x<n))) hZ
    (λi u z s2=>(mHX aCs z)) (λu s2=>(mHY aCs)) ?_ ?_ G_ F7
   .rintro i u y C z s2 G ⟨rfl,hy⟩ Kt I;have L:=hy _ (s2.seq aCs);rw[ArY,mK z] at L;simp at L;subst L;refine(zU (16,8,mP I eQ (d[i],mK z,5)));show V.bl _=V.bl _;congr 1;exact aC4
   intro u ys s2 hy M N;have O:ys=aNT.map V.bl:=by
    apply AsJ;intro j;rw[ArY,ArY]
    cases e:ys[j]? with
    |none=>
     have:=iM;rw[lD];rfl
    |some v=>
     obtain⟨n,U,Y⟩:=N j v e;rw[U,Y];rfl
   refine(D,d.map λx=>decide (x<n),2,mN (pJ hy O),5);rw[show aNT.all id=d.all λx=>decide (x<n) by rw[Atw];rfl];exact k u lJ
 rw[mT (by omega:¬((d.length:Nat):Int)<=(Aq:Int))];rw[mT c1,At5] at k;exact Az (k H eQ)
theorem Wu:∀(n x y:Nat),x+y<=n->x&&&y=0->x|||y=x+y
 |0,x,y,h,_=>by
  grind
 |n+1,x,y,h,hd=>by
  by_cases h0:x=0/\y=0
  .obtain⟨rfl,rfl⟩:=h0;rfl
  have hd2:x/2&&&y/2=0:=(mBU Nat.and_div_two hd);have a:=Wu n (x/2) (y/2) aA hd2;rw[<-Nat.or_div_two] at a;have b:(x|||y)%2=1↔x%2=1\/y%2=1:=Nat.or_mod_two_eq_one;have c:(x&&&y)%2=1↔x%2=1/\y%2=1:=Nat.and_mod_two_eq_one;rw[hd] at c;omega
theorem S1(a b:Nat):a - lS=Ch a b:=by
 have h:lS|||Ch a b=lS+Ch a b:=Wu _ _ _ aD (by
  apply Atg;intro i;rw[Atd,Hq,Atd,Avo]
  cases xM i<;>cases qB i<;>rfl)
 have c:lS|||Ch a b=a:=by
  apply Atg;intro i;rw[Ate,Hq,Atd]
  cases xM i<;>cases qB i<;>rfl
 omega
theorem Aec(a b:Nat):a&&&b<=a:=Nat.and_le_left
theorem Aed(a b:Nat):mCi Builtin.bitAnd=((a&&&b:Nat):Int):=by rfl
theorem Wv(a b:Nat):mCi Builtin.bitOr=((a|||b:Nat):Int):=by unfold Builtin.bitOr Builtin.bitAnd;rw[mIg (0:Int) (a:Int),mIg (0:Int) (b:Int)];have h:∀c:Nat,(nG Builtin.bitNot (c:Int))=(c:Int):=λc=>aJz;simp only[h,Int.toNat_natCast]
theorem Aee(a b:Nat):aNU=((Ch a b:Nat):Int):=by unfold Builtin.bitAnd;rw[mW (by omega:(0:Int)<=(a:Int)),mIg (0:Int) (b:Int)];have h:(nG Builtin.bitNot (b:Int))=(b:Int):=aJz;simp only[h,Int.toNat_natCast];rw[<-S1];have:=Aec a b;omega
theorem Aef(a j:Nat):(a:Int)*2 ^ ((j:Nat):Int).toNat=((a<<<j:Nat):Int):=by
 rw[AtN,Awi]
 push_cast
 rfl
theorem An1(a j:Nat):(a:Int)/2 ^ ((j:Nat):Int).toNat=((a>>>j:Nat):Int):=by
 rw[AtN,Nat.shiftRight_eq_div_pow]
 push_cast
 rfl
theorem Aeg(a b:Nat):mCi Builtin.bitXor=((a^^^b:Nat):Int):=by
 unfold Builtin.bitXor;rw[Aed,Wv];have c:(a^^^b)|||lS=(a^^^b)+lS:=Wu _ _ _ aD (by
  apply Atg;intro i;rw[Atd,AuR,Atd,Avo]
  cases xM i<;>cases qB i<;>rfl)
 have d:(a^^^b)|||lS=a|||b:=by apply Atg;grind
 omega
section
variable {X:Cx}
def rN(C:Nat->Nat->Prop)(g:kF):R2:=λx y H Q=>∃a b:Nat,x= yJ mE/\y= uY mE/\C a b/\mFz tE g
theorem Ww(h:Bt X f (rI C g))(hc:∀a b:Nat,D a b->mCi C)(e:∀a b:Nat,D a b->mCi g= mFz mE n):Bt X f (rN D n):=by intro pins s σ H x y v u Q c d i q;obtain⟨a,b,rfl,rfl,hd,q⟩:=q;refine mLa (8,hc a b hd,5);rw[e a b hd];exact q
theorem P8(h:Bt X f (DO g))(e:∀a b:Nat,mCi g= mFz mE n):Bt X f (mCj n):=by intro pins s σ H x y v u Q c d i q;obtain⟨a,b,rfl,rfl,_,q⟩:=q;refine mLa aFW;rw[e a b];exact q
theorem Hc:Bt X aEY aJA:=P8 Uk λa b=>by rw[Aed]
theorem J3:Bt X (binaryOp .BitOr) aF9:=P8 AhR λa b=>by rw[Wv]
theorem Aeh:Bt X (binaryOp .BitXor) (mCj (·^^^·)):=P8 AhS λa b=>by rw[Aeg]
theorem FX:Bt X (inplaceOp .BitOr) aF9:=P8 AhU λa b=>by rw[Wv]
theorem G7:Bt X (binaryOp .LShift) (rN (λa j=>a<2 ^ 1000/\j<=1000) (·<<<·)):=Ww Amh (λa j h=>(4,4,by rw[Int.natAbs_natCast];exact Ass h.1 (As5 aZ aZ))) λa j _=>by rw[Aef]
theorem Aei:Bt X (binaryOp .RShift) (mCj (·>>>·)):=Ww AhQ (λa j _=>by omega) λa j _=>by rw[An1]
theorem NO:Bt X aEY (λx y H Q=>∃a b:Nat,x= yJ mE/\y= mE aNV /\mFz tE Ch):=by intro pins s σ H x y v u Q c d e q;obtain⟨a,b,rfl,rfl,q⟩:=q;refine Uk pins s σ H _ _ v u Q c d e aFW;show Q (mO aNU) H;rw[Aee a b];exact q
end
structure Aej(T:BR):Prop where
 AW:T.AW<=1000
 cuts:T.cuts<2 ^ 1000
 inner:T.inner<2 ^ 1000
 B2:∀n,T.B2 n<2 ^ 1000
structure PlF(T:BR)(fs:oU V)(d f:Addr):Prop where
 AW:oE ("half":Str)=some (mO (T.AW:Nat))
 cuts:oE ("cuts":Str)=some (mO (T.cuts:Nat))
 inner:oE ("inner":Str)=some (mO (T.inner:Nat))
 BP:oE ("doors":Str)=some (nE d)
 Wx:oE ("fitting":Str)=oR V.ref f
 first:oE ("first":Str)=oR mO (T.first:Nat)
 done:oE ("done":Str)=some (mO (T.done:Nat))
 n1:oE ("after_syllable":Str)=none
 n2:oE ("before_syllable":Str)=none
 n3:oE ("after_shape":Str)=none
structure G8(t:Aw)(H:Hp)(p:Addr)(T:BR):Prop where
 b:Aej T
 ex:∃dx fs d f,H p=oN t.A_ fs/\PlF T fs d f/\F9 H d T.BP/\H f=oO aNW
theorem Wy(T:BR)(n:Nat)(h:n<=2):BX aNW ((n:Nat):Int)=some (mO (T.B2 n:Nat)):=by
 apply AZ
 match n,h with
 |0,_=>rfl
 |1,_=>rfl
 |2,_=>rfl
def Aek(t:Aw):Sp:=λvs H Q _=>∃(p:Addr)(T:BR)(pl n:Nat)(a:Bool),vs=[aS,mAc mE,jZ,.bl a]/\G8 t H p T/\n<=2/\tE ((Dt T pl n a:Nat):Int)
theorem Mj:AD ["self","places","length","ends_word","standing","met","reached","door"] aCb (A0 Aa5):=aG
theorem Ael(b:aE):A4 P w K mg base A9 1 t.Kv t.AbV aCb (Aek t):=by
 refine pF b.Kv.F.ok Mj
 .obtain⟨p,T,pl,n,g,rfl,_⟩:=h;rfl
 obtain⟨p,T,pl,n,g,rfl,hp,l,k⟩:=h;obtain⟨hb,dx,fs,d,f,m,hF,o,u⟩:=hp;obtain⟨x,z,B,C⟩:=o;refine(_,(Ak (qN Mj.nd (AE Hc aP (tL aY aX)))
  (Ak (nI (yH bG) (oM Ar))
  (Ak (AU (D9 bB) (Ak (sQ Mj.nd (AE Hc bG aY))
  (Ao (qN Mj.nd (AE J3 (AE Aeh bG bJ) (mAd bJ))))) AY)
  (Ak (uC Mj.nd (AE G7 (AE Hc bG aY) Ar))
  (Ak (rV aAq (oJ 7 Mj.nd) (Ao (nI (qY (AE Hc bG (qZ 7))) (Ao (Hw (i:=6) Mj.nd rfl cX (qZ 7) FX)))))
  (oM cA)))))),5)
 have D:mLb x[j]?:=λj pc e=>by have hj:j<T.BP.length:=(wY B e);exact(T.BP[j],cT,C j pc _ e cT)
 refine(0,85,220,nQ u,Wy T n l,13,0,80);rw[show decide (mO ((pl&&&T.B2 n:Nat):Int)=mO 0)=decide (pl&&&T.B2 n=0) from Fp _ 0];have fin:∀(st G:Nat),aGa=T.BP.foldl kN G->∀(i:Nat)(r:Nat),i=T.BP.length->r=(mFA i).foldl kN G->Q (mE (r:Int)) H:=by intro st G e i r I J;rw[I,AsC,<-e] at J;rw[J];exact k
 have loop:∀(st G:Nat)(L:bQ),aGa=T.BP.foldl kN G->
  EL (M7 (QG K (mB9 0 "doors")) (EY 7) (Ii (V7 K (CU aJA (Bo 4) (CU (HA K) (Bo 7) (tC bZ)))) (Yq 6 (CU (HA K) (Bo 7) lF) aF9) Ih)) (J_ (Bo 6)) {nx:=λ_ H'=>cW,rt:=Q}
   [bM,mAc mX,mX (n:Int),zF g,mX (st:Int),L,mX (G:Int),none] H:=by
  intro st G L he;refine(85,b.Pg,hF.BP,d,2,(oX z),E4 (K:=K) (a:=d) (xs:=nH x.map) (λj σ H1=>∃v,H1=H/\σ=[bM,mAc mX,mX (n:Int),zF g,mX (st:Int),L,mLc kN G,v])
   (61,26) (λj σ H1 _ (_,e,_)=>by rw[e];exact mN z) ?_ ?_)
  .rintro j y σ H1 hj ⟨v,rfl,rfl⟩;rw[ArY] at hj;obtain⟨pc,M,rfl⟩:mH0 x[j]?:=by
    cases e:x[j]? with
    |none=>rw[e] at hj;cases hj
    |some pc=>rw[e] at hj;exact(tI pc hj)
   obtain⟨dd,N,O⟩:=D j pc M;have U:(mFA (j+1)).foldl kN G=(if st&&&dd.1≠0 then aBm.foldl kN G|||dd.2 else aBm.foldl kN G):=by rw[AsA,N,At4];rfl
   rw[U];generalize aBm.foldl kN G=ac;refine(mLd O 0);by_cases c:st&&&dd.1=0
   .rw[show(mFB st dd.1)=false by rw[c];rfl];refine Az (mH pc,2,5);rw[vQ q c];rfl
   rw[show(mFB st dd.1)=true by simp;omega];refine mLe O 1;rw[mJ c];rfl
  rintro σ H1 ⟨v,rfl,rfl⟩;exact(0,fin st G he (nH x.map).length _ (pJ ArX B) rfl)
 by_cases c0:pl&&&T.B2 n=0
 .rw[mW c0];have e:aGa=0:=(by unfold Dt;rw[mJ c0]);rw[e] at k;exact Au k
 rw[mT c0];have e:aGa=T.BP.foldl (λr d=>if aNX&&&d.1≠0 then r|||d.2 else r) ((aNX&&&T.inner)<<<1):=by unfold Dt;rw[mM c0]
 refine Az aAm;have Y:∀st:Nat,st&&&T.inner<2 ^ 1000:=λst=>Au4 Nat.and_le_right hb.inner
 cases g with
 |false=>
  refine Az aNY
 |true=>
  refine Au (0,85,161,13,16,13,0,85,b.IF,hF.AW,8,(Au4 (Aec _ _) (Au4 Nat.and_le_right (hb.B2 n)),hb.AW),13,5);refine aNY
def An3(t:Aw):Sp:=λvs H Q _=>∃(p:Addr)(T:BR)(pl n:Nat)(a:Bool),vs=[aS,mAc mE,jZ,.bl a]/\G8 t H p T/\n<=2/\tE ((before T pl n a:Nat):Int)
theorem NP:AD ["self","places","length","ends_word","standing","door","met"] aCb (A0 Aa6):=aG
theorem Wz(b:aE):A4 P w K mg base A9 1 t.Iy t.AbW aCb (An3 t):=by
 refine b.Iy.F.ok NP cO (λg A outer s H vs Q E l h=>?_)
 .obtain⟨p,T,pl,n,m,rfl,_⟩:=h;rfl
 obtain⟨p,T,pl,n,m,rfl,hp,o,k⟩:=h;obtain⟨hb,dx,fs,d,f,u,hF,x,z⟩:=hp;obtain⟨B,C,D,G⟩:=x;refine(_,(Ak (nI (yH aP) (oM Ar))
  (Ak (qN NP.nd (AE Hc (AE Aei aP Ar) aY))
  (Ak (rV aAq (oJ 5 NP.nd) (Ao (nI (qY (AE Hc aP (qZ 5))) (Ao (Hw (i:=4) NP.nd rfl cX (qZ 5) FX)))))
  (Ak (AU (D9 bB) (Ak (uC NP.nd (AE Hc (AE Aei bG aY) aY))
  (Ao (qN NP.nd (AE J3 (mCk bG aY) cA)))) AY)
  (wA (AE Hc bG (tL aY aX))))))),5)
 have I:mLb B[j]?:=λj pc e=>by have hj:j<T.BP.length:=(wY D e);exact(T.BP[j],cT,G j pc _ e cT)
 refine iA;rw[show decide (mO ((pl:Nat):Int)=mO 0)=decide (pl=0) from Fp _ 0];by_cases c0:pl=0
 .rw[mW c0];have e:before T pl n m=0:=(by unfold before;rw[mJ c0]);rw[e] at k;exact Au k
 rw[mT c0];have e:before T pl n m=(if m then mBi aJB|||(mGG aJB) else aJB)&&&T.B2 n:=by unfold before;rw[mM c0]
 rw[e] at k;refine Az (0,_,(1),26,86,67,237,5);refine(67,b.Pg,hF.BP,d,2,(oX C),E4 (K:=K) (a:=d) (xs:=nH B.map) (λj σ H1=>∃v,H1=H/\σ=[bM,mAc mX,mX (n:Int),zF m,mLc aBn aBo,v,none])
  (61,26) (λj σ H1 _ (_,e,_)=>by rw[e];exact mN C) ?_ ?_)
 .rintro j y σ H1 hj ⟨v,rfl,rfl⟩;rw[ArY] at hj;obtain⟨pc,J,rfl⟩:mH0 B[j]?:=by
   cases e:B[j]? with
   |none=>rw[e] at hj;cases hj
   |some pc=>rw[e] at hj;exact(tI pc hj)
  obtain⟨dd,L,M⟩:=I j pc J;have N:(mFA (j+1)).foldl aBn aBo=(if pl&&&dd.2≠0 then aBm.foldl aBn aBo|||dd.1 else aBm.foldl aBn aBo):=by rw[AsA,L,At4];rfl
  rw[N];generalize aBm.foldl aBn aBo=O;refine(mLd M 1);by_cases c:pl&&&dd.2=0
  .rw[show(mFB pl dd.2)=false by rw[c];rfl];refine Az (mH pc,2,5);rw[vQ q c];rfl
  rw[show(mFB pl dd.2)=true by simp;omega];refine mLe M 0;rw[mJ c];rfl
 rintro σ H1 ⟨v,rfl,rfl⟩;have hlen:uJ nH B.map T.BP.length:=(pJ ArX D);rw[hlen,AsC];generalize T.BP.foldl aBn aBo=st at*;refine aAm
 cases m with
 |false=>
  exact Az aNZ
 |true=>
  refine Au (0,67,b.IF,hF.AW,13,67,161,13,0,67,161,0,8,0,13,5);exact aNZ
end
end Vp
namespace Vp
open PySem L2 Vf
theorem Aem(h:aJC)(n:Nat):(l++pG n 0).takeWhile (λc=>c != 0)=l:=by
 rw[List.takeWhile_append_of_pos (λa ha=>by simpa using h a ha)]
 cases n with
 |zero=>simp
 |succ n=>rw[AtC,List.takeWhile_cons];simp
theorem An4(h:aJC):Kgz2.okWord (C5 l)=(FW l&&l.all Kgz1.isLetter):=by
 have a:(C5 l).takeWhile (λc=>c != 0)=l:=Aem h _;unfold Kgz2.okWord;simp only[a];unfold FW;have hd:((C5 l).drop l.length).all (·==0)=true:=by unfold C5;simp
 rw[hd,Bool.and_true];by_cases b:l.length<=23
 .have d:oZ ((C5 l).length==24):=by
   unfold C5;grind
  rw[d,AtS]
 rw[mT b];simp
theorem An5(h:aJC):Kgz2.wordOf (C5 l)=l:=Aem h _
theorem An6(h:∀l∈st,∀z∈l,z≠0)(Aq:Nat):aN0=(G6 st&&decide (1<=Aq/\Aq<=12)):=by
 unfold Kgz2.okStock G6;have e:gN.all Kgz2.okWord=aNL:=by
  clear Aq
  induction st with
  |nil=>rfl
  |cons a r b=>
   rw[Asn,AtJ,AtJ,AtJ,b λl c=>pA h l c,An4 (h a AsG)];grind
 grind
theorem An7(n Aq:Nat)(a:aB)(h:a≠[]):Kgz2.isRow n Aq a=J2 n Aq a:=by unfold Kgz2.isRow J2;grind
theorem Aen(n Aq:Nat)(a:aB):(Aq<a.length\/(a.length≠0/\Kgz2.isRow n Aq a=false))↔J2 n Aq a=false:=by
 by_cases h:a=[]
 .subst h;simp[J2]
 have b:a.length≠0:=λe=>h (Av9 e);rw[An7 n Aq a h];constructor
 .rintro(q|q)
  .unfold J2;grind
  exact q.2
 exact λq=> xQ b q
end Vp
namespace Vp
open Vf
def Cq:Nat-> fX -> aB
 |w,[]=>if w=4 then[] else[6]
 |w,sh::r=>if sh.A2=[] then Cq fA r
  else(if fA=4 then[] else[BB fA+4])++aJD++Cq aBp r
def EB(sh:BU):Prop:=sh.Bk<=3/\∀x∈sh.A2,x<=3
theorem NS(l:Nat):BE 4 l=4:=by unfold BE;simp
theorem W1(hw:w<=3)(a:l<=3):BE w l≠4:=by have:=Jw hw a;omega
theorem NT(w:Nat):BB w<=2:=by unfold BB;split<;>(try split)<;>omega
theorem Aeo:∀(a:fX)(w:Nat),w<=3-> aGb ->Cq w a≠[]
 |[],w,h,_=>by unfold Cq;rw[fC];simp
 |sh::r,w,h,hs=>by
  have b:=hs sh aC;unfold Cq;split
  .exact Aeo r _ (Jw h b.1) λs x=>pA hs s x
  rw[mM (W1 h b.1)];simp
theorem Aep(h:l≠[]):l=l.dropLast++[l.getLast?.getD 0]:=by rw[Aud h];exact(List.dropLast_concat_getLast h).symm
theorem NU(h:l≠[])(hb:mEm b):l.getLast?.getD 0<=b:=by rw[Aud h];exact hb _ (List.getLast_mem h)
theorem W2:∀(l:aB),mEl l (pG l.length 0)=l
 |[]=>rfl
 |x::r=>by simp[List.replicate_succ,W2 r]
theorem W4:∀(a:fX)(pre b:aB)(w:Nat),w<=3->pre.length=b.length-> aGb ->
 Jb (a.foldl CZ (pre++[w],b++[4],))=mEl (pre.map BB) b++Cq w a
 |[],pre,b,w,h,c,_=>by
  show(if pre++[w]=[] then[] else mEl ((pre++[w]).dropLast.map BB++[2]) (b++[4]))=_;rw[Cq,mM (show¬pre++[w]=[] by simp),mM (show¬w=4 by omega),List.dropLast_concat,AvI (mR c)];rfl
 |sh::r,pre,b,w,h,c,hs=>by
  have d:=hs sh aC;have f:aGc:=λs x=>pA hs s x;rw[Ati];have g:CZ (pre++[w],b++[4],) sh=if sh.A2=[] then(pre++[fA],b++[4],) else(pre++[fA]++sh.A2,b++[4]++aBG,):=by unfold CZ;simp only[Sj]
  rw[g,Cq];by_cases e:sh.A2=[]
  .rw[bV,bV];exact W4 r pre b _ (Jw h d.1) c f
  rw[bP,bP,mM (W1 h d.1)];have i:pre++[fA]++sh.A2=(pre++[fA]++sh.A2.dropLast)++[aBp]:=by
   conv=>lhs;rw[Aep e]
   simp
  have j:b++[4]++aBG=(b++[4]++aFZ)++[4]:=(by unfold Gg;simp);rw[i,j,W4 r _ _ _ (NU e d.2) (by simp[c]) f];rw[As7,As7,At3 b,At3 (pre.map BB),AvI (mR c)];have e3:aFZ=List.replicate (aJD.length) 0:=aC;rw[e3,AvI aC,W2];simp
theorem Aeq:∀(a:fX),aGb -> aKM=Cq 4 a
 |[],_=>rfl
 |sh::r,hs=>by
  have b:aGc:=λs x=>pA hs s x;rw[Ati];have c:CZ ([],[],) sh=if sh.A2=[] then([],[],) else(sh.A2,aBG,):=by rfl
  rw[c,Cq,NS];by_cases e:sh.A2=[]
  .rw[bV,bV];exact Aeq r b
  rw[bP,bP,bF,Atz];have d:(sh.A2,aBG,)=(sh.A2.dropLast++[aBp],pG aJD.length 0++[4],):=by rw[<-Aep e];unfold Gg;simp
  rw[d,W4 r _ _ _ (NU e (hs sh aC).2) aC b];congr 1;exact W2 _
theorem An8(a:fX)(hs:aGb):To a=Cq 4 a:=Aeq a hs
theorem W5:∀(b:fX)(w:Nat),w<=4->(∀s∈b,EB s)->(Cq w b).length=D_ b+(if w=4 then 0 else 1)
 |[],w,h,_=>by
  unfold Cq D_;split<;>rfl
 |sh::r,w,h,hs=>by
  have c:=hs sh aC;have d:aGc:=λs x=>pA hs s x;have hw:fA <=4/\(fA=4↔w=4):=by
   by_cases e:w=4
   .subst e;rw[NS];simp
   have:=Jw (a:=w) aA c.1;omega
  have f:D_ (sh::r)=sh.A2.length+D_ r:=by unfold D_ AM;rw[Asn,Ati,Vf.Tt,AsZ]
  unfold Cq;split
  .rename_i e;rw[W5 r _ hw.1 d,f,e];grind
  rename_i e;have hp:aJe:=by
   cases g:sh.A2 with
   |nil=>exact nK g e
   |cons=>simp
  have i:=NU e c.2;rw[Asi,Asi,W5 r _ aA d,f,mM (by omega:¬ aBp=4),ArX,Av0];grind
section
variable (T:BR)
def NV(w p:Nat)(a:fX):Prop:=Cq w a≠[]/\C8 T (Cq w a) p
def HK(w P:Nat)(a:fX):Prop:=∃p,xN p=true/\NV T w p a
def KC(P:Nat)(ws:aB):Nat:=ws.foldl (λP x=>mCl Dt T P) P
def CQ(w P:Nat)(sh:BU):gS:=
 if sh.A2=[] then(fA,P,)
 else(aBp,aN1,)
theorem Aer(P s:Nat)(R:aB):(mDQ (s::R))↔∃p,(Dt T P (s%4) (decide (4<=s))).testBit p=true/\C8 T R p:=by
 constructor
 .rintro⟨p,hp,y,hy,ha⟩;exact(y,(Qw ..).mpr (mQ p hp hy),ha)
 rintro⟨y,hy,ha⟩;obtain⟨p,hp,hs⟩:=(Qw ..).mp hy;exact(p,hp,y,hs,ha)
theorem An9(P x:Nat)(R:aB):(mDQ (BB x::R))↔∃p,(mCl Dt T P).testBit p=true/\C8 T R p:=by have h:=NT x;rw[Aer,Nat.mod_eq_of_lt aA,mT aA]
theorem AnA(P x:Nat)(R:aB):(mDQ ((BB x+4)::R))↔∃p,(Dt T P (BB x) true).testBit p=true/\C8 T R p:=by have h:=NT x;rw[Aer,show(BB x+4)%4=BB x by omega,mW aA]
theorem W6:∀(ws:aB)(P:Nat)(R:aB),(mDQ (ws.map BB++R))↔∃p,(KC T P ws).testBit p=true/\C8 T R p
 |[],P,R=>Iff.rfl
 |x::r,P,R=>by
  rw[Asn,At8,An9,W6 r];rfl
theorem Aes(w P:Nat)(sh:BU)(r:fX)(hw:jB)(a:EB sh)(b:aGc):HK T w P (sh::r)↔HK T (aGd).1 (aGd).2 r:=by
 unfold CQ;by_cases e:sh.A2=[]
 .rw[bV];unfold HK NV;rw[Cq,bV]
 rw[bP];have c:=Aeo r _ (NU e a.2) b;have key:(mDQ (Cq w (sh::r)))↔∃p,aN1.testBit p=true/\C8 T (Cq aBp r) p:=by
  rw[Cq,bP];by_cases d:fA=4
  .rw[mJ d,mJ d,Atz,W6]
  rw[mM d,mM d,At3,At8,Atz,AnA,W6]
 have f:Cq w (sh::r)≠[]:=by rw[Cq,bP];simp_all
 unfold HK NV;grind
theorem AnB(w p:Nat)(hw:jB):NV T w p []↔w≠4/\ aJE.testBit p=true:=by
 unfold NV Cq;by_cases e:w=4
 .rw[bV];simp[e]
 rw[bP,Qx];simp only[C8];grind
theorem AnC(w P:Nat)(sh:BU):(aGd).1=if sh.A2=[] then fA else sh.A2.getLast?.getD 0:=by unfold CQ;split<;>rfl
theorem NX(w P:Nat)(sh:BU)(hw:jB)(h:EB sh):(aGd).1<=4:=by
 rw[AnC];split
 .by_cases e:w=4
  .subst e;rw[NS];omega
  have:=Jw (a:=w) aA h.1;omega
 rename_i e;have:=NU e h.2;omega
end
def Wd.sh(a:Wd)(m:Nat):BU:=if m=1 then a.CO else a.DF
def Cb:dY ->Nat
 |[]=>0
 |a::_=>a.vf
theorem S3(a:Wd)(q:dY):CP (a::q)=aGe::CP q:=by
 cases q with
 |nil=>rfl
 |cons b r=>rfl
structure DR(a:Wd):Prop where
 vf:a.vf<=1
 s0:EB a.DF
 s1:EB a.CO
theorem DR.sh(h:DR a)(m:Nat):EB (a.sh m):=by
 unfold Wd.sh;split
 .exact h.s1
 exact h.s0
theorem P9:∀(q:dY),aJF ->∀s∈CP q,EB s
 |[],_,s,hs=>by simp[CP] at hs
 |a::q,h,s,hs=>by
  rw[S3] at hs;rcases oG hs with rfl|hs
  .exact hK.sh _
  exact P9 q (λb hb=>pA h b hb) s hs
theorem PB(h:aJF):Cb q<=1:=by
 cases q with
 |nil=>exact aT
 |cons a r=>exact hK.vf
def KD(T:BR)(m w p:Nat)(q:dY):Prop:=Cb q=m/\NV T w p (CP q)
def IM(T:BR)(m w P:Nat)(q:dY):Prop:=Cb q=m/\HK T w P (CP q)
theorem NY(T:BR)(m w P:Nat)(q:dY):IM T m w P q↔∃p,xN p=true/\KD T m w p q:=by unfold IM KD HK;grind
theorem W7(T:BR)(m w P:Nat)(a:Wd)(q:dY)(hw:jB)(ha:DR a)(hq:∀b∈q,DR b):
 IM T m w P (a::q)↔a.vf=m/\IM T (Cb q) (CQ T w P aGe).1 (CQ T w P aGe).2 q:=by
 unfold IM;rw[S3,Aes T w P _ _ hw (ha.sh _) (P9 q hq)];constructor
 .rintro⟨h,r⟩;exact(mQ h rfl r)
 rintro⟨h,_,r⟩;exact(h,r)
theorem Eb(p x:Nat):((1<<<p:Nat)).testBit x=true↔x=p:=by rw[AsE,AtP,Aup];exact eq_comm
theorem W8(T:BR)(m w p:Nat)(q:dY):KD T m w p q↔IM T m w (1<<<p) q:=by
 rw[NY];constructor
 .intro h;exact(p,mFC p,h)
 rintro⟨x,hx,h⟩;rw[Eb] at hx;subst hx;exact h
theorem W9(T:BR)(m w p:Nat)(hw:jB):KD T m w p []↔m=0/\w≠4/\ aJE.testBit p=true:=by
 unfold KD;rw[show CP []=[] from rfl,AnB T w p hw];constructor
 .rintro⟨h,r⟩;exact(h.symm,r)
 rintro⟨h,r⟩;exact(h.symm,r)
section
variable (m:Bi)
def J4(c:Bq):List (Nat×Bool):=((pB c.way.length).drop c.place).map λj=>(c.way.getD j 0,mBj (mQ c.foot c.way j),)
def Aet(c d:Bq):Prop:=c.foot=d.foot/\J4 m c=J4 m d
theorem Aeu(c:Bq):(J4 m c).length=c.way.length - c.place:=by unfold J4;simp
theorem Aev(c:Bq)(h:c.place<c.way.length):J4 m c=(aHq,mBj c,)::J4 m aEF:=by unfold J4;rw[As8 fB];simp
theorem AnD:∀(n:Nat)(q a:Nat)(c d:Bq),aU[q]? =bT -> aU[a]? =mB d->c.way.length - c.place=n->Aet m c d->∀(l:aB)(Am:Bool),
 C8 aH l fE ↔C8 aH l (uL a Am):=by
 intro n
 induction n with
 |zero=>
  intro q a c d hc hd b _;obtain⟨_,_,_,_,_,hp⟩:=aEH;omega
 |succ n f=>
  intro q a c d hc hd b g l Am;obtain⟨_,_,_,_,_,hp⟩:=aEH;obtain⟨_,_,_,_,_,i⟩:=KZ m.feet 0 d (Asl hd)
  cases l with
  |nil=>exact(λh=>nK h (TF m Am hc),λh=>nK h (TF m Am hd))
  |cons s r=>
   have j:=yU g.2;rw[Aeu,Aeu] at j;have k:=g.2;rw[Aev m c hp,Aev m d i] at k;injection k with o p
   injection o with o u
   have hlen:JR (s%4) c=JR (s%4) d:=(by unfold JR Du;rw[o]);rw[TD m Am s r hc,TD m Am s r hd,hlen,u,<-g.1];by_cases e:c.place+1=c.way.length
   .rw[bV,gT]
   rw[bP,fC];have:=f (q+1) (a+1) _ _ aKY (T9 m.feet 0 a d hd aA) aKX (g.1,p) r (mAp d);rw[this]
end
end Vp
namespace Vp
open Vf
section
variable (T:BR)
theorem Aew(P Q n:Nat)(e:Bool):(mGH (Dt T P n e).testBit Q.testBit)↔∃x,xN x=true/\(before T Q n e).testBit x=true:=by
 constructor
 .rintro⟨y,a,b⟩;obtain⟨x,hx,hs⟩:=(Qw ..).mp a;exact(x,hx,(Qx ..).mpr (mQ y b hs))
 rintro⟨x,a,b⟩;obtain⟨y,hy,hs⟩:=(Qx ..).mp b;exact(y,(Qw ..).mpr (mQ x a hs),hy)
def KF(Q:Nat)(ws:aB):Nat:=ws.foldr (λx Q=>mCl before T Q) Q
theorem WA:∀(ws:aB)(P Q:Nat),(mGH (KC T P ws).testBit Q.testBit)↔∃x,xN x=true/\(KF T Q ws).testBit x=true
 |[],P,Q=>Iff.rfl
 |x::r,P,Q=>by
  have h:KC T P (x::r)=KC T (mCl Dt T P) r:=rfl;have h':KF T Q (x::r)=before T (KF T Q r) (BB x) false:=rfl;rw[h,h',WA r,Aew]
def IN(L:bE)(sh:BU)(w:Nat):Nat:=
 if sh.A2=[] then L fA
 else if w=4 then mIh L
 else mFD (mIh L) (BB fA)
theorem AnE(L:bE)(sh:BU)(w p:Nat)(hw:jB)(hs:EB sh):
 (IN T L sh w).testBit p=true↔∃a,(mFE sh).2.testBit a=true/\(L (mFE sh).1).testBit a=true:=by
 have b:∀Q:Nat,Q.testBit p=true↔∃x,(1<<<p:Nat).testBit x=true/\Q.testBit x=true:=λQ=>by
  constructor
  .intro h;exact(p,mFC p,h)
  rintro⟨x,hx,h⟩;rw[Eb] at hx;subst hx;exact h
 unfold IN CQ;by_cases e:sh.A2=[]
 .rw[bV,bV];exact b _
 rw[bP,bP];by_cases c:w=4
 .subst c;rw[bF,NS,bF];rw[WA];exact b _
 rw[mM c,mM (W1 aA hs.1),WA,Aew];exact b _
abbrev FL:=bE × bE
def G9(later:bE)(st:FL)(sh:BU):FL:=
 if sh.A2=[] then(λw=>st.1 w|||later fA,st.2,)
 else(st.1,λl=>if l=sh.Bk then st.2 l|||mIh later else st.2 l,)
def J5(later:kF)(m:Nat)(st:FL)(a:Wd):FL:=if a.vf=m then mLf T else st
def D0(m w:Nat):Nat:=if m=0/\w≠4 then aJE else 0
def Aex(later:kF)(m:Nat)(S:dY):FL:=S.foldl (mDR T) (D0 T m,λ_=>0,)
def GA(L:bE)(w l:Nat):Nat:=if w=4 then L l else mFD (L l) (BB (BE w l))
def IO(st:FL)(n:Nat)(w:Nat):Nat:=mLg (st.1 w)
def NZ(S:dY)(later:kF)(m w:Nat):Nat:=IO T (Aex T later m S) 4 w
def GB(S:dY):Nat->Nat->Nat->Nat
 |0=>D0 T
 |n+1=>NZ T S (GB S n)
def IP(st:FL)(w p:Nat):Prop:=(st.1 w).testBit p=true\/∃l,l<=3/\(mAY st.2).testBit p=true
theorem AnF(L:bE)(a w p B:Nat)(b:a<=3):(∃l,l<=3/\ aN2.testBit p=true)↔
 (∃l,l<=3/\(mAY L).testBit p=true)\/(mLh a).testBit p=true:=by
 have FN:∀l,aN2.testBit p=true↔(mAY L).testBit p=true\/(l=a/\(mLh a).testBit p=true):=by
  intro l;unfold GA;by_cases e:l=a
  .subst e;by_cases c:w=4
   .simp[c]
   simp only[if_neg c,if_true,true_and,Qx,Nat.testBit_or,Bool.or_eq_true];grind
  simp[e]
 constructor
 .grind
 rintro(⟨l,h,q⟩|q)
 .exact(l,h,(FN l).mpr (mG q))
 exact(a,b,(FN a).mpr (xQ rfl q))
theorem Aey(later:bE)(st:FL)(sh:BU)(w p:Nat)(hs:EB sh):mCm (G9 T later st sh)↔mCm st\/(IN T later sh w).testBit p=true:=by
 unfold IP G9 IN;by_cases e:sh.A2=[]
 .grind
 simp only[if_neg e];rw[AnF T _ _ _ _ _ hs.1,or_assoc]
theorem AnG(later:kF)(m:Nat)(st:FL)(a:Wd)(w p:Nat)(ha:DR a):
 IP T (J5 T later m st a) w p↔mCm st\/ aN3:=by
 unfold J5;by_cases e:a.vf=m
 .rw[bV,Aey T _ _ _ _ _ ha.s1,Aey T _ _ _ _ _ ha.s0,or_assoc];have:aN3 ↔((IN T (later 0) a.DF w).testBit p=true\/(IN T (later 1) a.CO w).testBit p=true):=by
   constructor
   .rintro⟨_,i,b,h⟩
    match i,b with
    |0,_=>exact mG h
    |1,_=>exact mI h
   rintro(h|h)
   .exact(e,64,4,h)
   exact(e,(1),4,h)
  rw[this]
 rw[bP];simp[e]
theorem Aez(later:kF)(m w p:Nat):∀(S:dY)(st:FL),aJG ->
 (mCm (S.foldl (mDR T) st)↔mCm st\/∃a∈S,a.vf=m/\∃i,i<=1/\(IN T (later i) (a.sh i) w).testBit p=true)
 |[],st,_=>by simp
 |a::S,st,h=>by
  rw[Ati,Aez later m w p S _ (λb hb=>pA h b hb),AnG T later m st a w p hK,or_assoc];simp
theorem AnH(st:FL)(w p:Nat):(IO T st 4 w).testBit p=true↔IP T st w p:=by
 unfold IO IP;have:∀(n:Nat)(r:Nat),(mLg r).testBit p=true↔yV p=true\/∃l,l<n/\(mAY st.2).testBit p=true:=by
  intro n
  induction n with
  |zero=>intro r;simp
  |succ n a=>
   intro r;rw[Atl,At4,Ati,List.foldl_nil,Ate,Atx,a,or_assoc];grind
 grind
theorem AnI(w p:Nat):¬∃l,l<=3/\(mAY aCv).testBit p=true:=by rintro⟨l,_,h⟩;unfold GA before at h;split at h<;>simp at h
theorem J6(S:dY)(c:aJG):∀(n m w p:Nat),m<=1->w<=4->((GB T S n m w).testBit p=true↔∃q:dY,(∀a∈q,a∈S)/\q.length<=n/\KD T m w p q)
 |0,m,w,p,hm,hw=>by
  show(D0 T m w).testBit p=true↔_;constructor
  .intro h;refine([],9,9,5);rw[aJH];unfold D0 at h;grind
  rintro⟨q,_,d,hp⟩;obtain rfl:q=[]:=uV aA;rw[aJH] at hp;unfold D0;rw[mJ (hp.1,hp.2.1)];exact hp.2.2
 |n+1,m,w,p,hm,hw=>by
  show(NZ T S (GB T S n) m w).testBit p=true↔_;unfold NZ Aex;rw[AnH,Aez T _ m w p S _ c];have h0:mCm (D0 T m,λ_=>0,)↔KD T m w p []:=by
   rw[aJH];constructor
   .rintro(h|h)
    .simp only[D0] at h;grind
    exact nK h (AnI T w p)
   rintro⟨e,f,g⟩;left;simp only[D0];rw[mJ (e,f)];exact g
  rw[h0];have step:∀(a:Wd),a∈S->∀i,i<=1->((IN T (GB T S n i) (a.sh i) w).testBit p=true↔∃q:dY,(∀b∈q,b∈S)/\q.length<=n/\Cb q=i/\IM T i (mFE (a.sh i)).1 (mFE (a.sh i)).2 q):=by
   intro a ha i j;rw[AnE T _ _ _ _ hw ((c a ha).sh i)];constructor
   .rintro⟨k,e,f⟩;obtain⟨q,g1,g2,g3⟩:=aN4.mp f;exact(q,g1,g2,g3.1,(NY ..).mpr (mQ k e g3))
   rintro⟨q,g1,g2,g3,l⟩;obtain⟨k,e,f⟩:=(NY ..).mp l;exact(k,e,aN4.mpr (q,g1,g2,f))
  constructor
  .rintro(h|⟨a,ha,o,i,j,h⟩)
   .exact([],9,9,h)
   obtain⟨q,g1,g2,g3,l⟩:=(step a ha i j).mp h;refine(a::q,fK,43,5)
   .grind
   rw[W8,mLi (λb hb=>c b (nN g1)),g3];exact(o,l)
  rintro⟨q,g1,g2,g3⟩
  cases q with
  |nil=>exact mG g3
  |cons a q=>
   have ha:=g1 a aC;have hq:∀b∈q,b∈S:=λb hb=>pA g1 b hb;rw[W8,mLi (λb hb=>c b (nN hq))] at g3;have r:=PB (q:=q) λb hb=>c b (nN hq);grind
end
end Vp
namespace Vp
open Vf
theorem AnJ(h:nJ qB x)(a:aJI):b=(b/2 ^ (x+1))*2 ^ (x+1)+2 ^ x:=by
 have c:b%2 ^ (x+1)=2 ^ x:=by apply Atg;grind
 have:=Nat.div_add_mod b (2 ^ (x+1));rw[c,Avu] at this;exact this.symm
def HL(b:Nat):Nat:=Ch b (b - 1)
theorem WB(h:nJ qB x)(a:aJI):HL b=1<<<x:=by
 have e:=AnJ h a;have hp:=AuS x;have c:b - 1=(b/2 ^ (x+1))*2 ^ (x+1)+(2 ^ x - 1):=aA;apply Atg;intro i;unfold HL;rw[Hq];have d:mLj (b - 1).testBit (2 ^ x - 1).testBit:=by rw[c,Avu,Nat.testBit_two_pow_mul_add _ (qQ Nat.pow_succ)]
 have e3:mLj qB (2 ^ x).testBit:=by grind
 rw[d,e3,AsE];grind
theorem AnK(h:b≠0):∃x,qB x=true/\∀y,y<x->qB y=false:=by
 obtain⟨i,a⟩:=(T6 b).mp h
 induction i using Nat.strongRecOn with
 |_ i c=>
  grind
theorem AnL(h:nJ qB x)(a:aJI)(i:Nat):(b^^^HL b).testBit i=(qB i&&decide (i≠x)):=by rw[WB h a,AuR,AsE,AtP];grind
structure Cr where
 wd:Wd
 Bl:Nat
 n:Nat
def WD:Wd:=(64,(64,[]),(64,[]))
section
variable (S:iD)
def AH(i:Nat):Cr:=S.getD i (WD,64,64)
def Bu:Nat->Nat
 |0=>0
 |i+1=>Bu i+cG.n
theorem S4(h:i<=j):dL <=Bu S j:=by
 induction j with
 |zero=>(obtain rfl:i=0:=by omega);exact aD
 |succ j a=>
  by_cases e:i=j+1
  .subst e;exact aD
  have:=a aA;show dL <=Bu S j+aBq.n;omega
theorem S5(a:dL <=x)(b:x<dL+cG.n)(c:Bu S j<=x)(h4:x<Bu S j+aBq.n):i=j:=by
 rcases Nat.lt_trichotomy i j with h|h|h
 .have:=mFF i j h;have e:mIi i:=rfl;omega
 .exact h
 have:=mFF j i h;have e:Bu S (j+1)=Bu S j+aBq.n:=rfl;omega
structure Dl(W:Nat)(l:bE):Prop where
 le:∀i,l i<= cG.n
 Dg:∀x,W.testBit x=true↔∃i,dL <=x/\x<dL+l i
theorem S6:Dl S 0 λ_=>0:=(λ_=>aT,λx=>by
 constructor
 .intro h;simp at h
 rintro⟨i,a,b⟩;omega)
variable {S}
theorem Dl.at(h:aBr)(hk:k<cG.n):W.testBit (dL+k)=true↔k<l i:=by
 rw[h.Dg];constructor
 .rintro⟨j,g,q⟩;have:=h.le j;have e:=S5 S (i:=i) (j:=j) (x:=dL+k) aA aA g aA;subst e;omega
 intro s;exact(i,4,4)
theorem AnM(h:aBr)(h':Dl S V k):Dl S (W|||V) λi=>max (l i) (k i):=by refine(λi=>by have:=h.le i;have:=h'.le i;omega,λx=>?_);rw[Ate,Atx,h.Dg,h'.Dg];grind
theorem AnN(h:aBr)(h':Dl S U u)(e:W&&&U=W)(i:Nat):l i<=u i:=by
 rcases Atq (u i) (l i) with a|hge
 .exfalso;have hk:=Ass a (h.le i);have b:=(h.at hk).mpr a;rw[<-e,Atd,AsF,h'.at hk] at b;omega
 exact hge
def KG(S:iD)(i M:Nat):Prop:=∀x,M.testBit x=true↔ dL <=x/\x<dL+cG.n
theorem AnO(h:aDR):Dl S M λj=>if j=i then cG.n else 0:=by
 refine aJJ
 .grind
 rw[h x];grind
theorem WE(a:aDR)(b:Dl S U u)(x:Nat):aDS.testBit x=true↔ dL+u i<=x/\x<dL+cG.n:=by
 rw[Hq,AsF,a x,Avg];constructor
 .rintro⟨⟨c,d⟩,f⟩;refine(5,d);rcases Atq x aDT with g|hge
  .rw[(b.Dg x).mpr (mQ i c g)] at f;cases f
  exact hge
 rintro⟨c,d⟩;refine(oS (4,d))
 cases hb:U.testBit x with
 |false=>rfl
 |true=>
  obtain⟨j,g1,g2⟩:=(b.Dg x).mp hb;have:=b.le j;have e:=S5 S (i:=i) (j:=j) (x:=x) aA d g1 aA;subst e;omega
theorem Ae0(a:aDR)(b:Dl S U u):HL aDS=if u i<cG.n then 1<<<aDT else 0:=by
 by_cases e:u i<cG.n
 .rw[bV];refine WB ((WE a b _).mpr (aD,4)) λy hy=>?_
  cases hb:aDS.testBit y with
  |false=>rfl
  |true=>have:=(WE a b _).mp hb;omega
 rw[bP];have:aDS=0:=by
  apply Atg;intro x;rw[Avo]
  cases hb:aDS.testBit x with
  |false=>rfl
  |true=>have:=(WE a b _).mp hb;omega
 rw[this];rfl
def DS(u:bE)(i:Nat):bE:=λj=>if j=i then u j+1 else u j
theorem Ae1(a:Dl S U u)(b:u i<cG.n):Dl S (U|||1<<<aDT) aCw:=by
 refine aJJ
 .unfold DS;split
  .rename_i e;subst e;omega
  exact a.le j
 rw[Ate,Atx,a.Dg,Eb];constructor
 .rintro(⟨j,c,d⟩|rfl)
  .refine(rR j c);unfold DS;split<;>omega
  exact(i,4,by unfold DS;rw[bF];omega)
 rintro⟨j,c,d⟩;unfold DS at d;grind
def Ml(l u:bE)(i:Nat):bE:=λj=>if j=i then min (l j) (u j) else l j
theorem AnP(a:aBr)(b:u i<cG.n)(hle:l i<=u i+1):Dl S (Ch W (1<<<aDT)) (Ml l u i):=by
 refine aJJ
 .unfold Ml;have:=a.le j;split<;>omega
 have hb:∀x,(1<<<aDT:Nat).testBit x=false↔x≠ dL+u i:=λx=>by rw[<-Bool.not_eq_true,Eb]
 rw[Hq,AsF,Avg,hb,a.Dg];constructor
 .rintro⟨⟨j,c,d⟩,f⟩;refine(rR j c);unfold Ml;grind
 rintro⟨j,c,d⟩;unfold Ml at d;by_cases e:j=i
 .grind
 rw[bP] at d;refine((mQ j c d),λz=>e ?_);have:=a.le j;exact S5 S (x:=x) c aA aA aA
def Cc(S:iD)(q:aB):List Wd:=q.map λi=>cG.wd
def KH(S:iD):aB ->Nat
 |[]=>0
 |i::q=>cG.Bl+KH S q
def Lk(S:iD)(C:aBs)(l:bE)(r c:Int):Prop:=∀q:aB,C q->(q.length:Int)<=r->(KH S q:Int)<=c->∃i,cG.n<l i+q.count i
theorem AnQ:Lk S (λ_=>False) l r c:=λq h=>h.elim
theorem Ae2(h:aGf)(a:∀q,D q->C q):Lk S D l r c:=λq hq=>h q (a q hq)
theorem AnR(h:aGf)(h':Lk S D k a b):Lk S (λq=>C q\/D q) (λi=>max (l i) (k i)) (min r a) (min c b):=by
 intro q hq d hc;rcases hq with hq|hq
 .obtain⟨i,e⟩:=h q hq aA aA;grind
 obtain⟨i,e⟩:=h' q hq aA aA;grind
theorem AnS(h:aGf):Lk S (λq=>∃i a,q=i::a/\ cG.Bl=g/\C a) l (r+1) (c+g):=by rintro q ⟨i,a,rfl,hg,hq⟩ b hc;rw[As1] at b;have hc':KH S (i::a)=g+KH S a:=(by show cG.Bl+_=_;rw[hg]);rw[hc'] at hc;obtain⟨j,hj⟩:=h a hq aA aA;grind
theorem AnT(h:aGf)(hle:l i<=u i+1):Lk S aN5 (Ml l u i) (r+1) (c+cG.Bl):=by rintro q ⟨a,rfl,hq⟩ b hc;rw[As1] at b;have hc':KH S (i::a)=cG.Bl+KH S a:=rfl;rw[hc'] at hc;obtain⟨j,hj⟩:=h a hq aA aA;refine(oS j);rw[Aw0];unfold Ml;grind
theorem AnU{C:aBs}:Lk S aN5 (λj=>if j=i then cG.n else 0) r c:=by rintro q ⟨a,rfl,hq⟩ b hc;refine(oS i);simp
end
def DG(st:bW)(k:Nat):List Nat:=st.getD k []
def Fs(st:bW):aB -> aB
 |[]=>[]
 |[k]=>fU
 |k::j::l=>fU++32::mDS l
structure FZ(st:bW):Prop where
 ne:∀x∈st,x≠[]
 le:∀x∈st,x.length<=23
 S8:∀x∈st,iB=true
theorem AnZ(h:nJ Kgz1.isLetter c):65<=c:=by unfold Kgz1.isLetter at h;simp only[Bool.or_eq_true,Bool.and_eq_true,decide_eq_true_eq,Q3,List.mem_cons,List.not_mem_nil,or_false] at h;omega
theorem PJ(h:mAX k):fU ∈st:=by unfold DG;grind
theorem Ae7(ok:hG)(hx:x∈st):∀c∈x,65<=c:=λc hc=>AnZ (AsL.mp (pI ok.S8) c hc)
theorem An_(ok:hG):∀(r:aB),lK ->Kgz2.lineOf gN r=Fs st r:=by
 have FN:∀k,k<st.length-> aOa=DG st k:=λk hk=>by
  have:gN.getD k []=C5 fU:=by unfold DG;grind
  rw[this];exact An5 λz hz=>(by have:=Ae7 ok (PJ hk) z hz;omega)
 intro r
 induction r with
 |nil=>intro _;rfl
 |cons k l a=>
  intro h
  cases l with
  |nil=>exact FN k (h k aC)
  |cons j t=>
   show aOa++32::Kgz2.lineOf gN (j::t)=fU++32::mDS t;grind
theorem Ae8:∀(a w r:aB),(∀c∈a,c≠32)->mCn (a++32::r) w=if w++a=[] then mCn r [] else(w++a)::mCn r []
 |[],w,r,_=>by simp[Kgz1.splitOn]
 |c::a,w,r,h=>by
  rw[At8,Kgz1.splitOn,mM (h c aC),Ae8 a _ r λx hx=>gI];simp
theorem Ae9:∀(a w:aB),(∀c∈a,c≠32)->mCn a w=if w++a=[] then[] else[w++a]
 |[],w,_=>by simp[Kgz1.splitOn]
 |c::a,w,h=>by
  rw[Kgz1.splitOn,mM (h c aC),Ae9 a _ λx hx=>gI];simp
theorem Aoa(ok:hG):∀(r:aB),lK ->wX aBt=r.map (DG st):=by
 intro r
 induction r with
 |nil=>intro _;rfl
 |cons k l a=>
  intro h;have hk:=PJ (h k aC);have b:∀c∈ fU,c≠32:=λc hc=>(by have:=Ae7 ok hk c hc;omega);have d:=ok.ne _ hk
  cases l with
  |nil=>
   show mCn fU []=_;rw[mC Ae9 b,Atz,mM d];rfl
  |cons j t=>
   show mCn (fU++32::mDS t) []=_;rw[sL Ae8 b,Atz,mM d];have:=a λx hx=>gI;show fU::wX (mDS t)=_;rw[this];rfl
theorem AeA(st:bW):∀(r:aB),r≠[]-> aBt.length+1=AM (r.map λk=>fU.length+1)
 |[],h=>rB h
 |[k],_=>by simp[Fs,AM]
 |k::j::l,_=>by
  rw[Asn,C7,<-(AeA st (j::l) aC)];show(fU++32::mDS l).length+1=_;grind
def GD:aB ->Nat
 |[]=>0
 |x::r=>max x (GD r)
theorem WI(h:x∈l):x<=GD l:=by
 induction l with
 |nil=>simp at h
 |cons y r a=>
  unfold GD;grind
theorem AeB(h:mEm b):GD l<=b:=by
 induction l with
 |nil=>exact aT
 |cons y r a=>
  unfold GD;have:=h y aC;grind
def GF(feet:jA):Nat:=AM (feet.map λf=>GD aBI)
theorem WJ(cuts:cD)(b:aB):∀(feet:jA)(i a:Nat)(Am:Bool),mIk Bz feet≠[]->b.length<=a+GF feet
 |[],i,a,Am,h=>by
  unfold Bz at h;grind
 |f::r,i,a,Am,h=>by
  unfold Bz at h;rw[List.ne_nil_iff_exists_cons] at h;obtain⟨x,l,h⟩:=h;have hx:x∈f.zipIdx.flatMap (λw=>if uK w.1 then aHo else[]):=(pP h);rw[AuK] at hx;obtain⟨⟨w,j⟩,hw,hx⟩:=hx;split at hx
  .obtain⟨y,hy,_⟩:=nY hx;have c:=WJ cuts b r (i+1) aJM (Am||Ei cuts b i w a) (λe=>by rw[e] at hy;simp at hy);have hm:=WI (AtE (f:=List.length) ((List.mem_zipIdx hw).2.2▸Asw _));unfold GF at c⊢;rw[Asn,C7];omega
  simp at hx
theorem Aob{m:Bi}(ok:m.Ok):GF m.feet<=64:=by
 have:GF m.feet<=m.feet.length*4:=by
  unfold GF;have:=XR 4 (m.feet.map λf=>GD aBI) (λx hx=>by obtain⟨f,hf,rfl⟩:=nY hx;refine AeB λy hy=>?_;obtain⟨w,hw,rfl⟩:=nY hy;have:=(ok.Bz f hf).2.2 w hw;simp only[Eh,Bool.and_eq_true,decide_eq_true_eq] at this;omega)
  simpa using this
 have:=ok.KY;omega
def Wk(st:bW)(k:Nat):Wd:=Hb fU
theorem Aoc(s:aCl):(Bs (Kgz1.cut s)).2.length<=(cS).2.length:=by
 have key:∀(a b:aCl),(Bs a).2.length<=(Bs (a++b)).2.length:=by
  intro a b
  induction a with
  |nil=>simp[Bs]
  |cons x a d=>
   cases x with
   |cons c=>exact d
   |vowel g=>simp only[List.cons_append,Bs,List.length_cons];omega
 have hp:∃b,s=Kgz1.cut s++b:=by
  unfold Kgz1.cut;split
  .simp_all
  .simp_all
  exact([],9)
 grind
theorem Aod(h:oZ iB):DR (Hb x):=
 ((Yc (La 0 x h)).2,VM _,VM _)
theorem AeC(x:aB):(Hb x).CO.A2.length<=(Hb x).DF.A2.length:=by unfold Hb DU;simp;exact Aoc _
theorem KI(ok:hG)(h:mAX k):DR eK:=Aod (ok.S8 _ (PJ h))
theorem WK(F_:m.Ok)(ok:hG)(r:aB)(b:lK):
 Kgz2.scansRow (E2 m) gN r=true↔ aBt.length<=255/\HK aH 4 aH.first aDW:=by
 have c:∀x∈uZ (DG st),iB=true:=λx hx=>by obtain⟨k,hk,rfl⟩:=nY hx;exact ok.S8 _ (PJ (b k hk))
 have d:HV (wX aBt)=CP (uZ (Wk st)):=by rw[(Aoa ok r b),<-VJ _ c,AsB];rfl
 have f:aJN.map Kgz1.number=Cq 4 aDW:=by
  rw[<-O1];unfold Ck;rw[d];exact An8 _ (P9 _ λa ha=>by obtain⟨k,hk,rfl⟩:=nY ha;exact KI ok (b k hk))
 have g:Kgz1.scans (E2 m) aJN=Bz m.cuts (Cq 4 aDW) m.feet 0 0 m.cuts.isEmpty:=(pJ T4 f);have hlen:aJN.length=(Cq 4 aDW).length:=(mBU f ArX);have h:=XZ m F_ (Cq 4 aDW);unfold Kgz2.scansRow;rw[An_ ok r b];simp only[Bool.and_eq_true,decide_eq_true_eq,Bool.not_eq_true'];rw[g];constructor
 .rintro⟨⟨i,j⟩,l⟩;refine(oS i);obtain⟨p,hp,ha⟩:=h.mpr (λe=>by rw[e] at l;simp at l);refine(p,hp,λe=>?_,ha);rw[e,AuV] at hlen;unfold Kgz1.bad at j;grind
 rintro⟨i,p,hp,n,ha⟩;have o:=h.mp (mQ p hp ha);refine(nG oS i)
 .have q:=WJ _ _ _ _ _ _ o;have:=Aob F_;unfold Kgz1.bad;grind
 rw[List.isEmpty_eq_false_iff];exact o
theorem Aoe(F_:m.Ok)(q:dY)(hq:aJF)(hc:aOb)(h:HK aH 4 aH.first (CP q)):
 AM aOc <=GF m.feet:=by
 obtain⟨p,hp,c,ha⟩:=h;have d:=WJ _ _ _ _ _ _ ((XZ m F_ _).mp (mQ p hp ha));rw[mP W5 aA (P9 q hq),bF] at d;have:∀q:dY,aOb ->AM aOc <=D_ (CP q):=by
  intro q
  induction q with
  |nil=>intro _;exact aD
  |cons a q e=>
   intro h;have:=e λb hb=>pA h b hb;have ha:=hK;rw[S3];unfold D_ at this⊢;rw[Asn,C7,Asn,C7];have:a.CO.A2.length<= aGe.A2.length:=by unfold Wd.sh;split<;>omega
   omega
 have:=this q hc;omega
theorem WL(hd:r.Nodup)(c:aDX):∃s,kG.Perm (r++s):=by
 refine(kG.filter λk=>decide (k∉r),5);have d:(r++kG.filter λk=>decide (k∉r)).Nodup:=by rw[AsT];refine(hd,List.Pairwise.filter _ List.nodup_range,λa ha b hb e=>?_);grind
 grind
theorem Aof{a b:bH}(h:a.Perm b):a.sum=b.sum:=by
 induction h with
 |nil=>rfl
 |cons x _ c=>rw[AtK,AtK,c]
 |swap x y l=>simp;omega
 |trans _ _ d e=>exact d.trans e
theorem S9:∀(fs A B:bH),fs.Pairwise (·<=·)->fs.Perm kM ->(fs.take A.length).sum<=A.sum
 |[],A,B,_,hp=>by
  simp_all
 |x::fs,A,B,hs,hp=>by
  rw[AvR] at hs;by_cases hx:x∈A
  .have b:=List.perm_cons_erase hx;have c:fs.Perm (A.erase x++B):=by
    have d:=hp.trans (List.Perm.append_right B b);exact List.Perm.cons_inv d
   have e:=S9 fs (A.erase x) B hs.2 c;have f:=b.length_eq;have g:A.sum=x+(A.erase x).sum:=(by rw[Aof b,AtK]);grind
  cases b:A with
  |nil=>simp
  |cons a h=>
   have i:x∈B:=by have:x∈A++B:=hp.mem_iff.mp aC;grind
   have c:fs.Perm (A++B.erase x):=by have d:=hp.trans ((List.Perm.append_left A (List.perm_cons_erase i)).trans List.perm_middle);exact List.Perm.cons_inv d
   have e:=S9 fs A (B.erase x) hs.2 c;rw[b] at e;have f:=c.length_eq;rw[b,Asi,As1] at f;rw[As1] at e⊢;rw[Auf,AtK];have j:h.length<fs.length:=aA;rw[AsA,mK j,Atp,Aw1,List.sum_singleton] at e;have:=hs.1 fs[h.length] (Asw j);omega
theorem AeD(l:bH):(sT (λx=> -x)).sum= - l.sum:=by
 induction l with
 |nil=>rfl
 |cons x l a=>rw[Asn,AtK,AtK,a];omega
theorem Aog(hs A B:bH)(h:hs.Pairwise (·>=·))(hp:hs.Perm kM):A.sum<=(hs.take A.length).sum:=by
 have a:(hs.map λx=> -x).Pairwise (·<=·):=by grind
 have b:(hs.map λx=> -x).Perm ((A.map λx=> -x)++(B.map λx=> -x)):=by rw[<-As7];exact hp.map _
 have:=S9 _ _ _ a b;rw[ArX,<-AuM,AeD,AeD] at this;omega
theorem WM(l:aB):(l.map λ(n:Nat)=>(n:Int)).sum=((AM l:Nat):Int):=by
 induction l with
 |nil=>rfl
 |cons x l a=>rw[Asn,AtK,C7,a];omega
theorem Aoh{fs:bH}{r:aB}(hd:r.Nodup)(a:aDX)(hp:fs.Perm (mAZ kG.map))(hs:fs.Pairwise (·<=·)):(fs.take r.length).sum<=((AM (uZ f):Nat):Int):=by obtain⟨s,b⟩:=WL hd a;have h:=S9 fs (mAZ r.map) (mAZ s.map) hs aOd;rw[ArX] at h;have e:aOe:=(qO AsB);rw[e,WM] at h;exact h
theorem Aoi{hs:bH}{r:aB}(hd:r.Nodup)(a:aDX)(hp:hs.Perm (mAZ kG.map))(h':hs.Pairwise (·>=·)):((AM (uZ f):Nat):Int)<=(hs.take r.length).sum:=by obtain⟨s,b⟩:=WL hd a;have h:=Aog hs (mAZ r.map) (mAZ s.map) h' aOd;rw[ArX] at h;have e:aOe:=(qO AsB);rw[e,WM] at h;exact h
theorem Aoj{fs:bH}(h0:∀x∈fs,0<=x):∀{a b:Nat},a<=b->(fs.take a).sum<=(fs.take b).sum:=by
 induction fs with
 |nil=>intro a b _;simp
 |cons x fs c=>
  intro a b d;have hx:=h0 x aC
  cases a with
  |zero=>
   cases b with
   |zero=>exact Int.le_refl _
   |succ b=>
    have:=(c λy hy=>pA h0 y hy) (Asm b);grind
  |succ a=>
   cases b with
   |zero=>omega
   |succ b=>
    grind
structure Oa(st:bW)(A7:bE)(S:iD)(so:bE):Prop where
 lt:∀k,k<st.length->so k<S.length
 wd:∀k,k<st.length-> aJO.wd=Wk st k
 Bl:∀k,k<st.length-> aJO.Bl=A7 k
 n:∀i,cG.n=(aAv.map so).count i
theorem Aok(ok:aGj)(t:aB)(a:aJP):Cc S (t.map so)=t.map (Wk st):=by unfold Cc;rw[AsB];exact AsU λk hk=>ok.wd k (a k hk)
theorem AeE(ok:aGj):∀(t:aB),aJP ->KH S (t.map so)=AM (t.map A7)
 |[],_=>rfl
 |k::t,h=>by
  rw[Asn,Asn,C7,<-AeE ok t λx hx=>gI];show aJO.Bl+_=_;rw[ok.Bl k (h k aC)]
theorem AeF(ok:aGj){r:aB}(hd:r.Nodup)(a:lK)(i:Nat):(uZ so).count i<= cG.n:=by obtain⟨s,b⟩:=WL hd a;rw[ok.n i,(b.map so).count_eq,As7,List.count_append];omega
section
variable (T:BR) (st:bW)
def D4(r:aB)(m:Nat):gS:=match r.reverse with
 |[]=>(4,T.first,)
 |k::l=>go l eK m
where go:aB ->Wd->Nat->Nat×Nat
 |[],a,m=>CQ T 4 T.first (a.sh m)
 |j::l,a,m=>CQ T (go l fV a.vf).1 (go l fV a.vf).2 (a.sh m)
theorem SB(r:aB)(k m:Nat):D4 T st dN m=CQ T (wG T eK.vf).1 (wG T eK.vf).2 (eK.sh m):=by
 unfold D4;rw[List.reverse_append,List.reverse_singleton,List.singleton_append]
 cases h:r.reverse with
 |nil=>rfl
 |cons j l=>rfl
theorem PK(ok:hG):∀(n:Nat)(r:aB)(m:Nat),r.length=n-> lK ->(wG T m).1<=4
 |0,r,m,a,_=>by
  obtain rfl:=uV a;exact aD
 |n+1,r,m,a,b=>by
  obtain⟨q,k,rfl⟩:∃q k,r=q++[k]:=by
   rcases AsR r with h|⟨q,k,h⟩
   .rw[h] at a;simp at a
   grind
  rw[SB];exact NX T _ _ _ (PK ok n q _ (mR a) λx hx=>b x aDY) ((KI ok (b k aC)).sh m)
theorem WN(ok:hG):∀(n:Nat)(r t:aB),r.length=n-> aOf ->
 (HK T 4 T.first (CP ((r++t).map (Wk st)))↔HK T (wG T (Cb aAw)).1 (wG T (Cb aAw)).2 (CP aAw))
 |0,r,t,b,_=>by
  obtain rfl:=uV b;exact Iff.rfl
 |n+1,r,t,b,c=>by
  obtain⟨q,k,rfl⟩:∃q k,r=q++[k]:=by
   rcases AsR r with h|⟨q,k,h⟩
   .rw[h] at b;simp at b
   grind
  have d:∀x∈q++(k::t),x<st.length:=λx hx=>c x (mR hx);have e:∀a∈ aAw,DR a:=λa ha=>by obtain⟨x,hx,rfl⟩:=nY ha;exact KI ok (d x aJd)
  rw[At3,List.singleton_append,WN ok n q (k::t) (mR b) d,SB];show HK T (D4 T st q eK.vf).1 (D4 T st q eK.vf).2 (CP (eK::aAw))↔_;rw[S3,Aes T _ _ _ _ (PK T st ok n q _ (mR b) λx hx=>d x aDY) ((KI ok (d k aC)).sh _) (P9 _ e)]
end
end Vp
namespace Vp
open PySem PySem.Spec L2
section
variable {prog:Program} {w:World} {A:Around} {E:bN} {s:Shared}
theorem AeG(a:mIl b i)(c:mAy b d)
 (h:∀(o:Obj),oB it=aI ->o.cls= mFI oH->o.data= mAu #[bU,.int i 0]->∀nx:Sem PySem.Fin,Builtin.«tuple_iterator.__next__» ([iQ],[])=nx->wpAny bD A.in1 nx (λf e=>∃v,f= .done (.ret v)/\Q v e) E s):
 wpAny bD A aDZ Q E s:=by
 obtain⟨o,g,hc,hd⟩:=id a;refine nF (mFJ a.typeIs F.slot_tuple_iterator_next (Atf F.slot_tuple_iterator_next a.typeIs F.entry_tuple_iterator_next ?_ (F.args_tuple_iterator_next_1 _)));refine AtL (h o g hc hd _ rfl) (λf e q=>?_) λ_ _ x=>x;obtain⟨v,rfl,q⟩:=q;exact(v,2,Asg q)
theorem WO(b:kY)(c:mIl d i)(f:mAy d g)(hx:g[i]? =none)
 (h:aOg):wpAny bD A aDZ Q E s:=by
 obtain⟨j,k,_,l,n⟩:=id f;refine AeG c f λo p hc hd nx e=>?_;subst e;show mFK 0;refine nF (Ats p hd (x:= dG) rfl ?_);show mDn d s;rw[aGk];show mFK 1;refine mLk p;show mFL seqItems? dG;refine pQ AtV k n;simp only[Int.toNat_natCast,hx];refine nF (Ava (mE9 p));show aOh;refine cI;simp only[newExc,newTuple];refine mAE mBX;refine mLl (by first|rfl|(simp;rfl));refine mBX ?_;simp only[raiseNew];refine aIs;first|rw[show A.in1.handled=none from b]|rw[b]
 refine ArZ (Asg (wpAny_throw (mP h aIt (rE cQ))))
theorem AeH(a:mIl b i)(c:mAy b d)(hx:d[i]? =aW)
 (f:∀h',h'.IsTupleIter it b (i+1)->zE it->Q x {s with heap:=h'}):wpAny bD A aDZ Q E s:=by
 obtain⟨g,h,_,j,k⟩:=id c;refine AeG a c λo l hc hd nx e=>?_;subst e;show mFK 0;refine nF (Ats l hd (x:= bU) rfl ?_);show mDn b s;rw[aGk];show mFK 1;refine mLk l;show mFL seqItems? bU;refine pQ AtV h k;simp only[Int.toNat_natCast,hx];refine ArZ (Avb l hd aC (Asg (x,2,f _ (_,mLm l,aOi,5) (AtD ..))));rw[Au_ hd];simp[rawInt]
def EC(b:Bool)(h:Heap)(a:Addr)(c:jO):Prop:=if b then h.IsList a c else h.IsTuple a c
def Ec(b:Bool)(h:Heap)(it a:Addr)(i:Nat):Prop:=if b then mBA it a else aEU
theorem EC.at(x:EC b h a g)(e:mIm a):EC b h' a g:=by
 cases b with
 |true=>exact Heap.IsList.at x e
 |false=>obtain⟨o,i,r⟩:=aOj;exact(o,e o i,r)
theorem Ec.at(x:mDT h)(e:mIm it):Ec b h' it a i:=by
 cases b with
 |true=>exact Heap.IsListIter.at x e
 |false=>exact Heap.IsTupleIter.at x e
theorem Ec.there(x:mDT h):∃o,nZ it=aI /\∃v,o.data= .fields v:=by
 cases b with
 |true=>obtain⟨o,g,_,hd⟩:=(show mBA it a from x);exact(o,g,_,hd)
 |false=>obtain⟨o,g,_,hd⟩:=(show aEU from x);exact(o,g,_,hd)
theorem EC.there(x:EC b h a g):∃o,nZ a=some o:=by
 cases b with
 |true=>obtain⟨o,i,_⟩:=(show h.IsList a g from x);exact(o,i)
 |false=>obtain⟨o,i,_⟩:=aOj;exact(o,i)
theorem Aol(c:kY)(it a:Addr)(d:a≠it)(f:jO):Draws prog w A it [it,a] f.size (λi v=>f[i]? =bK) (λi h=>mDT h/\EC b h a f) where
 live:=λ_ _ st=>let(o,g,_):=st.1.there;(o,g)
 frame:=λ_ _ _ st hk=>(st.1.at λo e=>hk it aC o e,mHu hk a)
 item:=λi s Q E j st k=>by
  have hx:pO f[i]? f[i]:=(by simp[j])
  cases b with
  |true=>exact wpAny_nextOf_list_item st.1 st.2 hx λh' l m=>aOk
  |false=>exact AeH st.1 st.2 hx λh' l m=>aOk
 done:=λs Q E st n=>by
  cases b with
  |true=>exact wpAny_nextOf_list_end c st.1 st.2 aC n
  |false=>exact WO c st.1 st.2 aC n
theorem WP(c:mDT s.heap)(d:xD b a e)(hx:e[i]? =aW)
 (f:∀h',Ec b h' it a (i+1)->zE it->Q x {s with heap:=h'}):wpAny bD A aDZ Q E s:=by
 cases b with
 |true=>exact wpAny_nextOf_list_item c d hx f
 |false=>exact AeH c d hx f
theorem AeI(c:kY)(d:mDT s.heap)(f:xD b a g)(hx:g[i]? =none)
 (h:aOg):wpAny bD A aDZ Q E s:=by
 cases b with
 |true=>exact wpAny_nextOf_list_end c d f hx h
 |false=>exact WO c d f hx h
theorem Aom{z TI TO a b d f:Addr}(D:ZipApart z TI TO a b d f)
 (hz:mFc s.heap) (g:mFM TI aJ bU) (h:mFM TO p q) (i:Ec b1 s.heap a d j) (k:Ec l s.heap b f m)
 (g1:xD b1 d xs) (g2:xD l f ys) (hx:xs[j]? =aW) (hy:ys[m]? =mB y)
 (aa:∀h',IsZip h' z TI TO (mDf rawInt)->IsPair h' TO x y->Ec b1 h' a d (j+1)->Ec l h' b f (m+1)->IsPair h' s.heap.objs.size x y->
  (∀c o,c≠z->c≠TO->c≠a->c≠b->oB c=aI ->qC c=aI)->Q (mDf mH) {s with heap:=h'}):wpAny bD A (pyNext (mF z)) Q E s:=by
 have n:s.TypeIs (mF z) "zip":=(rE hz);refine mLn n;show mFN 2;refine aOl;show mFN 3;refine mFO TI (pQ AtV g rfl);refine cI;unfold Builtin.SmallTypes.ownedTupleIsFree;refine nF (mHf hz rfl);simp only[if_true];refine ArZ (Ava (mFO TO (nF (Auk hz aC λv1 ab s1=>?_))));have r:mIn oB v1.get?:=λc o hc e=>(s1.2 c hc).trans e;refine cI;simp only[List.zipIdx_cons,List.zipIdx_nil,List.forIn_cons,List.forIn_nil];refine aGl;show mFP a;refine ArZ (WP (s:={s with heap:=v1}) (i.at λo e=>r _ o D.i1z e) (g1.at λo e=>r _ o D.l1z e) hx λv2 n2 s2=>cN);have u:aOm:=λc o hc hd e=>(s2.2 c hd).trans (mAf r);have v:=u _ _ D.TOz D.TOi1 h;refine nF (AtV v rfl (nF (Av4 v λB t3 s3=>nF (wpAny_letGo cN))));have C:mLo B.get?:=λc o hc hd he e=>(s3.2 c he).trans (u c o hc hd e);refine aGl;show mFP b;refine ArZ (WP (s:={s with heap:=B}) (k.at λo e=>mLp C e) (mLq C) hy λv4 n4 s4=>cN);have G:=(s4.2 TO D.TOi2).trans t3;refine ArZ (AtV G rfl (nF (Av4 G λH ac s5=>yZ wpAny_letGo cN)))
 have I:IsPair H TO x y:=ac;refine nF (AtV I rfl (mAE wpAny_newTuple));have sz:mHm H.objs.size:=(by rw[s5.1,s4.1,s3.1,s2.1,s1.1]);have J:=(s5.2 z D.TOz.symm).trans ((s4.2 z D.i2z.symm).trans (mLr ab));refine cI;unfold Builtin.SmallTypes.ownedTupleHandOut;refine nF (Auk (oD J) aC λae af L=>?_);refine Auk af aC λM ag N=>?_;have O:=ag;have T:mIn H.get? M.get?:=λc o hc e=>(N.2 c hc).trans ((L.2 c hc).trans (oD e));have U:=Asu J;have Y:=(N.2 _ (Auj U)).trans ((L.2 _ (Auj U)).trans cQ);rw[sz] at O Y;refine Asg (mF H.objs.size,2,cN);rw[sz];exact aa M O (mP T D.TOz I) ((n2.at λo e=>(s5.2 a D.TOi1.symm).trans ((s4.2 a D.i12).trans ((s3.2 a D.TOi1.symm).trans e))).at λo e=>T _ o D.i1z e) ((n4.at λo e=>(s5.2 b D.TOi2.symm).trans e).at λo e=>T _ o D.i2z e) Y λc o c1 ah ai aj e=>T c o c1 ((λc o hc he hd hf e=>(s5.2 c he).trans ((s4.2 c hf).trans (C c o hc hd he e))) c o c1 ah ai aj e)
theorem Aon{z TI TO a d f g:Addr}(h:kY)(D:ZipApart z TI TO a d f g)
 (hz:mFc s.heap) (i:mFM TI aJ dG) (j:mFM TO p q) (aa:Ec b1 s.heap a f k) (ab:Ec ac s.heap d g l)
 (g1:xD b1 f xs) (g2:xD ac g ys) (ae:xs[k]? =none\/ys[l]? =none)
 (af:∀h',(mLs qC)->Q none {s with heap:=h'}):wpAny bD A (pyNext (mF z)) Q E s:=by
 have m:s.TypeIs (mF z) "zip":=(rE hz);have fin:∀(hp:Heap)(e:Addr),(mLs hp.get?)->(∃o,hp.get? e=aI /\o.cls= aJQ)->
  wpAny bD A (do if<-isInstance (mF e) aJQ then pure none else throw (mF e)) Q E {s with heap:=hp}:=λhp e hk he=>by
  obtain⟨o,ag,hc⟩:=he;exact ArZ (mFa (mQ o ag hc) (Asg (af hp hk)))
 refine mLn m;show mFN 2;refine aOl;show mFN 3;refine mFO TI (pQ AtV i rfl);refine cI;unfold Builtin.SmallTypes.ownedTupleIsFree;refine nF (mHf hz rfl);simp only[if_true];refine ArZ (Ava (mFO TO (nF (Auk hz aC λv1 ah s1=>?_))));have n:=ah;have r:mIn oB v1.get?:=λc o hc e=>(s1.2 c hc).trans e;refine cI;simp only[List.zipIdx_cons,List.zipIdx_nil,List.forIn_cons,List.forIn_nil];refine aGl;show mFP a;have u:=aa.at λo e=>r _ o D.i1z e;have v:=g1.at λo e=>r _ o D.l1z e
 cases hx:xs[k]? with
 |none=>
  refine nF (AeI (s:={s with heap:=v1}) h u v hx λv2 e s2 he=>?_);obtain⟨y,B,C⟩:=he;have G:=mP s2 D.i1z.symm n;have H:e≠z:=λx=>(mLt G);exact Auk G aC λI _ s3=>fin I e (λc o c1 J L M e'=>(s3.2 c c1).trans (s2 c o L (r c o c1 e'))) (y,(s3.2 e H).trans B,C)
 |some x=>
  have hy:ys[l]? =none:=by grind
  refine nF (WP (s:={s with heap:=v1}) u v hx λv2 n2 s2=>cN);have N:aOm:=λc o hc hd e=>(s2.2 c hd).trans (mAf r);have O:=N _ _ D.TOz D.TOi1 j;refine nF (AtV O rfl (nF (Av4 O λI t3 s3=>nF (wpAny_letGo cN))));have U:mLo I.get?:=λc o hc hd he e=>(s3.2 c he).trans (N c o hc hd e);refine aGl;show mFP d;refine ArZ (AeI (s:={s with heap:=I}) h (ab.at λo e=>mLp U e) (mLq U) hy λv4 e s4 he=>?_);obtain⟨y,B,C⟩:=he;have Y:=s4 _ _ D.i2z.symm (mLr n);have H:e≠z:=λx=>(mLt Y);exact Auk Y aC λai _ s5=>fin ai e (λc o c1 J L M e'=>(s5.2 c c1).trans (s4 c o M (U c o c1 L J e'))) (y,(s5.2 e H).trans B,C)
end
end Vp
namespace Vp
open PySem PySem.Spec L2
abbrev SD(b:Bool)(a:Addr):Obj:={cls:= oH (if b then "list_iterator" else "tuple_iterator"),data:= mAu #[aJ,.int 0 0]}
theorem AeJ(e:nZ it=mB (SD b a)):Ec b h it a 0:=by
 cases b with
 |true=>exact(_,e,26)
 |false=>exact(_,e,26)
abbrev SE(h:Heap)(b1:Bool)(a:Addr):Heap:=h.push (SD b1 a)
abbrev SF(h:Heap)(b1 a:Bool)(b c:Addr):Heap:=(SE h b1 b).push (SD a c)
abbrev SG(h:Heap)(b1 a:Bool)(b c:Addr):Heap:=(SF h b1 a b c).push {cls:= gW,data:= .seq #[mBs mF,mF (SE h b1 b).objs.size]}
abbrev SH(h:Heap)(b1 a:Bool)(b c:Addr):Heap:=(SG h b1 a b c).push {cls:= gW,data:= .seq #[.none,.none]}
abbrev Ob(h:Heap)(b1 a:Bool)(b c:Addr):Heap:=(SH h b1 a b c).push {cls:= oH "zip",data:= mAu #[.none,.bool false,.bool false,mIo SF h,mIo SG h]}
theorem Aoo(b1 a:Bool)(b c:Addr)(xs ys:jO):Meets (Builtin.«zip.__new__» ([oH "zip",bU,mF c],[])) (λ_ R s=>xD b1 b xs/\xD a c ys/\
 R (.ok (.ret (mIo SH s.heap))) {s with heap:=Ob s.heap b1 a b c}):=
 .of_wp λprog w A R s h=>by
  obtain⟨hp,g,d,tk,os⟩:=s;obtain⟨f,i,h⟩:=h;have j:=sub_zip;have k:EC a (Shared.heap (hp.push (SD b1 b),g,d,tk,os)) c ys:=EC.at i λo e=>oD e
  cases b1<;>cases a
  .have l:Heap.IsTuple aGm b xs:=f;have m:Heap.IsTuple (mFI mIp) c ys:=k
   wp_walk using AtG l,AtG m
   exact aBu
  .have l:Heap.IsTuple aGm b xs:=f;have m:Heap.IsList (mFI mIp) c ys:=k
   wp_walk using AtG l,At_ m
   exact aBu
  .have l:Heap.IsList aGm b xs:=f;have m:Heap.IsTuple aOn c ys:=k
   wp_walk using At_ l,AtG m
   exact aBu
  have l:Heap.IsList aGm b xs:=f;have m:Heap.IsList aOn c ys:=k
  wp_walk using At_ l,At_ m
  exact aBu
section
variable {prog:Program} {w:World} {A:Around} {E:bN} {s:Shared}
theorem Aop(g1:xD b1 a xs)(g2:xD b d ys)
 (h:∀h',IsZip h' (mCo 4) (mCo 2) (mCo 3) .none->IsPair h' (mCo 2) eO (mF dD)->IsPair h' (mCo 3) .none .none->
  Ec b1 h' s.heap.objs.size a 0->Ec b h' dD d 0->(∀c o,oB c=aI ->qC c=aI)->Q (mF (mCo 4)) {s with heap:=h'}):
 wpAny bD A (call (oH "zip") [aJ,dG]) Q E s:=by
 refine callType_new F.called_zip aZ (F.typeCall_zip_2 _ _) (F.newCall_zip_2 _ _) (λobj=>F.args_object_init_3 obj _ _) F.entry_zip_new (Aoo b1 b a d xs ys) (rR g1 g2);have e:(rP SE b1 a).objs.size=s.heap.objs.size+1:=AsX ..;have f:mIq SF 2:=(pJ AsX e);have g:mIq SG 3:=(pJ AsX f);have i:mIq SH 4:=(pJ AsX g);have j:mDU (mDV SH).objs.size:=cQ;have k:mDU (mDV SG).objs.size:=oD cQ;have e3:mDU (mDV SF).objs.size:=nG oD cQ;have l:mDU (rP SE b1 a).objs.size:=oD (nG oD cQ);have m:mDU s.heap.objs.size:=oD (oD (nG oD cQ));show _/\_;rw[f,g,i] at j;rw[e,f] at e3;rw[g] at k;rw[e] at l;rw[i];exact((rE j),h _ j e3 k (AeJ m) (AeJ l) λc o x=>oD (oD (oD (nG oD x))))
end
def CS(K:PySem.W.Frag)(b:Bool)(H:Hp)(a:Addr)(xs:aL):Prop:=if b then eW else uP H
theorem Oc(c:aF)(h:CS X.K b H a xs):
 ∃d:aV,AB xs d/\EC b s.heap a d.toArray:=by
 cases b with
 |true=>obtain⟨d,r,p,_⟩:=c.list (show mBy Ae from h);exact(mQ d r p.isList)
 |false=>obtain⟨d,r,p,_⟩:=c.tuple (show mBy A8 from h);exact(mQ d r p)
theorem AeK(c:aF)(h:CS X.K b H a xs)(h':CS X.K b H a ys):xs=ys:=by
 cases b with
 |true=>exact c.M6 h h'
 |false=>exact c.Ua h h'
def SI(K:PySem.W.Frag)(b1 c:Bool)(a b:Addr):It:=
 (λi H=>∃(xs ys:aL)(x y:V),mFQ H/\mFR H/\xs[i]? =aW /\ys[i]? =mB y,λi H v H'=>∃T x y,v= mF T/\H T=none/\H'=mDo [x,y]/\(∀xs,mFQ H->xs[i]? =aW)/\∀ys,mFR H->ys[i]? =mB y,λi H=>∃xs ys:aL,mFQ H/\mFR H/\(mKk i))
theorem Aoq{a b z TI TO d e:Addr}(D:ZipApart z TI TO d e a b):
 F3 P w K (yE aa ab) (SI K b1 ac a b) aJR z (λi h=>mFc h/\IsPair h TI dG (mF e)/\ aMv /\Ec b1 h d a i/\Ec ac h e b i) where
 mem:=by simp
 obj:=λi h st c hc=>by obtain⟨hz,f,⟨x,y,g⟩,j,m⟩:=st;obtain⟨ae,n,v1,af⟩:=j.there;obtain⟨ag,p,v2,ah⟩:=m.there;grind
 keep:=λi h h' st k=>by obtain⟨hz,f,⟨x,y,g⟩,j,m⟩:=st;exact(k z aC _ hz,k TI aC _ f,(x,y,k TO aC _ g),mBY j.at d,mBY m.at e)
 item:=by
  intro X r hw v hc i pins s σ H E B hf st hg;subst r hw v;obtain⟨hz,f,⟨x0,ai,g⟩,j,m⟩:=st;obtain⟨xs,ys,x,y,C,G,hx,hy⟩:=hg;obtain⟨I,J,g1⟩:=Oc B C;obtain⟨L,M,g2⟩:=Oc B G;obtain⟨u,hu,aj⟩:=J.get hx;obtain⟨N,ak,al⟩:=M.get hy;have O:=Asu hz;refine Aom D hz f g j m g1 g2 (x:=u) (y:=N) aBU (mR ak) λh' am an n1 n2 ao hk=>?_;refine(0,wpAny_letOwnedTupleGo_zip (s:={s with heap:=h'}) am λap aq T=>?_);have ar:mKl x ap:=
   B.OV (t':=s.toks) (ch:=aJR) (mKm T.2 aOo) hf aD aPX
  refine(eO,_,ar,2,(_,x,y,2,B.Av.BC aD,2,λl Y=>by rw[AeK B Y C];exact hx,λl Y=>by rw[AeK B Y G];exact hy),(aq,5,(rR u N),53),λc as=>?_)
  .exact(T.2 _ D.TIz).trans (mKn f)
  .exact(T.2 _ D.TOz).trans an
  .exact n1.at λo q=>(T.2 _ D.i1z).trans q
  .exact n2.at λo q=>(T.2 _ D.i2z).trans q
  have au:zB c:=by
   obtain⟨ae,n,_⟩:=j.there;obtain⟨ag,p,_⟩:=m.there;rcases(mR as) with q|q|q|q|q<;>rw[q]
   .exact O
   .exact Asu f
   .exact Asu g
   .exact Asu n
   exact Asu p
  rw[Ah (AsP au)];exact(hf c as).1
 done:=by
  intro X r hw v hc i pins s σ H E B hf st hg;subst r hw v;obtain⟨hz,f,⟨x0,ai,g⟩,j,m⟩:=st;obtain⟨xs,ys,C,G,av⟩:=hg;obtain⟨I,J,g1⟩:=Oc B C;obtain⟨L,M,g2⟩:=Oc B G;have aw:=J.length;have ax:=M.length;have he:I.toArray[i]? =none\/L.toArray[i]? =none:=by grind
  exact Aon aDf D hz f g j m g1 g2 he λh' hk=>(2,B.Zv (t':=s.toks) (ch:=aJR) (λc o hb q=>mHz aOo q) hf)
 self:=λA i s Q E st h=>Avm st.1 h
def AeL(K:PySem.W.Frag)(b1 c:Bool)(d:TA):TI:=λσ H R=>d σ H λvs H1=>∃a b xs ys,vs=aAk /\mFQ H1/\mFR H1/\R (SI K b1 c a b) H1
theorem Aor(b1 d:Bool)(hg:Gl X "zip")(hm:sX "zip")(ha:PA X [e,f] g)
 (hs:mHA e f:=by rfl) (i:(yA [f]).any (·.1)=false:=by rfl):
 PI X (yE j k) (wN "zip" [e,f]) (AeL X.K b1 d g):=by
 intro pins s σ H R l h;refine AuA (xV l Z3 (AsO (A5 (xW H l) λus s1 (vs,H1,m,n,o)=>?_) hs i));obtain⟨a,b,xs,ys,ex,u,v,q⟩:=o;subst ex
 cases n with
 |cons r x=>
  cases x with
  |cons y x=>
   cases x
   cases r
   cases y
   obtain⟨A,B,g1⟩:=Oc m u;obtain⟨C,D,g2⟩:=Oc m v;obtain⟨_,E⟩:=g1.there;obtain⟨_,G⟩:=g2.there;refine Aop g1 g2 λh' hz I J n1 n2 hk=>Avm hz ?_;refine(235,mDq m.CF,Aoq (mKo a b (Asu E) (Asu G)),(hz,I,(19,J),n1,n2),λc L=>?_,q);have hle:mDr c:=by rcases(mR L) with z|z|z|z|z<;>rw[z]<;>first|exact aAj|exact aD
   exact m.Hx hle (m.Av.BC hle)
theorem AeM(b1 a:Bool)(b:cJ)(hg:Gl X "zip")(hm:sX "zip")(ha:PA X [e,c] d)
 (hs:mHA e c:=by rfl) (f:(yA [c]).any (·.1)=false:=by rfl):
 PI X (yE g h) (wN "zip" [e,c]) (AeL K b1 a d):=by subst b;exact Aor b1 a hg hm ha hs f
abbrev WQ(h:Heap)(l:Addr):Heap:=h.push {cls:= mFI oH,data:= aL0}
def WR(K:PySem.W.Frag)(a:Addr):It:=
 (λi H=>∃(xs:aL)(x:V),uP H/\xs[i]? =aW,λi H v H'=>∃T x,v= mF T/\H T=none/\H'=mDo [aB6,x]/\∀xs,uP H->xs[i]? =aW,λi H=>∃xs:aL,uP H/\xs.length<=i)
abbrev enB(h:Heap)(l:Addr):Heap:=(WQ h l).push {cls:= zM oH,data:= mAu #[.none,.bool false,mBs mF,rawInt 0,.none,.none]}
theorem Aos(l:Addr)(items:jO):Meets (Builtin.«enumerate.__new__» ([zM oH,eP],[])) (λ_ R s=>mAy l items/\R (.ok (.ret (mF (WQ s.heap l).objs.size))) {s with heap:=enB s.heap l}):=
 .of_wp λprog w A R s h=>by
  obtain⟨hp,g,d,tk,os⟩:=s;obtain⟨a,h⟩:=h;have b:=sub_enumerate;have e:=a;obtain⟨o,f,i⟩:=a
  wp_walk using aJS
  refine wpAny_stack_any λst=>cN;split
  .rename_i c _ _ _ _ _
   cases (c==zM Value.type)<;>(wp_walk using aJS,AtG e;exact aBu)
  wp_walk using aJS,AtG e
  exact aBu
theorem Aot(a:mAy l items)
 (h:∀h',IsEnum h' dD s.heap.objs.size 0 .none->h'.IsTupleIter s.heap.objs.size l 0-> aIf ->Q (mF dD) {s with heap:=h'}):
 wpAny bD A (call (zM oH) [eP]) Q E s:=by
 refine callType_new F.called_enumerate aZ (F.typeCall_enumerate_1 _) (F.newCall_enumerate_1 _) (λobj=>F.args_object_init_2 obj _) F.entry_enumerate_new (Aos l items) (oS a);have he:(enB s.heap l).get? (WQ s.heap l).objs.size=some _:=cQ;rw[(AsX ..)] at he⊢;exact((rE he),h _ he (_,oD cQ,26) λb o y=>nG oD y)
theorem Aou(a e it:Addr)(c:e≠a)(d:a≠it):
 F3 P w K (yE aa ab) (WR K a) [e,it] e (λi h=>aIv /\ aEU /\e≠it) where
 mem:=by simp
 obj:=λi h st b hb=>by obtain⟨⟨BM,he⟩,⟨o,f,hc,hd⟩,_⟩:=st;grind
 keep:=λi h h' st k=>let((BM,he),g,r):=st;(aIw,mBY g.at it,r)
 item:=by
  intro X j hw l hc i pins s σ H E m hf st hg;subst j hw l;obtain⟨⟨BM,he⟩,hit,n⟩:=st;obtain⟨xs,x,hq,hx⟩:=hg;obtain⟨y,B,p,hz⟩:=m.tuple hq;obtain⟨u,hu,C⟩:=B.get hx;have D:=Asu he;have ac:zB it:=(by obtain⟨_,q,_⟩:=hit;exact Asu q);refine wpAny_pyNext_enum_itemD (Aol (prog:=X.prog) (w:=X.w) (A:=X.A.in1) (b:=false) (m.ok.hd hc) it a d y.toArray) he (hit,p) (by have:=(nL hu).1;simpa using this) n (by simpa using(n,c)) λv h' tk G f I J hsz hk=>?_;obtain rfl:v=u:=(by rw[List.getElem?_toArray,hu] at G;exact(Ase G).symm);refine(0,AuO (s:={s with heap:=h',toks:=tk+1}) f λL ae M=>?_);have N:=(M.2 _ (Auj D)).trans J;have new:C9 X.prog X.w aIx L s.heap.objs.size (.Al [aB6,x]):=(20,[.int i tk,v],sF bY (wO C),(_,N,31));have O:mKi L tk:=
   mKX (λb U hb q=>(M.2 b iV).trans (hk b U iV iV q))
  refine(eO,_,O,2,(mKj m.Av.BC m.Ua),((oS v),Ec.at (b:=false) I.1 λo q=>(M.2 it (Asr n)).trans q,n),fK)
  .grind
  have Y:zB b:=by grind
  rw[Ah (AsP Y)];exact(nN hf).1
 done:=by intro X j hw l hc i pins s σ H E m hf st hg;subst j hw l;obtain⟨⟨BM,he⟩,hit,n⟩:=st;obtain⟨xs,hq,hx⟩:=hg;obtain⟨y,B,p,hz⟩:=m.tuple hq;obtain⟨f0,f1,f2,af,f4,ag⟩:=eC;have ah:=B.length;have J:s.TypeIs (mF e) "enumerate":=(rE he);refine ArZ (AuN (mFJ J F.slot_enumerate_next (Atf F.slot_enumerate_next J F.entry_enumerate_next ?_ (F.args_enumerate_next_1 _))));show rC (mIr e 2) _;refine ArZ (Ats he rfl (x:= iQ) rfl (nF (WO (m.ok.hd hc) hit p dR λh' x hs hx'=>?_)));obtain⟨o,f,hc'⟩:=hx';exact ArZ (mFa (mQ o f hc') (Asg (2,mKY (mHy hs))))
 self:=λA i s Q E st h=>let((_,he),_):=st;Aus he h
def Aov(K:PySem.W.Frag)(b:TA):TI:=λσ H R=>b σ H λvs H1=>∃a xs,vs=cR /\uP H1/\mAz WR
theorem Aow(c:cJ)(hg:aIy)(hm:zM sX)(ha:PA X [e] d)(hs:xU e:=by rfl):
 PI X (yE f g) aIz (Aov K d):=by
 subst c;intro pins s σ H R i h;refine AuA (xV i Avf (mC2 (A5 (xW H i) λus s1 (vs,H1,j,k,l)=>?_)));obtain⟨a,xs,ex,hq,q⟩:=l;subst ex
 cases k with
 |cons r m=>
  cases m
  cases r
  obtain⟨n,o,u,hz⟩:=aBZ;obtain⟨oa,v,_⟩:=id u;have x:=Asu v;refine Aot u λh' he hit hk=>Aus he ?_;refine(103,mDq j.CF,Aou a (tF 1) s1.heap.objs.size (Auj (Au7 x)) (AsP x),aMu,fK,q);have hle:mDr b:=by rcases cH with z|z<;>rw[z]<;>first|exact aAj|exact aD
  exact j.Hx hle (j.Av.BC hle)
end Vp
namespace Vp
open PySem PySem.Spec L2
section
variable {prog:Program} {w:World} {A:Around} {E:bN} {s:Shared}
def IQ(h:Heap)(d:Addr)(es:aB5)(ep:Nat):Prop:=∃o,nZ d=aI /\o.ExactDict/\o.data= lX
theorem IQ.at(x:IQ h d es ep)(e:mIm d):IQ h' d es ep:=let(o,g,r):=x;(o,e o g,r)
theorem AeO(a:s.heap.IsValuesView v d)(hm:aGn)
 (b:mKh "dict_valueiterator"):wpAny bD A (pyIter (mF v)) Q E s:=by
 obtain⟨c,e,f,g⟩:=id a;obtain⟨o,h,hc,i⟩:=hm;refine wpAny_pyIter_slot a.typeIs F.slot_dict_values_iter (Atf F.slot_dict_values_iter a.typeIs F.entry_dict_values_iter ?_ (F.args_dict_values_iter_1 _));refine sU cI;unfold Builtin.Dict_items.dictOf;refine nF (Ats e g (x:= dG) rfl (Asg cI));unfold Builtin.Dict_items.newIterator;refine nF (Aur h i (pQ AuW h i));simp only[show aJT=false by decide,Bool.false_eq_true,if_false];refine As_ (Asg (0,"dict_valueiterator",_,(rE cQ),AtF.lookup,5));simpa[rawInt] using b
theorem AeP(hit:mDW s.heap.IsValIter i)(hm:aGn)(hx:es[i]? =mB a)
 (b:∀h',mDW h'.IsValIter (i+1)->zE it->Q (mB a.val) {s with heap:=h'}):wpAny bD A aDe Q E s:=by
 obtain⟨o,c,hc,hd⟩:=id hit;obtain⟨od,e,_,f⟩:=hm;refine aOp;refine sU (nF cI)
 first|refine xE Aue|refine xE Auy
 refine mHw c;simp only[show aJT=false by decide,Bool.false_eq_true,if_false];show mDn d s;rw[aGk];refine sU (pQ Aur e f);rw[jT];refine sU (pQ AuW e f);rw[jT];refine cN;obtain⟨g,h⟩:=AvX.mp hx;simp only[show¬((i:Int)<0) from by omega,if_false,Int.toNat_natCast,Array.getElem?_eq_getElem g];refine cI
 first|refine xE Aue|refine xE Auy
 refine wK Avr hit.typeIs;show rC (setField iQ 1 (rawInt ((i:Int)+1)) >>= _) s;refine mE9 c;have st:mDW (sO mLu).IsValIter (i+1):=(_,mLm c,aOi,by rw[Au_ hd];simp[rawInt]);refine ArZ (Au0 (nF (mLv (mAE mLv))));rw[h];exact Asg (Asg (0,Asg (b _ st (AtD ..))))
theorem AeQ(c:kY)(hit:mDW s.heap.IsValIter i)(hm:aGn)(hge:es.size<=i)
 (e:aMo):wpAny bD A aDe Q E s:=by
 obtain⟨o,f,hc,hd⟩:=id hit;obtain⟨od,g,_,h⟩:=hm;refine aOp;refine sU (nF cI)
 first|refine xE Aue|refine xE Auy
 refine mHw f;simp only[show aJT=false by decide,Bool.false_eq_true,if_false];show mDn d s;rw[aGk];refine sU (pQ Aur g h);rw[jT];refine sU (pQ AuW g h);rw[jT];refine cN;simp only[show¬((i:Int)<0) from by omega,if_false,Int.toNat_natCast,mHv hge];refine cI
 first|refine xE Aue|refine xE Auy
 show aMr;refine mE9 f;show aOh;refine cI;simp only[newExc,newTuple];refine mAE mBX;refine aMs;refine mBX ?_;simp only[raiseNew];refine aIs;rw[show A.in1.handled=none from c];refine sU (wpAny_throw ?_);refine wK mFa (rE cQ);exact Asg (e _ aIt)
end
section
variable {X:Cx} {pins:bC} {σ:St} {H:Hp} {s:Shared} {d:Addr} {o:Obj}
theorem WS(a:aF)(h:H d=qW o (.dT c)):
 (d==sysModules)=false/\oB d=aI /\o.ExactDict/\∃(es:aB5)(ep:Nat),o.data= lX /\es.size=c.length/\∀(i:Nat)(k:Ky)(v:V),c[i]? =mB (k,v,)->∃f:DictEntry,es[i]? =mB f/\AJ v f.val:=by
 obtain⟨hd,z,hs,xs,pr,o',es,ep,g,hx,j,he,_⟩:=a.Av d _ h;rw[hd] at g
 cases g
 refine(hs,hd,hx,71,j,5,λi k v e=>?_)
 .have l:=mIs he;have m:=xR pr;omega
 obtain⟨b,hb,n,p,e3⟩:=Z1 pr e;have q:=entry_at he i;rw[hb] at q;exact(_,q,e3)
end
def SJ(d:Addr)(o:Obj)(a:bI):It:=
 (λi H=>H d=qW o (.dT a)/\i<a.length,λi H x H'=>H'=H/\∃k,a[i]? =mB (k,x,),λi H=>H d=qW o (.dT a)/\a.length<=i)
theorem Aox(it:Addr)(a:aFi):F3 P w K f (SJ d o g) [it] it (λi h=>mDW h.IsValIter i) where
 mem:=by simp
 obj:=λi h st b hb=>by have e:b=it:=cH;subst e;obtain⟨j,e,c,dd⟩:=st;grind
 keep:=λi h h' st k=>let(j,e,r):=st;(j,k it aC j e,r)
 item:=by intro X l hw m hc i pins s σ H E n hf st hg;subst l hw m;obtain⟨hd,q⟩:=hg;obtain⟨f0,f1,f2,u,f4,x⟩:=eC;obtain⟨hs,y,hx,z,B,C,hsz,ent⟩:=WS n hd;obtain⟨rfl,rfl⟩:=Rt a C;obtain⟨⟨k,v⟩,D⟩:∃p,g[i]? =some p:=(g[i],mK q);obtain⟨G,I,J⟩:=ent i k v D;refine AeP st (o,y,hx,C) I λh' L M=>?_;obtain⟨j,e,c,dd⟩:=id L;exact(G.val,2,mC0 dd (v,H,mLw (λb N hb e=>(nN M.2).trans e),J,(mQ rfl k D),L,aAc))
 done:=by intro X l hw m hc i pins s σ H E n hf st hg;subst l hw m;obtain⟨hd,q⟩:=hg;obtain⟨f0,f1,f2,u,f4,x⟩:=eC;obtain⟨hs,y,hx,z,B,C,hsz,ent⟩:=WS n hd;obtain⟨rfl,rfl⟩:=Rt a C;exact AeQ (n.ok.hd hc) st (o,y,hx,C) aA λh' O=>(2,mLw (λb N hb e=>O b N hb e))
 self:=λA i s Q E st h=>wpAny_pyIter_valiter st h
def Aoy(a:TE):TI:=λσ H R=>a σ H λx H1=>∃d o b,x= dG /\H1 d=qW o (.dT b)/\R (SJ d o b) H1
theorem AeR(lo:pH (mAC d))(hm:aGn)
 (h:mLx "dict_values" #[dG]):wpAny bD A (uR "dict.values" [dG]) Q E s:=by
 obtain⟨o,a,hc,hd⟩:=hm;have b:s.TypeIs dG "dict":=(mQ o a hc.1);refine Atf AvS b F.entry_dict_values ?_ (F.args_dict_values_1 _);refine cI;unfold Builtin.Dict.noArgs;refine wK Avq b;show rC (pure d) s;refine cN;show aMn;unfold Builtin.Dict.showsAll;rw[yY lo];exact sU (yZ As_ aBu)
theorem AeS(he:nR e a)(c:vK e "values":=by rfl)(f:wQ g.line:=by rfl):PI X i (.Call (mA0 e "values") [] [] g) (Aoy a):=by intro pins s σ H R j h;refine Au9 (T:="dict") (id:="dict.values") c rfl f Auo AvS F.type_dict_values (A5 aBR λu s1 (x,H1,k,l,d,o,m,ex,hd,q)=>?_);subst ex;obtain rfl:uQ d:=l;obtain⟨hs,n,hx,es,ep,p,hsz,ent⟩:=WS k hd;refine((mQ o n hx.1),λb q=>by cases q;exact(mQ o n hx.2.1),5);refine Ato rfl (AuQ (AeR hs (o,n,hx,p) ?_));exact AeO (d:=d) (es:=es) (ep:=ep) iS (o,oD n,hx,p) (mAK (k.CF (t':=s1.toks) λb r q=>oD q) (Aox _ p) iS)
end Vp
namespace Vp
open PySem PySem.Spec L2
section
variable {prog:Program} {w:World} {K:Type} [mDk K] {knd:HeapKind prog w K} {A:Around} {E:bN} {s:Shared}
theorem Aoz(hu:knd.room A)(b:rP knd.is k a)(hm:aOq)(hsz:mC3 qI)
 (c:∀p,aAi=mB p->Q p.2 {s with toks:=s.toks+aBv})
 (f:aAi=none->∀h',aOr ->zE d->Q x {s with heap:=h',toks:=s.toks+aBv}):wpAny bD A aOs Q E s:=by
 obtain⟨o,es,ep,g,hc,hd,he,h,i⟩:=hm;unfold dictSetDefault
 try with_reducible refine Au0 ?_
 refine ArZ (knd.pyHash hu b (ArZ (wpAny_dictFind_heap (s:={s with toks:=s.toks+aBv}) hu b g hd he h i (λl=>?_) λj p hj=>?_)))
 .have m:=atKey_none_of_get l;have n:=mIs he;refine ArZ (Ava (ArZ (wpAny_updateDictKeys (hz:=by omega) (s:={s with toks:=s.toks+aBv}) g hd (Asg (f m _ (19,ep+1,AuC _ g (Obj.isFreed_of_dict aOt),hc.mapDictKeys _,aOt,53,5) (AtD ..))))))
  .rw[aJU];simp[he,entryOfKey]
  .rw[aJU];intro y hy;rcases pD hy with hy|hy
   .exact knd.keeps (h y hy) g hd (AtD ..)
   obtain rfl:y=(k,a,x,):=(mR hy);exact knd.keeps b g hd (AtD ..)
  rw[aJU,As7,AsT];refine(i,9,λy hy z hz e=>?_);obtain rfl:z=k:=(mR hz);exact not_mem_keys_of_get l (e▸hy)
 have q:=atKey_of_get i hj;refine nF (Aur (s:={s with toks:=s.toks+aBv}) g hd ?_);rw[entry_at he j,hj];exact yZ Ava (c p q)
theorem Ao0(d a:Addr)(hd:pH (mAC d))(x:Value):MeetsIn prog w (Builtin.«dict.setdefault» ([dG,aJ,x],[])) (λA R s=>knd.room A.in1/\∃k xs,rP knd.is k a/\ aOq /\xs.length<=sizeLine/\
 (∀p,aAi=mB p->R (.ok (.ret p.2)) {s with toks:=s.toks+aBv})/\
 (aAi=none->∀h',aOr ->zE d->R (.ok (.ret x)) {s with heap:=h',toks:=s.toks+aBv})):=
 .of_wp λA R s (hu,k,xs,b,hm,hz,c,e)=>by refine cI;unfold Builtin.Dict.keyAndDefault;refine wK Avq hm.typeIs;show rC (pure (d,rQ a,aW,)) s;refine cN;show rC (if(mAC d)=true then _ else(aOs >>= _)) s;rw[yY hd];exact ArZ (Aoz hu b hm hz (λp hp=>Asg (p.2,2,c p hp)) λf h' g h=>Asg (x,2,e f h' g h))
end
section
variable {X:Cx} {pins:bC} {σ:St} {H:Hp} {s:Shared} {a:Addr} {y d:V} {u r:Value} {A:Around} {E:bN}
def DSd(H:Hp)(a:Addr)(y z:V)(Q:VK):Prop:=∃o,yD H/\((∃v,o=bK /\Q v H)\/(o=none/\∃H',HF H a y z H'/\oV z))
theorem Ao2(hu:kX)(f:aF)(g:yD H)(h:nT y)(i:AJ d r)(j:∀v,o=bK ->∀m n,sZ H n->AJ v m->Q m n)
 (x:o=none->∃H',HF H a y d H'/\∀n,sZ H' n->Q r n):wpAny bO A (uR "dict.setdefault" [aJ,u,r]) Q E s:=by
 rcases g with⟨B,k,e,C,l⟩|⟨B,k,b,e,C,D,l⟩
 .subst C;obtain⟨z,hd,vs,rel,dd⟩:=Jp f.Av e;have G:=jW;refine AuY AuF dd.typeIs AvA (Av5 _ _ _) (kt_meets_setdefault aDi a (MK h) hd r)
   (vs,dd,by rw[<-rel.length];exact z,λv aa=>?_,λI h' J hs=>?_)
  .cases L:Bc B k with
   |none=>rw[L,aa] at G;exact G.elim
   |some v0=>rw[L,aa] at G;exact mLy v
  have L:yB B k:=by
   cases L:Bc B k with
   |none=>rfl
   |some v0=>rw[L,I] at G;exact G.elim
  obtain⟨H',hp,q⟩:=x (pJ l L);rcases hp with⟨M,k',e',N,O,T⟩|⟨M,k',ab,e',N,ac,O,T⟩
  .obtain rfl:=AiX N;have U:M=B:=by
    rcases e with e|⟨o',e⟩
    .rw[e'] at e;cases e;rfl
    rw[e'] at e;cases e
   subst U T;have Y:qI (Dy M k d).length:=(mE7 M k d);exact q _ (OS f (mBG e') hs (let(q,_,_,hq,_):=J;(q,hq)) (Zo Y hd (rel.CA k i) J))
  cases k<;>cases N
 subst C
 cases (mEN b h)
 obtain⟨z,hd,xs,rel,dd⟩:=Kk f.Av e;have G:=jW;refine AuY AuF dd.typeIs AvA (Av5 _ _ _) (Ao0 (knd:=mDl HZ) a b hd r)
  (ML hu,k,xs,Il f.Av D,dd,by rw[<-xR rel];exact z,gY,λI h' J hs=>?_)
 .rw[hp] at G
  cases L:Bc B k with
  |none=>rw[L] at G;exact G.elim
  |some v0=>rw[L] at G;exact mLy p.2
 rw[I] at G;have L:yB B k:=by
  cases L:Bc B k with
  |none=>rfl
  |some v0=>rw[L] at G;exact G.elim
 obtain⟨H',hp,q⟩:=x (pJ l L);rcases hp with⟨M,k',e',N,O,T⟩|⟨M,k',ab,e',N,ac,O,T⟩
 .cases k'<;>cases N
 cases N
 have U:M=B:=by
  rcases e with e|⟨o',e⟩
  .rw[e'] at e;cases e;rfl
  rw[e'] at e;cases e
 subst U T;have ae:k'=k:=by exact(mDl HZ).inj (Il f.Av ac) (Il f.Av D)
 subst ae;have Y:qI (Dy M k' d).length:=(mE7 M k' d);obtain⟨af,es,ep,hq,g2,g3,ag,_,ah⟩:=J;refine q _ (OS f (mBG e') hs (af,hq) (Y,hd,_,(rel.CA k' D i).keeps λc ys ai=>?_,af,71,hq,g2,g3,ag,ah));rw[Ah (mAJ ai e')];exact ai
end
def Ao3(b ty c:TE):TE:=λσ H Q=>b σ H λx H1=>∃a,x= aJ /\Rm H1 a/\ty σ H1 λy e=>c σ e λz f=>DSd f a y z Q
theorem WT(hu:kZ)(b:nR o c)(he:nR e ty)(hf:nR f i)(m:M2 X o "setdefault" apos e f j):PE X (.Call (mA0 o "setdefault") [e,f] [] j) (Ao3 c ty i):=by
 intro pins s σ H Q k h;refine Au9 m.base m.AA m.line Auo AuF PySem.F.type_dict_setdefault (A5 (oT b k) λu s1 (x,H1,l,n,a,ex,d,p)=>?_);subst ex;obtain rfl:uQ a:=n;obtain⟨t1,B,_⟩:=UL l d;refine(rR t1 B);rw[m.Rl];refine Ato rfl (Auv (At7 (A5 (sI he l p) λiv s2 (y,C,D,G,I)=>
  At7 (A5 (hf pins s2 σ C _ D I) λaa s3 (z,J,L,M,ab,g,N)=>Aua ?_))))
 refine Ao2 hu L g G M (λv O ac s4 T ae=>?_) λU=>?_
 .rcases N with⟨v',Y,q⟩|⟨U,_⟩
  .rw[O] at Y;cases Y;exact(v,J,T,ae,q)
  rw[O] at U;cases U
 rcases N with⟨v',Y,q⟩|⟨_,H',hp,q⟩
 .rw[U] at Y;cases Y
 exact(H',hp,λs4 T=>(z,H',T,M,q))
end Vp
namespace Vp
open PySem PySem.Spec L2
theorem Ao4:DW X aDu (λxs H Q=>∃a b,xs=cR /\uN (.dK b)/\Q (mAT mE) H):=by intro pins s σ H vs us Q c r h;obtain⟨a,b,rfl,e,q⟩:=h;rw[aA5];exact Ajc c e λt d f=>(mAT mE,H,f,aA4,q)
theorem Ao5:EM X "int.bit_length" (λx xs H Q=>∃n:Int,x= mE n/\xs=[]/\Q (sR mE Builtin.Int.intBits n) H):=by
 intro pins s σ H x xs v us Q a b c h;obtain⟨n,rfl,rfl,q⟩:=h;obtain⟨t,rfl⟩:=b
 cases c
 exact call_gives F.slot_int_bit_length (mE2 s n) F.entry_int_bit_length (F.args_int_bit_length_1 _) (AutoIntG2.int_bit_length_int_0 n t) (mIf a.BW)
def Ao6(K:PySem.W.Frag):aAf:=λvs H Q=>∃(a:Addr)(ns:bH),vs=[nE a]/\ hW /\
 ∀(b:bH)(p:Addr),b.Perm ns->b.Pairwise (·<=·)->H p=none->mAD H (b.map V.int)
theorem Ao7(b:cJ):DW X (tD "sorted") (Ao6 K):=by subst b;intro pins s σ H vs us Q c r h;obtain⟨a,ns,rfl,hs,q⟩:=h;obtain⟨d,e,f,hz⟩:=c.list hs;rw[aA5];have g:=e.ints;rw[ArX] at hz;refine PyProof.Rows.sorted_intsAny f.isList g (oL g.length hz) λout i j k l=>?_;obtain⟨ep,m⟩:=rP Awe d out;exact(.ref _,oA dD (tH i.map V.int),c.DV (t':=s.toks) (λ_ _=>AvY) hU ((mCp k.length_eq hz),out.toList,ep,U7 j,m),2,q i _ k l (c.Av.BC hU))
def Od(K:PySem.W.Frag)(C:Addr):Prop:=∃(nm q:Str)(N:Addr)(bs:aV)(a:Bool)(sn:cB)(sub:aV)(b:Bool)(col:oK Bool)(dd:hP)(c d e f g:kR)(newId:String),
 sH C=aMQ /\PySem.W.nsOkIn K N=true/\ aI2=jS /\ aI3=jS
theorem AeT(a:aF)(b:Od X.K C)(e:H x=hC):s.heap.CmpInst x C [oH "object"]:=by obtain⟨nm,q,N,bs,c,sn,sub,d,col,dd,f,g,h,i,j,newId,k,l,he,m⟩:=b;obtain⟨n,O,_⟩:=QQ a.Av e;obtain⟨od,J,_⟩:=O.Ll;exact(_,nm,q,N,bs,c,sn,sub,d,col,dd,f,g,h,i,j,newId,_,J.at_,J.cls,a.E3 C _ k,.of_isNs (PySem.W.isNs_of_in a.E3 l),Awr a.E3 l he,Awr a.E3 l m)
def Ao8(K:PySem.W.Frag):hD:=λx xs H Q=>∃(a p:Addr)(C:Addr)(b:aQ),x= aJ /\xs=[aS]/\uS (nH b.map)/\Od K C/\(∃dx fs,H p=hC)/\(∀q∈b,∃dx fs,H q=hC)/\Q (sR mE b.count p) H
theorem Ao9(b:cJ)(hu:kZ):EM X "list.count" (Ao8 K):=by
 subst b;intro pins s σ H x xs v us Q c f i h;obtain⟨a,p,C,j,rfl,rfl,hq,k,⟨dx,fs,hp⟩,l,q⟩:=h
 cases f
 obtain⟨u,rfl,m⟩:=AB.FN i
 cases m
 obtain⟨A,B,D,G⟩:=c.list hq;have I:A=j.map Value.ref:=by
  clear hq l q D G
  induction j generalizing A with
  |nil=>cases B;rfl
  |cons q j J=>
   cases B with
   |cons r L=>cases r;rw[Asn,<-J _ L]
 obtain⟨o,n,M,N,e3,O⟩:=id D;obtain⟨cls,dd,data,sl⟩:=o;simp only at N e3 O;subst N e3 O;refine Auc PySem.F.slot_list_count (rE M) PySem.F.entry_list_count (PySem.F.args_list_count_2 _ _) (SeqAt.list_countAt a A.toArray n none sl aS (λy=>decide (y= aS))) (rR M hJ)
 .rw[I] at hy;obtain⟨z,hz,rfl⟩:∃z,z∈j/\y= .ref z:=by
   grind
  by_cases e:z=p
  .subst e;simp;exact aIc
  have T:¬(rQ z=rQ p):=λw=>e (by injection w);rw[mT T];obtain⟨aa,ab,U⟩:=l z hz;refine SeqAt.EqAt.of_refs e λprog w E ac Y=>?_;obtain⟨ae,g,d,t,os⟩:=s;exact richCompare_eq_other PySem.F.cmp_object PySem.F.cmp_object (AeT c k U) (AeT c k hp) e aM9 Y
 have hc:A.toArray.toList.countP (λy=>decide (y=rQ p))=j.count p:=by rw[I,AvH,List.countP_map,List.count];congr 1;grind
 rw[hc];exact(mIf c.BW)
def AoA(K:PySem.W.Frag)(b:TE):TE:=λσ H Q=>b σ H λx H1=>∃(a:Addr)(ns:bH),x=nE a/\Ae K H1 a hV /\
 ∀(c:bH)(p:Addr),c.Perm ns->c.Pairwise (·>=·)->H1 p=none->mAD H1 (c.map V.int)
theorem AoB{j}(c:cJ)(hg:Gl X "sorted")(hm:sX "sorted")(ha:nR e d)(f:mCU ("sorted":Str):=by decide)(g:vI ("sorted":Str):=by decide)
 (he:yA [e]=[(false,pE e,)]:=by rfl) (i:(yA [e]).any (·.1)=false:=by rfl):PE X (.Call (.Name "sorted" p) [e] [(mB "reverse",.Constant (.bool true) j k,kp)] pos) (AoA K d):=by
 subst c;intro pins s σ H Q l h;refine AtW (Gp l hg hm AcQ ?_ f g);refine PyProof.Rows.callWith_kw ?_ (qO he) i;rw[he];refine At7 (A5 (oT ha l) λu s1 (x,H1,m,n,a,ns,ex,hs,q)=>Aua (PyProof.Rows.kws_cons (PyProof.Rows.Constant_bool (PyProof.Rows.kws_nil ?_))));subst ex;obtain rfl:uQ a:=n;obtain⟨o,r,v,hz⟩:=m.list hs;have y:=r.ints;rw[ArX] at hz;refine PyProof.Rows.sorted_ints_revAny (b:=true) v.isList y (oL y.length hz) λout z A B C=>?_;obtain⟨ep,D⟩:=Awe s1.heap o out;exact(.ref _,Aa H1 (tF 1) (tH z.map V.int),m.DV (t':=s1.toks) (λ_ _=>AvY) hU ((mCp B.length_eq hz),out.toList,ep,U7 A,D),2,q z _ B C (m.Av.BC hU))
theorem AoC:PySem.W.KdlSrc prog w "dict_values" r d es.size (λi v=>∃a,es[i]? =mB a/\v=a.val) (λh=>h.IsValuesView r d/\IQ h d es ep) where
 type:=λ_ hm=>hm.1.typeIs
 there:=λ_ hm=>(let(_,c,_):=hm.1;Asu c,let(_,c,_):=hm.2;Asu c)
 keep:=λ_ _ hm hk=>(let(o,c,x):=hm.1;(o,hk r bA o c,x),hm.2.at λo e=>hk d eB o e)
 notList:=by decide
 notTuple:=by decide
 hint:=λ_ _ _ _ hm hq=>PySem.W.kdl_hint_values hm.1.typeIs hq
 iter:=λA s f hm=>by
  have g:=let(_,c,_):=hm.2;AsP (Asu c);refine(_,λi h=>h.IsValIter s.heap.objs.size d i es.size ep/\IQ h d es ep,(λ_ _ hq=>AeO hm.1 hm.2 hq),(λb hb=>by simp at hb;simp[hb],λ_ _ _ st hk=>(let(o,c,r):=st.1;(o,hk _ aC o c,r),mHu hk d),λi j Q E k st l=>?_,λj Q E st l=>?_,λ_ _ _ _ st l=>wpAny_pyIter_valiter st.1 l),(iS,hm.2.at λo e=>oD e))
  .have hx:pO es[i]? es[i]:=(by simp[k]);exact AeP st.1 st.2 hx λh' m n=>l _ h' j.toks (rE hx) (m,st.2.at λo e=>(n.2 d g).trans e) λb o hb e=>(n.2 b iV).trans e
  exact AeQ f st.1 st.2 aD λh' p=>l h' j.toks λb o hb e=>p b o iV e
theorem AeU:∀{xs:aL}{us:aV},xs.length=us.length->(∀(i:Nat)(x:V),xs[i]? =aW ->∃u,us[i]? =aM /\nT x)-> fF
 |[],[],_,_=> .nil
 |[],_::_,a,_=>by simp at a
 |_::_,[],a,_=>by simp at a
 |x::xs,u::us,a,h=>by
  obtain⟨u',e,r⟩:=h 0 x rfl;have:u=u':=hL;subst this;exact sF r (AeU (mR a) λi y e=>by simpa using h (i+1) y hL)
def AoD(a:TE):TE:=λσ H Q=>a σ H λx H1=>∃d b,x= dG /\Rd H1 d (.dT b)/\∀p,H1 p=none->mAD H1 (b.map (·.2))
theorem AoE(ok:fZ)(e:uN (.dT c)):c.length<=sizeLine/\ aAQ=false/\∃es ep,IQ h a es ep/\es.size=c.length/\
 ∀(i:Nat)(k:Ky)(v:V),c[i]? =mB (k,v,)->∃d:DictEntry,es[i]? =mB d/\AJ v d.val:=by
 obtain⟨z,y,xs,r,o,es,ep,f,g,j,h4,l⟩:=(show zA (.dT c) from UK ok e);refine(z,y,71,(o,f,g,j),5,λi k v e=>?_)
 .have m:=mIs h4;have n:=xR r;omega
 obtain⟨b,hb,p,s,e3⟩:=Z1 r e;have q:=entry_at h4 i;rw[hb] at q;exact(_,q,e3)
theorem AoF(hc:fL)(hg:Gl X "list")(hm:sX "list")(a:nR o f)(g:mCU ("list":Str):=by decide)(j:vI ("list":Str):=by decide)
 (k:vK o "values":=by rfl) (l:wQ m.line:=by rfl)
 (he:mAA [aOu]=[(false,pE aOu,)]:=by rfl) (n:(yA []).any (·.1)=false:=by rfl):
 PE X (wN "list" [.Call (mA0 o "values") [] [] m]) (AoD f):=by
 intro pins s σ H Q v h;refine AtW (Gp v hg hm Ak4 ?_ g j);refine AsO ?_ he n;rw[he];refine At7 ?_;refine Au9 (T:="dict") (id:="dict.values") k rfl l Auo AvS F.type_dict_values (A5 (oT a v) λu s1 (x,H1,y,z,d,A,ex,hd,q)=>?_);subst ex;obtain rfl:uQ d:=z;obtain⟨hz,hs,es,ep,Bm,hsz,ent⟩:=AoE y.Av hd;obtain⟨od,B,C,D⟩:=id Bm;refine((mQ od B C.1),λb q=>by cases q;exact(mQ od B C.2.1),5);refine Ato rfl (AuQ (AeR hs Bm (Aua ?_)));refine PySem.W.kdl_call (AoC (es:=es) (ep:=ep) (d:=d) (r:=s1.heap.objs.size)) (y.ok.hd hc) (iS,Bm.at λo e=>oD e) (oL hsz hz) λh' tk acc c hk E G=>?_;rw[(AsX ..)] at E⊢;have I:AB (A.map (·.2)) acc.toList:=by
  refine AeU (by have J:=G.1;have L:acc.toList.length=acc.size:=Aug;rw[ArX];omega) λi x e=>?_;rw[ArY] at e
  cases M:A[i]? with
  |none=>rw[M] at e;cases e
  |some N=>
   rw[M] at e;obtain rfl:N.2=x:=hL;obtain⟨O,U,aa⟩:=ent i N.1 N.2 M;have Y:i<acc.size:=(zD G.1 (AvX.mp U).1);obtain⟨ab,ac,ae⟩:=G.2 i acc[i] (Array.getElem?_eq_getElem Y);grind
 exact(.ref _,Aa H1 (tF 1) (tH A.map (·.2)),y.DV (λb o e=>hk b o (oD e)) hU (181,acc.toList,c,I,by simpa using E),2,q _ (y.Av.BC hU))
end Vp
namespace Vp
open PySem PySem.Spec L2 Vf
section
variable {X:Cx} {K:PySem.W.Frag}
theorem AoG(b:Nat):mLz (b:Int)=((HL b:Nat):Int):=by
 by_cases h:b=0
 .subst h;rfl
 have e:-(b:Int)=Builtin.bitNot (((b - 1:Nat):Int)):=aJz;rw[e,Aee];rfl
theorem AoH:Bt X aEY (λx y H Q=>∃b:Nat,x= uY mE/\y= mE (-(b:Int))/\Q (sR mE HL b) H):=by intro pins s σ H x y v u Q a c d q;obtain⟨b,rfl,rfl,q⟩:=q;refine Uk pins s σ H _ _ v u Q a c d aFW;show Q (mO (mLz (b:Int))) H;rw[AoG b];exact q
theorem AoI:Bt X (inplaceOp .BitXor) (mCj (·^^^·)):=P8 AhV λa b=>by rw[Aeg]
theorem AoJ:Bt X (inplaceOp .LShift) (rN (λa j=>a<2 ^ 64/\j<=1000) (·<<<·)):=Ww AhT (λa j h=>(4,4,by rw[Int.natAbs_natCast];exact h.1)) λa j _=>by rw[Aef]
theorem AeV{T id:String}(a:cJ)(b:aE7)(slot:mBP T)(c:aB0)(hm:aB1)(d:jR)
 (e:vK o name:=by rfl) (f:wQ g.line:=by rfl):PE X (mBQ [] g) (YV K T r to):=by subst a;exact AiC b slot c hm d e f
def AoK(K:PySem.W.Frag):aDd:=λx y H Q=>∃(p:Addr)(xs:aL)(i:Nat)(v:V),x= aS /\y= sO mE/\xX H p/\xs[i]? =bK /\Q v H
theorem SK(a:cJ):Yr X (AoK K):=by
 subst a;intro pins s σ H o i b iv Q c d e h;obtain⟨p,xs,i,z,rfl,rfl,hq,he,q⟩:=h
 cases d
 obtain⟨t,rfl⟩:=e;obtain⟨f,r,pl,hz⟩:=c.list hq;obtain⟨w,g,j⟩:=r.get he;have k:=(nL he).1;have l:=Ke;exact wpAny_getItem_list pl.isList aA aA (mEW AtN g) (z,H,c,j,q)
def SM(K:PySem.W.Frag)(b:TE):TI:=λσ H R=>b σ H λx H1=>(∃a,x= aJ /\ aHT /\mAz Cf)\/ aOv \/∃d o c,x= dG /\H1 d=qW o (.dK c)/\R (Lv d o c) H1
theorem AeW(c:cJ)(he:nR e f):PI X g e (SM K f):=by
 subst c;intro pins s σ H R i h;refine A5 (oT he i) λu s1 (x,H1,j,k,l)=>?_;have m:∀b,b∈ aJV ->Gr X pins H1 b:=λb hb=>by obtain rfl:mG5 b:=cH;exact j.Hx aD aA2
 rcases l with⟨a,rfl,⟨xs,hq⟩,q⟩|⟨a,rfl,⟨xs,hq⟩,q⟩|⟨d,o,n,rfl,hd,q⟩
 .cases k
  obtain⟨r,v,p,hz⟩:=uO hq;exact At_ p.isList (mLA Ys a)
 .cases k
  obtain⟨r,v,p,hz⟩:=aBZ;exact AtG (show s1.heap.IsTuple a r.toArray from p) (mLA Yt a)
 cases k
 obtain⟨hs,y,hx,es,ep,vs,z,hsz,A,hm⟩:=j.Rs hd;refine Z0 hs y hx z (mAK j (Z2 _ z) (_,cQ,2,5));rw[hsz]<;>rfl
end
end Vp
namespace Vp
open PySem PySem.Spec L2 Vf
section
variable {P:Program} {w:World} {K:PySem.W.Frag} {mg:aN} {base:Heap} {t:Aw}
def AoL:Sp:=λvs H Q _=>∃b:Nat,vs=[uY mE]/\Q (sR mE HL b) H
theorem AoM:AD gK gK (A0 Z_):=aG
theorem SN(T:aE):A4 P w K mg base A9 1 t.Fl t.Abu gK AoL:=by
 refine mFS T.Fl.F.ok AoM
 .obtain⟨b,rfl,_⟩:=h;rfl
 obtain⟨b,rfl,k⟩:=h;exact(_,(oM (AE AoH aK (Db DX aK))),16,16,2,k)
theorem AoN(b:Nat):uY Builtin.Int.intBits=if b=0 then 0 else b.log2+1:=by unfold Builtin.Int.intBits;simp
theorem AoO{b x:Nat}(h:nJ qB x)(a:aOw):b.log2=x:=by
 have h0:b≠0:=λe=>(by rw[e] at h;simp at h);have c:b<2 ^ (x+1):=by apply Atn;intro i d;exact a i aA
 have a1:=(Nat.le_log2 h0).mpr (Nat.ge_two_pow_of_testBit h);have a2:=(AwC h0).mpr c;omega
def AoP:Sp:=λvs H Q _=>∃b:Nat,vs=[uY mE]/\b≠0/\b<2 ^ 500/\∀x,qB x=true-> aOw ->Q (sD mE x) H
theorem AoQ(h:b≠0):∃x,qB x=true/\∀y,x<y->qB y=false:=by
 refine(b.log2,5,λy hy=>At1 ((AwC h).mp hy))
 cases hb:qB b.log2 with
 |true=>rfl
 |false=>
  exfalso;have a:=(Nat.le_log2 h).mp (Asb b.log2);have:b<2 ^ b.log2:=by
   apply Atn;intro i c;by_cases e:i=b.log2
   .subst e;exact hb
   exact At1 (yW ((AwC h).mp (Avl _)))
  omega
theorem AoR:AD gK gK (A0 Aaa):=aG
theorem AeX(T:aE):A4 P w K mg base A9 1 t.Ir t.Abv gK AoP:=by
 refine mFS T.Ir.F.ok AoR
 .obtain⟨b,rfl,_⟩:=h;rfl
 obtain⟨b,rfl,h0,hb,k⟩:=h;refine(_,(Ao (A3 (AE G7 Ar (zW (AeV (K:=K) rfl F.plainAttrs_int F.slot_int_bit_length F.type_int_bit_length Ao5 aK))))),5);obtain⟨x,d,e⟩:=AoQ h0;have f:=AoO d e;have g:x<500:=by rw[<-f];exact(AwC h0).mpr hb
 refine(0,31,2,8,(1),x,2,5,aGo,k x d e);rw[AoN,mM h0,f];exact AtB V.int (show((x+1:Nat):Int) - 1=(x:Int) by omega)
def SO(b:Nat)(a:aB):Prop:=a.Nodup/\∀x,x∈a↔qB x=true
def Fb(a:aB):List Nat:=a.map λx=>1<<<x
def AoS:Sp:=λvs H Q _=>∃b:Nat,vs=[uY mE]/\b<2 ^ 1000/\∀a D H',SO b a-> aO ->H D=none->H' D=oC (Fb a)->oQ D
theorem WU:AD ["bits","singles"] gK (A0 Aab):=aG
theorem WV(T:aE):A4 P w K mg base A9 2 t.G0 t.Abw gK AoS:=by
 refine T.G0.F.ok WU cO aJW
 .obtain⟨b,rfl,_⟩:=h;rfl
 obtain⟨b,rfl,hb,k⟩:=h;refine(_,(Ak (tY WU.nd dM)
  (Ak (Ka Asq (qY aK) (Ak (Cu (mHM aP aOx))
  (Ao (Hw (i:=0) WU.nd rfl cX aOx AoI))))
  aCh)),5)
 refine(aT,λD g=>(λm σ H1=>∃(r:Nat)(j:aB),m=r/\σ=[mX (r:Int),mH D]/\ fP /\H1 D=oC (Fb j)/\j.Nodup/\ aOy /\ aOz,(b,b,[],26,mS g,Af,Auw,λx=>by simp,λx _=>by simp),5));rintro m σ H1 ⟨r,j,rfl,rfl,s1,l,n,hmem,o⟩;refine aAm;by_cases h0:m=0
 .subst h0;refine Az (0,k j D H1 (n,λx=>by rw[hmem];simp) s1 g l)
 rw[show(((m:Nat):Int) != 0)=true by simp;omega];obtain⟨x,p,u⟩:=AnK h0;have v:=WB p u;obtain⟨B,C⟩:=o x p;have G:x<1000:=by
  have:=(hmem x).mpr (mI p);rcases Atq x 1000 with h|h
  .exact h
  rw[mIt hb h] at this;cases this
 have I:=AnL p u;refine Au (λJ H'=>∃L,L<m/\∃(r:Nat)(j:aB),L=r/\J=[mX (r:Int),mH D]/\ aO /\H' D=oC (Fb j)/\j.Nodup/\ aOy /\ aOz,λJ H' q=>q,5);refine(0,pY l,0,m,2,D,8,l,BA (by rw[ArX,Fb,ArX];omega),16,m,2,13,m^^^HL m,5,m^^^HL m,j++[x],26,qS s1 g,53,53)
 .rw[v];have M:m^^^1<<<x=Ch m (1<<<x):=by
   apply Atg;intro i;rw[<-v,I,Hq,v,AsE,AtP];by_cases e:x=i
   .subst e;simp
   have:i≠x:=λz=>e z.symm;simp[e,this]
  rw[M,<-S1];have N:=(M0 _ _).mpr (x,p,mFC x);omega
 .rw[Af,v];simp[Fb]
 .rw[AsT];refine(n,9,221);obtain rfl:c=x:=(mR hc);exact B (e▸ha)
 .intro y;rw[hmem,I,As0,Atb];by_cases e:y=x
  .subst e;simp[p]
  simp[e]
 intro y hy;rw[I] at hy;simp at hy;obtain⟨O,U⟩:=o y hy.1;have Y:x<y:=by
  rcases Atq y x with h|h
  .rw[u y h] at hy;exact nK hy.1 aC
  omega
 refine(5,by rw[Asi,AsD];omega);rw[As0,Atb];rintro(h|h)
 .exact O h
 exact hy.2 h
theorem BL(s:aO)(h:mV H' p):mV H p:=by
 cases e:H p with
 |none=>rfl
 |some o=>rw[s p o e] at h;cases h
theorem GG{A B:hB}(h:A H):MF σ H λb a=>if b=true then A a else B a:=by show(if true=true then A H else B H);rw[bF];exact h
def AoT:Sp:=λvs H Q _=>∃b:Nat,vs=[uY mE]/\b<2 ^ 1000/\(∀a,SO b a->a.length<=14)/\∀(l:aB)D H',aO ->H D=none->H' D=oC l->oQ D
abbrev AoU:List Str:=aOA
theorem Oe:AD aOA gK (A0 U_):=aG
theorem AoV(T:aE):A4 P w K mg base A9 3 t.LJ t.Abx gK AoT:=by
 refine mB2 T.LJ.F.ok Oe
 .obtain⟨b,rfl,_⟩:=h;rfl
 obtain⟨b,rfl,hb,f,k⟩:=h;refine(_,(Ak (tY Oe.nd (rY Ar))
  (Ak (rV (pT (mLB aBh)) (oJ 2 Oe.nd) (Ao (tY Oe.nd (AE HC aP (Dk rfl Oe.nd (pT aP) (qM ("choice",3,) AoU U_) (pR 3 Oe.nd) cK (qK (AE J3 bB aX)))))))
  aCh)),5)
 refine(21,λD g=>(0,b,2,hb,λm L n o s0 q r=>(mFT L r)));have u:=f m o;have s1:=nB (mS g) s0;refine E4 (K:=K) (a:=L) (xs:=iv (Fb m)) (λj σ H1=>∃(l:aB)(v:Addr)(v2:bQ),σ=[uY mX,mH v,v2,none]/\Ab n H1/\H v=none/\H1 v=oC l/\l.length=2 ^ j)
  ([0],D,61,2,aES,g,mC s0 Af,2) (λj σ H1 _ (_,_,_,_,s2,_)=>nA s2 r) ?_ ?_
 .rintro j y σ H1 hj ⟨l,v,v2,rfl,s2,z,B,hlen⟩;rw[ArY] at hj;obtain⟨bt,C,rfl⟩:mLC m:=by
   cases e:(Fb m)[j]? with
   |none=>rw[e] at hj;cases hj
   |some x=>rw[e] at hj;exact lL
  have aa:j<14:=by have:=(nL C).1;rw[Fb,ArX] at this;omega
  have ab:2 ^ j<=2 ^ 13:=As5 aA aA;refine(16,v,2,(oX B),λM G=>?_);refine EA (J:=pZ v) l.length (λi I=>tX I/\I M=oC ((l.take i).map (·|||bt))) (yM G)
   (λi I N O=>(tM O.1 B N)) (λI O=>(sA O.1 B)) ?_ ?_
  .rintro i I y ac N ⟨s3,U⟩ ⟨rfl,hy⟩;have Y:=rJ s3 B;rw[ArY,mK N] at Y;simp at Y;subst Y;refine jD;refine(16,13,_,U,mA1 AsS,qS s3 G,5);have e:mIu l.take l[i]:=(vR AsA N);rw[Af,e,iv,iv,As7,As7];rfl
  rintro I ⟨s3,U⟩;rw[AsC] at U;refine(v,M,8,rZ B,U,AL (by rw[ArX,ArX,ArX];omega),λp hp=>(l++sT (·|||bt),p,0,Ab.BG lI (BL lI hp),BL aF1 hp,23,by rw[Asi,ArX,hlen,Nat.pow_succ];omega))
 rintro σ H1 ⟨l,v,v2,rfl,s2,z,B,hlen⟩;exact(0,k l v H1 lJ z B)
def Hd(a b:Int):Int:=if b<a then b else a
theorem SQ(a b:Int):Hd a b=min a b:=by unfold Hd;split<;>omega
theorem Mo(h:a≠b):Aa (oA a x) b y=Aa (oA b y) a x:=by
 funext c;by_cases d:c=a
 .subst d;rw[Ah h,Af,Af]
 by_cases e:c=b
 .subst e;rw[Af,nX h,Af]
 rw[Ah e,Ah d,Ah d,Ah e]
structure Ed where
 fin:Bool
 W:Nat
 r:Int
 c:Int
abbrev Of(v:Ed):List gC:=[("is_finish",.bl v.fin,),("words",mE (v.W:Int),),("rest",mE v.r,),("room",mE v.c,)]
def Cd(t:Aw)(H:Hp)(a:Addr)(v:Ed):Prop:=∃dx,H a=oN t.FS (Of v)
theorem Cd.same(h:uE H a)(s:aO):Cd t H' a v:=let(dx,e):=h;(dx,nM e)
def AeY(t:Aw):Sp:=λvs H Q _=>∃(p dx:Addr)(v:Ed),vs=(mLD aS)/\H p=rX t.FS/\rH (mY H aOB)
theorem AoW:AD aFz aFz (A0 Aac):=aG
theorem KJ(T:aE):A4 P w K mg base A9 1 t.G1 t.Aby aFz (AeY t):=by
 refine qT T.G1.F.ok AoW
 .obtain⟨p,dx,v,rfl,_⟩:=h;rfl
 obtain⟨p,dx,v,rfl,hp,k⟩:=h;refine(_,(Ak aAo
  (Ak lG
  (Ak (nW bB)
  (Ao (nW bG))))),5)
 refine(87,96,T.NA,54,39,198);rw[B1];refine(mAW T.BF.c T.LU 2);rw[B1];refine(mAW T.BF.c T.LW 3);rw[B1];exact k
def Made(t:Aw)(H:Hp)(v:Ed)(Q:VK):Prop:=∀a H',aO ->H a=none->uE H' a->oV aJ
theorem SR(k:mDX v):∀x dx,H x=none->H dx=none->dx≠x->
 AeY t (mLD cU) (mBK H t.FS) (λu a=>u= .Ax/\Q cU a) E:=by
 intro x dx hx b c;refine(mDO x dx v);rw[B1];exact k x _ (xF b hx) hx (dx,Af)
def AoX(t:Aw):Sp:=λvs H Q _=>vs=[]/\mDX (mCq 0)
theorem AoY:AD [] [] (A0 Aak):=aG
theorem AeZ(T:aE):A4 P w K mg base A9 3 t.Iu t.Ab6 [] (AoX t):=by
 refine qT T.Iu.F.ok AoY
 .obtain⟨rfl,_⟩:=h;rfl
 obtain⟨rfl,k⟩:=h;obtain⟨c,d,e⟩:=T.V3;refine(_,(Ao (A3 (Dc T.BF.k (KJ T) dW rfl T.BF.m T.G1.b .nil Ay (mDY Ar (vO (nP d e)))))),5);exact SR (v:=(mCq 0)) k
def AoZ(t:Aw):Sp:=λvs H Q _=>∃(a b:Addr)(v u:Ed),vs=aAk /\uE H a/\Cd t H b u/\mDX (mFU u.W u.r u.c)
theorem Ao_:AD aFr aFr (A0 Aal):=aG
theorem WW(T:aE):A4 P w K mg base A9 3 t.G3 t.Ab7 aFr (AoZ t):=by
 refine mB2 T.G3.F.ok Ao_
 .obtain⟨a,b,v,u,rfl,_⟩:=h;rfl
 obtain⟨a,b,v,u,rfl,⟨e,ha⟩,⟨db,hb⟩,k⟩:=h;refine(_,(Ao (A3 (Dc T.BF.k (KJ T) eH rfl T.BF.m T.G1.b .nil Ay (Ad Dw (Ad (AE J3 aY cC) (mIv (mH7 (mLE pV 0 1)))))))),186,39,222,39,2,13,5);refine(186,96,T.LU,222,96,T.LU,2,3,186,96,T.LW,222,96,T.LW,2,3,5);exact SR (v:=(mFU u.W u.r u.c)) k
def Apa(t:Aw):Sp:=λvs H Q _=>∃(a:Addr)(v:Ed)(x g:Nat),vs=[aJ,aCi,aGp]/\uE H a/\mDX aOC
theorem Apb:AD aFs aFs (A0 Aam):=aG
theorem Ae_(T:aE):A4 P w K mg base A9 3 t.Iv t.Ab8 aFs (Apa t):=by
 refine vZ T.Iv.F.ok Apb
 .obtain⟨a,v,x,g,rfl,_⟩:=h;rfl
 obtain⟨a,v,x,g,rfl,⟨d,ha⟩,k⟩:=h;refine(_,(Ao (A3 (mLF (mDY (mCk aY aP) aOD)))),116,39,202,8,5);refine aOE;exact SR (v:=aOC) k
def Apc(t:Aw):Sp:=λvs H Q _=>∃(a:Addr)(v:Ed)(x g:Nat),vs=[aJ,aCi,aGp]/\uE H a/\mDX aOF
theorem Apd:AD aFt aFt (A0 Aan):=aG
theorem Afa(T:aE):A4 P w K mg base A9 3 t.Iw t.Ab9 aFt (Apc t):=by
 refine vZ T.Iw.F.ok Apd
 .obtain⟨a,v,x,g,rfl,_⟩:=h;rfl
 obtain⟨a,v,x,g,rfl,⟨d,ha⟩,k⟩:=h;refine(_,(Ao (A3 (mLF (mDY (AE J3 aY aP) aOD)))),116,39,31,13,5);refine aOE;exact SR (v:=aOF) k
abbrev Ft(g:Nat)(fo so:Addr)(W:Nat):List gC:=[("cost",aGp,),("followers",mF fo,),("sorts",mF so,),("words",mE (W:Int),)]
def Ape(t:Aw):Sp:=λvs H Q _=>∃(p dx fo:Addr)(g:Nat),vs=[aS,aGp,mF fo]/\H p=rX t.CH/\∀so,so≠p->H so=none->rH (mY (pK H so) (mDZ g fo))
theorem Apf:AD aFA aFA (A0 Aad):=aG
theorem Apg(T:aE):A4 P w K mg base A9 1 t.MR t.Abz aFA (Ape t):=by
 refine qT T.MR.F.ok Apf
 .obtain⟨p,dx,fo,g,rfl,_⟩:=h;rfl
 obtain⟨p,dx,fo,g,rfl,hp,k⟩:=h;refine(_,(Ak aAo
  (Ak lG
  (Ak (nW dM)
  aDN))),5)
 refine(87,69,T.LX,54,69,T.Vm,198);rw[B1];refine(aT,λso c=>?_);have d:so≠p:=λe=>(by rw[e,Af] at c;cases c);refine(72,by rw[nX d,Af],69,T.Vn,aAu,72,Af,69,T.Vo,200);rw[B1,<-mA2 d,B1,mA2 d];exact k so d (by rwa[Ah d] at c)
def Afb(t:Aw):Sp:=λvs H Q _=>∃(p dx fo so:Addr)(g W x:Nat)(l:aL),vs=[aS,aCi]/\H p=mIw oN g/\H so=nU l/\l.length<sizeLine/\p≠so/\
 Q .Ax (mY (nD H so (l++[aCi])) (nC t.CH (Ft g fo so (W|||x))))
theorem Aph:AD aFB aFB (A0 Aae):=aG
theorem Api(T:aE):A4 P w K mg base A9 1 t.MS t.Ab0 aFB (Afb t):=by
 refine qT T.MS.F.ok Aph
 .obtain⟨p,dx,fo,so,g,W,x,l,rfl,_⟩:=h;rfl
 obtain⟨p,dx,fo,so,g,W,x,l,rfl,hp,c,d,e,k⟩:=h;refine(_,(Ak (Cu (mD0 dX))
  aD0),5)
 refine(17,hp,69,T.Vn,2,pY c,0,so,8,c,d,5);have f:(nD H so (l++[aCi])) p=some (mIw nC g):=(oY e hp);exact(17,f,69,T.Vo,31,13,19,f,(qG 4),k)
structure Kt where
 m:Nat
 w:Nat
 p:Nat
deriving DecidableEq
abbrev Dm(κ:Kt)(a:Addr)(AA:Nat)(g:V)(b c:Addr):List gC:=[("mode",aGq,),("state",aJ,),("fewest",mE (AA:Int),),("groups",g,),("finishes",bU,),("lacks",mF c,)]
def Apj(t:Aw):Sp:=λvs H Q _=>∃(p dx a:Addr)(κ:Kt)(AA:Nat),vs=[aS,aGq,aJ,mE (AA:Int)]/\H p=rX t.BD/\
 ∀b c,b≠p->c≠p->b≠c->H b=none->H c=none->rH (mY (Aa (pK H b) c hX) (nC t.BD (Dm κ a AA .Ax b c)))
theorem Apk:AD aFC aFC (A0 Aaf):=aG
theorem Apl(T:aE):A4 P w K mg base A9 1 t.MT t.Ab1 aFC (Apj t):=by
 refine qT T.MT.F.ok Apk
 .obtain⟨p,dx,c,κ,AA,rfl,_⟩:=h;rfl
 obtain⟨p,dx,c,κ,AA,rfl,hp,k⟩:=h;refine(_,(Ak aAo
  (Ak lG
  (Ak (nW bB)
  (Ak (nW Da)
  (Ak (nW dM)
  (Ao (nW OT))))))),5)
 refine(87,45,T.Ac5,54,45,T.Ac6,198);rw[B1];refine(mAW T.CN.c T.RD 2);rw[B1];refine(vA T.CN.c T.Pd 3);rw[B1];refine(aT,λd f=>?_);have g:d≠p:=λe=>aNH;rw[mA2 g];refine(vA T.CN.c T.RE 4);rw[B1];refine λi j=>?_;have l:i≠p:=λe=>aJX;rw[Ah l] at j;have m:d≠i:=λe=>(by rw[<-e,Af] at j;cases j);rw[mA2 l];refine(vA T.CN.c T.NB 5);rw[B1];exact k d i g l m (by rwa[Ah g] at f) (by rwa[nX m] at j)
def Apm(t:Aw):Sp:=λvs H Q _=>∃(p dx a b c:Addr)(κ:Kt)(AA:Nat)(g:V),vs=[aS]/\H p=mD1 oN b/\
 ∀b c,b≠p->c≠p->b≠c->H b=none->H c=none->rH (mY (Aa (pK H b) c hX) (mD1 nC b))
theorem Apn:AD cL cL (A0 Aaj):=aG
theorem Apo(T:aE):A4 P w K mg base A9 1 t.MX t.Ab5 cL (Apm t):=by
 refine qT T.MX.F.ok Apn
 .obtain⟨p,dx,c,d,f,κ,AA,g,rfl,_⟩:=h;rfl
 obtain⟨p,dx,c,i,j,κ,AA,g,rfl,hp,k⟩:=h;refine(_,(Ak (nW dM)
  (Ao (nW OT))),5)
 refine(aT,λd l=>?_);have m:d≠p:=λe=>(by rw[e,hp] at l;cases l);refine(72,(wW m hp),45,T.RE,(qG 6),5);refine λf n=>?_;have o:f≠p:=λe=>(by rw[e,Af] at n;cases n);rw[Ah o] at n;have q:d≠f:=λe=>(by rw[<-e,Af] at n;cases n);rw[mA2 o];refine(vA T.CN.c T.NB 6);rw[B1];exact k d f m o q l (by rwa[nX q] at n)
def Afc(t:Aw):Sp:=λvs H Q _=>∃(p dx a b c x:Addr)(κ:Kt)(AA:Nat)(g:V)(v:Ed)(fs:aL)(d:hN),vs=[aS,cU]/\H p=mD1 oN b/\ iE /\
 H b=nU fs/\fs.length<sizeLine/\H c=qH d/\d.length<sizeLine/\
 (v.fin=true->rH (nD H b (fs++[cU])))/\
 (v.fin=false->∀e,H e=none->(Bc d jE=none/\rH (Aa (Aa (pK H e) c (.dK (Dy d jE (mF e)))) e (.Ac [cU])))\/
  ∃l ys,Bc d jE=mH l/\H l=nU ys/\ys.length<sizeLine/\rH (Aa (pK H e) l aJY))
theorem App:AD aFD aFD (A0 Aai):=aG
theorem Apq(T:aE):A4 P w K mg base A9 1 t.MW t.Ab4 aFD (Afc t):=by
 refine qT T.MW.F.ok App
 .obtain⟨p,dx,c,d,f,x,κ,AA,g,v,fs,i,rfl,_⟩:=h;rfl
 obtain⟨p,dx,c,d,f,x,κ,AA,g,v,fs,i,rfl,hp,⟨j,hx⟩,k,m,n,o,r,u⟩:=h;refine(_,(Ao (AU (D9 cC) (Ao (Cu (mD0 dX))) (Ao (Cu (Dz (K:=K) rfl As3 AsH AsK E_ (WT (F5 b) aY cC dM aCf) dX))))),0,x,_,j,3,hx,96,T.NA,80)
 cases y:v.fin with
 |true=>
  exact Au (17,hp,45,T.RE,2,pY k,0,d,8,k,m,r y)
 |false=>
  refine Az (117,f,2,mG (_,mG n),0,x,_,j,3,hx,39,2,aT,λz B=>?_);have C:f≠z:=λe=>(mIx n);have D:oI (pK H z) f (.dK i):=(oY C n);refine(_,mG (i,jE,mG D,26),5);rcases u y z B with⟨G,q⟩|⟨l,ys,hs,I,J,q⟩
  .refine mI (G,_,mG (i,jE,D,2,o,2),5);have L:(Aa (pK H z) f (.dK (Dy i jE (mF z)))) z=some aDF:=(wE nX C);exact(pY L,0,z,8,L,21,q)
  have M:l≠z:=λe=>(mIx I);have N:tJ (pK H z) l ys:=(oY M I);exact mG (_,hs,pY N,0,l,8,N,J,q)
def Apr(t:Aw):Sp:=λvs H Q _=>∃(p dx a b c:Addr)(κ:Kt)(AA:Nat)(g:V)(fs:aQ)(rest room:Int)(used:Nat),vs=[aS,mE rest,tN mE,aBw]/\H p=mD1 oN b/\
 H b=pU fs.map/\(∀x∈fs,∃v,iE)/\rH H/\∀x v,x∈fs-> iE ->v.W&&&used=0->v.r<=rest->v.c<=room->Q cU H
theorem Afd:AD ["self","rest","used","room","note"] aB8 (A0 Aag):=aG
theorem Aps(T:aE):A4 P w K mg base A9 1 t.MU t.Ab2 aB8 (Apr t):=by
 refine qT T.MU.F.ok Afd
 .obtain⟨p,dx,c,d,f,κ,AA,g,fs,rest,room,used,rfl,_⟩:=h;rfl
 obtain⟨p,dx,c,d,f,κ,AA,g,fs,rest,room,used,rfl,hp,j,k,l,m⟩:=h;refine(_,(Ak (rV (Zx rfl T.AcN (mU aY)) (oJ 4 Afd.nd) (Ao (nI (PW.pt (Gq (yH (AE Hc gM aX)) (Gq (pL DB gM aP) (Jk (pL DB gM bB))))) (oM bG))))
  (oM Da)),5)
 refine(17,hp,45,T.RE,2,d,0,mN j,5);refine Fn (J:=L2.Rr K d aD1.length) fs.length (λi σ H1=>∃v4,H1=H/\σ=[bM,mX rest,tN mX,aAx,v4]) aFk
  (λi σ H1 n (_,e,_)=>(mLG n j aD1.length)) (λσ H1 _=>by show aD1.length<=fs.length;rw[ArX];exact aD) ?_ ?_
 .rintro i σ H1 y o n ⟨v4,rfl,rfl⟩ ⟨rfl,hy⟩;have q:=hy _ (mN j);rw[ArY] at q;obtain⟨x,hx,rfl⟩:mIy fs[aD1.length - 1 - i]?:=by
   cases e:fs[aD1.length - 1 - i]? with
   |none=>rw[e] at q;cases q
   |some x=>rw[e] at q;exact(tI x q)
  have hxm:=Asl hx;obtain⟨v,r,u⟩:=k x hxm;refine(0,x,_,r,3,u,39,31,13,80);rw[show decide (mO ((v.W&&&used:Nat):Int)=mO 0)=decide (v.W&&&used=0) from Fp _ 0];by_cases c1:v.W&&&used=0
  .rw[mW c1];refine mLH x T.LU;by_cases z:v.r<=rest
   .rw[mW z];refine mLH x T.LW;by_cases B:v.c<=room
    .rw[mW B];exact Au (0,m x v hxm (r,u) c1 z B)
    rw[mT B];exact Az aAM
   rw[mT z];exact nG Az aAM
  rw[mT c1];exact nG Az aAM
 rintro σ H1 ⟨v4,rfl,rfl⟩;exact l
theorem Apt{R:vS It}{x:V}(C:mAx It Nat)(b:∀J n,C J n->R J H1)
 (hc:aOG):
 (∃a,x= aJ /\ aHT /\mAz Cf)\/ aOv \/∃d o c,x= dG /\H1 d=qW o (.dK c)/\R (Lv d o c) H1:=by
 grind
theorem Apu(hx:σ[i]? =mB aW)(C:mAx It Nat)(b:∀J n,C J n->R J H1)
 (hc:aOG):SM K (Bo i) σ H1 R:=
 (x,hx,Apt C b hc)
def Apv(t:Aw)(H:Hp)(a:hN):Prop:=∀q∈a,∃(W:Nat)(l:Addr)(ns:aQ),q=(aBx,eP,)/\H l=pU ns.map/\∀x∈ns,∃v,iE
def Apw(t:Aw):Sp:=λvs H Q _=>∃(p dx a b c:Addr)(κ:Kt)(AA:Nat)(g:V)(d:hN)(rest room:Int)(used:Nat),vs=[aS,mE rest,tN mE,aBw]/\H p=mD1 oN b/\
 H c=qH d/\Apv t H d/\used<2 ^ 1000/\(∀e,SO used e->e.length<=14)/\∀H',aO -> cW /\∀(W:Nat)(l:Addr)(ns:aQ)(x:Addr)(v:Ed),((aBx,eP,):C3×V)∈d->H l=pU ns.map->x∈ns-> iE ->W&&&used=W->rest<=v.r->room<=v.c->oQ x
theorem SS:AD ["self","rest","used","room","sought","words","note"] aB8 (A0 Aah):=aG
theorem Apx(T:aE):A4 P w K mg base A9 4 t.MV t.Ab3 aB8 (Apw t):=by
 refine pF T.MV.F.ok SS
 .obtain⟨p,dx,ac,ae,b,κ,AA,g,d,rest,room,used,rfl,_⟩:=h;rfl
 obtain⟨p,dx,ac,ae,b,κ,AA,g,d,rest,room,used,rfl,hp,f,af,ag,ah,k⟩:=h;obtain⟨ai,aj,ak⟩:=T.Akm;refine(_,(Ak (qN SS.nd (Ie (pL Li (tZ Ao4 aY) (nP aj ak)) (Bb (AoV T) bR rfl T.LJ.m T.LJ.F.kp T.LJ.b .nil Ay jX) aY))
  (Ak (Rp (rV (mB6 AeW bG) (oJ 5 SS.nd) (Ao (nI (vL (AE Hc bJ aX) bJ) (Ao (rV (AeW (K:=K) rfl (Zu (F5 ab) aY bJ (CV Ai) aCf)) (oJ 6 SS.nd) (Ao (nI (PW.pt (Gq (pL DB aP (pV 6)) (Jk (pL DB bB (pV 6))))) (oM cA)))))))))
  (oM Da))),5)
 have main:∀(m:Hp)(sv:Addr)(o v6:bQ),Ab H m->(sv=b\/∃l:aB,m sv=oC l/\sv≠b)->
  EL (Zw (M7 (SM K (Bo 4)) (EY 5) (Ii (Kd (CU QM (CU aJA (Bo 5) (Bo 2)) (Bo 5))) (M7 (SM K (Zt (mB9 0 "lacks") (Bo 5) (QS E5))) (EY 6) (Ii (Ym (Kd (CU aH1 (Bo 1) (mB9 6 "rest"))) (Kd (CU aH1 (Bo 3) (mB9 6 "room")))) (J_ (Bo 6)) Ih)) Ih))) (J_ (tC .Ax)) {nx:=λ_ H'=>cW,rt:=Q}
   [bM,mX rest,tN mX,aAx,mH sv,o,v6] m:=by
  intro m sv o v6 s0 al;refine(b,.dK d,mC s0 f,187);have back:∀H1:Hp,(∀c u,c≠b->H c=aM ->H1 c=aM)->Ab H (Aa H1 b (.dK d)):=λH1 e c u hc=>by
   by_cases r:c=b
   .subst r;rw[Af,<-f];exact hc
   rw[Ah r];exact e c u r hc
  refine Apu rfl (λJ n=>(∀i(H1:Hp),i<n-> aD2 ->J.go i H1)/\(∀H1:Hp,aD2 ->J.stop n H1)/\
   ∀i(H1:Hp)x z,i<n-> aD2 ->J.Fg i H1 x z->z=H1/\∃W:Nat,x= mE (W:Int)) (λJ n am=>?_) ?_
  .obtain⟨c1,B,C⟩:=am;refine Fn (J:=J) n (λi σ H1=>∃o v6,σ=[bM,mX rest,tN mX,aAx,mH sv,o,v6]/\ aD2)
    (o,v6,2,λc u hc e=>by rw[gO];exact e,Af) (λi σ H1 G (_,_,_,e)=>c1 i H1 G e) (λσ H1 (_,_,_,e)=>B H1 e) ?_ ?_
   .rintro i σ H1 x z G ⟨o,v6,rfl,I,L⟩ hy;obtain⟨rfl,W,rfl⟩:=C i H1 x z G (I,L) hy;refine(16,13,0,80);rw[show decide (mO ((W&&&used:Nat):Int)=mO ((W:Nat):Int))=decide (W&&&used=W) from Fp _ _];by_cases an:W&&&used=W
    .rw[mW an];refine Au (17,(λc u hc q=>mIz I) _ _ (λe=>by rw[e,f] at hp;cases hp) hp,45,T.NB,2,b,2,mG (_,xQ od L),0,aT,λT0 ao=>?_);have M:oI (aGr) b (mFV d):=(by rw[nX (λe=>by rw[e,L] at ao;cases ao)];exact L);have ap:mLI b m:=λc u hc q=>by
      have:=I c u hc q;rw[Ah (AR this ao)];exact this
     have N:mLI b H:=λc u hc q=>mIz ap;refine(_,mG (d,aBx,xQ od M,26),5)
     cases O:Bc d aBx with
     |none=>
      refine .inr (.inl (T0,2,(_,nQ Af),Fn (J:=GU K T0) 0 (λi σ H1=>i=0/\σ=aOH /\H1=aGr) (26,2) (λi σ H1 G _=>by omega) (λσ H1 (_,_,e)=>([],by rw[e];exact nQ Af,aD)) (λi σ H1 y aq G=>by omega) ?_));rintro σ H1 ⟨_,rfl,rfl⟩;exact(mC8 ap M)
     |some lv=>
      have hmem:((aBx,lv,):C3×V)∈d:=by
       unfold Bc at O
       cases hf:d.find? (λar=>decide (ar.1= aBx)) with
       |none=>rw[hf] at O;cases O
       |some q=>
        rw[hf] at O;have as:=List.find?_some hf;simp at as;obtain rfl:q.2=lv:=(mR O);rw[<-as];exact(Awf hf)
      obtain⟨au,l,ns,hq,U,av⟩:=af _ hmem;injection hq with aw ax
      subst ax;have ay:l≠b:=λe=>(mIb e f);refine .inl (l,2,(oX (mP N ay U)),E4 (K:=K) (a:=l) (xs:=nH ns.map) (λi σ H1=>∃v6,σ=aOH /\H1=aGr) aAM (λi σ H1 _ (_,_,e)=>by rw[e];exact mN (mP N ay U)) ?_ ?_)
      .rintro i y σ H1 G ⟨v6,rfl,rfl⟩;rw[ArY] at G;obtain⟨x,hx,rfl⟩:mIy ns[i]?:=by
        cases e:ns[i]? with
        |none=>rw[e] at G;cases G
        |some x=>rw[e] at G;exact(tI x G)
       have hxm:=Asl hx;obtain⟨v,az,Y⟩:=av x hxm;have a0:=N _ _ (λe=>by rw[e,f] at Y;cases Y) Y;refine(mLJ x T.LU);by_cases B:rest<=v.r
       .rw[mW B];refine Au (mLJ x T.LW);by_cases C:room<=v.c
        .rw[mW C];exact Au (0,M,(k _ (back _ N)).2 W l ns x v hmem U hxm (az,Y) an B C)
        rw[mT C];exact Az aAM
       rw[mT B];exact nG Az aAM
      rintro σ H1 ⟨v6,rfl,rfl⟩;exact(mC8 ap M)
    rw[mT an];exact Az (mC8 I L)
   rintro σ H1 ⟨o,v6,rfl,I,L⟩;exact(L,(k _ (back H1 λc u hc q=>mIz I)).1)
  rcases al with rfl|⟨l,U,a1⟩
  .refine mI (mI (_,od,d,215,d.length,λi H1 G e=>(e.2,G),λH1 e=>(e.2,aD),5));rintro i H1 x z G e ⟨rfl,a2,v,a3,rfl⟩;obtain⟨W,l,ns,hq,_⟩:=af _ (Asl a3);injection hq with aw ax
   exact(2,W,by rw[aw];rfl)
  have a4:∀H1:Hp,aD2 ->H1 sv=some (pW l):=λH1 e=>mP e.1 a1 U;refine .inl (sv,2,(_,Ae.of (show(Aa m b (mFV d)) sv=some (pW l) by rw[Ah a1];exact U)),l.length,λi H1 G e=>(19,mN (a4 H1 e),by rw[ArY,mK G];rfl),λH1 e=>(_,mN (a4 H1 e),188),5);rintro i H1 x z G e ⟨rfl,hy⟩;have a5:=hy _ (mN (a4 _ e));rw[ArY,mK G] at a5;exact(mQ rfl l[i] (Ase a5).symm)
 refine(117,b,d,2,mG f,58);by_cases c0:(2000:Int)<(d.length:Int)
 .rw[mW c0];refine Au (0,used,2,ag,ah,λl D m s0 a6 U=>main m D none none s0 (mI (l,U,λe=>by rw[e,f] at a6;cases a6)))
 rw[mT c0];exact Az (117,main H b none none aES bA)
structure FE where
 T:BR
 S:List Cr
 Aq:Nat
 tw:Nat->Nat
def IR(E:FE):List Wd:=E.S.map Cr.wd
def vw(E:FE)(r m w:Nat):Nat:=GB E.T (IR E) r m w
def D6(E:FE)(κ:Kt)(q:aB):Prop:=aJZ /\KD E.T κ.m κ.w κ.p aCy /\q.length<=E.Aq
def Og(E:FE)(κ:Kt)(v:Ed):Prop:=v.fin=false/\∃l,Dl E.S v.W l/\Lk E.S (D6 E κ) l v.r v.c
def WX(E:FE)(κ:Kt)(AA:Nat):Prop:=(∀q,D6 E κ q->AA<=q.length)/\(AA=0->D6 E κ [])
structure Kb(κ:Kt):Prop where
 m:κ.m<=1
 w:κ.w<=4
 p:κ.p<1000
abbrev Bj:=Addr->oK (Addr×oK Nat)
structure Ev(B:aCj)(o:Bj)(H:Hp)(o':Bj)(H':Hp):Prop where
 keep:∀c u,H c=aM ->(∀x,o c=aW ->¬B x.1)-> dO=some u
 own:∀c u,H c=aM ->o' c=o c
 there:∀c u,H c=aM ->∃u',dO=mB u'
theorem Ev.refl:Ev B o H o H:=(λ_ _ e _=>e,aCz,λ_ u e=>(u,e))
theorem Ev.trans(a:Ev B o H g H1)(b:Ev B g H1 i j):Ev B o H i j where
 keep:=λc u e n=>b.keep c u (tO a.keep n) λx hx=>n x (by rw[<- aGs];exact hx)
 own:=λc u e=>let(u',e'):=sS a.there;(b.own c u' e').trans aGs
 there:=λc u e=>let(u',e'):=sS a.there;b.there c u' e'
theorem Ev.As(a:iF)(h:∀x,B x->g x):Ev g o H o' H':=(λc u e n=>a.keep c u e λx hx hb=>n x hx (h _ hb),a.own,a.there)
theorem Ev.same(s:aO):Ev B o H o H':=(λc u e _=>sS s,aCz,λc u e=>(u,sS s))
theorem Ev.free(a:iF)(e:H c=aM)(h:mV o c):dO=aM /\o' c=none:=
 (tO a.keep (λx hx=>by rw[h] at hx;cases hx),aGs.trans h)
theorem Ev.J7(a:iF)(e:H c=aM)(h:o c=mB (b,x,))(hb:¬B b):dO=aM /\o' c=some (b,x,):=
 (tO a.keep (λy hy=>by rw[h] at hy;cases hy;exact hb),aGs.trans h)
theorem Cd.ev(h:uE H a)(e:iF)(g:mV o a):uE H' a/\o' a=none:=by obtain⟨dx,h⟩:=h;exact((dx,(vB h g).1),(vB h g).2)
def PL(t:Aw)(H:Hp)(o:Bj)(n:Nat)(a:Addr):Prop:=∃fs:aQ,H a=pU fs.map/\fs.length<=n/\∀x∈fs,∃v,iE /\o x=none/\v.fin=true
def Apy(t:Aw)(H:Hp)(o:Bj)(E:FE)(κ:Kt)(n W:Nat)(l:Addr):Prop:=∃ns:aQ,H l=pU ns.map/\ns.length<=n/\∀x∈ns,∃v,iE /\o x=none/\v.W=W/\Og E κ v
def PM(t:Aw)(H:Hp)(o:Bj)(E:FE)(κ:Kt)(a:Addr)(n:Nat)(b:Addr):Prop:=∃c:hN,H b=qH c/\c.length<=n/\∀q∈c,∃(W:Nat)(l:Addr),q=(aBx,eP,)/\o l=mB (a,mB W,)/\Apy t H o E κ n W l
abbrev Oh:=Kt->Addr->Prop
structure J8 where
 Bl:Nat
 fl:List aCA
 ss:aB
def PN(t:Aw)(H:Hp)(o:Bj)(E:FE)(R:Oh)(x:Addr)(G:J8):Prop:=∃(dx fo so:Addr)(W:Nat)(ms:aB),H x=mIw oN G.Bl/\o x=none/\H fo=nU (G.fl.map λp=>nE p.2)/\o fo=none/\(∀p∈G.fl,R p.1 p.2)/\
 H so=oC ms/\o so=none/\ms.length=G.ss.length/\(∀(j i M:Nat),G.ss[j]? =mB i->ms[j]? =mB M->KG E.S i M)/\W<2 ^ 500
def GOk(E:FE)(κ:Kt)(G:J8):Prop:=(∀i∈G.ss,i<E.S.length/\(AH E.S i).Bl=G.Bl)/\∀i∈G.ss,∀q,mFW E->∃p∈G.fl,D6 E p.1 q
def KK(t:Aw)(H:Hp)(o:Bj)(E:FE)(R:Oh)(κ:Kt)(ga:Addr):Prop:=∃(xs:aQ)(a:mZ J8),H ga=pU xs.map/\o ga=none/\xs.length=a.length/\(∀(j:Nat)(x:Addr)(G:J8),xs[j]? =aW ->a[j]? =mB G->PN t H o E R x G/\GOk E κ G)/\∀i q,mFW E->∃G∈a,i∈G.ss
structure J9(t:Aw)(H:Hp)(o:Bj)(E:FE)(R:Oh)(n:Nat)(κ:Kt)(a dx sta AA:Nat)(g:V)(fa la:Addr):Prop where
 at_:H a=some (nC t.BD (Dm κ sta AA g fa la))
 oa:o a=some (a,none,)
 IS:o fa=some (a,none,)
 IT:o la=some (a,none,)
 st:H sta=some (.Al aOI)
 He:o sta=none
 kb:Kb κ
 AA:WX E κ AA
 fin:PL t H o n fa
 HM:PM t H o E κ a n la
 Oi:g= .Ax\/∃ga,g= mF ga/\KK t H o E R κ ga
def Kn(t:Aw)(H:Hp)(o:Bj)(E:FE)(R:Oh)(n:Nat)(κ:Kt)(a:Addr):Prop:=∃dx b AA g c d,J9 t H o E R n κ a dx b AA g c d
section
variable {B:aCj} {o o':Bj} {H H':Hp} {E:FE} {R R':Oh} {n n':Nat} {κ:Kt}
theorem PL.ev(h:PL t H o n g)(e:iF)(hf:o g=tP a)(hb:¬B a)(i:n<=n'):PL t H' o' n' g:=by obtain⟨fs,j,q,s⟩:=h;refine(fs,(mAg j hf).1,4,eA);obtain⟨v,a1,a2,u⟩:=pI s;exact(mLK e u)
theorem PM.ev(h:PM t H o E κ a n g)(e:iF)(i:o g=tP a)(hb:¬B a)(j:n<=n'):PM t H' o' E κ a n' g:=by obtain⟨s,u,y,z⟩:=h;refine(s,(mAg u i).1,4,eI);obtain⟨W,l,rfl,C,ns,g1,g2,g3⟩:=z q hq;refine(W,l,2,(mAg g1 C).2,ns,(mAg g1 C).1,4,eA);obtain⟨v,a1,a2,I⟩:=pI g3;exact(mLK e I)
theorem PN.ev(h:PN t H o E R x G)(e:iF)(g:aGt):PN t H' o' E R' x G:=by obtain⟨dx,fo,so,W,ms,i,j,q,h4,s,h6,u,v⟩:=h;exact(dx,fo,so,W,ms,(vB i j).1,(vB i j).2,(vB q h4).1,(vB q h4).2,λp hp=>mC g (s p hp),(vB h6 u).1,(vB h6 u).2,v)
theorem KK.ev(h:KK t H o E R κ ga)(e:iF)(g:aGt):KK t H' o' E R' κ ga:=by obtain⟨xs,i,q,s,u,h4,v⟩:=h;exact(xs,i,(vB q s).1,(vB q s).2,u,λj x G hx y=>((h4 j x G hx y).1.ev e g,(h4 j x G hx y).2),v)
theorem J9.ev{a dx i AA:Nat}(h:J9 t H o E R n κ a dx i AA g j q)(e:iF)(hb:¬B a)(s:aGt)(u:n<=n'):J9 t H' o' E R' n' κ a dx i AA g j q where
 at_:=(mAg h.at_ h.oa).1
 oa:=(mAg h.at_ h.oa).2
 IS:=let(_,v,_):=h.fin;(mAg v h.IS).2
 IT:=let(_,v,_):=h.HM;(mAg v h.IT).2
 st:=(vB h.st h.He).1
 He:=(vB h.st h.He).2
 kb:=h.kb
 AA:=h.AA
 fin:=h.fin.ev e h.IS hb u
 HM:=h.HM.ev e h.IT hb u
 Oi:=by
  rcases h.Oi with g|⟨ga,g1,g2⟩
  .exact mG g
  exact mI (ga,g1,g2.ev e s)
theorem Kn.ev(h:Kn t H o E R n κ a)(e:iF)(hb:¬B a)(i:aGt)(j:n<=n'):Kn t H' o' E R' n' κ a:=
 let(dx,q,AA,g,s,u,k):=h;(dx,q,AA,g,s,u,k.ev e hb i j)
end
structure Fw where
 E:FE
 F:Addr
 dF:Addr
 P:Addr
 SA:Addr
 VA:Addr
 D:Addr
 Hs:Hp
abbrev BI(X:Fw)(n:Nat):List gC:=[("places",mF X.P,),("sorts",mF X.SA,),("views",mF X.VA,),("knots",mF X.D,),("kept",jZ,)]
def Ds(κ:Kt):Ky:= .Al [.num (κ.m:Int),mFp (κ.w:Int) ((1<<<κ.p:Nat):Int)]
def Rg(b:bI):Oh:=λκ a=>(eR,nE a,)∈b
structure AO(t:Aw)(X:Fw)(H:Hp)(o:Bj)(n:Nat)(kvs:bI):Prop where
 f:H X.F=some (mCr n)
 of:o X.F=some (X.F,none,)
 d:H X.D=some aDx
 od:o X.D=some (X.F,none,)
 nn:n<=300000
 nd:(kvs.map (·.1)).Nodup
 st:Ab X.Hs H
 so:∀c u,X.Hs c=aM ->o c=none
 un:∀c,H c=none->o c=none
 kn:∀q∈kvs,∃κ a,q=(eR,aJ,)/\a≠X.F/\Kn t H o X.E (Rg kvs) n κ a
def Bg(F:Addr)(H:Hp)(a:bI):aCj:=λb=>b=F\/(∃κ,Rg a κ b)\/H b=none
structure Gw(F:Addr)(o:Bj)(H:Hp)(kvs:bI)(o':Bj)(H':Hp)(kvs':bI):Prop where
 ev:Ev (Bg F H kvs) o H o' H'
 rg:∀κ a,aCB ->Rg kvs' κ a
 fr:∀κ a,uF kvs'-> aCB \/H a=none
theorem Gw.refl:Gw F o H g o H g:=(Ev.refl,128)
theorem Gw.trans(a:Gw F o H k g H1 i)(b:Gw F g H1 i j s v):Gw F o H k j s v where
 ev:=by
  refine(λc u e n=>b.ev.keep c u (tO a.ev.keep n) λx hx hb=>n x (by rw[<-sS a.ev.own];exact hx) ?_,λc u e=>let(u',e'):=sS a.ev.there;(b.ev.own c u' e').trans (sS a.ev.own),λc u e=>let(u',e'):=sS a.ev.there;b.ev.there c u' e');rcases hb with hb|⟨κ,hb⟩|hb
  .exact mG hb
  .rcases a.fr κ _ hb with q|q
   .exact mI (xP κ q)
   exact nG mI q
  refine mI (.inr ?_)
  cases q:H x.1 with
  |none=>rfl
  |some u'=>obtain⟨y,z⟩:=mC a.ev.there q;rw[hb] at z;cases z
 rg:=λκ x h=>b.rg κ x (a.rg κ x h)
 fr:=λκ x h=>by
  rcases b.fr κ x h with q|q
  .exact a.fr κ x q
  refine .inr ?_
  cases C:H x with
  |none=>rfl
  |some u'=>obtain⟨y,z⟩:=mC a.ev.there C;rw[q] at z;cases z
theorem Gw.same(s:aO):Gw F o H k o H' k:=(Ev.same s,128)
theorem AO.same(h:pN g)(s:aO):mAh H' o g where
 f:=s _ _ h.f
 of:=h.of
 d:=s _ _ h.d
 od:=h.od
 nn:=h.nn
 nd:=h.nd
 st:=Ab.trans h.st s
 so:=h.so
 un:=λc e=>h.un c (BL s e)
 kn:=λq hq=>let(κ,a,e,ne,k):=aAy;(κ,a,e,ne,mIA k.ev (Ev.same s))
theorem Afe(h:eR=Ds a):κ=a:=by
 obtain⟨m,w,p⟩:=κ;obtain⟨b,c,d⟩:=a;injection h with h
 injection h with e h
 injection e with e
 injection h with f _
 injection f with f
 injection f with g h4
 injection g with g
 injection h4 with h4 _
 injection h4 with h4
 have i:=AtA e;have j:=AtA g;have k:p=d:=by have:=(Eb p p).mpr rfl;rw[(AtA h4),Eb] at this;exact this
 subst i j k;rfl
theorem Kn.FA(h:pN g)(r:uF g):a≠X.F/\Kn t H o X.E (Rg g) n κ a:=by
 obtain⟨i,j,e,ne,k⟩:=h.kn _ r;injection e with q s
 injection s with s
 subst s;rw[<-Afe q] at k;exact(ne,k)
theorem AO.Dt(h:pN g)(e:iF):Ab X.Hs H':=λc u q=>(vB (h.st c u q) (h.so c u q)).1
def Ci(o:Bj)(c:Addr)(x:oK (Addr×oK Nat)):Bj:=λb=>if b=c then x else o b
theorem IU:Ci o c x c=x:=bF
theorem Cj(h:b≠c):Ci o c x b=o b:=mM h
structure C6(t:Aw)(X:Fw)(H:Hp)(o:Bj)(kvs:bI)(c:Addr):Prop where
 o:o c=some (c,none,)
 f:c≠X.F
 k:∀κ,¬Rg kvs κ c
 al:H c≠none
theorem C6.bg{o:Bj}(m:mAi g):¬Bg X.F H g c:=by
 rintro(h|⟨κ,h⟩|h)
 .exact m.f h
 .exact m.k κ h
 exact m.al h
theorem C6.gw{o o':Bj}(m:mAi i)(g:vC X.F i j)(e:H c=aM):dO=aM /\C6 t X H' o' j c:=by obtain⟨q,s⟩:=g.ev.J7 e m.o m.bg;exact(q,s,m.f,λκ h=>(g.fr κ c h).elim (m.k κ) (λz=>m.al z),by rw[q];simp)
theorem C6.same{o:Bj}(m:mAi g)(s:aO):C6 t X H' o g c:=(m.o,m.f,m.k,by obtain⟨u,hu⟩:=AvZ.mp m.al;rw[nM hu];simp)
theorem C6.Aa{o:Bj}(m:mAi g):C6 t X (mD2 b) o g c:=(m.o,m.f,m.k,by
 by_cases e:c=b
 .subst e;rw[Af];simp
 rw[Ah e];exact m.al)
theorem AO.claim(h:pN i)(hc:mV H c):mLL aBy i:=by
 have BM:aOJ:=λb v e=>mCs hc;have j:Ab H aBy:=mS hc;have ev:∀B,Ev B o H aD3 aBy:=λB=>(mLM j);refine(mLN j Af)
 .have s:b≠c:=λz=>aGu;rw[Cj s];exact h.un b (by rwa[Ah s] at e)
 .obtain⟨κ,a,e,ne,k⟩:=aAy;exact aOK
 obtain⟨_,dx,y,AA,g,C,I,k⟩:=tQ h r;have:=k.at_;rw[hc] at this;cases this
theorem AO.CA(h:pN g)(m:mAi g)(u:HO):AO t X aBy o n g:=by
 have ev:Ev (λb=>b=c) o H o aBy:=(λb v e nb=>by
  have:b≠c:=λz=>(by subst z;exact nb _ m.o rfl);rw[aCC];exact e,aCz,λb v e=>by
  by_cases z:b=c
  .subst z;exact(u,Af)
  exact(mIB v z e))
 refine(by rw[nX m.f];exact h.f,h.of,by rw[Ah (λz=>by have:=h.od;rw[z,m.o] at this;injection this with this;injection this with this;exact m.f this)];exact h.d,h.od,h.nn,h.nd,λb v e=>?_,h.so,162)
 .have:b≠c:=λz=>(by have:=h.so b v e;rw[z,m.o] at this;cases this);rw[aCC];exact h.st b v e
 .have i:b≠c:=λz=>aGu;exact h.un b (by rwa[Ah i] at e)
 obtain⟨κ,a,rfl,ne,k⟩:=aAy;exact(203,ne,k.ev ev (λz=>m.k κ (tV z hq)) jF aD)
theorem AO.letGo(h:pN i)(m:mAi i):AO t X H (Ci o c none) n i:=by
 have ne1:∀b x,o b=aW ->x.1≠c->b≠c:=λb x e hx z=>by subst z;rw[m.o] at e;injection e with e;subst e;exact hx rfl
 refine(h.f,by rw[Cj (Asr m.f)];exact h.of,h.d,5,h.nn,h.nd,h.st,λb v e=>?_,162)
 .have s:X.D≠c:=λz=>by have:=h.od;rw[z,m.o] at this;injection this with this;injection this with this;exact m.f this
  rw[Cj s];exact h.od
 .by_cases z:b=c
  .subst z;exact IU
  rw[Cj z];exact h.so b v e
 .by_cases z:b=c
  .subst z;exact IU
  rw[Cj z];exact h.un b e
 obtain⟨κ,a,rfl,ne,dx,u,AA,g,y,C,k⟩:=aAy;have ac:a≠c:=λz=>m.k κ (tV z hq);have fr:∀b,o b=none->Ci o c none b=none:=λb e=>by
  by_cases z:b=c
  .subst z;exact IU
  rw[Cj z];exact e
 have I:∀b x,o b=mB (a,x,)->Ci o c none b=some (a,x,):=λb x e=>(mFX Cj (ne1 b _ e ac));obtain⟨fs,f1,f2,J⟩:=k.fin;obtain⟨ls,L,M,O⟩:=k.HM;refine(203,ne,dx,u,AA,g,y,C,k.at_,mC I k.oa,mC I k.IS,mC I k.IT,k.st,fr _ k.He,k.kb,k.AA,(fs,f1,f2,λx hx=>let(v,a1,a2,Q):=pI J;(v,a1,fr _ a2,Q)),(ls,L,M,gY),5)
 .obtain⟨W,l,e,ol,ns,n1,n2,n3⟩:=O p hp;exact(W,l,e,mC I ol,ns,n1,n2,λx hx=>let(v,a1,a2,Q):=pI n3;(v,a1,fr _ a2,Q))
 rcases k.Oi with z|⟨ga,U,xs,Y,aa,ab,ae,af,ag⟩
 .exact mG z
 refine mI (ga,U,xs,Y,aa,fr _ ab,ae,λj x G hx ah=>?_,ag);obtain⟨⟨ai,fo,so,W,ms,g1,g2,g3,aj,ak,am,an,ao⟩,ap⟩:=af j x G hx ah;exact((ai,fo,so,W,ms,g1,fr _ g2,g3,fr _ aj,ak,am,fr _ an,ao),ap)
theorem Oj[mDk α]:∀{l m:cM},l.Nodup->(∀x∈l,x∈m)->l.length<=m.length
 |[],m,_,_=>aT
 |x::l,m,hd,hs=>by
  rw[AtY] at hd;have a:=Oj (l:=l) (m:=m.erase x) hd.2 λy hy=>by grind
  grind
theorem AO.len(h:pN i):i.length<=10000:=by
 have key:∀l:bI,aAN.Nodup->(∀q∈l,∃κ,q.1=eR /\Kb κ)->l.length<=10000:=by
  intro l hd hk;obtain⟨j,s,u⟩:∃j:mZ Kt,aAN=j.map Ds/\∀κ∈j,Kb κ:=by
   clear hd
   induction l with
   |nil=>exact([],2,9)
   |cons q l v=>
    obtain⟨j,s,u⟩:=v λx hx=>pA hk x hx;obtain⟨κ,e,b⟩:=hk q aC;refine(κ::j,by rw[Asn,Asn,s,e],eA);grind
  rw[s] at hd;have hd2:j.Nodup:=by rw[List.Nodup,Avh] at hd;exact hd.imp λ{a b}y e=>y (by rw[e])
  have:=Oj (l:=j.map λκ=>κ.m+2*(κ.w+5*κ.p)) (m:=pB 10000) (by
   rw[List.Nodup,Avh];refine List.Pairwise.imp_of_mem ?_ hd2;intro a b ha hb y e;have b1:=u a ha;have z:=nN u;have:=b1.m;have:=b1.w;have:=z.m;have:=z.w;apply y;obtain⟨am,C,ap⟩:=a;obtain⟨bm,I,J⟩:=b;simp only at*;have L:am=bm:=aA;have M:C=I:=aA;have e3:ap=J:=aA;subst L M e3;rfl) (λx hx=>by
   obtain⟨κ,O,rfl⟩:=nY hx;have b1:=u κ O;have:=b1.m;have:=b1.w;have:=b1.p;rw[Atj];omega)
  rw[ArX,As4] at this;have e:=yU s;grind
 refine key i h.nd λq hq=>?_;obtain⟨κ,a,e,_,dx,Q,AA,g,U,Y,k⟩:=aAy;exact(κ,by rw[e],k.kb)
abbrev Ap0(wd:Wd)(sh:Addr)(Bl M:Nat):List gC:=[("vowel_first",aDI,),("shapes",mF sh,),("cost",mE (Bl:Int),),("words",aGv,)]
def HN(t:Aw)(H:Hp)(q:Addr)(S:iD)(i:Nat):Prop:=∃(dx sh a b:Addr)(M:Nat),H q=mB (nC t.CM (Ap0 cG.wd sh cG.Bl M))/\H sh=oO aAk /\wV a cG.wd.DF/\wV b cG.wd.CO/\ aDR
def Be(f:bE)(n:Nat):List Nat:=aAJ.map f
def KM(H:Hp)(v:Addr)(f:kF):Prop:=∃a b,H v=oO aAk /\H a=uG (f 0)/\H b=uG (f 1)
structure DT(t:Aw)(X:Fw):Prop where
 Aq:X.E.Aq<=12
 pl:G8 t X.Hs X.P X.E.T
 twd:∃dx fs twA kv,X.Hs X.P=oN t.A_ fs/\oE ("twins":Str)=mH twA/\X.Hs twA=qH kv/\∀p,aD4=true->Bc kv (sD mG p)=some (mE ((1<<<X.E.tw p:Nat):Int))
 AT:∀p,aD4=true-> aAz<1000/\∀l,C8 X.E.T l p↔C8 X.E.T l aAz
 Ap2:∃qs:aQ,X.Hs X.SA=pU qs.map/\qs.length=X.E.S.length/\∀(i:Nat)(q:Addr),qs[i]? =dE ->HN t X.Hs q X.E.S i
 Hf:∃vs:aQ,X.Hs X.VA=pU vs.map/\vs.length=X.E.Aq+1/\∀(r:Nat)(v:Addr),vs[r]? =bK ->KM X.Hs v (vw X.E r)
 BQ:∀i,i<X.E.S.length->DR lM.wd
 Ol:Bu X.E.S X.E.S.length<=64
 sl:X.E.S.length<=64
 wl:∀i m,i<X.E.S.length->(lM.wd.sh m).A2.length<=1000
 KN:∀r m w p,m<=1->w<=4->(vw X.E r m w).testBit p=true-> aD4=true
theorem DT.Mp(ok:eL)(h:nJ aOL.testBit p):p<1000:=by
 rcases Atq p 1000 with q|q
 .exact q
 rw[mIt (ok.pl.b.B2 2) q] at h;cases h
def Fu(E:FE)(pl:Nat):Nat:=(pB 1000).foldl aOM 0
theorem PP(E:FE)(pl x:Nat):(Fu E pl).testBit x=true↔∃p,p<1000/\mD3 p=true/\x=E.tw p:=by
 have:∀(n r:Nat),(aAJ.foldl aOM r).testBit x=true↔yV x=true\/∃p,p<n/\mD3 p=true/\x=E.tw p:=by
  intro n
  induction n with
  |zero=>intro r;simp
  |succ n a=>
   intro r;rw[Atl,At4,Ati,List.foldl_nil];by_cases h:mD3 n=true
   .rw[mJ h,Ate,Atx,a,Eb];grind
   grind
 unfold Fu;rw[this];simp
def Om(t:Aw)(X:Fw)(H:Hp):Prop:=∃n:Nat,H X.F=mB (mCr n)/\Ab X.Hs H
theorem AO.ff(h:pN g):Om t X H:=(mQ n h.f h.st)
theorem Om.same(h:Om t X H)(s:aO):Om t X H':=let(n,a,b):=h;(n,nM a,nB b s)
def Ap3(t:Aw):Sp:=λvs H Q _=>∃(X:Fw)(pl:Nat),vs=[kH,mAc mE]/\ eL /\Om t X H/\(∀p,mD3 p=true-> aD4=true)/\∀H',aO ->oV (mE ((Fu X.E pl:Nat):Int))
theorem SU:AD ["self","places","firsts","place"] aA9 (A0 Aar):=aG
theorem Ap4(T:aE):A4 P w K mg base A9 3 t.MZ t.AbD aA9 (Ap3 t):=by
 refine mB2 T.MZ.F.ok SU
 .obtain⟨X,pl,rfl,_⟩:=h;rfl
 obtain⟨X,pl,rfl,ok,⟨n,hF,f⟩,g,k⟩:=h;obtain⟨dx,fs,l,m,o,u,v,z⟩:=ok.twd;have B:mCt pl:=by
  apply Atn;intro i C
  cases hb:mD3 i with
  |false=>rfl
  |true=>have:=ok.Mp (g i hb);omega
 refine(_,(Ak (qJ SU.nd Ar)
  (Ak (rV (pT (mLB dX)) (oJ 3 SU.nd) (Ao (Hw (i:=2) SU.nd rfl cX (Lr (F5 d) kI bB fD) FX)))
  aBi)),5)
 refine(0,pl,2,B,λD L G I s0 J M=>(mFT L M));refine E4 (K:=K) (a:=L) (xs:=iv (Fb D)) (λj σ H1=>∃(r:Nat)(N:bQ),σ=[jG,mAc mX,mX (r:Int),N]/\H1=G/\∀x,yV x=true↔∃p,p∈D.take j/\x=aAz)
  (64,61,26,λx=>by simp) (λj σ H1 _ (_,_,_,e,_)=>by rw[e];exact mN M) ?_ ?_
 .rintro j y σ H1 hj ⟨r,N,rfl,rfl,d⟩;rw[ArY] at hj;obtain⟨bt,O,rfl⟩:mLC D:=by
   cases e:(Fb D)[j]? with
   |none=>rw[e] at hj;cases hj
   |some x=>rw[e] at hj;exact lL
  obtain⟨p,hp,rfl⟩:∃p,D[j]? =mB p/\bt=1<<<p:=by
   rw[Fb,ArY] at O
   cases e:D[j]? with
   |none=>rw[e] at O;cases O
   |some x=>rw[e] at O;exact(tI x O)
  refine(16,28,mC s0 hF,46,T.Vq,2,X.P,_,dx,fs,0,nV s0 f o,35,T.RK,u,0,l,0,.inl (m,sD mG p,mG (nV s0 f v),2,(z p (g p ((I.2 p).mp (Asl hp)))).symm),13,r|||1<<<aAz,0,2,λx=>?_);rw[Ate,Atx,d,Eb,AsA,hp];simp only[Option.toList_some,List.mem_append,List.mem_singleton];constructor
  .rintro(⟨q,a,b⟩|q)
   .exact(q,mG a,b)
   exact(p,eB,q)
  rintro⟨q,a|a,b⟩
  .exact mG (mQ q a b)
  subst a;exact mI b
 rintro σ H1 ⟨r,N,rfl,rfl,d⟩;have e:r=Fu X.E pl:=by
  apply Atg;intro x;have U:=d x;rw[ArX,Fb,ArX,AsC] at U;have:yV x=true↔(Fu X.E pl).testBit x=true:=by
   rw[U,(PP X.E pl x)];constructor
   .rintro⟨p,a,b⟩;have hb:=(I.2 p).mp a;exact(p,ok.Mp (g p hb),hb,b)
   rintro⟨p,_,a,b⟩;exact(p,(I.2 p).mpr a,b)
  cases Y:yV x<;>cases h4:(Fu X.E pl).testBit x<;>simp[Y,h4] at this⊢
 rw[e];exact(0,k _ s0)
def Aff(b:Bool)(xs:aL):HO:=if b then .Ac xs else iP
theorem CS.of(h:H a=mB (Aff b xs)):CS K b H a xs:=by
 cases b with
 |true=>exact mN h
 |false=>exact nQ h
def Cs(E:FE)(i w pl:Nat):gS:=if aON ≠0 then(w,aON,) else(0,0,)
theorem On(h:xs≠[])(hx:xs[xs.length - 1]? =aW):BX xs (-1)=some x:=by
 unfold BX;have a:mEU 1:=by
  cases xs with
  |nil=>exact rB h
  |cons=>simp
 rw[Adx a];exact hx
theorem SV(f:bE){w n:Nat}(h:w<n):BX aGw (w:Int)=some (sR mE f w):=by apply AZ;rw[ArY,Be,ArY,AsY h];rfl
def Cz(H:Hp)(r:Addr)(w pl:Nat):Prop:=H r=oO [mE (w:Int),mAc mE]
def Ap5(t:Aw):Sp:=λvs H Q _=>∃(X:Fw)(b1:Bool)(sa s0 s1:Addr)(a b c P1:Nat),vs=[kH,mF sa]/\ eL /\Om t X H/\H sa=mB (Aff b1 [mF s0,mF s1])/\Cz H s0 a b/\Cz H s1 c P1/\a<=4/\c<=4/\
 ∀R d e H',aO ->H R=none->H d=none->H e=none->H' R=xG d e->Cz H' d (qV 0 a b).1 (qV 0 a b).2->Cz H' e (qV 1 c P1).1 (qV 1 c P1).2->oQ R
theorem PQ:AD ["self","states","left","state","finishing","places"] aB9 (A0 Aaq):=aG
theorem Afg(T:aE):A4 P w K mg base A9 4 t.Ko t.AbC aB9 (Ap5 t):=by
 refine pF T.Ko.F.ok PQ
 .obtain⟨X,b1,sa,s0,s1,a,c,d,P1,rfl,_⟩:=h;rfl
 obtain⟨X,b1,sa,s0,s1,a,c,d,P1,rfl,ok,ac,f,ae,af,ag,ah,k⟩:=h;obtain⟨ai,hF,g⟩:=id ac;obtain⟨Hf,aj,ak,al⟩:=ok.Hf;obtain⟨m,am⟩:∃m,Hf[X.E.Aq]? =some m:=(_,mIC X.E.Aq Hf.length);obtain⟨an,ao,ap,aq,ar⟩:=mC al am;refine(_,(Ak (qJ PQ.nd dM)
  (Ak (BS Asq rfl (AeM (K:=K) b1 false rfl rfl T.K0 (uW aP (qU aY eY))) (uA 3 PQ.nd 4) (Ak (sQ PQ.nd (Bx aK T.B_.c T.MZ.h (Ap4 T) bR T.MZ.b .nil Ay (mU (AE Hc (qZ 3) (qU bG (qZ 3))))))
  (Ao (Cu (mDx (mU (Ie (qY bJ) (CV (oP (qZ 3) bJ)) (CV (vO Ar)))))))))
  (wA (CV (vO gL))))),5)
 refine(aT,λD as=>?_);have o:Ab H (pK H D):=mS as;refine(16,28,mC o hF,46,T.Vr,31,X.VA,36,nA o (mC g aj),On (x:= mF m) (λe=>by rw[At2] at e;rw[e] at ak;simp at ak) (by rw[ArX,ak,At6,ArY,am];rfl),sa,m,3,mFY o,mFZ o,5);have au:∀(j q u p:Nat),j<=1->q<=4-> aGx.testBit p=true-> aD4=true:=λj q u p hj hw h=>by rw[Atd,AsF] at h;exact ok.KN _ j q p hj hw h.2
 refine Fn (J:=SI K b1 false sa m) 2 (λj σ H1=>∃(v v4 B:bQ)(done:aL),σ=[jG,mH sa,mH D,v,v4,B]/\ fP /\H1 D=mB (.Ac done)/\done.length=j/\(mLO 1 0 mLP)/\(mLO 2 1 mLQ))
  (183,[],2,o,90,kJ,kJ) ?_ ?_ ?_ ?_
 .rintro j σ H1 hj ⟨v,v4,B,done,rfl,C,_⟩;refine(49,mFY C,mFZ C,mID j s0 s1,mID j an ao)
 .rintro σ H1 ⟨v,v4,B,done,rfl,C,_⟩;exact(19,mFY C,mFZ C,mG aD)
 .rintro j σ H1 y av hj ⟨v,v4,B,done,rfl,C,aw,ax,ay,az⟩ ⟨a0,x,a3,rfl,a4,rfl,hx,hy⟩;have hx':=hx _ (mFY C);have a5:=hy _ (mFZ C);obtain⟨G,I,q,u,rfl,rfl,a6,a7,a8,a9,ba⟩:∃G I q u,x= mF G/\a3= mF I/\Cz H G q u/\H I=uG (vw X.E X.E.Aq j)/\q<=4/\(j=0->q=a/\u=c)/\(j=1->q=d/\u=P1):=by
   match j,hj with
   |0,_=>exact(s0,an,a,c,223,ae,mC g aq,ag,204,kJ)
   |1,_=>exact(s1,ao,d,P1,223,af,mC g ar,ah,kJ,204)
  have s2:Ab H1 (Aa H1 a0 (tR G I)):=mS a4;have L:Ab H (Aa H1 a0 (tR G I)):=nB C s2;refine(mFu a0 Af);generalize Aa H1 a0 (tR G I)=av at s2 L;refine(22,mC L hF,31,G,36,rK L a6,77,16,G,36,rK L a6,cP,I,36,nA L a7,SV _ aA,13,X,0,ok,ac.same L,λp hp=>au j q u p aA a8 hp,λM s3=>?_);have bb:=nB L s3;have bc:=nV s3 s2 aw;refine(0,pY bc,5);have bd:∀(r:Addr)(be bf:Nat)(N:Hp)(l:aL),Cz H1 r be bf->Ab M N->r≠D->Cz (nD N D l) r be bf:=λr be bf N l h bg bh=>by show(nD N D l) r=_;rw[Ah bh];exact nV bg s3 (pS h)
  have tail:∀(O:Addr)(N:Hp),Ab M N->M O=none->Cz N O (qV j q u).1 (qV j q u).2->∃(U:aL),(aGy) D=nU U/\U.length=j+1/\(1<=j+1->∃r,aJ0 /\U[0]? =mH r/\mLP aGy)/\(2<=j+1->∃r,aJ0 /\U[1]? =mH r/\mLQ aGy):=by
   intro O N s4 Y bi;have bj:O≠D:=λe=>(by rw[e,bc] at Y;cases Y);have bk:Cz aGy O (qV j q u).1 (qV j q u).2:=by show(Aa N D _) O=_;rw[Ah bj];exact bi
   refine(_,Af,by simp[ax],λ_=>?_,λbl=>?_)
   .rcases(by omega:xH j) with rfl|rfl
    .obtain⟨rfl,rfl⟩:=a9 rfl;obtain rfl:done=[]:=uV ax;exact(O,(bj,BL bb Y),2,bk)
    obtain⟨r,bm,bn,bo⟩:=ay aD;exact(r,bm,by rw[Ask aA];exact bn,bd _ _ _ _ _ bo s4 bm.1)
   obtain rfl:j=1:=aA;obtain⟨rfl,rfl⟩:=ba rfl;exact(O,(bj,BL bb Y),by rw[eN,ax];rfl,bk)
  have bp:∀(N:Hp)(l:aL),Ab M N->Ab H (nD N D l):=λN l s4=>wB bb s4 as;refine aAm;by_cases c0:Fu X.E aGx=0
  .rw[show aOO=false by rw[c0];rfl];refine Az (20,λO Y=>?_);obtain⟨U,a1,a2,bq,br⟩:=tail O (Aa M O (.Al [bZ,bZ])) (mS Y) Y (by unfold Cs;rw[yC z c0];exact Af);exact aOP
  rw[show aOO=true by simp;omega];refine Au (0,G,36,rK bb a6,cP,0,20,λO Y=>?_);obtain⟨U,a1,a2,bq,br⟩:=tail O (Aa M O (mF0 (q:Int) ((Fu X.E aGx:Nat):Int))) (mS Y) Y (by unfold Cs;rw[mJ c0];exact Af);exact aOP
 rintro σ H1 ⟨v,v4,B,done,rfl,C,aw,ax,ay,az⟩;obtain⟨bs,bt,a9,bu⟩:=ay aA;obtain⟨bv,bm,ba,g1⟩:=az aA;refine(0,D,36,mN aw,mB4 a9,0,D,36,mN aw,AZ (j:=1) ba,gF,λR bw=>?_);exact k R bs bv _ (Ab.BG C (BL C bw)) (BL C bw) bt.2 bm.2 Af (mAa bw bu) (mAa bw g1)
theorem Afh(a p:Nat):a&&&1<<<p≠0↔xM p=true:=by
 rw[M0];constructor
 .rintro⟨i,b,c⟩;rw[Eb] at c;subst c;exact b
 intro h;exact(p,h,mFC p)
theorem Ap6(h:KM H v f){m:Nat}(hm:m<=1):∃d e lm,H v=xG d e/\mIE d e=mH lm/\H lm=some (yN pW (f m)):=by
 obtain⟨d,e,a,b,c⟩:=h;rcases(by omega:xH m) with rfl|rfl
 .exact(d,e,d,a,cP,b)
 exact(d,e,e,a,77,c)
theorem WY(h:H q=oO [aGq,aJ])(b:Cz H a κ.w (1<<<κ.p)):Dv H eR q:=by refine(oS (q,133,(mIF a b),2));simp[Ds,Ky.depth,Ky.C2]
theorem Oo(h:aJZ):∀a∈ aCy,a∈IR E:=by intro a ha;obtain⟨i,b,rfl⟩:=nY ha;unfold IR AH;grind
theorem JA(ok:eL):∀a∈IR X.E,DR a:=by intro a ha;obtain⟨s,hs,rfl⟩:=nY ha;obtain⟨i,b,rfl⟩:=Asy hs;have:=ok.BQ i b;unfold AH at this;grind
theorem Ap7(ok:eL)(kb:Kb κ)(a:nJ (mA3 AA).testBit κ.p)(b:∀r,r<AA->(mA3 r).testBit κ.p=false):WX X.E κ AA:=by
 constructor
 .rintro q ⟨c,d,e⟩;rcases Atq q.length AA with h|h
  .exfalso;have:=(mLR q.length).mpr (_,Oo c,by simp[Cc],d);have f:=b _ h;unfold vw at f;rw[this] at f;cases f
  exact h
 rintro rfl;obtain⟨q,_,g,hp⟩:=(mLR 0).mp a;obtain rfl:q=[]:=uV aA;exact(9,hp,aT)
theorem Ap8:∀{n:Nat},p n=true->∃x r,(pB (n+1)).filter p=x::r/\p x=true/\∀y,y<x->p y=false:=by
 intro n h;have key:∀k,k<=n+1->(∃x r,(pB k).filter p=x::r/\p x=true/\∀y,y<x->p y=false)\/((pB k).filter p=[]/\∀y,y<k->p y=false):=by
  intro k
  induction k with
  |zero=>intro _;exact mI (2,λy hy=>by omega)
  |succ k a=>
   intro hk;rw[Atl,Ath];grind
 rcases key (n+1) aD with h'|⟨_,h'⟩
 .exact h'
 rw[h' n aA] at h;cases h
theorem Mq[mDk κ]{a:fG}{k:κ}(h:Bc a k=bK):(k,v,)∈a:=by
 unfold Bc at h
 cases hf:a.find? (λb=>decide (b.1=k)) with
 |none=>rw[hf] at h;cases h
 |some q=>
  grind
theorem AO.more(h:pN g)(kb:Kb κ)(hf:WX X.E κ AA)
 (i:yB g eR) (ha:mV H a) (j:mV H s) (v:mV H B) (hk:mIG H X.D) (C:H' X.D=sM aGz)
 (a1:H' a=oN t.BD (Dm κ I AA .Ax s B)) (a2:H' s=nU []) (J:H' B=qH []) (L:H' I=oO aOI) (os:mV o I) (M:I≠a/\I≠s/\I≠B):
 ∃o',mCu aGz /\Gw X.F o H g o' H' aGz:=by
 let o':Bj:=λc=>if c=a\/c=s\/c=B then tP a else o c
 have BM:aOQ:=λc u e=>by grind
 have ev:Ev (λb=>b=X.F) o H o' H':=by
  refine(λc u e nb=>?_,BM,aGA)
  .refine hk c u e λz=>?_;subst z;exact nb _ h.od rfl
  grind
 have rg:∀O x,Rg g O x->Rg aGz O x:=λO x q=>AsI _ q;have Q:=ZL i;refine(o',(hk _ _ h.f (λe=>by have:=h.f;rw[e,h.d] at this;cases this),aOR,C,aOS,h.nn,5,aGA,λc u e=>(mC BM (sS h.st)).trans (sS h.so),λc e=>?_,eI),ev.As (λ_ z=> mG z),rg,λO x q=>?_)
 case refine_5=>
  rcases pD q with q|q
  .exact mG q
  grind
 .rw[As7,AsT];refine(h.nd,9,λx hx y hy e=>?_);grind
 .have hc:=sS h.st;exact hk c u hc λz=>(by subst z;have:=mC h.so e;rw[h.od] at this;cases this)
 .show(if c=a\/c=s\/c=B then tP a else o c)=none;rw[Asa]
  .refine h.un c ?_
   cases q:H c with
   |none=>rfl
   |some u=>obtain⟨u',e'⟩:=ev.there c u q;rw[e] at e';cases e'
  grind
 rcases pD hq with hq|hq
 .obtain⟨O,x,e,ne,k⟩:=aAy;exact(O,x,e,ne,k.ev ev ne rg aD)
 obtain rfl:q=(eR,aJ,):=(mR hq);refine(203,(λz=>by rw[z,h.f] at ha;cases ha),dx,I,AA,.Ax,s,B,a1,mJ bA,mJ (mI bA),mJ (nG mI rfl),L,5,kb,hf,(mF1 a2),(mF1 J),bA);grind
def Ap9(t:Aw):Sp:=λvs H Q _=>∃(X:Fw)(o:Bj)(n:Nat)(b:bI)(c:Addr)(κ:Kt),vs=[kH,aGq,mF c]/\ eL /\pN b/\Cz H c κ.w (1<<<κ.p)/\o c=none/\Kb κ/\(mA3 X.E.Aq).testBit κ.p=true/\
 ∀a o' H' d,mCu d->vC X.F b d->uF d->oV aJ
abbrev ApA:List Str:=aOT
theorem PR:AD aOT aIP (A0 Vb):=aG
theorem ApB(T:aE):A4 P w K mg base A9 3 t.M_ t.AbF aIP (Ap9 t):=by
 refine pF T.M_.F.ok PR
 .obtain⟨X,o,n,b,d,κ,rfl,_⟩:=h;rfl
 obtain⟨X,o,n,b,d,κ,rfl,ok,fs,f,ac,kb,ae,k⟩:=h;have hu:=F5 ab;have af:=fs.len;obtain⟨Hf,g,ag,ah⟩:=ok.Hf;refine(_,(Ak (rW PR.nd (CV (pM 1 2)))
  (Ak (AU (Yl (Zr hu bB aY)) (Ak (HD (i:=4) rfl PR.nd rfl rfl iY aJk (BZ (own:=[("rest",5,),("view",6,)]) (yF ApA Vb)) (qK (uA 5 PR.nd 6)) (λ_ _ _ _ _=>Rk (qY (AE Hc (qU (tL cA aP) (qZ 2)) (qZ 2)))) (qK bJ))
  (Ao (mB0 aY bB (Dc T.CN.k (Apl T) bR rfl T.CN.m T.MT.b .nil Ay (Ad aP (oP aX (vM B9 4))))))) AY)
  (wA (Lr hu aY bB fD)))),5)
 refine(16,gF,λl ai=>?_);have sK:Ab H (oA l aD5):=mS ai;have m:=mA4 sK;have aj:Dv (oA l aD5) eR l:=WY Af (mC sK f);have ak:(oA l aD5) l=some aD5:=Af;generalize Aa H l aD5=H1 at sK m aj ak;refine(16,28,m.f,46,T.NC,2,X.D,0,mI (205,2),0,5)
 cases q:Bc b eR with
 |some v=>
  refine cF;obtain⟨al,a,e,_⟩:=fs.kn _ (Mq q);injection e with am an
  subst an;refine(0,28,m.f,105,mI (205,q.symm),k a o H1 b m (rL sK) (Mq q))
 |none=>
  refine eF;refine(0,28,m.f,46,T.Vr,2,X.VA,0,nA m.st g,λL ao=>?_);refine EA (J:=MM K X.VA) Hf.length (λj B=>tX B/\B L=some (tH iv (aBA.filter λr=>(mA3 r).testBit κ.p))) (yM ao)
   (λj B hj ap=>(19,mF2 ap.1 g,224)) (λB ap=>(_,mF2 ap.1 g,188)) ?_ ?_
  .rintro j B y aq hj ⟨s2,C⟩ ⟨D,x,rfl,ar,rfl,hx⟩;have hx':=hx _ (mF2 s2 g);rw[ArY,cT] at hx';simp at hx';subst hx';obtain⟨as,au,lm,av,aw,ax⟩:=Ap6 (ah j _ cT) kb.m;have s3:Ab B (Aa B D (mCv Hf[j])):=mS ar;have G:=lI;have ay:mD4 B D (mCv Hf[j]):=Af;have az:=rZ C;generalize Aa B D (mCv Hf[j])=aq at s3 G ay az;refine(D,0,nQ ay,2,3,8,202,Hf[j],36,nQ (nV G m.st av),aw,163,cP,lm,36,mF2 G ax,SV _ (zY kb.w),163,77,13,0,5);have I:(pB (j+1)).filter aJ1=aBA.filter aJ1++if aGB then[j] else[]:=by
    rw[Atl,Ath];congr 1
    cases hb:aGB<;>simp[hb]
   have a0:(((aCD&&&1<<<κ.p:Nat):Int) != 0)=aCD.testBit κ.p:=by
    cases hb:aGB with
    |true=>
     have:=(Afh aCD κ.p).mpr hb;simp;omega
    |false=>
     have:¬(aCD&&&1<<<κ.p≠0):=λz=>(by rw[(Afh _ _).mp z] at hb;cases hb);have:aCD&&&1<<<κ.p=0:=aA;rw[this];rfl
   rw[a0]
   cases hb:aGB with
   |true=>
    rw[hb,bF] at I;refine Au (0,_,az,BA ?_,qS G ao,5)
    .rw[ArX];have:=Aun aJ1 aBA;rw[As4] at this;have:=ok.Aq;omega
    rw[Af,I];simp
   |false=>
    rw[hb,bS] at I;refine Az (oS G);rw[az,I,Aum]
  rintro B ⟨s2,C⟩;rw[ag] at C;obtain⟨AA,a1,a2,a3,a4⟩:=Ap8 (p:=λr=>(mA3 r).testBit κ.p) (n:=X.E.Aq) ae;rw[a2] at C;have M:=m.same s2;refine(42,160,cP,λa dx ha a5 a6=>(a,dx,d,κ,AA,215,λN O a7 a8 a9 ba bb=>fT));have bc:∀c,(Aa (qX B dx a) a (nC t.BD [])) c=none->B c=none/\c≠a/\c≠dx:=λc e=>by have bd:c≠a:=λz=>aGu;rw[Ah bd] at e;have be:c≠dx:=λz=>aGu;rw[Ah be] at e;exact(mQ e bd be)
  obtain⟨U,_,bf⟩:=bc N ba;obtain⟨bg,_,bh⟩:=bc O bb;have Y:∀c u,B c=aM ->(aD6) c=some u:=λc u e=>by rw[oF ha,oF bg,oF U,oF ha,oF a5];exact e
  have b1:(aD6) a=some (nC t.BD (Dm κ d AA .Ax N O)):=Af;have bi:tJ (aD6) N []:=(by rw[Ah a7,Ah a9,Af]);have bj:oI (aD6) O hX:=(wE Ah a8);generalize aD6=bk at Y b1 bi bj;have bl:Dv bk eR l:=WY (nV Y s2 ak) (mAj s2 sK f);have bm:=mC Y M.d;refine(0,28,mC Y M.f,105,mI (b,eR,l,bm,2,bl,BA aA,2),5);rw[MJ _ q];have bn:∀c u,B c=aM ->c≠a/\c≠N/\c≠O:=λc u e=>(AR e ha,AR e U,AR e bg);have bo:∀c,B c=none->c≠X.D:=λc e z=>(mBv z M.d);have bp:d≠X.D:=λz=>(mF3 fs.d z f);obtain⟨o',g1,g2⟩:=M.more (H':=aOU) kb (Ap7 ok kb a3 a4) q ha U bg (λc u e hc=>by rw[gO];exact sS Y) Af (oY (bo _ ha) b1) (oY (bo _ U) bi) (oY (bo _ bg) bj) (by rw[Ah bp];exact mAj s2 sK f) ac (nV bn s2 (mC sK f));have bq:l≠X.D:=λz=>(mF3 fs.d z ai);have br:Dv aOU eR l:=WY (by rw[Ah bq];exact nV Y s2 ak) (by show(Aa bk X.D _) d=_;rw[Ah bp];exact mAj s2 sK f)
  refine(0,28,g1.f,105,mI (_,eR,l,mG g1.d,2,br,5),k a o' _ _ g1 (Gw.trans (rL (nB sK s2)) g2) (sJ aC));rw[rT OR q,bF]
theorem Gw.Ci(g:aD7)(hc:mV H c):Gw F o H k (Vp.Ci o' c x) H' k':=
 ((g.ev.keep,λb u e=>by rw[mCs hc];exact g.ev.own b u e,g.ev.there),g.rg,g.fr)
theorem Gw.CA(g:aD7)(hc:mV H c):Gw F o H k o' (Aa H' c u) k':=
 ((λb v e n=>by rw[oF hc];exact g.ev.keep b v e n,g.ev.own,λb v e=>by rw[oF hc];exact g.ev.there b v e),g.rg,g.fr)
theorem Gw.free(g:aD7)(e:H c=aM)(h:mV o c):dO=aM /\o' c=none:=g.ev.free e h
theorem Gw.none(g:aD7)(e:dO=Option.none):H c=Option.none:=by
 cases q:H c with
 |none=>rfl
 |some u=>obtain⟨u',e'⟩:=g.ev.there c u q;rw[e] at e';cases e'
def FB(fl:aGC):List V:=fl.map λp=>nE p.2
def WZ(a b c P1:Nat)(κ:Kt):Prop:=(κ.m=0/\κ.w=a/\qB κ.p=true)\/(κ.m=1/\κ.w=c/\P1.testBit κ.p=true)
def ApC(t:Aw):Sp:=λvs H Q _=>∃(X:Fw)(o:Bj)(n:Nat)(b:bI)(sa s0 s1:Addr)(c d e P1:Nat),vs=[kH,mF sa]/\ eL /\pN b/\H sa=xG s0 s1/\o sa=none/\Cz H s0 c d/\o s0=none/\Cz H s1 e P1/\o s1=none/\c<=4/\e<=4/\
 (∀p,d.testBit p=true->(mD5 0 c).testBit p=true)/\(mLS P1.testBit 1 e)/\
 ∀L fl o' H' f,mCu f->vC X.F b f->H L=none->H' L=nU (FB fl)->o' L=none->(mIH f)->(mD6 d.testBit (mQ 0 c p))->(mD6 P1.testBit (mQ 1 e p))->(∀q∈fl,aJ2)->oQ L
abbrev ApD:List Str:=aOV
theorem Op:AD aOV aB9 (A0 Va):=aG
theorem Afi(T:aE):A4 P w K mg base A9 4 t.Kp t.AbE aB9 (ApC t):=by
 refine pF T.Kp.F.ok Op
 .obtain⟨X,o,n,ac,sa,s0,s1,c,d,e,P1,rfl,_⟩:=h;rfl
 obtain⟨X,o,n,ac,sa,s0,s1,c,d,e,P1,rfl,ok,fs,ae,af,ag,ah,ai,aj,ak,al,am,an,k⟩:=h;refine(_,(Ak (qJ Op.nd dM)
  (Ak (BS Asq rfl (Aow (K:=K) rfl rfl T.Ma dX) (uA 3 Op.nd 4) (Ao (Cu (Dz (K:=K) rfl As3 Au2 AuZ Rh aX (Ad (Dk rfl Op.nd (pT (Bb (WV T) bR rfl T.G0.m T.G0.F.kp T.G0.b .nil Ay (mU (qZ 4)))) (qM ("place",5,) ApD Va) (pR 5 Op.nd) cK (λ_ _ _ _ _=>(Bx aK T.B_.c T.M_.h (ApB T) bR T.M_.b .nil Ay (zS bB (CV (oP (qZ 4) bJ)))))) Ai)))))
  aBi)),5)
 refine(aT,λD ao=>?_);obtain⟨ap,mD,gD⟩:=mF4 fs.claim ao;refine(0,sa,0,nQ (gD.free ae af).1,5);refine Fn (J:=WR K sa) 2 (λj σ f=>∃(aq v4:bQ)(fl:aGC)(g:Bj)(r:bI),σ=[jG,mH sa,mH D,aq,v4,none]/\mAh f g r/\C6 t X f g r D/\Gw X.F o H ac g f r/\f D=nU (FB fl)/\fl.length<=j*1000/\(mIH r)/\(1<=j->∀p,d.testBit p=true->∃a,((mQ 0 c p),a,)∈fl)/\(2<=j->∀p,P1.testBit p=true->∃a,((mQ 1 e p),a,)∈fl)/\∀q∈fl,aJ2)
  (14,[],_,ac,2,ap,mD,gD,Af,aT,9,kJ,kJ,9) ?_ ?_ ?_ ?_
 .rintro j σ f hj ⟨aq,v4,fl,g,r,rfl,f1,ar,g1,_⟩;exact(19,aJ3,mID j s0 s1)
 .rintro σ f ⟨aq,v4,fl,g,r,rfl,f1,ar,g1,_⟩;exact(_,aJ3,aD)
 .rintro j σ f y as hj ⟨aq,v4,fl,g,r,rfl,f1,ar,g1,au,av,aw,ax,ay,az⟩ ⟨a0,x,rfl,a1,rfl,hx⟩;have hx':=hx _ aJ3;obtain⟨v,B,C,rfl,a2,a3,a4,a5,a6,a7⟩:∃v B C,x= mF v/\Cz H v B C/\o v=none/\B<=4/\(mLS C.testBit j B)/\(j=0->B=c/\C=d)/\(j=1->B=e/\C=P1):=by
   rcases(by omega:xH j) with rfl|rfl
   .exact(s0,c,d,111,ag,ah,ak,am,204,kJ)
   exact(s1,e,P1,111,ai,aj,al,an,kJ,204)
  have a8:Ab f (Aa f a0 (mCv v)):=mS a1;refine(mFu a0 Af);have f2:=f1.same a8;have a9:=ar.same a8;have g2:Gw X.F o H ac g (Aa f a0 (mCv v)) r:=g1.trans (rL a8);have ba:=mC a8 au;generalize Aa f a0 (mCv v)=as at f2 a9 g2 ba;have bb:=(g2.free a2 a3).1;have bc:mCt C:=by
   apply Atn;intro i G
   cases hb:C.testBit i with
   |false=>rfl
   |true=>have:=ok.Mp (ok.KN _ j B i aA a4 (a5 i hb));omega
  refine(0,pY ba,0,v,36,nQ bb,77,C,2,bc,λI bd be bf s3 bg bh=>(bd,2,(oX bh),λM bi=>?_));have bj:=f2.same s3;obtain⟨f4,bk,bl⟩:=mF4 bj.claim bi;have bm:mV g bd:=f2.un _ bg;have bn:Gw X.F g as r g be r:=rL s3;have bo:I.length<=1000:=by
   have:=Oj (l:=I) (m:=pB 1000) bf.1 λp hp=>by rw[Atj];exact ok.Mp (ok.KN _ j B p aA a4 (a5 p ((bf.2 p).mp hp)))
   rwa[As4] at this
  refine EA (J:=pZ bd) I.length (λi L=>∃(N:aGC)(O:Bj)(U:bI),mAh L O U/\C6 t X L O U M/\C6 t X L O U D/\Gw X.F g be r O L U/\L M=nU (FB N)/\N.length=i/\(∀q∈N,Rg U q.1 q.2)/\(∀p∈I.take i,∃a,((mQ j B p),a,)∈N)/\∀q∈N,aJ2)
   ([],_,r,f4,bk,((a9.same s3).gw bl (rZ ba)).2,bl,90,9,9,9) ?_ ?_ ?_ ?_
  .rintro i L G ⟨N,O,U,_,_,_,Y,_⟩;exact(19,aJ4,by rw[ArY,Fb,ArY,mK G];rfl)
  .rintro L ⟨N,O,U,_,_,_,Y,_⟩;exact(_,aJ4,by rw[ArX,Fb,ArX];exact aD)
  .rintro i L y bp G ⟨N,O,U,bq,br,bs,Y,bt,bu,bv,bw,bx⟩ ⟨rfl,hy⟩;have bz:=hy _ aJ4;rw[ArY,Fb,ArY,mK G] at bz;simp at bz;subst bz;have b0:=a5 I[i] ((bf.2 _).mp (Asw G));refine jD;refine(22,bq.f,202,v,36,nQ (aJ5.free bb (g2.free a2 a3).2).1,cP,0,gF,eI);have b1:Ab bp (Aa bp q (.Al [mO (B:Int),sD mO I[i]])):=mS hq;refine(X,O,n,U,q,aGD,2,ok,bq.same b1,Af,bq.un _ hq,(by show j<=1;omega,a4,ok.Mp (ok.KN _ j B _ aA a4 b0)),b0,λa o' b2 b3 b4 b5 b6=>?_);obtain⟨b7,b8⟩:=(br.same b1).gw b5 (mC b1 bt);obtain⟨u,hu⟩:=AvZ.mp bs.al;obtain⟨_,b9⟩:=(bs.same b1).gw b5 (mC b1 hu);refine(_,b7,BA (by rw[FB,ArX];omega),N++[(aGD,a,)],o',b3,b4.CA b8 _,b8.Aa,b9.Aa,(Y.trans ((rL b1).trans b5)).CA bi,206,by simp[bu],lR,gY,lR)
   .rcases pD hz with hz|hz
    .exact mC b5.rg (bv z hz)
    obtain rfl:z=(aGD,a,):=(mR hz);exact b6
   .rw[AsA,mK G,Atp,As0] at hp;rcases hp with hp|hp
    .obtain⟨b,hb⟩:=bw p hp;exact(b,AsI _ hb)
    obtain rfl:p=I[i]:=(mR hp);exact(a,sJ aC)
   rcases pD hz with hz|hz
   .exact bx z hz
   obtain rfl:z=(aGD,a,):=(mR hz);have ca:=(bf.2 _).mp (Asw G);rcases(by omega:xH j) with rfl|rfl
   .obtain⟨rfl,rfl⟩:=a6 rfl;exact mG (26,ca)
   obtain⟨rfl,rfl⟩:=a7 rfl;exact mI (26,ca)
  rintro L ⟨N,O,U,bq,br,bs,Y,bt,bu,bv,bw,bx⟩;rw[AsC] at bw;have cb:tJ L D (FB fl):=by exact((a9.same s3).gw Y (rZ ba)).1
  refine(D,M,8,cb,bt,AL (by have a7:uJ FB fl fl.length:=ArX ..;have cc:uJ FB N N.length:=ArX ..;omega),19,fl++N,O,U,2,bq.CA bs _,bs.Aa,(g2.trans aJ5).CA ao,206,by rw[Asi,AvL];omega,eI,λ_ p hp=>?_,λcd p hp=>?_,eI)
  .rcases pD hq with hq|hq
   .exact aJ5.rg _ _ (aw q hq)
   exact bv q hq
  .rcases(by omega:xH j) with rfl|rfl
   .obtain⟨rfl,rfl⟩:=a6 rfl;obtain⟨a,ha⟩:=bw p ((bf.2 p).mpr hp);exact(a,sJ ha)
   obtain⟨a,ha⟩:=ax aD p hp;exact(a,AsI _ ha)
  .obtain rfl:j=1:=aA;obtain⟨rfl,rfl⟩:=a7 rfl;obtain⟨a,ha⟩:=bw p ((bf.2 p).mpr hp);exact(a,sJ ha)
  rcases pD hq with hq|hq
  .exact az q hq
  exact bx q hq
 rintro σ f ⟨aq,v4,fl,g,r,rfl,f1,ar,g1,au,av,aw,ax,ay,az⟩;exact(0,k D fl (Ci g D none) f r (f1.letGo ar) (g1.Ci ao) ao au IU aw (ax aA) (ay aA) az)
theorem G8.same(h:G8 t H p g)(s:aO):G8 t H' p g:=by obtain⟨b,dx,fs,d,f,i,q,⟨u,c1,v,y⟩,h4⟩:=h;exact(b,dx,fs,d,f,nM i,q,(u,nM c1,v,λj p c z B=>nM (y j p c z B)),nM h4)
theorem Afj(l:aB):mFi (iv l) (-1)=iv l.dropLast:=by
 by_cases h:l=[]
 .subst h;rfl
 have a:1<=l.length:=by
  cases l with
  |nil=>exact rB h
  |cons=>simp
 rw[show(-(1:Int))= -((1:Nat):Int) from rfl,Se _ 1 aA jY,ArX];simp only[iv];rw[<-AuM,<-List.dropLast_eq_take]
def ApE(t:Aw):Sp:=λvs H Q _=>∃(p a sh:Addr)(b:BR)(w pl:Nat)(S:BU),vs=[aS,aJ,mF sh]/\G8 t H p b/\Cz H a w pl/\wV sh S/\EB S/\S.A2.length<=1000/\w<=4/\∀R H',aO ->H R=none->Cz H' R (CQ b w pl S).1 (CQ b w pl S).2->oQ R
theorem Oq:AD ["self","state","shape","weight","places","inner"] aIW (A0 Aa7):=aG
theorem W_(T:aE):A4 P w K mg base A9 2 t.Iz t.AbX aIW (ApE t):=by
 refine mBZ T.Iz.F.ok Oq
 .obtain⟨p,c,sh,g,l,pl,S,rfl,_⟩:=h;rfl
 obtain⟨p,c,sh,g,l,pl,S,rfl,hp,m,⟨n,o,q,r⟩,u,ab,hw,k⟩:=h;obtain⟨hb,dx,fs,d,f,B,hF,_⟩:=id hp;obtain⟨ac,C,D⟩:=T.LZ;refine(_,(Ak (rW Oq.nd (Bb (Sf T) dW rfl T.Fj.m T.Fj.F.kp T.Fj.b .nil Ay (oP (qZ 1) (pV 2))))
  (Ak (qN Oq.nd (qZ 1))
  (Ak (nI (Ff (qY (pV 2))) (oM (CV (pM 3 4))))
  (Ak (nI (pL Y7 bB (nP C D)) (mLT bB))
  (Ak (rV (pT (mDG (pV 2) eY)) (oJ 5 Oq.nd) (mLT bJ))
  (Ao (A3 (CV (uW (qU (pV 2) eY) bG))))))))),5)
 refine(0,c,36,nQ m,cP,135,q,65,2,l,S.Bk,31,c,36,nQ m,77,5);refine(135,q,27,_,mDI r,5);by_cases e:S.A2=[]
 .have G:oZ aGE.isEmpty:=(qO e);rw[G];refine Au (16,gF,λR I=>k R _ (mS I) I ?_);unfold CQ;rw[bV];exact Af
 have G:pH aGE.isEmpty:=by
  cases h:S.A2 with
  |nil=>exact nK h e
  |cons=>rfl
 rw[G];refine cF;have J:aOW:=by refine aOX;rw[ArX,ArY,<-Awg,Aud e];rfl
 have loop:∀(M:Nat),M=(if aD8=4 then pl else Dt g pl (BB aD8) true)->EL (M7 (QG K (Ux (U1 K) (mDH 2) Uv (Uw (Ui aH0 lF)))) (EY 5) (OG (OL t.A_ "after_syllable" (Aek t) [] E0 (Bo 0) (DY (Bo 4) (DY (CU (HA K) (tC (mF t.FT)) (Bo 5)) (vY tC aAU)))) (EY 4)))
  (J_ (QS (DY (CU (QX K) (mDH 2) (Ui aH0 lF)) (vY Bo 4)))) {nx:=λ_ H'=>cW,rt:=Q} [bM,mH c,mH sh,mII mX,mX (M:Int),none] H:=by
  intro M ae;refine(135,q,27,16,o,0,mN r,λL af=>?_);rw[Afj];have N:Ab H (nD H L lN):=mS af;refine(L,2,(oX Af),E4 (K:=K) (a:=L) (xs:=lN) (λi σ H1=>∃O,H1=nD H L lN /\σ=[bM,mH c,mH sh,mII mX,mX ((KC g M (S.A2.dropLast.take i):Nat):Int),O]) aFk (λi σ H1 _ (_,e,_)=>by rw[e];exact mN Af) ?_ ?_)
  .rintro i y σ H1 U ⟨O,rfl,rfl⟩;rw[ArY] at U;obtain⟨x,hx,rfl⟩:mLU S.A2.dropLast[i]?:=by
    cases e:S.A2.dropLast[i]? with
    |none=>rw[e] at U;cases U
    |some x=>rw[e] at U;exact(tI x U)
   refine(74,mC N B,hF.n1,16,73,mLV u.2 (Asl hx),p,g,_,BB x,182,2,hp.same N,NT x,169);rw[AsA,hx];unfold KC;rw[Atp,At4];rfl
  rintro σ H1 ⟨O,rfl,rfl⟩;rw[ArX,AsC];refine(135,mC N q,27,0,o,36,nA N r,J,0,gF,λR I=>?_);refine k R _ (Ab.BG N (BL N I)) (BL N I) ?_;unfold CQ;rw[bP,<-ae];exact Af
 refine iA;rw[show decide (mII mO=mO 4)=decide (aD8=4) from Fp _ 4];by_cases Y:aD8=4
 .rw[mW Y];refine Az (loop pl (by rw[mJ Y]))
 rw[mT Y];have ag:l<=3:=by
  rcases(by omega:l<=3\/l=4) with h|h
  .exact h
  exact nK (pJ h NS) Y
 refine Au (74,B,hF.n1,16,73,Pu (Jw ag u.1),p,g,_,BB aD8,true,2,hp,NT _,loop _ (by rw[mM Y]))
def EQ(c:Nat)(a b:gS):Ky:= .Al [.num (c:Int),.Al [mFp (a.1:Int) (a.2:Int),mFp (b.1:Int) (b.2:Int)]]
theorem Xa(h:H q=oO [aAt,mF sa])(d:H sa=xG e f)(i:Cz H e a.1 a.2)(k:Cz H f b.1 b.2):Dv H (EQ c a b) q:=by refine((q,133,(sa,0,d,3,(mIF e i),3,(mIF f k),2),2),5);simp[EQ,Ky.depth,Ky.C2]
theorem ApF(h:EQ c a b=EQ d e f):c=d/\a=e/\b=f:=by unfold EQ at h;grind
def CK(E:FE)(κ:Kt)(i m:Nat):gS:=Cs E m (mLW i).1 (mLW i).2
theorem PU(ok:eL){m w pl p:Nat}(hm:m<=1)(hw:jB)(h:nJ (qV m w pl).2.testBit p):(mD5 m (qV m w pl).1).testBit p=true/\(qV m w pl).1=w:=by
 unfold Cs at h⊢;split at h
 .rename_i e;rw[bV];refine(5,2);obtain⟨q,hq,hb,rfl⟩:=aGF.mp h;rw[Atd,AsF] at hb;obtain⟨a,b,c,d⟩:=(mLX q).mp hb.2;refine(mLX _).mpr (a,b,c,d.1,d.2.1,5);exact(mLY q).mp d.2.2
 simp at h
theorem SW{m w pl:Nat}(hw:jB):(Cs E m w pl).1<=4:=by
 unfold Cs;split
 .exact hw
 exact aT
theorem Afk(ok:eL)(kb:Kb κ)(c:i<X.E.S.length){fl:aGC}(h0:mIJ i 0)
 (d:mIJ i 1) (q:aB) (hq:mFW X.E):∃z∈fl,D6 X.E z.1 q:=by
 obtain⟨a1,a2,f⟩:=hq;have h:aOY:=λj hj=>pA a1 j hj;have Av:∀b∈Cc X.E.S q,DR b:=λb hb=>mIK h;rw[W8] at a2;have e:Cc X.E.S (i::q)=lM.wd::Cc X.E.S q:=rfl;rw[e,W7 X.E.T _ _ _ _ _ kb.w (ok.BQ i c) Av] at a2;have k:=PB Av;obtain⟨p,hp,l⟩:=(NY ..).mp a2.2;have n:=mIL ((ok.BQ i c).sh fW);have r:q.length<=X.E.Aq:=(by rw[As1] at f;omega);have s:=(J6 X.E.T (IR X.E) (JA ok) X.E.Aq fW _ p k n).mpr (_,Oo h,by simpa[Cc] using r,l);have u:=ok.KN _ _ _ p k n s;have v:aOZ.testBit aAz=true:=
  aGF.mpr (mLZ u s)
 have x:sE i fW=((mD7 i fW).1,aOZ,):=by unfold CK Cs;grind
 have key:∀m,fW=m->(mIJ i m)->∃z∈fl,D6 X.E z.1 q:=by intro m hm hc;subst hm;obtain⟨a,ha⟩:=hc aAz (oL x v);refine(_,ha,h,fT,r);rw[x];exact(l.2.1,(((ok.AT p u).2) _).mp l.2.2)
 grind
theorem ApG(ok:eL)(kb:Kb κ)(hq:mFW X.E):i<X.E.S.length/\ lM.wd.vf=κ.m:=(hq.1 i aC,hq.2.1.1)
theorem Afl(h:aDR)(a:i<S.length)(b:aJ6 <=64):M<2 ^ 64:=by
 apply Atn;intro x hx
 cases hb:M.testBit x with
 |false=>rfl
 |true=>
  have c:=((h x).mp hb).2;have d:=mFF i S.length a;have e:mIi i:=rfl;omega
structure GE where
 k:Ky
 x:Addr
 dx:Addr
 fo:Addr
 so:Addr
 W:Nat
 ms:List Nat
 G:J8
 s0:Nat×Nat
 s1:Nat×Nat
structure JB(t:Aw)(X:Fw)(H:Hp)(o:Bj)(kvs:bI)(κ:Kt)(j:Nat)(g:GE):Prop where
 k:g.k=EQ g.G.Bl g.s0 g.s1
 x:H g.x=some (.Ag t.CH g.dx (Ft g.G.Bl g.fo g.so g.W))
 mx:C6 t X H o kvs g.x
 fo:H g.fo=some (tH FB g.G.fl)
 HP:o g.fo=none
 rg:∀p∈g.G.fl,Rg kvs p.1 p.2
 so:H g.so=some (pW g.ms)
 IV:C6 t X H o kvs g.so
 len:g.ms.length=g.G.ss.length
 mask:∀(j i M:Nat),g.G.ss[j]? =mB i->g.ms[j]? =mB M->KG X.E.S i M
 W:g.W<2 ^ 500
 le:g.G.ss.length<=j
 ss:∀i∈g.G.ss,i<X.E.S.length/\ lM.Bl=g.G.Bl/\sE i 0=g.s0/\sE i 1=g.s1
 c0:∀p,g.s0.2.testBit p=true->∃a,((mQ 0 g.s0.1 p),a,)∈g.G.fl
 c1:∀p,g.s1.2.testBit p=true->∃a,((mQ 1 g.s1.1 p),a,)∈g.G.fl
section
variable {X:Fw} {H H':Hp} {o o':Bj} {kvs kvs':bI} {κ:Kt} {j j':Nat} {g:GE}
theorem JB.gw(h:mIM H)(w:vC X.F kvs kvs')(hj:j<=j'):JB t X H' o' kvs' κ j' g where
 k:=h.k
 x:=(h.mx.gw w h.x).1
 mx:=(h.mx.gw w h.x).2
 fo:=(w.free h.fo h.HP).1
 HP:=(w.free h.fo h.HP).2
 rg:=λp hp=>w.rg _ _ (h.rg p hp)
 so:=(h.IV.gw w h.so).1
 IV:=(h.IV.gw w h.so).2
 len:=h.len
 mask:=h.mask
 W:=h.W
 le:=AsV h.le hj
 ss:=h.ss
 c0:=h.c0
 c1:=h.c1
theorem JB.Aa(h:mIM H)(i:g.x≠c)(q:g.fo≠c)(s:g.so≠c):mIM (mD2 c) where
 k:=h.k
 x:=by rw[Ah i];exact h.x
 mx:=h.mx.Aa
 fo:=by rw[Ah q];exact h.fo
 HP:=h.HP
 rg:=h.rg
 so:=by rw[Ah s];exact h.so
 IV:=h.IV.Aa
 len:=h.len
 mask:=h.mask
 W:=h.W
 le:=h.le
 ss:=h.ss
 c0:=h.c0
 c1:=h.c1
end
def gD(gs:mZ GE):List (Ky×V):=gs.map λg=>(g.k,nE g.x,)
structure Eu(t:Aw)(X:Fw)(κ:Kt)(n:Nat)(o:Bj)(H:Hp)(kvs:bI)(D:Addr)(j b:Nat)(Hj:Hp)(oj:Bj)(kj:bI)(gs:mZ GE):Prop where
 fs:AO t X Hj oj n kj
 mD:C6 t X Hj oj kj D
 gw:Gw X.F o H kvs oj Hj kj
 d:Hj D=some (.dT (gD gs))
 ge:∀g∈gs,JB t X Hj oj kj κ j g
 nd:(gs.map (·.k)).Nodup
 pw:gs.Pairwise λa b=>a.x≠b.x/\a.so≠b.so
 len:gs.length<=b
 ER:∀i,i<j->i<X.E.S.length-> lM.wd.vf=κ.m->∃g∈gs,i∈g.G.ss
theorem ApH(h:Bc (gD gs) k=bK):∃g∈gs,g.k=k/\v= .ref g.x:=by obtain⟨g,hg,e⟩:=nY (Mq h);grind
theorem ApI(h:yB (gD gs) k):k∉gs.map (·.k):=by have:=ZL h;rw[gD,AsB] at this;exact this
theorem ApJ(c:(gs.map (·.k)).Nodup)(hg:g∈gs):Bc (gD gs) g.k=some (mF g.x):=by
 induction gs with
 |nil=>simp at hg
 |cons a gs d=>
  rw[Asn,AtY] at c;rcases oG hg with rfl|hg
  .exact FO (κ:=Ky) rfl
  have f:¬a.k=g.k:=λe=>c.1 (wM e AtE hg);rw[gD,Asn,FP f];exact d c.2 hg
section
variable {X:Fw} {κ:Kt} {n j b:Nat} {o oj:Bj} {H Hj:Hp} {kvs kj:bI} {D:Addr} {gs:mZ GE}
theorem Eu.same(h:aD9)(s:mFs Hj):Eu t X κ n o H kvs D j b H' oj kj gs:=
 (h.fs.same s,h.mD.same s,h.gw.trans (rL s),nM h.d,λg hg=>gP.gw (rL s) aD,170)
theorem Eu.Xb(h:aD9)(f:mCu k')(w:Gw X.F oj Hj kj o' H' k'):Eu t X κ n o H kvs D j b H' o' k' gs:=
 (f,(h.mD.gw w h.d).2,h.gw.trans w,(h.mD.gw w h.d).1,λg hg=>gP.gw w aD,170)
theorem Eu.As(h:aD9)(hj:j<=s)(hb:b<=u)(hc:∀i,j<=i->i<s->i<X.E.S.length-> lM.wd.vf≠κ.m):Eu t X κ n o H kvs D s u Hj oj kj gs:=
 (h.fs,h.mD,h.gw,h.d,λg hg=>gP.gw Gw.refl hj,h.nd,h.pw,AsV h.len hb,λi v y z=>by
  rcases Atq i j with q|q
  .exact h.ER i q y z
  exact nK z (hc i q v y))
theorem Eu.new(h:aD9)(hk:yB (gD gs) (EQ c s0 s1))(hx:mV Hj x)(s:mV Hj dx)(aa:dx≠x)(v:so≠x)(y:mV (mBK Hj t.CH) so)
 (ab:mV H D) (z:Hj L=nU (FB fl)) (ac:mV oj L) (ae:mIH kj) (c0:mD6 s0.2.testBit (mQ 0 s0.1 p)) (c1:mD6 s1.2.testBit (mQ 1 s1.1 p)):
 ∃o',Eu t X κ n o H kvs D j (b+1) (Aa (Aa (Aa (mBK Hj t.CH) so aDF) x (mDZ c L)) D aO0) o' kj (gs++[(mIN x)]):=by
 have B:mV Hj so:=by
  rw[Ah v] at y;by_cases e:so=dx
  .subst e;exact s
  rwa[Ah e] at y
 have C:=h.same (Ab.Aa (o:= .own x) s);obtain⟨f2,af,g2⟩:=C.fs.claim (u:= nC t.CH []) (wW aa hx);have I:=C.Xb f2 g2;obtain⟨J,ag,g3⟩:=mF4 I.fs.claim y;have O:=I.Xb J g3;have Q:=(af.gw g3 Af).2;have U:L≠x:=λe=>(by rw[<-e,z] at hx;cases hx);have ah:L≠so:=λe=>(mIx z);have ai:=O.mD.Aa (b:=x) (u:= mDZ c L);refine(_,(J.CA Q (mDZ c L)).CA ai aO0,ai.Aa,(O.gw.CA (h.gw.none hx)).CA ab,5,211,53,53)
 .rw[Af];simp[gD]
 .rcases pD hg with hg|hg
  .have q:=O.ge g hg;exact(q.Aa (λe=>by have:=gP.x;rw[e,hx] at this;cases this) (λe=>by have:=gP.fo;rw[e,hx] at this;cases this) (λe=>by have:=gP.so;rw[e,hx] at this;cases this)).Aa (λe=>by have:=gP.x;rw[e,h.d] at this;cases this) (λe=>by have:=gP.fo;rw[e,h.d] at this;cases this) (λe=>by have:=gP.so;rw[e,h.d] at this;cases this)
  obtain rfl:g=(mIN x):=(mR hg);refine(2,5,Q.Aa.Aa,5,(by rw[Cj ah,Cj U];exact ac),ae,5,ag.Aa.Aa,2,λj i M e=>by simp at e,(show(0:Nat)<2 ^ 500 from AuS 500),aT,9,c0,c1)
  .show(Aa _ D _) x=_;rw[nX (λe=>by rw[<-e,h.d] at hx;cases hx),Af]
  .show(Aa _ D _) L=_;rw[Ah (λe=>by rw[e,h.d] at z;cases z),Ah U,Ah ah,Ah U,Ah (λe=>by rw[<-e,z] at s;cases s)];exact z
  show(Aa _ D _) so=_;rw[nX (λe=>by rw[<-e,h.d] at B;cases B),Ah v,Af];rfl
 .rw[As7,AsT];refine(h.nd,9,λa ha Y hc' e=>?_);obtain rfl:Y=EQ c s0 s1:=(mR hc');exact ApI hk (e▸ha)
 .rw[Av6];refine(h.pw,9,λa ha Y hc'=>?_);obtain rfl:Y=(mIN x):=(mR hc');exact((λe=>by have:=(h.ge a ha).x;rw[e,hx] at this;cases this),(λe=>by have:=(h.ge a ha).so;rw[e,B] at this;cases this))
 .have:=h.len;simp;omega
 intro i aj ak am;obtain⟨g,hg,q⟩:=h.ER i aj ak am;exact(g,AsI _ hg,q)
theorem Eu.add(h:aD9)(hg:g∈gs)(aa:KG X.E.S j M)(s:M<2 ^ 64)(hj:j<X.E.S.length)(hc:lO.Bl=g.G.Bl)(h0:sE j 0=g.s0)(ab:sE j 1=g.s1)(u:mV H g.x)(v:mV H g.so):
 ∃C,Eu t X κ n o H kvs D (j+1) b aJ7 oj kj C/\∀z∈C,∃y∈gs,z.x=y.x/\z.so=y.so:=by
 have I:=gP;let g':GE:=(g.k,g.x,129,g.W|||M,g.ms++[M],(g.G.Bl,g.G.fl,g.G.ss++[j]),g.s0,g.s1);have ac:JB t X aJ7 oj kj κ (j+1) g':=by
  refine(I.k,Af,I.mx.Aa.Aa,5,I.HP,I.rg,5,I.IV.Aa.Aa,5,λa i J ae af=>?_,53,λi L=>?_,I.c0,I.c1)
  .show(Aa _ _ _) g.fo=_;rw[mCw Ah I.HP I.mx.o,mCw Ah I.HP I.IV.o];exact I.fo
  .show(Aa _ _ _) g.so=_;rw[nX (λe=>by have:=I.x;rw[e,I.so] at this;cases this),Af];grind
  .show(g.ms++[M]).length=(g.G.ss++[j]).length;rw[Asi,Asi,I.len];rfl
  .have O:=ae;have Q:=af;by_cases ha:a<g.G.ss.length
   .rw[Ask ha] at O;rw[Ask (oL I.len ha)] at Q;exact I.mask a i J O Q
   have ag:=(nL O).1;rw[Asi,AsD] at ag;obtain rfl:a=g.G.ss.length:=aA;rw[lB,At9] at O;rw[<-I.len,lB,At9] at Q;grind
  .exact Nat.or_lt_two_pow I.W (yW s)
  .have:=I.le;grind
  have hi':=L;rcases pD hi' with hi'|hi'
  .exact I.ss i hi'
  grind
 obtain⟨A,B,ah⟩:=List.append_of_mem hg;subst ah;have ai:=h.pw;rw[Av6,AvR] at ai;refine(A++g'::B,((h.fs.CA I.IV (.Ac (iv g.ms++[aGv]))).CA I.mx.Aa aO1,h.mD.Aa.Aa,(h.gw.CA v).CA u,5,lR,53,5,λi L aj ak=>?_),lR)
 case refine_7=>
  grind
 .rw[mCw Ah h.d I.x,mCw Ah h.d I.so,h.d];simp[gD,g']
 .have other:∀z,z∈A\/z∈B->JB t X aJ7 oj kj κ (j+1) z:=λz hz=>by
   have am:z∈A++g::B:=by grind
   have U:=h.ge z am;have Y:z.x≠g.x/\z.so≠g.so:=by grind
   exact((U.Aa (λe=>by have:=U.x;rw[e,I.so] at this;cases this) (λe=>by have:=U.HP;rw[e,I.IV.o] at this;cases this) Y.2).Aa Y.1 (λe=>by have:=U.HP;rw[e,I.mx.o] at this;cases this) (λe=>by have:=U.so;rw[e,I.x] at this;cases this)).gw Gw.refl hU
  grind
 .have:=h.nd;simpa[g'] using this
 .rw[Av6,AvR];grind
 .have:=h.len;simpa using this
 rcases Atq i j with q|q
 .obtain⟨z,hz,hq⟩:=h.ER i q aj ak;rcases pD hz with hz|hz
  .exact(z,AsI _ hz,hq)
  rcases oG hz with rfl|hz
  .exact(g',sJ AsG,AsI _ hq)
  grind
 obtain rfl:i=j:=aA;exact(g',sJ AsG,sJ aC)
end
theorem Afm:∀(cs:aQ)(o:Bj),pN a->(∀c∈cs,mAi a)->cs.Nodup->∃o',mAh H o' a/\(∀c∈cs,o' c=none)/\∀c,c∉cs->o' c=o c
 |[],o,h,_,_=>(o,h,9,fD)
 |c::cs,o,h,hm,b=>by
  rw[AtY] at b;have ne:∀x∈cs,x≠c:=λx hx e=>b.1 (e▸hx);obtain⟨o',a1,a2,d⟩:=Afm cs (Ci o c none) (h.letGo (hm c aC)) (λx hx=>let m:=pA hm x hx;(by rw[Cj (pI ne)];exact m.o,m.f,m.k,m.al)) b.2;refine(o',a1,eA,eA)
  .rcases oG hx with rfl|hx
   .rw[d _ b.1];exact IU
   exact pI a2
  rw[Asz,not_or] at hx;rw[d x hx.2,Cj hx.1]
theorem Eu.done(ok:eL)(kb:Kb κ)(h:Eu t X κ n o H s D X.E.S.length b v y B C)(I:v ga=nU (aJ8.map λg=>nE g.x))(J:mV y ga)(hb:∀g∈C,H g.x=none/\H g.so=none):
 ∃o',mAh v o' B/\Gw X.F o H s o' v B/\KK t v o' X.E (Rg B) κ ga:=by
 have aa:∀c∈ aGG++aJ9,C6 t X v y B c:=λc hc=>by
  rcases pD hc with hc|hc
  .obtain⟨g,hg,rfl⟩:=nY hc;exact gP.mx
  obtain⟨g,hg,rfl⟩:=nY hc;exact gP.IV
 have ab:(aGG++aJ9).Nodup:=by
  rw[AsT];refine(53,221)
  .rw[List.Nodup,Avh];exact h.pw.imp λ{a b}q=>q.1
  .rw[List.Nodup,Avh];exact h.pw.imp λ{a b}q=>q.2
  obtain⟨g,hg,rfl⟩:=nY ha;obtain⟨g',ac,rfl⟩:=nY hc;have:=gP.x;rw[e,(h.ge g' ac).so] at this;cases this
 obtain⟨o',ae,L,M⟩:=Afm _ y h.fs aa ab;have free:mCx y o':=λc e=>by
  by_cases hc:c∈ aGG++aJ9
  .exact L c hc
  rw[M c hc];exact e
 refine(o',ae,(mQ (h.gw.ev.keep,aGA,h.gw.ev.there) h.gw.rg h.gw.fr),aJ8.map (·.x),aJ8.map (·.G),5,free _ J,9,λj x G hx O=>?_,λi q hq=>?_)
 .have hc:c∉ aGG++C.map (·.so):=λhc=>by
   rcases pD hc with hc|hc
   .obtain⟨g,hg,rfl⟩:=nY hc;rw[(hb g hg).1] at e;cases e
   obtain⟨g,hg,rfl⟩:=nY hc;rw[(hb g hg).2] at e;cases e
  rw[M c hc];exact sS h.gw.ev.own
 .rw[I,AsB];rfl
 .rw[ArY] at hx O
  cases hg:(C.filter λg=> !g.G.fl.isEmpty)[j]? with
  |none=>rw[hg] at hx;cases hx
  |some g=>
   rw[hg] at hx O;obtain rfl:g.x=x:=(mR hx);obtain rfl:g.G=G:=(mR O);have Q:=(AtO.mp (Asl hg)).1;have U:=h.ge g Q;refine((129,g.W,g.ms,U.x,L _ (AsI _ (AtE Q)),U.fo,free _ U.HP,U.rg,U.so,L _ (sJ (AtE Q)),U.len,U.mask,U.W),λi Y=>((U.ss i Y).1,(U.ss i Y).2.1),λi Y q hq=>?_);obtain⟨s1,s2,s3,s4⟩:=U.ss i Y;exact aO2
 obtain⟨Y,af⟩:=ApG ok kb hq;obtain⟨g,hg,hs⟩:=h.ER i Y Y af;have U:=gP;obtain⟨s1,s2,s3,s4⟩:=U.ss i hs;obtain⟨z,hz,_⟩:=aO2;refine(g.G,AtE (AtO.mpr (oS hg)),hs)
 cases ag:g.G.fl with
 |nil=>rw[ag] at hz;simp at hz
 |cons=>rfl
def ApK(t:Aw):Sp:=λvs H Q _=>∃(X:Fw)(o:Bj)(n:Nat)(b:bI)(κ:Kt)(a:Addr),vs=[kH,aJ]/\ eL /\pN b/\uF b/\
 ∀ga o' H' c,mCu c->vC X.F b c-> aO3 ->oQ ga
abbrev Afn:List Str:=aO4
theorem JC:AD aO4 aBb (A0 R4):=aG
theorem ApL(T:aE):A4 P w K mg base A9 5 t.Nf t.AbK aBb (ApK t):=by
 refine pF T.Nf.F.ok JC
 .obtain⟨X,o,n,ac,κ,a,rfl,_⟩:=h;rfl
 obtain⟨X,o,n,ac,κ,a,rfl,ok,fs,rg,k⟩:=h;have hu:=F5 ab;obtain⟨ae,af,ag,ah⟩:=ok.Ap2;obtain⟨_,ai,aj,ak,al,am,an,_⟩:=id ok.pl;have kb:Kb κ:=let(_,_,_,_,_,_,_,ao):=tQ fs rg;ao.kb;refine(_,(Ak (qJ JC.nd OU)
  (Ak (BS Asq rfl aAq (oJ 3 JC.nd) (Ao (AU (vL dI cC) (Ak (qN JC.nd (Bx aK T.B_.c T.Ko.h (Afg T) bR T.Ko.b .nil Ay (Ad (Dk rfl JC.nd (mB6 V8 dI) (qM ("shape",5,) Afn R4) (pR 5 JC.nd) cK (λ_ _ _ _ _=>(Bx aY T.B6.c T.Iz.h (W_ T) bR T.Iz.b .nil Ay (oP cC bJ)))) Ai)))
  (Ak (uC JC.nd (CV (oP dI bG)))
  (Ak (nI (Yl (Zr hu cA aX)) (Ao (mB0 aX cA (Dc T.E9.k (Apg T) bR rfl T.E9.m T.MR.b .nil Ay (Ad dI (mU (Bx aK T.B_.c T.Kp.h (Afi T) bR T.Kp.b .nil Ay lE)))))))
  (Ao (Cu (Bx (Lr hu aX cA fD) T.E9.c T.MS.h (Api T) bR T.MS.b .nil Ay (mU dI))))))) AY)))
  (Ao (Rp (A3 (Dk rfl JC.nd (AeS aX) (qM ("group",7,) Afn R4) (pR 7 JC.nd) (mHR (qY (pV 7))) (qK eZ))))))),5)
 refine λD ap=>?_;obtain⟨aq,mD,ar⟩:=fs.claim (u:= hY) ap;refine(0,28,aq.f,46,T.Ac7,2,X.SA,2,(_,nA aq.st af),5);refine E4 (K:=K) (a:=X.SA) (xs:=nH ae.map) (λj σ as=>∃(au v4 v6:bQ)(b:Bj)(d:bI)(f:mZ GE),σ=[jG,mH a,mH D,au,v4,none,v6,none]/\Eu t X κ n o H ac D j j as b d f/\∀g∈f,H g.x=none/\H g.so=none)
  (183,_,ac,[],2,(aq,mD,ar,Af,9,9,9,aD,λi av=>by omega),9) (λj σ as _ (_,_,_,b,d,f,_,C,_)=>nA C.fs.st af) ?_ ?_
 .rintro j y σ as hj ⟨au,v4,v6,b,d,f,rfl,C,aw⟩;rw[ArY] at hj;obtain⟨q,hq,rfl⟩:mF5 ae[j]?:=by
   cases e:ae[j]? with
   |none=>rw[e] at hj;cases hj
   |some x=>rw[e] at hj;exact lL
  have ax:j<X.E.S.length:=(wY ag hq);obtain⟨ay,sh,az,I,M,a0,a3,a4,a5,a6⟩:=ah j q hq;have st:=C.fs.st;obtain⟨_,a7,a8,AA,a9,ba,bb,kn⟩:=tQ C.fs (mC C.gw.rg rg);refine(0,143,mC st a0,47,T.Ph,31,a,_,a7,118,T.Ac5,26,0,5);rw[show decide (mO ((lO.wd.vf:Nat):Int)=mO ((κ.m:Nat):Int))=decide (lO.wd.vf=κ.m) from Fp _ _];by_cases bc:lO.wd.vf=κ.m
  .rw[mW bc];refine eF;refine(22,C.fs.f,31,143,mC st a0,164,2,(_,rK st a3),λM2 bd=>?_);obtain⟨be,bf,bg⟩:=mF4 C.fs.claim bd;have bh:=mC st a3;refine EA (J:=GU K sh) 2 (λi N=>∃l:aQ,Ab as N/\N M2=pU l.map/\l.length=i/\∀m r,l[m]? =mB r->r≠M2/\Cz N r (mD7 j m).1 (mD7 j m).2)
    ([],mS bd,90,9) (λi N av (_,O,_)=>(19,rK O bh,mF6 az I av)) (λN (_,O,_)=>(_,rK O bh,aD)) ?_ ?_
   .rintro i N y bi av ⟨l,O,bj,bk,bl⟩ ⟨rfl,hy⟩;have bm:=hy _ (rK O bh);obtain⟨pi,rfl,bn⟩:∃pi,y= mF pi/\DE t X.Hs pi (lO.wd.sh i):=by
     rcases(by omega:xH i) with rfl|rfl
     .exact(mF7 az bm a4)
     exact(mF7 I bm a5)
    have bo:=nB st O;refine jD;have bp:=mIA kn.ev (Ev.same O);refine(0,28,mC O C.fs.f,46,T.Vq,2,X.P,ai,aj,2,mC bo am,an.n3,78,_,a7,3,bp.at_,45,T.Ac6,31,X.P,a8,pi,X.E.T,κ.w,1<<<κ.p,0,ok.pl.same bo,bp.st,bn.same bo,mIO i,ok.wl j i ax,kb.w,λR bq br bs bt=>?_);have bu:R≠M2:=λe=>(by rw[e,bj] at bs;cases bs);refine(_,mC br bj,fR,l++[R],wB O br bd,23,by simp[bk],λm r hm=>?_);by_cases bv:m<l.length
    .rw[Ask bv] at hm;obtain⟨bw,bx⟩:=bl m r hm;refine(oS bw);show(Aa bq M2 _) r=_;rw[Ah bw];exact mC br bx
    have bz:=(nL hm).1;rw[Asi,AsD] at bz;obtain rfl:m=i:=aA;rw[eN,bk,At9] at hm;obtain rfl:R=r:=(mR hm);refine(oS bu);show(Aa bq M2 _) R=_;rw[Ah bu];exact bt
   rintro N ⟨l,O,bj,bk,bl⟩;obtain⟨b0,b2,rfl⟩:∃x y,l=[x,y]:=by
    match l,bk with
    |[x,y],_=>exact aFU
   obtain⟨_,b3⟩:=bl 0 b0 rfl;obtain⟨_,b4⟩:=bl 1 b2 rfl;have b5:=mIL (mIO 0);have b6:=mIL (mIO 1);refine(X,true,M2,b0,b2,19,3,ok,C.fs.ff.same O,bj,b3,b4,b5,b6,λR b7 b8 b9 ca bs cb cc cd ce cf=>?_);have cg:=nB O ca;have ch:=nB st cg;refine(0,143,mC ch a0,47,T.RL,31,gF,λU cj=>?_);have ck:Ab b9 (Aa b9 U aKa):=mS cj;have cl:mD4 b9 U aKa:=Af;have cm:=nB cg ck;generalize Aa b9 U aKa=cn at ck cl cm;have co:=C.same cm;have cp:=mC ck cd;have cq:Cz cn b7 (sE j 0).1 (sE j 0).2:=mC ck ce;have cr:Cz cn b8 (sE j 1).1 (sE j 1).2:=mC ck cf;have cs:mV b R:=mF8 O bs;have ct:mV b b7:=mF8 O cb;have cu:mV b b8:=mF8 O cc;have cx:Dv cn (mD8 j) U:=Xa cl cp cq cr;have cont:∀(cy:Hv)(bq:Hp)(cz:Bj)(c2:bI)(c3:mZ GE),Eu t X κ n o H ac D j (j+1) bq cz c2 c3->(∀g∈c3,H g.x=none/\H g.so=none)->Dv bq (mD8 j) U->(∃g∈c3,g.k=mD8 j)->
    (∀b9 c4,Eu t X κ n o H ac D (j+1) (j+1) b9 cz c2 c4->(∀g∈c4,H g.x=none/\H g.so=none)->cy.nx aO5 b9)->
    OC (OL t.CH "add_sort" (Afb t) [] E0 (Zq (Bo 2) (Bo 6)) (DY (mB9 3 "words") E5)) cy aO5 bq:=by
    rintro cy bq cz c2 c3 c5 c6 c7 ⟨g,hg,c8⟩ hk;have Y:=c5.ge g hg;obtain⟨c9,da,db⟩:=ApF (Y.k.symm.trans c8);have bv:g.ms.length<=64:=(by have:=Y.len;have:=Y.le;have:=ok.sl;omega);refine(16,D,mF g.x,2,.inr (gD c3,_,U,mG c5.d,2,c7,by rw[<-c8];exact(ApJ c5.nd hg).symm),g.x,g.dx,0,Y.x,31,143,mC c5.fs.st a0,47,T.RM,2,g.x,129,g.G.Bl,g.W,M,iv g.ms,2,Y.x,Y.so,fR,(λe=>by have:=Y.x;rw[e,Y.so] at this;cases this),5);obtain⟨c4,a1,a2⟩:=c5.add hg a6 (Afl a6 ax ok.Ol) ax c9.symm da.symm db.symm (c6 g hg).1 (c6 g hg).2;refine hk _ c4 a1 λz hz=>?_;obtain⟨y,hy,b1,dc⟩:=a2 z hz;rw[b1,dc];exact c6 y hy
   refine(16,D,0,mI (gD f,_,U,mG co.d,2,cx,2),0,5)
   cases dd:Bc (gD f) (mD8 j) with
   |some v=>
    refine cF;obtain⟨g,hg,db,de⟩:=ApH dd;exact cont _ cn b d f (co.As aD hU (λi df dg _=>by omega)) aw cx (mQ g hg db) λdh di bw bx=>(19,_,b,d,di,2,bw,bx)
   |none=>
    refine eF;refine(0,143,nV ck ch a0,47,T.RL,2,22,co.fs.f,31,X,b,n,d,R,b7,b8,19,3,ok,co.fs,cp,cs,cq,ct,cr,cu,SW b5,SW b6,mF9 b5,mF9 b6,λL fl dj dh dk dm dn dp dq dr ds c0 c1 _=>?_);have dt:=co.Xb dm dn;have du:=(dn.free cl (mF8 cg cj)).1;have dv:=(dn.free cp cs).1;have dw:Cz dh b7 (sE j 0).1 (sE j 0).2:=(dn.free cq ct).1;have dy:Cz dh b8 (sE j 1).1 (sE j 1).2:=(dn.free cr cu).1;refine λx dx hx dz d0=>(x,dx,L,lO.Bl,215,λso d1 d2=>?_);obtain⟨o',d3⟩:=dt.new dd hx dz d0 d1 d2 ap dq dr ds c0 c1;have d4:mV dh so:=by
     rw[Ah d1] at d2;by_cases e:so=dx
     .subst e;exact dz
     rwa[Ah e] at d2
    have keep:∀c v,dh c=bK ->(mL0 x) c=some v:=λc v e=>by rw[oF hx,oF d4,oF hx,oF dz];exact e
    refine(202,D,0,.inr (gD f,_,U,mC keep dt.d,2,mL1 mC keep,BA (by have:=dt.len;have:=ok.sl;rw[gD,ArX];omega),2),5);rw[MJ _ dd];have d5:∀c v,dh c=bK ->v≠ .dT (gD f)->(Aa (mL0 x) D (.dT (gD f++[(mD8 j,cU,)]))) c=some v:=λc v e bc=>by rw[Ah ((λc v e bc z=>by rw[z,dt.d] at e;exact bc jQ.symm) c v e bc)];exact keep c v e
    refine cont _ _ o' dk _ d3 lR (mL1 mCy d5) (_,sJ (Atb.mpr rfl),2) λd6 d7 bw bx=>(19,_,o',dk,d7,2,bw,bx);rcases pD hz with hz|hz
    .exact aw z hz
    obtain rfl:=Atb.mp hz;exact(dt.gw.none hx,dt.gw.none d4)
  rw[mT bc];exact Az (19,_,b,d,f,2,C.As hU hU (λi df dg _=>(show i=j by omega)▸bc),aw)
 rintro σ as ⟨au,v4,v6,b,d,f,rfl,C,aw⟩;rw[ArX,ag] at C;refine(D,_,C.d,86,λod=>(0,D,od,gD f,215,λR bs=>?_));have d8:R≠D:=λe=>(by rw[e,Af] at bs;cases bs);have d9:mV as R:=(by rwa[Ah d8] at bs);have ea:∀g∈f,g.x≠D/\g.fo≠D/\g.x≠R/\g.fo≠R:=λg hg=>by have Y:=C.ge g hg;exact((λe=>by have:=Y.x;rw[e,C.d] at this;cases this),(λe=>by have:=Y.fo;rw[e,C.d] at this;cases this),(λe=>by have:=Y.x;rw[e,d9] at this;cases this),(λe=>by have:=Y.fo;rw[e,d9] at this;cases this))
 have eb:uJ gD f f.length:=(pJ gD ArX);refine EA (J:=SJ D od (gD f)) f.length (λi N=>(∀c,c≠R->N c=(Aa as D (.Bw od (.dT (gD f)))) c)/\N R=nU (((xL i).filter λg=> !g.G.fl.isEmpty).map λg=>nE g.x))
  (λc hc=>gO,23) (λi N av pi=>(102,by rw[eb];exact av)) (λN pi=>(102,by rw[eb];exact aD)) ?_ ?_
 .rintro i N y bi av ⟨I,ec⟩ ⟨rfl,ky,cx⟩;have ed:pO f[i]? f[i]:=mK av;obtain rfl:y= .ref f[i].x:=by
   rw[gD,ArY,ed] at cx;have:=Ase cx;injection this with _ this
   exact this.symm
  have Y:=vN C.ge av;obtain⟨n1,n2,n3,n4⟩:=vN ea av;have hx:bi f[i].x=some (.Ag t.CH f[i].dx (Ft f[i].G.Bl f[i].fo f[i].so f[i].W)):=(by rw[I _ n3,Ah n1];exact Y.x);have ee:mIu xL f[i]:=(yX AsA ed);refine(31,f[i].x,_,f[i].dx,3,hx,69,T.Vm,2,_,mDI (by rw[I _ n4,Ah n2];exact Y.fo),5);have ef:(FB f[i].G.fl).isEmpty=f[i].G.fl.isEmpty:=(by cases f[i].G.fl<;>rfl);rw[ef]
  cases eg:f[i].G.fl.isEmpty with
  |true=>
   refine Az (oS I);rw[ec,ee,Ath];simp[eg]
  |false=>
   refine Au (0,_,ec,BA ?_,λc hc=>by rw[gO];exact I c hc,5)
   .have:=Aun (λg:GE=> !g.G.fl.isEmpty) (xL i);have dg:mBm xL i f.length:=(qQ AsS);have:=C.len;have:=ok.sl;rw[ArX];omega
   rw[Af,ee,Ath];simp[eg]
 rintro N ⟨I,ec⟩;refine(by rw[I D (Asr d8)];exact Af,5);have eh:Ab as (Aa N D (.dT (gD f))):=λc v e=>by
  by_cases hc:c=D
  .subst hc;rw[Af,<-C.d];exact e
  rw[gO,I c (λz=>by rw[z,d9] at e;cases e),gO];exact e
 rw[AsC] at ec;obtain⟨o',ei,g',ej⟩:=(C.same eh).done ok kb (ga:=R) (oY d8 ec) (C.fs.un _ d9) aw;exact k R o' _ d ei g' ej
theorem AO.step(h:pN g)(e:iF)(i:∀b,B b->b=X.F\/∃κ,Rg g κ b)
 (f:H' X.F=mB (mCr n')) (d:H' X.D=sM g) (nn:n'<=300000) (un:mCx H' o') (kn:∀κ a,uF g->B a->a≠X.F->Kn t H' o' X.E (Rg g) n' κ a) (j:∀κ a,uF g->¬B a->n<=n'):
 AO t X H' o' n' g/\Gw X.F o H g o' H' g:=by
 refine((f,wH e.own h.f h.of,d,wH e.own h.d h.od,nn,h.nd,h.Dt e,λc u z=>(e.own c u (h.st c u z)).trans (h.so c u z),un,eI),e.As λx hx=>?_,jF,λ_ _ z=> mG z)
 .obtain⟨κ,a,rfl,ne,k⟩:=aAy;refine(203,ne,5);by_cases hb:B a
  .exact kn κ a hq hb ne
  exact k.ev e hb jF (j κ a hq hb)
 rcases pI i with z|z
 .exact mG z
 exact mI (mG z)
theorem Kn.inj(h:pN i)(r:uF i)(j:Rg i q a):κ=q:=by
 obtain⟨_,dx,s,AA,g,u,v,k⟩:=tQ h r;obtain⟨_,y,z,B,g',C,aa,k'⟩:=tQ h j;have e:=Ase (k.at_.symm.trans k'.at_);injection e with _ _ e
 injection e with I e
 injection e with J e
 injection I with _ I
 injection J with _ J
 injection I with I
 injection J with J
 have L:=k.st;rw[J,k'.st] at L;have M:=Ase L;injection M with M
 injection M with O h4
 injection h4 with h4 _
 injection O with O
 injection h4 with h4
 obtain⟨m,w,p⟩:=κ;obtain⟨ab,Q,U⟩:=q;have a1:=AtA I;have a2:Q=w:=AtA O;have Y:p=U:=by have:=(Eb p p).mpr rfl;rw[<-(AtA h4),Eb] at this;exact this
 subst a1 a2 Y;rfl
theorem Ev.SX(hc:H c=bK)(g:o c=mB (b,x,))(hb:B b):Ev B o H o aBy:=
 (λd w e n=>by
  have:d≠c:=λz=>(by subst z;exact n _ g hb);rw[aCC];exact e,aCz,λd w e=>by
  by_cases z:d=c
  .subst z;exact(u,Af)
  exact(mIB w z e))
theorem JD{o:Bj}(h:mCx H o):∀d,(aBy) d=none->o d=none:=λd e=>by rw[mIP Af] at e;exact h d e
theorem AO.ApM(h:pN i)(r:uF i)(k:J9 t H o X.E (Rg i) n κ a dx j AA g s y)(hg:KK t H o X.E (Rg i) κ ga):
 AO t X (mGa a) o n i/\Gw X.F o H i o (mGa a) i:=by
 have ne:=(tQ h r).1;obtain⟨fs,f1,f2,B⟩:=k.fin;obtain⟨ls,C,I,J⟩:=k.HM;have L:X.D≠a:=λz=>(by have:=h.d;rw[z,k.at_] at this;cases this);have M:Ev (λb=>b=a) o H o (mGa a):=Ev.SX k.at_ k.oa rfl;have O:s≠a:=λz=>(by rw[z,k.at_] at f1;cases f1);have nl:y≠a:=λz=>(by rw[z,k.at_] at C;cases C);refine h.step M (λb hb=> mI (κ,hb▸r)) (wW ne h.f) (oY L h.d) h.nn (JD h.un) (λaa Q U hb _=>?_) (λ_ _ _ _=>aD);subst hb;obtain rfl:=Kn.inj h r U;have fr:mGb (mGa Q):=λc u e ab=>(M.free e ab).1;refine(dx,j,AA,mF ga,s,y,Af,k.oa,k.IS,k.IT,mP fr k.st k.He,k.He,k.kb,k.AA,(fs,by rw[Ah O];exact f1,f2,eA),(ls,by rw[Ah nl];exact C,I,eI),mI (ga,2,hg.ev M jF))
 .obtain⟨v,a1,a2,Y⟩:=pI B;exact aO6
 obtain⟨W,l,ac,ol,ns,n1,n2,n3⟩:=J q hq;have:l≠Q:=λz=>(by rw[z,k.at_] at n1;cases n1);refine(W,l,ac,ol,ns,by rw[aCC];exact n1,n2,eA);obtain⟨v,a1,a2,Y⟩:=pI n3;exact aO6
def ApN(t:Aw):Sp:=λvs H Q _=>∃(X:Fw)(o:Bj)(n:Nat)(b:bI)(κ:Kt)(a:Addr),vs=[kH,aJ]/\ eL /\pN b/\uF b/\
 ∀ga o' H' c,mCu c->vC X.F b c-> aO3 ->oQ ga
theorem ApO:AD aBb aBb (A0 Aax):=aG
theorem ApP(T:aE):A4 P w K mg base A9 6 t.Nd t.AbJ aBb (ApN t):=by
 refine vZ T.Nd.F.ok ApO
 .obtain⟨X,o,n,d,κ,a,rfl,_⟩:=h;rfl
 obtain⟨X,o,n,d,κ,a,rfl,ok,fs,rg,k⟩:=h;obtain⟨ne,e,f,AA,g,i,j,kn⟩:=tQ fs rg;refine(_,(Ak (nI (xA cC) (Ao (AX aP (Bx aK T.B_.c T.Nf.h (ApL T) eG T.Nf.b .nil Ay dX) rfl)))
  (oM cC)),5)
 refine(mL2 a e T.Pd);rcases kn.Oi with rfl|⟨ga,rfl,hg⟩
 .rw[mW rfl];refine Au (22,fs.f,31,X,o,n,d,203,ok,fs,rg,λga o' H' l m g' p=>?_);obtain⟨ne',q,r,u,v,x,y,C⟩:=tQ m aKb;obtain⟨f2,g2⟩:=m.ApM aKb C p;obtain⟨_,D,G,I,J,L,M,N⟩:=tQ f2 aKb;refine(78,_,3,C.at_,45,T.Pd,(qG 6),78,_,q,3,Af,45,T.Pd,2,5);exact k ga o' _ l f2 (g'.trans g2) (p.ev (B:=Bg X.F H' l) g2.ev jF)
 rw[mT gG];refine Az (78,_,e,118,T.Pd,2,k ga o H d fs Gw.refl hg)
theorem AO.Xc(h:pN kvs)(i:n<300000)(r:aCB)(k:mGc H)
 (j:o z=mB (a,y,)) (s:a≠z) (hk:∀c u,H c=aM ->c≠X.F->c≠z-> dO=aM) (hz:∃u',H' z=mB u') (B:aOQ) (hf:H' X.F=mB aGH) (un:mCx H' o')
 (f1:PL t H' o' (n+1) fa) (C:PM t H' o' X.E κ a (n+1) la):AO t X H' o' (n+1) kvs/\Gw X.F o H kvs o' H' kvs:=by
 have ne:=(tQ h r).1;have I:Ev (λb=>b=X.F\/b=a) o H o' H':=(λc u e nb=>hk c u e (λq=>by subst q;exact nb _ h.of bA) (λq=>by subst q;exact nb _ j eB),B,λc u e=>by
  by_cases J:c=X.F
  .subst J;exact(pX hf)
  by_cases L:c=z
  .subst L;exact hz
  exact(u,hk c u e J L))
 refine h.step I (λb hb=>hb.elim .inl λq=> mI (κ,q▸r)) hf (mL3 h.d (λe=>by have:=h.od;rw[e,j] at this;injection this with this;injection this with this;exact ne this)) aA un (λM O Q hb hF=>?_) (λ_ _ _ _=>hU);obtain rfl:O=a:=hb.resolve_left hF;obtain rfl:=Kn.inj h r Q;obtain⟨_,f2,_⟩:=k.fin;obtain⟨_,U,_⟩:=k.HM;refine(dx,sta,AA,g,fa,la,hk _ _ k.at_ ne s,wH B k.at_ k.oa,wH B f2 k.IS,wH B U k.IT,(I.free k.st k.He).1,(I.free k.st k.He).2,k.kb,k.AA,f1,C,5);rcases k.Oi with g|⟨ga,g1,g2⟩
 .exact mG g
 exact mI (ga,g1,g2.ev I jF)
section
variable {X:Fw} {H:Hp} {o:Bj} {n:Nat} {kvs:bI} {κ:Kt} {a dx sta AA fa la x:Addr} {g:V} {v:Ed}
theorem AO.ApQ(h:pN kvs)(i:n<300000)(r:aCB)(k:mGc H)(hx:iE)(j:mV o x)(s:oZ v.fin)(z:H fa=nU fs):
 AO t X aGI o (n+1) kvs/\Gw X.F o H kvs o aGI kvs:=by
 have B:fa≠X.F:=λe=>(mF3 h.f e z);have hk:mIQ fa (aGI):=λc u e C I=>(by rw[Ah I,Ah C];exact e);have fr:mGb (aGI):=λc u e C=>mL4 e k.IS;obtain⟨J,L,M,e3⟩:=k.fin;obtain⟨ls,O,aa,Q⟩:=k.HM;obtain rfl:fs=J.map V.ref:=(by rw[z] at L;injection Ase L);have ab:∀y v,uE H y->o y=none->Cd t (Aa aKc fa (.Ac (nH J.map++[cU]))) y v:=λy v (d,q) U=>(d,mP fr q U);refine h.Xc i r k k.IS (λe=>by have:=k.at_;rw[e,z] at this;cases this) hk (pX Af) aCz (wE nX B) (nG JD h.un) (J++[x],23,43,hJ) (ls,hk _ _ O (λe=>by have:=h.f;rw[<-e,O] at this;cases this) (λe=>by rw[e,z] at O;cases O),4,eI)
 .grind
 obtain⟨W,l,Y,ol,ns,n1,n2,n3⟩:=Q q hq;refine(W,l,Y,ol,ns,mL5 k.IS,4,hJ);grind
theorem AO.ApR(h:pN kvs)(aa:n<300000)(r:aCB)(k:mGc H)(hx:iE)(ab:mV o x)(ac:Og X.E κ v)(i:H la=qH ls)(j:mV aKc s)(ae:yB ls jE):
 ∃o',AO t X aO7 o' (n+1) kvs/\Gw X.F o H kvs o' aO7 kvs:=by
 rw[MJ _ ae];have z:s≠X.F:=λe=>aJX;have B:mV H s:=(by rwa[Ah z] at j);have hk:mIQ la (aBB):=λc u e C I=>(by rw[oF B,Ah I,oF B,Ah C];exact e);have fr:mGb (aBB):=λc u e C=>mL4 e k.IT;have J:(aBB) la=some (.dK (ls++[(jE,mF s,)])):=(wE Ah (λe=>by rw[e,B] at i;cases i));have L:tJ (aBB) s [cU]:=Af;have M:oI (aBB) X.F aGH:=(by rw[nX z,mIR nX h.f i,nX z,Af]);have O:∀c,(aBB) c=none->c≠s/\H c=none:=λc e=>by have C:c≠s:=λq=>aGJ;rw[Ah C] at e;have I:c≠la:=λq=>aGJ;rw[Ah I,Ah C] at e;rw[aO8] at e;exact(C,e)
 generalize aBB=H' at hk fr J L M O;have Q:∀c u,H c=aM ->Ci o s aKd c=o c:=λc u e=>mCs B;have af:∀y v',Cd t H y v'->o y=none->Cd t H' y v'/\Ci o s aKd y=none:=λy v' (d,q) U=>((d,mP fr q U),wH Q q U);obtain⟨ag,Y,ah,e3⟩:=k.fin;obtain⟨ai,aj,ak,am⟩:=k.HM;obtain rfl:ai=ls:=(by rw[i] at aj;injection (Ase aj).symm);refine(Ci o s aKd,h.Xc aa r k k.IT (λe=>by have:=k.at_;rw[e,i] at this;cases this) hk (pX J) Q M (λc e=>by rw[Cj (O c e).1];exact h.un c (O c e).2) (ag,hk _ _ Y (λe=>by have:=h.f;rw[<-e,Y] at this;cases this) (λe=>by rw[e,i] at Y;cases Y),4,hJ) (_,J,43,eI))
 .grind
 rcases pD hq with hq|hq
 .obtain⟨W,l,an,ol,ns,n1,n2,n3⟩:=am q hq;refine(W,l,an,wH Q n1 ol,ns,mL5 k.IT,4,hJ);grind
 obtain rfl:=Atb.mp hq;refine(v.W,s,2,IU,[x],L,9,hJ);grind
theorem AO.ApS(h:pN kvs)(aa:n<300000)(r:aCB)(k:mGc H)(hx:iE)(ab:mV o x)(ac:Og X.E κ v)(i:H la=qH ls)(j:mV aKc s)(ae:Bc ls jE=mH l)(z:H l=nU ys):
 AO t X (mD9 l aJY) o (n+1) kvs/\Gw X.F o H kvs o (mD9 l aJY) kvs:=by
 obtain⟨af,B,ag,e3⟩:=k.fin;obtain⟨ah,C,ai,I⟩:=k.HM;obtain rfl:ah=ls:=(by rw[i] at C;injection (Ase C).symm);obtain⟨aj,ak,J,ol,ns,n1,n2,n3⟩:=I _ (Mq ae);injection J with J L
 injection L with L
 subst L;have am:v.W=aj:=by
  injection J with J
  exact AtA J
 subst am;obtain rfl:ys=ns.map V.ref:=(by rw[z] at n1;injection Ase n1);have M:s≠X.F:=λe=>aJX;have hk:mIQ l (mEa x):=λc u e O an=>(by rw[Ah an,oF (by rwa[Ah M] at j),Ah O];exact e);have fr:mGb (mEa x):=λc u e O=>hk c u e (λq=>by rw[q,h.of] at O;cases O) (λq=>by rw[q,ol] at O;cases O);have Q:oI (mEa x) l (yI (ns++[x]).map):=(pP Af);have ao:(mEa x) X.F=some aGH:=(by rw[mL6 nX h.of,nX M,Af]);have ap:=JD (c:=l) (u:= .Ac (nH ns.map++[cU])) (JD (c:=s) (u:= aDF) (JD (c:=X.F) (u:= aGH) h.un));generalize (mEa x)=H' at hk fr Q ao ap;have aq:∀y v',Cd t H y v'->o y=none->Cd t H' y v':=λy v' (d,q) ar=>(d,mP fr q ar);refine h.Xc aa r k ol (λe=>by have:=k.at_;rw[e,z] at this;cases this) hk (pX Q) aCz ao ap (af,mL7 B k.IS,4,hJ) (_,mL7 i k.IT,4,eI)
 .grind
 obtain⟨as,U,au,Y,av,aw,ax,ay⟩:=I q hq;by_cases e:U=l
 .subst e;have:as=v.W:=by rw[ol] at Y;injection Y with Y;injection Y with _ Y;exact(Ase Y).symm
  subst this;refine(_,U,au,ol,ns++[x],Q,43,hJ);grind
 refine(as,U,au,Y,av,hk _ _ aw (λe=>by rw[e,h.of] at Y;cases Y) e,4,hJ);grind
end
theorem nodup_getElem?{l:cM}(h:l.Nodup){i j:Nat}{x:α}(c:l[i]? =aW)(d:l[j]? =aW):i=j:=by obtain⟨a,e⟩:=nL c;obtain⟨b,f⟩:=nL d;exact(List.getElem_inj h).mp (e.trans f.symm)
def ApT(t:Aw):Sp:=λvs H Q _=>∃(X:Fw)(o:Bj)(n:Nat)(b:bI)(κ:Kt)(a x:Addr)(v:Ed),vs=[kH,aJ,cU]/\pN b/\uF b/\ iE /\o x=none/\(v.fin=true\/Og X.E κ v)/\
 ∀n' o' H',mEb X b->Gw X.F o H b o' H' b-> cW
theorem Afo:AD ["self","knot","note","other"] aIQ (A0 Aat):=aG
theorem ApU(T:aE):A4 P w K mg base A9 2 t.Na t.AbG aIQ (ApT t):=by
 refine pF T.Na.F.ok Afo
 .obtain⟨X,o,n,f,κ,a,x,v,rfl,_⟩:=h;rfl
 obtain⟨X,o,n,f,κ,a,x,v,rfl,fs,rg,hx,ac,ae,k⟩:=h;obtain⟨af,ag,ah⟩:=T.Akl;refine(_,(Ak (AU (pL QN aY (nP ag ah)) (Ak aAA
  (Ao (Rp (rV (AeS aY) (oJ 3 Afo.nd) (Ao (Cu (GY bB T.CN.c T.MX.h (Apo T) bR T.MX.b .nil Ay))))))) AY)
  (Ak aJr
  (Ao (Cu (Bx aP T.CN.c T.MW.h (Apq T) bR T.MW.b .nil Ay jX))))),5)
 have cont:∀(ai:bQ)(n1:Nat)(aj:Bj)(H1:Hp),n1<300000->AO t X H1 aj n1 f->Gw X.F o H f aj H1 f->EL (M9 K (Bo 0) lF (DO λa b=>mO (a+b)) "kept") (OC (OL t.BD "keep_note" (Afc t) [] E0 (Bo 1) (vY Bo 2))) {nx:=λ_ H'=>cW,rt:=Q} [jG,mH a,mH x,ai] H1:=by
  intro ai n1 aj H1 ak f1 g1;have al:=mC g1.rg rg;obtain⟨am,an⟩:=hx.ev g1.ev ac;obtain⟨ne,m,p,AA,C,ao,ap,kn⟩:=tQ f1 al;obtain⟨fl,c1,aq,ar⟩:=id kn.fin;obtain⟨ls,as,au,av⟩:=id kn.HM;have aw:Cd t aEa x v:=by obtain⟨dx,q⟩:=am;exact(mIB dx (λe=>by rw[e,f1.of] at an;cases an) q)
  refine(0,28,f1.f,46,T.RF,2,8,X.dF,_,f1.f,(qG 5),78,m,0,75,31,a,m,p,ao,ap,x,κ,AA,C,v,_,ls,2,75,aw,(show(aEa) ao=_ by rw[mIR Ah f1.f c1];exact c1),fR,(show(aEa) ap=_ by rw[mIR Ah f1.f as];exact as),BA aA,λax=>?_,λax ay az=>?_)
  .obtain⟨f2,g2⟩:=f1.ApQ ak al kn am an ax c1;exact aKe
  have a0:Og X.E κ v:=ae.resolve_left (by rw[ax];decide)
  cases a3:Bc ls jE with
  |none=>
   obtain⟨a4,f2,g2⟩:=f1.ApR ak al kn am an a0 as az a3;exact mG (2,aKe)
  |some l=>
   obtain⟨a5,a6,a7,ol,ns,a8,a9,ba⟩:=av _ (Mq a3);injection a7 with a7 bb
   subst bb;obtain⟨f2,g2⟩:=f1.ApS ak al kn am an a0 as az a3 a8;exact .inr (a6,0,by rw[mL6 Ah f1.of];exact a8,fR,aKe)
 refine(0,28,fs.f,46,T.RF,2,58);by_cases bc:(300000:Int)<=(n:Int)
 .rw[mW bc];refine eF;refine(0,X.F,_,X.dF,0,fs.f,46,T.RF,142);have bd:X.D≠X.F:=λe=>(mF3 fs.f e fs.d);refine(X.D,.dT f,by rw[Ah bd];exact fs.d,187);have be:oI (aCE) X.F (mCr 0):=(wE nX bd);have bf:oI (aCE) X.D (.Bw od (.dT f)):=Af;have bg:Ev aO9 o H o aCE:=(Ev.SX fs.f fs.of bA).trans (Ev.SX (oY bd fs.d) fs.od bA);have bh:mCx (aCE) o:=nG JD fs.un;have bi:∀κ a,uF f->(aCE) a=H a:=λκ a r=>by
   obtain⟨ne,m,p,AA,C,ao,ap,kn⟩:=tQ fs r;rw[mCw Ah kn.at_ fs.d,Ah ne]
  show M7 _ _ _ _ _ aCE;generalize Aa (mCz H 0) X.D (.Bw od (.dT f))=bj at be bf bg bh bi;refine(0,28,be,46,T.NC,2,X.D,od,f,2,bf,5);refine Fn (J:=SJ X.D od f) f.length (λi σ D=>∃(ai:bQ)(G:Bj),σ=[jG,mH a,mH x,ai]/\D X.F=mB (mCr 0)/\D X.D=qW od (.dT f)/\Ev aO9 o H G D/\(mCx D G)/\∀(j:Nat)κ a,f[j]? =mB (eR,aJ,)->(j<i->Kn t D G X.E (Rg f) 0 κ a)/\(i<=j->D a=H a))
   (61,o,2,be,bf,bg,bh,λj κ a e=>(kJ,λ_=>bi κ a (Asl e))) (λi σ D bk (_,_,_,_,d,_)=>(d,bk)) (λσ D (_,_,_,_,d,_)=>(d,aD)) ?_ ?_
  .rintro i σ D y I bk ⟨ai,G,rfl,bl,bm,L,bn,bo⟩ ⟨rfl,ky,bp⟩;obtain⟨M,a1,bq,ne1,br⟩:=fs.kn _ (Asl bp);injection bq with bq N
   subst bq N;have bs:Rg f M a1:=Asl bp;obtain⟨m,p,AA,C,ao,ap,kn⟩:=br;have bt:I a1=some (.Ag t.BD m (Dm M p AA C ao ap)):=(wR (bo i M a1 bp).2 aD kn.at_);refine(0,a1,m,0,bt,2,a1,m,p,ao,ap,M,AA,C,2,bt,λO U n1 n2 n3 bu bv=>?_);have bw:∀c u,I c=aM ->c≠a1->(aCF) c=some u:=λc u e hc=>(by rw[gO,oF bv,oF bu];exact e);have b1:(aCF) a1=some (.Ag t.BD m (Dm M p AA C O U)):=Af;have bx:tJ (aCF) O []:=(by rw[Ah n1,Ah n3,Af]);have bz:oI (aCF) U hX:=(wE Ah n2);have b0:∀c,(aCF) c=none->I c=none/\c≠O/\c≠U:=λc e=>by rw[aO8] at e;have b2:c≠U:=λq=>aGJ;rw[Ah b2] at e;have b3:c≠O:=λq=>aGJ;rw[Ah b3] at e;exact(mQ e b3 b2)
   generalize aCF=b4 at bw b1 bx bz b0;have b5:G a1=some (a1,none,):=(mC L.own kn.at_).trans kn.oa;have b6:∀c u,I c=aM ->Ci (Ci G O (tP a1)) U (tP a1) c=G c:=λc u e=>(by rw[mCs bv,mCs bu]);have b7:Ev (λb=>b=a1) G I (Ci (Ci G O (tP a1)) U (tP a1)) b4:=(λc u e nb=>tO bw (λq=>by subst q;exact nb _ b5 rfl),b6,λc u e=>by
    by_cases q:c=a1
    .subst q;exact(pX b1)
    exact(u,tO bw q))
   refine(3,mP bw bl (Asr ne1),bw _ _ bm (λe=>by rw[e,bt] at bm;cases bm),L.trans (b7.As λb hb=> mI (M,hb▸bs)),λc e=>by rw[Cj (b0 c e).2.2,Cj (b0 c e).2.1];exact bn c (b0 c e).1,λj Y a2 N=>?_);have b8:Rg f Y a2:=Asl N;by_cases b9:j=i
   .subst b9;rw[bp] at N;have e3:=Ase N;injection e3 with e3 ca
    injection ca with ca
    obtain rfl:=Afe e3;subst ca;refine(λ_=>(m,p,AA,C,O,U,b1,wH b6 bt b5,5,IU,53,kn.kb,kn.AA,(mF1 bx),(mF1 bz),5),kJ)
    .rw[Cj n3,IU]
    .exact(aPa).1
    .exact(aPa).2
    rcases kn.Oi with g|⟨ga,g1,g2⟩
    .exact mG g
    exact mI (ga,g1,(g2.ev L jF).ev b7 jF)
   have ne2:a2≠a1:=λq=>by subst q;obtain rfl:=Kn.inj fs bs b8;exact b9 (nodup_getElem? fs.nd (yX ArY N) (yX ArY bp))
   refine(λh=>((bo j Y a2 N).1 aA).ev b7 ne2 jF aD,λh=>?_);have:=(bo j Y a2 N).2 aA;obtain⟨_,cb,cc,cd,ce,cf,cg,ch⟩:=tQ fs b8;rw[ch.at_] at this⊢;exact mP bw this ne2
  rintro σ D ⟨ai,G,rfl,bl,bm,L,bn,bo⟩;refine(oS bm);have cj:Ev (λb=>b=X.F) G D G (mGd D f):=Ev.SX bm (wH L.own fs.d fs.od) rfl;have ch:∀Y a2,Rg f Y a2->(a2=X.F\/∃κ,Rg f κ a2)->a2≠X.F->Kn t (mGd D f) G X.E (Rg f) 0 Y a2:=λY a2 b8 _ hF=>by obtain⟨j,hj,e⟩:=Asy b8;exact((bo j Y a2 aBg).1 hj).ev cj hF jF aD
  obtain⟨f2,g2⟩:=fs.step (H':=mGd D f) (o':=G) (n':=0) (B:=λb=>b=X.F\/∃κ,Rg f κ b) (L.trans (cj.As λb hb=> mG hb)) (mAB hb) (wW bd bl) Af aA (JD bn) ch (λY a2 b8 hb=>nK (xQ Y b8) hb);exact cont ai 0 G _ aA f2 g2
 rw[mT bc];exact Az (cont _ n o H aA fs Gw.refl)
def Bv(u:bE):Nat->Nat
 |0=>0
 |n+1=>qA u+u n
theorem Xd:∀{n:Nat},i<n->qA aCw=qA u+1
 |0,h=>by omega
 |n+1,h=>by
  show qA aCw+DS u i n=qA u+u n+1;by_cases e:i=n
  .subst e;have:∀m,m<=i->Bv aCw m=Bv u m:=by
    intro m
    induction m with
    |zero=>intro _;rfl
    |succ m a=>
     intro hm;show Bv aCw m+DS u i m=Bv u m+u m;rw[a aA];unfold DS;rw[fC]
   rw[this i aD];unfold DS;rw[bF];omega
  rw[Xd aA];unfold DS;rw[yC e z.symm];omega
theorem Afp(h:S.length<=i):cG.n=0:=by unfold AH;grind
theorem Afq(h:aBr)(hx:nJ W.testBit x):∃i,i<S.length/\ dL <=x/\x<dL+l i:=by
 obtain⟨i,a,b⟩:=(h.Dg x).mp hx;refine(i,5,a,b);rcases Atq i S.length with q|q
 .exact q
 have:=h.le i;rw[Afp q] at this;omega
theorem ApV(h:aBr)(a:aJ6 <=64):W<2 ^ 64:=by
 apply Atn;intro x hx
 cases hb:W.testBit x with
 |false=>rfl
 |true=>
  obtain⟨i,h0,b,c⟩:=Afq h hb;have:=h.le i;have d:=mFF i S.length h0;have h4:mIi i:=rfl;omega
theorem ApW(h:aBr)(hp:SO W d):d.length<=Bv l S.length:=by
 have key:∀n,∃L:aB,L.length=qA l/\∀i x,i<n-> dL <=x->x<dL+l i->x∈L:=by
  intro n
  induction n with
  |zero=>exact([],2,λi x f=>by omega)
  |succ n g=>
   obtain⟨L,j,k⟩:=g;refine(L++(pB (l n)).map (Bu S n+·),by rw[Asi,ArX,As4,j];rfl,λi x f a b=>?_);by_cases e:i=n
   .subst e;exact sJ (Asx.mpr (x - dL,by rw[Atj];omega,by show dL+(x - dL)=x;omega))
   grind
 obtain⟨L,j,k⟩:=key S.length;rw[<-j];refine Oj hp.1 λx hx=>?_;obtain⟨i,a,b,c⟩:=Afq h ((hp.2 x).mp hx);exact k i x a b c
structure ED(E:FE)(C:aBs)(u:bE)(rest:Nat)(room:Int)(v:Ed):Prop where
 fin:v.fin=false
 ex:∃l,Dl E.S v.W l/\Lk E.S C l v.r v.c/\∀i,l i<=u i
 r:(rest:Int)<=v.r
 c:room<=v.c
def Ans(E:FE)(C:aBs)(used:Nat)(u:bE)(rest:Nat)(room:Int)(v:Ed):Prop:=(v.fin=true/\v.W&&&used=0/\(rest=0->C []/\0<=room))\/yO E C v
section
variable {E:FE} {C D:aBs} {u:bE} {rest:Nat} {room:Int} {v v':Ed}
theorem ED.imp(h:yO E C v)(g:∀q,D q->C q):ED E D u rest room v:=
 (h.fin,let(l,a,b,c):=h.ex;(l,a,Ae2 b g,c),h.r,h.c)
theorem ED.join(h:yO E C v)(h':yO E D v'):ED E (λq=>C q\/D q) u rest room (mFU v'.W v'.r v'.c):=by
 obtain⟨l,a,b,c⟩:=h.ex;obtain⟨g,j,s,y⟩:=h'.ex;refine(2,(_,AnM a j,5,λi=>by have:=c i;have:=y i;show max (l i) (g i)<=u i;omega),53)
 .rw[SQ,SQ];exact AnR b s
 .show _<=Hd _ _;rw[SQ];have:=h.r;have:=h'.r;omega
 show _<=Hd _ _;rw[SQ];have:=h.c;have:=h'.c;omega
theorem ED.plain(g:rest<=1000)(i:room<=1000):ED E (λ_=>False) u rest room (mCq 0):=
 (2,(_,S6 E.S,AnQ,λ_=>aT),56,i)
theorem ED.ApX(h:yO E (D6 E κ) v):Og E κ v:=(h.fin,let(l,a,b,_):=h.ex;(l,a,b))
end
def NQ(t:Aw)(X:Fw)(o:Bj)(H:Hp)(a:bI)(C:aBs)(used:Nat)(u:bE)(rest:Nat)(room:Int)(Q:VK):Prop:=
 ∀x v n' o' H' b,mEb X b->vC X.F a b->uE H' x->o' x=none->mIS C->oQ x
def PV(t:Aw)(r:Nat):Sp:=λvs H Q _=>∃(X:Fw)(o:Bj)(n:Nat)(b:bI)(κ:Kt)(a:Addr)(rest used:Nat)(u:bE)(room:Int),vs=aPb /\ eL /\pN b/\uF b/\ aGK /\rest<=r/\rest+aGL <=14/\room<=1000/\
 NQ t X o H b aGM used u rest room Q
def Xe(t:Aw)(r:Nat):Sp:=λvs H Q _=>∃(X:Fw)(o:Bj)(n:Nat)(b:bI)(κ:Kt)(a:Addr)(rest used:Nat)(u:bE)(room:Int),vs=aPb /\ eL /\pN b/\uF b/\ aGK /\1<=rest/\rest<=r/\rest+aGL <=14/\room<=1000/\¬D6 X.E κ []/\
 NQ t X o H b aGM used u rest room Q
def GC(E:FE)(G:J8)(p:Kt):aBs:=λq=>∃i a,q=i::a/\i∈G.ss/\D6 E p a
def Afr(t:Aw)(r:Nat):Sp:=λvs H Q _=>∃(X:Fw)(o:Bj)(n:Nat)(a:bI)(x:Addr)(G:J8)(p:aCA)(rest used:Nat)(u:bE)(room:Int),vs=[kH,cU,mF p.2,mA5 mE,tN mE,aBw]/\ eL /\pN a/\PN t H o X.E (Rg a) x G/\(∀i∈G.ss,i<X.E.S.length/\ lM.Bl=G.Bl)/\p∈G.fl/\ aGK /\1<=rest/\rest<=r/\rest+aGL <=14/\room<=1000/\
 NQ t X o H a (GC X.E G p.1) used u rest room Q
theorem Afs(a b:Nat):Ch a b<=a:=by rw[<-S1];exact Nat.sub_le _ _
theorem and_zero:a&&&b=0↔∀i,xM i=true->qB i=false:=by
 constructor
 .intro h i c;have:=AtB (λx=>x.testBit i) h;grind
 intro h;apply Atg;intro i;rw[Atd,Avo]
 cases e:xM i with
 |false=>rfl
 |true=>rw[h i e];rfl
theorem Aft(hx:mV H x)(a:mV H dx):Ab H aPc /\Cd t aPc x v:=
 (xF a hx,dx,Af)
theorem Mr:AD ["self","group","follower","rest","used","room","lack","words","word","note"] aCa (A0 Aaw):=aG
theorem ApY(T:aE)(aa:3<=L)(ab:mGe L):
 A4 P w K mg base A9 (L+1) t.Nc t.AbI aCa (Afr t (r+1)):=by
 refine T.Nc.F.ok Mr cO (λac A outer s H vs Q E c h=>?_)
 .obtain⟨X,o,n,ae,x,G,p,rest,used,u,room,rfl,_⟩:=h;rfl
 obtain⟨X,o,n,ae,x,G,p,rest,used,u,room,rfl,ok,fs,af,ag,hp,hu,ah,ai,aj,ak,k⟩:=h;obtain⟨al,am,an⟩:=T.V3;refine(_,(Ak (uC Mr.nd (mL8 gQ))
  (Ak (BS Asq rfl (pT cC) (oJ 7 Mr.nd) (Ak (mCd Mr.nd (Bb (SN T) gQ rfl T.Fl.m T.Fl.F.kp T.Fl.b .nil Ay (mU (mCk eZ bG))))
  (Ak (AU (yH kB) (Ak (uC Mr.nd (mL9 (Ad cA (mU (mGf (mDY eZ (vO (nP am an))))))))
  (Ao Yo)) AY)
  (Ak (mGg Mr.nd (Bx aK T.B_.c T.FQ.h ab gQ T.FQ.b .nil Ay (Ad aX (Ad (zW bB) (zS (AE J3 bG kB) (AE FI bJ cC))))))
  (Ak (nI (D9 (pV 9)) (Ao (A3 (Bb (Afa T) gQ rfl T.Iw.m T.Iw.F.kp T.Iw.b .nil Ay (Ad aAB (Ad (Bb (AeX T) gQ rfl T.Ir.m T.Ir.F.kp T.Ir.b .nil Ay (mU (mCk eZ (pV 9)))) (mU cC)))))))
  (Ao (uC Mr.nd (mL9 (Ad cA (mU (Bb (Ae_ T) gQ rfl T.Iv.m T.Iv.F.kp T.Iv.b .nil Ay (Ad aAB (oP kB cC)))))))))))))
  (oM cA))),5)
 refine(2,λao H1 s1 ap aq=>?_);obtain⟨dx,fo,so,W,ms,ar,as,au,av,aw,ax,ay,az,a0,a1⟩:=id af;refine(0,144,rF ar,69,T.Vn,2,so,2,(_,nA s1 ax),5);refine E4 (K:=K) (a:=so) (xs:=iv ms) (λj σ d=>∃(y:Addr)(v:Ed)(a2 a3 f:bQ)(g:Nat)(B:Bj)(I:bI),σ=[jG,mH x,mH p.2,mA5 mX,tN mX,aAx,mH y,a2,a3,f]/\AO t X d B g I/\Gw X.F o H ae B d I/\uE d y/\B y=none/\yO X.E (λq=>∃(k i:Nat)(J:aB),k<j/\G.ss[k]? =mB i/\q=i::J/\D6 X.E p.1 J) v)
  (ao,_,183,n,o,ae,2,mA4 s1,rL s1,aq,xI ap,(ED.plain aA ak).imp (λq (k,i,J,h,_)=>by omega)) (λj σ d _ (_,_,_,_,_,_,_,_,_,_,N,_)=>mN (N.free ax ay).1) ?_ ?_
 .rintro j y σ d hj ⟨a4,v,a2,a3,f,g,B,I,rfl,O,N,a5,a6,a7⟩;rw[ArY] at hj;obtain⟨M,a8,rfl⟩:∃M,ms[j]? =mB M/\y= .int ((M:Nat):Int):=by
   cases e:ms[j]? with
   |none=>rw[e] at hj;cases hj
   |some x=>rw[e] at hj;exact lL
  have a9:j<G.ss.length:=(wY az a8);have ba:=mK a9;have U:=a0 j _ M ba a8;generalize G.ss[j]=i at ba U;obtain⟨bb,bc⟩:=ag i (Asl ba);have bd:=Ae0 U hu;refine(42,M,used,26,16,80);have be:∀(v':Ed),yO X.E (λq=>∃J,q=i::J/\D6 X.E p.1 J) v'->ED X.E (λq=>∃(k i:Nat)(J:aB),k<j+1/\G.ss[k]? =mB i/\q=i::J/\D6 X.E p.1 J) u rest room (mFU v'.W v'.r v'.c):=λv' h'=>(a7.join h').imp λq (k,bf,J,bg,Y,bh,h4)=>by
   rcases(by omega:k<j\/k=j) with e|rfl
   .exact mG (k,bf,J,e,Y,bh,h4)
   rw[ba] at Y;obtain rfl:=Ase Y;exact mI (mQ J bh h4)
  by_cases bi:u i<lM.n
  .rw[mJ bi] at bd;rw[bd];have bj:decide (mO (((1<<<aAC:Nat)):Int)=mO 0)=false:=by
    apply Ar_;intro e;injection e with e
    have:(1<<<aAC:Nat)=0:=aA;rw[AsE] at this;have:=AuS aAC;omega
   rw[bj];refine cF;have bk:=(N.free ar as).1;have he:mDJ (rest:Int) rest:=aA;have bl:=Ae1 hu bi;refine(22,O.f,202,8,16,13,16,144,bk,69,T.LX,2,8,X,B,g,I,238,used|||1<<<aAC,aCw,145,O,mC N.rg (aw p hp),bl,4,by rw[Xd bb];omega,4,λbm f n' o' H' bn bo g' bp bq br=>?_);have bs:=N.trans g';have hx':=(bs.free ar as).1;obtain⟨bt,bu⟩:=id bp;refine(mIT bm bt bu);rcases br with⟨bv,hz,_⟩|hl9
   .rw[bv];rw[and_zero] at hz;have bw:nJ (Ch M f.W).testBit aAC:=by
     rw[Hq,AsF,Avg];refine((U _).mpr aLU,5)
     cases hb:f.W.testBit aAC with
     |false=>rfl
     |true=>
      have:=hz _ hb;rw[Ate,(Eb _ _).mpr rfl,Bool.or_true] at this;cases this
    refine Au (42,bm,_,bt,3,bu,39,31,M,f.W,26,0,(T6 _).mpr (pX bw),5,λbx bz b0=>?_)
    .exact Au4 (Afs _ _) (yW (Afl U bb ok.Ol))
    refine(0,40,bm,f,1<<<bx,G.Bl,2,bp,λw b1 s3 hw b2=>k w _ n' o' b1 bn (bo.same s3) (bs.trans (rL s3)) b2 (bo.un _ hw) aPd);rw[and_zero];intro b hb;rw[Ate,Atx,Eb] at hb;rcases hb with hb|rfl
    .have:=nN hz;rw[Ate,Bool.or_eq_false_iff] at this;exact this.1
    have hge:Bu X.E.S i+u i<=b:=by
     rcases Atq b aAC with q|q
     .rw[b0 _ q] at bw;cases bw
     exact q
    rw[Hq,AsF] at bz
    cases b3:used.testBit b with
    |false=>rfl
    |true=>
     obtain⟨bf,b4,b5⟩:=(hu.Dg b).mp b3;have:=hu.le bf;have e:=S5 X.E.S (i:=i) (j:=bf) (x:=b) aA (((U b).mp bz.1).2) b4 aA;subst e;omega
   rw[hl9.fin];refine Az (16,16,40,bm,f,1<<<aAC,G.Bl,2,bp,λz b1 s3 hz b6=>?_);obtain⟨b7,b8⟩:=a5.ev g'.ev a6;refine(a4,z,v,0,b7.same s3,b6,λw b9 s4 hw b2=>?_);have ca:=nB s3 s4;refine(w,49,n',o',bn,2,bo.same ca,bs.trans (rL ca),b2,bo.un _ (BL s3 hw),be _ ?_);obtain⟨l,cb,cc,cd⟩:=hl9.ex;have hle:l i<=u i+1:=(by have:=cd i;unfold DS at this;rw[bF] at this;exact this);refine(2,(_,AnP cb bi hle,by rw[<-bc];exact AnT cc hle,λm=>?_),53)
   .unfold Ml;by_cases e:m=i
    .subst e;rw[bF];omega
    rw[bP];have:=cd m;unfold DS at this;rw[bP] at this;exact this
   .have:=hl9.r;show(rest:Int)<=f.r+1;omega
   have:=hl9.c;show room<=f.c+G.Bl;omega
  rw[mM bi] at bd;rw[bd,show decide (mO ((0:Nat):Int)=mO 0)=true from rfl];refine Au aAm;intro z ce hz cf cg;obtain⟨s2,b6⟩:=Aft (t:=t) (v:=(mCq M)) hz cf;refine(mDO z ce (mCq M));rw[B1];generalize Aa (qX d ce z) z (.Ag t.FS ce (Of (mCq M)))=ch at s2 b6;refine(a4,z,v,0,a5.same s2,b6,λw b1 s3 hw b2=>?_);have cj:=lI;refine(w,49,g,B,I,2,O.same cj,N.trans (rL cj),b2,O.un _ (BL s2 hw),be _ (2,(_,AnO U,AnU,λm=>?_),56,ak));by_cases e:m=i
  .subst e;rw[bF];omega
  rw[bP];omega
 rintro σ d ⟨a4,v,a2,a3,f,g,B,I,rfl,O,N,a5,a6,a7⟩;refine(0,k a4 v g B d I O N a5 a6 (mI (a7.imp λq (i,J,bg,Y,bh)=>?_)));obtain⟨m,hm,e⟩:=Asy Y;exact(m,i,J,by rw[ArX,az];exact hm,by rw[mK hm,e],bg,bh)
theorem Xf:AD ["self","group","follower","rest","used","room","note","free"] aCa (A0 Aav):=aG
theorem ApZ(T:aE)(c:3<=L)(d:mGe L):
 A4 P w K mg base A9 (L+2) t.Nb t.AbH aCa (Afr t (r+1)):=by
 refine T.Nb.F.ok Xf cO (λaa A outer s H vs Q E e h=>?_)
 .obtain⟨X,o,n,f,x,G,p,rest,used,u,room,rfl,_⟩:=h;rfl
 obtain⟨X,o,n,f,x,G,p,rest,used,u,room,rfl,ok,fs,g,j,hp,hu,ab,ac,ae,af,k⟩:=h;refine(_,(Ak (uC Xf.nd (Bx aK T.B_.c T.FQ.h d aEb T.FQ.b .nil Ay (Ad aX (Ad (zW bB) (oP bG (AE FI bJ cC))))))
  (Ak (nI (Ff (D9 (pV 6))) (Ao (A3 (Bb (Ae_ T) aEb rfl T.Iv.m T.Iv.F.kp T.Iv.b .nil Ay (Ad cA (oP Ar cC))))))
  (Ak (mH3 Xf.nd (mCk cC (AE J3 (pV 6) bG)))
  (Ak (nI (qY eZ) (Ao (A3 (Bb (Afa T) aEb rfl T.Iw.m T.Iw.F.kp T.Iw.b .nil Ay (Ad cA (Ad (Bb (AeX T) aEb rfl T.Ir.m T.Ir.F.kp T.Ir.b .nil Ay (mU eZ)) (mU cC)))))))
  (Ao (A3 (Bx aK T.B_.c T.Nc.h (ApY T c d) aEb T.Nc.b .nil Ay (Ad aP (Ad aX (Ad bB (pM 4 5))))))))))),5)
 obtain⟨dx,fo,so,W,ms,m,ag,ah,ai,aj,ak,al,am,an,ao⟩:=id g;have he:mDJ (rest:Int) rest:=aA;refine(22,fs.f,202,8,42,144,m,69,T.LX,2,8,X,o,n,f,238,used,u,145,fs,aj p hp,hu,4,4,4,λz B n' o' H' C D g' I ap aq=>?_);have hx':=(g'.free m ag).1;obtain⟨J,M⟩:=id I;refine(mIT z J M);rcases aq with⟨ar,hz,_⟩|hl9
 .rw[ar];refine cF;refine(0,144,hx',69,T.Vo,31,z,_,J,3,M,39,31,13,0,W,B.W|||used,26,16,5);by_cases N:Ch W (B.W|||used)=0
  .rw[show aPe=false by rw[N];rfl];refine Az (22,D.f,202,42,X,o',n',C,x,G,p,50,D,g.ev g'.ev (λκ a h=>g'.rg κ a h),j,hp,hu,ab,ac,209,λy v n2 as au av f2 g2 aw ax ay=>k y v n2 as au av f2 (g'.trans g2) aw ax ay)
  rw[show aPe=true by simp;omega];refine Au (42,N,Au4 (Afs _ _) ao,λaz O a0=>?_);refine(0,40,z,B,1<<<az,G.Bl,2,I,λw U s3 hw Y=>mMa aPd);rw[and_zero] at hz⊢;intro b hb;rw[Ate,Atx,Eb] at hb;rcases hb with hb|rfl
  .exact nN hz
  rw[Hq,AsF,Avg,Ate,Bool.or_eq_false_iff] at O;exact O.2.2
 rw[hl9.fin];refine Au (16,40,z,B,64,G.Bl,2,I,λw U s3 hw Y=>mMa (.inr ?_));obtain⟨l,a1,a2,a3⟩:=hl9.ex;have a4:Ch B.W 0=B.W:=(by rw[<-S1,Nat.and_zero];rfl);refine(2,(l,by show Dl _ (Ch B.W 0) l;rw[a4];exact a1,5,a3),53)
 .refine Ae2 (AnS a2) λq (i,a5,a6,a7,a8)=>(i,a5,a6,(j i a7).2,a8)
 .have:=hl9.r;show(rest:Int)<=B.r+1;omega
 have:=hl9.c;show room<=B.c+G.Bl;omega
theorem Ms:AD ["self","knot","rest","used","room","lack","group","follower","note"] aBa (A0 Aau):=aG
theorem Ap_(T:aE)(aa:4<=L)(ab:mGe L):
 A4 P w K mg base A9 (L+3) t.Kq t.Vl aBa (Xe t (r+1)):=by
 refine T.Kq.F.ok Ms cO (λac A outer s H vs Q E b h=>?_)
 .obtain⟨X,o,n,ae,κ,a,rest,used,u,room,rfl,_⟩:=h;rfl
 obtain⟨X,o,n,ae,κ,a,rest,used,u,room,rfl,ok,fs,rg,hu,af,ag,ah,ai,aj,k⟩:=h;refine(_,(Ak (sQ Ms.nd (mL8 aGN))
  (Ak (BS Asq rfl (pT (Bx aK T.B_.c T.Nd.h (ApP T) aGN T.Nd.b .nil Ay dX)) (oJ 6 Ms.nd) (Ao (BS Asq rfl (pT (pV 6)) (oJ 7 Ms.nd) (Ak (mCd Ms.nd (Bx aK T.B_.c T.Nb.h (ApZ T aA ab) aGN T.Nb.b .nil Ay (Ad cA (Ad eZ aEc))))
  (Ak (nI (D9 (pV 8)) (oM kB))
  (Ao (sQ Ms.nd (Bb (WW T) aGN rfl T.G3.m T.G3.F.kp T.G3.b .nil Ay (pM 5 8)))))))))
  (oM bJ))),5)
 refine(2,λak H1 s1 al am=>?_);have an:=mA4 s1;refine(22,an.f,31,X,o,n,ae,203,ok,an,rg,λga ao ap aq f2 g2 ar=>?_);obtain⟨xs,c,c1,as,au,av,aw⟩:=id ar;have ax:=(rL s1).trans g2;obtain⟨ay,az⟩:=am.ev g2.ev (xI al);refine(mFT ga c1);refine E4 (K:=K) (a:=ga) (xs:=nH xs.map) (λj σ d=>∃(y:Addr)(v:Ed)(v6 f g:bQ)(l:Nat)(z:Bj)(B:bI),σ=[jG,mH a,mA5 mX,tN mX,aAx,mH y,v6,f,g]/\AO t X d z l B/\Gw X.F ao ap aq z d B/\uE d y/\z y=none/\yO X.E (λq=>∃(m:Nat)(G:J8)(p:aCA),m<j/\c[m]? =mB G/\p∈G.fl/\ aKf) v)
  (ak,_,183,n,ao,aq,2,f2,Gw.refl,ay,az,(ED.plain aA ai).imp (λq (m,_,_,h,_)=>by omega)) (λj σ d _ (_,_,_,_,_,_,_,_,_,_,C,_)=>mN (C.free c1 as).1) ?_ ?_
 .rintro j y σ d hj ⟨a0,v,v6,f,g,l,z,B,rfl,a1,C,a2,a3,a4⟩;rw[ArY] at hj;obtain⟨x,a5,rfl⟩:mIy xs[j]?:=by
   cases e:xs[j]? with
   |none=>rw[e] at hj;cases hj
   |some x=>rw[e] at hj;exact lL
  have a6:j<c.length:=(wY au a5);have a7:=mK a6;obtain⟨a8,a9⟩:=av j x _ a5 a7;generalize c[j]=G at a7 a8 a9;obtain⟨dx,fo,so,W,ms,ba,bb,bc,bd,be,bf,bg,bh,bi,bj⟩:=id a8;refine(0,144,(C.free ba bb).1,69,T.Vm,2,fo,2,(oX (C.free bc bd).1),5);refine E4 (K:=K) (a:=fo) (xs:=G.fl.map λp=>nE p.2) (λi σ D=>∃(y:Addr)(v:Ed)(f g:bQ)(I:Nat)(J:Bj)(M:bI),σ=[jG,mH a,mA5 mX,tN mX,aAx,mH y,mH x,f,g]/\AO t X D J I M/\Gw X.F ao ap aq J D M/\uE D y/\J y=none/\yO X.E (λq=>(∃(m:Nat)(G:J8)(p:aCA),m<j/\c[m]? =mB G/\p∈G.fl/\ aKf)\/∃(m:Nat)(p:aCA),m<i/\G.fl[m]? =mB p/\ aKf) v)
   (a0,v,19,l,z,B,2,a1,C,a2,a3,a4.imp (λq h=>h.resolve_right (λ(m,_,h,_)=>by omega))) (λi σ D _ (_,_,_,_,_,_,_,_,_,N,_)=>mN (N.free bc bd).1) ?_ ?_
  .rintro i y σ D O ⟨bk,bl,bm,bn,I,J,M,rfl,bo,N,bp,bq,br⟩;rw[ArY] at O;obtain⟨p,bs,rfl⟩:∃p,G.fl[i]? =mB p/\y= .ref p.2:=by
    cases e:G.fl[i]? with
    |none=>rw[e] at O;cases O
    |some p=>rw[e] at O;exact(tI p O)
   refine(22,bo.f,202,42,X,J,I,M,x,G,p,50,bo,a8.ev N.ev (λκ a h=>N.rg κ a h),a9.1,Asl bs,hu,af,ag,ah,ai,λbt bu n' o' H' bv bw g' bx bz b0=>?_);have b1:=N.trans g';obtain⟨b2,b3⟩:=id bx;refine(mIT bt b2 b3);rcases b0 with⟨b4,hz,_⟩|hl9
   .rw[b4];exact Au (0,k bt bu n' o' H' bv bw (ax.trans b1) bx bz (mG (b4,hz,146)))
   rw[hl9.fin];obtain⟨b5,b6⟩:=bp.ev g'.ev bq;refine Az (16,bk,bt,bl,bu,2,b5,bx,λw b7 s4 hw b8=>?_);refine(w,19,_,n',o',bv,2,bw.same s4,b1.trans (rL s4),b8,bw.un _ hw,(br.join hl9).imp λq h=>?_);rcases h with h|⟨m,b9,ca,U,Y⟩
   .exact nG mG h
   rcases(by omega:m<i\/m=i) with e|rfl
   .exact mG (mI (m,b9,e,U,Y))
   rw[bs] at U;obtain rfl:=Ase U;exact mI Y
  rintro σ D ⟨bk,bl,bm,bn,I,J,M,rfl,bo,N,bp,bq,br⟩;refine(bk,bl,19,_,I,J,M,2,bo,N,bp,bq,br.imp λq (m,cb,p,ca,U,Y,h4)=>?_);rcases(by omega:m<j\/m=j) with e|rfl
  .exact mG (m,cb,p,e,U,Y,h4)
  rw[a7] at U;obtain rfl:=Ase U;obtain⟨cc,cd,ce⟩:=Asy Y;exact mI (cc,p,by rw[ArX];exact cd,by rw[mK cd,ce],h4)
 rintro σ d ⟨a0,v,v6,f,g,l,z,B,rfl,a1,C,a2,a3,a4⟩;refine(0,k a0 v l z d B a1 (ax.trans C) a2 a3 (mI (a4.imp λq hq=>?_)))
 cases q with
 |nil=>exact nK hq aj
 |cons i cf=>
  obtain⟨G,cg,ch⟩:=aw i cf hq;obtain⟨m,hm,e⟩:=Asy cg;have cj:m<xs.length:=(oL au hm);obtain⟨_,Av⟩:=av m _ _ (mK cj) (mK hm);rw[e] at Av;obtain⟨p,hp,ck⟩:=Av.2 i ch cf hq;exact(m,G,p,by rw[ArX];exact cj,by rw[mK hm,e],hp,i,cf,2,ch,ck)
theorem Afu(h:iE)(h':Cd t H x v'):v=v':=by
 obtain⟨d,h⟩:=h;obtain⟨d',h'⟩:=h';rw[h] at h';injection Ase h' with _ _ e
 injection e with f e
 injection e with g e
 injection e with e3 e
 injection e with i e
 injection f with _ f
 injection f with f
 injection g with _ g
 injection g with g
 injection e3 with _ e3
 injection e3 with e3
 injection i with _ i
 injection i with i
 obtain⟨a,b,c,d⟩:=v;obtain⟨j,k,l,d'⟩:=v'
 cases f;cases (AtA g);cases e3;cases i
 rfl
theorem SY:AD ["self","knot","rest","used","room","note"] aBa (A0 Aas):=aG
theorem Afv(T:aE)(aa:4<=L)(sp:Sp)(ab:∀vs H Q E,Xe t r vs H Q E->1<=r->mBJ H)(ac:A4 P w K mg base A9 L t.Kq t.Vl aBa sp):
 A4 P w K mg base A9 (L+1) t.FQ t.N5 aBa (PV t r):=by
 refine T.FQ.F.ok SY cO (λae A outer s H vs Q E c h=>?_)
 .obtain⟨X,o,n,d,κ,a,rest,used,u,room,rfl,_⟩:=h;rfl
 obtain⟨X,o,n,d,κ,a,rest,used,u,room,rfl,ok,fs,rg,hu,af,ag,f,k⟩:=h;obtain⟨ne,g,ah,AA,ai,aj,ak,kn⟩:=tQ fs rg;obtain⟨al,am,an⟩:=T.V3;refine(_,(Ak (nI (pL OJ bG Ar) (Ao (A3 (mGf (mDY Ar (oP (nP am an) eY))))))
  (Ak (nI (yH cC) (wA (mGf (Ad Dw (Ad Ar (vO Ar))))))
  (Ak (nI (pL OJ aX cC) (Ao (A3 (mGf (Ad Dw (Ad Ar (uW (zW cC) (nP am an))))))))
  (Ak (sQ SY.nd (Bx aP T.CN.c T.MU.h (Aps T) gQ T.MU.b .nil Ay aEc))
  (Ak (nI (xA bJ) (Ao (sQ SY.nd (Bx aP T.CN.c T.MV.h (Apx T) gQ T.MV.b .nil Ay aEc))))
  (Ak (AU (xA bJ) (Ak (sQ SY.nd (Bx aK T.B_.c T.Kq.h ac gQ T.Kq.b .nil Ay (Ad aP aEc)))
  (Ao (Cu (Bx aK T.B_.c T.Na.h (ApU T) gQ T.Na.b .nil Ay (pM 1 5))))) AY)
  (oM bJ))))))),5)
 obtain⟨fl,c1,ao,ap⟩:=id kn.fin;obtain⟨ls,aq,ar,as⟩:=id kn.HM;have BC:∀(v:Ed)(z j:Addr),H z=none->H j=none->mIS aGM ->Q (mF z) (Aa (qX H j z) z (.Ag t.FS j (Of v))):=λv z j hz m ha=>by obtain⟨s2,au⟩:=Aft (t:=t) (v:=v) hz m;exact k z v n o _ d (mA4 s2) (rL s2) au (xI hz) ha
 refine aPf;by_cases b1:room<0
 .rw[mW b1];refine Au (0,λz j hz m av=>(mDO z j (182,64,(1000),-1)));rw[B1];refine BC _ z j hz m (mI (2,aPg,56,by show room<= -1;omega));exfalso;have aw:(KH X.E.S q:Int)<= -1:=B;omega
 rw[mT b1];refine Az (mL2 a g T.RD);rw[show decide (mO ((AA:Nat):Int)=mO 0)=decide (AA=0) from Fp AA 0];by_cases C:AA=0
 .rw[mW C];refine Au λz j hz m av=>(mDO z j (true,147));rw[B1];exact BC _ z j hz m (mG (2,Nat.zero_and _,λ_=>(kn.AA.2 C,4)))
 rw[mT C];refine Az (16,a,_,g,118,T.RD,2,58);by_cases ax:((rest:Nat):Int)<((AA:Nat):Int)
 .rw[mW ax];refine Au (78,_,g,118,T.RD,2,8,λz j hz m av=>(z,j,(182,64,(AA:Int) - 1,(1000)),2,90,5));rw[B1];refine BC _ z j hz m (mI (2,aPg,by show(rest:Int)<=(AA:Int) - 1;omega,f));exfalso;have ay:(q.length:Int)<=(AA:Int) - 1:=p;have:=kn.AA.1 q hq;omega
 rw[mT ax];have found:∀(y:Addr)(v:Ed)(H':Hp),aO ->uE H y->o y=none->mIS aGM ->Q (mF y) H':=λy v H' D az a0 ha=>k y v n o H' d (mA4 D) (rL D) (az.same D) a0 ha;refine Az (239,fl,148,c1,λx hx=>let(v,h,_):=pI ap;(v,h),5,λx v hx G hz _ _=>?_)
 .refine iA;rw[mW rfl];refine Au (239,ls,148,aq,eI,yW (ApV hu ok.Ol),(λa1 a2=>by have:=ApW hu a2;omega),λH' D=>(5,λW l ns x v hm I hx G a3 p B=>?_))
  .obtain⟨W,l,e,ol,ns,n1,n2,n3⟩:=as q hq;exact(W,l,ns,e,n1,λx hx=>let(v,h,_):=pI n3;(v,h))
  .refine iA;rw[mW rfl];have a4:=mA4 D;refine Au (22,a4.f,202,16,ab _ _ _ _ (X,o,n,d,κ,a,50,a4,rg,hu,4,af,ag,f,(λhq=>by have:=kn.AA.1 [] hq;rw[AuV] at this;omega),λy v n2 a5 a6 a7 f2 g2 a8 a9 ba=>?_) aA);refine(22,f2.f,202,X,a5,n2,a7,κ,a,y,v,2,f2,mC g2.rg rg,a8,a9,ba.elim (λh=> mG h.1) (λh=> mI h.ApX),λn3 bb bc bd g3=>?_);obtain⟨be,bf⟩:=a8.ev g3.ev a9;exact(0,k y v n3 bb bc a7 bd ((rL D).trans (g2.trans g3)) be bf ba)
  refine iA;rw[mT gG];obtain⟨bg,bh,e,ol,bi,n1,n2,n3⟩:=as _ hm;injection e with J M
  injection M with M
  subst M;have bj:W=bg:=by injection J with J;exact AtA J
  subst bj;have:ns=bi:=by
   rw[n1] at I;injection Ase I with I
   exact aPh.mp I.symm
  subst this;obtain⟨v2,N,O,U,bk⟩:=pI n3;obtain rfl:v2=v:=Afu N G;refine Az (0,found x _ H' D N O (.inr ?_));obtain⟨bl,l,Y,bm⟩:=bk;exact(bl,(l,Y,bm,AnN (by rw[U] at Y;exact Y) hu a3),p,B)
 obtain⟨v2,N,O,U⟩:=pI ap;obtain rfl:v2=v:=Afu N G;refine iA;rw[mT gG];refine Az iA;rw[mT gG];exact Az (0,found x _ H eQ N O (mG (U,hz,146)))
theorem Afw(T:aE):∀r,mGe (5+4*r)
 |0=>Afv T (L:=4) aD (λ_ _ _ _=>False) (λvs H Q E h a=>by omega) (T.Kq.F.ok Ms (λvs H Q E h=>h.elim) (λb A outer s H vs Q E c h=>h.elim))
 |r+1=>Afv T (L:=5+4*r+3) aA (Xe t (r+1)) (λvs H Q E h a=>h) (Ap_ T aA (Afw T r))
def SZ(E:FE)(a b c P1:Nat)(q:aB):Prop:=aJZ /\q.length<=E.Aq/\IM E.T (Cb aCy) (if Cb aCy=1 then c else a) (if Cb aCy=1 then P1 else b) aCy
theorem Afx{X:Fw}(ok:eL){w P:Nat}{q:aB}(a:aOY)(c:q.length<=X.E.Aq)(hw:jB)(h:IM X.E.T fW w P (Cc X.E.S q)):
 ∃p,(qV fW w P).2.testBit p=true/\D6 X.E (fW,(qV fW w P).1,p) q:=by
 have d:=PB (λb hb=>mIK a);obtain⟨p,hp,e⟩:=(NY ..).mp h;have f:=(J6 X.E.T (IR X.E) (JA ok) X.E.Aq fW _ p d hw).mpr (_,Oo a,by simpa[Cc] using c,e);have g:=ok.KN _ _ _ p d hw f;have i:nJ (mIU P w).testBit aAz:=
  aGF.mpr (mLZ g f)
 have k:qV fW w P=(w,mIU P w,):=by unfold Cs;grind
 refine(aAz,by rw[k];exact i,a,fT,c);rw[k];exact(e.2.1,(((ok.AT p g).2) _).mp e.2.2)
theorem Aqa{X:Fw}(ok:eL){m w P p:Nat}(hm:m<=1)(hw:jB)(h:nJ (qV m w P).2.testBit p){q:aB}(hq:D6 X.E (m,(qV m w P).1,p) q):IM X.E.T m w P (Cc X.E.S q):=by
 rw[((PU ok hm hw h).2)] at hq;unfold Cs at h;split at h
 .obtain⟨a,b,hb,rfl⟩:=aGF.mp h;rw[Atd,AsF] at hb;obtain⟨_,⟨a1,a2,c⟩,_⟩:=hq;exact(NY ..).mpr (a,hb.1,a1,a2,(mLY a).mpr c)
 simp at h
def Aqb(t:Aw)(r:Nat):Sp:=λvs H Q _=>∃(X:Fw)(o:Bj)(n:Nat)(a:bI)(sa s0 s1:Addr)(c d e P1 rest used:Nat)(u:bE)(room:Int),vs=[kH,mF sa,mA5 mE,tN mE,aBw]/\ eL /\pN a/\H sa=xG s0 s1/\Cz H s0 c d/\Cz H s1 e P1/\c<=4/\e<=4/\ aGK /\rest<=r/\rest+aGL <=14/\room<=1000/\
 ∀(b:Bool)n' o' H' f,mEb X f->vC X.F a f->(b=false->Lk X.E.S (SZ X.E c d e P1) u rest room)->(rest=0->b=true->SZ X.E c d e P1 []/\0<=room)->mAU b
theorem Afy:AD ["self","states","rest","used","room","knot"] aIO (A0 Aap):=aG
theorem Afz(T:aE)(r:Nat):A4 P w K mg base A9 (5+4*r+1) t.Km t.AbB aIO (Aqb t r):=by
 refine mDC T.Km.F.ok Afy
 .obtain⟨X,o,n,d,sa,s0,s1,f,g,ab,P1,rest,used,u,room,rfl,_⟩:=h;rfl
 obtain⟨X,o,n,d,sa,s0,s1,f,g,ab,P1,rest,used,u,room,rfl,ok,fs,ac,ae,af,v,x,hu,ag,ah,ai,k⟩:=h;refine(_,(Ak (BS Asq rfl (pT (Bx aK T.B_.c T.Kp.h (Afi T) gQ T.Kp.b .nil Ay (mU (Bx aK T.B_.c T.Ko.h (Afg T) gQ T.Ko.b .nil Ay dX)))) (oJ 5 Afy.nd) (Ao (nI (D9 (mH8 (Bx aK T.B_.c T.FQ.h (Afw T r) gQ T.FQ.b .nil Ay (Ad bJ aEc)))) aBj)))
  aBj),5)
 refine(22,fs.f,2,22,fs.f,31,X,182,sa,s0,s1,f,g,ab,P1,2,ok,fs.ff,ac,209,v,x,λR aj ak H1 s1 al B am an ao ap=>(X,o,n,d,R,aj,ak,19,3,ok,mA4 s1,an,xI al,ao,xI B,ap,xI am,SW v,SW x,mF9 v,mF9 x,λL fl aq ar as f2 g2 au av aw ax c0 c1 ay=>?_));have az:=(Gw.same (o:=o) (F:=X.F) (k:=d) s1).trans g2;refine(mFT L av);refine E4 (K:=K) (a:=L) (xs:=FB fl) (λj σ C=>∃(D:bQ)(G:Nat)(I:Bj)(J:bI),σ=[jG,mH sa,mA5 mX,tN mX,aAx,D]/\AO t X C I G J/\Gw X.F aq ar as I C J/\∀(m:Nat)(p:aCA),m<j->fl[m]? =mB p->Lk X.E.S (D6 X.E p.1) u rest room)
  (61,n,aq,as,2,f2,Gw.refl,λm p h=>by omega) (λj σ C _ (_,_,_,_,_,_,M,_)=>mN (M.free av aw).1) ?_ ?_
 .rintro j y σ C hj ⟨D,G,I,J,rfl,N,M,a0⟩;rw[FB,ArY] at hj;obtain⟨p,a3,rfl⟩:∃p,fl[j]? =mB p/\y= .ref p.2:=by
   cases e:fl[j]? with
   |none=>rw[e] at hj;cases hj
   |some p=>rw[e] at hj;exact(tI p hj)
  have a4:=Asl a3;refine(22,N.f,202,16,X,I,G,J,p.1,p.2,50,N,mC M.rg (ax p a4),hu,ag,ah,ai,λa5 a6 n' o' H' a7 a8 g' a9 ba bb=>?_);have bc:=M.trans g';obtain⟨bd,be⟩:=id a9;refine(a5,_,bd,3,be,96,T.NA,80);rcases bb with⟨bf,hz,h0⟩|hl9
  .rw[bf];refine Au (k true n' o' H' a7 a8 (az.trans bc) (λh=>by cases h) λB _=>?_);obtain⟨bg,bh⟩:=h0 B;refine((9,aT,5),bh);obtain⟨⟨bi,bj,bk⟩,bl⟩:=p;rcases ay _ a4 with⟨bm,bn,e3⟩|⟨bm,bn,e3⟩
   .obtain rfl:bi=0:=bm;obtain rfl:bj=(qV 0 f g).1:=bn;exact Aqa ok aA v e3 bg
   obtain rfl:bi=1:=bm;exact nK bg.2.1.1 (by show¬(0=1);omega)
  rw[hl9.fin];refine Az (_,n',o',a7,2,a8,bc,λm bo bp O=>?_);rcases(by omega:m<j\/m=j) with e|rfl
  .exact a0 m bo e O
  rw[a3] at O;obtain rfl:=Ase O;obtain⟨l,bq,br,bs⟩:=hl9.ex;intro q hq bp O;obtain⟨i,bt⟩:=br q hq (zY hl9.r) (zY hl9.c);exact(i,by have:=bs i;omega)
 rintro σ C ⟨D,G,I,J,rfl,N,M,a0⟩;refine k false G I C J N (az.trans M) (λ_ q hq bp O=>?_) (λ_ h=>by cases h);obtain⟨a1,a2,U⟩:=hq;have bu:=PB (λb hb=>mIK a1);have:∃z∈fl,D6 X.E z.1 q:=by
  rcases(by omega:fW=0\/ fW=1) with e|e
  .rw[fC,fC] at U;obtain⟨p,b1,Y⟩:=Afx ok a1 a2 v U;rw[e] at b1 Y;obtain⟨a,ha⟩:=c0 p b1;exact(_,ha,Y)
  rw[bV,bV] at U;obtain⟨p,b1,Y⟩:=Afx ok a1 a2 x U;rw[e] at b1 Y;obtain⟨a,ha⟩:=c1 p b1;exact(_,ha,Y)
 obtain⟨z,hz,bv⟩:=this;obtain⟨m,hm,e⟩:=Asy hz;exact a0 m z (by rw[FB,ArX];exact hm) (mBk hm e) q bv bp O
def Aqc(t:Aw):Sp:=λvs H Q _=>∃(p dx:Addr)(P S O a:Addr)(b:V)(c:oU V),vs=[aS,mF P,mF S,mF O]/\H p=rX t.AV/\p≠O/\H O=mB (.Ag t.DD a c)/\c.lookup ("views":Str)=mB b/\
 ∀D,D≠p->H D=none->rH (mY (oA D hY) (nC t.AV [("places",mF P,),("sorts",mF S,),("views",b,),("knots",hE,),("kept",bZ,)]))
theorem Aqd:AD aFE aFE (A0 Aao):=aG
theorem Aqe(T:aE):A4 P w K mg base A9 1 t.MY t.AbA aFE (Aqc t):=by
 refine qT T.MY.F.ok Aqd
 .obtain⟨p,dx,c,d,f,g,i,j,rfl,_⟩:=h;rfl
 obtain⟨p,dx,c,d,f,g,i,j,rfl,hp,l,m,n,k⟩:=h;refine(_,(Ak aAo
  (Ak lG
  (Ak (nW dI)
  (Ak (nW OU)
  aDN)))),5)
 refine(87,46,T.Vq,54,46,T.Ac7,198);rw[B1];refine(0,f,_,g,j,i,2,by rw[nX l];exact m,70,T.Pf,n,72,Af,46,T.Vr,aAu,5);rw[B1];refine λD o=>?_;have q:D≠p:=λe=>aPi;rw[mA2 q];refine(vA T.B_.c T.NC 3);rw[B1];refine(vA T.B_.c T.RF 4);rw[B1];exact k D q (by rwa[Ah q] at o)
structure Aqf(fs:oU V)(P SA:Addr):Prop where
 pl:oE ("places":Str)=some (mF P)
 so:oE ("sorts":Str)=some (mF SA)
 n1:oE ("view_of_end":Str)=none
 n2:oE ("view_ahead":Str)=none
 n3:oE ("add_shape":Str)=none
 n4:oE ("add_led":Str)=none
def S_(t:Aw)(H:Hp)(p P SA:Addr):Prop:=∃dx fs,H p=oN t.DD fs/\Aqf fs P SA
theorem Ta(f:bE)(n j v:Nat):aGw.set j (mE ((v:Nat):Int))=iv (Be (λx=>if x=j then v else f x) n):=by apply AsJ;intro i;rw[List.getElem?_set,ArY,ArY,Be,Be,ArY,ArY,ArX,ArX,As4];grind
theorem Tb(h:∀x,x<n->f x=g x):Be f n=Be g n:=AsU λx hx=>h x aGO
theorem Tc(f:bE)(n:Nat):aGw.length=n:=by rw[ArX,Be,ArX,As4]
theorem Td(f:bE){n w:Nat}(h:w<n):pO aGw[w]? (sR mE f w):=by rw[ArY,Be,ArY,AsY h];rfl
theorem Xg(h:i<n):FK n (i:Int)=some i:=by unfold FK;rw[gT,gT];rfl
def Fr(B:aCj)(H H':Hp):Prop:=∀c u,H c=aM ->¬B c-> dO=aM
theorem Fr.refl:Fr B H H:=λ_ _ e _=>e
theorem Fr.trans(a:Fr B H H1)(b:Fr B H1 g):Fr B H g:=λc u e n=>b c u (tO a n) n
theorem Fr.Aa(a:Fr B H H1)(hf:B f):Fr B H (L2.Aa H1 f u):=λc v e n=>by have:c≠f:=λz=>n (oL z hf);rw[aCC];exact a c v e n
theorem Fr.same(a:Fr B H H1)(s:tX g):Fr B H g:=λc u e n=>nM (tO a n)
theorem Fr.JE(a:uH B)(s:Ab Hs H)(g:∀c,B c->Hs c=none):Ab Hs H':=λc u e=>a c u (sS s) (λz=>by rw[g c z] at e;cases e)
theorem Fr.As(a:uH B)(h:∀c,B c->g c):Fr g H H':=λc u e n=>tO a (λz=>n (h c z))
theorem Af0(a:BR)(st:FL)(n w:Nat):IO a st (n+1) w=IO a st n w|||GA a st.2 w n:=by unfold IO;rw[Atl,At4];rfl
def Aqg(t:Aw):Sp:=λvs H Q _=>∃(Hs:Hp)(p P SA f l:Addr)(a:BR)(F L:bE),vs=[aS,iN,eP]/\mGh Hs/\G8 t Hs P a/\Ab Hs H/\Hs f=none/\f≠l/\H f=uG F/\H l=mA6 L/\
 ∀H',yP f H H'->H' f=some (yN pW (IO a (F,L,) 4))-> cW
theorem PX:AD ["self","finishing","led_places","lead","places","weight","length"] aIT (A0 Aa2):=aG
theorem Af1(T:aE):A4 P w K mg base A9 2 t.Ku t.AbP aIT (Aqg t):=by
 refine T.Ku.F.ok PX cO aJj
 .obtain⟨Hs,p,g,SA,f,l,m,F,L,rfl,_⟩:=h;rfl
 obtain⟨Hs,p,g,SA,f,l,m,F,L,rfl,⟨ab,ac,ae,af⟩,o,ag,ah,q,hf,r,k⟩:=h;obtain⟨_,ai,aj,ak,al,am,an,_⟩:=id o;obtain⟨ao,ap,aq⟩:=T.LZ;refine(_,(Ao (BS Asq rfl (Ru rfl T.Ma jX) (uA 3 PX.nd 4) (Ak (mGi aP (nP ap aq) bG)
  (Ao (BS Asq rfl (mFq (nP ap aq)) (oJ 5 PX.nd) (Ak (uC PX.nd (mHU (Bb (Sf T) eH rfl T.Fj.m T.Fj.F.kp T.Fj.b .nil Ay (pM 5 3))))
  (Ao (mGi aP bJ (Bx aY T.B6.c T.Iy.h (Wz T) eH T.Iy.b .nil Ay (Ad bG (oP cA Dw))))))))))),5)
 refine(0,l,0,mN r,5);refine Fn (J:=MM K l) 4 (λj σ u=>∃(B v4 C v6:bQ),σ=[bM,mH f,mH l,B,v4,C,v6]/\yP f H u/\u f=some (yN pW (IO m (F,L,) j)))
  (14,14,88,hf) ?_ ?_ ?_ ?_
 .rintro j σ u hj ⟨B,v4,C,v6,rfl,fr,D⟩;exact(19,aKg,by rw[ArY,Be,ArY,AsY hj];rfl)
 .rintro σ u ⟨B,v4,C,v6,rfl,fr,D⟩;exact(_,aKg,by rw[ArX,Be,ArX,As4];exact aD)
 .rintro j σ u y ar hj ⟨B,v4,C,v6,rfl,fr,D⟩ ⟨G,x,rfl,as,rfl,hx⟩;have hx':=hx _ aKg;rw[ArY,Be,ArY,AsY hj] at hx';obtain rfl:sR mE L j=x:=aBz;have I:Ab u (Aa u G aKh):=mS as;have au:mD4 u G aKh:=Af;have av:=fr.same I;have M:=mC I D;generalize Aa u G aKh=ar at I au av M;refine(G,0,nQ au,2,3,58);refine(f,_,(4),0,2,mN M,Td _ aA,0,13,f,_,(4),(4),26,M,by rw[Tc];rfl,5);rw[Ta];refine((4),2,4,4,5);refine QI (lo:=0) (n:=4) (λi σ N=>∃(C v6:bQ),σ=[bM,mH f,mH l,mX (j:Nat),sR mX L j,C,v6]/\yP f H N/\N f=some (.Ac (iv (Be (λw=>if w=4\/w<i then IO m (F,L,) (j+1) w else IO m (F,L,) j w) 5))))
   (3,av.Aa rfl,5) ?_ ?_
  .rw[Af];congr 3;apply Tb;intro x hx;by_cases e:x=4
   .subst e;rw[bF,mJ bA,Af0];rfl
   rw[bP,fC]
  .rintro i σ N aw ⟨C,v6,rfl,O,U⟩;rw[Int.zero_add];have Y:=(λH' a=>a.JE ag (mA7 ah)) N O;refine(16,i,j,2,73,Pu (Jw (a:=i) (b:=j) aA aA),16,f,_,i,0,2,mN U,Td _ aA,5);refine(7,ab,ac,0,mC Y ae,70,T.Pe,af.pl,g,ai,aj,2,mC Y am,an.n2,16,g,m,19,true,2,o.same Y,NT _,13,f,_,i,i,26,U,149);rw[Ta];refine(3,O.Aa rfl,5);rw[Af];congr 3;apply Tb;intro x hx;by_cases e:x=i
   .subst e;rw[bF,fC,gT,Af0];unfold GA;rw[fC]
   rw[bP];by_cases ax:x=4\/x<i
   .rw[mJ ax,gT]
   rw[mM ax,fC]
  rintro σ N ⟨C,v6,rfl,O,U⟩;refine(19,3,O,5);rw[U];congr 3
 rintro σ u ⟨B,v4,C,v6,rfl,fr,D⟩;exact k u fr D
theorem Aqh(a:BR)(L:Nat)(ws:aB):KF a L ws=ws.reverse.foldl (λQ x=>mCl before a Q) L:=by unfold KF;rw[List.foldr_eq_foldl_reverse]
def Aqi(t:Aw):Sp:=λvs H Q _=>∃(Hs:Hp)(p P SA f l sh lt:Addr)(a:BR)(F L later:bE)(S:BU),vs=[aS,iN,eP,mF sh,mF lt]/\mGh Hs/\G8 t Hs P a/\Ab Hs H/\Hs f=none/\Hs l=none/\f≠l/\H f=uG F/\H l=mA6 L/\DE t Hs sh S/\EB S/\S.A2.length<=1000/\Hs lt=uG later/\
 ∀H',uH (tS f l)->H' f=mGj (G9 a later (F,L,) S).1->H' l=some (.Ac (iv (Be (G9 a later (F,L,) S).2 4)))-> cW
theorem PY:AD ["self","finishing","led_places","shape","later","places","weight"] aIS (A0 Aa1):=aG
theorem Aqj(T:aE):A4 P w K mg base A9 2 t.Ni t.AbO aIS (Aqi t):=by
 refine pF T.Ni.F.ok PY
 .obtain⟨Hs,p,d,SA,f,l,sh,lt,g,F,L,later,S,rfl,_⟩:=h;rfl
 obtain⟨Hs,p,d,SA,f,l,sh,lt,g,F,L,later,S,rfl,⟨ac,ae,af,ag⟩,ah,j,ai,aj,ak,hf,al,⟨m,am,o,q⟩,r,an,ao,k⟩:=h;obtain⟨_,ap,aq,ar,as,au,av,_⟩:=id ah;obtain⟨aw,ax,ay⟩:=T.LZ;refine(_,(Ao (AU (qY dI) (Ak (sQ PY.nd (qU bG (qU dI eY)))
  (Ak (rV (Zx rfl T.AcN (mU (mDG dI eY))) (oJ 6 PY.nd) (Ao (sQ PY.nd (mMb (mMc bJ cA)))))
  (Ao (mGi aX dI bJ)))) (Ao (rV (mFq (vX (nP ax ay))) (oJ 6 PY.nd) (Ao (mGi aP cA (qU bG (mKM (oP cA dI))))))))),5)
 have toS:∀H',uH (tS f l)->Ab Hs H':=λH' a=>a.JE j (λc z=>z.elim (λz=>z▸ai) (λz=>z▸aj));refine(0,98,_,mG (_,nA j q,2),5);by_cases e:S.A2=[]
 .have u:oZ aGE.isEmpty:=(qO e);rw[u];refine cF;refine(8,(5),2,4,4,5);refine QI (lo:=0) (n:=5) (λi σ B=>∃(v6:bQ),σ=[bM,mH f,mH l,mH sh,mH lt,none,v6]/\Fr (tS f l) H B/\B l=H l/\B f=mGj (λw=>if w<i then F w|||later (BE w S.Bk) else F w))
   (61,88,2,hf) ?_ ?_
  .rintro i σ B C ⟨v6,rfl,D,az,G⟩;rw[Int.zero_add];have I:=toS B D;have a0:BE i S.Bk<5:=by
    by_cases a1:i=4
    .subst a1;rw[NS];omega
    have:=Jw (a:=i) (b:=S.Bk) aA r.1;omega
   refine(16,f,_,i,0,2,mN G,Td _ aA,42,171,i,S.Bk,2,lt,36,nA I ao,SV _ a0,13,f,_,i,i,26,G,149);rw[Ta];refine(0,D.Aa bA,by rw[nX ak];exact az,5);rw[Af];congr 3;apply Tb;intro x hx;by_cases e:x=i
   .subst e;rw[bF,fC,gT]
   rw[bP];by_cases M:x<i
   .rw[mJ M,gT]
   rw[mM M,fC]
  rintro σ B ⟨v6,rfl,D,az,G⟩;refine k B D ?_ ?_
  .rw[G];unfold G9;rw[bV];rfl
  rw[az,al];unfold G9;rw[bV]
 have u:pH aGE.isEmpty:=by
  cases h:S.A2 with
  |nil=>exact nK h e
  |cons=>rfl
 rw[u];have a2:aOW:=by refine aOX;rw[ArX,ArY,<-Awg,Aud e];rfl
 have a3:=NU e r.2;refine Au (16,98,0,am,36,nA j q,a2,lt,36,nA j ao,SV _ aA,5);refine(0,98,16,am,0,nA j q,λN a4=>?_);rw[Afj];have O:Ab H (nD H N lN):=mS a4;have U:(nD H N lN) N=some (pW S.A2.dropLast):=Af;have a5:Fr (tS f l) H (nD H N lN):=mCA O;have a6:=mC O hf;have a7:=mC O al;generalize Aa H N (pW S.A2.dropLast)=H1 at O U a5 a6 a7;have I:=toS H1 a5;refine(mCB N U);refine Fn (J:=L2.Rr K N lN.length) S.A2.dropLast.length (λi σ B=>∃(v6:bQ),B=H1/\σ=[bM,mH f,mH l,mH sh,mH lt,some (.int (((S.A2.dropLast.reverse.take i).foldl (λQ x=>mCl before g Q) (later (S.A2.getLast?.getD 0)):Nat):Int)),v6]) aFk
  (λi σ B C (_,e,_)=>(mLG C U lN.length)) (λσ B _=>by show lN.length<=S.A2.dropLast.length;rw[ArX];exact aD) ?_ ?_
 .rintro i σ B y a8 C ⟨v6,rfl,rfl⟩ ⟨rfl,hy⟩;have Y:=hy _ (mN U);rw[ArY,ArX] at Y;obtain⟨x,hx,rfl⟩:mLU S.A2.dropLast.reverse[i]?:=by
   rw[List.getElem?_reverse C]
   cases e:S.A2.dropLast[S.A2.dropLast.length - 1 - i]? with
   |none=>rw[e] at Y;cases Y
   |some x=>rw[e] at Y;exact(tI x Y)
  refine(7,ac,ae,0,mC I af,70,T.Pe,ag.pl,d,ap,aq,2,mC I au,av.n2,16,73,mLV r.2 (List.mem_reverse.mp (Asl hx)),d,g,19,182,2,ah.same I,NT _,169);rw[AsA,hx,At4];rfl
 rintro σ B ⟨v6,rfl,rfl⟩;rw[<-AvC,AsC,<-Aqh];refine(16,171,l,_,S.Bk,0,2,mN a7,Td _ (zY r.1),0,13,l,_,S.Bk,S.Bk,26,a7,by rw[Tc];exact Xg (zY r.1),5);rw[Ta];refine k _ (a5.Aa eB) ?_ ?_
 .rw[Ah ak,a6];unfold G9;rw[bP]
 rw[Af];unfold G9;rw[bP];congr 3;apply Tb;intro x hx;by_cases M:x=S.Bk
 .subst M;rfl
 rw[mM M];show L x=if x=S.Bk then _ else L x
 rw[mM M]
def Aqk(t:Aw):Sp:=λvs H Q _=>∃(p P SA:Addr)(a:BR),vs=[aS]/\mGh H/\G8 t H P a/\
 ∀v b c H',aO ->H v=none->H b=none->H c=none->b≠c->H' v=xG b c->H' b=uG (D0 a 0)-> dO=uG (D0 a 1)->oQ v
theorem Af2:AD (qR "last") cL (A0 Aaz):=aG
theorem Af3(T:aE):A4 P w K mg base A9 2 t.Ks t.AbM cL (Aqk t):=by
 refine pF T.Ks.F.ok Af2
 .obtain⟨p,a,SA,b,rfl,_⟩:=h;rfl
 obtain⟨p,a,SA,b,rfl,⟨c,d,f,g⟩,j,k⟩:=h;obtain⟨_,l,m,ac,ae,n,o,_⟩:=id j;obtain⟨af,ag,ah⟩:=T.AcF;obtain⟨ai,q,r⟩:=T.LZ;refine(_,(Ak (tY Af2.nd (mMb (Ad kI (oP (nP ag ah) Dw))))
  (Ao (A3 (CV (Ad (AE HC (AE Lo (rY aP) (nP q r)) (rY Ar)) (mU (mDF (vX (nP q r))))))))),5)
 refine(136,l,m,2,n,o.n2,136,_,l,m,0,n,35,T.AcA,o.done,a,b,_,(2),true,2,j,4,0,jH,λa1 aj=>?_);have s1:Ab H (oA a1 aGP):=mS aj;have c1:(oA a1 aGP) a1=some aGP:=Af;generalize Aa H a1 aGP=H1 at s1 c1;refine(a1,(4),0,2,c1,150,λa2 ak=>?_);have u:mCC H1 a2 (mIV Int b):=Af;have s2:Ab H (Aa H1 a2 (mIV Int b)):=pC s1 ak;generalize Aa H1 a2 (mIV Int b)=x at s2 u;refine(jH,λy al=>?_);have z:Ab x (nD x y [bZ]):=mS al;have B:mAk x y [bZ]:=Af;generalize Aa x y aEd=C at z B;refine(a2,y,8,mC z u,B,(by show 4+1<=sizeLine;decide),λD h4=>?_);have am:(pG (4:Int).toNat [mIW mO b Int]).flatten++[bZ]=iv (Be (D0 b 0) 5):=rfl;rw[am];have G:Ab C (Aa C D (mCD 0)):=mS h4;have I:mCC C D (mCD 0):=Af;generalize Aa C D (mCD 0)=J at G I;have s4:=qE s2 z G;refine(jH,λL an=>?_);have M:Ab J (nD J L [bZ]):=mS an
 have ao:mAk J L [bZ]:=Af;generalize Aa J L aEd=N at M ao;refine(8,L,(5),0,2,ao,21,21,(mGk 5),λO h6=>?_);have ap:(pG (5:Int).toNat gE).flatten=iv (Be (D0 b 1) 5):=rfl;rw[ap];have aq:Ab N (Aa N O (mCD 1)):=mS h6;have ar:mCC N O (mCD 1):=Af;generalize Aa N O (mCD 1)=as at aq ar;have U:=nB M aq;refine(gF,λv au=>?_);have Y:Ab as (Aa as v (tR D O)):=mS au;have n5:=BL M h6;exact k v D O _ (qE s4 U Y) (BL s4 (BL U au)) (BL s2 (BL z h4)) (BL s4 n5) (λe=>by rw[<-e,I] at n5;cases n5) Af (nV Y U I) (mC Y ar)
structure LV(H:Hp)(f0 f1 g0 g1:Addr)(c:Nat->FL):Prop where
 a0:H f0=some (yN pW (c 0).1)
 a1:H f1=some (yN pW (c 1).1)
 b0:H g0=some (pW (Be (c 0).2 4))
 b1:H g1=mA6 (c 1).2
structure Te(f0 f1 g0 g1:Addr):Prop where
 a:f0≠f1
 b:f0≠g0
 c:f0≠g1
 d:f1≠g0
 e:f1≠g1
 f:g0≠g1
def B4(f0 f1 a g1:Addr):aCj:=λc=>c=f0\/c=f1\/c=a\/c=g1
theorem LV.same(h:mA8 H g c)(s:aO):LV H' f0 f1 g g1 c:=(nM h.a0,nM h.a1,nM h.b0,nM h.b1)
theorem LV.congr(h:mA8 H g c)(i:c 0=d 0)(j:c 1=d 1):LV H f0 f1 g g1 d:=(i▸h.a0,j▸h.a1,i▸h.b0,j▸h.b1)
theorem LV.Aql(h:mA8 H g c)(d:Te f0 f1 g g1)(fr:uH (tS f0 g))(i:H' f0=uG x.1)(j:H' g=mA6 x.2):LV H' f0 f1 g g1 (λm=>if m=0 then x else c m):=
 (i,fr _ _ h.a1 (by rintro(e|e);exact vV d.a;exact d.d e),j,fr _ _ h.b1 (by rintro(e|e);exact vV d.c;exact vV d.f))
theorem LV.Aqm(h:mA8 H g c)(d:Te f0 f1 g g1)(fr:uH (tS f1 g1))(i:H' f1=uG x.1)(j:H' g1=mA6 x.2):LV H' f0 f1 g g1 (λm=>if m=1 then x else c m):=
 (fr _ _ h.a0 (by rintro(e|e);exact d.a e;exact d.c e),i,fr _ _ h.b0 (by rintro(e|e);exact vV d.d;exact d.f e),j)
theorem LV.pick(h:mA8 H i c)(d:Te f0 f1 i g1){m:Nat}(hm:m<=1):∃f g,mIE f0 f1=mH f/\mIE i g1=mH g/\H f=uG (c m).1/\H g=mA6 (c m).2/\f≠g/\B4 f0 f1 i g1 f/\B4 f0 f1 i g1 g/\
 ∀(x:FL)(H':Hp),uH (tS f g)->H' f=uG x.1->H' g=mA6 x.2->LV H' f0 f1 i g1 (λk=>if k=m then x else c k):=by
 rcases(by omega:xH m) with rfl|rfl
 .exact(f0,i,cP,cP,h.a0,h.b0,d.b,bA,nG mI bA,λx H' fr q s=>h.Aql d fr q s)
 exact(f1,g1,77,77,h.a1,h.b1,d.e,mI bA,mI (nG mI rfl),λx H' fr q s=>h.Aqm d fr q s)
def JF(t:Aw)(H:Hp)(SA:Addr)(S:iD):Prop:=∃a:aQ,H SA=aCk /\a.length=S.length/\∀(i:Nat)(q:Addr),a[i]? =dE ->HN t H q S i
def inn(b:BR)(later:kF)(a:Wd)(st:FL):Nat->FL
 |0=>st
 |1=>G9 b (later 0) st a.DF
 |_=>mLf b
def Aqo(t:Aw):Sp:=λvs H Q _=>∃(p P SA lv:Addr)(a:BR)(S:iD)(later:kF),vs=[aS,mF lv]/\mGh H/\G8 t H P a/\JF t H SA S/\ aKi /\KM H lv later/\
 ∀v b c H',aO ->H v=none->H b=none->H c=none->H' v=xG b c->H' b=mGj (NZ a gH later 0)-> dO=mGj (NZ a gH later 1)->oQ v
theorem Os:AD ["self","later","view","led","sort","shape","finishing"] aIR (A0 Aa0):=aG
theorem Aqp(T:aE):A4 P w K mg base A9 3 t.Nh t.AbN aIR (Aqo t):=by
 refine pF T.Nh.F.ok Os
 .obtain⟨p,ac,SA,lv,d,S,later,rfl,_⟩:=h;rfl
 obtain⟨p,ac,SA,lv,d,S,later,rfl,ae,af,ag,ah,⟨m0,ai,aj,ak,al⟩,k⟩:=h;obtain⟨am,an,ao,ap⟩:=id ae;obtain⟨aq,ar,as,au⟩:=ag;obtain⟨av,aw,ax⟩:=T.LZ;refine(_,(Ak (qJ Os.nd (mMd bR))
  (Ak (rW Os.nd (CV (mIv (mDF (nP aw ax)))))
  (Ak (rV aAq (oJ 4 Os.nd) (Ao (rV (AeM (K:=K) false false rfl rfl T.K0 (oP gM aP)) (uA 5 Os.nd 6) (Ao (Cu (Bx aK T.Em.c T.Ni.h (Aqj T) bR T.Ni.b .nil Ay (Ad (tL aX gM) (Ad (tL bB gM) (pM 5 6)))))))))
  (Ak aPj
  (Ak aPj
  aBi))))),5)
 refine(120,ao,ap.n1,p,ac,SA,d,2,209,λv f0 f1 H1 s1 ay az a0 a3 cv l o=>(jH,λa1 a4=>?_));have a5:Ab H1 (nD H1 a1 [bZ]):=mS a4;have a6:mAk H1 a1 [bZ]:=Af;generalize Aa H1 a1 aEd=a7 at a5 a6;refine(a1,(4),0,2,a6,150,λr a8=>?_);have a9:(pG (4:Int).toNat gE).flatten=iv (Be aCv 4):=rfl;rw[a9];have ba:Ab a7 (Aa a7 r aCG):=mS a8;have bb:xJ a7 r aCG:=Af;generalize Aa a7 r aCG=bc at ba bb;refine(jH,λa2 h4=>?_);have bd:Ab bc (nD bc a2 [bZ]):=mS h4;have be:mAk bc a2 [bZ]:=Af;generalize Aa bc a2 aEd=bf at bd be;refine(a2,(4),0,2,be,150,λg1 bh=>?_);rw[a9];have bi:Ab bf (Aa bf g1 aCG):=mS bh;have bj:xJ bf g1 aCG:=Af;generalize Aa bf g1 aCG=bk at bi bj;refine(gF,λld h6=>?_);have u:Ab bk (Aa bk ld (tR r g1)):=mS h6;have B:xJ bk ld (tR r g1):=Af;generalize Aa bk ld (tR r g1)=bl at u B;have bm:=nB a5 ba;have bn:=nB bd bi;have C:=qE bm bn u;have bo:=nB s1 C;have bp:mV bc g1:=BL bd bh;have bq:Te f0 f1 r g1:=by have br:mV H1 r:=BL a5 a8;have bs:mV H1 g1:=BL bm bp;exact(a3,(λe=>by rw[<-e,l] at br;cases br),(λe=>by rw[<-e,l] at bs;cases bs),(λe=>by rw[<-e,o] at br;cases br),(λe=>by rw[<-e,o] at bs;cases bs),(λe=>by rw[<-e,bb] at bp;cases bp))
 have bt:LV bl f0 f1 r g1 (λm=>(D0 d m,λ_=>0,)):=(mC C l,mC C o,nV u bn bb,mC u bj);have bu:∀c,B4 f0 f1 r g1 c->H c=none:=by
  rintro c (e|e|e|e)<;>subst e
  .exact az
  .exact a0
  .exact(BL (nB s1 a5) a8)
  exact(BL (nB s1 bm) bp)
 have bv:=mC C cv;have bw:¬B4 f0 f1 r g1 v:=by
  rintro(e|e|e|e)
  .rw[<-e,cv] at l;cases l
  .rw[<-e,cv] at o;cases o
  .have:=nV u bn bb;rw[<-e,bv] at this;cases this
  have:=mC u bj;rw[<-e,bv] at this;cases this
 have bx:¬B4 f0 f1 r g1 ld:=by
  rintro(e|e|e|e)
  .have:=mC C l;rw[<-e,B] at this;cases this
  .have:=mC C o;rw[<-e,B] at this;cases this
  .have:=nV u bn bb;rw[<-e,B] at this;cases this
  have:=mC u bj;rw[<-e,B] at this;cases this
 have toS:∀H',Fr aEe bl H'->Ab H H':=λH' a=>a.JE bo bu;clear s1 a5 ba bd bi u bm bn C a6 bb be bj l o cv a4 a8 h4 bh h6;refine(7,am,an,0,mC bo ao,70,T.Ac8,ap.so,SA,2,(_,nA bo ar),5);refine E4 (K:=K) (a:=SA) (xs:=nH aq.map) (λj σ bz=>∃(v4 D v6:bQ),σ=[bM,mH lv,mH v,mH ld,v4,D,v6]/\Fr aEe bl bz/\mA8 bz r (λm=>(gH.take j).foldl (mDR d) (D0 d m,λ_=>0,)))
  (183,88,bt) (λj σ bz _ (_,_,_,_,fr,_)=>mN (toS _ fr _ _ ar)) ?_ ?_
 .rintro j y σ bz hj ⟨v4,D,v6,rfl,fr,G⟩;rw[ArY] at hj;obtain⟨q,hq,rfl⟩:mF5 aq[j]?:=by
   cases e:aq[j]? with
   |none=>rw[e] at hj;cases hj
   |some x=>rw[e] at hj;exact lL
  have b0:j<S.length:=(wY as hq);obtain⟨b1,sh,b2,b3,M,b4,b5,b6,b7,b8⟩:=au j q hq;obtain⟨b9,ca⟩:=ah j b0;have cb:pO gH[j]? aBq.wd:=(by rw[ArY,mK b0];unfold AH;rw[Asv,mK b0];rfl);have cc:=toS _ fr;refine(0,q,_,b1,3,mC cc b4,47,T.Pk,31,sh,lv,3,mGl (mC cc b5),mGl (mC cc aj),5);refine Fn (J:=SI K false false sh lv) 2 (λi σ I=>∃(D v6:bQ),σ=[bM,mH lv,mH v,mH ld,mH q,D,v6]/\Fr aEe bl I/\mA8 I r (λm=>if m=aBq.wd.vf then inn d later aBq.wd ((gH.take j).foldl (mDR d) (D0 d m,λ_=>0,)) i else(gH.take j).foldl (mDR d) (D0 d m,λ_=>0,)))
   (3,fr,G.congr (by split<;>rfl) (by split<;>rfl)) ?_ ?_ ?_ ?_
  .rintro i σ I cd ⟨D,v6,rfl,L,ce⟩;have N:=toS _ L;exact(49,mCE b5,mCE aj,mF6 b2 b3 cd,mF6 m0 ai cd)
  .rintro σ I ⟨D,v6,rfl,L,ce⟩;have N:=toS _ L;exact(19,mCE b5,mCE aj,mG aD)
  .rintro i σ I y cf cd ⟨D,v6,rfl,L,ce⟩ ⟨cg,x,ch,rfl,cj,rfl,hx,hy⟩;have N:=toS _ L;have hx':=hx _ (mCE b5);have ck:=hy _ (mCE aj);obtain⟨pi,O,rfl,rfl,cl,cm⟩:∃pi O,x= mF pi/\ch= mF O/\wV pi (aBq.wd.sh i)/\H O=some (yN pW (later i)):=by
    rcases(by omega:xH i) with rfl|rfl
    .exact(b2,m0,225,b6,ak)
    exact(b3,ai,225,b7,al)
   have cn:Ab I (Aa I cg (tR pi O)):=mS cj;have co:xJ I cg (tR pi O):=Af;have U:=L.same cn;have cp:=ce.same cn;generalize Aa I cg (tR pi O)=cf at cn co U cp;have Y:=toS _ U;obtain⟨f,g,cq,eg,hf,hg,cr,cs,bg,step⟩:=cp.pick bq b9.vf;refine(cg,0,nQ co,2,3,8,120,mC Y ao,ap.n3,106,v,36,nQ (mP U bv bw),cq,106,ld,36,nQ (mP U B bx),eg,16,5);refine(H,p,ac,SA,f,g,pi,O,d,19,later i,0,209,Y,bu _ cs,bu _ bg,cr,hf,hg,cl,b9.sh i,ca i,cm,λH' ct cu cx=>(3,U.trans (ct.As λc hc=>hc.elim (λe=>e▸cs) (λe=>e▸bg)),(step _ _ ct cu cx).congr ?_ ?_))
   all_goals
    split
    .rename_i e;rw[<-e];simp;rcases(by omega:xH i) with rfl|rfl<;>rfl
    rfl
  rintro σ I ⟨D,v6,rfl,L,ce⟩;refine(_,3,L,ce.congr ?_ ?_)
  all_goals
   rw[AsA,cb,Atp,At4];show _=J5 _ _ _ _ _;unfold J5;split
   .rename_i e;rw[vV mJ];rfl
   rename_i e;rw[yC e z.symm]
 rintro σ bz ⟨v4,D,v6,rfl,fr,G⟩;have hlen:gH.take (nH aq.map).length=S.map Cr.wd:=(by rw[ArX,as,<-ArX (f:=Cr.wd),AsC]);rw[hlen] at G;have cc:=toS _ fr;refine(120,mC cc ao,ap.n4,0,v,36,nQ (mP fr bv bw),cP,0,ld,36,nQ (mP fr B bx),cP,H,p,ac,SA,f0,r,d,3,209,cc,az,bq.b,G.a0,G.b0,λcf U cy=>?_);have cz:Fr aEe bl cf:=fr.trans (U.As λc hc=> mG hc);have Y:=toS _ cz;refine(120,mC Y ao,ap.n4,0,v,36,nQ (mP cz bv bw),77,0,ld,36,nQ (mP cz B bx),77,H,p,ac,SA,f1,g1,d,3,209,Y,a0,bq.e,mP U G.a1 (λe=>vV bq.a),mP U G.b1 (λe=>vV bq.c),λc0 c1 c2=>?_);have c3:Fr aEe bl c0:=cz.trans (c1.As λc hc=> mI (mG hc));exact(0,k v f0 f1 c0 (toS _ c3) ay az a0 (mP c3 bv bw) (mP c1 cy bq.a) c2)
theorem HN.same(h:HN t H q S i)(s:aO):HN t H' q S i:=by obtain⟨dx,sh,g,j,M,a1,a2,u,v,y⟩:=h;exact(dx,sh,g,j,M,nM a1,nM a2,u.same s,v.same s,y)
theorem JF.same(h:JF t H SA S)(s:aO):JF t H' SA S:=by obtain⟨g,j,u,v⟩:=h;exact(g,nM j,u,λi q e=>(v i q e).same s)
def JG(VA:Addr)(H:Hp)(v:Addr)(f:kF):Prop:=∃a b,a≠VA/\b≠VA/\v≠VA/\H v=oO aAk /\H a=uG (f 0)/\H b=uG (f 1)
theorem JG.at_(h:JG VA H v f):KM H v f:=let(g,i,_,_,_,a,b,c):=h;(g,i,a,b,c)
theorem JG.fr(h:JG VA H v f)(s:yP VA H H'):JG VA H' v f:=let(g,i,j,n1,n2,a,b,c):=h;(g,i,j,n1,n2,mP s a n2,mP s b j,mP s c n1)
def Aqq(t:Aw):Sp:=λvs H Q _=>∃(Hs:Hp)(p dx P SA:Addr)(a:BR)(S:iD)(Aq:Nat),vs=[aS,mF P,mF SA,wD mE]/\Ab Hs H/\Hs p=none/\H p=rX t.DD/\G8 t Hs P a/\JF t Hs SA S/\ aKi /\Aq<=1000/\
 ∀(VA:Addr)(fs:oU V)(H':Hp)(b:aQ),uH eS->H' p=oN t.DD fs->oE ("views":Str)=mH VA->H' VA=pU b.map->b.length=Aq+1->(∀(r:Nat)(v:Addr),b[r]? =bK ->KM H' v (GB a gH r))-> cW
theorem Aqr:AD aFF aFF (A0 Aay):=aG
theorem Aqs(T:aE):A4 P w K mg base A9 4 t.Ng t.AbL aFF (Aqq t):=by
 refine mBZ T.Ng.F.ok Aqr
 .obtain⟨Hs,p,dx,f,SA,g,S,Aq,rfl,_⟩:=h;rfl
 obtain⟨Hs,p,dx,f,SA,g,S,Aq,rfl,ab,ac,hp,ae,af,ag,ah,k⟩:=h;refine(_,(Ak aAo
  (Ak lG
  (Ak (nW (By (mU (mMd dW))))
  (Ao (Ka Asq (pL DB aCq bB) (Ao (Cu (mD0 (mU (Bx aK T.Em.c T.Nh.h (Aqp T) dW T.Nh.b .nil Ay (mU (qU aY eY)))))))))))),5)
 refine(87,70,T.Pe,54,70,T.Ac8,198);rw[B1];have ai:∀u,Fr eS H (mY H u):=λu=>aKj;have sp:∀u,Ab Hs (mY H u):=λu=>(ai u).JE ab (mA7 ac);refine(219,90,p,f,SA,g,2,(mMe Af),ae.same (sp _),λv aj ak H1 s1 al am an _ cv ao ap=>(jH,λVA i=>?_));have aq:=rF (Af (H:=H) (a:=p));have s2:Ab H1 (nD H1 VA [mF v]):=mS i;have ar:mAk H1 VA [mF v]:=Af;have as:Fr eS H (nD H1 VA [mF v]):=((ai _).same s1).same s2;have j:=pS aq;have l:v≠VA/\aj≠VA/\ak≠VA:=(AR cv i,AR ao i,AR ap i);have au:mV H VA:=by have o:=BL s1 i;have:VA≠p:=λe=>aPi;rwa[aCC] at o
 have av:=pS cv;have aw:=pS ao;have ax:=pS ap;have ay:VA≠p:=λe=>(by rw[e,aq] at i;cases i);generalize Aa H1 VA (.Ac [mF v])=y at s2 ar as j av aw ax;refine(72,j,70,T.Pf,aAu,5);have B:Fr eS H aEf:=as.Aa rfl;have az:xB y aKk:=Af;have a0:(aEf) VA=some (.Ac [mF v]):=(oY ay ar);have np:∀c C,y c=mB C->(∀d fs,C≠ .Ag t.DD d fs)->(aEf) c=some C:=λc C e hw=>by rw[Ah (λz=>by rw[z,j] at e;exact mC hw jQ.symm)];exact e
 have a1:JG VA aEf v (GB g gH 0):=(aj,ak,l.2.1,l.2.2,l.1,mGm np av,mGm np aw,mGm np ax);show rT Uf aEf;generalize Aa y p aKk=a2 at B az a0 a1;refine(λm σ D=>∃G:aQ,m=Aq+1 - G.length/\σ=[bM,mH f,mH SA,wD mX]/\yP VA a2 D/\D VA=pU G.map/\1<=G.length/\G.length<=Aq+1/\∀(r:Nat)(v:Addr),mMf D,(Aq,[v],9,88,a0,9,9,λr C e=>?_),5)
 .match r,e with
  |0,e=>(obtain rfl:v=C:=by simpa using e);exact a1
  |r+1,e=>simp at e
 rintro m σ D ⟨G,rfl,rfl,I,J,L,a3,M⟩;have a4:Ab Hs D:=I.JE (B.JE ab (mA7 ac)) (mA7 (BL (nB (sp _) s1) i));have N:=mP I az (λe=>vV ay);refine(165,2,VA,0,uB J,0,58);by_cases O:(((nH G.map).length:Nat):Int)<=(Aq:Int)
 .rw[mW O];rw[ArX] at O;obtain⟨U,a5⟩:∃U,G[G.length - 1]? =some U:=(_,mK (show G.length - 1<G.length by omega));refine Au (λa6 H'=>∃a7,a7<Aq+1 - G.length/\∃G:aQ,a7=Aq+1 - G.length/\a6=[bM,mH f,mH SA,wD mX]/\yP VA a2 H'/\H' VA=pU G.map/\1<=G.length/\G.length<=Aq+1/\∀(r:Nat)(v:Addr),mMf H',λa6 H' q=>q,5);refine(165,2,pY J,219,N,2,165,31,VA,36,mN J,On (x:= mF U) (λe=>by rw[At2] at e;rw[e] at L;simp at L) (mFl ArX a5),p,f,SA,U,g,S,GB g gH aKl,2,(mMe N),ae.same a4,af.same a4,ag,(mC M a5).at_,λv' a8 a9 H' Y ba bb L bc bd be=>?_);have bf:v'≠VA/\a8≠VA/\a9≠VA:=(mQ (λe=>by rw[e,J] at ba;cases ba) (λe=>by rw[e,J] at bb;cases bb) (λe=>by rw[e,J] at L;cases L));refine(VA,8,mC Y J,fR,Aq+1 - (G.length+1),4,G++[v'],9,2,(I.same Y).Aa rfl,23,9,43,λr C e=>?_);have bg:Fr (λc=>c=VA) H' (nD H' VA (nH G.map++[mF v'])):=aKj;by_cases b:r<G.length
  .rw[Ask b] at e;exact(M r C e).fr ((mCA Y).trans bg)
  have bh:=(nL e).1;rw[Asi,AsD] at bh;obtain rfl:r=G.length:=aA;rw[lB,At9] at e;obtain rfl:v'=C:=hL;have bi:GB g gH G.length=NZ g gH (GB g gH aKl):=by obtain⟨n,bj⟩:∃n,G.length=n+1:=(aKl,4);rw[bj];rfl
  rw[bi];exact JG.fr (a8,a9,bf.2.1,bf.2.2,bf.1,bc,bd,be) bg
 rw[mT O];rw[ArX] at O;refine Az (k VA _ D G (λc u e bk=>I c u (tO B bk) (λz=>by rw[z,au] at e;cases e)) N rfl J aA λr v' e=>(M r v' e).at_)
structure DH where
 size:Nat
 Gj:Nat
 ends:Nat
 Hg:Nat
 inner:Nat
 cuts:Nat
abbrev ES(a:DH)(b:Addr):List gC:=[("size",mE (a.size:Int),),("starts",mE (a.Gj:Int),),("ends",mE (a.ends:Int),),("longs",mE (a.Hg:Int),),("inner",mE (a.inner:Int),),("cuts",mE (a.cuts:Int),),("twins",bU,)]
def KO(a:DH)(Dg:Nat)(b c d:Bool):DH:=(189,mEc c a.ends,mEc b a.Hg,if c then a.inner else a.inner|||Dg,mEc d a.cuts)
def Aqt(t:Aw):Sp:=λvs H Q _=>∃(p dx R b d:Addr)(a:DH)(Dg c:Nat)(e:Bool)(es:aL),vs=[aS,mE (Dg:Int),mF R]/\H p=oN t.CI (ES a d)/\H R=oO (bU::es)/\H b=oO [vU c,.bl e]/\rH (mY H (nC t.CI (ES (KO a Dg (c==45) (decide (es.length=0)) e) d)))
theorem Aqu:AD aFG aFG (A0 Aa3):=aG
theorem Aqv(T:aE):A4 P w K mg base A9 1 t.Nk t.AbR aFG (Aqt t):=by
 refine T.Nk.F.ok Aqu cO aJW
 .obtain⟨p,dx,R,g,i,a,Dg,c,l,es,rfl,_⟩:=h;rfl
 obtain⟨p,dx,R,g,i,a,Dg,c,l,es,rfl,hp,m,he,k⟩:=h;obtain⟨n,o,q⟩:=T.V2;refine(_,(Ak (AU (yH aCp) aD0 aD0)
  (Ak (nI (vL (tL (qZ 2) Ar) (nP o q)) aD0)
  (Ao (nI (D9 (tL (qZ 2) Ar)) aD0)))),5)
 have r:R≠p:=λe=>(by rw[e,hp] at m;cases m);have u:g≠p:=λe=>(by rw[e,hp] at he;cases he);have Ga:∀(b:DH),rH (mY H (nC t.CI (ES (99,b.Hg,172) i)))->
  Ii (tB (mIX lF)) (mIY "cuts") Ih {nx:=λ_ H'=>cW,rt:=Q} [bM,mX (Dg:Int),mH R] (mY H (mA9 b i)):=by
  intro b hq;refine(79,77,0,5)
  cases l with
  |false=>exact Az hq
  |true=>
   refine Au (mGn Af T.Vv);rw[B1];exact hq
 have mid:∀(b:DH),rH (mY H (nC t.CI (ES (99,if c==45 then b.Hg|||Dg else b.Hg,172) i)))->
  EL (Ii (Kd (CU QM (mIX (tC bZ)) (tC (nO "-")))) (mIY "longs") Ih) (Ii (tB (mIX lF)) (mIY "cuts") Ih) {nx:=λ_ H'=>cW,rt:=Q} [bM,mX (Dg:Int),mH R] (mY H (mA9 b i)):=by
  intro b hq;refine(79,cP,80);rw[Sb VQ]
  cases hc:c==45 with
  |false=>
   rw[hc] at hq;exact Az (Ga b hq)
  |true=>
   rw[hc] at hq;refine Au (mGn Af T.Vt);rw[B1];exact Ga (99,b.Hg|||Dg,b.inner,b.cuts) hq
 refine(mFj R mI (nQ m));have v:decide (aPk=mO 1)=decide (es.length=0):=by
  rw[show decide (aPk=mO 1)=decide ((nE g::es).length=1) from Fp _ 1,As1];by_cases h:es.length=0
  .rw[mW h,mW aA]
  rw[mT h,mT aA]
 rw[v]
 cases x:decide (es.length=0) with
 |false=>
  rw[x] at k;refine Az (mGn hp T.Vu);exact mid (189,a.ends,a.Hg,a.inner|||Dg,a.cuts) k
 |true=>
  rw[x] at k;refine Au (mGn hp T.RG);exact mid (189,a.ends|||Dg,a.Hg,a.inner,a.cuts) k
theorem Aqw(p:gU)(x:Nat)(c:Bq):AN p x [c]=if p c then 1<<<x else 0:=by
 unfold AN;unfold AN
 cases p c<;>simp
theorem Aqx(p:gU)(b:Nat)(A:fY)(c:Bq):tU (A++[c])=if p c then tU A|||1<<<aEB else AN p b A:=by
 rw[Qy,Aqw]
 cases p c<;>simp
def Xh(a:aB)(c:Bq):Bool:=a.contains c.place
def FC(b:Nat)(a:aB)(A:fY)(st:Nat):DH:=(A.length,st,AN Gi b A,AN Du b A,AN HX b A,AN (Xh a) b A)
theorem Aqy(b:Nat)(a:aB)(A:fY)(st:Nat)(i j:Nat)(w:Vf.Txt)(hj:j<w.length):
 ((A.length+1,st,aGQ.ends,aGQ.Hg,aGQ.inner,aGQ.cuts):DH)=FC b a (A++[aEg]) st:=by
 unfold FC KO;simp only[Aqx,List.length_append,List.length_cons,List.length_nil];have c:Gi aEg=decide (j+1=w.length):=by rfl
 have d:Du aEg=(w.getD j 0==45):=rfl;have e:HX aEg= !decide (j+1=w.length):=(by unfold HX;rw[c]);have h4:Xh a aEg=a.contains j:=rfl;grind
theorem Af4(p:gU):∀(A:fY)(b:Nat),(∀c∈A,p c=false)->tU A=0
 |[],_,_=>rfl
 |c::r,b,h=>by
  unfold AN;rw[h c AsG,Af4 p r (b+1) λd hd=>pA h d hd,bS,Nat.or_zero]
theorem Aqz(i c:Nat)(x:Vf.Txt)(h:1<=x.length):AN Dh c aEh=1<<<c:=by
 unfold CD;obtain⟨n,a⟩:∃n,x.length=n+1:=(x.length - 1,4);rw[a,Avj,Asn];unfold AN;rw[Af4 Dh]
 .show(if true=true then _ else _)|||0=_;rw[bF,Nat.or_zero]
 intro d hd;simp at hd;obtain⟨m,_,rfl⟩:=hd;rfl
theorem Af5(j:Nat)(a:aB):DP (mE (j:Int)) (iv a)=a.contains j:=by unfold DP;rw[List.any_map,Aws];apply List.any_congr rfl;intro x;simp only[Function.comp,FM];grind
def Fc(a:aB)(w:Vf.Txt)(j:Nat):List (Nat×Bool):=(aC0.drop j).map λk=>(w.getD k 0,a.contains k,)
theorem Af6{w:Vf.Txt}(h:j<w.length):Fc a w j=(w.getD j 0,a.contains j,)::Fc a w (j+1):=by unfold Fc;rw[As8 fB];simp
theorem Xi(a:aB)(w:Vf.Txt)(j:Nat):(Fc a w j).length=w.length - j:=by unfold Fc;simp
def HQ(l:aAD):Ky:= .Al aKm
theorem Aq0(h:HQ l=HQ c):l=c:=by
 injection h with h
 refine(Au3 (λa b h=>?_)).mp h;grind
def ET(H:Hp):aQ -> aAD ->Prop
 |[],l=>l=[]
 |e::es,l=>∃x r,l=x::r/\H e=oO [vU x.1,.bl x.2]/\ET H es r
theorem ET.keep(hk:aBO):∀{es:aQ}{l:aAD},aEi ->ET H' es l
 |[],_,h=>h
 |e::es,l,(x,r,g,i,e3)=>(x,r,g,mC hk i,ET.keep hk e3)
theorem ET.snoc(he:H e=oO [vU x.1,.bl x.2]):∀{es:aQ}{l:aAD},aEi ->ET H (es++[e]) (l++[x])
 |[],l,h=>by
  obtain rfl:l=[]:=h;exact(x,[],2,he,2)
 |a::es,l,(y,r,g,i,e3)=>by
  subst g;exact(y,r++[x],2,i,ET.snoc he e3)
theorem Af7:∀{es:aQ}{l:aAD},aEi ->Ld H aKm aCH
 |[],l,h=>by
  obtain rfl:l=[]:=h;rfl
 |e::es,l,(x,r,a,b,e3)=>by
  subst a;exact(3,(e,0,b,8,3,mI (x.2,26),2),Af7 e3)
theorem Af8:∀l:aAD,Ky.C2 aKm <=1
 |[]=>by simp[Ky.C2]
 |x::l=>by
  have:=Af8 l;simp only[List.map_cons,Ky.C2,Ky.depth];omega
theorem Aq1(h:H R=oO aCH)(hp:aEi):Dv H (HQ l) R:=by refine(oS (R,0,h,Af7 hp));have:=Af8 l;unfold HQ;simp only[Ky.depth];omega
def EU(x:Nat):C3:= sD mG x
theorem PZ(h:EU x=EU y):x=y:=by
 injection h with h
 have h:=AtA h;have:=(Eb x x).mpr rfl;rw[h,Eb] at this;exact this
def CY(b n:Nat)(AT:bE):List (C3×V):=aAJ.map λx=>(EU (b+x),sD mE (b+AT x),)
theorem Af9(b n:Nat)(AT:bE):yQ (n+1)=yQ n++[(EU (b+n),sD mE (b+AT n),)]:=by unfold CY;rw[Atl,As7];rfl
theorem Aq2(h:∀x,x<n->f x=g x):CY b n f=CY b n g:=AsU λx hx=>by rw[h x aGO]
theorem AfA(b n:Nat)(AT:bE)(h:∀y,y<n->x≠b+y):yB (yQ n) (EU x):=by
 cases e:Bc (yQ n) (EU x) with
 |none=>rfl
 |some v=>
  obtain⟨y,hy,a⟩:=nY (Mq e);injection a with a _
  exact nK (PZ a).symm (h y (Atj.mp hy))
theorem AfB(b:Nat)(AT:bE):∀(n x:Nat),x<n->Bc (yQ n) (EU (b+x))=mGo (b+AT x)
 |0,x,h=>by omega
 |n+1,x,h=>by
  rw[Af9,rT OR (AfA b n AT λy hy=>by omega)];by_cases e:x=n
  .subst e;rw[bF]
  rw[yC e (mCL PZ z)];exact AfB b AT n x aA
def rc(a:aB)(c:Bq):List (Nat×Bool):=Fc a c.way c.place
def KP(a:aB)(C:fY)(AT:bE):Prop:=∀(x:Nat)(c:Bq),C[x]? =bT ->∃d,C[AT x]? =mB d/\rc a c=rc a d
def KQ(b:Nat)(a:aB)(C:fY)(c:bI):Prop:=∀(l:aAD)(v:V),Bc c (HQ l)=bK ->∃y d,C[y]? =mB d/\v= sD mE (b+y)/\rc a d=l
theorem KP.snoc(h:KP g C AT)(hy:(C++[c])[y]? =mB d)(he:rc g c=rc g d):KP g (C++[c]) (mMg C.length):=by
 intro x e hx;by_cases i:x<C.length
 .rw[Ask i] at hx;obtain⟨d',j,q⟩:=h x e hx;grind
 grind
theorem KQ.BM(h:KQ b g C i)(c:Bq):KQ b g (C++[c]) i:=by intro l v j;obtain⟨y,d,q,s,u⟩:=h l v j;grind
theorem KQ.new(h:KQ b g C i)(c:Bq)(j:yB i (mEd c)):KQ b g (C++[c]) (i++[(mEd c,sD mE (b+C.length),)]):=by
 intro l v q;rw[rT OR j] at q;by_cases e:HQ l=mEd c
 .rw[bV] at q;refine(C.length,c,5,(Ase q).symm,(Aq0 e).symm);simp
 rw[bP] at q;exact h.BM c l v q
def Aq3(K:PySem.W.Frag)(t:Aw):Sp:=λvs H Q _=>∃(p dx a ca:Addr)(b i:Nat)(f:dH)(d:aB),vs=[aS,aJ,mF ca,uY mE]/\H p=rX t.CI/\uS (sv f)/\Ae K H ca (iv d)/\b+cZ.length<=500/\(∀w∈f,1<=w.length/\w.length<=1000)/\
 ∀(e:Addr)(AT:bE)(H':Hp),(mMh H')->H e=none->H' p=some (nC t.CI (ES (FC b d cZ (AN Dh b cZ)) e))->H' e=qH (yQ cZ.length)->KP d cZ AT-> cW
structure Gb(t:Aw)(p dx tA kA b:Nat)(cp:aB)(H H1:Hp)(C:fY)(st:Nat):Prop where
 keep:∀c o,c≠p->H c=aI ->H1 c=some o
 at_:H1 p=some (mA9 (FC b cp C st) tA)
 tw:∃AT,H1 tA=qH (yQ C.length)/\KP cp C AT
 kn:∃kvs,H1 kA=sM kvs/\kvs.length<=C.length/\KQ b cp C kvs
theorem AfC:∀{es:aQ}{l:aAD},aEi ->es.length=l.length
 |[],l,h=>by
  obtain rfl:l=[]:=h;rfl
 |e::es,l,(x,r,a,b,e3)=>by
  subst a;rw[As1,As1,AfC e3]
theorem Gb.same(h:Gb t p dx g i b j H H1 C st)(s:tX q):Gb t p dx g i b j H q C st:=
 (λc o hc e=>nM (mAf h.keep),nM h.at_,let(AT,a,b):=h.tw;(AT,nM a,b),let(u,a,b):=h.kn;(u,nM a,b))
theorem Aq4(h:j<x.length):mAV (Fc a x 0).take (mB8 j,a.contains j,):=by rw[AsA];congr 1;unfold Fc;grind
abbrev Aq5:List Str:=aPl
theorem JH:AD aPl aIU (A0 Vc):=aG
theorem Aq6(T:aE):A4 P w K mg base A9 2 t.Nj t.AbQ aIU (Aq3 K t):=by
 refine pF T.Nj.F.ok JH
 .obtain⟨p,dx,ac,ca,b,i,f,g,rfl,_⟩:=h;rfl
 obtain⟨p,dx,ac,ca,b,i,f,g,rfl,hp,ae,af,hb,hw,k⟩:=h;have hu:=F5 ab;refine(_,(Ak aAA
  (Ak aAA
  (Ak aAA
  (Ak aAA
  (Ak aAA
  (Ak aAA
  (Ak (nW OT)
  (Ak (qN JH.nd OU)
  (Ao (BS Asq rfl (pT aP) (oJ 5 JH.nd) (Ak (GW aK aPm FX)
  (Ak (A6 (i:=6) JH.nd rfl cX (QW (sC AcU) rfl T.AcO AcP (Ad (Dk rfl JH.nd (AdE rfl T.Ma (mU bJ)) (BZ (own:=[("place",7,),("sign",8,)]) (yF Aq5 Vc)) (qK (uA 7 JH.nd 8)) cK (λ_ _ _ _ _=>(CV (zS kB (Hy (sC V6) eZ aX aE4))))) Ai)))
  (Ao (Ka Asq (qY cA) (Ak (mGg JH.nd aPm)
  (Ak (Cu (Bx aK T.De.c T.Nk.h (Aqv T) bR T.Nk.b .nil Ay (pM 9 6)))
  (Ak (mB0 aY aAB (WT hu bG cA aAB aCf))
  (Ak aJr
  (Ao (uC JH.nd (mDy Ak8 cA))))))))))))))))))))),5)
 refine(72,hp,51,T.ND,aZ,72,Af,51,T.Vs,198);rw[B1];refine(vA T.De.c T.RG 2);rw[B1];refine(vA T.De.c T.Vt 3);rw[B1];refine(vA T.De.c T.Vu 4);rw[B1];refine(vA T.De.c T.Vv 5);rw[B1];refine λr ag=>?_;have ah:r≠p:=λe=>(by rw[e,Af] at ag;cases ag);have ai:mV H r:=(by rwa[Ah ah] at ag);rw[mA2 ah];refine(vA T.De.c T.NE 6);rw[B1];refine λB aj=>?_;have ak:B≠p:=λe=>(by rw[e,Af] at aj;cases aj);have al:mV (oA r hX) B:=(by rwa[Ah ak] at aj);have am:B≠r:=λe=>(by rw[e,Af] at al;cases al);have an:mV H B:=(by rwa[Ah am] at al);have ao:Gb t p dx r B b g H (Aa (mY (oA r hX) (mA9 (FC b g [] 0) r)) B hY) [] 0:=by refine(λc o hc e=>by rw[oF an,gO,oF ai];exact e,by rw[nX ak,Af],(aCv,by rw[nX am,Ah ah,Af];rfl,λx c h=>by simp at h),[],Af,aT,λl v h=>by cases h)
 refine(0,ac,2,(_,mIZ ae ao.keep),5);refine E4 (K:=K) (a:=ac) (xs:=sv f) (λk σ H1=>∃ap v6 aq,σ=[bM,mH ac,mH ca,uY mX,mH B,ap,v6,none,none,aq]/\Gb t p dx r B b g H H1 (mCF k) (AN Dh b (mCF k)))
  (183,2,ao) (λk σ H1 _ (_,_,_,_,ar)=>mIZ ae ar.keep) ?_ ?_
 .rintro as y σ H1 hk ⟨ap,v6,aq,rfl,C⟩;rw[ArY] at hk;obtain⟨x,hx,rfl⟩:∃x,f[as]? =aW /\y= .str (mk x):=by
   cases e:f[as]? with
   |none=>rw[e] at hk;cases hk
   |some x=>rw[e] at hk;exact(tI x hk)
  have au:mCF (as+1)=mCF as++CD i x:=by unfold Bd;rw[AsA,hx];simp
  obtain⟨av,aw⟩:=hw x (Asl hx);have ax:aEh.length=x.length:=(by unfold CD;simp);have hlen:(mCF as).length+x.length<= cZ.length:=by
   have ay:(mCF (as+1)).length<= cZ.length:=by
    conv=>rhs;rw[<-Avs (as+1) f]
    unfold Bd;rw[List.flatMap_append,Asi];omega
   rw[au,Asi] at ay;omega
  rw[au];generalize Bd i (xL as)=D at*;have az:=C.at_;refine(17,az,51,T.Vs,31,17,az,121,(1),b+D.length,26,aGo,13,19,az,(qG 7),5);have a0:Gb t p dx r B b g H (mY H1 (mA9 (FC b g D kK) r)) D kK:=by obtain⟨AT,t1,a3⟩:=C.tw;obtain⟨G,a4,a5,a6⟩:=C.kn;exact(λc o hc e=>by rw[gO];exact mAf C.keep,Af,(mMi ah),G,by rw[Ah ak];exact a4,a5,a6)
  have a7:qI (mk x).length:=fQ;refine(0,mk x,2,λL a8=>?_);have a9:∀(ba:Hp)(l bb:aL),mGp ba D ->ba L=nU l->Gb t p dx r B b g H (nD ba L bb) D kK:=λba l bb h bc=>by
   obtain⟨AT,t1,a3⟩:=h.tw;obtain⟨G,a4,a5,a6⟩:=h.kn;refine(λc o hc e=>?_,by rw[mCw Ah h.at_ bc];exact h.at_,(mMi (λe=>by rw[e,bc] at t1;cases t1)),G,by rw[Ah (λe=>by rw[e,bc] at a4;cases a4)];exact a4,a5,a6);have bd:c≠L:=λz=>by
    have:=mAf a0.keep;rw[z] at this;have q:=this.symm.trans a8
    cases q
   rw[Ah bd];exact mAf h.keep
  refine EA (J:=Sq (mk x)) x.length (λj I=>mGp I D /\∃es:aQ,I L=pU es.map/\es.length=j/\ET I es ((Fc g x 0).take j))
   (a0.same (mS a8),[],Af,26) (λj I hj _=>by show j<x.toArray.size;simpa using hj) (λI _=>by show x.toArray.size<=_;simp) ?_ ?_
  .rintro j I y be hj ⟨bf,es,bg,bh,bi⟩ ⟨bj,M,rfl,bk,rfl,bl⟩;have bm:mB8 j=M:=by
    have:pO x[j]? M:=(mR bl);rw[Asv,this];rfl
   have bn:Ab I (Aa I bj aKn):=mS bk;have bo:mCC I bj aKn:=Af;generalize Aa I bj aKn=be at bn bo;have bp:=bf.same bn;have bq:=bi.keep (λb xs e=>bn b _ e);refine(mDA bj bo GG);refine(42,ca,0,mG (mIZ af bp.keep),2,(by rw[Atw,AsL];intro _ _;rfl),gF,λe he=>?_);simp only[Af5];have br:Ab be aKo:=mS he;have bs:=nV br bn bg;refine(_,bs,fR,a9 _ _ _ (bp.same br) bs,es++[e],23,by simp[bh],5);rw[Aq4 hj,bm];have kp:∀b xs,(aKo) b=fJ ->(Aa aKo L (.Ac (aCH++[mF e]))) b=some iP:=λb xs h=>by rw[mMj bs];exact h
   exact ET.snoc (mC kp Af) ((bq.keep (λb xs h=>br b _ h)).keep kp)
  rintro I ⟨bf,es,bg,bh,bi⟩;rw[AsW (qQ Xi)] at bi;refine(L,0,mG (mN bg,λR bt=>?_));have bu:Ab I (Aa I R (.Al aCH)):=mS bt;have bp:=bf.same bu;have bq:=bi.keep (λb xs h=>bu b _ h);refine(λm σ N=>∃(j:Nat)(R:Addr)(es:aQ)(aq:bQ),m=x.length - j/\j<=x.length/\σ=(mMk x)/\mGp N aEj /\N R=oO aCH /\ET N es (Fc g x j),(x.length,64,R,es,0,aT,2,by rw[AwK,Aum];exact bp,Af,bq),5);rintro m σ N ⟨j,bv,bw,bx,rfl,bz,rfl,b0,b1,b2⟩;refine(0,_,mI (mG (_,nQ b1,2)),5);by_cases hj:j<x.length
  .rw[Af6 hj] at b2;obtain⟨b3,O,rfl⟩:∃b3 O,bw=b3::O:=by
    cases bw with
    |nil=>cases b2
    |cons b3 O=>exact(xO b3 O)
   obtain⟨x0,b4,b5,b6,b7⟩:=id b2;injection b5 with b5 b8
   subst b5 b8;refine Au (λb9 H'=>∃cb,cb<x.length - j/\∃(j:Nat)(R:Addr)(es:aQ)(aq:bQ),cb=x.length - j/\j<=x.length/\b9=(mMk x)/\mGp H' aEj /\H' R=oO aCH /\ET H' es (Fc g x j),λb9 H' q=>q,5);have cc:mAV aEh.take lP:=by rw[AsA];congr 1;unfold CD;rw[ArY,AsY hj];rfl
   have cd:aEj.length=D.length+j:=by rw[Asi,AsS];omega
   have ce:=Aqy b g aEj kK i j x hj;have cf:D++aEh.take (j+1)=aEj++[lP]:=(pJ cc At3);have cg:rc g lP=(mB8 j,g.contains j,)::Fc g x (j+1):=Af6 hj;have ch:O.length=x.length - (j+1):=(by rw[<-Xi g x (j+1)];exact AfC b7);have cj:decide (aGR.length=0)=decide (j+1=x.length):=by
    rw[ArX];by_cases h:j+1=x.length
    .rw[mW h,mW aA]
    rw[mT h,mT aA]
   clear cc;generalize D++aEh.take j=U at*;obtain⟨AT,t1,a3⟩:=b0.tw;obtain⟨G,a4,a5,a6⟩:=b0.kn;have ck:∀{H':Hp}{c:Addr}{xs:aL},dO=fJ ->(H' p=some (mA9 (FC b g U kK) r))->c≠p:=λay cl e=>(by rw[e,cl] at ay;cases ay);refine(0,17,b0.at_,121,(1),aCI,26,aGo,219,b0.at_,202,p,dx,bv,b3,r,_,1<<<aCI,mB8 j,g.contains j,aGR,2,b0.at_,b1,b6,5);rw[cj];have cm:∀(u:HO)c xs,N c=fJ ->(mY N u) c=some iP:=λu c xs h=>(wR mGq b0.at_ h);have cn:∀(u:HO)c o,c≠p->H c=aI ->(mY N u) c=some o:=λu c o hc e=>(by rw[gO];exact mAf b0.keep);have co:∀(cp:Hv)(Y:Hp)(cq:bI)(y:Nat)(d:Bq),(mMh Y)->Y p=some aPn ->Y r=qH (yQ U.length)->Y B=sM cq->cq.length<=U.length+1->KQ b g aGS cq->(U++[lP])[y]? =mB d->rc g lP=rc g d->Y bv=oO (nH (b3::O).map)->ET Y O (Fc g x (j+1))->
    (∀R2 cr,Gb t p dx r B b g H cr aGS kK ->cr R2=oO aGR ->ET cr O (Fc g x (j+1))->cp.nx (mMl R2) cr)->
    ∃a be,nE r= aJ /\HF Y a (sD mE aCI) (sD mE (b+y)) be/\EL (M9 K (Bo 0) lF (DO λi j=>mO (i+j)) "size") (OG (Ux (Uy K) (Bo 6) (Uw lF) Uv) (EY 6)) cp (mMl bv) be:=by
    intro cp Y cq y d cs ct cu cx cy cz hy hd c0 c1 c2;refine(r,0,mG (_,EU aCI,cu,2,mI0 BA CY,2),5);rw[MJ _ (AfA _ _ _ λy hy=>by omega)];have c3:yQ U.length++[(EU aCI,sD mO (b+y),)]=CY b (U.length+1) (mMg U.length):=by
     rw[Af9];congr 1
     .exact Aq2 λz hz=>(by rw[fC])
     simp
    rw[c3];have c4:oI (Aa Y r aPo) p aPn:=(wW ah ct);refine(17,c4,121,19,c4,(qG 7),5);have tk:∀c xs(u:HO),Y c=fJ ->(mEe u) c=some iP:=λc xs u h=>by rw[mGq ct,mGq cu];exact h
    refine(16,bv,0,nQ (sL tk c0),5,λR2 c5=>?_)
    .rintro⟨ay,_⟩;rw[show(1:Int)=((1:Nat):Int) from rfl,HT.Hz,ArX,As1] at ay;omega
    have c6:mHO (b3::O).map O.map:=by unfold Dx;rw[show(1:Int)=((1:Nat):Int) from rfl,HT.Hz,HT.Ki,ArX,As1,AtZ aA,Asn,Auz,Atv,AsW jY]
    rw[c6];have c7:∀c v(u:HO),(mEe u) R2=none->(mEe u) c=bK ->(Aa (mEe u) R2 (.Al aGR)) c=some v:=λc v u ay cl=>by rw[Ah (AR cl ay)];exact cl
    have c8:Gb t p dx r B b g H (mEe (nC t.CI (ES (FC b g aGS kK) r))) aGS kK:=by refine(λc o hc e=>?_,Af,(_,by rw[Ah ah,Af,Asi];rfl,a3.snoc hy hd),cq,by rw[Ah ak,Ah am];exact cx,by rw[Asi];exact cy,cz);rw[gO,oF ai];exact mAf cs
    rw[<-ce] at c8;refine c2 R2 _ ?_ Af ?_
    .exact Gb.same c8 (mS c5)
    exact(c1.keep (λc xs h=>tk c xs _ h)).keep (λc xs h=>c7 c _ _ c5 h)
   have c9:∀u,Dv (mY N u) (mEd lP) bv:=λu=>by rw[cg];exact Aq1 (cm u _ _ b1) (b2.keep (cm u))
   have da:∀u,(mY N u) B=some (.dT G):=λu=>(oY ak a4);refine(0,B,2,mI (_,mG (da _)),16,_,mI (G,_,bv,mG (da _),2,c9 _,2),5)
   cases db:Bc G (mEd lP) with
   |some v=>
    obtain⟨y,d,hy,rfl,hd⟩:=mC a6 db;refine mG (0,17,Af,190,80);refine co _ _ G y d (cn _) Af (oY ah t1) (da _) aA (a6.BM _) (by rw[Ask (nL hy).1];exact hy) hd.symm (sL cm b1) (b7.keep (cm _)) λR2 cr a1 a2 dc=>?_;exact aPp
   |none=>
    refine mI (2,_,mI (G,_,bv,da _,2,c9 _,BA aA,2),5);rw[MJ _ db];have dd:∀u u' c xs,(mY N u) c=fJ ->(Aa (mY N u) B u') c=some iP:=λu u' c xs h=>(wR mGq da h);refine(17,by rw[nX ak];exact Af,190,80);refine co _ _ _ U.length lP (λc o hc e=>by rw[oF an];exact cn _ c o hc e) (wW ak Af) (by rw[nX am,Ah ah];exact t1) Af (wM Asi Nat.succ_le_succ a5) (a6.new _ db) (by rw[lB,At9];rfl) rfl (rT dd (sL cm b1)) ((b7.keep (cm _)).keep (dd _ _)) λR2 cr a1 a2 dc=>?_;exact aPp
  obtain rfl:j=x.length:=aA;have:bw=[]:=by
   have de:Fc g x x.length=[]:=uV (qQ Xi);rw[de] at b2
   cases bw with
   |nil=>rfl
   |cons b3 O=>obtain⟨_,_,q,_⟩:=b2;cases q
  subst this;refine Az (_,3,5);rw[AsW aA] at b0;rw[(Qy _ _ _ _),Aqz i _ x av];exact b0
 rintro σ H1 ⟨ap,v6,aq,rfl,C⟩;rw[ArX,AsC] at C;obtain⟨AT,t1,a3⟩:=C.tw;exact k r AT H1 C.keep ai C.at_ t1 a3
theorem P_:∀(A B:jA)(i:Nat),mBa i kM=mBa i A++mBa (i+A.length) B
 |[],B,i=>rfl
 |a::A,B,i=>by
  simp only[List.cons_append,Vf.cellsFrom,P_ A B (i+1),List.append_assoc,List.length_cons];grind
def B3(m:Bi)(j:Nat):Nat:=(mBb j).length
theorem Qa(h:m.feet[j]? =mB f):B3 m (j+1)=cE+aEk.length:=by have hj:=(nL h).1;unfold B3;rw[AsA,h,Atp,P_,Asi,AsS,AtZ aA];congr 1;simp[Vf.cellsFrom]
theorem Qb(m:Bi)(j:Nat):cE <= aU.length:=by
 unfold B3 An
 conv=>rhs;rw[<-Avs j m.feet]
 rw[P_,Asi];omega
def KR(m:Bi)(j:Nat):List Nat:=(m.cuts.filter λx=>x.1==j).map (·.2)
def Tf(m:Bi)(j:Nat)(f:dH):DH:=FC cE (KR m j) aEk (AN Dh cE aEk)
def JI(t:Aw)(H:Hp)(D:Addr)(m:Bi)(n:Nat):Prop:=∃a:aQ,H D=aCk /\a.length=n/\∀(j:Nat)(q:Addr)(f:dH),a[j]? =dE ->m.feet[j]? =mB f->q≠D/\∃dx b AT,H q=oN t.CI (ES (Tf m j f) b)/\b≠D/\H b=qH (CY cE aEk.length AT)/\KP (KR m j) aEk AT
def Aq7(t:Aw):Sp:=λvs H Q _=>∃(mp:Addr)(m:Bi),vs=[mF mp]/\mCc H/\m.Ok/\ aU.length<=400/\∀D H',aO ->H D=none->JI t H' D m m.feet.length->oQ D
abbrev Aq8:List Str:=aPq
theorem JJ:AD aPq ["measure"] (A0 Vd):=aG
theorem Aq9(T:aE):A4 P w K mg base A9 4 t.LK t.AbS ["measure"] (Aq7 t):=by
 refine pF T.LK.F.ok JJ
 .obtain⟨mp,m,rfl,_⟩:=h;rfl
 obtain⟨mp,m,rfl,hm,a,ac,k⟩:=h;obtain⟨ae,f,c,af,ag,ah⟩:=hm;obtain⟨d,l,ai,aj⟩:=ag;obtain⟨pc,r,ak,al⟩:=ah;have am:=a.KY;refine(_,(Ak (tY JJ.nd dM)
  (Ak (qJ JJ.nd Ar)
  (Ak (BS Asq rfl aJk (uA 3 JJ.nd 4) (Ak (HD (i:=5) rfl JJ.nd rfl rfl iY aAq (qM ("cut",6,) Aq8 Vd) (pR 6 JJ.nd) (mHR (vL (qZ 6) bB)) (qK (qZ 6)))
  (Ak (mH3 JJ.nd (Dc T.De.k (Aq6 T) bR rfl T.De.m T.Nj.b .nil Ay (Ad bG (pM 5 2))))
  (Ak (Cu (Dz (K:=K) rfl As3 AsH AsK E_ aP (mU eZ)))
  (Ao (Hw (i:=2) JJ.nd rfl cX (pV 7) Jn))))))
  aCh))),5)
 refine(aT,λD u=>?_);have s0:Ab H (pK H D):=mS u;refine(199,ae,3,mC s0 af,112,2,f,0,nA s0 l,5);refine Fn (J:=MM K f) m.feet.length (λi σ H1=>∃(v:Int)(z v4 B C:bQ),v=((B3 m i:Nat):Int)/\σ=[mH mp,mH D,mX v,z,v4,B,none,C]/\ fP /\JI t H1 D m i)
  (64,14,14,26,s0,[],90,λj q f h=>by simp at h)
  (λi σ H1 an (_,_,_,_,_,_,_,s1,_)=>(tM s1 l (by omega:i<d.length)))
  (λσ H1 (_,_,_,_,_,_,_,s1,_)=>(sA s1 l)) ?_ ?_
 .rintro i σ H1 y ao an ⟨v,z,v4,B,C,rfl,rfl,s1,ap,aq,ar,as⟩ ⟨G,x,rfl,au,rfl,hx⟩;have av:i<d.length:=aA;have hx':=hx _ (nA s1 l);rw[ArY,mK av] at hx';simp at hx';subst hx';have aw:pO m.feet[i]? m.feet[i]:=mK an;have ax:=aj i d[i] m.feet[i] (mK av) aw;obtain⟨ay,az,a0⟩:=mCP a.Bz i an;have a1:=Qa aw;have hole:=Qb m (i+1);generalize m.feet[i]=ws at*;generalize d[i]=I at*;have s2:Ab H aGT:=pC s1 au;have M:Ab H1 aGT:=mS au;have a2:A8 K aGT G [mO (i:Nat),nE I]:=nQ Af;refine(G,0,a2,2,3,8,5);generalize aGT=ao at*;refine(199,ae,3,pS af,113,2,c,2,(_,nA s2 r),λL a3=>?_);refine EA (J:=pZ c) pc.length (λj N=>Ab ao N/\N L=oC ((aJh.filter λx=>x.1==i).map (·.2))) (yM a3)
   (λj N hj a4=>(19,nA a4.1 (pS r),224)) (λN a4=>(sA a4.1 (pS r))) ?_ ?_
  .rintro j N y a5 hj ⟨s3,O⟩ ⟨rfl,hy⟩;have a6:=rJ s3 (pS r);rw[ArY,cT] at a6;simp at a6;subst a6;have a7:j<m.cuts.length:=aA;have a8:=s3 _ _ (pS (al j pc[j] m.cuts[j] cT (mK a7)));have a9:mAV m.cuts.take m.cuts[j]:=(vR AsA a7);rw[a9];generalize m.cuts[j]=ba at*;refine(31,pc[j],36,nQ a8,cP,0,80);rw[Fp];by_cases e:ba.1=i
   .rw[mW e];refine Au (0,pc[j],36,nQ a8,77,_,O,5,qS s3 a3,5)
    .refine BA ?_;rw[ArX,ArX];have:=Aun (λx:Nat×Nat=>x.1==i) aJh;have:=a.Ag8;rw[AsS] at*;omega
    rw[Af,Ath,AuJ,mJ (zI e)];simp
   rw[mT e];refine Az (oS s3);rw[O,Ath,AuJ,mM hL];simp
  rintro N ⟨s3,O⟩;rw[ak,AsC] at O;refine(42,λp dx hp bb bc=>?_);have U:Ab N (mHS N t.CI):=mAR bb bc;have bd:=lI;have be:D≠p:=λe=>(by rw[<-e,nV s3 M aq] at hp;cases hp);refine(p,dx,I,L,B3 m i,i,ws,KR m i,215,nA U (mC bd ax),nA U O,4,λw hw=>?_,λbf AT bg bh bi bj bk bl=>fT)
  .have:=a0 w hw;simp only[Eh,Bool.and_eq_true,decide_eq_true_eq] at this;omega
  have Y:Ab N bg:=λb o e=>bh b o (AR e hp) (qD U);have bm:=mAj s3 M aq;refine(mI1 bm D);have bn:(nD bg D (nH ap.map++[nE p])) p=some (mA9 (Tf m i ws) bf):=(wW be bj);refine(0,17,bn,121,49,_,5,2,wB bd Y u,ap++[p],23,by simp[ar],λj q g hj hg=>?_)
  .rw[a1];show((B3 m i:Nat):Int)+(((Bd i ws).length:Nat):Int)=_;omega
  by_cases bo:j<ap.length
  .rw[Ask bo] at hj;obtain⟨bp,bq,br,bs,bt,bu,bv,bw⟩:=as j q g hj hg;exact(bp,bq,br,bs,by rw[Ah bp];exact mAj s3 M bt,bu,by rw[Ah bu];exact mAj s3 M bv,bw)
  have bx:j=i:=by have:=(nL hj).1;rw[Asi,As1,AuV] at this;omega
  subst bx;rw[eN,ar,At9,List.getElem?_cons_zero] at hj;injection hj with hj
  subst hj;rw[aw] at hg;injection hg with hg
  subst hg;have bz:bf≠D:=λe=>(by rw[e,nV U s3 (mC M aq)] at bi;cases bi);exact(Asr be,dx,bf,AT,bn,bz,by rw[Ah bz];exact bk,bl)
 rintro σ H1 ⟨v,z,v4,B,C,rfl,rfl,s1,b0⟩;exact(0,k D H1 s1 u b0)
def AqA(t:Aw):Sp:=λvs H Q _=>∃(p dx:Addr)(fs:oU V)(n h:Nat),vs=[aS,jZ]/\H p=oN t.A_ fs/\oE ("half":Str)=oR mO (h:Int)/\n<2 ^ 1000/\h<=1000/\tE ((Vf.DJ h n:Nat):Int)
theorem AqB:AD aA9 aA9 (A0 Aa4):=aG
theorem Xj(T:aE):A4 P w K mg base A9 1 t.Ix t.AbU aA9 (AqA t):=by
 refine qT T.Ix.F.ok AqB
 .obtain⟨p,dx,fs,n,h,rfl,_⟩:=h;rfl
 obtain⟨p,dx,fs,n,h,rfl,hp,c,d,hle,k⟩:=h;exact(_,(wA (AE J3 aP (mAd aP))),16,18,hp,89,c,8,(d,hle),13,k)
def Ee(m:Bi)(j:Nat):List Vf.Txt:=m.feet.getD j []
theorem GH(h:wJ j):pO m.feet[j]? (Ee m j):=by unfold Ee;grind
def Do(m:Bi)(j:Nat):DH:=Tf m j (Ee m j)
def IW(m:Bi)(g:DH->Nat):List Nat:=(pB m.feet.length).map λj=>g hH
theorem Xk(h:wJ j):mBb (j+1)=mBb j++Bd j (Ee m j):=by rw[AsA,GH h,Atp,P_,AsS,AtZ aA];simp[Vf.cellsFrom]
theorem Xl(m:Bi)(p:gU)(g:DH->Nat)(hg:∀j,j<m.feet.length->g hH=AN p cE iG):(IW m g).sum=AN p 0 aU:=by
 have:∀n,n<=m.feet.length->(aAJ.map λj=>g hH).sum=AN p 0 (mBb n):=by
  intro n
  induction n with
  |zero=>intro _;rfl
  |succ n a=>
   intro b;rw[Atl,As7,Aw1,a aA,Xk aA,AgK,AsZ];simp;rw[hg n aA];rfl
 have h:=this m.feet.length aD;rw[AsC] at h;exact h
theorem AqC(m:Bi):(IW m DH.size).sum=aU.length:=by
 have:∀n,n<=m.feet.length->(aAJ.map λj=>hH.size).sum=(mBb n).length:=by
  intro n
  induction n with
  |zero=>intro _;rfl
  |succ n a=>
   intro b;rw[Atl,As7,Aw1,a aA,Xk aA,Asi];rfl
 have h:=this m.feet.length aD;rw[AsC] at h;exact h
theorem Xm(h:c∈ cZ):c.foot=i:=by simp only[Bd,List.mem_flatMap,CD,List.mem_map,List.mem_range] at h;obtain⟨w,_,p,_,rfl⟩:=h;rfl
theorem AfD(m:Bi)(i j:Nat):(KR m i).contains j=m.cuts.any λx=>x.1==i&&x.2==j:=by unfold KR;rw[Aws,List.any_map,List.any_filter];grind
theorem AfE:∀(A:fY)(b:Nat),(∀c∈A,p c=q c)->tU A=AN q b A
 |[],_,_=>rfl
 |c::r,b,h=>by
  unfold AN;rw[h c AsG,AfE r (b+1) λd hd=>pA h d hd]
theorem AqD(m:Bi)(j:Nat):hH.cuts=AN aEC cE iG:=by refine AfE _ _ λc hc=>?_;unfold Xh El;rw[AfD,Xm hc]
theorem Tg:∀(r:jA)(i b j:Nat)(f:dH),r[j]? =mB f-> aED[j]? =some (mMm Dh)
 |[],i,b,j,f,h=>by simp at h
 |a::r,i,b,0,f,h=>by
  obtain rfl:a=f:=fB;rfl
 |a::r,i,b,j+1,f,h=>by
  rw[AtM] at h;show(mMn Br)[j]? =_;rw[Tg r (i+1) _ j f h,Auf];simp only[Vf.cellsFrom,List.length_append];grind
theorem AfF:∀(r:jA)(i b j:Nat)(f:dH),r[j]? =mB f-> aEE[j]? =some (mMm Gi)
 |[],i,b,j,f,h=>by simp at h
 |a::r,i,b,0,f,h=>by
  obtain rfl:a=f:=fB;rfl
 |a::r,i,b,j+1,f,h=>by
  rw[AtM] at h;show(mMn DI)[j]? =_;rw[AfF r (i+1) _ j f h,Auf];simp only[Vf.cellsFrom,List.length_append];grind
theorem Xn:∀(r:jA)(i b:Nat),aED.length=r.length
 |[],_,_=>rfl
 |a::r,i,b=>by simp[Br,Xn r]
theorem Th:∀(r:jA)(i b:Nat),aEE.length=r.length
 |[],_,_=>rfl
 |a::r,i,b=>by simp[DI,Th r]
theorem AqE(m:Bi):IW m DH.Gj=Br 0 0 m.feet:=by
 apply AsJ;intro j;by_cases h:j<m.feet.length
 .rw[mI2 Tg h,IW,ArY,AsY h,AsZ,AsZ];rfl
 rw[mI0 As9 IW,As9 (qQ Xn)]
theorem AqF(m:Bi):IW m DH.ends=DI 0 0 m.feet:=by
 apply AsJ;intro j;by_cases h:j<m.feet.length
 .rw[mI2 AfF h,IW,ArY,AsY h,AsZ,AsZ];rfl
 rw[mI0 As9 IW,As9 (qQ Th)]
theorem Ti(l:aB):aPr.sum=((l.sum:Nat):Int):=by
 induction l with
 |nil=>rfl
 |cons a l b=>rw[Asn,AtK,b,AtK];omega
theorem KS(l:aB):iv l=aPr.map V.int:=by rw[AsB];rfl
theorem Qc(T:aE){c:hB}(d:JI t H SL m m.feet.length)(aa:m.feet.length<=16)(e:∀a f,(ES a f).lookup nm=sR mX g a)(h:AS K t.CI nm)(l:mV H D)
 (k:∀H',aO ->H' D=oC (IW m g)->c H'):
 ∃W:mBC Nat,(mDj H D)/\∀i m H,W i m H->
  ((pZ SL).stop i H/\c H)\/((pZ SL).go i H/\∃n:hB,(mKu n i)/\∀x H',(pZ SL).Fg i H x H'->EY 4 x aPs H' λB C=>Co B [4]=aPs /\MF B C λb E=>
    if b=true then FJ K (Bo 4) nm B E λy G=>∃acc,G D=nU acc/\acc.length<sizeLine/\n (zL G) else n E):=by
 obtain⟨I,L,ab,M⟩:=d;refine EA (J:=pZ SL) m.feet.length (mI3 D (aBA.map λj=>g hH)) (yM l)
  (λj H1 hj N=>(19,nA N.1 L,by rw[ArY,mIC j I.length];rfl)) (λH1 N=>(sA N.1 L)) ?_ (λH1 N=>k H1 N.1 N.2)
 rintro j H1 y C hj ⟨s1,O⟩ ⟨rfl,hy⟩;have Q:j<I.length:=aA;have U:=rJ s1 L;rw[ArY,mK Q] at U;obtain rfl:nE I[j]=y:=(mR U);obtain⟨_,dx,f,AT,Y,_⟩:=M j I[j] _ (mK Q) (GH hj);refine jD;refine(0,I[j],_,dx,3,rF Y,51,h,e _ _,_,O,mA1 As4,qS s1 l,5);rw[Af,Atl];simp[Do]
def AfG(m:Bi)(q a:Nat):Prop:=∃c d,aU[q]? =bT /\ aU[a]? =mB d/\Aet m c d
theorem AfH(m:Bi)(hj:wJ j)(hx:x<iG.length):aU[cE+x]? =iG[x]? :=by
 have h:aU=(mBb j++iG)++Vf.cellsFrom (j+1) (m.feet.drop (j+1)):=by
  rw[<-Xk hj];unfold An
  conv=>lhs;rw[<-Avs (j+1) m.feet]
  rw[P_,AsS,AtZ aA,AsZ]
 rw[h,At3];unfold B3;grind
theorem AfI(m:Bi)(c:Bq):J4 m c=rc (KR m c.foot) c:=by unfold J4 rc Fc El;refine AsU λj _=>?_;rw[AfD]
theorem AqG(m:Bi)(hj:wJ j)(hx:x<iG.length)(a:KP (KR m j) iG AT):AT x<iG.length/\AfG m (cE+x) (cE+AT x):=by obtain⟨d,b,c⟩:=a x _ (mK hx);have hd:=(nL b).1;refine(hd,_,d,(AfH m hj hx).trans (mK hx),(AfH m hj hd).trans b,5);have f1:=Xm (Asw hx);have f2:=Xm (Asl b);refine(f1.trans f2.symm,5);rw[AfI,AfI,f1,f2];exact c
abbrev AfJ(a:BR)(d f b:Addr):List gC:=[("half",mE ((a.AW:Nat):Int),),("cuts",mE ((a.cuts:Nat):Int),),("inner",mE ((a.inner:Nat):Int),),("doors",dG,),("fitting",iN,),("first",mE ((a.first:Nat):Int),),("done",mE ((a.done:Nat):Int),),("twins",bU,)]
def Tj(m:Bi)(n:Nat)(a:hN):Prop:=∀(q:Nat)(Am:Bool),q<n->∃b,b<aU.length/\AfG m q b/\Bc a (EU fE)=mX ((1<<<B5 aH.AW b Am:Nat):Int)
theorem JI.fr(h:JI t H SL m n)(g:n<=m.feet.length)(fr:uH B)(i:aPt):JI t H' SL m n:=by
 obtain⟨s,v,y,z⟩:=h;have ne:∀c u,H c=aM ->u≠ nC C []->¬B c:=λc u e hu hb=>by grind
 refine(s,mI4 v,y,226);obtain⟨I,J,L,AT,M,O,Q,U⟩:=z j q f hq hf;exact(I,J,L,AT,mI4 M,O,mI4 Q,U)
theorem JI.same(h:JI t H SL m n)(s:aO):JI t H' SL m n:=by obtain⟨g,i,u,v⟩:=h;refine(g,nM i,u,226);obtain⟨y,z,B,AT,C,I,J,L⟩:=v j q f hq hf;exact(y,z,B,AT,nM C,I,nM J,L)
theorem AfK(h:Nat)(x:gS):∀l:cD,FD h (l++[x])=FD h l++[x,(x.1<<<h,x.2<<<h,)]
 |[]=>rfl
 |(e,s)::r=>by
  rw[At8];simp only[FD,AfK h x r,List.cons_append]
theorem AfL(h:Nat):∀l:cD,(FD h l).length=2*l.length
 |[]=>rfl
 |(e,s)::r=>by simp only[FD,List.length_cons,AfL h r];omega
theorem AqH{a c:TE}(ha:b=true->∀Q:VK,Q v H->a σ H Q)(hb:b=false->∀Q:VK,Q v H->c σ H Q)(hq:Q v H):if b=true then a σ H Q else c σ H Q:=by
 cases b with
 |true=>exact bF.mpr (ha rfl Q hq)
 |false=>exact bS.mpr (hb rfl Q hq)
def AqI(t:Aw):Sp:=λvs H Q _=>∃(p dx mp:Addr)(m:Bi),vs=[aS,mF mp]/\H p=rX t.A_/\mCc H/\m.Ok/\ aU.length<=400/\
 ∀(d f a:Addr)(b:hN)(H':Hp),uH eS->H' p=oN t.A_ (AfJ aH d f a)->F9 H' d aH.BP->H' f=mB aBC ->H' a=qH b->Tj m aU.length b-> cW
abbrev Qe:List Str:=aPu
theorem Ef:AD aPu aIV (A0 Ly):=aG
theorem AqJ(T:aE):A4 P w K mg base A9 5 t.Nl t.AbT aIV (AqI t):=by
 refine pF T.Nl.F.ok Ef
 .obtain⟨p,dx,mp,m,rfl,_⟩:=h;rfl
 obtain⟨p,dx,mp,m,rfl,hp,hm,ac,ae,k⟩:=h;have hu:=F5 ab;have af:=ac.KY;refine(_,(Ak (qJ Ef.nd (Bb (Aq9 T) bR rfl T.LK.m T.LK.F.kp T.LK.b .nil Ay dX))
  (Ak (rW Ef.nd aGU)
  (Ak (sQ Ef.nd (AE G7 Ar bB))
  (Ak (nW (vX bB))
  (Ak (nW aGU)
  (Ak (nW (mI5 (mU aGU)))
  (Ak (uC Ef.nd (AE HC aPv (rY bJ)))
  (Ak (nW dM)
  (Ak (BS Asq rfl (mB3 (zS aX (mDy IG cA))) (uA 4 Ef.nd 7) (Ak (Cu (mD0 (mU (CV (oP gM eZ)))))
  (Ao (Cu (mD0 (mU (CV (zS (mAd gM) (mAd eZ)))))))))
  (Ak (mCd Ef.nd (mI5 (mU (zW bJ))))
  (Ak (mGg Ef.nd (mI5 (mU aGU)))
  (Ak (nW (CV (Ad (AE Aeh kB aAB) (pM 9 8))))
  (Ak (nW (Ie (qY cC) (vM B9 6) (mAd (vM B9 6))))
  (Ak (nW (mAd bJ))
  (Ak (nW OT)
  (Ao (BS Asq rfl (pT aX) (oJ 4 Ef.nd) (Ao (Rp (BS Asq rfl (Aj2 gM) (oJ 10 Ef.nd) (Ak (mB0 aY aBD (Lr hu gM aBD fD))
  (Ao (mB0 aY (mAd aBD) (mAd (Lr hu gM aBD fD))))))))))))))))))))))))),5)
 refine(0,mp,m,2,hm,ac,ae,λSL H1 s1 ag ah=>?_);have ai:=rF hp;have aj:∀c,(eS) c->H1 c=none\/H1 c=some (nC t.A_ []):=λc e=> mMo ai;refine(0,SL,2,(oX ah.choose_spec.1),λak al=>?_);refine Qc T ah af (g:=DH.size) fD T.ND al (λam s2 an=>?_);rw[KS] at an;refine(mCB ak an);rw[Ti,AqC];have ao:Fr eS H1 am:=mCA s2;refine(0,(1),aU.length,26,aGo,0,8,72,pS ai,89,aZ,5);show yR am aGV;have ap:xB am aGV:=Af;have aq:Fr eS H1 (mY am aGV):=ao.Aa rfl;generalize Aa am p aGV=ar at ap aq;have as:=mGr aq;refine(0,SL,2,(oX as.choose_spec.1),λau av=>?_);refine Qc T as af (g:=DH.cuts) fD T.Vv av (λaw s4 ax=>?_);rw[KS] at ax;refine(mCB au ax);rw[Ti,Xl m aEC DH.cuts (λj _=>AqD m j)];refine(72,mC s4 ap,35,T.RH,198);show yR aw (mGs m);have ay:mEf aw (mGs m):=Af;have az:Fr eS H1 (mY aw (mGs m)):=(aq.same s4).Aa rfl
 generalize Aa aw p (mGs m)=a0 at ay az;have a1:=mGr az;refine(219,ay,31,SL,2,(oX a1.choose_spec.1),λa2 a3=>?_);refine Qc T a1 af (g:=DH.inner) fD T.Vu a3 (λa4 a5 a6=>?_);rw[KS] at a6;refine(mCB a2 a6);rw[Ti,Xl m HX DH.inner (λj _=>rfl)];have a7:=mC a5 ay;have a8:∀q,AN q 0 aU<2 ^ 1000:=λq=>yW (JQ q aU 0);refine(p,dx,19,bX,2,a7,2,a8 _,4,72,a7,35,T.RI,aAu,5);show yR a4 aGW;have a9:mEf a4 aGW:=Af;have ba:Fr eS H1 (mY a4 aGW):=(az.same a5).Aa rfl;generalize Aa a4 p aGW=bb at a9 ba;have bc:=mGr ba;refine(0,SL,2,(oX bc.choose_spec.1),λbd be=>?_);refine Qc T bc af (g:=DH.Gj) fD T.Vs be (λbf bg bh=>?_);rw[AqE] at bh;have bi:=bc.same bg;refine(0,jH,λbj bk=>?_)
 have bl:Ab bf (mI6 mE):=mS bk;have bm:uJ mAo Br m.feet.length:=Xn ..;refine(bd,bj,8,mC bl bh,Af,AL (by rw[ArX,bm];show m.feet.length+1<=_;omega),λST bn=>?_);rw[show iv (mAo Br)++[mO (((λbo bp:Nat=>bo<<<bp) 1 aU.length:Nat):Int)]=iv cV from aC];have bq:Ab bf aPw:=pC bl bn;have br:(aPw) ST=some (pW cV):=Af;generalize Aa (mI6 mE) ST (pW cV)=bs at bq br;have bt:=(ba.same bg).same bq;have bu:=nV bq bg a9;refine(aT,λd bv=>(72,mAa bv bu,35,T.Pg,200));have bw:d≠p:=λe=>(by rw[e,bu] at bv;cases bv);have bx:mV H1 d:=by
  cases q:H1 d with
  |none=>rfl
  |some u=>have:=mP bt q bw;rw[bv] at this;cases this
 show yR aCJ aCK;have bz:xB aCJ aCK:=Af;have b0:Fr eS H1 (mY aCJ aCK):=(bt.same (mS bv)).Aa rfl;have b1:oI (mY aCJ aCK) d aDF:=(wE Ah bw);have b2:ST≠p:=λe=>(by rw[e,bu] at br;cases br);have b3:ST≠d:=λe=>(by rw[e,bv] at br;cases br);have b4:oI (mY aCJ aCK) ST (pW cV):=(by rw[Ah b2,Ah b3];exact br);generalize Aa aCJ p aCK=b5 at bz b0 b1 b4;have b6:=mGr b0;obtain⟨f,b7,b8,b9⟩:=id b6;refine(42,ST,0,mN b4,λca cb=>?_);have cc:Dx (iv cV) (mB 1) none=iv cV.tail:=by unfold Dx;rw[show(1:Int)=((1:Nat):Int) from rfl,HT.Hz,HT.Ki,ArX,Asi,AtZ aC,<-List.map_drop,List.drop_one,AsW (by rw[ArX,AtI,Asi];exact aD)]
 rw[cc];have cd:Ab b5 (Aa b5 ca aKp):=mS cb;have ce:xJ b5 ca aKp:=Af;generalize Aa b5 ca aKp=cf at cd ce;have cg:ca≠d:=λe=>(by rw[e,b1] at cb;cases cb);obtain⟨ch,cj,ck,cl⟩:=id ah;have cm:SL≠d:=λe=>(by rw[e,bx] at cj;cases cj);have cn:p≠d:=Asr bw;have co:(cV.tail).length=m.feet.length:=(by rw[AtI,Asi,bm];rfl);have cp:∀y∈ cV.tail,y<2 ^ 1000:=λy hy=>by
  have cq:=List.mem_of_mem_tail hy;rcases pD cq with h|h
  .obtain⟨j,hj,rfl⟩:=Asy h;have cr:wJ j:=(by rw[bm] at hj;exact hj);have o:=mI2 Tg cr;rw[cT] at o;rw[Ase o];refine aKq;have r:=Qa (GH cr);have C:=Qb m (j+1);have cs:cE=(mBb j).length:=rfl;rw[AsZ,AsZ];omega
  obtain rfl:=Atb.mp h;rw[AsE];exact AuL aA aA
 refine(SL,ca,3,nA cd b7,mN ce,5);refine Fn (J:=Lw K SL ca) m.feet.length (λj σ D=>∃v4 ct,σ=[bM,mH mp,mH SL,mI7 Int,v4,mGo aU.length,mH ST,ct,none,none,none]/\yP d cf D/\F9 D d (FD bX aKr))
  (14,88,[],mC cd b1,2,141) ?_ ?_ ?_ ?_
 .rintro j σ D hj ⟨v4,ct,rfl,fr,hd⟩;exact(49,aKs,vD ce cg,mCG b8,mCG co)
 .rintro σ D ⟨v4,ct,rfl,fr,hd⟩;exact(19,aKs,vD ce cg,mG (mCp b8 aD))
 .rintro j σ D y G hj ⟨v4,ct,rfl,fr,I,hd,cu,cx⟩ ⟨cy,x,cz,rfl,c0,rfl,hx,hy⟩;have c1:j<f.length:=aA;have hx':=hx _ aKs;rw[ArY,mK c1] at hx';obtain rfl:nE f[j]=x:=(mR hx');have cq:=hy _ (vD ce cg);have c2:j<(cV.tail).length:=aA;rw[ArY,mK c2] at cq;obtain rfl:mO (((cV.tail)[j]:Nat):Int)=cz:=(mR cq);obtain⟨_,c3,L,AT,M,_⟩:=b9 j f[j] _ (mK c1) (GH hj);have c4:f[j]≠d:=λe=>by
   have c5:f=ch:=by
    have h0:=b0 _ _ cj (λz=>by rw[z,ai] at cj;cases cj);rw[b7] at h0;injection Ase h0 with h0
    exact aPh.mp h0
   subst c5;obtain⟨_,c6,c7,c8,c9,_⟩:=cl j f[j] _ (mK c1) (GH hj);rw[e,bx] at c9;cases c9
  have da:pO (aBK.zip cV.tail)[j]? (hH.ends,(cV.tail)[j],):=by rw[AuT];exact((by rw[<-AqF,IW,ArY,AsY hj];rfl),mK c2)
  have db:=vN cp c2;have dc:mCt hH.ends:=by refine aKq;have r:=Qa (GH hj);have C:=Qb m (j+1);show cE+iG.length<=1000;omega
  have dd:mAV (mGK m).take (hH.ends,(cV.tail)[j],):=(yX AsA da);rw[dd,AfK];have de:(FD bX aKr).length=2*j:=by rw[AfL,AsS,AtZ];rw[Aw4,Th,co];omega
  generalize (cV.tail)[j]=N at*;generalize FD bX aKr=df at*;have dg:Ab D (Aa D cy aGX):=mS c0;have dh:mCC D cy aGX:=Af;have di:=fr.same dg;have dj:=mC dg hd;have dk:∀(i:Nat)(q:Addr)(x:gS),I[i]? =dE ->df[i]? =aW ->(Aa D cy aGX) q=some (mF0 (x.1:Int) (x.2:Int)):=λi q x r C=>mC dg (cx i q x r C);generalize Aa D cy aGX=G at dg dh di dj dk;have dm:=mP di (mC cd bz) cn;have dn:=mP di (mC cd M) c4;refine(cy,0,nQ dh,2,3,8,17,dm,35,T.Pg,2,pY dj,0,f[j],_,c3,3,dn,51,T.RG,31,gF,λo dp=>?_);have dq:Ab G (Aa G o aPx):=mS dp;refine(d,8,mC dq dj,fR,5);have dr:Fr (λc=>c=d) G aCL:=(mCA dq).Aa rfl;have ds:(aCL) d=some (.Ac (nH I.map++[mF o])):=Af;have dt:oI (aCL) o aPx:=(oY (λe=>by rw[e,dj] at dp;cases dp) Af);have du:=mP dr dm cn;refine(17,du,35,T.Pg,2,pY ds,0,f[j],_,c3,3,mP dr dn c4,51,T.RG,2,17,du,89,2,hH.ends,bX,26,(mDM dc),0,17,du,89,2,N,bX,26,(mDM db),gF,λO dv=>?_)
  have dw:Ab aCL aPy:=mS dv;have ne2:O≠d:=λe=>by
   subst e;have q:=ds.symm.trans dv
   cases q
  refine(d,8,mC dw ds,BA (by rw[Asi,ArX];show I.length+1<_;omega),5);have dy:Fr (λc=>c=d) aCL aPz:=(mCA dw).Aa rfl;refine(3,(di.trans dr).trans dy,I++[o,O],23,by rw[Asi,Asi,cu];rfl,aKt);have dz:∀{d0:Hp}{c:Addr}{xs l:aL},d0 c=fJ ->d0 d=nU l->¬(c=d):=λr C e=>(by rw[e,C] at r;cases r);by_cases d1:i<I.length
  .rw[Ask d1] at r;rw[Ask aA] at C;have cs:=dk i q x r C;have h4:=dr _ _ cs (dz cs dj);exact dy _ _ h4 (dz h4 ds)
  rw[eN] at r;rw[eN,<-cu] at C
  match hk:i - I.length,r,C with
  |0,r,C=>
   obtain rfl:o=q:=(mR r);obtain rfl:(hH.ends,N,)=x:=(mR C);exact dy _ _ dt (dz dt ds)
  |1,r,C=>
   obtain rfl:O=q:=(mR r);obtain rfl:(hH.ends<<<bX,N<<<bX,)=x:=(mR C);show(aPz) O=_;rw[Ah ne2];exact Af
  |n+2,r,C=>simp at r
 rintro σ D ⟨v4,ct,rfl,fr,hd⟩;rw[AsW (by rw[Aw4,Th,co];omega)] at hd;have d2:=mP fr (mC cd bz) cn;have d3:Fr (tS p d) H1 D:=(b0.As (λc e=> mG e)).trans (((Fr.refl (B:=λc=>c=d)).same cd).trans fr |>.As λc e=> mI e);have d4:=ah.fr aD d3 (λc e=>e.elim (λe=> mI (oL e ai)) (λe=> mG (oL e bx)));have d5:mDJ ((1<<<aU.length:Nat):Int) lT:=by have:1<=1<<<aU.length:=(oL AsE Nat.one_le_two_pow);omega
 have d6:lT - 1<2 ^ 1000:=by have:2 ^ aU.length<=2 ^ 1000:=As5 aA aA;rw[AsE];have:=Nat.one_le_two_pow (n:=aU.length);omega
 refine(219,d2,31,8,p,dx,_,aC1,bX,(mAH d5),d2,2,d6,4,219,d2,31,SL,2,(oX d4.choose_spec.1),λd7 d8=>?_);refine Qc T d4 af (g:=DH.Hg) fD T.Vt d8 (λd9 ea eb=>?_);rw[KS] at eb;refine(mCB d7 eb);rw[Ti,Xl m Du DH.Hg (λj _=>rfl)];have ec:=mC ea d2;have ed:=d3.same ea;have ee:=hd.same ea;refine(p,dx,19,bX,2,ec,2,a8 _,4,16,13,16,(mAI 3),λU ef=>?_);have eg:U≠p:=λe=>(by rw[e,ec] at ef;cases ef);refine(72,mAa ef ec,35,T.RJ,(qG 4),5);show yR aEl aEm;have eh:mEf aEl aEm:=Af;have ei:oI (mY aEl aEm) U aBC:=(wE Ah eg)
 have ej:Fr eS d9 (mY aEl aEm):=(mCA (mS ef)).Aa rfl;generalize Aa aEl p aEm=ek at eh ei ej;obtain⟨el,em,en,eo,_,pc,ep,eq,_⟩:=id hm;have er:Fr (tS p d) H1 ek:=ed.trans (mGt ej.As);have es:∀c u,H c=aM ->u≠ nC t.A_ []->¬(c=p\/c=d):=λc u e hu=>by
  rintro(z|z)
  .rw[z,hp] at e;exact hu jQ.symm
  have:=rF e;rw[z,bx] at this;cases this
 have et:=ej _ _ (mC ea (mP fr (mC cd b4) b3)) b2;refine(199,el,3,(er _ _ (rF eo) (mMp es eo)),113,2,_,mG (_,mN (mP er (rF ep) (mCy es ep)),2),5);have eu:BX (iv cV) 0=some (sR mE cV.headD 0):=by
  obtain⟨a,l,ev⟩:∃a l,cV=a::l:=by
   cases mAo Br with
   |nil=>exact aI9
   |cons a l=>exact aI9
  rw[ev];exact cP
 have ew:mCt lU:=by
  have cr:wJ 0:=ac.Qr;have o:=Tg m.feet 0 0 0 _ (GH cr);have O:lU=AN Dh (0+aPA.length) (Bd (0+0) (Ee m 0)):=by
   cases ex:mAo Br with
   |nil=>rw[ex] at o;cases o
   |cons a l=>rw[ex] at o;exact Ase o
  rw[O];refine aKq;have r:=Qa (GH cr);have C:=Qb m 1;have cs:B3 m 0=aPA.length:=rfl;rw[AsZ,AsZ];rw[AsZ] at r;omega
 refine AqH (v:= mE ((aH.first:Nat):Int)) (λhb ey ez=>?_) (λhb ey ez=>?_) ?_
 .have e0:m.cuts≠[]:=λe=>by
   rw[e] at eq;rw[uV eq] at hb;cases hb
  refine(240,5);rw[show aH.first=lU from mM e0] at ez;exact ez
 .have e0:m.cuts=[]:=by
   cases e1:pc with
   |nil=>rw[e1] at eq;exact uV eq.symm
   |cons a l=>rw[e1] at hb;cases hb
  refine(240,17,eh,89,2,lU,bX,26,(mDM ew),5);rw[show aH.first=lU<<<bX from mJ e0] at ez;exact ez
 refine(72,eh,35,T.Ac9,142);show yR ek aEn;have e2:xB ek aEn:=Af;have e3:Fr eS d9 (mY ek aEn):=ej.Aa rfl;have e4:oI (mY ek aEn) U aBC:=(oY eg ei);generalize Aa ek p aEn=e5 at e2 e3 e4;refine(0,17,e2,89,2,lT,bX,26,(by rw[AsE];exact AuL aA aA,4),72,e2,35,T.AcA,(qG 6),5)
 show yR e5 aEo;have e6:xB e5 aEo:=Af;have e7:Fr eS d9 (mY e5 aEo):=e3.Aa rfl;have e8:oI (mY e5 aEo) U aBC:=(oY eg e4);generalize Aa e5 p aEo=e9 at e6 e7 e8
 refine λY fa=>(72,mAa fa e6,35,T.RK,(qG 7),5);have fb:Y≠p:=λe=>(by rw[e,e6] at fa;cases fa);have sw:Ab e9 (Aa e9 Y hX):=mS fa;have fc:oI (mGu Aa) p (.Ag t.A_ dx aGY):=Af;have fd:Fr eS d9 (mGu Aa):=(e7.same sw).Aa rfl;have fe:oI (mGu Aa) U aBC:=(by rw[Ah eg];exact mC sw e8);have ff:oI (mGu Aa) Y hX:=(wE Ah fb)
 rw[show Cn "twins" (nE Y) aPB=(aGY:oU V) from rfl];generalize Aa (Aa e9 Y hX) p (.Ag t.A_ dx aGY)=fg at fc fd fe ff;have fh:F9 fg d aH.BP:=by obtain⟨I,g1,g2,g3⟩:=ee;refine(I,mP fd g1 bw,g2,aKt);have:=g3 i q x r C;exact mMq fd ec
 have fi:mV d9 Y:=by
  cases q:d9 Y with
  |none=>rfl
  |some u=>have:=mP e7 q fb;rw[fa] at this;cases this
 have fj:mV H1 Y:=by
  cases q:H1 Y with
  |none=>rfl
  |some u=>
   by_cases z:Y=p\/Y=d
   .rcases z with z|z
    .exact nK z fb
    obtain⟨I,g1,_⟩:=ee;rw[z,g1] at fi;cases fi
   have:=mP ed q z;rw[fi] at this;cases this
 have fk:Fr (tS p d) H1 fg:=ed.trans (mGt fd.As);clear d4 b6 bi bc a1 as;have fl:∀(j:Nat)(q:Addr),ch[j]? =dE ->∃c3 L AT,j<m.feet.length/\fg q=mB (.Ag t.CI c3 (ES (Tf m j (Ee m j)) L))/\fg L=qH aGZ /\KP (KR m j) iG AT/\L≠Y/\q≠Y/\q≠L/\p≠L:=λj q hq=>by
  have hj:wJ j:=(wY ck hq);obtain⟨_,c3,L,AT,M,fm,fn,fo⟩:=cl j q _ hq (GH hj);have fp:¬(q=p\/q=d):=by
   rintro(z|z)
   .rw[z,ai] at M;injection Ase M with _ _ M;cases M
   rw[z,bx] at M;cases M
  have fq:¬(L=p\/L=d):=by
   rintro(z|z)
   .rw[z,ai] at fn;cases fn
   rw[z,bx] at fn;cases fn
  exact(c3,L,AT,hj,mP fk M fp,mP fk fn fq,fo,(λe=>by rw[e,fj] at fn;cases fn),(λe=>by rw[e,fj] at M;cases M),(λe=>by rw[e,fn] at M;cases M),(λe=>fq (vV mG)))
 have fs:tJ fg SL (nH ch.map):=fk _ _ cj (by
  rintro(z|z)
  .rw[z,ai] at cj;cases cj
  exact cm z)
 have cx:p≠Y:=Asr fb;refine(0,SL,2,(oX fs),5);refine E4 (K:=K) (a:=SL) (xs:=nH ch.map) (λj σ D=>∃v4 ft v6 ct fu fv v10 fw,σ=[bM,mH mp,mH SL,mI7 Int,v4,ft,v6,ct,fu,fv,v10]/\yP Y fg D/\D Y=qH fw/\fw.length<=2*cE /\Tj m cE fw)
  (49,19,_,[],88,ff,aT,λq Am h=>by have:B3 m 0=0:=rfl;omega) (λj σ D _ (_,_,_,_,_,_,_,_,_,fx,_)=>mN (mP fx fs (λe=>by rw[e,fj] at cj;cases cj))) ?_ ?_
 .rintro j y σ D hj ⟨v4,ft,v6,ct,fu,fv,v10,fw,rfl,fx,fy,fz,f0⟩;rw[ArY] at hj;obtain⟨q,hq,rfl⟩:mF5 ch[j]?:=by
   cases e:ch[j]? with
   |none=>rw[e] at hj;cases hj
   |some x=>rw[e] at hj;exact lL
  obtain⟨c3,L,AT,f1,f2,f3,f4,f5,f6,f7,f8⟩:=fl j q hq;have f9:=Qa (GH f1);have hole:=Qb m (j+1);refine(L,_,mP fx f3 f5,187);have ga:Fr (tS Y L) fg (Aa D L (mFV aGZ)):=(mGt fx.As).Aa eB;refine(227,ga _ _ f2 (by rintro(e|e);exact f6 e;exact f7 e),190,2,L,od,0,Af,5);refine Fn (J:=Lv L od aGZ) iG.length (λi σ gb=>∃v10 fw,σ=[bM,mH mp,mH SL,mI7 Int,mH q,ft,v6,ct,fu,fv,v10]/\Fr (tS Y L) fg gb/\gb L=some (mFV aGZ)/\gb Y=qH fw/\fw.length<=2*(cE+i)/\Tj m (cE+i) fw)
   (_,fw,2,ga,Af,by rw[nX f5];exact fy,4,f0) (λi σ gb d1 (_,_,_,_,h,_)=>(h,by rw[CY,ArX,As4];exact d1)) (λσ gb (_,_,_,_,h,_)=>(h,by rw[CY,ArX,As4];exact aD)) ?_ ?_
  .rintro i σ gc y gb d1 ⟨gd,ge,rfl,gf,gg,gh,gi,gj⟩ ⟨rfl,ky,gk,gl,rfl⟩;have o:ky=EU (cE+i):=by
    rw[CY,ArY,AsY d1] at gl;have:=Ase gl;injection this with this _
    exact this.symm
   subst o;obtain⟨gm,gn⟩:=AqG m f1 d1 f4;have go:=AfB cE AT _ i d1;have Ji:∀x,x<=400->(1<<<x:Nat)<2 ^ 1000:=λx hx=>(by rw[AsE];exact AuL aA aA);refine(227,(gf _ _ f2 (by rintro(e|e);exact f6 e;exact f7 e)),190,31,L,0,mG (mMr i gg),17,(gf _ _ fc (by rintro(e|e);exact cx e;exact f8 e)),35,T.RK,31,Y,0,mG (ge,EU (cE+i),gh,2,BA aA,2),5);have ao:Fr (tS Y L) fg (Aa gb Y (.dK (mI8 Dy mE))):=gf.Aa bA;have gp:=ao _ _ fc (by rintro(e|e);exact cx e;exact f8 e);refine(227,(ao _ _ f2 (by rintro(e|e);exact f6 e;exact f7 e)),190,31,L,0,.inl (mMr i (oY f5 gg)),17,gp,89,2,1<<<(cE+AT i),bX,26,(Ji _ aA,4),17,gp,35,T.RK,31,17,gp,89,2,1<<<(cE+i),bX,26,(Ji _ aA,4),Y,0,.inl (_,EU (cE+i+bX),Af,by show mMs (cE+i)=V.int _;rw[<-Awb],BA (by have:=mI8 Jo mO;omega),2),5);rw[B1];refine(3,gf.Aa bA,by rw[Ah f5];exact gg,Af,5,λgq Am b8=>?_)
   .have r:=mI8 Jo mO;refine AsV (Jo _ _ _) ?_;omega
   rw[MI,MI];have gr:∀x,uL x Am=x+(mCO Am):=λx=>rfl;by_cases e:gq=cE+i
   .subst e;refine(cE+AT i,4,gn,5);rw[gr,gr]
    cases Am with
    |false=>
     rw[mM (λz=>by have:=PZ z;simp at this),mJ aC];simp
    |true=>
     rw[mJ aC];show some (mMs (cE+AT i))=mB (V.int _);rw[<-Awb];simp
   obtain⟨gs,g1,g2,g3⟩:=gj gq Am aA;refine(gs,g1,g2,5);rw[aPC,aPC];exact g3
  rintro σ gb ⟨gd,ge,rfl,gf,gg,gh,gi,gj⟩;refine(gg,49,19,_,ge,2,λc u e n=>?_,by rw[nX f5];exact gh,by rw[f9];exact gi,by rw[f9];exact gj);by_cases z:c=L
  .subst z;rw[Af,<-f3];exact e
  rw[Ah z];exact gf c u e (by rintro(h|h);exact n h;exact z h)
 rintro σ D ⟨v4,ft,v6,ct,fu,fv,v10,fw,rfl,fx,fy,fz,f0⟩;rw[ArX,ck] at f0;have gt:B3 m m.feet.length=aU.length:=(by unfold B3 An;rw[AsC]);rw[gt] at f0;refine k d U Y fw D (λc u e n=>?_) (mP fx fc cx) ?_ (fx _ _ fe (λe=>by rw[e,ff] at fe;cases fe)) fy f0
 .have o:=rF e;have O:=fk _ _ o (by
   rintro(z|z)
   .exact n z
   rw[z,bx] at o;cases o)
  exact mP fx O (λz=>by rw[z,fj] at o;cases o)
 obtain⟨I,g1,g2,g3⟩:=fh;refine(I,fx _ _ g1 (λe=>by rw[e,ff] at g1;cases g1),g2,aKt);have:=g3 i q x r C;exact mMq fx ff
theorem Xo(a:n<2 ^ k):DJ h n<2 ^ (h+k):=by refine Nat.or_lt_two_pow (yW a) ?_;rw[Awi,Nat.pow_add,Avu];exact Nat.mul_lt_mul_of_pos_left a (AuS h)
theorem AqK(h:aG0):Aej aH:=by
 have Kl:∀{x k:Nat},x<2 ^ k->k<=1000->x<2 ^ 1000:=λa b=>Ass a (As5 aA b);have mk:∀q,AN q 0 aU<2 ^ aU.length:=λq=>(mMt q);have ev:lT - 1<2 ^ aU.length:=by rw[AsE];grind
 refine(by show aU.length+1<=1000;omega,Kl (mk _) aA,Kl (Xo (mk _)) aA,λn=>?_);have f1:mCt aH.Ej:=Kl (Xo (mk _)) aA;have f2:mCt aH.Ek:=Kl (Xo ev) aA;unfold BR.B2;split
 .exact Nat.xor_lt_two_pow f2 f1
 split
 .exact f1
 exact f2
theorem AfM(a:aG0)(hp:H p=oN t.A_ (AfJ aH d f b))(hd:F9 H d aH.BP)(hf:H f=mB aBC):G8 t H p aH:=
 (AqK a,dx,_,d,f,hp,(151,26,26),hd,hf)
theorem AqL(h:nJ aBE.testBit p):∃q Am,q<aU.length/\p=B5 aH.AW q Am:=by
 have e:aBE=DJ bX aC1:=rfl;rw[e] at h;unfold DJ at h;rw[Ate,Atx,Atr,AsE,Aui,Aui] at h;rcases h with h|h
 .exact(p,182,Aut h,2)
 rw[AsF,Aup,Aup] at h;exact(p - bX,true,h.2,by show p=p - bX+bX;omega)
theorem AqM(a:aG0)(h:Tj m aU.length b):
 ∃tw:bE,∀p,aG1=true->Bc b (sD mG p)=mX ((1<<<tw p:Nat):Int)/\tw p<1000/\∀l,C8 aH l p↔C8 aH l (tw p):=by
 have key:∀p,∃y,aG1=true->Bc b (sD mG p)=mGo y/\y<1000/\∀l,C8 aH l p↔C8 aH l y:=by
  intro p;by_cases hp:aG1=true
  .obtain⟨q,Am,hq,rfl⟩:=AqL hp;obtain⟨e,f,⟨c,d,hc,hd,g⟩,i⟩:=h q Am hq;refine(uL e Am,λ_=>(i,5,λl=>AnD m _ q e c d hc hd rfl g l Am));have hb:uL e Am<=e+bX:=by
    show e+(mCO Am)<=_;split<;>omega
   omega
  exact(64,λh=>nK h hp)
 exact(λp=>(key p).choose,λp=>(key p).choose_spec)
def JK(st:bW)(k:Nat):Nat:=fU.length+1
def Qg(st:bW)(ms:Nat)(A7:bE):Prop:=(∀k,k<st.length->A7 k=JK st k)\/((∀k,A7 k=0)/\∀r:aB,r.Nodup-> lK ->r.length<=ms->AM (uZ aCM)<=256)
def AqN(t:Aw):Sp:=λvs H Q _=>∃(L:Addr)(st:bW)(ms:Nat),vs=[mF L,aG2]/\H L=zX st/\st.length<=64/\(∀x∈st,x.length<=23)/\ms<=64/\
 ∀(A7:bE)(D:Addr)(H':Hp),aO ->H D=none->H' D=oC (aAv.map A7)-> aG3 ->oQ D
theorem AfN(l:bH)(n:Nat):mFi (sT V.int) (n:Int)=(l.take n).map V.int:=by unfold Dx;rw[HT.Ki,HT.Hz,Atv,Nat.sub_zero,ArX,AuM];simp
theorem AfO:∀n:Nat,(pG n gE).flatten=mI9 n
 |0=>rfl
 |n+1=>by
  have h:mI9 (n+1)=mI9 n++gE:=(pP Atl);rw[h,<-AfO n,List.replicate_succ',List.flatten_append];rfl
abbrev AqO:List Str:=aPD
theorem Tk:AD aPD aIH (A0 Ve):=aG
theorem AqP(T:aE):A4 P w K mg base A9 1 t.LL t.AbZ aIH (AqN t):=by
 refine pF T.LL.F.ok Tk
 .obtain⟨L,st,ms,rfl,_⟩:=h;rfl
 obtain⟨L,st,ms,rfl,b,ac,c,ae,k⟩:=h;obtain⟨af,d,e⟩:=T.V0;refine(_,(Ak (HD (i:=2) rfl Tk.nd rfl rfl iY aCo (qM ("text",3,) AqO Ve) (pR 3 Tk.nd) cK (qK (vX (tZ HB bB))))
  (Ak (qN Tk.nd (AoB (K:=K) rfl rfl T.AcM aX))
  (Ak (nI (pL DB (mFr (mU (mDG bG aP))) (vX (nP d e))) (wA (mDF aAn)))
  aBi))),5)
 refine(0,L,2,(oX b),λC g=>?_);refine EA (J:=pZ L) st.length (mI3 C (aBA.map aCM)) (yM g)
  (λj H1 hj l=>(tM l.1 b hj)) (λH1 l=>(sA l.1 b)) ?_ ?_
 .rintro j H1 y m hj ⟨s1,n⟩ ⟨rfl,hy⟩;have o:=rJ s1 b;rw[ArY,cT] at o;obtain rfl:sN st[j]=y:=aAE;have hle:=c st[j] (Asw hj);refine jD;refine(0,mk st[j],2,fQ,8,_,n,mA1 As4,qS s1 g,5);rw[Af,Atl];have:JK st j=st[j].length+1:=(by unfold JK DG;rw[Asv,cT];rfl);simp[this,BT]
 rintro H1 ⟨s1,n⟩;have p:=n;rw[KS] at p;refine(0,C,0,mN p,λns S q u v=>?_);have s2:Ab H1 (nD H1 S hV):=mS v;have z:mAk H1 S hV:=Af;generalize Aa H1 S (.Ac hV)=m at s2 z;refine(42,S,0,mN z,λB G=>?_);rw[AfN];have s3:Ab m (Aa m B (mCH ms)):=mS G;have I:xJ m B (mCH ms):=Af;generalize Aa m B (mCH ms)=M at s3 I;have N:=lI;refine(B,0,mN I,8,58);by_cases hle:aKu.sum<=256
 .rw[show decide (aKu.sum<=(255:Int)+1)=true from mW hle];refine Au (jH,λZ ag=>?_);have s4:Ab M (nD M Z [bZ]):=mS ag;have O:mAk M Z [bZ]:=Af;generalize Aa M Z aEd=ah at s4 O;have U:=qE s1 N s4;refine(0,L,0,wZ U b,Z,8,O,34,34,by rw[ArX];exact AL (by show 1*(Int.toNat _)<=_;omega),λD Y=>?_);refine k aCv D _ (pC U Y) (BL U Y) ?_ (mI (lC,λr ai aj ak=>?_))
  .rw[Af,ArX];congr 2;have:((st.length:Nat):Int).toNat=st.length:=aA;rw[this];exact AfO st.length
  have h4:=Aoi (f:=aCM) ai aj (q.trans aPE) u;have al:=Aoj (fs:=ns) eA ak
  .omega
  have:=q.mem_iff.mp hx;obtain⟨a,_,rfl⟩:=nY this;omega
 rw[show decide (aKu.sum<=(255:Int)+1)=false from mT hle];refine Az (0,k aCM C _ (nB s1 N) g (mC N n) (.inl λ_ _=>rfl))
theorem AqQ(h:l≠[]):GD l∈l:=by
 induction l with
 |nil=>exact rB h
 |cons a l c=>
  by_cases e:l=[]
  .subst e;have d:=WI (l:=[a]) (x:=a) aC;have f:=AeB (l:=[a]) (b:=a) aC;rw[show GD [a]=a by omega];simp
  have d:=c e;have f:GD (a::l)=max a (GD l):=by rfl
  grind
def AqR(t:Aw):Sp:=λvs H Q _=>∃(mp W:Addr)(m:Bi)(Aq:Nat)(ws:aQ)(wd:Nat->Wd),vs=[mF mp,mF W,wD mE]/\mCc H/\m.Ok/\H W=pU ws.map/\(∀(k:Nat)(q:Addr),ws[k]? =dE ->Er t H q (wd k))/\ws.length<=64/\
 ∀(ms:Nat)(H':Hp),aO ->ms<=Aq->ms<=ws.length->(∀r:aB,r.Nodup->(∀k∈r,k<ws.length)->r.length<=Aq->AM (r.map λk=>(wd k).CO.A2.length)<=GF m.feet->r.length<=ms)->oV aG2
abbrev Xp:List Str:=aPF
theorem HR:AD aPF aII (A0 R5):=aG
theorem AqS(T:aE):A4 P w K mg base A9 1 t.LM t.Ab_ aII (AqR t):=by
 refine pF T.LM.F.ok HR
 .obtain⟨mp,W,m,Aq,ws,wd,rfl,_⟩:=h;rfl
 obtain⟨mp,W,m,Aq,ws,wd,rfl,hm,ac,ae,af,ag,k⟩:=h;obtain⟨ah,f,c,ai,⟨a,b,aj,ak⟩,_⟩:=id hm;have al:=ac.KY;refine(_,(Ak (A6 (i:=3) HR.nd rfl cX (Bh (K5 (K:=K) rfl rfl) rfl T.K3 K4 (Ad (Dk rfl HR.nd aAq (qM ("ways",5,) Xp R5) (pR 5 HR.nd) cK (λ_ _ _ _ _=>(Bh (Ak9 (K:=K) rfl rfl) rfl T.Akw Ak2 (Ad (Dk rfl HR.nd (pT bJ) (BZ (own:=[("way",4,)]) (by show BV Xp ({kind:= .function,names:=[(".0",.local,),("ways",.local,),("max",.globalImplicit,)],isGenerator:=false,isCoroutine:=false}:Scope) _ _=true;decide+kernel)) (pR 4 HR.nd) cK (qK (tZ HB bG))) Ai)))) Ai)))
  (Ak (uC HR.nd (Bh (sC Ao7) rfl T.AcM AcQ (Ad (Dk rfl HR.nd (pT aP) (qM ("word",7,) Xp R5) (pR 7 HR.nd) cK (λ_ _ _ _ _=>(mFt (sC C4) (mU (mH8 (tL (pV 7) Ar)))))) Ai)))
  (Ak (mCd HR.nd (mH7 (oP aX (uX pv 1))))
  (Ak (Ka Asq (pL Li (mFr (mU (mDG cA kB))) bB) (Ao (Hw (i:=8) HR.nd rfl cX Ar Y0)))
  (oM kB))))),5)
 refine(199,ah,3,ai,112,2,f,2,(oX b),λam an=>?_);refine EA (J:=pZ f) m.feet.length (mI3 am ((m.feet.take j).map λf=>GD aBI)) (yM an)
  (λj H1 hj d=>(tM d.1 b (by omega:j<a.length))) (λH1 d=>(sA d.1 b)) ?_ ?_
 .rintro j H1 y g hj ⟨s1,n⟩ ⟨rfl,hy⟩;have ao:j<a.length:=aA;have o:=rJ s1 b;rw[ArY,mK ao] at o;obtain rfl:nE a[j]=y:=aAE;have p:=rF (ak j a[j] m.feet[j] (mK ao) cT);obtain⟨ap,aq,ar⟩:=mCP ac.Bz j hj;have as:mAV m.feet.take m.feet[j]:=(vR AsA hj);rw[as];generalize m.feet[j]=ff at*;refine jD;refine(0,a[j],2,(oX p),λL2 u=>?_);refine EA (J:=pZ a[j]) ff.length (λi v=>Ab g v/\v L2=oC (mAn (ff.take i).map)) (yM u)
   (λi v z B=>(tM B.1 p z)) (λv B=>(sA B.1 p)) ?_ ?_
  .rintro i v y C z ⟨s3,D⟩ ⟨rfl,hy⟩;have o:=rJ s3 p;rw[ArY,mK z] at o;obtain rfl:sN ff[i]=y:=aAE;have au:ff[i].length<=1000:=by
    have:=ar ff[i] (Asw z);simp only[Eh,Bool.and_eq_true,decide_eq_true_eq] at this;omega
   refine jD;refine(0,mk ff[i],2,fQ,_,D,mA1 AsS,qS s3 u,5);have av:mIu ff.take ff[i]:=(vR AsA z);rw[Af,av,As7];rw[BT];simp only[iv,List.map_append];rfl
  rintro v ⟨s3,D⟩;rw[AsC,KS] at D;refine(L2,0,mN D,by rw[ArX,ArX];omega,λmx aw ax=>?_);obtain⟨x,hx,rfl⟩:=nY aw;have hxm:x=GD (mAn ff.map):=by have G:=WI hx;have I:=ax _ (AtE (AqQ (λe=>by rw[At2] at e;rw[e] at aq;simp at aq)));omega
  subst hxm;refine(_,rZ n,mA1 AsS,wB s1 s3 an,5);rw[Af];simp
 rintro H1 ⟨s1,n⟩;rw[AsC,KS] at n;refine(mCB am n);rw[WM];have L:=rF ae;refine(0,W,2,(oX L),λay D=>?_);refine EA (J:=pZ W) ws.length (λj g=>tX g/\g ay=oC (aBA.map λk=>(wd k).CO.A2.length)) (yM D)
  (λj g hj M=>(tM M.1 L hj)) (λg M=>(sA M.1 L)) ?_ ?_
 .rintro j g y v hj ⟨s2,u⟩ ⟨rfl,hy⟩;have o:=rJ s2 L;rw[ArY,cT] at o;obtain rfl:nE ws[j]=y:=aAE;obtain⟨az,a0,a2,d,a3,a4,_,⟨a5,a1,a6,a7⟩⟩:=af j ws[j] cT;have N:=lJ;refine jD;refine(0,ws[j],_,az,3,mC N a3,66,2,a0,36,rK N a4,77,d,_,a5,3,mC N a6,27,a1,0,wZ N a7,_,u,mA1 As4,qS s2 D,5);rw[Af,Atl];simp
 rintro g ⟨s2,u⟩;rw[KS] at u;refine(ay,0,mN u,λns S a8 a9 ba=>?_);have s3:Ab g (nD g S hV):=mS ba;have bb:=aF1;refine(16,W,0,wZ bb ae,3,5);rw[ArX];have emin:(if((ws.length:Nat):Int)<(Aq:Int) then((ws.length:Nat):Int) else(Aq:Int))=((min Aq ws.length:Nat):Int):=(by split<;>omega);rw[emin];refine(λO σ C=>∃c:Nat,O=c/\σ=aPG /\c<=Aq/\c<=ws.length/\Ab H C/\C S=nU hV /\∀r:aB,aPH,(8,4,4,bb,Af,λr G I bc _=>?_),5)
 .have:=Oj (l:=r) (m:=pB ws.length) G (λx hx=>Atj.mpr (pI I));rw[As4] at this;omega
 rintro O σ C ⟨bd,rfl,rfl,be,bf,s4,bg,bh⟩;refine(42,S,0,mN bg,λU bi=>?_);rw[AfN];have s5:Ab C (Aa C U (mCH O)):=mS bi;have bj:xJ C U (mCH O):=Af;generalize Aa C U (mCH O)=bk at s5 bj;have bl:=nB s4 s5;refine(U,0,mN bj,0,58);by_cases Y:((GF m.feet:Nat):Int)<(ns.take O).sum
 .rw[mW Y];have ai:1<=O:=by
   rcases Nat.eq_zero_or_pos O with e|e
   .rw[e,AwK] at Y;have:([]:bH).sum=0:=rfl;omega
   exact e
  have bm:mDJ ((O:Nat):Int) O:=aA;refine Au (λbn H'=>∃bo,bo<O/\∃c:Nat,bo=c/\bn=aPG /\c<=Aq/\c<=ws.length/\ aO /\H' S=nU hV /\∀r:aB,aPH,λbn H' q=>q,5);refine(0,8,O - 1,4,O - 1,2,by rw[<-bm];rfl,4,4,bl,mC s5 bg,λr G I bc h4=>?_);have bp:=bh r G I bc h4;rcases Atq r.length O with h6|h6
  .omega
  exfalso;have bq:=Aoh (f:=λk=>(wd k).CO.A2.length) G I (a8.trans aPE) a9;rw[show r.length=O by omega] at bq;omega
 rw[mT Y];exact Az (0,k O bk bl be bf bh)
def Ot(sh:BU):Ky:= .Al [.num (sh.Bk:Int),.Al (mJa sh.A2.map)]
def Fv(wd:Wd)(c:Nat):Ky:= .Al [.num (wd.vf:Int),Ot wd.DF,Ot wd.CO,.num (c:Int)]
theorem AfP(h:Ot a=Ot b):a=b:=by
 obtain⟨l,ws⟩:=a;obtain⟨c,d⟩:=b;injection h with h
 injection h with e f
 injection f with f _
 injection e with e
 injection f with f
 have g:=AtA e;have i:=(Au3 (λa b h=>by injection h with h;exact AtA h)).mp f;subst g i;rfl
theorem AfQ(h:Fv a c=Fv b d):a=b/\c=d:=by
 obtain⟨v,s0,s1⟩:=a;obtain⟨v',e,f⟩:=b;injection h with h
 injection h with g i
 injection i with i j
 injection j with j h4
 injection h4 with h4 _
 injection g with g
 injection h4 with h4
 have k:=AfP i;have e3:=AfP j;grind
theorem AfR:∀ws:aB,Ld H (mJa ws.map) (iv ws)
 |[]=>rfl
 |x::ws=>(3,bA,AfR ws)
theorem AfS:∀ws:aB,Ky.C2 (mJa ws.map)=0
 |[]=>rfl
 |x::ws=>by simp only[List.map_cons,Ky.C2,Ky.depth,AfS ws];rfl
def JL(H:Hp)(a:Addr)(sh:BU):Prop:=∃b,H a=oO [mE (sh.Bk:Int),bU]/\H b=oO aCm
theorem JL.same(h:JL H a sh)(s:aO):JL H' a sh:=let(b,g,i):=h;(b,nM g,nM i)
theorem AfT(h:JL H a sh):JV H (Ot sh) aJ:=by obtain⟨b,c,d⟩:=h;exact(a,0,c,3,bA,3,(b,0,d,AfR _),2)
theorem AqT(h:H R=oO [aDI,aJ,bU,aAt])(h0:JL H a wd.DF)(d:JL H b wd.CO):Dv H (Fv wd c) R:=by refine(oS (R,133,AfT h0,3,AfT d,3,bA,2));simp only[Fv,Ot,Ky.depth,Ky.C2,AfS];decide
def Hl(H:Hp)(R:Addr)(wd:Wd)(c:Nat):Prop:=∃a b,H R=oO [aDI,aJ,bU,aAt]/\JL H a wd.DF/\JL H b wd.CO
theorem Hl.same(h:Hl H R wd c)(s:aO):Hl H' R wd c:=let(a,b,g,i,j):=h;(a,b,155)
theorem Hl.ky(h:Hl H R wd c):Dv H (Fv wd c) R:=let(_,_,g,i,j):=h;AqT g i j
def AqU(t:Aw):Sp:=λvs H Q _=>∃(p:Addr)(wd:Wd)(c:Nat),vs=[aS,aAt]/\Er t H p wd/\∀R H',aO ->H R=none->Hl H' R wd c->oQ R
abbrev AqV:List Str:=aPI
theorem Xq:AD aPI aIJ (A0 Vg):=aG
theorem AqW(T:aE):A4 P w K mg base A9 1 t.LN t.Aca aIJ (AqU t):=by
 refine pF T.LN.F.ok Xq
 .obtain⟨p,wd,c,rfl,_⟩:=h;rfl
 obtain⟨p,wd,c,rfl,⟨a,d,f,g,n,o,ac,ae⟩,k⟩:=h;refine(_,(Ak (HD (i:=2) rfl Xq.nd rfl rfl iY (mB6 V8 aY) (qM ("shape",3,) AqV Vg) (pR 3 Xq.nd) cK (λ_ _ _ _ _=>(CV (Ad dI (mU (QW (sC AcU) rfl T.AcO AcP (mU dI)))))))
  (Ao (A3 (CV (Ad aY (Ad gL (oP gL aP))))))),5)
 refine(7,a,3,n,66,2,d,2,(_,nQ o),λL q=>?_);refine EA (J:=GU K d) 2 (λi u=>∃l:aQ,Ab H u/\u L=pU l.map/\l.length=i/\∀(m:Nat)(r:Addr),l[m]? =mB r->JL u r (wd.sh m)/\∃xs,u r=fJ)
  ([],mS q,90,9) (λi u v (_,z,_)=>(19,rK z o,mF6 f g v)) (λu (_,z,_)=>(_,rK z o,aD)) ?_ ?_
 .rintro i u y B v ⟨l,z,C,D,G⟩ ⟨rfl,hy⟩;have af:=hy _ (rK z o);obtain⟨pi,rfl,ag⟩:∃pi,y= mF pi/\DE t H pi (wd.sh i):=by
   rcases(by omega:xH i) with rfl|rfl
   .exact(mF7 f af ac)
   exact(mF7 g af ae)
  obtain⟨ah,ai,aj,ak⟩:=ag.same z;refine jD;refine(0,pi,_,ah,3,aj,65,31,pi,_,ah,3,aj,27,ai,0,mG (mN ak,fK));refine(gF,λe he=>?_);have I:Ab B aG4:=pC (mS hb) he;have ce:(aG4) e=some (.Al [mE ((wd.sh i).Bk:Int),bU]):=Af;have al:(aG4) b=some (.Al (iv (wd.sh i).A2)):=mAa he Af;have am:=mC I C;have M:∀{c:Addr}{xs:aL},(aG4) c=fJ ->c≠L:=λN an=>(by rw[an,am] at N;cases N);refine(_,am,fR,l++[e],wB z I q,23,by simp[D],λm r hm=>?_);by_cases ao:m<l.length
  .rw[Ask ao] at hm;obtain⟨⟨ap,aq,ar⟩,xs,as⟩:=G m r hm;refine((ap,by rw[Ah (M (mC I aq))];exact mC I aq,by rw[Ah (M (mC I ar))];exact mC I ar),xs,by rw[Ah (M (mC I as))];exact mC I as)
  have au:=(nL hm).1;rw[Asi,AsD] at au;obtain rfl:m=i:=aA;rw[eN,D,At9] at hm;obtain rfl:e=r:=(mR hm);exact((b,130,by rw[Ah (M al)];exact al),_,130)
 rintro u ⟨l,z,C,D,G⟩;obtain⟨O,U,rfl⟩:∃x y,l=[x,y]:=by
  match l,D with
  |[x,y],_=>exact aFU
 obtain⟨h0,_⟩:=G 0 O rfl;obtain⟨N,_⟩:=G 1 U rfl;refine(7,a,3,mC z n,81,31,160,cP,0,160,77,0,(mAI 4),λR av=>?_);have Y:Ab u (Aa u R (.Al [aDI,mF O,mF U,aAt])):=mS av;exact k R _ (nB z Y) (BL z av) (O,U,Af,h0.same Y,N.same Y)
def AqX(t:Aw):Sp:=λvs H Q _=>∃(p dx wp a b:Addr)(vf c:Nat),vs=[aS,mF wp,aAt]/\H p=rX t.CM/\p≠wp/\H wp=mB (.Ag t.IC a (Adj vf b))/\
 Q .Ax (mY H (nC t.CM [("vowel_first",mE (vf:Int),),("shapes",bU,),("cost",aAt,),("words",bZ,)]))
theorem AqY:AD aFH aFH (A0 Aa8):=aG
theorem AqZ(T:aE):A4 P w K mg base A9 1 t.Nm t.AbY aFH (AqX t):=by
 refine qT T.Nm.F.ok AqY
 .obtain⟨p,dx,wp,d,e,vf,c,rfl,_⟩:=h;rfl
 obtain⟨p,dx,wp,d,e,vf,c,rfl,hp,f,hw,k⟩:=h;refine(_,(Ak (nW cC)
  (Ak (nW cC)
  (Ak lG
  aDN))),5)
 refine(0,wp,_,d,3,hw,81,2,72,hp,47,T.Ph,aZ,0,wp,_,d,3,by rw[nX f];exact hw,66,2,72,Af,47,T.Pk,198);rw[B1];refine(mAW T.En.c T.RL 2);rw[B1];refine(vA T.En.c T.RM 3);rw[B1];exact k
structure Qh where
 dx:Addr
 vf:Nat
 sh:Addr
 Bl:Nat
abbrev GI(r:Qh)(M:Nat):List gC:=[("vowel_first",mE (r.vf:Int),),("shapes",mF r.sh,),("cost",mE (r.Bl:Int),),("words",aGv,)]
def CT(a:aQ)(i:Nat):Addr:=a.getD i 0
theorem Aq_(h:a[i]? =dE):CT a i=q:=by unfold CT;rw[Asv,h];rfl
def Eg(oq a:aQ)(i:Nat):Nat:=oq.count (CT a i)
theorem AfU(f g:bE):∀n,qA (λi=>f i+g i)=qA f+qA g
 |0=>rfl
 |n+1=>by show qA _+(f n+g n)=_;rw[AfU f g n];show _=(qA f+f n)+(qA g+g n);omega
theorem Xr:∀{n:Nat},(∀i,i<n->f i=g i)->qA f=qA g
 |0,_=>rfl
 |n+1,h=>by show qA f+f n=qA g+g n;rw[Xr (λi a=>h i aA),h n aA]
theorem AfV(hd:b.Nodup)(a:Addr):∀n,n<=b.length-> aPJ <=1/\((∀i,i<n->a≠CT b i)-> aPJ=0)
 |0,_=>(by show 0<=1;omega,lC)
 |n+1,c=>by
  obtain⟨d,f⟩:=AfV hd a n aA;constructor
  .show qA _+(mJb a b n)<=1;by_cases e:a=CT b n
   .rw[bV,f (λi g z=>by
     have g1:pO b[i]? (CT b i):=(mEg aA);have g2:pO b[n]? (CT b n):=(mEg aA);rw[<-z] at g1;rw[<-e] at g2;have:=nodup_getElem? hd g1 g2;omega)]
    omega
   rw[bP];omega
  intro h;show qA _+(mJb a b n)=0;grind
theorem Xs(hd:b.Nodup):∀(oq:aQ)(n:Nat),n<=b.length->vE b n<=oq.length
 |[],n,c=>by
  have:qA (Eg [] b)=Bv aCv n:=Xr λi _=>(by unfold Eg;simp);rw[this];have z:∀n,qA aCv=0:=λn=>by induction n with
   |zero=>rfl
   |succ n d=>show qA _+0=0;rw[d]
  rw[z];simp
 |a::oq,n,c=>by
  have e:qA (Eg (a::oq) b)=Bv (λi=>Eg oq b i+(mJb a b i)) n:=Xr λi _=>by unfold Eg;grind
  rw[e,AfU];have:=Xs hd oq n c;have:=(AfV hd a n c).1;rw[As1];omega
def Ou(M a b:Nat):Prop:=∀x,M.testBit x=true↔a<=x/\x<b
theorem Ara(h:Ou M a b)(c:a<=b):Ou (M|||1<<<b) a (b+1):=λx=>by rw[Ate,Atx,h x,Eb];omega
theorem Arb(a:Nat):Ou 0 a a:=λx=>by simp
def Arc(K:PySem.W.Frag)(t:Aw):Sp:=λvs H Q _=>∃(p a SA OA:Addr)(b:oU V)(d oq:aQ)(R:Nat->Qh),vs=[aS]/\H p=mB (.Ag t.Cp a b)/\b.lookup ("sorts":Str)=mH SA/\b.lookup ("sort_of":Str)=mH OA/\H SA=pU d.map/\H OA=pU oq.map/\d.Nodup/\oq.length<=64/\d.length<=64/\(∀q∈oq,q∈d)/\p∉d/\Od K t.CM/\
 (∀(i:Nat)(q:Addr),d[i]? =dE ->H q=mEh 0)/\
 ∀H',uH (λc=>c∈d)->(∀(i:Nat)(q:Addr),d[i]? =dE ->∃M,H' q=mEh M/\Ou M (vE d i) (vE d (i+1)))-> cW
theorem Qi:AD ["self","upcoming","sort","number"] cL (A0 Aa9):=aG
theorem Ard(T:aE):A4 P w K mg base A9 1 t.No t.Acc cL (Arc K t):=by
 refine pF T.No.F.ok Qi
 .obtain⟨p,b,SA,OA,d,f,oq,R,rfl,_⟩:=h;rfl
 obtain⟨p,b,SA,OA,d,f,oq,R,rfl,hp,ac,ae,g,l,m,af,ag,ah,ai,aj,hq,k⟩:=h;refine(_,(Ak (tY Qi.nd Ar)
  (Ao (BS Asq rfl aAq (oJ 2 Qi.nd) (Ao (BS Asq rfl (OH rfl T.L_ (mU (Dz (K:=K) rfl As3 F.slot_list_count F.type_list_count (mB6 Ao9 (F5 ab)) aY jX))) (oJ 3 Qi.nd) (Ak (GW aX aP FX)
  (Ao (Hw (i:=1) Qi.nd rfl cX Ar AoJ)))))))),5)
 have ak:SA∉f:=λh=>by obtain⟨i,o,e⟩:=Asy h;have:=hq i _ (mK o);rw[e,g] at this;cases this
 have r:OA∉f:=λh=>by obtain⟨i,o,e⟩:=Asy h;have:=hq i _ (mK o);rw[e,l] at this;cases this
 refine(7,b,d,0,hp,52,T.RN,ac,SA,2,(oX g),5);refine E4 (K:=K) (a:=SA) (xs:=nH f.map) (λj σ v=>∃(up:Nat)(v2 B:bQ),up=1<<<vE f j/\σ=[bM,mX (up:Int),v2,B]/\Fr (λc=>c∈f) H v/\(∀(i:Nat)(q:Addr),i<j->f[i]? =dE ->∃M,v q=mEh M/\Ou M (vE f i) (vE f (i+1)))/\∀(i:Nat)(q:Addr),j<=i->f[i]? =dE ->v q=H q)
  ((1),14,26,Fr.refl,λi q h=>by omega,aHr) (λj σ v _ (_,_,_,_,_,fr,_)=>vD g ak) ?_ ?_
 .rintro j y σ v hj ⟨up,v2,B,C,rfl,fr,D,G⟩;rw[ArY] at hj;obtain⟨q,I,rfl⟩:mF5 f[j]?:=by
   cases e:f[j]? with
   |none=>rw[e] at hj;cases hj
   |some x=>rw[e] at hj;exact lL
  have al:=(nL I).1;have am:vE f (j+1)=vE f j+oq.count q:=(by show _+Eg oq f j=_;unfold Eg;rw[Aq_ I]);have an:=Xs m oq (j+1) al;have ao:=(G j q aD I).trans (hq j q I);have ap:∀J∈oq,∃dx fs,v J=some (nC t.CM fs):=λJ aq=>by
   obtain⟨i,o,e⟩:=Asy (ah J aq);have L:pO f[i]? J:=(mBk o e);rcases Atq i j with h|h
   .obtain⟨M,ar,_⟩:=D i J h L;exact(19,ar)
   exact(19,(G i J h L).trans (hq i J L))
  refine(7,b,d,0,mP fr hp ai,52,T.RO,ae,pY (mP fr l r),0,OA,q,t.CM,oq,26,vD l r,aj,(19,ao),ap,0,4,4,5);rw[show((oq.count q:Nat):Int).toNat=oq.count q by omega];refine QI (lo:=0) (n:=oq.count q) (λn σ N=>∃(up M:Nat)(B:bQ),up=1<<<(vE f j+n)/\σ=[bM,mX (up:Int),mH q,B]/\(∀c,c≠q->N c=v c)/\N q=mB (mGv j M)/\Ou M (vE f j) (vE f j+n))
   (up,64,B,C,2,fD,ao,Arb _) ?_ ?_
  .rintro n σ N as ⟨up',M,au,O,rfl,hk,U,Y⟩;refine(0,q,19,3,U,47,T.RM,31,13,19,U,(qG 4),5);have av:up'<2 ^ 64:=(by rw[O,AsE];exact AuL aA aA);refine(0,up',(1),26,(mDM av),up'<<<1,M|||up',_,by rw[O,<-Awb];rfl,2,λc hc=>by rw[gO];exact hk c hc,Af,by rw[O];exact Ara Y aA)
  rintro σ N ⟨up',M,au,O,rfl,hk,U,Y⟩;rw[<-am] at O Y;have aw:∀i J,i≠j->f[i]? =mB J->J≠q:=λi J ax he e=>by rw[e] at he;exact ax (nodup_getElem? m he I)
  refine(up',19,O,2,λc u e ay=>by rw[hk c (λz=>ay (z▸Asl I))];exact tO fr ay,λi J o he=>?_,λi J o he=>?_)
  .by_cases e:i=j
   .subst e;rw[I] at he;obtain rfl:=Ase he;exact(mQ M U Y)
   rw[hk J (aw i J e he)];exact D i J aA he
  rw[hk J (aw i J aA he)];exact G i J aA he
 rintro σ v ⟨up,v2,B,C,rfl,fr,D,G⟩;exact k v fr λi q he=>D i q (zD ArX (nL he).1) he
abbrev WC:=Wd×Nat
def Fd(a:jI)(b:aQ):List (Ky×V):=(a.zip b).map λx=>(Fv x.1.1 x.1.2,nE x.2,)
theorem AfW:∀{b:jI}{c:aQ},a∉b->mJc b c=none:=by
 intro b c h
 cases e:mJc b c with
 |none=>rfl
 |some v=>
  obtain⟨x,hx,d⟩:=nY (Mq e);injection d with d _
  obtain⟨f,g⟩:=AfQ d;have:=(Avz hx).1;grind
theorem Xt:∀{c:jI}{d:aQ}{i:Nat},c.Nodup->c[i]? =mB a->d[i]? =dE ->mJc c d=mH q
 |[],_,i,_,h,_=>by simp at h
 |b::c,[],i,_,_,h=>by simp at h
 |b::c,f::d,0,_,g,j=>by
  obtain rfl:b=a:=(mR g);obtain rfl:f=q:=(mR j);exact FO (κ:=Ky) rfl
 |b::c,f::d,i+1,hd,g,j=>by
  rw[AtY] at hd;rw[AtM] at g j;have k:¬Fv b.1 b.2=Fv a.1 a.2:=λe=>by obtain⟨l,m⟩:=AfQ e;grind
  show Bc ((Fv b.1 b.2,nE f,)::Fd c d) _=_;rw[FP k];exact Xt hd.2 g j
theorem Are(b:jI)(c:aQ)(a:WC)(q:Addr)(h:c.length=b.length):Fd (b++[a]) (c++[q])=Fd b c++[(Fv a.1 a.2,nE q,)]:=by unfold Fd;rw[List.zip_append h.symm,As7];rfl
theorem AfX:∀(b:jI)(c:aQ),c.length=b.length->(Fd b c).map (·.2)=nH c.map
 |[],[],_=>rfl
 |[],q::c,h=>by simp at h
 |a::b,[],h=>by simp at h
 |a::b,q::c,h=>by
  show nE q::(Fd b c).map (·.2)=_;rw[AfX b c fB];rfl
structure EE(t:Aw)(H:Hp)(kA:Addr)(st:bW)(A7:bE)(j:Nat)(ks:jI)(qs:aQ)(R:Nat->Qh):Prop where
 kn:H kA=some (.dT (Fd ks qs))
 len:qs.length=ks.length
 Ov:ks.Nodup
 Mt:qs.Nodup
 le:ks.length<=j
 GJ:∀(i:Nat)(q:Addr),qs[i]? =dE ->H q=some (mGv i 0)
 Ow:∀(i:Nat)(a:WC),ks[i]? =mB a-> jJ.vf=a.1.vf/\ jJ.Bl=a.2/\∃p0 p1,H jJ.sh=xG p0 p1/\wV p0 a.1.DF/\DE t H p1 a.1.CO
 ER:∀k,k<j->(eK,A7 k,)∈ks
 Qj:∀a∈ks,∃k,k<st.length/\a=(eK,A7 k,)
theorem EE.same(h:mGw u v)(s:aO):EE t H' g st A7 j u v R:=
 (nM h.kn,h.len,h.Ov,h.Mt,h.le,λi q e=>nM (h.GJ i q e),λi a e=>let(a1,a2,y,z,B,C,I):=h.Ow i a e;(a1,a2,y,z,nM B,C.same s,I.same s),h.ER,h.Qj)
theorem EE.keep(h:mGw s v)(hk:mIG H g)(aa:H' g=sM ab):
 (∀(i:Nat)(q:Addr),v[i]? =dE ->H' q=mEh 0)/\∀(i:Nat)(a:WC),s[i]? =mB a-> jJ.vf=a.1.vf/\ jJ.Bl=a.2/\∃y B,H' jJ.sh=xG y B/\DE t H' y a.1.DF/\DE t H' B a.1.CO:=by
 have C:∀c u,H c=aM ->u≠ .dT (Fd s v)-> dO=some u:=λc u e hu=>mMu hk h.kn;refine(λi q e=>mP C (h.GJ i q e) gG,191);obtain⟨a1,a2,y,B,I,⟨J,L,M,O⟩,⟨Q,U,Y,ac⟩⟩:=h.Ow i a e;exact(a1,a2,y,B,mP C I gG,(J,L,mP C M gG,mP C O gG),(Q,U,mP C Y gG,mP C ac gG))
theorem EE.new(h:mGw s v)(hj:mAX j)(B:(fV,A7 j,)∉s)(hq:mV H q)(hk:mIG H g)
 (C:H' g=some (.dT (Fd s v++[(Fv fV (A7 j),mF q,)]))) (I:H' q=some (nC t.CM (GI aPK 0))) (aa:H' sh=xG J L) (h0:DE t H' J fV.DF) (ab:DE t H' L fV.CO):
 ∃M,EE t H' g st A7 (j+1) (s++[(fV,A7 j,)]) (v++[q]) M:=by
 obtain⟨O,ac⟩:=h.keep hk C;have Q:q∉v:=λz=>by obtain⟨i,U,e⟩:=Asy z;have:=h.GJ i _ (mK U);rw[e,hq] at this;cases this
 refine(λi=>if i=s.length then aPK else jJ,by rw[C,rT Are h.len],by simp[h.len],53,by have:=h.le;simp;omega,λi Y e=>?_,191,λk ae=>?_,216)
 .rw[AsT];exact(mMv h.Ov B)
 .rw[AsT];exact(mMv h.Mt Q)
 .by_cases U:i<v.length
  .rw[Ask U] at e;rw[mM (zY h.len)];exact O i Y e
  have af:=(nL e).1;rw[Asi,AsD] at af;obtain rfl:i=v.length:=aA;rw[lB,At9] at e;obtain rfl:q=Y:=hL;rw[mJ h.len];exact I
 .grind
 .rcases(by omega:k<j\/k=j) with e|rfl
  .exact AsI _ (h.ER k e)
  exact sJ aC
 rcases pD ha with ha|ha
 .exact h.Qj a ha
 grind
theorem EE.BM(h:mGw i q)(s:(fV,A7 j,)∈i):EE t H g st A7 (j+1) i q R:=
 (h.kn,h.len,h.Ov,h.Mt,by have:=h.le;omega,h.GJ,h.Ow,λk hk=>(by omega:k<j\/k=j).elim (h.ER k) (λe=>e▸s),h.Qj)
theorem AfY{g:Nat->Addr}(hg:∀i k,i<n->k<n->g i=g k->i=k)(a:i<n):∀l:aB,(∀k∈l,k<n)->(sT g).count (g i)=l.count i
 |[],_=>rfl
 |k::l,h=>by
  rw[Asn,Aw0,Aw0,AfY hg a l (λx hx=>gI)];grind
noncomputable def Ew(c:jI)(st:bW)(A7:bE)(k:Nat):Nat:=@List.idxOf WC (@instBEqOfDecidableEq _ aKv) (eK,A7 k,) c
theorem Mu(h:(eK,A7 k,)∈c):mCI c<c.length/\c[mCI c]? =some (eK,A7 k,):=by
 letI:BEq WC:=@instBEqOfDecidableEq _ aKv
 haveI:LawfulBEq WC:=@instLawfulBEq _ aKv
 have d:mCI c<c.length:=List.idxOf_lt_length_of_mem h;refine(oS d);rw[mK d];congr 1;exact List.getElem_idxOf d
noncomputable def IX(a:jI)(st:bW)(A7:bE):List Cr:=(pB a.length).map λi=>((a.getD i (WD,0,)).1,(a.getD i (WD,0,)).2,(mJd a).count i)
theorem Ox(a:jI)(st:bW)(A7:bE):uJ mAl a a.length:=by unfold IX;simp
theorem Oy(h:b[i]? =mB a):AH (mAl b) i=(a.1,a.2,(mJd b).count i):=by have c:=(nL h).1;unfold AH IX;grind
theorem EE.Arf(h:EE t H g st A7 st.length j q R):Oa st A7 (mAl j) (Ew j st A7):=by
 refine(aG5,aG5,aG5,λi=>?_)
 .rw[Ox];exact(aKw).1
 .rw[Oy (aKw).2]
 .rw[Oy (aKw).2]
 by_cases s:i<j.length
 .rw[Oy (mK s)]
 rw[Afp (qQ Ox)];symm;rw[List.count_eq_zero];intro hm;obtain⟨k,hk,e⟩:=nY hm;have:=(Mu (h.ER k (Atj.mp hk))).1;omega
theorem EE.AfZ{H:Hp}{j:Addr}{st:bW}{A7:bE}{q:jI}{s:aQ}{R:Nat->Qh}(h:EE t H j st A7 st.length q s R){oq:aQ}(u:oq=aAv.map λk=>CT s (mCI q)):
 ∀i,i<=q.length->vE s i=Bu (mAl q) i
 |0,_=>rfl
 |i+1,v=>by
  show vE s i+Eg oq s i=Bu (mAl q) i+(AH (mAl q) i).n;rw[h.AfZ u i aA,Oy (mIC i q.length)];congr 1;rw[u,show(aAv.map λk=>CT s (mCI q))=(mJd q).map (CT s) by rw[AsB];rfl];refine AfY (n:=q.length) (λa b ha hb e=>?_) aA _ aG5
  .have g:∀a,a<q.length->s[a]? =some (CT s a):=λa ha=>(mEg (oL h.len ha));exact nodup_getElem? h.Mt (g a ha) (wM e nN g)
  obtain⟨x,hx,rfl⟩:=nY hk;exact(Mu (h.ER x aGO)).1
abbrev Mv(ms:Nat)(SA OA:Addr):List gC:=[("most",aG2,),("room",mE 256,),("sorts",mF SA,),("sort_of",mF OA,)]
structure Qk(t:Aw)(H:Hp)(p dx:Addr)(m:Bi)(st:bW)(Aq ms:Nat)(A7:bE)(S:iD)(so:bE)(SA OA:Addr):Prop where
 at_:H p=some aEp
 Xu:JF t H SA S
 of:∃oq:aQ,H OA=pU oq.map/\oq.length=st.length/\∀(k:Nat)(q:Addr),oq[k]? =dE ->HN t H q S (so k)
 AH:Oa st A7 S so
 Bl:Qg st ms A7
 Ql:ms<=Aq
 ms2:ms<=st.length
 ms3:∀r:aB,r.Nodup-> lK ->r.length<=Aq->AM (r.map λk=>eK.CO.A2.length)<=GF m.feet->r.length<=ms
 sl:S.length<=64
 Ol:aJ6 <=64
 BQ:∀i,i<S.length->∃k,k<st.length/\(Vp.AH S i).wd=eK
def Ari(K:PySem.W.Frag)(t:Aw):Sp:=λvs H Q _=>∃(p dx mp L:Addr)(m:Bi)(st:bW)(Aq:Nat),vs=[aS,mF mp,mF L,wD mE]/\H p=rX t.Cp/\mCc H/\m.Ok/\H L=zX st/\ hG /\st.length<=64/\Od K t.CM/\
 ∀(ms:Nat)(A7:bE)(S:iD)(so:bE)(SA OA:Addr)(H':Hp),uH eS->mMw H'-> cW
theorem Er.fr(h:Er t H q wd)(fr:uH B)(g:aPt):Er t H' q wd:=by
 have ne:∀c u,H c=aM ->u≠ nC C []-> dO=some u:=λc u e hu=>fr c u e λhb=>by
  rcases g c hb with z|z
  .rw[z] at e;cases e
  rw[z] at e;exact hu jQ.symm
 obtain⟨i,j,s,v,y,I,⟨J,a0,L,h4⟩,⟨M,a1,O,h6⟩⟩:=h;exact(i,j,s,v,mMp ne y,mCy ne I,(J,a0,ne _ _ L (λe=>by injection e with _ _ e;cases e),mCy ne h4),(M,a1,ne _ _ O (λe=>by injection e with _ _ e;cases e),mCy ne h6))
theorem Er.frD(h:Er t H q wd)(fr:uH B)(g:∀c,B c->∃i,H c=sM i):Er t H' q wd:=by
 have ne:∀c u,H c=aM ->(∀i,u≠ .dT i)-> dO=some u:=λc u e hu=>fr c u e λhb=>by obtain⟨i,z⟩:=g c hb;rw[z] at e;exact hu i jQ.symm
 obtain⟨j,s,v,y,C,I,⟨J,a0,L,h4⟩,⟨M,a1,O,h6⟩⟩:=h;exact(j,s,v,y,mCJ C,mCJ I,(J,a0,mCJ L,mCJ h4),(M,a1,mCJ O,mCJ h6))
theorem Hl.keep(h:Hl H R wd c)(hk:aBO):Hl H' R wd c:=by obtain⟨a,b,g,⟨i,j,q⟩,⟨s,h4,u⟩⟩:=h;exact(a,b,mC hk g,(i,mC hk j,mC hk q),(s,mC hk h4,mC hk u))
abbrev Xv:List Str:=aPL
theorem HS:AD aPL aCc (A0 O_):=aG
theorem Ark(T:aE):A4 P w K mg base A9 6 t.Nn t.Acb aCc (Ari K t):=by
 refine T.Nn.F.ok HS cO aJj
 .obtain⟨p,dx,mp,L,m,st,Aq,rfl,_⟩:=h;rfl
 obtain⟨p,dx,mp,L,m,st,Aq,rfl,hp,hm,ab,ac,ae,af,ag,k⟩:=h;have hu:=F5 d;obtain⟨ah,ai,aj⟩:=T.V0;refine(_,(Ak (HD (i:=4) rfl HS.nd rfl rfl iY (pT aX) (qM ("text",5,) Xv O_) (pR 5 HS.nd) cK (λ_ _ _ _ _=>(Dc T.Fm.k (Adm T) eH rfl T.Fm.m T.LC.b .nil Ay (mU bJ))))
  (Ak (nW (Bb (AqS T) eH rfl T.LM.m T.LM.F.kp T.LM.b .nil Ay (Ad aP (pM 4 3))))
  (Ak (nW (vX (nP ai aj)))
  (Ak (HD (i:=6) rfl HS.nd rfl rfl iY (mB3 (Ad bG (mU (Bb (AqP T) eH rfl T.LL.m T.LL.F.kp T.LL.b .nil Ay (oP aX aY))))) (BZ (own:=[("word",7,),("cost",8,)]) (yF Xv O_)) (qK (uA 7 HS.nd 8)) cK (λ_ _ _ _ _=>(Bb (AqW T) eH rfl T.LN.m T.LN.F.kp T.LN.b .nil Ay (pM 7 8))))
  (Ak (mGg HS.nd OU)
  (Ak (rV (mB3 (pM 4 6)) (uA 7 HS.nd 10) (Ao (Cu (WT hu aAB aBD (Dc T.En.k (AqZ T) eH rfl T.En.m T.Nm.b .nil Ay (uW eZ (tL aBD eY))) aCf))))
  (Ak (nW (AoF rfl rfl T.Aky aAB))
  (Ak (nW (Dk rfl HS.nd (pT cA) (qM ("key",10,) Xv O_) (pR 10 HS.nd) cK (qK (Lr hu aAB aBD fD))))
  (Ao (Cu (GY aK T.EN.c T.No.h (Ard T) eH T.No.b .nil Ay))))))))))),5)
 refine(0,L,2,(oX ac),λW ak=>?_);refine EA (J:=pZ L) st.length (λj H1=>∃ws:aQ,fP /\H1 W=pU ws.map/\ws.length=j/\∀(i:Nat)(q:Addr),ws[i]? =dE ->Er t (HH W H1) q (yS i))
  ([],mS ak,90,9) (λj H1 hj (_,s1,_)=>(tM s1 ac hj)) (λH1 (_,s1,_)=>(sA s1 ac)) ?_ ?_
 .rintro j H1 y l hj ⟨ws,s1,al,am,an⟩ ⟨rfl,hy⟩;have o:=rJ s1 ac;rw[ArY,cT] at o;obtain rfl:sN st[j]=y:=aAE;have ao:=Asw hj;refine jD;refine(0,λx ap hx aq ar=>(x,ap,mk st[j],215,by rw[Fo];exact ae.S8 _ ao,by rw[BT];have:=ae.le _ ao;omega,λas au av=>fT));have aw:Ab l as:=λc u e=>au c u (by rw[oF hx,oF aq];exact e) (AR e hx);have ax:x≠W:=λe=>(mJe e al);refine(_,mC aw al,fR,ws++[x],wB s1 aw ak,23,by simp[am],λi q hq=>?_);have sh:Ab (HH W as) (HH W (nD as W (nH ws.map++[cU]))):=λb u e=>by
   by_cases hb:b=W
   .rw[hb] at e;unfold HH at e;rw[bF] at e;cases e
   rw[VF hb] at e⊢;rw[gX];exact e
  by_cases v:i<ws.length
  .rw[Ask v] at hq;have ay:Ab (HH W l) (HH W as):=λb u e=>by
    by_cases hb:b=W
    .rw[hb] at e;unfold HH at e;rw[bF] at e;cases e
    rw[VF hb] at e⊢;exact mC aw e
   exact((an i q hq).same ay).same sh
  have az:=(nL hq).1;rw[Asi,AsD] at az;obtain rfl:i=j:=aA;rw[eN,am,At9] at hq;obtain rfl:x=q:=(mR hq);rw[Fo] at av;have a0:yS i=Hb st[i]:=(by unfold Wk DG;rw[Asv,cT];rfl);rw[a0];refine(av.same (Aly (D:=W) ?_ ax)).same sh;rw[nX ax,Ah (λe=>by rw[<-e,al] at aq;cases aq),al];simp
 rintro H1 ⟨ws,s1,al,am,an⟩;have a3:mJf H1:=λi q e=>(an i q e).same Alx;refine(42,mp,W,m,Aq,ws,Wk st,2,hm.same s1,ab,al,a3,4,λms l s2 a4 a5 a6=>?_);rw[am] at a5 a6;have a7:=lJ;have a8:=mC a7 hp;refine(72,a8,192,aZ,8,72,Af,52,T.AcB,198);rw[B1];show yR l (mGx Int);have a9:Fr eS l (mY l (mGx Int)):=aKj;have ba:mEf l (mGx Int):=Af;generalize Aa l p (mGx Int)=bb at a9 ba;have bc:mJf bb:=λi q e=>((a3 i q e).same s2).fr a9 (λc e=> mMo a8);have bd:=mP a9 (mC a7 ac) (λe=>by rw[e,hp] at ac;cases ac);have be:=a9 _ _ (pS al) (λe=>by rw[e,hp] at ak;cases ak);refine(16,17,ba,192,2,L,st,ms,2,bd,af,ae.le,4,λA7 C bf s5 bg bh bi=>?_);have bj:=mC s5 be;refine(W,C,3,mN bj,mN bh,λbk bl=>?_);have bm:uJ aAv.map A7 st.length:=(pJ ArX As4);have bn:mJf bf:=λi q e=>(bc i q e).same s5;refine EA (J:=Lw K W C) st.length (λj B=>∃rs:aQ,Ab bf B/\B bk=pU rs.map/\rs.length=j/\∀(i:Nat)(r:Addr),rs[i]? =mB r->Hl B r (yS i) (A7 i))
  ([],mS bl,90,9) (λj B hj (_,G,_)=>(49,nA G bj,nA G bh,mCG am,mCG bm)) (λB (_,G,_)=>(19,nA G bj,nA G bh,mG (mCp am aD))) ?_ ?_
 .rintro j B y bo hj ⟨rs,G,bp,bq,br⟩ ⟨I,x,bs,rfl,bt,rfl,hx,hy⟩;have bu:j<ws.length:=aA;have hx':=hx _ (nA G bj);rw[ArY,mK bu] at hx';obtain rfl:nE ws[j]=x:=(mR hx');have o:=rJ G bh;rw[ArY,ArY,AsY hj] at o;obtain rfl:sR mO A7 j=bs:=aAE;have bv:Ab B (Aa B I aKx):=mS bt;have bw:mCC B I aKx:=Af;generalize Aa B I aKx=bo at bv bw;have bx:=nB G bv;refine(mDA I bw GG);refine(16,ws[j],fV,A7 j,2,(bn j _ (mK bu)).same bx,λR bz b0 b1 b2=>?_);have b3:=nV b0 bv bp;have kp:∀b xs,bz b=fJ ->(nD bz bk (nH rs.map++[mF R])) b=some iP:=λb xs e=>(mFX mIP b3);refine(_,b3,fR,rs++[R],wB bx b0 bl,23,by simp[bq],λi r d=>?_);by_cases v:i<rs.length
  .rw[Ask v] at d;exact((br i r d).same (nB bv b0)).keep kp
  have az:=(nL d).1;rw[Asi,AsD] at az;obtain rfl:i=j:=aA;rw[eN,bq,At9] at d;obtain rfl:R=r:=(mR d);exact b2.keep kp
 rintro B ⟨rs,G,bp,bq,br⟩;refine λN b4=>?_;have b5:Ab B aEq:=mS b4;have b6:xJ B N hY:=Af;have bx:=nB G b5;have b7:EE t aEq N st A7 0 [] [] (λ_=>(147,64)):=(90,Auw,Auw,aD,λi q e=>by simp at e,λi a e=>by simp at e,λk h=>by omega,9);have b8:=mC bx bj;have b9:=mC b5 bp;have ca:mMx aEq:=λi r e=>(br i r e).same b5;have cb:∀(i:Nat)(q:Addr),ws[i]? =dE ->Er t aEq q (yS i):=λi q e=>(bn i q e).same bx;have cc:=nV bx s5 ba;have cd:Fr eS l aEq:=(a9.same s5).same bx;have ce:mV l N:=by
  cases q:l N with
  |none=>rfl
  |some u=>
   have:=((a9.same s5).same G) _ _ q (λe=>by rw[e] at b4;rw[nV G s5 ba] at b4;cases b4);rw[b4] at this;cases this
 have cf:N≠p:=λe=>(by rw[e,a8] at ce;cases ce);generalize Aa B N hY=bo at b5 b6 bx b7 b8 b9 ca cb cc cd;have cg:W≠N:=λe=>(by rw[e,b6] at b8;cases b8);have ch:bk≠N:=λe=>(by rw[e,b6] at b9;cases b9);refine(16,W,bk,3,mN b8,mN b9,5);refine Fn (J:=Lw K W bk) st.length (λj σ O=>∃(cj v10:bQ)(U:jI)(Y:aQ)(R:Nat->Qh),σ=[bM,mH mp,mH L,wD mX,mH W,none,mH bk,cj,none,mH N,v10]/\yP N bo O/\EE t O N st A7 j U Y R/\p∉Y/\∀q∈Y,l q=none)
  (14,[],[],0,Fr.refl,b7,9,9) ?_ ?_ ?_ ?_
 .rintro j σ O hj ⟨cj,v10,U,Y,R,rfl,fr,kn,_⟩;exact(49,228,mCG am,mCG bq)
 .rintro σ O ⟨cj,v10,U,Y,R,rfl,fr,kn,_⟩;exact(19,228,mG (mCp am aD))
 .rintro j σ O y bz hj ⟨cj,v10,U,Y,R,rfl,fr,kn,ck,cl⟩ ⟨I,x,bs,rfl,bt,rfl,hx,hy⟩;have bu:j<ws.length:=aA;have cm:j<rs.length:=aA;have hx':=hx _ (vD b8 cg);rw[ArY,mK bu] at hx';obtain rfl:nE ws[j]=x:=(mR hx');have o:=hy _ (vD b9 ch);rw[ArY,mK cm] at o;obtain rfl:nE rs[j]=bs:=aAE;have tupK:∀{b:Addr}{xs:aL},bo b=fJ ->b≠N:=λh e=>(by rw[e,b6] at h;cases h);obtain⟨ap,cn,co,cp,cq,cr,cs,ct⟩:=(cb j _ (mK bu)).frD fr (λc e=>([],by rw[show c=N from e];exact b6));have bv:Ab O (Aa O I aKy):=mS bt;have bw:mD4 O I aKy:=Af;have cu:=fr.same bv;have cx:=kn.same bv;have cy:=((ca j _ (mK cm)).keep (λb xs e=>fr _ _ e (tupK e))).same bv;have cz:=mC bv cq;have c0:=bv;generalize Aa O I aKy=bz at bv c0 bw cu cx cy cz;refine(mFu I bw);obtain⟨c1,kb,c2,c3,c4⟩:=id cy;refine(0,N,2,mI (_,mG cx.kn),16,16,rs[j],36,nQ c2,On (x:= sR mE A7 j) aC rfl,λx c5 hx c6 ar=>?_);have c7:x≠ws[j]:=λe=>(mJe e cz);refine(x,c5,ws[j],ap,cn,fV.vf,A7 j,215,c7,by rw[nX c7,Ah (λe=>by rw[e,c6] at cz;cases cz)];exact cz,2,5);rw[B1];have c8:Ab bz aPM:=xF c6 hx;refine(_,mI (19,rs[j],mG (mC c8 cx.kn),229,2),5);by_cases hmem:(fV,A7 j,)∈U
  .obtain⟨i,v,e⟩:=Asy hmem;obtain⟨c9,da⟩:∃q,Y[i]? =some q:=(_,mK (show i<Y.length by rw[kn.len];exact v));rw[Xt (a:=(fV,A7 j,)) kn.Ov (mBk v e) da];exact mG (0,19,U,Y,R,2,cu.same c8,(cx.same c8).BM hmem,ck,cl)
  rw[aPN];have db:(Fd U Y).length<=64:=(by unfold Fd;rw[ArX,Aw4,kn.len];have:=kn.le;omega);refine mI (2,_,mI (19,rs[j],mC c8 cx.kn,229,BA aA,2),5);rw[MJ _ aPN];have dc:x≠N:=λe=>(mJe e cx.kn);have dd:∀c u,bz c=aM ->c≠N->(aPO) c=some u:=λc u e hc=>(by rw[gO];exact mC c8 e);have de:∀c u,bz c=aM ->u≠ .dT (Fd U Y)->(aPO) c=some u:=λc u e hu=>mMu dd cx.kn;obtain⟨df,dg,dh,di⟩:=cs.same c0;obtain⟨dj,dk,dm,dn⟩:=ct.same c0;obtain⟨dp,dq⟩:=cx.new hj hmem hx dd Af (oY dc Af) (mP de (mC c0 cr) gG) (df,dg,mP de dh gG,mP de di gG) (dj,dk,mP de dm gG,mP de dn gG);refine(49,dp,2,(cu.same c8).Aa rfl,dq,λh=>?_,eI);rcases pD h with h|h
  .exact ck h
  .have dr:=mP cu cc (Asr cf);rw[Atb.mp h,hx] at dr;cases dr
  rcases pD hq with hq|hq
  .exact cl q hq
  rw[Atb.mp hq]
  cases hz:l x with
  |none=>rfl
  |some u=>
   have dr:=mP cu cc (Asr cf);have ds:=mP cd hz (λe=>by rw[show x=p from e,dr] at hx;cases hx);have dt:=mP cu ds dc;rw[hx] at dt;cases dt
 rintro σ O ⟨cj,v10,U,Y,R,rfl,fr,kn,ck,cl⟩;have du:=mP fr cc (Asr cf);refine(0,N,0,mG kn.kn,λSA dv=>?_);rw[mC AfX kn.len];have dw:Ab O (nD O SA (nH Y.map)):=mS dv;have dy:mAk O SA (nH Y.map):=Af;have dz:=kn.same dw;have d0:=mC dw du;have d1:=fr.same dw;generalize Aa O SA (yI Y.map)=d2 at dw dy dz d0 d1;refine(72,d0,52,T.RN,aAu,5);show yR d2 aG6;have d3:SA≠p:=λe=>(by rw[e,du] at dv;cases dv);have d4:∀{H':Hp}{f:oU V},EE t H' N st A7 st.length U Y R->(∃d5,H' p=oN t.Cp d5)->(∀c xs,O c=fJ -> dO=fJ)->EE t (mY H' (nC t.Cp f)) N st A7 st.length U Y R:=λ{H'}{f}dq (d5,d6) d7=>by
  have ne:∀c u,dO=aM ->(∀g,u≠ nC t.Cp g)->(mY H' (nC t.Cp f)) c=some u:=λc u e hu=>(mFX Ah (λz=>by rw[z,d6] at e;exact hu _ jQ.symm));refine(mGy dq.kn,dq.len,dq.Ov,dq.Mt,dq.le,λi q e=>by rw[Ah (λz=>ck (vT z Asl e))];exact dq.GJ i q e,191,dq.ER,dq.Qj)
  obtain⟨a1,a2,co,cp,d8,⟨dj,dk,d9,ea⟩,⟨eb,ec,ed,ee⟩⟩:=dq.Ow i a e;obtain⟨_,_,ef,eg,eh,⟨ei,ej,ek,_⟩,⟨el,em,en,_⟩⟩:=kn.Ow i a e;have eo:=mC d7 eh;rw[d8] at eo;injection Ase eo with eo
  injection eo with ep eq
  injection eq with eq _
  injection ep with ep
  injection eq with eq
  subst ep eq;have er:co≠p:=λz=>by
   rw[z,du] at ek;injection Ase ek with _ _ ek
   injection ek with ek _
   injection ek with ek _
   exact nK ek aZ
  have n1:cp≠p:=λz=>by
   rw[z,du] at en;injection Ase en with _ _ en
   injection en with en _
   injection en with en _
   exact nK en aZ
  exact(a1,a2,co,cp,mGy d8,(dj,dk,by rw[Ah er];exact d9,mGy ea),(eb,ec,by rw[Ah n1];exact ed,mGy ee))
 have es:∀c xs,O c=fJ ->(aEr) c=some iP:=λc xs e=>(by rw[mIP du];exact mC dw e);have et:xB d2 aG6:=Af;have eu:=d4 (f:=[("most",aG2,),("room",mE 256,),("sorts",mF SA,)]) dz (pX d0) (λc xs e=>mC dw e);have ev:oI aEr SA (yI Y.map):=(oY d3 dy);have ew:oI aEr bk (yI rs.map):=(by rw[Ah (λe=>by rw[e,cc] at b9;cases b9)];exact mP d1 b9 ch);have tupK:∀{b:Addr}{xs:aL},bo b=fJ ->b≠N/\b≠p:=λh=>((λe=>by rw[e,b6] at h;cases h),(λe=>by rw[e,cc] at h;cases h));have ex:mMx aEr:=λi r e=>(ca i r e).keep (λb xs z=>by rw[Ah (tupK z).2];exact d1 _ _ z (tupK z).1);have ey:Fr (tS N p) bo aEr:=(mGt d1.As).Aa eB;generalize Aa d2 p aG6=ez at es et eu ev ew ex ey;refine(0,bk,2,(oX ew),λOA e0=>?_);refine EA (J:=pZ bk) st.length (λj e1=>Ab ez e1/\e1 OA=some (tH (aBA.map λk=>aEs).map V.ref)) (yM e0)
  (λj e1 hj cp=>(tM cp.1 ew (by omega:j<rs.length))) (λe1 cp=>(sA cp.1 ew)) ?_ ?_
 .rintro j e1 y e2 hj ⟨e4,e5⟩ ⟨rfl,hy⟩;have cm:j<rs.length:=aA;have o:=rJ e4 ew;rw[ArY,mK cm] at o;obtain rfl:nE rs[j]=y:=aAE;have e6:=eu.same e4;obtain⟨e7,e8⟩:=Mu (kn.ER j hj);have e9:pO Y[Ew U st A7 j]? (CT Y (Ew U st A7 j)):=(mEg (oL kn.len e7));refine jD;refine(16,N,0,.inr (19,rs[j],mG e6.kn,2,((ex j _ (mK cm)).same e4).ky,(Xt (a:=(fV,A7 j,)) kn.Ov e8 e9).symm),_,e5,mA1 As4,qS e4 e0,5);rw[Af,Atl];simp
 rintro e1 ⟨e4,e5⟩;have fa:=mC e4 et;refine(72,fa,52,T.RO,200);have e6:=d4 (f:=Mv ms SA OA) (eu.same e4) (pX fa) (λc xs e=>mC e4 (es c xs e));have fb:xB e1 aEp:=Af;have fc:oI (mY e1 aEp) SA (yI Y.map):=(by rw[Ah d3];exact mC e4 ev);have fd:(mY e1 aEp) OA=some (tH aKz.map V.ref):=(oY (λe=>by rw[e,et] at e0;cases e0) e5);have fe:Fr (tS N p) bo (mY e1 aEp):=(ey.same e4).Aa eB;have ff:∀k,k<st.length->Y[mCI U]? =some aEs:=λk hk=>(mEg (zD kn.len (Mu (kn.ER k hk)).1));have fg:U.length<=64:=(zY kn.le);refine(219,fb,2,p,dx,SA,OA,_,Y,aKz,R,2,fb,26,fc,fd,kn.Mt,by rw[ArX,As4];exact af,by rw[kn.len];exact fg,eI,ck,ag,e6.GJ,λH' fh fi=>?_)
 .obtain⟨x,hx,rfl⟩:=nY hq;exact Asl (ff x aGO)
 have fj:=kn.AfZ (oq:=aAv.map λk=>aEs) rfl;have fk:∀{H':Hp}{c:Addr}{u:HO},(∀(i:Nat)(q:Addr),Y[i]? =dE ->H' q=mEh 0)-> dO=aM ->(∀i,u≠ mGv i 0)->c∉Y:=λhs hc hu hm=>by obtain⟨i,v,e⟩:=Asy hm;have:=hs i _ (mK v);rw[e,hc] at this;exact hu i (Ase this)
 have fl:∀(i:Nat)(q:Addr),Y[i]? =dE ->HN t H' q (mAl U) i:=λi q hq=>by
  have fm:i<U.length:=(wY kn.len hq);obtain⟨M,fn,fo⟩:=fi i q hq;obtain⟨a1,a2,co,cp,d8,⟨dj,dk,d9,ea⟩,⟨eb,ec,ed,ee⟩⟩:=e6.Ow i U[i] (mK fm);have fp:=Oy (st:=st) (A7:=A7) (mK fm);have fq:=mMy d9;have fs:=mMy ed;refine(jJ.dx,jJ.sh,co,cp,M,5,mEi d8,53,λx=>?_)
  .rw[fn,fp];show mB (mC HO.Ag (GI jJ M))=some (HO.Ag _ _ [("vowel_first",mE (U[i].1.vf:Int),),("shapes",mF jJ.sh,),("cost",mE (U[i].2:Int),),("words",aGv,)]);rw[<-a1,<-a2]
  .rw[fp];exact(dj,dk,fq,mEi ea)
  .rw[fp];exact(eb,ec,fs,mEi ee)
  rw[fo x,fj i aA,fj (i+1) fm];exact Iff.rfl
 refine k ms A7 (mAl U) (Ew U st A7) SA OA H' (λc u e ft=>?_) (mP fh fb ck,(Y,mEi fc,by rw[Ox];exact kn.len,fl),(_,mEi fd,by rw[ArX,As4],λk q hq=>?_),kn.Arf,bi,a4,a5,a6,by rw[Ox];exact fg,5,λi v=>?_)
 .have fu:=mP cd (mC a7 e) ft;have fv:c≠N:=λz=>(by have:=mC a7 e;rw[z,ce] at this;cases this);have e3:=fe _ _ fu (by rintro(z|z);exact fv z;exact ft z);exact fh _ _ e3 (λhm=>by have ds:=cl c hm;rw[mC a7 e] at ds;cases ds)
 .rw[ArY] at hq;have hk:mAX k:=by
   rcases Atq k st.length with h|h
   .exact h
   rw[As9 fB] at hq;cases hq
  rw[AsY hk] at hq;obtain rfl:aEs=q:=(mR hq);exact mC fl (ff k hk)
 .rw[Ox,<-fj U.length aD];have:=Xs kn.Mt aKz U.length (oL kn.len aD);rw[ArX,As4] at this;omega
 rw[Ox] at v;rw[Oy (mK v)];obtain⟨k,hk,e⟩:=kn.Qj U[i] (Asw v);exact(k,hk,by rw[e])
theorem Agf:∀(l:aB)(n:Nat),(∀i∈l,i<n)->qA (λi=>l.count i)=l.length
 |[],n,_=>by
  induction n with
  |zero=>rfl
  |succ n b=>show qA _+0=0;rw[Nat.add_zero];exact b aC
 |a::l,n,h=>by
  have e:(λi=>(a::l).count i)=DS (λi=>l.count i) a:=by funext i;unfold DS;grind
  rw[e,Xd hK,Agf l n λi c=>pA h i c];rfl
theorem Agg(r:aB)(so:bE)(k:Nat):(λi=>(dN.map so).count i)=DS (mGz so) (so k):=by funext i;unfold DS;grind
theorem Xy:∀(a b:aB),AM (a++b)=AM a+AM b
 |[],b=>by show AM b=0+AM b;omega
 |x::a,b=>by rw[At8,C7,C7,Xy a b];omega
theorem Agh(h:∀k,f k=0):∀(l:aB),AM (sT f)=0
 |[]=>rfl
 |x::l=>by rw[Asn,C7,Agh h l,h]
theorem Xz{r:aB}(hd:r.Nodup)(a:aDX):mCh N:=by have:=Oj (m:=kG) hd λx hx=>Atj.mpr (pI a);rwa[As4] at this
theorem Agi(h:aG3)(hd:r.Nodup)(a:lK)(b:r≠[])(c:mCh ms):aBt.length<=255↔AM aEv <=256:=by
 have hlen:aBt.length+1=AM (uZ aCM):=AeA st r b;rcases h with h|⟨d,e⟩
 .have:aEv=r.map aCM:=AsU λk hk=>h k (a k hk);rw[this];omega
 have:=e r hd a c;rw[Agh d];omega
theorem Agj(F_:m.Ok)(Fx:hG)(a:aGj)(c:aG3)(eT:E.T=aH)(d:E.S=S)(eM:E.Aq=ms){r t:aB}(hd:(r++t).Nodup)(f:aOf)(g:r≠[])(j:(r++t).length<=ms)(l:(t.length:Int)<=rest)
 (h:Lk S (SZ E (wG aH 0).1 (wG aH 0).2 (wG aH 1).1 (wG aH 1).2) (mGz so) rest (256 - ((AM aEv:Nat):Int))):
 Kgz2.scansRow (E2 m) gN (r++t)=false:=by
 cases hs:mJi m gN (r++t) with
 |false=>rfl
 |true=>
  exfalso;obtain⟨n,o⟩:=(WK F_ Fx _ f).mp hs;have p:aJP:=λk hk=>f k (sJ hk);have q:=(WN aH st Fx r.length r t rfl f).mp o;have Av:∀b∈ aAw,DR b:=λb hb=>by obtain⟨k,hk,rfl⟩:=nY hb;exact KI Fx (p k hk)
  have s:=PB Av;have u:AM aEv+AM (t.map A7)<=256:=by have:=(Agi c hd f (by simp[g]) j).mp n;rwa[As7,Xy] at this
  obtain⟨i,v⟩:=h (t.map so) (λi v=>by
   obtain⟨k,hk,rfl⟩:=nY v;rw[d];exact a.lt k (p k hk),by rw[ArX,eM];exact(by rw[Asi] at j;omega),by
   rw[d,Aok a t p,eT];refine fT;rcases(by omega:Cb aAw=0\/Cb aAw=1) with e|e
   .rw[e] at q⊢;exact q
   rw[e] at q⊢;exact q) (oL ArX l) (by rw[AeE a t p];omega)
  have:=AeF a hd f i;grind
theorem Ary(F_:m.Ok)(Fx:hG)(a:aG3)(eT:E.T=aH)(hd:r.Nodup)(b:lK)(c:r≠[])(d:mCh ms)
 (h:SZ E (wG aH 0).1 (wG aH 0).2 e P1 []) (f:(0:Int)<=256 - ((AM aEv:Nat):Int)):mJi m gN r=true:=by
 refine(WK F_ Fx _ b).mpr ((Agi a hd b c d).mpr aA,5);have g:=h.2.2.2;rw[eT] at g;have:=(WN aH st Fx r.length r [] rfl (mR b)).mpr g;simpa using this
structure Rf where
 X:Fw
 p:Addr
 m:Bi
 st:List aB
 Aq:Nat
 ms:Nat
 A7:Nat->Nat
 so:Nat->Nat
 dx:Addr
 SP:Addr
 dS:Addr
 OA:Addr
abbrev IY(SP P F:Addr):List gC:=[("stock",mF SP,),("places",mF P,),("finisher",mF F,)]
structure Gd(t:Aw)(Z:Rf):Prop where
 fw:DT t Z.X
 eT:Z.X.E.T=Aj Z.m
 eM:Z.X.E.Aq=Z.ms
 F_:Z.m.Ok
 Fx:FZ Z.st
 sl:Z.st.length<=64
 m12:Z.Aq<=12
 at_:Z.X.Hs Z.p=some (.Ag t.CB Z.dx (IY Z.SP Z.X.P Z.X.F))
 Di:Qk t Z.X.Hs Z.SP Z.dS Z.m Z.st Z.Aq Z.ms Z.A7 Z.X.E.S Z.so Z.X.SA Z.OA
abbrev EV(a:Addr)(used:Nat)(sa:Addr)(room:Int)(up:Nat):List gC:=[("row",aJ,),("used",tN mE,),("states",mF sa,),("room",aBw,),("upcoming",mE (up:Int),)]
def Ex(Z:Rf)(r:aB):Int:=256 - ((AM (uZ Z.A7):Nat):Int)
structure GK(t:Aw)(Z:Rf)(H:Hp)(b:Addr)(r:aB)(up dB rA sa a0 a1 used:Nat):Prop where
 at_:H b=some (.Ag t.Dd dB (mJj rA up))
 row:H rA=some (pW r)
 IZ:H sa=some (tR a0 a1)
 c0:Cz H a0 (mBc 0).1 (mBc 0).2
 c1:Cz H a1 (mBc 1).1 (mBc 1).2
 Jx:Dl Z.X.E.S used (mGz Z.so)
structure Rw(Z:Rf)(r:aB):Prop where
 nd:r.Nodup
 lt:∀k∈r,k<Z.st.length
def Agl(t:Aw)(Z:Rf)(H H':Hp)(b:Addr)(r:aB):Prop:=∃a c sa a0 a1 used,GK t Z H' b r 0 a c sa a0 a1 used/\H b=none/\H c=none/\H sa=none/\H a0=none/\H a1=none
theorem GK.same(h:mJk up)(s:aO):GK t Z H' b r up g i sa a0 a1 used:=(nM h.at_,nM h.row,nM h.IZ,nM h.c0,nM h.c1,h.Jx)
def Arz(t:Aw):Sp:=λvs H Q _=>∃(p dx a sa:Addr)(used:Nat)(room:Int),vs=[aS,aJ,tN mE,mF sa,aBw]/\H p=rX t.Dd/\rH (mY H (nC t.Dd (EV a used sa room 0)))
theorem Ar0:AD aFI aFI (A0 AaA):=aG
theorem Agm(T:aE):A4 P w K mg base A9 1 t.LO t.Acd aFI (Arz t):=by
 refine qT T.LO.F.ok Ar0
 .obtain⟨p,dx,c,sa,used,room,rfl,_⟩:=h;rfl
 obtain⟨p,dx,c,sa,used,room,rfl,hp,k⟩:=h;refine(_,(Ak aAo
  (Ak lG
  (Ak (nW bB)
  (Ak (nW bG)
  aDN)))),5)
 refine(87,T.CW.c,T.NF,54,T.CW.c,T.Pm,198);rw[B1];refine(mAW T.CW.c T.RP 2);rw[B1];refine(mAW T.CW.c T.RQ 3);rw[B1];refine(vA T.CW.c T.Pn 4);rw[B1];exact k
theorem Ar1(ok:iH)(hk:mGA k):∃(oq:aQ)(q:Addr),Z.X.Hs Z.OA=pU oq.map/\oq.length=Z.st.length/\oq[k]? =dE /\HN t Z.X.Hs q Z.X.E.S aBF:=by obtain⟨oq,a,b,c⟩:=ok.Di.of;have d:k<oq.length:=aA;exact(oq,oq[k],a,b,mK d,c k _ (mK d))
def Ar2(t:Aw):Sp:=λvs H Q _=>∃(Z:Rf)(b:Addr)(r:aB)(k up a c sa a0 a1 used:Nat),vs=aPQ /\ iH /\Ab Z.X.Hs H/\ aKB /\Rw Z dN /\
 ∀d H',aO ->Agl t Z H H' d dN ->oQ d
theorem Qm:AD ["self","beginning","number","sort","state","states","used"] aBc (A0 AaF):=aG
theorem Agn(T:aE):A4 P w K mg base A9 3 t.Kw t.Aci aBc (Ar2 t):=by
 refine T.Kw.F.ok Qm cO aNN
 .obtain⟨Z,b,r,k,up,c,ab,sa,a0,a1,used,rfl,_⟩:=h;rfl
 obtain⟨Z,b,r,k,up,c,ab,sa,a0,a1,used,rfl,ok,d,hb,f,ac⟩:=h;have g:mGA k:=f.lt k aC;obtain⟨oq,q,ae,af,ag,l,sh,ah,ai,M,hq,aj,ak,al,am⟩:=Ar1 ok g;have n:(AH Z.X.E.S aBF).wd=Wk Z.st k:=ok.Di.AH.wd k g;have o:=KI ok.Fx g;rw[n] at ak al;rw[n,(ok.Di.AH.Bl k g)] at hq;obtain⟨_,an,ao,dd,ff,ap,aq,_⟩:=id ok.fw.pl;have ar:=ok.fw.pl;rw[ok.eT] at ar;have as:∀x∈r,x<Z.st.length:=λx hx=>f.lt x aDY;have au:=Xz ((AsT.mp f.nd).1) as;have av:=ok.sl;have aw:aKC:=λm=>mJl r as;have ax:∀m,(jK.sh m).A2.length<=1000:=λm=>by have:=ok.fw.wl aBF m (ok.Di.AH.lt k g);rwa[n] at this
 obtain⟨p,ay,az⟩:∃p,BX [nE a0,nE a1] ((jK.vf:Nat):Int)=bM /\Cz H p (mBc jK.vf).1 (mBc jK.vf).2:=by
  have a2:=o.vf;rcases(by omega:jK.vf=0\/ jK.vf=1) with e|e
  .rw[e];exact(a0,cP,hb.c0)
  rw[e];exact(a1,77,hb.c1)
 have a3:∀m,jK.sh m=if m=1 then jK.CO else jK.DF:=λm=>rfl
 have a4:=wI d;refine(_,(Ak (rW Qm.nd (qU kI aX))
  (Ak (qN Qm.nd (tL cC dI))
  (Ak (sQ Qm.nd (CV (mIv aPY)))
  (Ak (uC Qm.nd (AE J3 cC (Bb (SN T) (a.As aZ) rfl T.Fl.m T.Fl.F.kp T.Fl.b .nil Ay (mU (mCk dI cC)))))
  (Ao (A3 (Dc T.CW.k (Agm T) (a.As aZ) rfl T.CW.m T.LO.b .nil Ay (Ad (AE HC cC (rY aX)) (Ad cA (oP bJ (AE FI cC dI))))))))))),5)
 refine(29,a4,30,mGB d,52,T.RO,31,Z.OA,36,nA d ae,AZ (v:= mF q) (yX ArY ag),5);refine(0,b,_,c,24,T.RP,31,193,mC d hq,47,T.Ph,2,sa,36,nQ hb.IZ,ay,29,a4,230,mC d ap,aq.n3,16,193,mC d hq,164,36,rK d aj,cP,Z.X.P,p,ah,Aj Z.m,19,jK.sh 0,2,ar.same d,az,ak.same d,o.sh 0,ax 0,aw _,λu H1 s1 a5 a6=>?_);have y:=nB d s1;refine(29,rF a4,230,mC y ap,aq.n3,16,193,mC y hq,164,36,rK y aj,77,Z.X.P,p,ai,Aj Z.m,19,jK.sh 1,2,ar.same y,rF az,al.same y,o.sh 1,ax 1,aw _,λz B s2 a7 a8=>(gF,λC a9=>?_));have ba:=lJ;have D:Ab B (Aa B C (tR u z)):=mS a9;have bb:xJ B C (tR u z):=Af;generalize Aa B C (tR u z)=G at D bb;have I:=nB ba D;refine(0,63,T.Pm,31,193,mC (nB d I) hq,47,T.RM,31,63,T.Pm,31,M,used,26,0,13,0,63,T.NF,31,jH,λJ bc=>?_);have L:Ab G aEw:=mS bc;refine(ab,J,8,nV L I hb.row,Af,AL (mBF AsD),λN bd=>?_)
 have be:Ab aEw (Aa aEw N aKD):=mS bd;have O:=qE I L be;have bf:=nB d O;have bg:(Aa aEw N aKD) N=some (pW dN):=(pP Af);refine(42,b,_,c,3,mC O hb.at_,T.CW.c,T.RQ,31,193,mC bf hq,47,T.RL,2,8,λU db bh bi bj=>(U,db,N,C,3,90,5));rw[B1];generalize Aa aEw N aKD=bk at be O bf bg bh bi;have Y:Ab bk (Aa (qX bk db U) U (.Ag t.Dd db (EV N aPR C (Ex Z r - (Z.A7 k:Int)) 0))):=xF bi bh;have bl:=nB L be;have bm:=AeF ok.Di.AH f.nd f.lt aBF;have bn:(dN.map Z.so).count aBF=(uZ Z.so).count aBF+1:=by have:=congrFun (Agg r Z.so k) aBF;unfold DS at this;rw[bF] at this;exact this
 refine ac U _ (nB O Y) (db,N,C,u,z,aPR,(5,mC Y bg,nV Y bl bb,53,5),BL O bh,BL (nB I L) bd,BL ba a9,a5,BL s1 a7)
 .rw[Af];have:Ex Z dN=Ex Z r - (Z.A7 k:Int):=by
   unfold Ex;rw[As7,Xy,Asn,AuX,C7];have:AM []=0:=rfl;omega
  rw[this]
 .rw[SB];exact mC Y (nV bl D (pS a6))
 .rw[SB];exact mAj bl D a8
 rw[Agg,Ae0 am hb.Jx,gT];exact Ae1 hb.Jx aA
def Ar3(t:Aw):Sp:=λvs H Q _=>∃(Z:Rf)(b:Addr)(r:aB)(k up a c sa a0 a1 used:Nat),vs=aPQ /\ iH /\Ab Z.X.Hs H/\ aKB /\Rw Z r/\k<Z.st.length/\
 ∀(v:V)H',aO ->(((mFH Z.ms k)/\v= .Ax)\/(r.length<Z.ms/\wF k=false/\Rw Z dN /\∃d,v= dG /\Agl t Z H H' d dN))->oV v
theorem Ar4:AD aBc aBc (A0 AaE):=aG
theorem Ar5(T:aE):A4 P w K mg base A9 4 t.Nt t.Ach aBc (Ar3 t):=by
 refine T.Nt.F.ok Ar4 cO aJW
 .obtain⟨Z,b,r,k,up,g,i,sa,a0,a1,used,rfl,_⟩:=h;rfl
 obtain⟨Z,b,r,k,up,g,i,sa,a0,a1,used,rfl,ok,l,hb,m,hk,n⟩:=h;have o:=wI l;refine(_,(Ak (zO (PW.pt (Id (pL QN (uX pV 1) kI) (JX (wT (sC V6) aX cC)))))
  (Ao (A3 (Bx aK T.Df.c T.Kw.h (Agn T) aDO T.Kw.b .nil Ay (pM 1 2))))),5)
 refine(0,107,29,o,30,mGB l,192,2,58);by_cases hge:(Z.ms:Int)<=(((iv r).length:Nat):Int)
 .rw[mW hge];rw[ArX] at hge;exact nG Au (n .Ax H eQ (mG (mG aA,2)))
 rw[mT hge];rw[ArX] at hge;refine Az (16,107,2,by simp[Fh],0,5);rw[Af5]
 cases hc:wF k with
 |true=>exact Au (n .Ax H eQ (mG (mI hc,2)))
 |false=>
  have p:k∉r:=by intro hm;have:nJ wF k:=(mR hm);rw[hc] at this;cases this
  have q:Rw Z dN:=by
   refine(5,λj hj=>?_)
   .rw[AsT];exact(m.nd,9,λa ha c hc' e=>by rw[Atb.mp hc'] at e;rw[e] at ha;exact p ha)
   rcases pD hj with hj|hj
   .exact m.lt j hj
   rw[Atb.mp hj];exact hk
  refine Az (59,o,202,Z,b,r,k,up,g,i,152,2,ok,l,hb,q,λu H' v x=>?_);exact n (mF u) H' v (mI (4,hc,q,u,2,x))
def sc(Z:Rf)(x:aB):Bool:=mJi Z.m (Z.st.map C5) x
def Ar6(t:Aw):Sp:=λvs H Q _=>∃(Z:Rf)(o:Bj)(n:Nat)(a:bI)(b:Addr)(r:aB)(up c d sa a0 a1 used:Nat),vs=[mF Z.p,bU]/\ iH /\mCK H o a/\mMz b/\Rw Z r/\r≠[]/\r.length<=Z.ms/\
 ∀(y:Bool)n' o' H' e,mEb Z.X e->vC Z.X.F a e->(y=false->∀x t',x=r++t'->Rw Z x->x.length<=Z.ms->sc Z x=false)->mAU y
theorem Gd.Ago(ok:iH):Z.ms<=12:=by have:=ok.Di.Ql;have:=ok.m12;omega
theorem Gd.Bv(ok:iH)(h:Rw Z r):Bv (mGz Z.so) Z.X.E.S.length=r.length:=by
 rw[Agf _ _ λi g=>by obtain⟨k,hk,rfl⟩:=nY g;exact ok.Di.AH.lt k (h.lt k hk),ArX]
theorem Agp:AD (tK "beginning" "rest") aBd (A0 AaG):=aG
theorem Ar7(T:aE):A4 P w K mg base A9 55 t.Nu t.Acj aBd (Ar6 t):=by
 refine mFS T.Nu.F.ok Agp
 .obtain⟨Z,o,n,d,b,r,up,f,g,sa,a0,a1,used,rfl,_⟩:=h;rfl
 obtain⟨Z,o,n,d,b,r,up,f,g,sa,a0,a1,used,rfl,ok,fs,hb,j,k,hlen,l⟩:=h;have p:=fs.st;have q:=wI p;have u:=mGB p;have v:aKC:=λm=>mJl r j.lt;have z:=ok.Ago;have e:((Z.ms:Int) - (((iv r).length:Nat):Int))=((Z.ms - r.length:Nat):Int):=jY;refine(_,(Ak (qJ Agp.nd (AE FI kI (uX pV 1)))
  (mMA aX)),5)
 refine(29,q,30,u,192,97,f,24,T.NF,2,g,0,uB hb.row,8,29,q,101,f,24,T.RP,202,b,_,f,24,T.Pm,97,f,131,a1,49,Z.ms - r.length,used,_,Ex Z r,by rw[<-e];rfl,126,v 0,v 1,hb.Jx,4,by rw[(ok.Bv j)];omega,207,λy n' o' H' B C g' D _=>?_);refine l y n' o' H' B C g' λhy x t' hx G I=>?_;subst hx;refine Agj ok.F_ ok.Fx ok.Di.AH ok.Di.Bl ok.eT rfl ok.eM G.nd G.lt k I ?_ (D hy);rw[Asi] at I;omega
def Ar8(t:Aw):Sp:=λvs H Q _=>∃(Z:Rf)(o:Bj)(n:Nat)(a:bI)(b:Addr)(r:aB)(up c d sa a0 a1 used:Nat),vs=[mF Z.p,bU]/\ iH /\mCK H o a/\mMz b/\Rw Z r/\r≠[]/\r.length<=Z.ms/\
 ∀n' o' H' e,mEb Z.X e->vC Z.X.F a e->mAU (sc Z r)
theorem Ar9:AD aBd aBd (A0 AaH):=aG
theorem ArA(T:aE):A4 P w K mg base A9 55 t.Nv t.Ack aBd (Ar8 t):=by
 refine mFS T.Nv.F.ok Ar9
 .obtain⟨Z,o,n,d,b,r,up,e,f,sa,a0,a1,used,rfl,_⟩:=h;rfl
 obtain⟨Z,o,n,d,b,r,up,e,f,sa,a0,a1,used,rfl,ok,fs,hb,g,i,hlen,j⟩:=h;have k:=wI fs.st;have l:aKC:=λm=>mJl r g.lt;have p:=ok.Ago;refine(_,(mMA Ar),29,k,101,e,24,T.RP,97,e,24,T.Pm,97,e,131,a1,49,64,used,_,Ex Z r,2,126,l 0,l 1,hb.Jx,4,by rw[(ok.Bv g)];omega,207,λy n' o' H' q u g' v x=>?_);have hy:y=sc Z r:=by
  cases y with
  |true=>
   obtain⟨z,B⟩:=x rfl rfl;exact(Ary ok.F_ ok.Fx ok.Di.Bl ok.eT g.nd g.lt i hlen z B).symm
  |false=>
   have:=Agj (t:=[]) (rest:=((0:Nat):Int)) ok.F_ ok.Fx ok.Di.AH ok.Di.Bl ok.eT rfl ok.eM (mR g.nd) (mR g.lt) i (mR hlen) aC (v rfl);rw[Aum] at this;exact this.symm
 rw[hy];exact j n' o' H' q u g'
theorem AO.take(h:pN kvs)(i:fP)(hc:mV H c)(j:H1 c=aM):mLL H1 kvs:=by
 have BM:aOJ:=λb v e=>mCs hc;have ev:∀B,Ev B o H aD3 H1:=λB=>(mLM i);refine(mLN i j)
 .have s:b≠c:=λz=>(mBv z j);rw[Cj s];exact h.un b (BL i e)
 .obtain⟨κ,a,e,ne,k⟩:=aAy;exact aOK
 obtain⟨_,dx,y,AA,g,C,I,k⟩:=tQ h r;have:=k.at_;rw[hc] at this;cases this
def I_(o:Bj)(H:Hp)(o':Bj)(H':Hp):Prop:=∀c u,H c=aM ->o c=none-> dO=aM /\o' c=none
theorem I_.trans(a:I_ o H g H1)(b:I_ g H1 i j):I_ o H i j:=λc u e h=>let(q,s):=tO a h;b c u q s
theorem Gw.kp(g:aD7):I_ o H o' H':=λ_ _ e h=>g.free e h
theorem C6.kp{o:Bj}(m:mAi kvs)(u:HO):I_ o H o (mD2 c):=λb v e h=>(by rw[mMj m.o];exact e,h)
def GL(t:Aw)(Z:Rf)(H:Hp)(o:Bj)(b:Addr)(r:aB)(up:Nat):Prop:=∃a c sa a0 a1 used,aKB /\o c=none/\o sa=none/\o a0=none/\o a1=none
theorem GK.kp(h:mJk up)(j:mV o i)(q:mV o sa)(s:mV o a0)(u:mV o a1)(k:I_ o H o' H')(hb:H' b=some (.Ag t.Dd g (mJj i up'))):GL t Z H' o' b r up':=
 (g,i,152,(hb,(mP k h.row j).1,(mP k h.IZ q).1,(mP k h.c0 s).1,(mP k h.c1 u).1,h.Jx),(mP k h.row j).2,(mP k h.IZ q).2,(mP k h.c0 s).2,(mP k h.c1 u).2)
theorem GL.gw(h:mGC up)(m:mEj H b)(g:vC Z.X.F kvs kvs'):GL t Z H' o' b r up:=by obtain⟨i,j,sa,a0,a1,used,h,q,s,u,v⟩:=h;exact h.kp q s u v g.kp (m.gw g h.at_).1
theorem GL.CA(h:mGC up)(m:mEj H c)(g:b≠c):GL t Z (mD2 c) o b r up:=by obtain⟨i,j,sa,a0,a1,used,h,q,s,v,y⟩:=h;exact h.kp q s v y (m.kp u) (oY g h.at_)
structure Ey(t:Aw)(Z:Rf)(H:Hp)(o:Bj)(kvs:bI)(L:Addr)(bs:aQ)(path:mZ gR):Prop where
 at_:H L=some (yI bs.map)
 nd:bs.Nodup
 len:bs.length=path.length
 mL:C6 t Z.X H o kvs L
 el:∀(j:Nat)(b:Addr)(x:gR),bs[j]? =mB b->path[j]? =aW ->mEj H b/\GL t Z H o b x.1 x.2
 Qn:∀x∈path,Rw Z x.1/\x.2<=Z.st.length
theorem JN(h:(l++[a])[j]? =aW):(j<l.length/\l[j]? =aW)\/(j=l.length/\x=a):=by grind
theorem Tl(l:cM)(a:α):(l++[a])[l.length]? =some a:=by simp
section
variable {Z:Rf} {H H':Hp} {o o':Bj} {kvs kvs':bI} {L:Addr} {bs:aQ} {path:mZ gR}
theorem Ey.gw(h:mJm H)(g:vC Z.X.F kvs kvs'):Ey t Z H' o' kvs' L bs path:=by refine((h.mL.gw g h.at_).1,h.nd,h.len,(h.mL.gw g h.at_).2,λj b x hb hx=>?_,h.Qn);obtain⟨m,i⟩:=h.el j b x hb hx;obtain⟨_,_,_,_,_,_,q,_⟩:=id i;exact((m.gw g q.at_).2,i.gw m g)
theorem Ey.bL(h:mJm H)(hb:b∈bs):b≠L:=by
 obtain⟨j,hj,e⟩:=Asy hb;obtain⟨_,_,_,_,_,_,_,g,_⟩:=h.el j b _ aBg (mK (tV h.len hj));intro z;have:=g.at_;rw[z,h.at_] at this
 cases this
theorem Ey.push(h:mJm H)(hm:mEj H b)(hx:mGC 0)(g:Rw Z r)(i:b∉bs)(q:b≠L):Ey t Z (oA L (yI (bs++[b]).map)) o kvs L (bs++[b]) (mAm (r,0,)):=by
 refine(Af,5,by simp[h.len],h.mL.Aa,λj s x hb hx'=>?_,λx hx'=>?_)
 .rw[AsT];exact(h.nd,9,λa ha c hc e=>by rw[Atb.mp hc] at e;rw[e] at ha;exact i ha)
 .rcases JN hb with⟨u,v⟩|⟨u,v⟩
  .rcases JN hx' with⟨y,h4⟩|⟨y,h4⟩
   .obtain⟨m,z⟩:=h.el j s x v h4;exact(m.Aa,z.CA h.mL (h.bL (Asl v)))
   have:=h.len;omega
  rcases JN hx' with⟨y,h4⟩|⟨y,h4⟩
  .have:=h.len;omega
  subst v h4;exact(hm.Aa,hx.CA h.mL q)
 rcases pD hx' with hx'|hx'
 .exact h.Qn x hx'
 grind
theorem Ey.pop(h:mJn (mAm x)):Ey t Z (nD H L (nH bs.map)) o kvs L bs path:=by have g:aKE:=aKF;refine(Af,(AsT.mp h.nd).1,g,h.mL.Aa,λj i x hb hx=>?_,λx hx=>h.Qn x aDY);have hj:=(nL hb).1;obtain⟨m,q⟩:=h.el j i x (wR Ask hj hb) (wR Ask aA hx);exact(m.Aa,q.CA h.mL (h.bL (AsI _ (Asl hb))))
theorem Ey.Ga(h:mJn (mAm (r,u,))):mEj H b/\mGC u/\Rw Z r/\u<=Z.st.length:=by have g:aKE:=aKF;obtain⟨m,i⟩:=h.el bs.length b (r,u,) (Tl _ _) (by rw[g];exact Tl _ _);exact(m,i,h.Qn (r,u,) aC)
theorem Ey.X0(h:mJn (mAm (r,u,)))(hu:u'<=Z.st.length)(hb:mJk u)(q:mV o i)(s:mV o sa)(v:mV o a0)(y:mV o a1):Ey t Z (oA b (.Ag t.Dd g (mJj i u'))) o kvs L (bs++[b]) (mAm (r,u',)):=by
 have B:aKE:=aKF;obtain⟨C,_,aa,_⟩:=h.Ga;refine(by rw[nX (h.bL (b:=b) aC)];exact h.at_,h.nd,by simp[B],h.mL.Aa,λj I x J hx=>?_,eA)
 .rcases JN J with⟨M,O⟩|⟨M,O⟩
  .rcases JN hx with⟨Q,h4⟩|⟨Q,h4⟩
   .obtain⟨m,U⟩:=h.el j I x (wR Ask M O) (wR Ask Q h4);have Y:I≠b:=λz=>(AsT.mp h.nd).2.2 I (Asl O) b aC z;exact(m.Aa,U.CA C Y)
   omega
  rcases JN hx with⟨Q,h4⟩|⟨Q,h4⟩
  .omega
  subst O h4;exact(C.Aa,hb.kp q s v y (C.kp _) Af)
 rcases pD hx with hx|hx
 .exact h.Qn x aDY
 grind
end
theorem Agq:∀(a pre:aB),∃L,aGi=L++[(pre++a,0,)]/\∀k,Dr pre (a++[k])=L++[(pre++a,k+1,)]++[(pre++(a++[k]),0,)]
 |[],pre=>([],by simp[Dr],λk=>by simp[Dr])
 |x::a,pre=>by
  obtain⟨L,b,c⟩:=Agq a (pre++[x]);refine((pre,x+1,)::L,5,λk=>?_)
  .show(pre,x+1,)::Dr (pre++[x]) a=_;rw[b];simp
  show(pre,x+1,)::Dr (pre++[x]) (a++[k])=_;rw[c k];simp
def ArC(t:Aw):Sp:=λvs H Q _=>∃(Z:Rf)(o:Bj)(n:Nat)(b:bI)(a:Addr)(c:aB),vs=[mF Z.p,aJ]/\ iH /\mCK H o b/\H a=oC c/\o a=none/\Rw Z c/\
 ∀(L:Addr)(bs:aQ)o' H',mCK H' o' b->I_ o H o' H'->Ey t Z H' o' b L bs (Dr [] c)->oQ L
theorem Oz:AD ["self","after","state","beginning","path","number"] aCd (A0 AaD):=aG
theorem ArD(T:aE):A4 P w K mg base A9 4 t.Nr t.Acg aCd (ArC t):=by
 refine pF T.Nr.F.ok Oz
 .obtain⟨Z,o,n,ac,a,g,rfl,_⟩:=h;rfl
 obtain⟨Z,o,n,ac,a,g,rfl,ok,fs,ha,oa,l,ae⟩:=h;have af:=fs.st;have ag:=wI af;have ah:=ok.fw.pl;rw[ok.eT] at ah;obtain⟨_,ai,aj,dd,ff,ak,al,_⟩:=ah;obtain⟨am,an,ao⟩:=T.LZ;refine(_,(Ak (qJ Oz.nd (CV (oP (nP an ao) kI)))
  (Ak (rW Oz.nd (Dc T.CW.k (Agm T) bR rfl T.CW.m T.LO.b .nil Ay (Ad dM (Ad Ar (uW (CV (vO aX)) kI)))))
  (Ak (qN Oz.nd (rY bB))
  (Ak (BS Asq rfl (pT aP) (oJ 5 Oz.nd) (Ak (AX bB (vX bJ) rfl)
  (Ak (rW Oz.nd (Bx aK T.Df.c T.Kw.h (Agn T) bR T.Kw.b .nil Ay (pM 3 5)))
  (Ao (Cu (mHM bG bB))))))
  (oM bG))))),5)
 refine(29,ag,122,Z.X.P,_,ai,aj,0,mC af ak,35,T.Ac9,al.first,gF,λs0 ap=>?_);have aq:Ab H (oA s0 aKG):=mS ap;have c1:Cz (oA s0 aKG) s0 4 (Aj Z.m).first:=Af;generalize Aa H s0 aKG=H1 at aq c1;refine((mAI 0),λm ar=>(16,gF,λsa as=>?_));have au:Ab H1 aEx:=mS ar;have av:Ab aEx (Aa aEx sa aKH):=mS as;have aw:mD4 aEx sa aKH:=Af;have ax:=nB au av;have p:=nB aq ax;refine(29,mC p ag,30,nV p af ok.Di.at_,52,T.AcB,2,λb db hb ay az=>(b,db,m,sa,64,(256),2,90,5));rw[B1];have cr:=mC av Af;have a0:=mC ax c1;generalize Aa aEx sa aKH=a1 at av aw ax p hb ay cr a0;have q:Ab a1 (Aa aKI b aG8):=xF ay hb;have r:(Aa aKI b aG8) b=some aG8:=Af;generalize Aa aKI b aG8=a2 at q r;refine(0,jH,λL a3=>?_);obtain⟨a4,a5,a6⟩:=fs.take (nB p q) (BL p hb) r;obtain⟨a7,a8,a9⟩:=a4.claim (u:= .Ac [bU]) a3;have v:GK t Z a2 b [] 0 db m sa s0 s0 0:=(r,mC q cr,mC q aw,mC q a0,mC q a0,S6 _);have nb:mJo a2 b:=λc u e hu z=>(mJp r)
 have ba:GL t Z a2 (mBd o b) b [] 0:=(db,m,sa,s0,s0,64,v,by rw[vP nb v.row];exact xI (BL aq ar),by rw[vP nb v.IZ];exact xI (BL (nB aq au) as),108,108)
 have bb:Ey t Z (nD a2 L [bU]) (mBd (mBd o b) L) ac L ([]++[b]) ([]++[([],0,)]):=by
  refine(Af,9,2,a8,λj B x bc bd=>?_,eA)
  .rcases JN bc with⟨z,_⟩|⟨_,rfl⟩
   .simp at z
   rcases JN bd with⟨z,_⟩|⟨_,rfl⟩
   .simp at z
   exact((a5.gw a9 r).2,ba.gw a5 a9)
  obtain rfl:x=([],0,):=(mR hx);exact((Auw,9),aT)
 have be:=(a6.trans a9).kp;refine(78,2,(oX (mP be ha oa).1),5);refine E4 (K:=K) (a:=a) (xs:=iv g) (λj σ C=>∃(D:Bj)(G:aQ)(I:Addr)(J:mZ gR)(bf:bQ),σ=[mH Z.p,mH a,mH s0,mH I,mH L,bf]/\mCK C D ac/\I_ o H D C/\Ey t Z C D ac L (G++[I]) (J++[(lQ,0,)])/\Dr [] lQ=J++[(lQ,0,)])
  (_,[],b,[],61,2,a7,be,bb,2) (λj σ C _ (_,_,_,_,_,_,_,M,_)=>mN (mP M ha oa).1) ?_ ?_
 .rintro j y σ C hj ⟨D,G,I,J,bf,rfl,bg,M,N,O⟩;rw[ArY] at hj;obtain⟨k,bh,rfl⟩:∃k,g[j]? =mB k/\y= .int ((k:Nat):Int):=by
   cases e:g[j]? with
   |none=>rw[e] at hj;cases hj
   |some x=>rw[e] at hj;exact lL
  have bi:mGA k:=l.lt k (Asl bh);have bj:mAV g.take k:=(yX AsA bh);have bk:Rw Z (lQ++[k]):=by rw[<-bj];exact(l.nd.sublist aLN,λx hx=>l.lt x (Av2 hx))
  obtain⟨bl,⟨bm,bo,sB,bp,bq,br,bs,bt,bu,bv,bw⟩,_,_⟩:=N.Ga;refine(0,8,0,I,_,bm,0,bs.at_,123,142);rw[show Cn "upcoming" (mO ((k:Int)+1)) (EV bo br sB (Ex Z lQ) 0)=aPS from rfl];have U:=N.X0 (u':=k+1) aA bs bt bu bv bw;have Y:=bg.CA bl aKJ;have bx:=M.trans (bl.kp aKJ);generalize Aa C I aKJ=bz at U Y bx;obtain⟨b0,⟨b1,b2,b3,f0,f1,b4,b5,b6,b7,b8,b9⟩,_,_⟩:=U.Ga;refine(59,wI Y.st,202,Z,I,lQ,k,k+1,b1,b2,b3,f0,f1,b4,2,ok,Y.st,b5,bk,λB H' ca (cb,rN,cc,cd,g1,ce,bn,cf,cg,ch,cj,ck)=>?_);obtain⟨f2,cl,g2⟩:=Y.take ca cf bn.at_;have cm:=U.gw g2;have cn:mJo H' B:=λc u e hu z=>(mJp bn.at_);have co:GL t Z H' (mBd D B) B (lQ++[k]) 0:=(cb,rN,cc,cd,g1,ce,bn,by rw[vP cn bn.row];exact Y.un _ cg,by rw[vP cn bn.IZ];exact Y.un _ ch,by rw[vP cn bn.c0];exact Y.un _ cj,by rw[vP cn bn.c1];exact Y.un _ ck)
  have cp:B∉G++[I]:=λhm=>by obtain⟨i,cq,e⟩:=Asy hm;obtain⟨_,_,_,_,_,_,_,cs,_⟩:=U.el i B _ (mBk cq e) (mK (tV U.len cq));have:=cs.at_;rw[cf] at this;cases this
  have hlen:(G++[I]).length<=65:=by rw[U.len];have:=yU O;rw[Age,Asi,AsD] at this;have ct:=Xz l.nd l.lt;have:=ok.sl;rw[Asi,AsD];have:=List.length_take_le j g;rw[AsS] at*;omega
  refine(mI1 cm.at_ L);have cu:mMB G I B:=aC;rw[cu];obtain⟨cx,cy,cz⟩:=Agq lQ [];simp only[List.nil_append] at cy cz;have c0:J=cx:=by have:=O.symm.trans cy;exact(List.append_inj' this rfl).1
  refine(_,G++[I],B,J++[(lQ,k+1,)],0,f2.CA cm.mL _,(bx.trans g2.kp).trans (cm.mL.kp _),53)
  .rw[bj];exact cm.push cl co bk cp (λz=>by have:=U.at_;rw[<-z,cf] at this;cases this)
  rw[bj,cz k,c0]
 rintro σ C ⟨D,G,I,J,bf,rfl,bg,M,N,O⟩;rw[ArX,AsC] at N O;rw[<-O] at N;exact(0,ae L _ D C bg M N)
theorem Agr:∀(a pre:aB)(j:Nat)(x:gR),aGi[j]? =aW ->x.1.length=pre.length+j
 |[],pre,0,x,h=>by
  obtain rfl:(pre,0,)=x:=aKK;rfl
 |[],pre,j+1,x,h=>by simp[Dr] at h
 |k::a,pre,0,x,h=>by
  obtain rfl:(pre,k+1,)=x:=aKK;rfl
 |k::a,pre,j+1,x,h=>by
  have:=Agr a aGg j x aKK;rw[Asi,AsD] at this;omega
def KU(Z:Rf)(a:aB):Option aB:=(mGD BK aDU).find? (sc Z)
def ArE(t:Aw):Sp:=λvs H Q _=>∃(Z:Rf)(o:Bj)(n:Nat)(b:bI)(a:Addr)(d:aB),vs=[mF Z.p,aJ]/\ iH /\mCK H o b/\H a=oC d/\o a=none/\Rw Z d/\
 ∀(D:Addr)(H':Hp),(∀c u,H c=aM ->o c=none-> dO=aM)->H' D=oC ((KU Z d).getD [])->oQ D
def Ja(path:mZ gR):Prop:=∀(j:Nat)(x:gR),path[j]? =aW ->x.1.length=j
def Wfb(t:Aw)(Z:Rf)(o:Bj)(H:Hp)(a L:Addr)(b:aB)(c:Nat)(σ:St)(d:Hp):Prop:=∃(path:mZ gR)(bs:aQ)(e:Bj)(f:Nat)(g:bI)(h v4:bQ),c=mGD Gc path/\σ=[mH Z.p,mH a,mH L,h,v4]/\AO t Z.X d e f g/\I_ o H e d/\Ey t Z d e g L bs path/\Ja path/\(mGD BK path).find? (sc Z)=KU Z b
theorem Ja.pre{path:mZ gR}{x:gR}(h:Ja (mAm x)):Ja path:=λj y e=>h j y (mFX Ask (nL e).1)
theorem Ja.Ga{path:mZ gR}{x:gR}(h:Ja (mAm x)):x.1.length=path.length:=mC h (Tl _ _)
theorem Ja.snoc{path:mZ gR}{x:gR}(h:Ja path)(e:x.1.length=path.length):Ja (mAm x):=λj y hy=>by
 rcases JN hy with⟨_,g⟩|⟨i,g⟩
 .exact h j y g
 rw[g,i];exact e
theorem Tm:AD ["self","after","path","beginning","longer"] aCd (A0 AaC):=aG
theorem ArF(T:aE):A4 P w K mg base A9 56 t.Nq t.Acf aCd (ArE t):=by
 refine pF T.Nq.F.ok Tm
 .obtain⟨Z,o,n,ac,a,g,rfl,_⟩:=h;rfl
 obtain⟨Z,o,n,ac,a,g,rfl,ok,fs,ha,oa,ae,af⟩:=h;refine(_,(Ak (qJ Tm.nd (Bx aK T.Df.c T.Nr.h (ArD T) bR T.Nr.b .nil Ay dX))
  (Ak (Ka Asq (qY aX) (Ak (rW Tm.nd (qU aX eY))
  (Ak (AU (vL dI (mFt (sC C4) (mU kI))) (Ak (Cu (AeV (K:=K) rfl As3 F.slot_list_pop F.type_list_pop AiG aX))
  (Ao Yo)) AY)
  (Ak (qN Tm.nd (Bx aK T.Df.c T.Nt.h (Ar5 T) bR T.Nt.b .nil Ay (oP bB dI)))
  (Ak (GW bB Ar Jn)
  (Ao (AU (PW.pt (Gq (pL AhX bG Da) (Jk (D9 (Bx aK T.Df.c T.Nu.h (Ar7 T) bR T.Nu.b .nil Ay lE))))) (Ak (nI (D9 (Bx aK T.Df.c T.Nv.h (ArA T) bR T.Nv.b .nil Ay lE)) (oM gM))
  (Ao (Cu (mDx lE)))) AY)))))))
  (oM dM))),5)
 refine(59,wI fs.st,31,Z,o,n,ac,a,g,2,ok,fs,ha,oa,ae,λL ag ah H1 f1 ai aj=>(Wfb t Z o H a L g,(_,Dr [] g,ag,ah,n,ac,14,26,f1,ai,aj,λj x e=>by have:=Agr g [] j x e;simpa using this,2),5));rintro ak σ al ⟨path,bs,k,am,l,an,v4,rfl,rfl,m,ao,pi,p,B⟩;refine(mFk pi.at_);rcases AsR bs with ap|⟨C,b,ap⟩
 .subst ap;have aq:=uV (mAH pi.len);subst aq;refine Az ((mAI 0),λD ar=>af D _ (λc u e as=>?_) ?_)
  .have:=(tO ao as).1;rw[Ah (AR this ar)];exact this
  rw[Af,<-B];rfl
 rw[Atk] at ap;subst ap;obtain⟨G,r,u,rfl⟩:∃G r u,path=G++[(r,u,)]:=by
  rcases AsR path with h|⟨q,x,h⟩
  .have:=pi.len;rw[h] at this;simp at this
  exact(q,x.1,x.2,157)
 have au:oZ (!(aAF.map V.ref).isEmpty):=aC;rw[au];obtain⟨av,aw,ax,ay⟩:=pi.Ga;obtain⟨I,az,sa,a0,a1,used,J,a2,a3,a4,a5⟩:=id aw;have a6:=m.st;have a7:=wI a6;obtain⟨oq,a8,a9,_⟩:=ok.Di.of;have ba:pO (aAF.map V.ref)[(nH aAF.map).length - 1]? bU:=by rw[As7,Asn,AuX,Asi,AsD,At6];exact Tl _ _
 have bb:=Xz ax.nd ax.lt;have bc:aAF.length<=65:=by rw[pi.len,Asi,AsD,<-p.Ga];have:=ok.sl;show r.length+1<=65;omega
 refine Au (λbd H'=>∃be,be<mGD Gc (G++[(r,u,)])/\Wfb t Z o H a L g be bd H',λbd H' q=>q,(16,L,36,mN pi.at_,On (x:= bU) aC ba,(0,194,29,a7,30,mGB a6,52,T.RO,2,Z.OA,0,wZ a6 a8,80)));by_cases hu:u=Z.st.length
 .have hd:mO (u:Int)=V.int (((nH oq.map).length:Nat):Int):=(by rw[ArX,a9,hu]);rw[mW hd];refine Au (0,pY pi.at_,L,_,bU,26,pi.at_,ba,5);have bf:(nH aAF.map).dropLast=C.map V.ref:=aC;rw[bf];rw[hu] at B⊢;exact(_,Aro,G,C,k,am,l,_,v4,26,m.CA pi.mL _,ao.trans (pi.mL.kp _),pi.pop,p.pre,by rw[<-Ars (r:=r)];exact B)
 have hd:¬mO (u:Int)=V.int (((nH oq.map).length:Nat):Int):=by
  rw[ArX,a9];intro e;injection e with e
  omega
 rw[mT hd];have M:mGA u:=aA;refine Az (59,a7,202,194,Z,b,r,u,u,I,az,152,2,ok,a6,J,ax,M,λv bg s2 bh=>(0,b,_,I,3,pS J.at_,123,2,8,I,_,pS J.at_,142));rcases bh with⟨bi,rfl⟩|⟨bj,bk,N,O,rfl,bl,rN,bm,bo,g1,bp,bn,U,bq,br,bt,bu⟩
 .have g2:Gw Z.X.F k al l k bg l:=rL s2;have bv:=(pi.gw g2).X0 (u':=u+1) aA (J.same s2) a2 a3 a4 a5;have Y:=av.same s2;refine(0,31,Az (Az (_,Arp M bi,G++aG9,aAF,k,am,l,8,(m.same s2).CA Y _,(ao.trans g2.kp).trans (Y.kp _),bv,231,by rw[<-Art M bi];exact B)))
 obtain⟨f2,bw,g2⟩:=m.take s2 U bn.at_;have bx:mJo bg O:=λc u e hu z=>(mJp bn.at_);have bz:GL t Z bg (mBd k O) O eJ 0:=(bl,rN,bm,bo,g1,bp,bn,by rw[vP bx bn.row];exact m.un _ bq,by rw[vP bx bn.IZ];exact m.un _ br,by rw[vP bx bn.c0];exact m.un _ bt,by rw[vP bx bn.c1];exact m.un _ bu)
 have bv:=pi.gw g2;obtain⟨Y,_,_,_⟩:=bv.Ga;have b0:∀c,k c=none->(∃w,al c=mB w)->Ci k O (tP O) c=none:=λc h (b1,hw)=>(wR Cj (λz=>by rw[z,U] at hw;cases hw) h);have b2:=bv.X0 (u':=u+1) aA (J.same s2) (b0 _ a2 (pX J.row)) (b0 _ a3 (pX J.IZ)) (b0 _ a4 (pX J.c0)) (b0 _ a5 (pX J.c1));have b3:=f2.CA Y aHa;have b4:=bz.CA (u:= aHa) Y (λz=>by rw[z,J.at_] at U;cases U);have b5:C6 t Z.X (Aa bg b aHa) (mBd k O) l O:=bw.Aa;have b6:=(ao.trans g2.kp).trans (Y.kp aHa);have b7:O∉C++[b]:=λhm=>by obtain⟨i,b8,e⟩:=Asy hm;obtain⟨_,_,_,_,_,_,_,b9,_⟩:=pi.el i O _ (mBk b8 e) (mK (tV pi.len b8));have:=b9.at_;rw[U] at this;cases this
 generalize Ci k O (tP O)=ca at b2 b3 b4 b5 b6;refine aF8;obtain⟨cb,cc,cd,ce,cf,cg,ch,cj,ck,cl,cm⟩:=id b4;have cn:r++[u]≠[]:=aC;have co:eJ.length<=Z.ms:=(by rw[Asi,AsD];omega);refine(59,wI b3.st,31,Z,ca,am,l,O,eJ,64,cb,cc,cd,ce,cf,cg,2,ok,b3,ch,N,cn,co,λy n4 cp cq cr f4 cs ct=>aAl);have cu:=b2.gw cs;have cx:=(b5.gw cs ch.at_).2;have cy:=b4.gw b5 cs;have cz:=b6.trans cs.kp
 cases y with
 |false=>
  refine Az (_,Arq M bj bk,G++aG9,aAF,cp,n4,cr,8,f4,cz,cu,231,5);rw[<-Arv M bj bk (λx t' hx c0 hxm=>?_)]
  .exact B
  refine ct rfl x t' hx ?_ c0;rcases oG hxm with rfl|hxm
  .exact N
  obtain⟨c1,c2,_⟩:=Xx hxm N.nd N.lt;exact(c1,c2)
 |true=>
  obtain⟨c3,c4,c5,c6,c7,c8,c9,da,db,dc,dd⟩:=id cy;refine Au (59,wI f4.st,31,Z,cp,n4,cr,O,eJ,64,c3,c4,c5,c6,c7,c8,2,ok,f4,c9,N,cn,co,λn5 de df dg dh di=>aAl);have dj:=cu.gw di;have dk:=cy.gw cx di;have dm:=cz.trans di.kp
  cases dn:sc Z eJ with
  |true=>
   obtain⟨dp,dq,dr,ds,dt,du,dv,dw,dx,dy,dz⟩:=id dk;refine Au (0,O,_,dp,3,dv.at_,T.CW.c,T.NF,2,af dq df (λc u e as=>(tO dm as).1) ?_);rw[dv.row,<-B,Arw M bj bk dn];rfl
  |false=>
   refine Az (mI1 dj.at_ L);have d0:mMB C b O:=aC;rw[d0];refine(_,Arr M bj bk,mJh G,aAF++[O],de,n5,dg,8,dh.CA dj.mL _,dm.trans (dj.mL.kp _),dj.push ((cx.gw di c9.at_).2) dk N b7 (λz=>by have:=pi.at_;rw[<-z,U] at this;cases this),(Ja.snoc (x:=(r,u+1,)) p.pre p.Ga).snoc ?_,5)
   .have d1:=p.Ga;rw[Asi,Asi,d1];rfl
   rw[<-Arx M bj bk dn];exact B
theorem ArG(ok:m.Ok):aG0:=by
 have a:∀(i:Nat)(f:dH),cZ.length=AM aBI:=by
  intro i f
  induction f with
  |nil=>rfl
  |cons w f b=>
   rw[Asn,C7,<-b];show(aBL++cZ).length=_;rw[Asi];unfold CD;rw[ArX,As4]
 have c:∀(fs:jA)(i:Nat),(mBa i fs).length=AM (fs.map λf=>AM aBI):=by
  intro fs
  induction fs with
  |nil=>intro _;rfl
  |cons f fs b=>
   intro i;rw[Asn,C7,<-vF b,<-a i f];show(cZ++mBa (i+1) fs).length=_;rw[Asi]
 have d:aU.length<=255:=by show(mBa 0 m.feet).length<=255;rw[c];exact ok.size
 omega
theorem M4:(DJ h n).testBit p=(n.testBit p||(decide (p>=h)&&n.testBit (p - h))):=by unfold DJ;rw[Ate,Atr]
theorem ArH(h:nJ (aH.B2 n).testBit p):nJ aBE.testBit p:=by
 have a:aBE=DJ bX aC1:=rfl;have b:aH.Ej=DJ bX kO:=rfl;have c:∀i,kO.testBit i=true-> aC1.testBit i=true:=λi d=>by
  rw[AsE,Aui,Aup];rcases Atq i aU.length with q|q
  .exact q
  have e:kO<2 ^ aU.length:=(mMt Du);rw[mIt e q] at d
  cases d
 have f:(aH.Ej).testBit p=true-> aG1=true:=λh=>by rw[b,M4,Atx,AsF] at h;rw[a,M4,Atx,AsF];grind
 by_cases g:n=0
 .subst g;have j:aH.B2 0=aH.Ek^^^aH.Ej:=rfl;rw[j,AuR] at h;show(aH.Ek).testBit p=true
  cases hb:(aH.Ek).testBit p with
  |true=>rfl
  |false=>
   cases hc:(aH.Ej).testBit p with
   |true=>have:=f hc;rw[show aBE=aH.Ek from rfl,hb] at this;cases this
   |false=>rw[hb,hc] at h;cases h
 by_cases n1:n=1
 .subst n1;exact f h
 unfold BR.B2 at h;rw[mM g,mM n1] at h;exact h
theorem ArI(b:aJG){n c w p:Nat}(hm:c<=1)(hw:jB)(h:nJ (GB aH S n c w).testBit p):nJ aBE.testBit p:=by
 obtain⟨q,_,_,_,d,ha⟩:=(J6 aH S b n c w p hm hw).mp h
 cases e:Cq w (CP q) with
 |nil=>exact nK e d
 |cons s r=>
  rw[e] at ha;obtain⟨y,hy,_⟩:=ha;exact ArH hy.1
theorem X1:∀s:aCl,(cS).2.length<=s.length
 |[]=>aD
 | .cons c::r=>by have:=X1 r;simp only[Bs,List.length_cons];omega
 | .vowel g::r=>by have:=X1 r;simp only[Bs,List.length_cons];omega
theorem ArJ(ok:hG)(hk:mAX k)(m:Nat):(eK.sh m).A2.length<=1000:=by
 have a:=ok.le _ (PJ hk);have b:eK.DF.A2.length<= fU.length:=by show(mDB DU fU).A2.length<=_;unfold DU;rw[ArX];exact AsV (X1 _) (Adw 0 _)
 have c:eK.CO.A2.length<= eK.DF.A2.length:=AeC fU;unfold Wd.sh;split<;>omega
def NR:HO->Prop
 | .Ag _ _ []=>False
 | .Ag _ _ ((k,_)::_)=>k≠"stock"
 |_=>True
def Kr(H H':Hp):Prop:=∀c u,H c=aM ->NR u-> dO=aM
theorem Kr.of(s:aO):Kr H H':=λc u e _=>sS s
theorem Kr.trans(a:Kr H H1)(b:Kr H1 g):Kr H g:=λc u e n=>b c u (tO a n) n
theorem Kr.Aa(hp:H p=mB g)(i:¬NR g):Kr H (mD2 p):=λc v e n=>by rw[Ah (λz=>by rw[z,hp] at e;rw[<- jQ] at n;exact i n)];exact e
theorem DE.kr(h:wV q sh)(k:aCN):DE t H' q sh:=by obtain⟨d,b,g,i⟩:=h;exact(d,b,mEk k g ("lead":Str),uI k i)
theorem HN.kr(h:HN t H q S i)(k:aCN):HN t H' q S i:=by obtain⟨dx,sh,g,j,M,a1,a2,s,u,v⟩:=h;exact(dx,sh,g,j,M,mEk k a1 ("vowel_first":Str),uI k a2,s.kr k,u.kr k,v)
theorem JF.kr(h:JF t H SA S)(k:aCN):JF t H' SA S:=by obtain⟨g,j,s,u⟩:=h;exact(g,uI k j,s,λi q e=>(u i q e).kr k)
theorem Qk.kr(h:mMw H)(k:aCN):Qk t H' p dx m st Aq ms A7 S so SA OA:=by obtain⟨oq,g,i,s⟩:=h.of;exact(mEk k h.at_ ("most":Str),h.Xu.kr k,(oq,uI k g,i,λj q e=>(s j q e).kr k),h.AH,h.Bl,h.Ql,h.ms2,h.ms3,h.sl,h.Ol,h.BQ)
theorem F9.kr(h:F9 H c cuts)(k:aCN):F9 H' c cuts:=by obtain⟨g,i,q,s⟩:=h;exact(g,uI k i,q,λj p x a b=>uI k (s j p x a b))
theorem KM.kr(h:KM H v f)(k:aCN):KM H' v f:=by obtain⟨g,i,j,q,s⟩:=h;exact(g,i,uI k j,uI k q,uI k s)
def ArK(K:PySem.W.Frag)(t:Aw):Sp:=λvs H Q _=>∃(Hs:Hp)(p dx mp L:Addr)(m:Bi)(st:bW)(Aq:Nat),vs=[aS,mF mp,mF L,wD mE]/\Ab Hs H/\Hs p=none/\H p=rX t.CB/\mCc Hs/\m.Ok/\Hs L=zX st/\ hG /\st.length<=64/\Aq<=12/\Od K t.CM/\
 ∀(Z:Rf)(o:Bj)(H':Hp),Z.p=p->Z.m=m->Z.st=st->Z.Aq=Aq-> iH ->AO t Z.X H' o 0 []->mFs Hs->(∀c u,Hs c=aM ->o c=none)-> cW
theorem Agt:AD ["self","measure","texts","most","outlook"] aCc (A0 AaB):=aG
theorem ArL(T:aE):A4 P w K mg base A9 8 t.Np t.Ace aCc (ArK K t):=by
 refine mBZ T.Np.F.ok Agt
 .obtain⟨Hs,p,dx,mp,L,m,st,Aq,rfl,_⟩:=h;rfl
 obtain⟨Hs,p,dx,mp,L,m,st,Aq,rfl,ab,g,hp,hm,j,ac,l,ae,af,ag,ah⟩:=h;have n:=ArG j;refine(_,(Ak (nW (Dc T.EN.k (Ark T) dW rfl T.EN.m T.Nn.b .nil Ay (Ad aP (pM 2 3))))
  (Ak (nW (Dc T.B6.k (AqJ T) dW rfl T.B6.m T.Nl.b .nil Ay dX))
  (Ak (qN Agt.nd (Dc T.Em.k (Aqs T) dW rfl T.Em.m T.Ng.b .nil Ay (Ad aY (vO kI))))
  (Ao (nW (Dc T.B_.k (Aqe T) dW rfl T.B_.m T.MY.b .nil Ay (Ad aY (oP kI bG)))))))),5)
 refine(42,λSP dS ai aj ak=>?_);have al:Ab H (Aa (qX H dS SP) SP (.Ag t.Cp dS [])):=xF aj ai;refine(SP,dS,mp,L,m,st,Aq,215,(hm.same ab).same al,j,nV al ab ac,l,ae,ag,λms A7 S so SA OA H1 am an=>fT);have s1:Ab H H1:=am.JE al (mA7 ai);have ao:=rF hp;refine(72,ao,62,T.Jt,aZ,5);rw[show Cn "stock" (nE SP) []=([("stock",mF SP,)]:oU V) from rfl];have ap:Kr H1 (mY H1 aHb):=Kr.Aa ao (λz=>z);have aq:xB H1 aHb:=Af;have ar:Ab Hs (mY H1 aHb):=λc u e=>by rw[oF g];exact nV s1 ab e
 generalize Aa H1 p aHb=as at ap aq ar;refine(0,λPA o au av aw=>?_);have ax:Ab as (Aa (qX as o PA) PA (.Ag t.A_ o [])):=xF av au;refine(PA,o,mp,m,215,(hm.same ar).same ax,j,n,λd f ay az q a0 a1 a2 a3 a4 a5=>fT);have s3:Ab as q:=a0.JE ax (mA7 au);have a6:=rZ aq;refine(72,a6,62,T.NG,198);rw[show Cn "places" (nE PA) [("stock",mF SP,)]=((mJq mF):oU V) from rfl];have y:Kr q (mY q aHc):=Kr.Aa a6 (λz=>z rfl);have B:mEf q aHc:=Af;have a7:Ab Hs (mY q aHc):=λc u e=>by rw[oF g];exact nV s3 ar e
 generalize Aa q p aHc=C at y B a7;have G:=((an.kr ap).kr (Kr.of s3)).kr y;have a8:=mEk y a1 ("half":Str);have a9:=a2.kr y;have ba:=uI y a3;have I:aKi:=λi J=>by obtain⟨k,hk,e⟩:=an.BQ i J;rw[e];exact(KI l hk,ArJ l hk)
 have bb:=an.Ql;refine(17,B,122,17,B,91,G.at_,52,T.RN,2,17,B,91,G.at_,192,2,λO M bc bd be=>?_);have bf:Ab C (Aa (qX C M O) O (.Ag t.DD M [])):=xF bd bc;refine(C,O,M,PA,SA,aH,S,ms,2,bf,bc,Af,AfM (t:=t) n a8 a9 ba,G.Xu,I,4,λVA bg N bh bi bj bk bl bm bn=>fT);have s5:Ab C N:=bi.JE bf (mA7 bc);have U:=mC s5 B;have bo:=G.kr (Kr.of s5);refine(17,U,122,17,U,91,bo.at_,52,T.RN,31,λF dF hF bp bq=>?_);have br:Ab N (Aa (qX N dF F) F (.Ag t.AV dF [])):=xF bp hF;refine(F,dF,PA,SA,O,M,mF VA,bg,215,(λz=>by rw[z,bj] at hF;cases hF),mC br bj,bk,λD bs bt=>fT);have bu:mV N D:=BL br bt;have bv:p≠F:=AR U hF;have bw:p≠D:=AR U bu;have Y:Ab N (Aa aHd F aHe):=λc u e=>by rw[oF hF,oF bu];exact mC br e
 have bx:xJ aHd F aHe:=Af;have bz:oI (Aa aHd F aHe) D hY:=(wE Ah bs);generalize Aa aHd F aHe=b0 at Y bx bz;refine(72,mC Y U,62,T.Vw,aAu,5);rw[show Cn "finisher" (nE F) (mJq mF)=IY SP PA F from rfl];have b1:Kr N (mBe N):=Kr.Aa U (λz=>z rfl);obtain⟨tw,b2⟩:=AqM n a5;have b3:=(Kr.of s5).trans b1;have b4:=mEk b3 a8 ("half":Str);have b5:=bo.kr b1;have b6:∀c,N c=none->c≠p->(mBe N) c=none:=λc h hc=>(oY hc h);have b7:∀a∈ gH,DR a:=λa ha=>by obtain⟨x,hx,rfl⟩:=nY ha;obtain⟨i,J,e⟩:=Asy hx;have:=(I i J).1;unfold AH at this;rw[Asv,mK J,Option.getD_some,e] at this;exact this
 have fw:DT t aPT:=
  (by show ms<=12;omega,AfM (t:=t) n b4 (a9.kr b3) (uI b3 ba),(o,_,ay,az,b4,2,uI b3 (uI y a4),λp hp=>(b2 p hp).1),λp hp=>(b2 p hp).2,b5.Xu,(bh,uI b1 bl,bm,λr v e=>(bn r v e).kr b1),λi J=>(I i J).1,b5.Ol,b5.sl,λi b8 J=>(I i J).2 b8,λr b8 b9 ca cb cc cd=>ArI b7 cb cc cd)
 have ce:Ab (mBe N) (mBe b0):=λc u e=>by
  by_cases hc:c=p
  .subst hc;rw[Af] at e⊢;exact e
  rw[gO] at e⊢;exact mC Y e
 have cf:Ab Hs (mBe b0):=λc u e=>by rw[oF g];exact mAj s5 a7 e
 have cg:∀c u,(mBe N) c=aM ->(λc=>if c=F\/c=D then tP F else none:Bj) c=none:=λc u e=>by
  show aPU=none;rw[Asa];rintro(z|z)
  .rw[z,b6 F hF (Asr bv)] at e;cases e
  rw[z,b6 D bu (Asr bw)] at e;cases e
 refine ah (aPT,p,m,st,Aq,ms,A7,so,dx,SP,dS,OA) (λc=>if c=F\/c=D then tP F else none) _ rfl rfl rfl rfl (fw,26,j,l,209,Af,b5) (5,mJ bA,5,mJ eB,4,Auw,ce,cg,λc e=>?_,9) cf aGA
 .rw[nX bv];exact bx
 .rw[nX bw];exact bz
 .show aPU=none;rw[Asa];rintro(z|z)
  .rw[z,nX bv,bx] at e;cases e
  rw[z,nX bw,bz] at e;cases e
 exact cg c u (by rw[oF g];exact nV s5 a7 e)
theorem ArM(h:mCh 12):(mAb 12 r).take r.length=r:=by
 apply AsJ;intro i;by_cases a:i<r.length
 .rw[Awo a];unfold Kgz1.padded;rw[ArY,AsY aA,AuU,Asv,mK a];rfl
 grind
theorem ArN(ok:iH)(h:Rw Z b)(c:b.length<=Z.Aq):mMC b=KU Z b:=by
 have e:mMC b=(Kgz2.rows Z.st.length Z.Aq).find? (λr=>(b==[]||Kgz2.before b r)&&sc Z r):=by unfold Kgz2.first;rw[ArX];rfl
 rw[e,AnY _ _ _ _ c h.lt h.nd];refine Arn ok.Di.Ql c h.lt h.nd λx d f g i=>?_;refine ok.Di.ms3 x d f g ?_;have:=Aoe ok.F_ (x.map (Wk Z.st)) (λa ha=>by
  obtain⟨k,hk,rfl⟩:=nY ha;exact KI ok.Fx (f k hk)) (λa ha=>by
  obtain⟨k,hk,rfl⟩:=nY ha;exact AeC _) (((WK ok.F_ ok.Fx x f).mp i).2)
 rw[AsB] at this;exact this
theorem Agu(ok:iH)(h:Rw Z a)(b:a.length<=Z.Aq)(e:KU Z a=mB r):mCh 12:=by have hm:=Awf e;rw[Xw Z.st.length Z.ms Z.Aq ok.Di.Ql,AtO] at hm;have:=(Agd b h.lt h.nd hm.1).2.2;have:=ok.m12;omega
theorem ArO(h:nJ G6 st):hG /\st.length<=64:=by
 unfold G6 at h;simp at h;obtain⟨⟨_,a⟩,b,h4⟩:=h;refine((λx hx e=>?_,eA,λx hx=>AsL.mpr (pI h4)),a)
 .have:=pI b;unfold FW at this;rw[e] at this;simp at this
 have:=pI b;unfold FW at this;grind
theorem Tn:AD ["most","measure_numbers","after","stock","measure","texts","row"] aFw (A0 AaX):=aG
theorem ArP(aa:Od K t.CM)(T:aE):A4 P w K mg base A9 57 t.Jr t.R7 aFw (Wl K):=by
 refine T.Jr.F.ok Tn cO (λab A outer s H vs Q E b h=>?_)
 .obtain⟨Aq,m,a,L,d,f,st,rfl,_⟩:=h;rfl
 obtain⟨Aq,m,a,L,d,f,st,rfl,ac,ha,ae,af,ag,ah,ai,k⟩:=h;obtain⟨aj,ak,al⟩:=T.V4;obtain⟨am,an,ao⟩:=T.Akv;obtain⟨ap,aq,ar⟩:=T.AcK;obtain⟨as,au,av⟩:=T.Akq;refine(_,(Ak (qN Tn.nd (mK5 dW))
  (Ak (nI (xA bG) (mCe ak al))
  (Ak (sQ Tn.nd (Bb (Anr T) dW rfl T.LQ.m T.LQ.F.kp T.LQ.b .nil Ay (mU bB)))
  (Ak (nI (PW.pt (Id (xA bJ) (JX (mHQ aK (nP an ao))))) (mCe aq ar))
  (Ak (nI (Ff (D9 (Bb (An0 T) dW rfl T.LR.m T.LR.F.kp T.LR.b .nil Ay (Ad aX (oP (uX pv 5) aK))))) (mCe au av))
  (Ak (uC Tn.nd (Bx (Dc T.Df.k (ArL T) dW rfl T.Df.m T.Np.b .nil Ay (Ad bG (oP bJ aK))) T.Df.c T.Nq.h (ArF T) dW T.Nq.b .nil Ay jX))
  (Ao (A3 (AE HC (rY (uX pv 6)) cA))))))))),5)
 refine(0,m,mCg d.map,2,by rw[<-HI];exact ac,by rw[ArX];exact af,λn aw=>?_,λax H1 s1 g=>?_)
 .obtain⟨x,_,rfl⟩:=nY aw;omega
 rw[Mg] at g;have j:=T1 d;have FN:∀(i:Int)(q:Hp),Ab H q->mJr d=Kgz2.say i->(iv (([]:aB).take i.toNat)=([]:aL))->∀D,q D=none->Q hE (nD q D [eV]):=λi q ay y _ D B=>by rw[y] at k;refine k D _ (pC ay B) (ay.free B) ?_;rw[Af];unfold KA Kgz2.say;simp
 cases hm:Je d with
 |none=>
  rw[hm] at g j;obtain rfl:ax= .Ax:=g;have y:mJr d=Kgz2.say (-22):=(by show aF6=_;rw[j];rfl);exact(0,31,Au (92,λD B=>FN (-22) H1 s1 y rfl D B))
 |some az=>
  rw[hm] at g j;obtain⟨mp,rfl,a0⟩:=g;have C:mJr d=if aN0=false then Kgz2.say (-23) else if Aq<f.length\/(f.length≠0/\Kgz2.isRow st.length Aq f=false) then Kgz2.say (-24) else match Kgz2.first (E2 az) gN Aq f with
   |none=>Kgz2.say 0
   |some r=>((r.length:Nat),mAb 12 r):=by show aF6=_;rw[j];rfl
  refine(mCf (0,L,st,2,ae.same s1,ah,λx hx=>(pI ai).1,λv a1 s2 G=>?_));have I:=lJ;rw[An6 (λl a2=>(ai l a2).2)] at C;unfold P6 at G
  cases J:G6 st with
  |false=>
   rw[J,bS] at G;subst G;rw[J,At5,bF] at C;exact(0,31,Au aKL)
  |true=>
   rw[J,bF] at G;obtain⟨a3,rfl,a4,a5⟩:=G;rw[J,AtS] at C;refine(mCf aPf);by_cases a6:1<=Aq
   .rw[wD mAP];refine aDG;by_cases M:Aq<=12
    .rw[mW (by omega:(Aq:Int)<=12)];rw[mW (a6,M),bS] at C;refine Az (16,a3,0,uB a5,78,f,st.length,Aq,by rw[ArX];rfl,nA I ha,M,λa7 s3=>aAl);have N:=nB I s3
     cases O:J2 st.length Aq f with
     |false=>
      rw[mJ ((Aen _ _ _).mpr O)] at C;exact Au (92,λD B=>FN (-24) a7 N C rfl D B)
     |true=>
      rw[mM (λz=>by rw[(Aen _ _ _).mp z] at O;cases O)] at C;have U:f.length<=Aq/\f.Nodup/\∀x∈f,x<st.length:=by unfold J2 at O;simp at O;exact O
      obtain⟨a8,a9⟩:=ArO J;refine Az (42,λp dp hp ba bb=>(a7,p,dp,mp,a3,az,st,Aq,2,xF ba hp,hp,Af,(a0.same s2).same s3,T2 hm,rZ a5,a8,a9,M,aa,λZ o bc bd be e3 bf ok fs s4 bg=>fT));subst bd be e3 bf;have bh:=mC N ha;have Y:Rw Z f:=(U.2.1,U.2.2);refine(Z.p,Z.dx,0,wI fs.st,31,Z,o,64,[],a,f,2,ok,fs,mC s4 bh,mC bg bh,Y,λbi bj keep bk=>?_);have bl:Ab H bj:=λc u e=>keep c u (nV s4 N e) (bg c u (mC N e));rw[(ArN ok Y U.1)] at C;have hlen:mBm (KU Z f).getD [] 12:=by
       cases hw:KU Z f with
       |none=>exact aT
       |some r=>exact Agu ok Y U.1 hw
      refine(0,bi,0,uB bk,jH,λbm bn=>?_);have bo:Ab bj (Aa bj bm (.Ac [mE (((iv ((KU Z f).getD [])).length:Nat):Int)])):=mS bn;refine(0,bm,bi,8,Af,mC bo bk,AL (mBF AsD),λD B=>?_);refine k D _ (pC (nB bl bo) B) ((nB bl bo).free B) ?_;rw[Af,C]
      cases hw:KU Z f with
      |none=>rfl
      |some r=>
       unfold KA;show oR HO.Ac (mO (((iv r).length:Nat):Int)::iv r)=some (HO.Ac (mO ((r.length:Nat):Int)::iv ((mAb 12 r).take ((r.length:Nat):Int).toNat)));rw[AtN,ArM (Agu ok Y U.1 hw),ArX]
    rw[mT (by omega:¬(Aq:Int)<=12)];rw[mT (λz=>M z.2),bF] at C;exact aKL
   rw[wD mAQ];rw[mT (λz=>a6 z.1),bF] at C;exact Az (0,aKL)
end
end Vp
namespace Vp
open PySem PySem.Spec L2 PySem.W
theorem Agv:∀{ns:bH},aI1 ->ci iX=ns
 |[],_=>rfl
 |z::r,h=>by
  show((z.toNat:Nat):Int)::ci (uZ Int.toNat)=z::r;rw[Agv λy hy=>pA h y hy,Int.toNat_of_nonneg (h z AsG)]
theorem ArQ(K:PySem.W.Frag)(H:Hp)(a:Addr)(ns:bH)(Av:NI ns)(b:hW):Wm K cR H aPV λ_ _ _=>False:=by obtain⟨c,d,f⟩:=Av;have e:=Agv d;have g:iX.length<=30000:=(oL ArX c);have h:nJ PyKgz.answers_asked (ci iX):=(oL e f);obtain⟨cv,g1,g2,g3,i⟩:=Anl iX g h;rw[e] at i;refine(a,iX,_,cv,2,5,g,g1,g2,g3,λD H' _ _ j=>(D,2,by rw[j,i]));rw[HI];show uS ((ci iX).map V.int);rw[e];exact b
end Vp
theorem PySem.Challenge.cw_versefeet_s01_answers_holds : PySem.Challenge.rw_versefeet_s01_answers.Holds := by
 exact Vp.early Vp.Wm (λK H a ns h g=>Vp.ArQ K H a ns h g) λw K mg base t hc T=>Vp.Ana (Vp.ArP hc T) T
