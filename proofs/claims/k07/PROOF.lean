import PyProof.Rows.All
import Wide.All
import OpenK.AllK
import Wide.FinOn
import Lean
import PyProof.EqAt
import PyProof.EqKinds
import PyProof.TupleCall
import PyProof.AttrMissHeap
import KE.KDictOf
import PyProof.ConsumeWalk
import PyProof.ZipIter
import PyProof.EnumMake
import KE.KEqDict
import KE.KDictSum
import KE.KItemsList
import PyProof.CallStr
import PyProof.CollectIter
import PyProof.FString
import PyProof.FString5
import PyProof.FactsAll.tuple_2
import PyProof.FactsAll.zip_1
import PyProof.ListMulRoad
import PyProof.ListRange
import PyProof.MeetsStr
import PyProof.NeKinds
import PyProof.Rows.ReprOcc
import PyProof.Rows.RuleDivmod
import PyProof.Rows.SortShell
import PyProof.Rows.StrWeight2
import PyProof.StrCalls2
import PyProof.StrCalls5
import PyProof.StrWalks
import PyProof.WalksMore
import PySem.Challenge.RW_neverstuck_k07_whole_other_words
set_option Elab.async false
set_option linter.all false
set_option maxRecDepth 100000
set_option maxHeartbeats 4000000
set_option compiler.small 0
set_option compiler.extract_closed false
set_option compiler.reuse false
noncomputable section
local macro_rules | `(tactic| ac_nf) => `(tactic| kernel_rfl)
abbrev Qj:=@PySem.wpAny_bind
abbrev Qk:=@List.length_map
abbrev Ql:=@PySem.Heap.get?_push_of_some
abbrev Qm:=@PySem.wpAny_pure
abbrev Qn:=@List.mem_of_getElem?
abbrev Qo:=@List.getElem?_eq_some_iff
abbrev Qp:=@if_pos
abbrev Qq:=@Nat.le_refl
abbrev Qr:=@List.getElem?_eq_getElem
abbrev Qs:=@List.mem_cons_of_mem
abbrev Qt:=@List.map_cons
abbrev Qu:=@if_neg
abbrev Qv:=@List.mem_cons_self
abbrev Qw:=@PySem.Heap.lt_size
abbrev Qx:=@PySem.Heap.get?_push_size
abbrev Qy:=@List.getElem?_map
abbrev Qz:=@List.mem_map
abbrev QA:=@List.size_toArray
abbrev QB:=@Nat.le_trans
abbrev QC:=@List.mem_singleton
abbrev QD:=@List.length_append
abbrev QE:=@List.getElem?_append_left
abbrev QF:=@Nat.ne_of_lt
abbrev QG:=@List.map_append
abbrev QH:=@List.mem_append_right
abbrev QI:=@List.length_cons
abbrev QJ:=@Bool.and_eq_true
abbrev QK:=@List.mem_cons
abbrev QL:=@Option.map_eq_some_iff
abbrev QM:=@Nat.le_add_right
abbrev QN:=@List.map_map
abbrev QO:=@Int.toNat_natCast
abbrev QP:=@List.length_take
abbrev QQ:=@Bool.false_eq_true
abbrev QR:=@List.getElem?_append_right
abbrev QS:=@List.mem_append
abbrev QT:=@Option.map_some
abbrev QU:=@List.length_range
abbrev QV:=@Array.getElem?_eq_getElem
abbrev QW:=@Nat.lt_of_lt_of_le
abbrev QX:=@Option.bind_some
abbrev QY:=@PySem.Heap.size_push
abbrev QZ:=@List.take_length
abbrev Q0:=@List.filterMap_cons
abbrev Q1:=@Bool.and_eq_true_iff
abbrev Q2:=@PySem.F.plainAttrs_list
abbrev Q3:=@of_decide_eq_true
abbrev Q4:=@PySem.sizeLine_eq
abbrev Q5:=@PySem.Around.under_plainId
abbrev Q6:=@List.length_singleton
abbrev Q7:=@decide_eq_false
abbrev Q8:=@decide_eq_true
abbrev Q9:=@PySem.wpAny_holding
abbrev Ra:=@List.getElem?_take_of_lt
abbrev Rb:=@Array.mem_toList_iff
abbrev Rf:=@List.lookup_cons
abbrev Rg:=@Bool.false_ne_true
abbrev Rh:=@PySem.wpAny_call_entry
abbrev Ri:=@PySem.wpAny_newObj_type
abbrev Rj:=@PySem.wpAny_callSpecial?_slot
abbrev Rk:=@decide_eq_true_eq
abbrev Rl:=@List.getElem?_set_ne
abbrev Rm:=@PySem.wpAny_mono
abbrev Ro:=@PySem.codeAny_builtin
abbrev Rp:=@PySem.PassesOwn.never
abbrev Rq:=@PySem.wpAny_field
abbrev Rr:=@List.getElem?_eq_none
abbrev Rt:=@PySem.F.slot_list_append
abbrev Ru:=@List.append_nil
abbrev Rv:=@Int.emod_nonneg
abbrev Rw:=@Nat.zero_le
abbrev Rx:=@PyProof.Rows.slot_tuple_getitem
abbrev Ry:=@List.getElem?_set_self
abbrev Rz:=@PySem.F.type_list_append
abbrev RA:=@Array.length_toList
abbrev RB:=@Array.getElem?_toList
abbrev RC:=@List.append_assoc
abbrev RD:=@PySem.wpAny_truthy_bool
abbrev RE:=@PySem.F.called_set
abbrev RF:=@List.mem_append_left
abbrev RG:=@Int.emod_lt_of_pos
abbrev RH:=@PySem.W.kia_one
abbrev RI:=@List.nodup_cons
abbrev RJ:=@List.all_eq_true
abbrev RK:=@PySem.wpAny_seqItems
abbrev RL:=@List.mem_range
abbrev RM:=@Ne.symm
abbrev RN:=@PySem.wpAny_setState_of
abbrev RO:=@PySem.Heap.get?_update_self
abbrev RP:=@List.getElem?_cons_succ
abbrev RQ:=@List.any_eq_true
abbrev RS:=@Int.eq_ofNat_of_zero_le
abbrev RT:=@PyProof.Rows.callWith_type1
abbrev RU:=@PySem.wpAny_rule
abbrev RV:=@Bool.not_true
abbrev RW:=@List.nodup_append
abbrev RX:=@List.getD_eq_getElem?_getD
abbrev RY:=@PySem.mem_of_lookup
abbrev RZ:=@List.replicate_succ
abbrev R3:=@List.length_nil
abbrev R6:=@List.take_append_drop
abbrev R8:=@List.mem_iff_getElem?
abbrev R9:=@List.length_filterMap_le
abbrev Sa:=@PySem.wpAny_standAt
abbrev Sd:=@List.length_set
abbrev Se:=@Bool.eq_iff_iff
abbrev Sf:=@if_false
abbrev Sg:=@beq_self_eq_true
abbrev Sh:=@PySem.Heap.get?_update_other
abbrev Si:=@PySem.plainId_quiet
abbrev Sj:=@PyProof.Rows.F.plain_set_update_loop
abbrev Sk:=@List.foldl_cons
abbrev Sl:=@bne_self_eq_false
abbrev Sn:=@Array.all_eq_true_iff_forall_mem
abbrev So:=@List.any_cons
abbrev Sq:=@List.take_zero
abbrev Sr:=@List.take_append_of_le_length
abbrev Ss:=@Nat.lt_or_ge
abbrev Su:=@List.mem_filterMap
abbrev Sv:=@List.map_nil
abbrev Sw:=@PySem.wpAny_isInstance
abbrev Sx:=@PySem.wpAny_askSetting
abbrev Sy:=@Nat.not_lt_zero
abbrev Sz:=@List.find?_cons
abbrev SD:=@Bool.or_eq_true
abbrev SF:=@PySem.F.slot_list_extend
abbrev SH:=@Nat.lt_succ_of_lt
abbrev SJ:=@List.flatten_cons
abbrev SK:=@PySem.wpAny_pyIter_tuple
abbrev SN:=@PySem.wpAny_passesOwn
abbrev SO:=@List.take_succ
abbrev SR:=@Array.getElem?_eq_some_iff
abbrev SU:=@PySem.hashByValue_scannable
abbrev SV:=@PySem.F.slot_enumerate_next
abbrev SX:=@Nat.zero_add
abbrev SY:=@Nat.lt_succ_self
abbrev S8:=@Classical.byContradiction
abbrev S9:=@beq_eq_false_iff_ne
abbrev Ta:=@List.map_congr_left
abbrev Tb:=@PySem.F.slot_tuple_iterator_next
abbrev Tc:=@Nat.lt_irrefl
abbrev Td:=@List.Perm.eq_of_pairwise
abbrev Te:=@Nat.min_le_left
abbrev Tf:=@List.sum_append
abbrev Tg:=@List.nil_append
abbrev Th:=@beq_iff_eq
abbrev Ti:=@PySem.codeAny_mono
abbrev Tj:=@List.filterMap_map
abbrev Tn:=@PySem.Str.length_append
abbrev To:=@Nat.add_sub_cancel_left
abbrev Tr:=@if_true
abbrev Ts:=@PySem.wpAny_comprehension_free
abbrev Tt:=@PySem.wpAny_specialOf
abbrev Tu:=@PySem.wpAny_Call_Name_kw
abbrev Tv:=@PySem.wpAny_getItem_str_slice
abbrev Tw:=@List.set_append_right
abbrev Tx:=@List.length_drop
abbrev TB:=@List.all_cons
abbrev TC:=@PySem.wpAny_pyIter_list
abbrev TF:=@PySem.SetTable.insertAt_perm
abbrev TH:=@PySem.F.slot_tuple_hash
abbrev TJ:=@List.getElem?_of_mem
abbrev TL:=@PySem.wpAny_forIn_list
abbrev TN:=@PyProof.Rows.F.entry_set_update_loop
abbrev TQ:=@Nat.ne_of_gt
abbrev TR:=@Nat.lt_trans
abbrev TV:=@PySem.wpAny_attempt
abbrev TX:=@List.nodup_nil
abbrev TY:=@Array.forIn_toList
abbrev TZ:=@PySem.Heap.SameBut.update
abbrev T8:=@PySem.F.plain_extend_loop
abbrev T9:=@Nat.le_succ
abbrev Ua:=@PySem.wpAny_typeOf
abbrev Ub:=@PySem.F.type_list_extend
abbrev Uc:=@PySem.F.args_tuple_add_2
abbrev Ud:=@PySem.tupleKind_room_in1
abbrev Ue:=@PySem.isSubtype_stop
abbrev Ug:=@PySem.Obj.data_mapFields
abbrev Uh:=@PySem.F.entry_tuple_add
abbrev Ui:=@Option.join_eq_some_iff
abbrev Uj:=@Option.bind_eq_some_iff
abbrev Uk:=@Nat.succ_le_succ
abbrev Ul:=@List.not_mem_nil
abbrev Um:=@List.getElem_mem
abbrev Uo:=@List.getElem?_replicate
abbrev Ur:=@PySem.F.slot_tuple_add
abbrev Us:=@List.take_of_length_le
abbrev Ut:=@List.find?_cons_of_neg
abbrev Uu:=@Array.getElem?_eq_none
abbrev Uv:=@PySem.wpAny_letGo
abbrev Uw:=@PySem.fits_of_scanBound
abbrev Ux:=@Nat.min_eq_left
abbrev Uy:=@Array.mem_of_getElem?
abbrev UA:=@List.mem_of_mem_take
abbrev UB:=@PySem.wpAny_pyNext_list_item
abbrev UC:=@PySem.call_meets
abbrev UD:=@List.getElem?_range
abbrev UE:=@PySem.wpAny_updateSeq
abbrev UG:=@PySem.wpAny_execs_nil
abbrev UH:=@PySem.post_val_or_str
abbrev UI:=@PySem.codeAny_of_tree
abbrev UJ:=@PySem.F.slot_zip_next
abbrev UK:=@Nat.add_assoc
abbrev UL:=@List.sum_cons
abbrev UM:=@PySem.wpAny_pyNext_list_end
abbrev UN:=@List.getElem?_take
abbrev UO:=@PySem.wpAny_updateSeq_pair
abbrev UP:=@PySem.isSubtype_type
abbrev UQ:=@Option.isSome_map
abbrev UR:=@Nat.lt_trichotomy
abbrev US:=@Nat.le_of_lt
abbrev UT:=@Nat.add_left_comm
abbrev UU:=@Nat.add_comm
abbrev UW:=@List.take_sublist
abbrev UX:=@List.foldl_append
abbrev UY:=@List.ext_getElem?
abbrev UZ:=@PySem.wpAny_setEntries_of
abbrev U0:=@List.mem_toArray
abbrev U1:=@List.isEmpty_nil
abbrev U2:=@List.cons_append
abbrev U3:=@Array.toList_inj
abbrev U4:=@PySem.wpAny_onRaise
abbrev U5:=@List.eq_nil_of_length_eq_zero
abbrev U6:=@List.of_mem_zip
abbrev U7:=@List.forIn_cons
abbrev U8:=@Array.getD_eq_getD_getElem?
abbrev U9:=@or_false
abbrev Va:=@PySem.wpAny_assign_Name
abbrev Vb:=@PySem.eqIsQuiet_byValue
abbrev Vc:=@Nat.not_lt
abbrev Vd:=@Nat.mod_lt
abbrev Ve:=@List.length_eraseIdx_of_lt
abbrev Vf:=@Bool.and_false
abbrev Vg:=@PySem.F.slot_dict_getitem
abbrev Vh:=@List.pairwise_iff_getElem
abbrev Vi:=@List.drop_eq_getElem_cons
abbrev Vj:=@PySem.noFill_tuple_add
abbrev Vk:=@PySem.Around.in1_units
abbrev Vl:=@Option.isSome_iff_exists
abbrev Vm:=@List.length_erase_of_mem
abbrev Vn:=@Bool.true_and
abbrev Vo:=@Bool.or_false
abbrev Vp:=@decide_eq_false_iff_not
abbrev Vq:=@List.pairwise_mergeSort
abbrev Vr:=@List.getElem?_cons_zero
abbrev Vs:=@PySem.W.cellsFrom_some
abbrev Vt:=@PySem.SeqAt.eqAt_reads
abbrev Vu:=@PySem.F.plainAttrs_str
abbrev Vv:=@PySem.F.args_tuple_iterator_next_1
abbrev Vw:=@Nat.sub_self
abbrev Vx:=@List.length_pos_of_mem
abbrev Vy:=@List.find?_cons_of_pos
abbrev Vz:=@List.filterMap_flatMap
abbrev VA:=@Int.ediv_one
abbrev VB:=@PySem.F.entry_tuple_iterator_next
abbrev VC:=@PyProof.Rows.assignInOrder_cons
abbrev VD:=@List.length_replicate
abbrev VE:=@List.getElem?_toArray
abbrev VF:=@List.filterMap_eq_map
abbrev VG:=@List.filterMap_append
abbrev VH:=@PySem.wpAny_setField
abbrev VI:=@PySem.wpAny_runValue
abbrev VJ:=@PySem.wpAny_newTuple
abbrev VL:=@PySem.Calls.Name_function_global
abbrev VM:=@Nat.pow_le_pow_right
abbrev VN:=@List.Pairwise.of_map
abbrev VO:=@Array.getElem_of_mem
abbrev VP:=@PySem.Calls.call_function_entry
abbrev VQ:=@List.mergeSort_perm
abbrev VR:=@Int.toNat_of_nonneg
abbrev VS:=@PySem.seq_tuple_add
abbrev VT:=@PySem.W.kitx_tuple
abbrev VU:=@Nat.eq_or_lt_of_le
abbrev VW:=@Nat.add_sub_cancel
abbrev VX:=@List.pairwise_cons
abbrev VY:=@List.map_filterMap
abbrev VZ:=@List.getElem?_drop
abbrev V0:=@PySem.putSet_of
abbrev V1:=@PySem.W.kitx_list
abbrev V2:=@PySem.W.kitx_dict
abbrev V3:=@PySem.F.args_enumerate_next_1
abbrev V4:=@Nat.le_succ_of_le
abbrev V5:=@List.getElem?_set
abbrev V6:=@List.getElem?_inj
abbrev V7:=@List.any_eq_false
abbrev V8:=@Bool.not_eq_true'
abbrev V9:=@Array.toList_push
set_option hygiene false
set_option hygiene true
abbrev FR:=PySem.W.Frag
namespace Hd
open PySem PySem.W PySem.Spec PyProof.Rows
noncomputable def BQ:List Value->Option (List Int)
 | []=>some []
 | .int i _::r=>(BQ r).map fun is=>i::is
 | _=>none
noncomputable def B5(v:Value)(t:String):Bool:=match v with
 | .type s=>decide (s=t)
 | _=>false
noncomputable def rowAt(h:Heap)(e:DictEntry):Option (Str×Int×List Int):=match e.key with
 | .str x _=>match e.val with
  | .ref t=>match h.get? t with
   | some u=>if B5 u.cls "tuple"&&u.dict.isNone then(match u.data with
     | .seq its _=>if its.size≤100 then(BQ its.toList).map fun is=>(x,e.hash,is) else none
     | _=>none) else none
   | none=>none
  | _=>none
 | _=>none
noncomputable def mB(h:Heap):List DictEntry->Option (List (Str×Int×List Int))
 | []=>some []
 | e::r=>(rowAt h e).bind fun x=>(mB h r).map fun xs=>x::xs
noncomputable def tabAt(h:Heap)(nm:Str):Option (List (Str×Int×List Int)):=match h.nsMap mainGlobals nm with
 | some (.ref a)=>if a==sysModules then none else(match h.get? a with
  | some o=>if B5 o.cls "dict"&&o.dict.isNone&&decide (o.slots=#[]) then(match o.data with
    | .dict es _=>mB h es.toList
    | _=>none) else none
  | none=>none)
 | _=>none
theorem HJ(row:String)(h0:∀w:World,(fencedOpening treeTable p w N).map (fun s₀=>(topFrom treeTable p (w.withFollow row false) N s₀).map (fun s=>(openSeen q loose (importedModules p.main.body) Xt true s,Yf s)))=some (some (openGood q loose,Ya (w.withFollow row false))))(h1:∀w:World,(fencedOpening treeTable p w N).map (fun s₀=>(topFrom treeTable p (w.withFollow row true) N s₀).map (fun s=>(openSeen q loose (importedModules p.main.body) Xt true s,Yf s)))=some (some (openGood q loose,Ya (w.withFollow row true)))):LeftO p q loose Xt Yf Ya N true:=fun w=>by
 obtain⟨s₀,a,b0⟩:=QL.mp (h0 w);obtain⟨s₁,a1,b1⟩:=QL.mp (h1 w);have e:=World.withFollow_self w row;unfold openEnds;cases hb:w.params.followText row <;> rw[hb] at e
 ·rw[a];rw[e] at b0;exact b0
 ·rw[a1];rw[e] at b1;exact b1
end Hd
namespace Mi
open PySem
abbrev pw:Program:=PySem.Challenge.pw_neverstuck_k07_whole_other_words
noncomputable def top(i:Nat):Stmt:=pw.main.body.getD i (.Pass ⟨0,0,0,0⟩)
noncomputable def gQ:List (Str×List Int):=[("say",[2,0]),("call",[3,0]),("within",[2,1]),("all",[2,1]),("ask",[2,2]),("by",[3,3]),("either",[1,2]),("again",[1,1])]
noncomputable def view:Program:={pw with main:={pw.main with body:=[top 1,top 2,top 3,top 4,top 5,top 6,top 7,top 8,top 10,top 11,top 12,top 13,top 14,top 15,top 16,top 17,top 18,top 19,top 20,top 21,top 22,top 23,top 24,top 25,top 26,top 27,top 28,top 29,top 30,top 31,top 32,top 33,top 34,top 35,top 36,top 38,top 39,top 40,top 41,top 42,top 43,top 44,top 45,top 46,top 47,top 48,top 49,top 50,top 51,top 52,top 53,top 54,top 55,top 56,top 57,top 58,top 59,top 60]}}
end Mi
local macro_rules | `(tactic| walk_at "s") => `(tactic| exact⟨rfl, rfl, rfl, by decide +kernel, rfl, by decide +kernel, by decide +kernel⟩)
namespace Mi
open PySem PySem.W PyProof.Rows
abbrev ya(w:World):=some (gQ.map fun x:Str×List Int=>(x.1,hashStr w x.1,x.2))
abbrev Xt:Shared->Bool:=fun s=>xlAt view [] s&&recOk (RowW.records (OpenRow.toRowW PySem.Challenge.rw_neverstuck_k07_whole_other_words.row)) s
abbrev Yf:Shared->Option (List (Str×Int×List Int)):=fun s=>Hd.tabAt s.heap "SHAPES"
theorem Nr(w:World):(fencedOpening treeTable pw w 20000).map (fun s₀=>(topFrom treeTable pw (w.withFollow "special-get-raises" false) 20000 s₀).map (fun s=>(openSeen view (["SHAPES"]:List Str) (importedModules pw.main.body) Xt true s,Yf s)))=some (some (openGood view (["SHAPES"]:List Str),(ya) (w.withFollow "special-get-raises" false))):=by ac_nf
theorem Nq(w:World):(fencedOpening treeTable pw w 20000).map (fun s₀=>(topFrom treeTable pw (w.withFollow "special-get-raises" true) 20000 s₀).map (fun s=>(openSeen view (["SHAPES"]:List Str) (importedModules pw.main.body) Xt true s,Yf s)))=some (some (openGood view (["SHAPES"]:List Str),(ya) (w.withFollow "special-get-raises" true))):=by ac_nf
theorem left:LeftO pw view (["SHAPES"]:List Str) Xt Yf (ya) 20000:=Hd.HJ "special-get-raises" Nr Nq
theorem JT:PySem.Challenge.rw_neverstuck_k07_whole_other_words.wellSaid=true:=by
 unfold OpenLaw.wellSaid
 repeat(with_reducible refine look_both ?_ (by decide+kernel))
 unfold OpenRow.wellSaid
 repeat(with_reducible refine look_both ?_ (by decide+kernel))
 unfold OpenRow.partSaid
 repeat(with_reducible refine look_both ?_ (by decide+kernel))
 unfold looksOpen
 repeat(with_reducible refine look_both ?_ (by decide+kernel))
 decide+kernel
end Mi
namespace L2
open PySem PySem.Spec PyProof.Rows
abbrev Key:=Sum Int Str
noncomputable def vN:Key->Value->Bool
 | .inl k,v=>Value.isInt k v
 | .inr x,v=>Value.isStrOf x v
noncomputable def Lk(w:World):Key->Int
 | .inl k=>hashInt k
 | .inr x=>hashStr w x
theorem cO:∀{k:Key} {v:Value},vN k v=true->(∃i t,k=Sum.inl i∧v=Value.int i t)∨(∃x t,k=Sum.inr x∧v=Value.str x t)
 | .inl i,v,h=>by
  obtain⟨t,e⟩:=Value.isInt_shape (k:=i) (v:=v) h;exact .inl ⟨i,t,rfl,e⟩
 | .inr x,v,h=>by
  obtain⟨t,e⟩:=Value.isStrOf_shape (x:=x) (v:=v) h;exact .inr ⟨x,t,rfl,e⟩
theorem C0(i:Int)(t:Tok):vN (.inl i) (.int i t)=true:=by simp[vN,Value.isInt]
theorem CZ(x:Str)(t:Tok):vN (.inr x) (.str x t)=true:=by simp[vN,Value.isStrOf]
theorem Lj(a b:Int):decide ((Sum.inl a:Key)=Sum.inl b)=(a==b):=by
 by_cases e:a=b
 ·subst e;simp
 ·have h:¬(Sum.inl a:Key)=Sum.inl b:=fun q=>e (Sum.inl.inj q);rw[Q7 h];exact(S9.mpr e).symm
theorem Lg(a b:Str):decide ((Sum.inr a:Key)=Sum.inr b)=decide (a=b):=by
 by_cases e:a=b
 ·subst e;simp
 ·have h:¬(Sum.inr a:Key)=Sum.inr b:=fun q=>e (Sum.inr.inj q);rw[Q7 h,Q7 e]
theorem Li(a:Int)(b:Str):decide ((Sum.inl a:Key)=Sum.inr b)=false:=Q7 (fun q=>nomatch q)
theorem Lh(a:Str)(b:Int):decide ((Sum.inr a:Key)=Sum.inl b)=false:=Q7 (fun q=>nomatch q)
noncomputable def aO(prog:Program)(w:World):PySem.KeyKind prog w Key where
 is:=vN
 hash:=Lk w
 inj:=fun v a b ha hb=>by
  rcases cO ha with⟨i,t,rfl,rfl⟩ |⟨x,t,rfl,rfl⟩
  ·rcases cO hb with⟨j,u,rfl,e⟩ |⟨y,u,rfl,e⟩
   ·injection e with e1 _;rw[e1]
   ·exact nomatch e
  ·rcases cO hb with⟨j,u,rfl,e⟩ |⟨y,u,rfl,e⟩
   ·exact nomatch e
   ·injection e with e1 _;rw[e1]
 byValue:=fun k v h=>by
  rcases cO h with⟨i,t,rfl,rfl⟩ |⟨x,t,rfl,rfl⟩ <;> rfl
 pyHash:=fun hv h=>by
  rcases cO hv with⟨i,t,rfl,rfl⟩ |⟨x,t,rfl,rfl⟩
  ·exact wpAny_pyHash_int h
  ·exact wpAny_pyHash_str h
 eqBool:=fun hu hv h=>by
  rcases cO hu with⟨i,t,rfl,rfl⟩ |⟨x,t,rfl,rfl⟩
  ·rcases cO hv with⟨j,u,rfl,rfl⟩ |⟨y,u,rfl,rfl⟩
   ·rw[Lj] at h;exact wpAny_eqBool_int h
   ·rw[Li] at h;exact SeqAt.EqAt.int_str i t y u _ _ _ _ h
  ·rcases cO hv with⟨j,u,rfl,rfl⟩ |⟨y,u,rfl,rfl⟩
   ·rw[Lh] at h;exact SeqAt.EqAt.str_int x t j u _ _ _ _ h
   ·rw[Lg] at h;exact wpAny_eqBool_str h
 «strs»:=fun k x t v h=>by
  rcases cO h with⟨i,u,rfl,e⟩ |⟨y,u,rfl,e⟩
  ·exact nomatch e
  ·injection e with e1 _
   subst e1;cases v <;> rfl
theorem qv(prog:Program)(w:World)(i:Int)(t:Tok):(aO prog w).is (.inl i) (.int i t)=true:=C0 i t
theorem qu(prog:Program)(w:World)(x:Str)(t:Tok):(aO prog w).is (.inr x) (.str x t)=true:=CZ x t
inductive V where
 | cN | bl (b:Bool) | int (i:Int) | str (x:Str) | byt (b:Array UInt8) | Me (b:UInt64) | ref (a:Addr) | ty (n:String)
 deriving DecidableEq
def RelV:V->Value->Prop
 | .cN,u=>u=Value.none
 | .bl b,u=>u=Value.bool b
 | .int i,u=>∃t,u=Value.int i t
 | .str x,u=>∃t,u=Value.str x t
 | .byt b,u=>∃t,u=Value.bytes b t
 | .Me b,u=>∃t,u=Value.float b t
 | .ref a,u=>u=Value.ref a
 | .ty n,u=>u=Value.type n
abbrev Vals:List V->List Value->Prop:=Paired RelV
theorem Vals.length(r:Vals xs us):xs.length=us.length:=Paired.length r
theorem Vals.get:∀{xs:List V} {us:List Value} {i:Nat} {x:V},Vals xs us->xs[i]?=some x->∃u,us[i]?=some u∧RelV x u
 | _,_,_,_,.nil,e=>by simp at e
 | _,_,0,_,.cons r _,e=>by simp at e;subst e;exact⟨_,rfl,r⟩
 | _,_,i+1,x,.cons _ t,e=>by
  obtain⟨u,h1,h2⟩:=Vals.get (i:=i) (x:=x) t (by simpa using e);exact⟨u,by simpa using h1,h2⟩
theorem Vals.set(r:RelV x u):∀{xs:List V} {us:List Value} (i:Nat),Vals xs us->Vals (xs.set i x) (us.set i u)
 | _,_,_,.nil=>.nil
 | _,_,0,.cons _ t=>.cons r t
 | _,_,i+1,.cons q t=>.cons q (Vals.set r i t)
theorem Vals.append:∀{xs ys:List V} {us ws:List Value},Vals xs us->Vals ys ws->Vals (xs++ys) (us++ws)
 | _,_,_,_,.nil,s=>s
 | _,_,_,_,.cons r t,s=>.cons r (Vals.append t s)
theorem Vals.take:∀{xs:List V} {us:List Value} (n:Nat),Vals xs us->Vals (xs.take n) (us.take n)
 | _,_,0,_=>.nil
 | _,_,_+1,.nil=>.nil
 | _,_,n+1,.cons r t=>.cons r (Vals.take n t)
theorem Vals.drop:∀{xs:List V} {us:List Value} (n:Nat),Vals xs us->Vals (xs.drop n) (us.drop n)
 | _,_,0,r=>r
 | _,_,_+1,.nil=>.nil
 | _,_,n+1,.cons _ t=>Vals.drop n t
def ur:Option V->Option Value->Prop
 | some v,some u=>RelV v u
 | none,none=>True
 | _,_=>False
def KV{κ:Type}:List (κ×V)->List (κ×Value)->Prop:=Paired fun(p:κ×V)(q:κ×Value)=>p.1=q.1∧RelV p.2 q.2
noncomputable def kV:Key->V
 | .inl i=>.int i
 | .inr x=>.str x
inductive HO where
 | lst (xs:List V)
 | tup (xs:List V)
 | dK (kvs:List (Key×V)) | dT (kvs:List (List Key×V))
 | set (S:Int->Bool) (n:Nat)
 | ins (C dx:Addr) (fs:List (Str×V))
 | own (x:Addr)
 | xd (fs:List (Str×V))
 | met (f x:Addr)
 | OF (lo hi:Int)
 | BX (o:Obj) (u:HO)
 | JE (ps:Array Value)
 | ext (φ:Heap->Prop)
abbrev Hp:=Addr->Option HO
noncomputable def upd(H:Hp)(a:Addr)(o:HO):Hp:=fun b=>if b=a then some o else H b
theorem bj:upd H a o a=some o:=by unfold upd;rw[Qp rfl]
theorem aP(h:b≠a):upd H a o b=H b:=by unfold upd;rw[Qu h]
theorem Nk{H:Hp}{a b:Addr}{o u:HO}(h:H a=some o)(h':H b=some u)(d:o≠u):a≠b:=by
 intro e;subst e;rw[h] at h';exact d (Option.some.inj h')
theorem bt{H:Hp}{a b:Addr}{o:HO}(h:H a=some o)(h':H b=none):a≠b:=by
 intro e;subst e;rw[h] at h';cases h'
def x4(h:Heap)(a:Addr)(items:Array Value):Prop:=∃o,h.get? a=some o∧o.cls=.type "tuple"∧(∃n,o.data=.seq items n)∧o.dict=none
theorem x4.tup(x:x4 h a items):IsTup h a items:=let⟨o,e,c,d,_⟩:=x;⟨o,e,c,d⟩
theorem x4.new(h:Heap)(items:Array Value):x4 (h.push {cls:=.type "tuple",data:=.seq items}) h.objs.size items:=⟨_,Qx _ rfl,rfl,⟨_,rfl⟩,rfl⟩
section
variable (P:Program) (w:World)
def cS(H:Hp)(h:Heap)(a:Addr):HO->Prop
 | .lst xs=>xs.length≤sizeLine∧∃(its:List Value)(n:Nat),Vals xs its∧h.get? a=some {cls:=.type "list",data:=.seq its.toArray n}
 | .tup xs=>xs.length≤sizeLine∧∃its:List Value,Vals xs its∧x4 h a its.toArray
 | .dK kvs=>kvs.length≤sizeLine∧(a==sysModules)=false∧∃vs,KV kvs vs∧h.DictOf (aO P w) a vs
 | .dT kvs=>kvs.length≤sizeLine∧(a==sysModules)=false∧∃xs:List (List Key×Addr×Value),
   Paired (fun(p:List Key×V)(q:List Key×Addr×Value)=>p.1=q.1∧H q.2.1=some (.tup (p.1.map kV))∧RelV p.2 q.2.2) kvs xs∧
   ∃o es ep,h.get? a=some o∧o.ExactDict∧o.data=.dict es ep∧es.toList=xs.map (entryOfKey (tupleKind (aO P w)))∧(xs.map (·.1)).Nodup
 | .set S n=>h.SetOf (intKind P w) a S n
 | .ins C dx fs=>H dx=some (.own a)∧fs.length≤1000∧dx≠a∧h.get? a=some (PySem.W.instObj C dx)∧
   ∃mA,h.Ns1 dx mA∧(∀f,ur (fs.lookup f) (mA f))∧PySem.Within mA (fs.map (·.1))
 | .own _=>∃o,h.get? a=some o
 | .xd fs=>∃mA,h.Ns1 a mA∧∀f,ur (fs.lookup f) (mA f)
 | .OF lo hi=>∃t u v,h.get? a=some {cls:=.type "range",data:=.fields #[.int lo t,.int hi u,.int 1 v]}
 | .BX o u=>h.get? a=some o∧cS H h a u
 | .JE ps=>h.get? a=some {cls:=.none,data:=.fields ps}
 | .met f x=>h.get? a=some (PySem.W.methodObj (.ref f) (.ref x))
 | .ext φ=>φ h∧(∃o,h.get? a=some o)∧∀h1 h2:Heap,φ h1->(∀o,h1.get? a=some o->h2.get? a=some o)->φ h2
def lL(H:Hp)(h:Heap):Prop:=∀a o,H a=some o->cS P w H h a o
end
theorem cS.lt(x:cS P w H h a o):a < h.objs.size:=by
 cases o with
 | lst xs=>obtain⟨_,_,_,_,e⟩:=x;exact Qw e
 | tup xs=>obtain⟨_,_,_,p⟩:=x;exact p.tup.lt
 | dK kvs=>obtain⟨_,_,_,_,o,_,_,e,_⟩:=x;exact Qw e
 | dT kvs=>obtain⟨_,_,_,_,o,_,_,e,_⟩:=x;exact Qw e
 | set S n=>obtain⟨o,_,_,_,e,_⟩:=x;exact Qw e
 | ins C dx fs=>obtain⟨_,_,_,e,_⟩:=x;exact Qw e
 | own y=>obtain⟨_,e⟩:=x;exact Qw e
 | xd fs=>obtain⟨_,⟨_,_,_,e,_⟩,_⟩:=x;exact Qw e
 | OF lo hi=>obtain⟨_,_,_,e⟩:=x;exact Qw e
 | BX ob u=>obtain⟨e,_⟩:=x;exact Qw e
 | JE ps=>exact Qw (show h.get? a=some _ from x)
 | met f y=>exact Qw (show h.get? a=some _ from x)
 | ext φ=>obtain⟨_,⟨_,e⟩,_⟩:=x;exact Qw e
theorem Paired.lH:∀{l₁:List α} {l₂:List β},Paired F l₁ l₂->(∀a b,F a b->G a b)->Paired G l₁ l₂
 | _,_,.nil,_=>.nil
 | _,_,.cons r t,f=>.cons (f _ _ r) (Paired.lH t f)
theorem cS.yj(x:cS P w H h a o)(k:∀b u,(b=a∨H b=some (.own a))->h.get? b=some u->h'.get? b=some u)
  (ho:∀b,H b=some (.own a)->H' b=some (.own a)) (ht:∀b xs,H b=some (.tup xs)->H' b=some (.tup xs)):cS P w H' h' a o:=by
 induction o with
 | lst xs=>obtain⟨z,its,n,r,e⟩:=x;exact⟨z,its,n,r,k _ _ (.inl rfl) e⟩
 | tup xs=>obtain⟨z,its,r,ob,e,c⟩:=x;exact⟨z,its,r,ob,k _ _ (.inl rfl) e,c⟩
 | dK kvs=>obtain⟨z,y,vs,r,ob,es,ep,e,c⟩:=x;exact⟨z,y,vs,r,ob,es,ep,k _ _ (.inl rfl) e,c⟩
 | dT kvs=>
  obtain⟨z,y,xs,r,ob,es,ep,e,c⟩:=x;exact⟨z,y,xs,Paired.lH r fun p q z=>⟨z.1,ht _ _ z.2.1,z.2.2⟩,ob,es,ep,k _ _ (.inl rfl) e,c⟩
 | set S n=>obtain⟨ob,es,ep,t,e,c⟩:=x;exact⟨ob,es,ep,t,k _ _ (.inl rfl) e,c⟩
 | ins C dx fs=>
  obtain⟨d,z,ne,e,mA,⟨od,es,ep,e2,c⟩,r⟩:=x;exact⟨ho _ d,z,ne,k _ _ (.inl rfl) e,mA,⟨od,es,ep,k _ _ (.inr d) e2,c⟩,r⟩
 | own y=>obtain⟨ob,e⟩:=x;exact⟨ob,k _ _ (.inl rfl) e⟩
 | xd fs=>obtain⟨mA,⟨od,es,ep,e,c⟩,r⟩:=x;exact⟨mA,⟨od,es,ep,k _ _ (.inl rfl) e,c⟩,r⟩
 | OF lo hi=>obtain⟨t,u,v,e⟩:=x;exact⟨t,u,v,k _ _ (.inl rfl) e⟩
 | BX ob u ih=>obtain⟨e,q⟩:=x;exact⟨k _ _ (.inl rfl) e,ih q⟩
 | JE ps=>
  have e:h.get? a=some {cls:=.none,data:=.fields ps}:=x;show h'.get? a=some {cls:=.none,data:=.fields ps};exact k a _ (.inl rfl) e
 | met f y=>
  have e:h.get? a=some (PySem.W.methodObj (.ref f) (.ref y)):=x;show h'.get? a=some (PySem.W.methodObj (.ref f) (.ref y));exact k a _ (.inl rfl) e
 | ext φ=>obtain⟨p,⟨o,e⟩,st⟩:=x;exact⟨st _ _ p fun o q=>k _ _ (.inl rfl) q,⟨o,k _ _ (.inl rfl) e⟩,st⟩
theorem lL.lt(x:lL P w H h)(e:H a=some o):a < h.objs.size:=(x a o e).lt
theorem lL.fresh(x:lL P w H h)(e:h.objs.size≤a):H a=none:=by
 cases q:H a with
 | none=>rfl
 | some u=>exact absurd (QW (x.lt q) e) (Tc _)
theorem lL.kept(x:lL P w H h)(k:∀b u,h.get? b=some u->h'.get? b=some u):lL P w H h':=fun a o e=>
 (x a o e).yj (fun b u _ q=>k b u q) (fun _ q=>q) fun _ _ q=>q
theorem lL.laid(x:lL P w H h)(k:∀b u,h.get? b=some u->h'.get? b=some u)(hp:h.objs.size≤a)(new:cS P w (upd H a o) h' a o):lL P w (upd H a o) h':=fun b u e=>by
 have hn:=x.fresh hp
 by_cases hb:b=a
 ·subst hb;rw[bj] at e;cases e;exact new
 ·rw[aP hb] at e;exact(x b u e).yj (fun c v _ q=>k c v q) (fun c q=>by rw[aP (bt q hn)];exact q) fun c xs q=>by rw[aP (bt q hn)];exact q
def Rd(H:Hp)(a:Addr)(u:HO):Prop:=H a=some u∨∃o,H a=some (.BX o u)
theorem Rd.ok(r:Rd H a u)(x:lL P w H h):cS P w H h a u:=by
 rcases r with r |⟨o,r⟩
 ·exact x a u r
 ·obtain⟨_,q⟩:=x a _ r;exact q
def NZ:Option HO->Prop
 | some (.lst _)=>True
 | some (.dK _)=>True
 | some (.dT _)=>True
 | some (.set _ _)=>True
 | some (.ins _ _ _)=>True
 | some (.ext _)=>True
 | _=>False
theorem lL.write(ok:lL P w H h)(mu:NZ (H x))(he:e=x∨H e=some (.own x))(k:∀b u,b≠e->h.get? b=some u->h'.get? b=some u)(heo:∃u,h'.get? e=some u)
  (new:cS P w (upd H x o') h' x o'):lL P w (upd H x o') h':=fun b u q=>by
 have nown:∀c y,H c=some (.own y)->c≠x:=fun c y r z=>by subst z;rw[r] at mu;exact mu
 have ntup:∀c xs,H c=some (.tup xs)->c≠x:=fun c xs r z=>by subst z;rw[r] at mu;exact mu
 by_cases hb:b=x
 ·subst hb;rw[bj] at q;cases q;exact new
 ·rw[aP hb] at q
  by_cases hbe:b=e
  ·have q':H b=some (.own x):=by
    rcases he with z | z
    ·exact absurd (hbe.trans z) hb
    ·rw[hbe];exact z
   rw[q] at q';cases q';obtain⟨v,hv⟩:=heo;exact⟨v,by rw[hbe];exact hv⟩
  ·refine(ok b u q).yj (fun c v hc r=>k c v ?_ r) (fun c r=>by rw[aP (nown c b r)];exact r) fun c xs r=>by rw[aP (ntup c xs r)];exact r
   rcases hc with rfl | hc
   ·exact hbe
   ·rintro rfl;rcases he with z | z
    ·exact nown c b hc z
    ·rw[hc] at z;cases z;exact hb rfl
structure Un(fs ex:List Addr)(H H':Hp)(h h':Heap):Prop where
 keep:∀b o,h.get? b=some o->H b=none->b∉fs->b∉ex->h'.get? b=some o
 slot:∀b o,h.get? b=some o->H b=none->b∈fs->b∉ex->∃sl,h'.get? b=some {o with slots:=sl}
 free:∀b o,h.get? b=some o->H b=none->b∉ex->H' b=none
 there:∀b o,h.get? b=some o->b∉ex->∃o',h'.get? b=some o'
 wt:∀b xs,H b=some (.tup xs)->H' b=some (.tup xs)
 uT:∀b o u,H b=some (.BX o u)->H' b=some (.BX o u)
 wx:∀b ps,H b=some (.JE ps)->∃more,H' b=some (.JE (ps++more))
theorem Un.any(u:Un fs ex H H1 h h1)(q:h.get? b=some ob)(n:H b=none)(hx:b∉ex):∃sl,h1.get? b=some {ob with slots:=sl}:=by
 by_cases hb:b∈fs
 ·exact u.slot b ob q n hb hx
 ·exact⟨ob.slots,u.keep b ob q n hb hx⟩
theorem Un.kept(k:∀b u,h.get? b=some u->h'.get? b=some u):Un fs ex H H h h':=
 ⟨fun b ob q _ _ _=>k b ob q,fun b ob q _ _ _=>⟨ob.slots,k b ob q⟩,fun _ _ _ n _=>n,fun b ob q _=>⟨ob,k b ob q⟩,fun _ _ q=>q,fun _ _ _ q=>q,fun _ ps q=>⟨#[],by rw[q];simp⟩⟩
theorem Un.refl:Un fs ex H H h h:=Un.kept fun _ _ q=>q
theorem Un.laid(k:∀b u,h.get? b=some u->h'.get? b=some u)(hp:h.objs.size≤a)(hn:H a=none):Un fs ex H (upd H a o) h h' where
 keep:=fun b u q _ _ _=>k b u q
 slot:=fun b u q _ _ _=>⟨u.slots,k b u q⟩
 free:=fun b u q n _=>by rw[aP (QF (QW (Qw q) hp))];exact n
 there:=fun b u q _=>⟨u,k b u q⟩
 wt:=fun b xs q=>by rw[aP (bt q hn)];exact q
 uT:=fun b u xs q=>by rw[aP (bt q hn)];exact q
 wx:=fun b ps q=>⟨#[],by rw[aP (bt q hn),q];simp⟩
theorem Un.write(mu:NZ (H x))(he:e=x∨H e=some (.own x))(k:∀b u,b≠e->h.get? b=some u->h'.get? b=some u)(heo:∃u,h'.get? e=some u):Un fs ex H (upd H x o) h h':=by
 have hx:∀b,H b=none->b≠x:=fun b n z=>by subst z;rw[n] at mu;exact mu
 have hb:∀b,H b=none->b≠e:=fun b n z=>by
  subst z;rcases he with r | r
  ·exact hx b n r
  ·rw[n] at r;cases r
 have hm:∀b u,H b=some u->¬NZ (some u)->b≠x:=fun b u q nm z=>by subst z;rw[q] at mu;exact nm mu
 refine⟨fun b u q n _ _=>k b u (hb b n) q,fun b u q n _ _=>⟨u.slots,k b u (hb b n) q⟩,fun b u q n _=>by rw[aP (hx b n)];exact n,fun b u q _=>?_,
  fun b xs q=>by rw[aP (hm b _ q fun z=>z)];exact q,fun b u xs q=>by rw[aP (hm b _ q fun z=>z)];exact q,fun b ps q=>⟨#[],by rw[aP (hm b _ q fun z=>z),q];simp⟩⟩
 by_cases hbe:b=e
 ·subst hbe;exact heo
 ·exact⟨u,k b u hbe q⟩
noncomputable def N7(h:Heap)(H:Hp):List Addr:=(List.range h.objs.size).filter fun a=>(H a).isSome
noncomputable def xB(h:Heap)(H:Hp):Heap:=PySem.W.hideAll h (N7 h H)
theorem C7(h:Heap)(H:Hp):(xB h H).objs.size=h.objs.size:=PySem.W.hideAll_size _ _
theorem Fo(e:h.get? b=some o)(n:H b=none):(xB h H).get? b=some o:=
 PySem.W.hideAll_get _ e fun hm=>by
  have q:(H b).isSome=true:=(List.mem_filter.mp hm).2;rw[n] at q;simp at q
theorem HB(e:(xB h H).get? b=some o):h.get? b=some o∧H b=none:=by
 have e':h.get? b=some o:=PySem.W.of_hideAll (N7 h H) e;refine⟨e',?_⟩;cases q:H b with
 | none=>rfl
 | some x=>
  have hm:b∈N7 h H:=List.mem_filter.mpr ⟨RL.mpr (Qw e'),by simp[q]⟩;have z:(xB h H).get? b=none:=PySem.W.hideAll_none (N7 h H) hm;rw[z] at e;cases e
structure Mod(K:FR)(mg:Str->Option Value)(base:Heap):Prop where
 O9:K.In base
 glob:base.Ns mainGlobals mg
 blt:∃mb,base.Ns builtinsNs mb∧∀x:Str,x≠"__name__"->mb x=bootBuiltins x
 nolimit:base.NoLimit
structure Cx where
 prog:Program
 w:World
 K:FR
 mg:Str->Option Value
 base:Heap
 A:Around
 N:List Str
 s₀:Shared
 H₀:Hp
 env:Env
 outer:List Env
 stack:List Env
 ex:List Addr
 fn:Str->Bool
 calm:Bool
 pn:List (Addr×Obj)
 xe:Value->Shared->Prop
noncomputable def DM(l:List Env):List Addr:=l.filterMap (·.frame)
abbrev Cx.fs(X:Cx):List Addr:=DM X.outer
def Mh(sc:Scope)(x:Str):Prop:=sc.names.lookup x=some .local∨sc.names.lookup x=some .cell∨sc.names.lookup x=some .free
def Loc(sc:Scope)(x:Str):Prop:=sc.names.lookup x=some .local∨sc.names.lookup x=some .cell
def Look(env:Env)(h:Heap)(m:Str->Option Value)(x:Str)(u:Value):Prop:=
 (env.kindOf x=some .local∧m x=some u)∨((env.kindOf x=some .cell∨env.kindOf x=some .free)∧∃c,env.cells.lookup x=some c∧h.IsCell c (some u))
structure Cx.Ok(X:Cx):Prop where
 mod:Mod X.K X.mg X.base
 kind:X.env.scope.kind=.function
 glob:X.env.globals=mainGlobals
 blt:X.env.builtins=builtinsNs
 above:X.s₀.heap.objs.size≤X.env.locals
 inj:∀x y c,X.env.cells.lookup x=some c->X.env.cells.lookup y=some c->x=y
 has:∀x,(X.env.kindOf x=some .cell∨X.env.kindOf x=some .free)->∃c,X.env.cells.lookup x=some c
 NG:∀x c,X.fn x=true->X.env.cells.lookup x=some c->X.s₀.heap.objs.size≤c
 hd:X.calm=true->X.A.handled=none
 frames:X.A.frames=some X.stack
 N8:X.stack=X.outer∨(X.stack=X.env::X.outer∧X.env.frame=some X.env.locals)
 PD:∀b∈X.ex,b≠X.env.locals∧∀x c,X.env.cells.lookup x=some c->c≠b
 bs:∀b o,X.base.get? b=some o->X.s₀.heap.get? b=some o∧X.H₀ b=none
 Jm:X.base.objs.size≤X.s₀.heap.objs.size
 E2:∀b o,X.base.get? b=some o->b∉X.ex
 Ik:∀b∈X.ex,b∉X.fs
 tN:X.s₀.heap.FunFrames X.base X.outer
 Md:∀b∈X.fs,X.H₀ b=none
structure Inv(X:Cx)(pins:List (Addr×Obj))(σ:List (Option V))(H:Hp)(s:Shared):Prop where
 ok:X.Ok
 os:s.os=X.s₀.os
 bare:AllBare s.gens
 base:Un X.fs X.ex X.H₀ H X.s₀.heap s.heap
 loc:∃m,s.heap.Ns X.env.locals m∧∀(i:Nat)(x:Str)(v:V),X.N[i]?=some x->σ[i]?=some (some v)->Mh X.env.scope x->∃u,RelV v u∧Look X.env s.heap m x u
 cell:∀x c,X.env.cells.lookup x=some c->∃v,s.heap.IsCell c v
 free:H X.env.locals=none
 kJ:∀x c,X.env.cells.lookup x=some c->H c=none
 pin:∀p∈X.pn++pins,s.heap.get? p.1=some p.2∧H p.1=none∧p.1≠X.env.locals∧p.1∉X.fs∧∀v,p.2.data≠.cell v
 bI:lL X.prog X.w H s.heap
 len:σ.length=X.N.length
section
variable {X:Cx} {pins:List (Addr×Obj)} {σ:List (Option V)} {H H':Hp} {s:Shared} {h':Heap}
theorem Cx.Ok.O4(ok:X.Ok)(e:X.base.get? b=some o):b∉X.fs:=fun hb=>by
 have:=(ok.tN.mem hb).1;rw[e] at this;cases this
theorem Inv.bs(I:Inv X pins σ H s):∀b o,X.base.get? b=some o->s.heap.get? b=some o∧H b=none:=fun b o e=>
 ⟨I.base.keep b o (I.ok.bs b o e).1 (I.ok.bs b o e).2 (I.ok.O4 e) (I.ok.E2 b o e),I.base.free b o (I.ok.bs b o e).1 (I.ok.bs b o e).2 (I.ok.E2 b o e)⟩
theorem Inv.bk(I:Inv X pins σ H s):∀b o,X.base.get? b=some o->s.heap.get? b=some o:=fun b o e=>(I.bs b o e).1
theorem Inv.mod(I:Inv X pins σ H s):Mod X.K X.mg X.base:=I.ok.mod
theorem Inv.vO(I:Inv X pins σ H s):X.K.In s.heap:=I.ok.mod.O9.keeps I.bk
theorem Inv.lt(I:Inv X pins σ H s):X.env.locals < s.heap.objs.size:=let⟨_,hn,_⟩:=I.loc;hn.lt
theorem Inv.sz(I:Inv X pins σ H s):X.s₀.heap.objs.size≤s.heap.objs.size:=QB I.ok.above (US I.lt)
theorem Inv.O3(I:Inv X pins σ H s)(h:s.heap.objs.size≤a):a∉X.fs:=fun hb=>by
 obtain⟨_,o,ho,_⟩:=I.ok.tN.mem hb;exact absurd (QW (Qw ho) (QB I.sz h)) (Tc _)
theorem Inv.LN(I:Inv X pins σ H s):∀x c,X.env.cells.lookup x=some c->c≠X.env.locals:=fun x c e z=>by
 obtain⟨v,o,ho,hd⟩:=I.cell x c e;obtain⟨m,⟨o',es,ep,ho',hd',_⟩,_⟩:=I.loc;rw[z,ho'] at ho;cases ho;rw[hd'] at hd;cases hd
theorem Inv.tN(I:Inv X pins σ H s):s.heap.FunFrames X.base X.outer:=by
 have all:∀(l:List Env),(∀b∈DM l,b∈X.fs)->X.s₀.heap.FunFrames X.base l->s.heap.FunFrames X.base l:=by
  intro l
  induction l with
  | nil=>intro _ _;trivial
  | cons env r ih=>
   intro hs hl;obtain⟨hk,⟨L,o,hf,hn,ho,hd⟩,hr⟩:=hl;have hL:L∈X.fs:=hs L (by unfold DM;rw[Q0,hf];exact Qv);obtain⟨sl,e⟩:=I.base.slot L o ho (I.ok.Md L hL) hL fun z=>I.ok.Ik L z hL;exact⟨hk,⟨L,_,hf,hn,e,hd⟩,ih (fun b hb=>hs b (by unfold DM;rw[Q0,hf];exact Qs _ hb)) hr⟩
 exact all X.outer (fun _ hb=>hb) I.ok.tN
theorem Inv.stack(I:Inv X pins σ H s):s.heap.FunFrames X.base X.stack:=by
 rcases I.ok.N8 with e |⟨e,hf⟩
 ·rw[e];exact I.tN
 ·rw[e];obtain⟨m,hn,_⟩:=I.loc;refine .cons (by rw[I.ok.kind];decide) hf hn ?_ I.tN;exact Heap.get?_none_of_le (QB I.ok.Jm I.ok.above)
theorem Inv.oR(I:Inv X pins σ H s):∀b∈DM X.stack,b∈X.env.locals::X.fs:=fun b hb=>by
 rcases I.ok.N8 with e |⟨e,hf⟩
 ·rw[e] at hb;exact Qs _ hb
 ·rw[e] at hb;unfold DM at hb;rw[Q0,hf] at hb;exact hb
theorem Inv.BB(I:Inv X pins σ H s):∀b∈DM X.stack,H b=none:=fun b hb=>by
 rcases QK.mp (I.oR b hb) with e | hb
 ·rw[e];exact I.free
 ·obtain⟨_,o,ho,_⟩:=I.ok.tN.mem hb;exact I.base.free b o ho (I.ok.Md b hb) fun z=>I.ok.Ik b z hb
theorem Inv.step{g':Array GenState}{t':Nat}{d':Drawn}{ch:List Addr}(I:Inv X pins σ H s)
  (hch:∀b∈ch,(b∈X.ex∨X.s₀.heap.objs.size≤b)∧b≠X.env.locals∧(∀x c,X.env.cells.lookup x=some c->c≠b)∧∀p∈X.pn++pins,p.1≠b)
  (keep:∀b o,b≠X.env.locals->b∉X.fs->b∉ch->s.heap.get? b=some o->H b=none->h'.get? b=some o)
  (slot:∀b o,b≠X.env.locals->b∈X.fs->b∉ch->s.heap.get? b=some o->H b=none->∃sl,h'.get? b=some {o with slots:=sl}) (free:∀b o,b∉ch->s.heap.get? b=some o->H b=none->H' b=none)
  (there:∀b o,b∉ch->s.heap.get? b=some o->∃o',h'.get? b=some o')
  (wt:∀b xs,H b=some (.tup xs)->H' b=some (.tup xs)) (uT:∀b o u,H b=some (.BX o u)->H' b=some (.BX o u)) (wx:∀b ps,H b=some (.JE ps)->∃more,H' b=some (.JE (ps++more)))
  (ns:∀m,s.heap.Ns X.env.locals m->h'.Ns X.env.locals m) (bI:lL X.prog X.w H' h') (hg:AllBare g'):
  Inv X pins σ H' {s with heap:=h',gens:=g',drawn:=d',toks:=t'}:=by
 have neL:∀b o,X.s₀.heap.get? b=some o->b≠X.env.locals:=fun b o e=>QF (QW (Qw e) I.ok.above);have neC:∀b o,X.s₀.heap.get? b=some o->b∉X.ex->b∉ch:=fun b o e hx hb=>by
  rcases(hch b hb).1 with z | z
  ·exact hx z
  ·exact absurd (QW (Qw e) z) (Tc _)
 have cellK:∀x c,X.env.cells.lookup x=some c->∀v,s.heap.IsCell c v->h'.IsCell c v:=fun x c e v ⟨o,ho,hd⟩=>by
  have nch:c∉ch:=fun z=>(hch c z).2.2.1 x c e rfl
  by_cases hc:c∈X.fs
  ·obtain⟨sl,q⟩:=slot c o (I.LN x c e) hc nch ho (I.kJ x c e);exact⟨_,q,hd⟩
  ·exact⟨o,keep c o (I.LN x c e) hc nch ho (I.kJ x c e),hd⟩
 refine⟨I.ok,I.os,hg,⟨fun b o e n hb hx=>?_,fun b o e n hb hx=>?_,fun b o e n hx=>?_,fun b o e hx=>?_,fun b xs e=>wt b xs (I.base.wt b xs e),fun b o xs e=>uT b o xs (I.base.uT b o xs e),fun b ps e=>?_⟩,?_,fun x c e=>?_,?_,fun x c e=>?_,fun p hp=>?_,bI,I.len⟩
 ·exact keep b o (neL b o e) hb (neC b o e hx) (I.base.keep b o e n hb hx) (I.base.free b o e n hx)
 ·obtain⟨sl,e1⟩:=I.base.slot b o e n hb hx;obtain⟨sl',e2⟩:=slot b _ (neL b o e) hb (neC b o e hx) e1 (I.base.free b o e n hx);exact⟨sl',e2⟩
 ·obtain⟨o',e1⟩:=I.base.there b o e hx;exact free b o' (neC b o e hx) e1 (I.base.free b o e n hx)
 ·obtain⟨o',e1⟩:=I.base.there b o e hx;exact there b o' (neC b o e hx) e1
 ·obtain⟨m1,e1⟩:=I.base.wx b ps e;obtain⟨m2,e2⟩:=wx b _ e1;exact⟨m1++m2,by rw[e2,Array.append_assoc]⟩
 ·obtain⟨m,hn,hl⟩:=I.loc;refine⟨m,ns m hn,fun i x v e1 e2 e3=>?_⟩;obtain⟨u,r,l⟩:=hl i x v e1 e2 e3;refine⟨u,r,?_⟩;rcases l with l |⟨k,c,e,z⟩
  ·exact .inl l
  ·exact .inr ⟨k,c,e,cellK x c e _ z⟩
 ·obtain⟨v,z⟩:=I.cell x c e;exact⟨v,cellK x c e v z⟩
 ·obtain⟨m,⟨o,_,_,ho,_⟩,_⟩:=I.loc;exact free _ o (fun z=>(hch _ z).2.1 rfl) ho I.free
 ·obtain⟨v,o,ho,hd⟩:=I.cell x c e;exact free c o (fun z=>(hch c z).2.2.1 x c e rfl) ho (I.kJ x c e)
 ·obtain⟨e,n,ne,nf,d⟩:=I.pin p hp;have nch:p.1∉ch:=fun z=>(hch p.1 z).2.2.2 p hp rfl;exact⟨keep p.1 p.2 ne nf nch e n,free p.1 p.2 nch e n,ne,nf,d⟩
theorem Inv.un{t':Nat}(I:Inv X pins σ H s)(u:Un X.fs [] H H' s.heap h')(bI:lL X.prog X.w H' h'):Inv X pins σ H' {s with heap:=h',toks:=t'}:=by
 obtain⟨m,⟨o,es,ep,ho,r⟩,_⟩:=id I.loc;obtain⟨sl,hL⟩:=u.any ho I.free (by simp);exact I.step (g':=s.gens) (d':=s.drawn) (ch:=[]) (fun _ z=>nomatch z) (fun b o _ hb _ e n=>u.keep b o e n hb (by simp)) (fun b o _ hb _ e n=>u.slot b o e n hb (by simp)) (fun b o _ e n=>u.free b o e n (by simp)) (fun b o _ e=>u.there b o e (by simp)) u.wt u.uT u.wx (fun m' hm=>by
  obtain⟨o',es',ep',ho',r'⟩:=hm;rw[ho] at ho';cases ho';exact⟨_,es',ep',hL,r'⟩) bI I.bare
theorem Inv.call{g':Array GenState}{t':Nat}{d':Drawn}{ch:List Addr}(I:Inv X pins σ H s)(u:Un (DM X.stack) ch H H' s.heap h')(bI:lL X.prog X.w H' h')(hg:AllBare g')
  (hch:∀b∈ch,(b∈X.ex∨X.s₀.heap.objs.size≤b)∧b≠X.env.locals∧(∀x c,X.env.cells.lookup x=some c->c≠b)∧∀p∈X.pn++pins,p.1≠b):
  Inv X pins σ H' {s with heap:=h',gens:=g',drawn:=d',toks:=t'}:=by
 obtain⟨m,⟨o,es,ep,ho,r⟩,_⟩:=id I.loc;obtain⟨sl,hL⟩:=u.any ho I.free fun z=>(hch _ z).2.1 rfl;exact I.step (ch:=ch) hch (fun b o hL hb hc e n=>u.keep b o e n (fun z=>(QK.mp (I.oR b z)).elim hL hb) hc) (fun b o _ _ hc e n=>u.any e n hc) (fun b o hc e n=>u.free b o e n hc) (fun b o hc e=>u.there b o e hc) u.wt u.uT u.wx (fun m' hm=>by
  obtain⟨o',es',ep',ho',r'⟩:=hm;rw[ho] at ho';cases ho';exact⟨_,es',ep',hL,r'⟩) bI hg
theorem Inv.turned{t':Nat}{it:Addr}(I:Inv X pins σ H s)(k:∀b o,b≠it->s.heap.get? b=some o->h'.get? b=some o)(hn:H it=none)(hL:it≠X.env.locals)
  (h1:it∈X.ex∨X.s₀.heap.objs.size≤it) (h2:∀x c,X.env.cells.lookup x=some c->c≠it) (h3:∀p∈X.pn++pins,p.1≠it):Inv X pins σ H {s with heap:=h',toks:=t'}:=by
 have nit:∀b u,H b=some u->b≠it:=fun b u e z=>by rw[z,hn] at e;cases e
 refine I.step (g':=s.gens) (d':=s.drawn) (ch:=[it]) (fun b hb=>?_) (fun b o _ _ hc e _=>k b o (fun z=>hc (by simp[z])) e) (fun b o _ _ hc e _=>⟨o.slots,k b o (fun z=>hc (by simp[z])) e⟩) (fun _ _ _ _ n=>n)
  (fun b o hc e=>⟨o,k b o (fun z=>hc (by simp[z])) e⟩) (fun _ _ e=>e) (fun _ _ _ e=>e) (fun b ps e=>⟨#[],by rw[e];simp⟩) (fun m hm=>?_) (fun b u e=>?_) I.bare
 ·have e:b=it:=by simpa using hb
  subst e;exact⟨h1,hL,h2,h3⟩
 ·obtain⟨o,es,ep,ho,r⟩:=hm;exact⟨o,es,ep,k _ o (RM hL) ho,r⟩
 ·refine(I.bI b u e).yj (fun c v hc q=>k c v ?_ q) (fun _ q=>q) fun _ _ q=>q;rcases hc with z | z
  ·rw[z];exact nit b u e
  ·exact nit c _ z
theorem Inv.tok(I:Inv X pins σ H s)(t:Nat):Inv X pins σ H {s with toks:=t}:=I.un (h':=s.heap) (t':=t) Un.refl I.bI
theorem Inv.kept(I:Inv X pins σ H s)(k:∀b u,s.heap.get? b=some u->h'.get? b=some u):Inv X pins σ H {s with heap:=h',toks:=t'}:=I.un (Un.kept k) (I.bI.kept k)
theorem Inv.laid(I:Inv X pins σ H s)(k:∀b u,s.heap.get? b=some u->h'.get? b=some u)(hp:s.heap.objs.size≤a)(new:cS X.prog X.w (upd H a o) h' a o):
  Inv X pins σ (upd H a o) {s with heap:=h',toks:=t'}:=I.un (Un.laid k hp (I.bI.fresh hp)) (I.bI.laid k hp new)
theorem Inv.write(I:Inv X pins σ H s)(mu:NZ (H x))(he:e=x∨H e=some (.own x))(k:∀b u,b≠e->s.heap.get? b=some u->h'.get? b=some u)(heo:∃u,h'.get? e=some u)(new:cS X.prog X.w (upd H x o) h' x o):Inv X pins σ (upd H x o) {s with heap:=h',toks:=t'}:=I.un (Un.write mu he k heo) (I.bI.write mu he k heo new)
theorem Inv.BI(I:Inv X pins σ H s)(h:∀p∈pins',s.heap.get? p.1=some p.2∧H p.1=none∧p.1≠X.env.locals∧p.1∉X.fs∧∀v,p.2.data≠.cell v):Inv X pins' σ H s:=
 ⟨I.ok,I.os,I.bare,I.base,I.loc,I.cell,I.free,I.kJ,fun p hp=>(QS.mp hp).elim (fun z=>I.pin p (RF _ z)) (h p),I.bI,I.len⟩
theorem yV{N:List Str}(hN:N.Nodup){i j:Nat}{x:Str}(a:N[i]?=some x)(b:N[j]?=some x):i=j:=by
 obtain⟨h1,e1⟩:=Qo.mp a;obtain⟨h2,e2⟩:=Qo.mp b;exact(List.getElem_inj hN).mp (e1.trans e2.symm)
theorem oQ{M:Model}{A:Around}{E:Value->Shared->Prop}{i:Nat}{x:Str}{v:V}{u:Value}{Q:Unit->Shared->Prop}(I:Inv X pins σ H s)(hN:X.N.Nodup)(hi:X.N[i]?=some x)(hx:Loc X.env.scope x)(r:RelV v u)
  (h:∀s',Inv X pins (σ.set i (some v)) H s'->(∃a,Heap.SameBut a s.heap s'.heap∧(a=X.env.locals∨X.env.cells.lookup x=some a))->Q () s') (hf:X.fn x=true∨X.env.scope.names.lookup x=some .local:=by first | exact .inl rfl | exact .inr rfl | assumption):wpAny M A (storeName X.env x u) Q E s:=by
 obtain⟨m,hn,hl⟩:=id I.loc;have hcls:(X.env.scope.kind==.class||(X.env.scope.kind==.module&&X.env.locals !=X.env.globals))=false:=by rw[I.ok.kind];rfl
 have hiσ:i < σ.length:=by rw[I.len];exact(Qo.mp hi).1
 have LN:=I.LN;have tracked:∀{a:Addr} {h':Heap},(∃o,s.heap.get? a=some o∧H a=none)->Heap.SameBut a s.heap h'->lL X.prog X.w H h':=fun {a h'} ha hs b ob e=>by
  obtain⟨_,_,hfree⟩:=ha;refine(I.bI b ob e).yj (fun c w' hc q=>(hs.2 c ?_).trans q) (fun _ q=>q) fun _ _ q=>q;rintro rfl;rcases hc with rfl | hc
  ·rw[hfree] at e;cases e
  ·rw[hfree] at hc;cases hc
 rcases hx with hk | hk
 ·refine wpAny_storeName_local hk hn (fun h' hn' hs=>?_) hcls;obtain⟨oL,_,_,hoL,_⟩:=id hn;refine h _ ⟨I.ok,I.os,I.bare,⟨fun b o e n hb hx=>?_,fun b o e n hb hx=>?_,I.base.free,fun b o e hx=>?_,I.base.wt,I.base.uT,I.base.wx⟩,⟨_,hn',fun j y v' e1 e2 e3=>?_⟩,fun y c e=>?_,I.free,I.kJ,fun p hp=>?_,tracked ⟨oL,hoL,I.free⟩ hs,by simpa using I.len⟩ ⟨_,hs,.inl rfl⟩
  ·exact(hs.2 b (QF (QW (Qw e) I.ok.above))).trans (I.base.keep b o e n hb hx)
  ·obtain⟨sl,e1⟩:=I.base.slot b o e n hb hx;exact⟨sl,(hs.2 b (QF (QW (Qw e) I.ok.above))).trans e1⟩
  ·obtain⟨o',e1⟩:=I.base.there b o e hx;exact⟨o',(hs.2 b (QF (QW (Qw e) I.ok.above))).trans e1⟩
  ·by_cases hj:j=i
   ·subst hj;rw[hi] at e1;cases e1;rw[Ry hiσ] at e2;cases e2;exact⟨u,r,.inl ⟨hk,by simp⟩⟩
   ·rw[Rl (RM hj)] at e2;obtain⟨u',r',q⟩:=hl j y v' e1 e2 e3;refine⟨u',r',?_⟩;rcases q with⟨k,e⟩ |⟨k,c,e,z⟩
    ·refine .inl ⟨k,?_⟩;have:y≠x:=fun e=>hj (yV hN e1 (e ▸ hi));simp[this,e]
    ·exact .inr ⟨k,c,e,z.sameBut hs (LN y c e)⟩
  ·obtain⟨w',z⟩:=I.cell y c e;exact⟨w',z.sameBut hs (LN y c e)⟩
  ·obtain⟨e,n,ne,nf,d⟩:=I.pin p hp;exact⟨(hs.2 p.1 ne).trans e,n,ne,nf,d⟩
 ·have hfn:X.fn x=true:=by
   rcases hf with z | z
   ·exact z
   ·rw[z] at hk;cases hk
  obtain⟨c,hc⟩:=I.ok.has x (.inl hk);obtain⟨w',z⟩:=I.cell x c hc;refine wpAny_storeName_cell I.ok.kind hk hc z (fun h' hc' hs=>?_);obtain⟨oc,hoc,hocd⟩:=id z;refine h {s with heap:=h'} ⟨I.ok,I.os,I.bare,⟨fun b o e n hb hx=>?_,fun b o e n hb hx=>?_,I.base.free,fun b o e hx=>?_,I.base.wt,I.base.uT,I.base.wx⟩,⟨m,hn.sameBut hs (RM (LN x c hc)),fun j y v' e1 e2 e3=>?_⟩,fun y c' e=>?_,I.free,I.kJ,fun p hp=>?_,tracked ⟨oc,hoc,I.kJ x c hc⟩ hs,by simpa using I.len⟩ ⟨c,hs,.inr hc⟩
  ·exact(hs.2 b (QF (QW (Qw e) (I.ok.NG x c hfn hc)))).trans (I.base.keep b o e n hb hx)
  ·obtain⟨sl,e1⟩:=I.base.slot b o e n hb hx;exact⟨sl,(hs.2 b (QF (QW (Qw e) (I.ok.NG x c hfn hc)))).trans e1⟩
  ·obtain⟨o',e1⟩:=I.base.there b o e hx;exact⟨o',(hs.2 b (QF (QW (Qw e) (I.ok.NG x c hfn hc)))).trans e1⟩
  ·by_cases hj:j=i
   ·subst hj;rw[hi] at e1;cases e1;rw[Ry hiσ] at e2;cases e2;exact⟨u,r,.inr ⟨.inl hk,c,hc,hc'⟩⟩
   ·rw[Rl (RM hj)] at e2;obtain⟨u',r',q⟩:=hl j y v' e1 e2 e3;refine⟨u',r',?_⟩;rcases q with q |⟨k,c',e,z'⟩
    ·exact .inl q
    ·refine .inr ⟨k,c',e,z'.sameBut hs ?_⟩;rintro rfl;exact hj (yV hN e1 (I.ok.inj _ _ _ e hc ▸ hi))
  ·by_cases hcc:c'=c
   ·subst hcc;exact⟨_,hc'⟩
   ·obtain⟨w2,z2⟩:=I.cell y c' e;exact⟨w2,z2.sameBut hs hcc⟩
  ·obtain⟨e,n,ne,nf,d⟩:=I.pin p hp;refine⟨(hs.2 p.1 ?_).trans e,n,ne,nf,d⟩;intro q;rw[q,hoc] at e;have q':oc=p.2:=Option.some.inj e;exact d w' (by rw[←q'];exact hocd)
theorem jW(I:Inv X pins σ H s)(hN:X.N.Nodup)(hi:X.N[i]?=some x)(hx:Loc X.env.scope x)(r:RelV v u)(h:∀s',Inv X pins (σ.set i (some v)) H s'->Q () s')(hf:X.fn x=true∨X.env.scope.names.lookup x=some .local:=by first | exact .inl rfl | exact .inr rfl | assumption):wpAny M A (storeName X.env x u) Q E s:=
 oQ I hN hi hx r (fun s' I' _=>h s' I') hf
theorem Inv.call'(I:Inv X pins σ H s)(ho:s'.os=s.os)(u:Un (DM X.stack) ch H H' s.heap s'.heap)(bI:lL X.prog X.w H' s'.heap)(hg:AllBare s'.gens)(hch:∀b∈ch,(b∈X.ex∨X.s₀.heap.objs.size≤b)∧b≠X.env.locals∧(∀x c,X.env.cells.lookup x=some c->c≠b)∧∀p∈X.pn++pins,p.1≠b):Inv X pins σ H' s':=by
 obtain⟨h',g',d',t',o'⟩:=s';have e:o'=s.os:=ho;subst e;exact I.call (g':=g') (t':=t') (d':=d') u bI hg hch
end
abbrev XK:=Value->Option Addr->Hp->Prop
abbrev St:=List (Option V)
abbrev VK:=V->Hp->Prop
abbrev TE:=St->Hp->VK->Prop
abbrev TT:=St->Hp->(Bool->Hp->Prop)->Prop
abbrev TA:=St->Hp->(List V->Hp->Prop)->Prop
structure Ends where
 nx:St->Hp->Prop
 rt:VK
 bk:St->Hp->Prop:=fun _ _=>False
 ct:St->Hp->Prop:=fun _ _=>False
abbrev TS:=Ends->St->Hp->Prop
inductive PY(X:Cx)(pins:List (Addr×Obj))(σ:St)(Q:VK)(u:Value)(s':Shared):Prop where
 | mk (v H'):Inv X pins σ H' s'->RelV v u->Q v H'->PY X pins σ Q u s'
def EP(X:Cx)(pins:List (Addr×Obj))(σ:St)(Q:VK)(u:Value)(s':Shared):Prop:=PY X pins σ Q u s'
def TP(X:Cx)(pins:List (Addr×Obj))(σ:St)(Q:Bool->Hp->Prop)(b:Bool)(s':Shared):Prop:=∃H',Inv X pins σ H' s'∧Q b H'
inductive PZ(X:Cx)(pins:List (Addr×Obj))(σ:St)(Q:List V->Hp->Prop)(us:List Value)(s':Shared):Prop where
 | mk (vs H'):Inv X pins σ H' s'->Vals vs us->Q vs H'->PZ X pins σ Q us s'
def AP(X:Cx)(pins:List (Addr×Obj))(σ:St)(Q:List V->Hp->Prop)(us:List Value)(s':Shared):Prop:=PZ X pins σ Q us s'
def SP(X:Cx)(pins:List (Addr×Obj))(D:Ends)(f:Flow)(s':Shared):Prop:=
 match f with
 | .next=>∃σ' H',Inv X pins σ' H' s'∧D.nx σ' H'
 | .brk=>∃σ' H',Inv X pins σ' H' s'∧D.bk σ' H'
 | .cont=>∃σ' H',Inv X pins σ' H' s'∧D.ct σ' H'
 | .ret u=>∃v σ' H',Inv X pins σ' H' s'∧RelV v u∧D.rt v H'
def PE(X:Cx)(e:Expr)(t:TE):Prop:=
 ∀(pins:List (Addr×Obj)) (s:Shared) (σ:St) (H:Hp) (Q:VK),Inv X pins σ H s->t σ H Q->wpAny (model X.prog X.w) X.A (eval e X.env) (EP X pins σ Q) X.xe s
def PT(X:Cx)(e:Expr)(t:TT):Prop:=
 ∀(pins:List (Addr×Obj)) (s:Shared) (σ:St) (H:Hp) (Q:Bool->Hp->Prop),Inv X pins σ H s->t σ H Q->wpAny (model X.prog X.w) X.A (isTrue e X.env (eval e X.env)) (TP X pins σ Q) X.xe s
def PW(X:Cx)(e:Expr)(t:TT):Prop:=
 ∀(whole:Sem Value)(pins:List (Addr×Obj)) (s:Shared) (σ:St) (H:Hp) (Q:Bool->Hp->Prop),Inv X pins σ H s->t σ H Q->wpAny (model X.prog X.w) X.A (isTrue e X.env whole) (TP X pins σ Q) X.xe s
theorem PW.pt(h:PW X e t):PT X e t:=h _
def PA(X:Cx)(es:List Expr)(t:TA):Prop:=
 ∀(pos:Pos)(pins:List (Addr×Obj)) (s:Shared) (σ:St) (H:Hp) (Q:List V->Hp->Prop),Inv X pins σ H s->t σ H Q->wpAny (model X.prog X.w) X.A (spliced (backTo pos (starEach es X.env))) (AP X pins σ Q) X.xe s
def PS(X:Cx)(st:Stmt)(t:TS):Prop:=
 ∀(pins:List (Addr×Obj)) (s:Shared) (σ:St) (H:Hp) (D:Ends),Inv X pins σ H s->t D σ H->wpAny (model X.prog X.w) X.A (exec st X.env) (SP X pins D) X.xe s
def zE(X:Cx)(st:List Stmt)(t:TS):Prop:=
 ∀(pins:List (Addr×Obj)) (s:Shared) (σ:St) (H:Hp) (D:Ends),Inv X pins σ H s->t D σ H->wpAny (model X.prog X.w) X.A (execs st X.env) (SP X pins D) X.xe s
theorem cU(h:wpAny M A t Q E s)(hQ:∀a s,Q a s->Q' a s):wpAny M A t Q' E s:=Rm h hQ fun _ _ x=>x
section
variable {X:Cx}
def Oo(i:Nat):TE:=fun σ H Q=>∃v,σ[i]?=some (some v)∧Q v H
def tC(v:V):TE:=fun _ H Q=>Q v H
theorem KC(hN:X.N[i]?=some x)(hv:Mh X.env.scope x)(hd:(x==("__debug__":Str))=false:=by decide)(hcd:(x==("__classdict__":Str))=false:=by decide):PE X (.Name x pos) (Oo i):=by
 intro pins s σ H Q I h;obtain⟨v,e,h⟩:=h;obtain⟨m,hn,hl⟩:=I.loc;obtain⟨u,r,l⟩:=hl i x v hN e hv;have fin:EP X pins σ Q u s:=⟨v,H,I,r,h⟩;rcases l with⟨hk,hm⟩ |⟨hk,c,hc,hcell⟩
 ·exact wpAny_Name (wpAny_loadName_local I.ok.kind hk hn hm fin) hd
 ·rcases hk with hk | hk
  ·exact wpAny_Name (wpAny_loadName_cell I.ok.kind hk hc hcell fin) hd
  ·exact wpAny_Name (wpAny_loadName_free I.ok.kind hk hc hcell fin hcd) hd
theorem KO{i j pos}:PE X (.Constant (.int i) j pos) (tC (.int i)):=fun _ _ _ H _ I h=>wpAny_Constant_int ⟨.int i,H,I.tok _,⟨_,rfl⟩,h⟩
theorem Nc{b j pos}:PE X (.Constant (.bool b) j pos) (tC (.bl b)):=fun _ _ _ H _ I h=>Constant_bool ⟨.bl b,H,I,rfl,h⟩
theorem KL{j pos}:PE X (.Constant .none j pos) (tC .cN):=fun _ _ _ H _ I h=>Constant_none ⟨.cN,H,I,rfl,h⟩
theorem KH{x j pos}:PE X (.Constant (.str x) j pos) (tC (.str x)):=fun _ _ _ H _ I h=>Calls.Constant_str ⟨.str x,H,I.tok _,⟨_,rfl⟩,h⟩
def Gl(X:Cx)(x:Str):Prop:=X.env.kindOf x=some .globalImplicit
theorem rL(I:Inv X pins σ H s)(hg:Gl X x)(hm:X.mg x=some u)(h:Q u s)(hd:(x==("__debug__":Str))=false:=by decide):wpAny (model X.prog X.w) X.A (eval (.Name x pos) X.env) Q E s:=
 VL I.ok.kind hg (Calls.loadGlobal_global (by rw[I.ok.glob];exact I.mod.glob.keeps I.bk) hm h) hd
theorem kI(I:Inv X pins σ H s)(hg:Gl X x)(hm:X.mg x=none)(hv:bootBuiltins x=some u)(h:Q u s)(hn:x≠"__name__":=by decide)(hd:(x==("__debug__":Str))=false:=by decide):wpAny (model X.prog X.w) X.A (eval (.Name x pos) X.env) Q E s:=by
 obtain⟨mb,h1,h2⟩:=I.mod.blt;exact VL I.ok.kind hg (Calls.loadGlobal_builtin (by rw[I.ok.glob];exact I.mod.glob.keeps I.bk) hm (by rw[I.ok.blt];exact h1.keeps I.bk) ((h2 x hn).trans hv) h) hd
theorem Hr(hg:Gl X x)(hm:X.mg x=some u)(r:RelV v u)(hd:(x==("__debug__":Str))=false:=by decide):PE X (.Name x pos) (tC v):=
 fun _ _ _ H _ I h=>rL I hg hm ⟨v,H,I,r,h⟩ hd
theorem Hw(hg:Gl X x)(hm:X.mg x=none)(hv:bootBuiltins x=some u)(r:RelV v u)(hn:x≠"__name__":=by decide)(hd:(x==("__debug__":Str))=false:=by decide):PE X (.Name x pos) (tC v):=
 fun _ _ _ H _ I h=>kI I hg hm hv ⟨v,H,I,r,h⟩ hn hd
variable {a b:Expr} {ta tb:TE} {pos:Pos}
def PC(X:Cx)(op:CmpOp)(a b:Expr)(t:TE):Prop:=
 ∀(pins:List (Addr×Obj)) (s:Shared) (σ:St) (H:Hp) (Q:VK),Inv X pins σ H s->t σ H Q->
  wpAny (model X.prog X.w) X.A (eval a X.env) (fun v s₁=>wpAny (model X.prog X.w) X.A (eval b X.env) (fun u s₂=>wpAny (model X.prog X.w) X.A (compareOp op v u) (EP X pins σ Q) X.xe s₂) X.xe s₁) X.xe s
def tB(t:TE):TT:=fun σ H Q=>t σ H fun x H1=>∃c,x=.bl c∧Q c H1
theorem Kq(h:PC X op a b t)(h1:behindInMarks op b=false:=by first | exact nobehind _ (by decide) (by decide) | rfl):PT X (.Compare a [op] [b] pos) (tB t):=by
 intro pins s σ H Q I hw;refine wpAny_isTrue_Compare1 (cU (h pins s σ H _ I hw) fun v s1 h1=>cU h1 fun u s2 h2=>cU h2 fun c s3 ⟨x,H1,I1,r1,q1⟩=>?_) h1;obtain⟨d,rfl,q⟩:=q1;cases r1;exact RD ⟨H1,I1,q⟩
variable {tA tB':TT} {rest:List Expr}
def qO(t u:TT):TT:=fun σ H Q=>t σ H fun c H1=>if c=true then u σ H1 Q else Q false H1
def rD(t u:TT):TT:=fun σ H Q=>t σ H fun c H1=>if c=true then Q true H1 else u σ H1 Q
def fq(t:TT):TT:=fun σ H Q=>t σ H fun c H1=>Q (!c) H1
theorem G9(ha:PT X a tA):PW X (.BoolOp .And [a] pos) tA:=by
 intro wh pins s σ H Q I h;refine isTrue_and (cU (ha pins s σ H Q I h) fun c s1 e=>?_);cases c with
 | true=>exact isTrue_and_nil e
 | false=>exact e
theorem Kn(ha:PT X a tA):PW X (.BoolOp .Or [a] pos) tA:=by
 intro wh pins s σ H Q I h;refine isTrue_or (cU (ha pins s σ H Q I h) fun c s1 e=>?_);cases c with
 | false=>exact isTrue_or_nil e
 | true=>exact e
theorem Ko(ha:PT X a tA)(hb:PW X (.BoolOp .And (b::rest) pos) tB'):PW X (.BoolOp .And (a::b::rest) pos) (qO tA tB'):=by
 intro wh pins s σ H Q I h;refine isTrue_and (cU (ha pins s σ H _ I h) fun c s1 ⟨H1,I1,q1⟩=>?_);cases c with
 | true=>exact hb wh pins s1 σ H1 Q I1 q1
 | false=>exact⟨H1,I1,q1⟩
theorem M6(ha:PT X a tA)(hb:PW X (.BoolOp .Or (b::rest) pos) tB'):PW X (.BoolOp .Or (a::b::rest) pos) (rD tA tB'):=by
 intro wh pins s σ H Q I h;refine isTrue_or (cU (ha pins s σ H _ I h) fun c s1 ⟨H1,I1,q1⟩=>?_);cases c with
 | true=>exact⟨H1,I1,q1⟩
 | false=>exact hb wh pins s1 σ H1 Q I1 q1
theorem Kp(ha:PT X a tA):PT X (.UnaryOp .Not a pos) (fq tA):=by
 intro pins s σ H Q I h;exact isTrue_not (ha pins s σ H (fun c H1=>Q (!c) H1) I h)
def MJ(ta tb:TE):TE:=fun σ H Q=>ta σ H fun x H1=>∃c,x=.bl c∧if c=true then tb σ H1 Q else Q (.bl false) H1
def Ou(ta tb:TE):TE:=fun σ H Q=>ta σ H fun x H1=>∃c,x=.bl c∧if c=true then Q (.bl true) H1 else tb σ H1 Q
def MC(ta:TE):TE:=fun σ H Q=>ta σ H fun x H1=>∃c,x=.bl c∧Q (.bl (!c)) H1
theorem KI{op}(h:PE X a t):PE X (.BoolOp op [a] pos) t:=fun pins s σ H Q I hw=>BoolOp_one (h pins s σ H Q I hw)
theorem KQ(ha:PE X a ta)(hb:PE X (.BoolOp .And (b::rest) pos) tb):PE X (.BoolOp .And (a::b::rest) pos) (MJ ta tb):=by
 intro pins s σ H Q I h;refine BoolOp_and (cU (ha pins s σ H _ I h) fun v s1 ⟨x,H1,I1,r1,q1⟩=>?_);obtain⟨c,rfl,q1⟩:=q1;cases r1;refine RD ?_;cases c with
 | true=>exact hb pins s1 σ H1 Q I1 q1
 | false=>exact⟨.bl false,H1,I1,rfl,q1⟩
theorem M9(ha:PE X a ta)(hb:PE X (.BoolOp .Or (b::rest) pos) tb):PE X (.BoolOp .Or (a::b::rest) pos) (Ou ta tb):=by
 intro pins s σ H Q I h;refine BoolOp_or (cU (ha pins s σ H _ I h) fun v s1 ⟨x,H1,I1,r1,q1⟩=>?_);obtain⟨c,rfl,q1⟩:=q1;cases r1;refine RD ?_;cases c with
 | false=>exact hb pins s1 σ H1 Q I1 q1
 | true=>exact⟨.bl true,H1,I1,rfl,q1⟩
theorem KJ(ha:PE X a ta):PE X (.UnaryOp .Not a pos) (MC ta):=by
 intro pins s σ H Q I h;refine UnaryOp_ (cU (ha pins s σ H _ I h) fun v s1 ⟨x,H1,I1,r1,q1⟩=>?_);obtain⟨c,rfl,q1⟩:=q1;cases r1;exact not_of (RD ⟨.bl (!c),H1,I1,rfl,q1⟩)
end
def gH(K:FR)(H:Hp)(a:Addr)(xs:List V):Prop:=
 Rd H a (.lst xs)∨
  ∃(o:Obj)(its:Array Value)(n:Nat),K.lookup a=some o∧o.cls=.type "list"∧o.dict=none∧o.data=.seq its n∧its.size≤sizeLine∧Vals xs its.toList
def jS(K:FR)(H:Hp)(a:Addr)(xs:List V):Prop:=
 Rd H a (.tup xs)∨
  ∃(o:Obj)(its:Array Value)(n:Nat),K.lookup a=some o∧o.cls=.type "tuple"∧o.data=.seq its n∧its.size≤sizeLine∧Vals xs its.toList∧o.dict=none
noncomputable def Pj:Value->Option V
 | .none=>some .cN
 | .bool b=>some (.bl b)
 | .int i _=>some (.int i)
 | .str x _=>some (.str x)
 | .bytes b _=>some (.byt b)
 | .float b _=>some (.Me b)
 | .ref a=>some (.ref a)
 | .type n=>some (.ty n)
 | _=>none
theorem RelV.abs(r:RelV x u):Pj u=some x:=by
 cases x with
 | cN=>cases r;rfl
 | bl _=>cases r;rfl
 | int _=>obtain⟨t,rfl⟩:=r;rfl
 | str _=>obtain⟨t,rfl⟩:=r;rfl
 | byt _=>obtain⟨t,rfl⟩:=r;rfl
 | Me _=>obtain⟨t,rfl⟩:=r;rfl
 | ref _=>cases r;rfl
 | ty _=>cases r;rfl
theorem RelV.inj(r:RelV x u)(q:RelV y u):x=y:=Option.some.inj (r.abs.symm.trans q.abs)
theorem Vals.inj:∀{xs ys:List V} {us:List Value},Vals xs us->Vals ys us->xs=ys
 | _,_,_,.nil,.nil=>rfl
 | _,_,_,.cons r t,.cons r' t'=>by rw[r.inj r',Vals.inj t t']
theorem gH.of{K:FR}(h:H a=some (.lst xs)):gH K H a xs:=.inl (.inl h)
theorem Inv.list(I:Inv X pins σ H s)(h:gH X.K H a xs):∃its:List Value,Vals xs its∧PlainL s.heap a its.toArray∧xs.length≤sizeLine:=by
 rcases h with h |⟨o,its,n,hk,hc,hd,hs,hz,r⟩
 ·obtain⟨z,its,n,r,e⟩:=h.ok I.bI;exact⟨its,r,⟨_,n,e,rfl,rfl,rfl⟩,z⟩
 ·refine⟨its.toList,r,⟨o,n,I.vO a o hk,hc,hd,by simpa using hs⟩,?_⟩;have e:=r.length;simp only[RA] at e
  lia
theorem Inv.tuple(I:Inv X pins σ H s)(h:jS X.K H a xs):∃its:List Value,Vals xs its∧IsTup s.heap a its.toArray∧xs.length≤sizeLine:=by
 rcases h with h |⟨o,its,n,hk,hc,hs,hz,r,_⟩
 ·obtain⟨z,its,r,p⟩:=h.ok I.bI;exact⟨its,r,p.tup,z⟩
 ·refine⟨its.toList,r,⟨o,I.vO a o hk,hc,n,by simpa using hs⟩,?_⟩;have e:=r.length;simp only[RA] at e
  lia
theorem Inv.JB(I:Inv X pins σ H s)(h:jS X.K H a xs):∃its:List Value,Vals xs its∧x4 s.heap a its.toArray∧xs.length≤sizeLine:=by
 rcases h with h |⟨o,its,n,hk,hc,hs,hz,r,hd⟩
 ·obtain⟨z,its,r,p⟩:=h.ok I.bI;exact⟨its,r,p,z⟩
 ·refine⟨its.toList,r,⟨o,I.vO a o hk,hc,⟨n,by simpa using hs⟩,hd⟩,?_⟩;have e:=r.length;simp only[RA] at e
  lia
theorem Inv.y7(I:Inv X pins σ H s)(h:gH X.K H a xs)(h':gH X.K H a ys):xs=ys:=by
 obtain⟨its,r,⟨o,n,e,_,_,d⟩,_⟩:=I.list h;obtain⟨its',r',⟨o',n',e',_,_,d'⟩,_⟩:=I.list h';rw[e] at e';cases e';rw[d] at d';injection d' with d1 _
 have:its=its':=by simpa using congrArg Array.toList d1
 subst this;exact r.inj r'
theorem Inv.vg(I:Inv X pins σ H s)(h:jS X.K H a xs)(h':jS X.K H a ys):xs=ys:=by
 obtain⟨its,r,⟨o,e,_,n,d⟩,_⟩:=I.tuple h;obtain⟨its',r',⟨o',e',_,n',d'⟩,_⟩:=I.tuple h';rw[e] at e';cases e';rw[d] at d';injection d' with d1 _
 have:its=its':=by simpa using congrArg Array.toList d1
 subst this;exact r.inj r'
abbrev Cx.uv(X:Cx)(E:Value->Shared->Prop):Cx:={X with xe:=E}
abbrev Cx.Nj(X:Cx):Cx:=X.uv fun _ _=>False
theorem Cx.Ok.uv{X:Cx}(ok:X.Ok)(E:Value->Shared->Prop):(X.uv E).Ok:=
 ⟨ok.mod,ok.kind,ok.glob,ok.blt,ok.above,ok.inj,ok.has,ok.NG,ok.hd,ok.frames,ok.N8,ok.PD,ok.bs,ok.Jm,ok.E2,ok.Ik,ok.tN,ok.Md⟩
theorem Cx.Ok.jT{X:Cx}{E:Value->Shared->Prop}(ok:(X.uv E).Ok):X.Ok:=
 ⟨ok.mod,ok.kind,ok.glob,ok.blt,ok.above,ok.inj,ok.has,ok.NG,ok.hd,ok.frames,ok.N8,ok.PD,ok.bs,ok.Jm,ok.E2,ok.Ik,ok.tN,ok.Md⟩
theorem Inv.uv(I:Inv X pins σ H s)(E:Value->Shared->Prop):Inv (X.uv E) pins σ H s:=⟨I.ok.uv E,I.os,I.bare,I.base,I.loc,I.cell,I.free,I.kJ,I.pin,I.bI,I.len⟩
theorem Inv.jT(I:Inv (X.uv E) pins σ H s):Inv X pins σ H s:=⟨I.ok.jT,I.os,I.bare,I.base,I.loc,I.cell,I.free,I.kJ,I.pin,I.bI,I.len⟩
theorem SP.jT(h:SP (X.uv E) pins D f s'):SP X pins D f s':=by
 cases f with
 | next=>obtain⟨σ',H',I,q⟩:=h;exact⟨σ',H',I.jT,q⟩
 | brk=>obtain⟨σ',H',I,q⟩:=h;exact⟨σ',H',I.jT,q⟩
 | cont=>obtain⟨σ',H',I,q⟩:=h;exact⟨σ',H',I.jT,q⟩
 | ret u=>obtain⟨v,σ',H',I,r,q⟩:=h;exact⟨v,σ',H',I.jT,r,q⟩
theorem zE.Nj{st:List Stmt}{t:TS}(h:zE X.Nj st t):zE X st t:=fun pins s σ H D I hw=>
 Rm (h pins s σ H D (I.uv _) hw) (fun _ _ q=>q.jT) fun _ _ z=>False.elim z
section
variable {X:Cx} {st:Stmt} {rest:List Stmt} {t u:TS} {e:Expr} {te:TE} {pos:Pos}
def MD:TS:=fun D σ H=>D.nx σ H
def My(t u:TS):TS:=fun D σ H=>t {D with nx:=u D} σ H
theorem He:zE X [] MD:=fun _ _ σ H _ I h=>UG ⟨σ,H,I,h⟩
theorem EF(h1:PS X st t)(h2:zE X rest u):zE X (st::rest) (My t u):=by
 intro pins s σ H D I h;refine wpAny_execs_cons (cU (h1 pins s σ H {D with nx:=u D} I h) fun f s1 q=>?_);cases f with
 | next=>
  obtain⟨σ',H',I',q⟩:=q;exact h2 pins s1 σ' H' D I' q
 | ret v=>exact q
 | brk=>exact q
 | cont=>exact q
theorem Hb(h1:PS X st t):zE X [st] t:=by
 intro pins s σ H D I h;refine wpAny_execs_cons (cU (h1 pins s σ H D I h) fun f s1 q=>?_);cases f with
 | next=>exact UG q
 | ret v=>exact q
 | brk=>exact q
 | cont=>exact q
theorem Inv.quiet(I:Inv X pins σ H s):interactive X.env=false:=by simp[interactive,I.ok.kind]
def MF(te:TE):TS:=fun D σ H=>te σ H fun _ H1=>D.nx σ H1
theorem Hg(he:PE X e te)(hs:swapsWith e none pos.line X.env=pure false:=by rfl):PS X (.Expr e pos) (MF te):=by
 intro pins s σ H D I h;exact wpAny_Expr_any (cU (he pins s σ H _ I h) fun v s1 ⟨x,H1,I1,r1,q1⟩=>⟨σ,H1,I1,q1⟩) I.quiet hs
def Ot(te:TE):TS:=fun D σ H=>te σ H D.rt
theorem Ks(he:PE X e te):PS X (.Return (some e) pos) (Ot te):=by
 intro pins s σ H D I h;exact wpAny_Return_some (cU (he pins s σ H _ I h) fun v s1 ⟨x,H1,I1,r1,q1⟩=>⟨x,σ,H1,I1,r1,q1⟩)
def Oy(c:TT)(t u:TS):TS:=fun D σ H=>c σ H fun b H1=>if b=true then t D σ H1 else u D σ H1
theorem M7(hc:PT X c tc)(ha:zE X a t)(hb:zE X b u):PS X (.If c a b pos) (Oy tc t u):=by
 intro pins s σ H D I h;refine wpAny_If (cU (hc pins s σ H _ I h) fun d s1 ⟨H1,I1,q1⟩=>?_);cases d with
 | true=>exact ha pins s1 σ H1 D I1 q1
 | false=>exact hb pins s1 σ H1 D I1 q1
end
abbrev TG:=V->St->Hp->(St->Hp->Prop)->Prop
abbrev L4:=List V->St->Hp->(St->Hp->Prop)->Prop
def PG(X:Cx)(target:Expr)(t:TG):Prop:=
 ∀(pins:List (Addr×Obj)) (s:Shared) (σ:St) (H:Hp) (v:V) (u:Value) (Q:St->Hp->Prop),Inv X pins σ H s->RelV v u->t v σ H Q->
  wpAny (model X.prog X.w) X.A (assign target X.env u) (fun _ s'=>∃σ' H',Inv X pins σ' H' s'∧Q σ' H') X.xe s
def Jr(X:Cx)(ts:List Expr)(t:L4):Prop:=
 ∀(pins:List (Addr×Obj)) (s:Shared) (σ:St) (H:Hp) (vs:List V) (us:List Value) (Q:St->Hp->Prop),Inv X pins σ H s->Vals vs us->t vs σ H Q->
  wpAny (model X.prog X.w) X.A (assignInOrder ((assignEach ts X.env).map (·.2)) us) (fun _ s'=>∃σ' H',Inv X pins σ' H' s'∧Q σ' H') X.xe s
abbrev NK:=V->V->V->Hp->(Hp->Prop)->Prop
def L9(X:Cx)(t:NK):Prop:=
 ∀(pins:List (Addr×Obj)) (s:Shared) (σ:St) (H:Hp) (o i v:V) (ov iv u:Value) (Q:Hp->Prop),Inv X pins σ H s->RelV o ov->RelV i iv->RelV v u->t o i v H Q->
  wpAny (model X.prog X.w) X.A (setItem ov iv u) (fun _ s'=>∃H',Inv X pins σ H' s'∧Q H') X.xe s
abbrev PJ:=V->V->Hp->VK->Prop
def NX(X:Cx)(op:Operator)(t:PJ):Prop:=
 ∀(pins:List (Addr×Obj)) (s:Shared) (σ:St) (H:Hp) (x y:V) (v u:Value) (Q:VK),Inv X pins σ H s->RelV x v->RelV y u->t x y H Q->
  wpAny (model X.prog X.w) X.A (inplaceOp op v u) (EP X pins σ Q) X.xe s
def qx(i:Nat):TG:=fun v σ H Q=>Q (σ.set i (some v)) H
theorem Hq(hN:X.N.Nodup)(hi:X.N[i]?=some x)(hx:Loc X.env.scope x)(hf:X.fn x=true∨X.env.scope.names.lookup x=some .local:=by first | exact .inl rfl | exact .inr rfl | assumption):PG X (.Name x pos) (qx i):=by
 intro pins s σ H v u Q I r h;exact Va (jW I hN hi hx r (fun s' I'=>⟨_,H,I',h⟩) hf)
noncomputable def Pc:L4:=fun vs σ H Q=>vs=[]∧Q σ H
def Nu(t:TG)(u:L4):L4:=fun vs σ H Q=>∃v r,vs=v::r∧t v σ H fun σ' H'=>u r σ' H' Q
theorem Ho:Jr X [] Pc:=by
 intro pins s σ H vs us Q I r h;obtain⟨e,h⟩:=h;subst e;cases r;exact assignInOrder_nil ⟨σ,H,I,h⟩
theorem EO(h1:PG X e t)(h2:Jr X es u)(hs:(assignEach (e::es) X.env).map (·.2)=assign e X.env::(assignEach es X.env).map (·.2):=by rfl):Jr X (e::es) (Nu t u):=by
 intro pins s σ H vs us Q I r h;obtain⟨v,vr,e1,h⟩:=h;subst e1;cases r with
 | cons r rr=>
  rw[hs];refine VC (cU (h1 pins s σ H _ _ _ I r h) fun _ s1 ⟨σ1,H1,I1,q1⟩=>?_);exact h2 pins s1 σ1 H1 _ _ Q I1 rr q1
def Pb(K:FR)(n:Nat)(t:L4):TG:=fun v σ H Q=>∃a xs,v=.ref a∧jS K H a xs∧xs.length=n∧t xs σ H Q
theorem Kz(hc:X.calm=true)(h:Jr X es t)(hn:(assignEach es X.env).length=n:=by rfl)(hst:(assignEach es X.env).findIdx? (·.1)=none:=by rfl):PG X (.Tuple es k pos) (Pb X.K n t):=by
 intro pins s σ H v u Q I r hw;obtain⟨a,xs,e1,hq,hl,hw⟩:=hw;subst e1;cases r;obtain⟨its,rv,ht,hz⟩:=I.tuple hq;refine assign_Tuple_tuple (I.ok.hd hc) ht (by simp[hn,←hl,rv.length]) hst fun h' hx=>?_;have I1:Inv X pins σ H {s with heap:=h'}:=I.kept (t':=s.toks) fun b o e=>hx b o (QF (Qw e)) e;exact h pins _ σ H xs _ Q I1 (by simpa using rv) hw
def uS(to ti:TE)(t:NK):TG:=fun v σ H Q=>to σ H fun o H1=>ti σ H1 fun i H2=>t o i v H2 fun H3=>Q σ H3
theorem KA (ho:PE X o to) (hi:PE X i ti) (hs:L9 X t) (ha:∀v,assign (.Subscript o i pos) X.env v=(do
   let ov←holding [v] (eval o X.env);let iv←holding [v,ov] (eval i X.env)
   standAt pos
   holding [v,ov,iv] (setItem ov iv v)
   release [v,ov,iv] []):=by intro _;rfl):PG X (.Subscript o i pos) (uS to ti t):=by
 intro pins s σ H v u Q I r h;rw[ha];refine Qj (Q9 (cU (ho pins s σ H _ I h) fun ov s1 ⟨x,H1,I1,r1,q1⟩=>?_));refine Qj (Q9 (cU (hi pins s1 σ H1 _ I1 q1) fun iv s2 ⟨y,H2,I2,r2,q2⟩=>?_));refine Qj (Sa (Qj (Q9 (cU (hs pins s2 σ H2 x y v ov iv u _ I2 r1 r2 r q2) fun _ s3 ⟨H3,I3,q3⟩=>?_))));exact wpAny_release ⟨σ,H3,I3,q3⟩
def Cr(te:TE)(g:TG):TS:=fun D σ H=>te σ H fun x H1=>g x σ H1 D.nx
theorem Kv(he:PE X e te)(hg:PG X tg g)(hs:swapsWithSole [tg] e pos.line X.env=pure false:=by rfl)(hw:swappedStores [tg] e X.env=pure none:=by rfl)(h1:(assignEach [tg] X.env).map (·.2)=[assign tg X.env]:=by rfl):PS X (.Assign [tg] e pos) (Cr te g):=by
 intro pins s σ H D I h;refine wpAny_Assign_stores (cU (he pins s σ H _ I h) fun v s1 ⟨x,H1,I1,r1,q1⟩=>?_) hs hw;rw[h1];exact cU (hg pins s1 σ H1 x v _ I1 r1 q1) fun _ s2 q=>q
theorem Kr(hN:X.N.Nodup)(hi:X.N[i]?=some x)(hx:Loc X.env.scope x)(he:PE X e te)(hs:swapsWith e (some (.Name x pos')) pos.line X.env=pure false:=by rfl)(hf:X.fn x=true∨X.env.scope.names.lookup x=some .local:=by first | exact .inl rfl | exact .inr rfl | assumption):
  PS X (.Assign [.Name x pos'] e pos) (Cr te (qx i)):=by
 intro pins s σ H D I h;refine wpAny_Assign_Name (cU (he pins s σ H _ I h) fun v s1 ⟨y,H1,I1,r1,q1⟩=>?_) hs;exact jW I1 hN hi hx r1 (fun s2 I2=>⟨_,H1,I2,q1⟩) hf
def MA(i j:Nat)(ta:TA):TS:=fun D σ H=>ta σ H fun vs H1=>∃v w,vs=[v,w]∧D.nx ((σ.set i (some v)).set j (some w)) H1
theorem Al{kt k2 pt2}(hc:X.calm=true)(hN:X.N.Nodup)(hi:X.N[i]?=some x)(hj:X.N[j]?=some y)(hij:i≠j)(hx:X.env.scope.names.lookup x=some .local)(hy:X.env.scope.names.lookup y=some .local)(ha:PA X [a,b] ta)(hw:swappedStores [.Tuple [.Name x px,.Name y py] kt pt] (.Tuple [a,b] k2 pt2) X.env=pure (some [x,y]))(hs:swapsWithSole [.Tuple [.Name x px,.Name y py] kt pt] (.Tuple [a,b] k2 pt2) pos.line X.env=pure false:=by rfl):
  PS X (.Assign [.Tuple [.Name x px,.Name y py] kt pt] (.Tuple [a,b] k2 pt2) pos) (MA i j ta):=by
 intro pins s σ H D I h;rw[exec_Assign_arm];refine Qj (Sa ?_);rw[hs];refine Qj (Qm ?_);rw[Qu (by decide)];refine Qj (Tuple_ (cU (ha _ pins s σ H _ I h) fun us s1 ⟨vs,H1,I1,r1,q1⟩=>?_));obtain⟨v,w,e1,q1⟩:=q1;subst e1;obtain⟨u1,u2,rfl,rv,rw'⟩:∃u1 u2,us=[u1,u2]∧RelV v u1∧RelV w u2:=by
  cases r1 with
  | cons p q=>
   cases q with
   | cons p' q'=>
    cases q';exact⟨_,_,rfl,p,p'⟩
 refine Ri ?_ (by show 2≤sizeLine;decide);have I2:Inv X pins σ H1 {s1 with heap:=s1.heap.push {cls:=.type "tuple",data:=.seq [u1,u2].toArray}}:=I1.kept (t':=s1.toks) fun b o e=>Ql _ e;rw[hw];refine Qj (Qm ?_);show wpAny (model X.prog X.w) X.A (do rule "assign.swapped-stores";let items←unpackItems (.ref s1.heap.objs.size) 2 none;assignInOrder [fun v=>bindName X.env y v,fun v=>bindName X.env x v] items.reverse;pure Flow.next) _ _ _;refine Qj (RU (Qj (unpackItems_tuple (items:=#[u1,u2]) (I.ok.hd hc) (IsTup.new s1.heap _) fun h' hx'=>?_)));have I3:=I2.kept (h':=h') (t':=s1.toks) fun b o e=>hx' b o (QF (Qw e)) e;show wpAny _ _ (assignInOrder [fun v=>bindName X.env y v,fun v=>bindName X.env x v] [u2,u1] >>=fun _=>pure Flow.next) _ _ _;refine Qj (VC (wpAny_bindName (jW I3 hN hj (.inl hy) rw' (fun s2 I4=>?_) (.inr hy))));refine VC (wpAny_bindName (jW I4 hN hi (.inl hx) rv (fun s3 I5=>assignInOrder_nil (Qm ?_)) (.inr hx)));rw[List.set_comm _ _ (RM hij)] at I5;exact⟨_,H1,I5,q1⟩
def OA(i:Nat)(te:TE)(ti:PJ):TS:=fun D σ H=>∃x,σ[i]?=some (some x)∧te σ H fun y H1=>ti x y H1 fun z H2=>D.nx (σ.set i (some z)) H2
theorem Ku(hN:X.N.Nodup)(hi:X.N[i]?=some x)(hx:Loc X.env.scope x)(he:PE X e te)(ho:NX X op ti)(hf:X.fn x=true∨X.env.scope.names.lookup x=some .local:=by first | exact .inl rfl | exact .inr rfl | assumption):
  PS X (.AugAssign (.Name x pos') op e pos) (OA i te ti):=by
 intro pins s σ H D I h;obtain⟨v,e1,h⟩:=h;obtain⟨m,hn,hl⟩:=I.loc;have vis:Mh X.env.scope x:=by rcases hx with k | k;exact .inl k;exact .inr (.inl k)
 obtain⟨u,r,l⟩:=hl i x v hi e1 vis;refine wpAny_AugAssign_Name ?_;have go:wpAny (model X.prog X.w) X.A (eval e X.env) (fun w s₂=>wpAny (model X.prog X.w) X.A (inplaceOp op u w) (fun r s₃=>wpAny (model X.prog X.w) X.A (storeName X.env x r) (fun _=>SP X pins D .next) X.xe s₃) X.xe s₂) X.xe s:=by
  refine cU (he pins s σ H _ I h) fun w s1 ⟨y,H1,I1,r1,q1⟩=>?_;refine cU (ho pins s1 σ H1 v y u w _ I1 r r1 q1) fun z s2 ⟨zv,H2,I2,r2,q2⟩=>?_;exact jW I2 hN hi hx r2 (fun s3 I3=>⟨_,H2,I3,q2⟩) hf
 rcases l with⟨hk,hm⟩ |⟨hk,c,hc,hcell⟩
 ·exact wpAny_loadName_local I.ok.kind hk hn hm go
 ·rcases hk with hk | hk
  ·exact wpAny_loadName_cell I.ok.kind hk hc hcell go
  ·rcases hx with k | k
   ·have:X.env.scope.names.lookup x=some .free:=hk;rw[k] at this;cases this
   ·have:X.env.scope.names.lookup x=some .free:=hk;rw[k] at this;cases this
def D1(c:TT)(tb:TS):TS:=fun D σ H=>∃W:Nat->St->Hp->Prop,(∃m,W m σ H)∧∀m σ H,W m σ H->
 c σ H fun b H1=>if b=true then ∃N:St->Hp->Prop,(∀σ' H',N σ' H'->∃m',m' < m∧W m' σ' H')∧tb {D with nx:=N,ct:=N,bk:=D.nx} σ H1 else D.nx σ H1
theorem EG(hp:PassesOwn (model X.prog X.w) X.A X.env X.xe)(hc:PT X c tc)(hb:zE X body tb):PS X (.While c body [] pos) (D1 tc tb):=by
 intro pins s σ H D I h;obtain⟨W,⟨m0,w0⟩,turn⟩:=h;refine wpAny_While (codeAny_whileLoop (fun n s'=>∃σ' H',Inv X pins σ' H' s'∧W n σ' H') ?_ m0 ⟨σ,H,I,w0⟩);rintro n s1 ⟨σ1,H1,I1,w1⟩;refine SN hp (cU (hc pins s1 σ1 H1 _ I1 (turn n σ1 H1 w1)) fun b s2 ⟨H2,I2,q2⟩=>?_);cases b with
 | true=>
  obtain⟨N,hN,q2⟩:=q2;rw[Qp rfl];refine SN hp (cU (hb pins s2 σ1 H2 _ I2 q2) fun f s3 q3=>?_);cases f with
  | next=>
   obtain⟨σ3,H3,I3,n3⟩:=q3;obtain⟨m',hm,w3⟩:=hN σ3 H3 n3;exact⟨m',hm,σ3,H3,I3,w3⟩
  | cont=>
   obtain⟨σ3,H3,I3,n3⟩:=q3;obtain⟨m',hm,w3⟩:=hN σ3 H3 n3;exact⟨m',hm,σ3,H3,I3,w3⟩
  | brk=>exact q3
  | ret v=>exact q3
 | false=>
  rw[Qu Rg];exact UG ⟨σ1,H2,I2,q2⟩
structure It where
 go:Nat->Hp->Prop
 IV:Nat->Hp->V->Hp->Prop
 stop:Nat->Hp->Prop
def ie(X:Cx)(pins:List (Addr×Obj))(H:Hp)(b:Addr):Prop:=
 H b=none∧b≠X.env.locals∧b∉X.fs∧(b∈X.ex∨X.s₀.heap.objs.size≤b)∧(∀x c,X.env.cells.lookup x=some c->c≠b)∧∀p∈X.pn++pins,p.1≠b
theorem Inv.xE(I:Inv X pins σ H s)(hb:s.heap.objs.size≤b)(hn:H' b=none):ie X pins H' b:=by
 refine⟨hn,TQ (QW I.lt hb),I.O3 hb,.inr (QB I.sz hb),fun x c e z=>?_,fun p hp z=>?_⟩
 ·obtain⟨v,q⟩:=I.cell x c e;exact absurd (QW q.lt (by rw[z];exact hb)) (Tc _)
 ·exact absurd (QW (Qw (I.pin p hp).1) (by rw[z];exact hb)) (Tc _)
structure Turn(P:Program)(w:World)(K:FR)(tg:Expr)(J:It)(fp:List Addr)(it:Addr)(tn:Nat->Heap->Prop):Prop where
 mem:it∈fp
 obj:∀i h,tn i h->∀b∈fp,∃o,h.get? b=some o∧∀v,o.data≠.cell v
 keep:∀i h h',tn i h->(∀b∈fp,∀o,h.get? b=some o->h'.get? b=some o)->tn i h'
 item:∀(X:Cx),X.prog=P->X.w=w->X.K=K->X.calm=true->∀(i:Nat)(pins:List (Addr×Obj)) (s:Shared) (σ:St) (H:Hp) (E:Value->Shared->Prop),Inv X pins σ H s->(∀b∈fp,ie X pins H b)->tn i s.heap->J.go i H->
  wpAny (model P w) X.A (pyNext (.ref it)) (fun r s1=>∃u,r=some u∧
   wpAny (model P w) X.A (letOwnedTupleGo tg (.ref it) u) (fun _ s2=>∃x H',Inv X pins σ H' s2∧RelV x u∧J.IV i H x H'∧tn (i+1) s2.heap∧∀b∈fp,H' b=none) E s1) E s
 done:∀(X:Cx),X.prog=P->X.w=w->X.K=K->X.calm=true->∀(i:Nat)(pins:List (Addr×Obj)) (s:Shared) (σ:St) (H:Hp) (E:Value->Shared->Prop),Inv X pins σ H s->(∀b∈fp,ie X pins H b)->tn i s.heap->J.stop i H->
  wpAny (model P w) X.A (pyNext (.ref it)) (fun r s1=>r=none∧Inv X pins σ H s1) E s
 self:∀(A:Around)(i:Nat)(s:Shared)(Q:Value->Shared->Prop)(E:Value->Shared->Prop),tn i s.heap->Q (.ref it) s->wpAny (model P w) A (pyIter (.ref it)) Q E s
abbrev TI:=St->Hp->(It->Hp->Prop)->Prop
def PR(X:Cx)(pins:List (Addr×Obj))(σ:St)(tg:Expr)(R:It->Hp->Prop)(itv:Value)(s2:Shared):Prop:=
 ∃(it:Addr)(fp:List Addr)(tn:Nat->Heap->Prop)(J:It)(H':Hp),itv=.ref it∧Inv X pins σ H' s2∧Turn X.prog X.w X.K tg J fp it tn∧tn 0 s2.heap∧(∀b∈fp,ie X pins H' b)∧R J H'
def PI(X:Cx)(tg iter:Expr)(wi:TI):Prop:=
 ∀(pins:List (Addr×Obj)) (s:Shared) (σ:St) (H:Hp) (R:It->Hp->Prop),Inv X pins σ H s->wi σ H R->
  wpAny (model X.prog X.w) X.A (eval iter X.env) (fun v s1=>wpAny (model X.prog X.w) X.A (pyIter v) (PR X pins σ tg R) X.xe s1) X.xe s
theorem BV(ho:s.heap.get? it=some o)(hc:o.cls=.type n)(hd:o.data=.fields vs)(hn:["enumerate","zip","dict_itemiterator","dict_reverseitemiterator","odict_iterator","itertools.zip_longest","itertools.pairwise"].contains n=false)(hQ:Q () s):wpAny M A (letOwnedTupleGo tg (.ref it) u) Q E s:=by
 unfold letOwnedTupleGo;cases tg <;> first
  | exact Qm hQ
  |(cases u <;> first
    | exact Qm hQ
    |(refine Qj (wpAny_load ho ?_);rw[hc,hd];show wpAny M A (if(["enumerate","zip","dict_itemiterator","dict_reverseitemiterator","odict_iterator","itertools.zip_longest","itertools.pairwise"].contains n&&vs[0]?==some (rawInt _))=true then _ else _) Q E s;rw[Qu (by intro h;rw[hn,Bool.false_and] at h;cases h)];exact Qm hQ))
noncomputable def Pp(K:FR)(a:Addr):It:=
 ⟨fun i H=>∃xs x,gH K H a xs∧xs[i]?=some x,fun i H x H'=>H'=H∧∀xs,gH K H a xs->xs[i]?=some x,fun i H=>∃xs,gH K H a xs∧xs.length≤i⟩
noncomputable def Po(K:FR)(a:Addr):It:=
 ⟨fun i H=>∃xs x,jS K H a xs∧xs[i]?=some x,fun i H x H'=>H'=H∧∀xs,jS K H a xs->xs[i]?=some x,fun i H=>∃xs,jS K H a xs∧xs.length≤i⟩
noncomputable def Ob(lo:Int)(n:Nat):It:=⟨fun i _=>i < n,fun i H x H'=>H'=H∧x=.int (lo+i),fun i _=>n≤i⟩
theorem Ck{P:Program}{w:World}{K:FR}{tg:Expr}(a it:Addr):Turn P w K tg (Pp K a) [it] it (fun i h=>h.IsListIter it a i) where
 mem:=by simp
 obj:=fun i h st b hb=>by
  have e:b=it:=by simpa using hb
  subst e;obtain⟨o,e,c,d⟩:=st;exact⟨o,e,fun v z=>by rw[d] at z;cases z⟩
 keep:=fun i h h' st k=>st.at fun o e=>k it (by simp) o e
 item:=by
  intro X hP hw hK hc i pins s σ H E I hf st hg;subst hP hw hK;obtain⟨xs,x,hq,hx⟩:=hg;obtain⟨its,rv,p,hz⟩:=I.list hq;obtain⟨u,hu,ru⟩:=rv.get hx;obtain⟨f0,f1,f2,f3,f4,f5⟩:=hf it (by simp);refine UB st p.isList (x:=u) (by simpa using hu) fun h' st' sb=>?_;have I1:Inv X pins σ H {s with heap:=h'}:=I.turned (t':=s.toks) (fun b o hb e=>(sb.2 b hb).trans e) f0 f1 f3 f4 f5;obtain⟨o,e,c,d⟩:=id st';exact⟨u,rfl,BV (s:={s with heap:=h'}) e c d (by decide) ⟨x,H,I1,ru,⟨rfl,fun ys hy=>by rw[I.y7 hy hq];exact hx⟩,st',fun b hb=>(hf b hb).1⟩⟩
 done:=by
  intro X hP hw hK hc i pins s σ H E I hf st hg;subst hP hw hK;obtain⟨xs,hq,hx⟩:=hg;obtain⟨its,rv,p,hz⟩:=I.list hq;obtain⟨f0,f1,f2,f3,f4,f5⟩:=hf it (by simp);have hl:=rv.length;exact UM (I.ok.hd hc) st p.isList (by simp;lia) fun h' eb=>⟨rfl,I.turned (t':=s.toks) (fun b o hb e=>eb b o hb e) f0 f1 f3 f4 f5⟩
 self:=fun _ _ _ _ _ st h=>wpAny_pyIter_listiter st h
theorem zL{P:Program}{w:World}{K:FR}{tg:Expr}(a it:Addr):Turn P w K tg (Po K a) [it] it (fun i h=>h.IsTupleIter it a i) where
 mem:=by simp
 obj:=fun i h st b hb=>by
  have e:b=it:=by simpa using hb
  subst e;obtain⟨o,e,c,d⟩:=st;exact⟨o,e,fun v z=>by rw[d] at z;cases z⟩
 keep:=fun i h h' st k=>st.at fun o e=>k it (by simp) o e
 item:=by
  intro X hP hw hK hc i pins s σ H E I hf st hg;subst hP hw hK;obtain⟨xs,x,hq,hx⟩:=hg;obtain⟨its,rv,p,hz⟩:=I.tuple hq;obtain⟨u,hu,ru⟩:=rv.get hx;obtain⟨f0,f1,f2,f3,f4,f5⟩:=hf it (by simp);refine wpAny_pyNext_tuple_item st (show s.heap.IsTuple a its.toArray from p) (x:=u) (by simpa using hu) fun h' st' sb=>?_;have I1:Inv X pins σ H {s with heap:=h'}:=I.turned (t':=s.toks) (fun b o hb e=>(sb.2 b hb).trans e) f0 f1 f3 f4 f5;obtain⟨o,e,c,d⟩:=id st';exact⟨u,rfl,BV (s:={s with heap:=h'}) e c d (by decide) ⟨x,H,I1,ru,⟨rfl,fun ys hy=>by rw[I.vg hy hq];exact hx⟩,st',fun b hb=>(hf b hb).1⟩⟩
 done:=by
  intro X hP hw hK hc i pins s σ H E I hf st hg;subst hP hw hK;obtain⟨xs,hq,hx⟩:=hg;obtain⟨its,rv,p,hz⟩:=I.tuple hq;obtain⟨f0,f1,f2,f3,f4,f5⟩:=hf it (by simp);have hl:=rv.length;exact wpAny_pyNext_tuple_end (I.ok.hd hc) st (show s.heap.IsTuple a its.toArray from p) (by simp;lia) fun h' eb=>⟨rfl,I.turned (t':=s.toks) (fun b o hb e=>eb b o hb e) f0 f1 f3 f4 f5⟩
 self:=fun _ _ _ _ _ st h=>wpAny_pyIter_tupleiter st h
theorem zM{P:Program}{w:World}{K:FR}{tg:Expr}(it:Addr)(lo:Int)(n:Nat):Turn P w K tg (Ob lo n) [it] it (fun i h=>IsRangeIter h it (lo+(i:Nat)*1) ((n:Int)-(i:Nat)) 1) where
 mem:=by simp
 obj:=fun i h st b hb=>by
  have e:b=it:=by simpa using hb
  subst e;exact⟨_,st,fun v z=>by
   have z':Data.fields _=Data.cell v:=z;cases z'⟩
 keep:=fun i h h' st k=>k it (by simp) _ st
 item:=by
  intro X hP hw hK hc i pins s σ H E I hf st hg;subst hP hw hK;obtain⟨f0,f1,f2,f3,f4,f5⟩:=hf it (by simp);have W:=Walks.range (prog:=X.prog) (w:=X.w) (I.ok.hd hc) it lo 1 n;refine W.item i s _ _ hg st fun v h' tk hv st' kk=>?_;obtain⟨t,rfl⟩:=hv;have I1:Inv X pins σ H {s with heap:=h',toks:=tk}:=I.turned (fun b o hb e=>kk b o (by simpa using hb) e) f0 f1 f3 f4 f5;refine⟨_,rfl,BV (s:={s with heap:=h',toks:=tk}) (n:="range_iterator") st' rfl rfl (by decide) ⟨.int (lo+i),H,I1,⟨t,?_⟩,⟨rfl,rfl⟩,st',fun b hb=>(hf b hb).1⟩⟩;rw[Int.mul_one]
 done:=by
  intro X hP hw hK hc i pins s σ H E I hf st hg;subst hP hw hK;obtain⟨f0,f1,f2,f3,f4,f5⟩:=hf it (by simp);exact wpAny_pyNext_range_end (I.ok.hd hc) st (by have:n≤i:=hg;lia) fun h' eb=>⟨rfl,I.turned (t':=s.toks) (fun b o hb e=>eb b o hb e) f0 f1 f3 f4 f5⟩
 self:=fun _ _ _ _ _ st h=>wpAny_pyIter_rangeiter st h
theorem Es{pins:List (Addr×Obj)}{σ:St}{H:Hp}{s:Shared}{R:It->Hp->Prop}{E:Value->Shared->Prop}{lo hi:Int}{t u v:Tok}{tk:Nat}(I:Inv X pins σ H s)(h1:-(2^62)≤lo)(h2:lo < 2^62)(h3:-(2^62)≤hi)(h4:hi < 2^62)
  (q:R (Ob lo (hi-lo).toNat) H):wpAny (model X.prog X.w) X.A (pyIter (.ref s.heap.objs.size)) (PR X pins σ tg R) E {s with heap:=s.heap.push {cls:=.type "range",data:=.fields #[.int lo t,.int hi u,.int 1 v]},toks:=tk}:=by
 refine wpAny_pyIter_range (IsRange.new ..) (small_one h1 h2 h3 h4) ?_;have I1:Inv X pins σ H {s with heap:=s.heap.push {cls:=.type "range",data:=.fields #[.int lo t,.int hi u,.int 1 v]},toks:=tk}:=I.kept fun b o e=>Ql _ e;refine⟨(s.heap.push {cls:=.type "range",data:=.fields #[.int lo t,.int hi u,.int 1 v]}).objs.size,[(s.heap.push {cls:=.type "range",data:=.fields #[.int lo t,.int hi u,.int 1 v]}).objs.size],_,_,H,rfl,
  I1.kept (t':=tk) fun b o e=>Ql _ e,zM _ lo (hi-lo).toNat,?_,fun b hb=>?_,q⟩
 ·have e1:lo+((0:Nat):Int)*1=lo:=by simp
  have e2:(((hi-lo).toNat:Nat):Int)-((0:Nat):Int)=Builtin.Range.rangeSize lo hi 1:=by rw[rangeSize_one];split <;> lia
  show IsRangeIter _ _ (lo+((0:Nat):Int)*1) ((((hi-lo).toNat:Nat):Int)-((0:Nat):Int)) 1;rw[e1,e2];exact Qx _ rfl
 ·have e:b=(s.heap.push {cls:=.type "range",data:=.fields #[.int lo t,.int hi u,.int 1 v]}).objs.size:=by simpa using hb
  subst e;exact I1.xE (Qq _) (I1.bI.fresh (Qq _))
def Np(ta:TA):TI:=fun σ H R=>ta σ H fun vs H1=>∃j:Int,vs=[.int j]∧-(2^62)≤j∧j < 2^62∧R (Ob 0 j.toNat) H1
theorem CJ{a:Expr}{ta:TA}{p pos:Pos}(hg:Gl X "range")(hm:X.mg "range"=none)(ha:PA X [a] ta)(hs:starEach [a] X.env=[(false,eval a X.env)]:=by rfl):PI X tg (.Call (.Name "range" p) [a] [] pos) (Np ta):=by
 intro pins s σ H R I h;refine Call_ (kI I hg hm boot_range (RT (cU (ha pos pins s σ H _ I h) fun us s1 ⟨vs,H1,I1,r1,q1⟩=>?_) hs rfl));obtain⟨j,e,q1,q2,q⟩:=q1;subst e;cases r1 with
 | cons r rr=>
  cases rr;obtain⟨t,rfl⟩:=r;exact call_range_1 (Es I1 (by lia) (by lia) q1 q2 (by simpa using q))
def ME(wi:TI)(g:TG)(tb:TS):TS:=fun D σ H=>wi σ H fun J H1=>∃W:Nat->Nat->St->Hp->Prop,(∃m,W 0 m σ H1)∧∀i m σ H,W i m σ H->
 (J.stop i H∧D.nx σ H)∨(J.go i H∧∃N:St->Hp->Prop,(∀σ' H',N σ' H'->∃m',m' < m∧W (i+1) m' σ' H')∧∀x H',J.IV i H x H'->g x σ H' fun σ2 H2=>tb {D with nx:=N,ct:=N,bk:=D.nx} σ2 H2)
noncomputable def pG(fp:List Addr)(h:Heap):List (Addr×Obj):=fp.filterMap fun b=>(h.get? b).map fun o=>(b,o)
theorem gc(hb:b∈fp)(e:h.get? b=some o):(b,o)∈pG fp h:=Su.mpr ⟨b,hb,by rw[e];rfl⟩
theorem CM(hp:p∈pG fp h):p.1∈fp∧h.get? p.1=some p.2:=by
 obtain⟨b,hb,e⟩:=Su.mp hp;cases q:h.get? b with
 | none=>rw[q] at e;cases e
 | some o=>
  rw[q] at e;have e':(b,o)=p:=Option.some.inj e;subst e';exact⟨hb,q⟩
theorem Inv.pinned(I:Inv X pins σ H s)(hf:∀b∈fp,ie X pins H b)(ho:∀b∈fp,∃o,s.heap.get? b=some o∧∀v,o.data≠.cell v):Inv X (pins++pG fp s.heap) σ H s:=
 I.BI fun p hp=>(QS.mp hp).elim (fun z=>I.pin p (QH _ z)) fun z=>by
  obtain⟨hb,e⟩:=CM z;obtain⟨f0,f1,f2,_⟩:=hf p.1 hb;obtain⟨o,e',d⟩:=ho p.1 hb;rw[e] at e';cases e';exact⟨e,f0,f1,f2,d⟩
theorem Inv.jU(I:Inv X (pins++pl) σ H s):Inv X pins σ H s:=I.BI fun p hp=>I.pin p (QH _ (RF _ hp))
theorem Kt(hp:PassesOwn (model X.prog X.w) X.A X.env X.xe)(hc:X.calm=true)(hi:PI X tg iter wi)(hg:PG X tg g)(hb:zE X body tb)(hs:∀x,foldedSetIterable iter X.env x=pure x:=by intro _;rfl):PS X (.For tg iter body [] pos) (ME wi g tb):=by
 intro pins s σ H D I h;refine wpAny_For (cU (hi pins s σ H _ I h) fun v s1 h1=>cU h1 fun itv s2 h2=>?_) hs;obtain⟨it,fp,tn,J,H2,e,I2,T,st2,f2,W,⟨m0,w0⟩,turn⟩:=h2;subst e;have stat:∀{H':Hp},(∀b∈fp,H' b=none)->∀b∈fp,ie X pins H' b:=fun hn b hb=>⟨hn b hb,(f2 b hb).2⟩;refine codeAny_forLoop_any (fun n s'=>∃i σ' H',Inv X pins σ' H' s'∧tn i s'.heap∧(∀b∈fp,H' b=none)∧W i n σ' H') ?_ m0 ⟨0,σ,H2,I2,st2,fun b hb=>(f2 b hb).1,w0⟩;rintro n s3 ⟨i,σ3,H3,I3,st3,fr3,w3⟩;rcases turn i n σ3 H3 w3 with⟨stop,qn⟩ |⟨go,N,hN,step⟩
 ·refine SN hp (cU (T.done X rfl rfl rfl hc i pins s3 σ3 H3 X.xe I3 (stat fr3) st3 stop) fun r s4 ⟨hr,I4⟩=>?_);subst hr;exact UG ⟨σ3,H3,I4,qn⟩
 ·refine SN hp (cU (T.item X rfl rfl rfl hc i pins s3 σ3 H3 X.xe I3 (stat fr3) st3 go) fun r s4 ⟨u,hr,h4⟩=>?_);subst hr;refine SN hp (cU h4 fun _ s5 ⟨x,H5,I5,r5,y5,st5,fr5⟩=>?_);have I5':=I5.pinned (stat fr5) (T.obj _ _ st5);refine SN hp (cU (hg _ s5 σ3 H5 x u _ I5' r5 (step x H5 y5)) fun _ s6 ⟨σ6,H6,I6,q6⟩=>?_);refine SN hp (cU (hb _ s6 σ6 H6 _ I6 q6) fun f s7 q7=>?_);have again:∀{σ7:St} {H7:Hp},Inv X (pins++pG fp s5.heap) σ7 H7 s7->N σ7 H7->∃m,m < n∧∃i σ' H',Inv X pins σ' H' s7∧tn i s7.heap∧(∀b∈fp,H' b=none)∧W i m σ' H':=fun {σ7 H7} I7 n7=>by
   obtain⟨m',hm,w7⟩:=hN σ7 H7 n7;refine⟨m',hm,i+1,σ7,H7,I7.jU,T.keep _ _ _ st5 fun b hb o e=>(I7.pin (b,o) (QH _ (QH _ (gc hb e)))).1,fun b hb=>?_,w7⟩;obtain⟨o,e,d⟩:=T.obj _ _ st5 b hb;exact(I7.pin (b,o) (QH _ (QH _ (gc hb e)))).2.1
  cases f with
  | next=>obtain⟨σ7,H7,I7,n7⟩:=q7;exact again I7 n7
  | cont=>obtain⟨σ7,H7,I7,n7⟩:=q7;exact again I7 n7
  | brk=>obtain⟨σ7,H7,I7,q7⟩:=q7;exact⟨σ7,H7,I7.jU,q7⟩
  | ret v=>obtain⟨x7,σ7,H7,I7,r7,q7⟩:=q7;exact⟨x7,σ7,H7,I7.jU,r7,q7⟩
abbrev R2:=V->V->Hp->VK->Prop
def lX(X:Cx)(f:Value->Value->Sem Value)(r:R2):Prop:=
 ∀(pins:List (Addr×Obj)) (s:Shared) (σ:St) (H:Hp) (x y:V) (v u:Value) (Q:VK),Inv X pins σ H s->RelV x v->RelV y u->r x y H Q->
  wpAny (model X.prog X.w) X.A (f v u) (EP X pins σ Q) X.xe s
def NJ(X:Cx)(f:Value->Sem Value)(r:V->Hp->VK->Prop):Prop:=
 ∀(pins:List (Addr×Obj)) (s:Shared) (σ:St) (H:Hp) (x:V) (v:Value) (Q:VK),Inv X pins σ H s->RelV x v->r x H Q->
  wpAny (model X.prog X.w) X.A (f v) (EP X pins σ Q) X.xe s
def fe(X:Cx)(f:Value)(r:List V->Hp->VK->Prop):Prop:=
 ∀(pins:List (Addr×Obj)) (s:Shared) (σ:St) (H:Hp) (xs:List V) (us:List Value) (Q:VK),Inv X pins σ H s->Vals xs us->r xs H Q->
  wpAny (model X.prog X.w) X.A (call f us) (EP X pins σ Q) X.xe s
def Pk(X:Cx)(r:V->Hp->(Bool->Hp->Prop)->Prop):Prop:=
 ∀(pins:List (Addr×Obj)) (s:Shared) (σ:St) (H:Hp) (x:V) (v:Value) (Q:Bool->Hp->Prop),Inv X pins σ H s->RelV x v->r x H Q->
  wpAny (model X.prog X.w) X.A (truthy v) (TP X pins σ Q) X.xe s
def MB(r:R2)(ta tb:TE):TE:=fun σ H Q=>ta σ H fun x H1=>tb σ H1 fun y H2=>r x y H2 Q
def P1(r:V->Hp->VK->Prop)(ta:TE):TE:=fun σ H Q=>ta σ H fun x H1=>r x H1 Q
def rI(C:Int->Int->Prop)(g:Int->Int->V):R2:=fun x y H Q=>∃i j,x=.int i∧y=.int j∧C i j∧Q (g i j) H
def Ez(g:Int->Int->V):R2:=fun x y H Q=>∃i j,x=.int i∧y=.int j∧Q (g i j) H
def rU(g:Int->V):V->Hp->VK->Prop:=fun x H Q=>∃i,x=.int i∧Q (g i) H
theorem LV(ha:PE X a ta)(hb:PE X b tb){pins:List (Addr×Obj)}{s:Shared}{σ:St}{H:Hp}{R:V->V->Hp->Prop}(I:Inv X pins σ H s)
  (h:ta σ H fun x H1=>tb σ H1 fun y H2=>R x y H2) {Q:Value->Shared->Prop} {f:Value->Value->Sem Value}
  (hf:∀v u s2 x y H2,Inv X pins σ H2 s2->RelV x v->RelV y u->R x y H2->wpAny (model X.prog X.w) X.A (f v u) Q X.xe s2):
  wpAny (model X.prog X.w) X.A (eval a X.env) (fun v s₁=>wpAny (model X.prog X.w) X.A (eval b X.env) (fun u s₂=>wpAny (model X.prog X.w) X.A (f v u) Q X.xe s₂) X.xe s₁) X.xe s:=by
 refine cU (ha pins s σ H _ I h) fun v s1 ⟨x,H1,I1,r1,q1⟩=>?_;refine cU (hb pins s1 σ H1 _ I1 q1) fun u s2 ⟨y,H2,I2,r2,q2⟩=>?_;exact hf v u s2 x y H2 I2 r1 r2 q2
theorem Jd{op:Operator}{r:R2}(ho:lX X (binaryOp op) r)(ha:PE X a ta)(hb:PE X b tb):PE X (.BinOp a op b pos) (MB r ta tb):=by
 intro pins s σ H Q I h;exact wpAny_BinOp (LV ha hb I h fun v u s2 x y H2 I2 rx ry q=>ho pins s2 σ H2 x y v u Q I2 rx ry q)
theorem M8(ho:NJ X (unaryOp op) r)(ha:PE X a ta):PE X (.UnaryOp op a pos) (P1 r ta):=by
 intro pins s σ H Q I h;exact UnaryOp_ (cU (ha pins s σ H _ I h) fun v s1 ⟨x,H1,I1,r1,q1⟩=>ho pins s1 σ H1 x v Q I1 r1 q1)
theorem N9{f:Value->Value->Sem Value}{C:Int->Int->Prop}{g:Int->Int->Int}
  (rule:∀(i j:Int)(t u:Tok)(s:Shared)(Q:Value->Shared->Prop)(E:Value->Shared->Prop),C i j->Q (.int (g i j) s.toks) {s with toks:=s.toks+1}->wpAny (model X.prog X.w) X.A (f (.int i t) (.int j u)) Q E s):
  lX X f (rI C fun i j=>.int (g i j)):=by
 intro pins s σ H x y v u Q I rx ry h;obtain⟨i,j,rfl,rfl,hc,q⟩:=h;obtain⟨t,rfl⟩:=rx;obtain⟨t',rfl⟩:=ry;exact rule i j t t' s _ _ hc ⟨.int (g i j),H,I.tok _,⟨_,rfl⟩,q⟩
theorem K5{f:Value->Value->Sem Value}{g:Int->Int->Int}
  (rule:∀(i j:Int)(t u:Tok)(s:Shared)(Q:Value->Shared->Prop)(E:Value->Shared->Prop),Q (.int (g i j) s.toks) {s with toks:=s.toks+1}->wpAny (model X.prog X.w) X.A (f (.int i t) (.int j u)) Q E s):
  lX X f (Ez fun i j=>.int (g i j)):=by
 intro pins s σ H x y v u Q I rx ry h;obtain⟨i,j,rfl,rfl,q⟩:=h;obtain⟨t,rfl⟩:=rx;obtain⟨t',rfl⟩:=ry;exact rule i j t t' s _ _ ⟨.int (g i j),H,I.tok _,⟨_,rfl⟩,q⟩
theorem HA{f:Value->Value->Sem Value}{g:Int->Int->Bool}
  (rule:∀(i j:Int)(t u:Tok)(s:Shared)(Q:Value->Shared->Prop)(E:Value->Shared->Prop),Q (.bool (g i j)) s->wpAny (model X.prog X.w) X.A (f (.int i t) (.int j u)) Q E s):
  lX X f (Ez fun i j=>.bl (g i j)):=by
 intro pins s σ H x y v u Q I rx ry h;obtain⟨i,j,rfl,rfl,q⟩:=h;obtain⟨t,rfl⟩:=rx;obtain⟨t',rfl⟩:=ry;exact rule i j t t' s _ _ ⟨.bl (g i j),H,I,rfl,q⟩
def Pr(i j:Int):Prop:=0≤j∧j≤1000000∧i.natAbs < 2^64
def Mb(i j:Int):Prop:=(-(2^64) < i∧i < 2^64)∨(-(2^64) < j∧j < 2^64)
theorem Mb.ok(h:Mb i j):IntMulOk i j:=by
 rcases h with⟨h1,h2⟩ |⟨h1,h2⟩
 ·exact .of_left (intBits_le_64 h1 h2)
 ·exact .of_right (intBits_le_64 h1 h2)
theorem K4:lX X (binaryOp .Add) (Ez fun i j=>.int (i+j)):=K5 fun _ _ _ _ _ _ _ q=>add_int q
theorem KY:lX X (binaryOp .Sub) (Ez fun i j=>.int (i-j)):=K5 fun _ _ _ _ _ _ _ q=>sub_int q
theorem K1:lX X (binaryOp .Mult) (rI Mb fun i j=>.int (i*j)):=N9 fun _ _ _ _ _ _ _ hc q=>mul_int q hc.ok
theorem K2:lX X (binaryOp .Mod) (rI (fun _ j=>0 < j) fun i j=>.int (i % j)):=N9 fun i j _ _ _ _ _ hc q=>by
 have h1:(0:Int) < j:=hc;exact mod_int' (by lia) (by rw[Int.fmod_eq_emod_of_nonneg i (by lia)];exact q)
theorem K0:lX X (binaryOp .Pow) (rI Pr fun i j=>.int (i^j.toNat)):=N9 fun _ _ _ _ _ _ _ hc q=>pow_int_small hc.1 hc.2.1 hc.2.2 q
theorem HV:lX X (inplaceOp .Sub) (Ez fun i j=>.int (i-j)):=K5 fun _ _ _ _ _ _ _ q=>isub_int q
theorem P0{f:Value->Sem Value}{g:Int->Int}
  (rule:∀(i:Int)(t:Tok)(s:Shared)(Q:Value->Shared->Prop)(E:Value->Shared->Prop),Q (.int (g i) s.toks) {s with toks:=s.toks+1}->wpAny (model X.prog X.w) X.A (f (.int i t)) Q E s):
  NJ X f (rU fun i=>.int (g i)):=by
 intro pins s σ H x v Q I rx h;obtain⟨i,rfl,q⟩:=h;obtain⟨t,rfl⟩:=rx;exact rule i t s _ _ ⟨.int (g i),H,I.tok _,⟨_,rfl⟩,q⟩
theorem Jy:NJ X (unaryOp .USub) (rU fun i=>.int (-i)):=P0 fun _ _ _ _ _ q=>neg_int q
theorem Ly(I:Inv X pins σ H s)(q:Q (.bl k) H)(e:k=k'):EP X pins σ Q (.bool k') s:=by
 subst e;exact⟨.bl k,H,I,rfl,q⟩
theorem Nf:lX X (compareOp .Lt) (Ez fun i j=>.bl (decide (i < j))):=HA fun _ _ _ _ _ _ _ q=>lt_int q
theorem Ng:lX X (compareOp .LtE) (Ez fun i j=>.bl (decide (i≤j))):=HA fun _ _ _ _ _ _ _ q=>le_int q
theorem Nh:lX X (compareOp .Gt) (Ez fun i j=>.bl (decide (j < i))):=HA fun _ _ _ _ _ _ _ q=>gt_int q
theorem Ni:lX X (compareOp .GtE) (Ez fun i j=>.bl (decide (j≤i))):=HA fun _ _ _ _ _ _ _ q=>ge_int q
theorem K3:lX X (compareOp .Is) (fun x y H Q=>y=.cN∧Q (.bl (decide (x=.cN))) H):=by
 intro pins s σ H x y v u Q I rx ry h;obtain⟨rfl,q⟩:=h;cases ry;refine is_none_gen (Ly I q ?_);cases x <;> first
  |(cases rx;rfl)
  |(obtain⟨t,rfl⟩:=rx;rfl)
theorem aA(b:Expr)(h:op≠.In:=by decide)(h2:op≠.NotIn:=by decide):behindInMarks op b=false:=by
 have e1:(op==CmpOp.In)=false:=by cases op <;> first | rfl | exact absurd rfl h
 have e2:(op==CmpOp.NotIn)=false:=by cases op <;> first | rfl | exact absurd rfl h2
 cases b <;> simp[behindInMarks,e1,e2]
theorem Hu{op:CmpOp}{r:R2}(ho:lX X (compareOp op) r)(ha:PE X a ta)(hb:PE X b tb)(hm:behindInMarks op b=false):PE X (.Compare a [op] [b] pos) (MB r ta tb):=by
 intro pins s σ H Q I h;exact wpAny_Compare1 (LV ha hb I h fun v u s2 x y H2 I2 rx ry q=>ho pins s2 σ H2 x y v u Q I2 rx ry q) hm
def IW(t:TE):TT:=fun σ H Q=>t σ H fun x H'=>∃k,x=.bl k∧Q k H'
theorem Ha(ho:lX X (compareOp op) r)(ha:PE X a ta)(hb:PE X b tb)(hm:behindInMarks op b=false):PT X (.Compare a [op] [b] pos) (IW (MB r ta tb)):=by
 intro pins s σ H Q I h;refine wpAny_isTrue_Compare1 (cU (ha pins s σ H _ I h) fun v s1 ⟨x,H1,I1,r1,q1⟩=>cU (hb pins s1 σ H1 _ I1 q1) fun u s2 ⟨y,H2,I2,r2,q2⟩=>
  cU (ho pins s2 σ H2 x y v u _ I2 r1 r2 q2) fun c s3 ⟨z,H3,I3,r3,k,e,q3⟩=>?_) hm
 subst e;cases r3;exact RD ⟨H3,I3,q3⟩
def zO(r r':R2)(ta tb tc:TE):TE:=fun σ H Q=>ta σ H fun x H1=>tb σ H1 fun y H2=>r x y H2 fun z H3=>∃k,z=.bl k∧
 (if k=true then tc σ H3 fun w' H4=>r' y w' H4 Q else Q (.bl false) H3)
theorem EV(ho:lX X (compareOp op) r)(ho':lX X (compareOp op') r')(ha:PE X a ta)(hb:PE X b tb)(hc:PE X c tc)(hm:lastMarks [op,op'] [b,c]=false:=by with_unfolding_all rfl):PE X (.Compare a [op,op'] [b,c] pos) (zO r r' ta tb tc):=by
 intro pins s σ H Q I h;refine Compare_chain (cU (ha pins s σ H _ I h) fun v s1 ⟨x,H1,I1,r1,q1⟩=>chain_link (cU (hb pins s1 σ H1 _ I1 q1) fun u s2 ⟨y,H2,I2,r2,q2⟩=>
  cU (ho pins s2 σ H2 x y v u _ I2 r1 r2 q2) fun d s3 ⟨z,H3,I3,r3,k,e,q3⟩=>?_)) hm
 subst e;cases r3;refine RD ?_;cases k with
 | false=>exact ite_ff ⟨.bl false,H3,I3,rfl,q3⟩
 | true=>exact ite_tt (chain_last (cU (hc pins s3 σ H3 _ I3 q3) fun w' s4 ⟨z',H4,I4,r4,q4⟩=>ho' pins s4 σ H4 y z' u w' Q I4 r2 r4 q4))
theorem EE(ho:lX X (compareOp op) r)(ho':lX X (compareOp op') r')(ha:PE X a ta)(hb:PE X b tb)(hc:PE X c tc)(hm:lastMarks [op,op'] [b,c]=false:=by with_unfolding_all rfl):PT X (.Compare a [op,op'] [b,c] pos) (IW (zO r r' ta tb tc)):=by
 intro pins s σ H Q I h;refine isTrue_chain (cU (ha pins s σ H _ I h) fun v s1 ⟨x,H1,I1,r1,q1⟩=>test_link (cU (hb pins s1 σ H1 _ I1 q1) fun u s2 ⟨y,H2,I2,r2,q2⟩=>
  cU (ho pins s2 σ H2 x y v u _ I2 r1 r2 q2) fun d s3 ⟨z,H3,I3,r3,k,e,q3⟩=>?_)) hm
 subst e;cases r3;refine RD ?_;cases k with
 | false=>
  obtain⟨k',e',q'⟩:=q3;cases e';exact ite_ff ⟨H3,I3,q'⟩
 | true=>
  refine ite_tt (test_last (cU (hc pins s3 σ H3 _ I3 q3) fun w' s4 ⟨z',H4,I4,r4,q4⟩=>cU (ho' pins s4 σ H4 y z' u w' _ I4 r2 r4 q4) fun d' s5 ⟨z2,H5,I5,r5,k2,e2,q5⟩=>?_));subst e2;cases r5;exact RD ⟨H5,I5,q5⟩
def L3(K:FR)(x:V)(H:Hp)(k:Bool):Prop:=
 match x with
 | .cN=>k=false
 | .bl b=>k=b
 | .int i=>k=(i !=0)
 | .str y=>y.length≤sizeLine∧k=((y.length:Int) !=0)
 | .byt y=>y.size≤sizeLine∧k=((y.size:Int) !=0)
 | .ref p=>(∃xs,gH K H p xs∧k=!xs.isEmpty)∨(∃xs,jS K H p xs∧k=!xs.isEmpty)∨∃kvs,H p=some (.dK kvs)∧k=!kvs.isEmpty
 | _=>False
theorem AN(r:KV kvs vs):(!vs.isEmpty)=!kvs.isEmpty:=by
 cases r <;> rfl
theorem tH(r:Vals xs its):(!its.toArray.isEmpty)=!xs.isEmpty:=by
 cases r <;> simp
theorem mR:(sizeLine:Nat) < 2^63:=by rw[Q4];decide
theorem JD:Pk X (fun x H Q=>∃k,L3 X.K x H k∧Q k H):=by
 intro pins s σ H x v Q I rx h;obtain⟨k,e,q⟩:=h;have hl:=mR;have hs:sizeLine=16777216:=Q4;cases x with
 | cN=>
  cases rx;have e':k=false:=e;subst e';exact truthy_none ⟨H,I,q⟩
 | bl b=>
  cases rx;have e':k=b:=e;subst e';exact RD ⟨H,I,q⟩
 | int i=>
  obtain⟨t,rfl⟩:=rx;have e':k=(i !=0):=e;subst e';exact PySem.P.truthy_int ⟨H,I,q⟩
 | str y=>
  obtain⟨t,rfl⟩:=rx;obtain⟨hy,e'⟩:y.length≤sizeLine∧k=((y.length:Int) !=0):=e;subst e';exact PySem.P.truthy_str (by lia) ⟨H,I.tok _,q⟩
 | byt y=>
  obtain⟨t,rfl⟩:=rx;obtain⟨hy,e'⟩:y.size≤sizeLine∧k=((y.size:Int) !=0):=e;subst e';exact PySem.W.truthy_bytes (by lia) ⟨H,I.tok _,q⟩
 | ref p=>
  cases rx;have e':(∃xs,gH X.K H p xs∧k=!xs.isEmpty)∨(∃xs,jS X.K H p xs∧k=!xs.isEmpty)∨∃kvs,H p=some (.dK kvs)∧k=!kvs.isEmpty:=e;rcases e' with⟨xs,hx,e'⟩ |⟨xs,hx,e'⟩ |⟨kvs,hx,e'⟩
  ·subst e';obtain⟨its,r,pl,hz⟩:=I.list hx;have hlen:=r.length;exact wpAny_truthy_list pl.isList (by simp only[QA];lia) ⟨H,I.tok _,by rw[tH r];exact q⟩
  ·subst e';obtain⟨its,r,pl,hz⟩:=I.tuple hx;have hlen:=r.length;exact truthy_tuple pl (by simp only[QA];lia) ⟨H,I.tok _,by rw[tH r];exact q⟩
  ·subst e';obtain⟨hz,hS,vs,r,m⟩:kvs.length≤sizeLine∧(p==sysModules)=false∧∃vs,KV kvs vs∧s.heap.DictOf (aO X.prog X.w) p vs:=I.bI p _ hx;have hlen:kvs.length=vs.length:=Paired.length r;exact wpAny_truthy_dict hS m (by lia) ⟨H,I.tok _,by rw[AN r];exact q⟩
 | _=>exact(show False from e).elim
theorem ED(ha:PE X a ta)(he:∀whole,isTrue a X.env whole=(do let v←whole;standAt a.pos;holding [v] (truthy v))):
  PT X a (fun σ H Q=>ta σ H fun x H'=>∃k,L3 X.K x H' k∧Q k H'):=by
 intro pins s σ H Q I h;exact isTrue_plain (cU (ha pins s σ H _ I h) fun v s1 ⟨x,H1,I1,r1,q1⟩=>JD pins s1 σ H1 x v Q I1 r1 q1) (he _)
theorem Aq:lX X (binaryOp .Add) (fun x y H Q=>∃i j,x=.str i∧y=.str j∧i.length+j.length≤sizeLine∧Q (.str (i++j)) H):=by
 intro pins s σ H x y v u Q I rx ry h;obtain⟨i,j,rfl,rfl,hz,q⟩:=h;obtain⟨t,rfl⟩:=rx;obtain⟨t',rfl⟩:=ry;exact add_str (fun t' tk=>⟨.str (i++j),H,I.tok _,⟨_,rfl⟩,q⟩) hz
theorem vals1(r:Vals [x] us):∃u,us=[u]∧RelV x u:=by
 cases r with
 | cons r1 r2=>cases r2;exact⟨_,rfl,r1⟩
theorem vals2(r:Vals [x,y] us):∃u w',us=[u,w']∧RelV x u∧RelV y w':=by
 cases r with
 | cons r1 r2=>
  cases r2 with
  | cons r3 r4=>cases r4;exact⟨_,_,rfl,r1,r3⟩
theorem F6:fe X (.builtin "abs") (fun xs H Q=>∃i,xs=[.int i]∧Q (.int (if i < 0 then -i else i)) H):=by
 intro pins s σ H xs us Q I r h;obtain⟨i,rfl,q⟩:=h;obtain⟨u,rfl,t,rfl⟩:=vals1 r;exact call_abs_int fun u tk=>⟨.int (if i < 0 then -i else i),H,I.tok _,⟨_,rfl⟩,q⟩
theorem Dy(hc:X.calm=true):fe X (.builtin "max") (fun xs H Q=>∃i j,xs=[.int i,.int j]∧Q (.int (if j > i then j else i)) H):=by
 intro pins s σ H xs us Q I r h;obtain⟨i,j,rfl,q⟩:=h;obtain⟨u,w',rfl,⟨t,rfl⟩,⟨t',rfl⟩⟩:=vals2 r;refine max_two_ints (I.ok.hd hc) fun h' tk k=>⟨_,H,I.kept k,?_,q⟩
 by_cases hj:j > i
 ·rw[Qp hj,Qp hj];exact⟨_,rfl⟩
 ·rw[Qu hj,Qu hj];exact⟨_,rfl⟩
theorem Dx(hc:X.calm=true):fe X (.builtin "min") (fun xs H Q=>∃i j,xs=[.int i,.int j]∧Q (.int (if j < i then j else i)) H):=by
 intro pins s σ H xs us Q I r h;obtain⟨i,j,rfl,q⟩:=h;obtain⟨u,w',rfl,⟨t,rfl⟩,⟨t',rfl⟩⟩:=vals2 r;refine min_two_ints (I.ok.hd hc) fun h' tk k=>⟨_,H,I.kept k,?_,q⟩
 by_cases hj:j < i
 ·rw[Qp hj,Qp hj];exact⟨_,rfl⟩
 ·rw[Qu hj,Qu hj];exact⟨_,rfl⟩
structure Ma(h:Heap)(x dx C:Addr)(mA:Str->Option Value):Prop where
 obj:h.get? x=some (PySem.W.instObj C dx)
 ns:h.Ns1 dx mA
 ne:dx≠x
theorem CS{h:Heap}{dx:Addr}{mA:Str->Option Value}(n:h.Ns1 dx mA):∃od,h.get? dx=some od∧∀name,PySem.W.lookIn name od=some (mA name):=by
 obtain⟨o,es,ep,ho,hd,hk,_,hm⟩:=n;refine⟨o,ho,fun name=>?_⟩;have e:=hm name;unfold nsFind findBy at e;rw[←Array.find?_toList] at e;unfold PySem.W.lookIn;rw[hd];dsimp only
 split
 ·rename_i y q;rw[q] at e;exact congrArg some e
 ·rename_i q;rw[q] at e;have a:es.toList.any (·.refKey)=false:=by
   rw[V7];intro y hy;obtain⟨z,t,hkey⟩:=hk y (Rb.mp hy);simp[DictEntry.refKey,hkey]
  have a':¬es.toList.any (·.refKey)=true:=by rw[a];exact Rg
  rw[Qu a'];exact congrArg some e
theorem Ma.look(I:Ma h x dx C mA):∃od,PySem.W.InstAt h x (PySem.W.instObj C dx) C (some od)∧∀name,PySem.W.lookIn name od=some (mA name):=
 let⟨od,ho,hl⟩:=CS I.ns
 ⟨od,⟨I.obj,rfl,rfl,ho⟩,hl⟩
section
variable {prog:Program} {w:World} {A:Around} {E:Value->Shared->Prop} {s:Shared} {K:FR} {x dx C f:Addr} {mA:Str->Option Value} {name:Str} {v:Value}
end
theorem ur.some_of(r:ur (some v) o):∃u,o=some u∧RelV v u:=by
 cases o with
 | none=>exact(show False from r).elim
 | some u=>exact⟨u,rfl,r⟩
theorem HX(bI:lL P w H h)(e:H a=some (.ins C dx fs)):∃mA,Ma h a dx C mA∧(∀f,ur (fs.lookup f) (mA f))∧PySem.Within mA (fs.map (·.1))∧fs.length≤1000∧H dx=some (.own a):=by
 obtain⟨d,z,ne,ob,mA,n,r,q⟩:=(show cS P w H h a (.ins C dx fs) from bI a _ e);exact⟨mA,⟨ob,n,ne⟩,r,q,z,d⟩
structure Pq(K:FR)(C:Addr):Prop where
 pg:PySem.W.plainGet K C Str.empty=true
 hd:PySem.W.hasDictIn K C=true
 po:PySem.W.plainOver K C=true
 sa:PySem.W.findIn K (.ref C) "__setattr__"=some (some (.builtin "object.__setattr__"))
theorem Pq.get{K:FR}{C:Addr}(c:Pq K C)(f:Str):PySem.W.plainGet K C f=true:=c.pg
inductive ow(K:FR)(H:Hp):V->Value->Prop where
 | cN:ow K H .cN (.type "NoneType")
 | bl (x:Bool):ow K H (.bl x) (.type "bool")
 | int (i:Int):ow K H (.int i) (.type "int")
 | str (x:Str):ow K H (.str x) (.type "str")
 | Me (x:UInt64):ow K H (.Me x) (.type "float")
 | lst {a:Addr} {xs:List V} (e:H a=some (.lst xs)):ow K H (.ref a) (.type "list")
 | BX {a:Addr} {o:Obj} {xs:List V} (e:H a=some (.BX o (.lst xs))):ow K H (.ref a) (.type "list")
 | tup {a:Addr} {xs:List V} (e:H a=some (.tup xs)):ow K H (.ref a) (.type "tuple")
 | dK {a:Addr} {kvs:List (Key×V)} (e:H a=some (.dK kvs)):ow K H (.ref a) (.type "dict")
 | dT {a:Addr} {kvs:List (List Key×V)} (e:H a=some (.dT kvs)):ow K H (.ref a) (.type "dict")
 | ins {a C dx:Addr} {fs:List (Str×V)} (e:H a=some (.ins C dx fs)) (cl:Pq K C) (ha:PySem.W.findIn K (.ref C) "__class__"=some (some (.builtin "object.__class__")))
   (hn:PySem.W.specialIn K (.builtin "object.__class__") "__get__"=some (some (.builtin "getset_descriptor.__get__"))) (htk:PySem.W.takesIn K (.builtin "object.__class__")=some true)
   (hm:PySem.W.mroIn K C (.type "object")=some true):ow K H (.ref a) (.ref C)
theorem C1(I:Inv X pins σ H s)(rx:RelV x u)(ty:ow X.K H x t)(e:PySem.W.kitOne X.K t c=some b)(h:∀tk,Q (.bool b) {s with toks:=tk}):
  wpAny (model X.prog X.w) A (call (.builtin "isinstance") [u,c]) Q E s:=by
 cases ty with
 | cN=>cases(show u=Value.none from rx);exact RH PySem.W.kitx_none I.vO True.intro e (fun z=>nomatch z) h
 | bl y=>cases(show u=Value.bool y from rx);exact RH PySem.W.kitx_bool I.vO True.intro e (fun z=>nomatch z) h
 | int i=>obtain⟨t,q⟩:=(show ∃t,u=Value.int i t from rx);cases q;exact RH PySem.W.kitx_int I.vO True.intro e (fun z=>nomatch z) h
 | str y=>obtain⟨t,q⟩:=(show ∃t,u=Value.str y t from rx);cases q;exact RH PySem.W.kitx_str I.vO True.intro e (fun z=>nomatch z) h
 | Me y=>obtain⟨t,q⟩:=(show ∃t,u=Value.float y t from rx);cases q;exact RH PySem.W.kitx_float I.vO True.intro e (fun z=>nomatch z) h
 | @lst a xs ea=>
  cases(show u=Value.ref a from rx);obtain⟨_,_,n,_,h1⟩:=(show cS X.prog X.w H s.heap a (.lst xs) from I.bI a _ ea);exact RH V1 I.vO ⟨_,h1,rfl⟩ e (fun z=>nomatch z) h
 | @BX a ob xs ea=>
  cases(show u=Value.ref a from rx);obtain⟨_,_,_,n,_,h1⟩:=(show cS X.prog X.w H s.heap a (.BX ob (.lst xs)) from I.bI a _ ea);exact RH V1 I.vO ⟨_,h1,rfl⟩ e (fun z=>nomatch z) h
 | @tup a xs ea=>
  cases(show u=Value.ref a from rx);obtain⟨_,_,_,p⟩:=(show cS X.prog X.w H s.heap a (.tup xs) from I.bI a _ ea);obtain⟨o,h1,h2,_⟩:=p;exact RH VT I.vO ⟨o,h1,h2⟩ e (fun z=>nomatch z) h
 | @dK a kvs ea=>
  cases(show u=Value.ref a from rx);obtain⟨_,_,vs,_,p⟩:=(show cS X.prog X.w H s.heap a (.dK kvs) from I.bI a _ ea);obtain⟨o,es,ep,h1,h2,_⟩:=p;exact RH V2 I.vO ⟨o,h1,h2.1⟩ e (fun z=>nomatch z) h
 | @dT a kvs ea=>
  cases(show u=Value.ref a from rx);obtain⟨_,_,xs,_,o,es,ep,h1,h2,_⟩:=(show cS X.prog X.w H s.heap a (.dT kvs) from I.bI a _ ea);exact RH V2 I.vO ⟨o,h1,h2.1⟩ e (fun z=>nomatch z) h
 | @ins a C dx fs ea cl ha hn htk hm=>
  cases(show u=Value.ref a from rx);obtain⟨mA,O,_⟩:=HX I.bI ea;obtain⟨od,J,_⟩:=O.look;exact RH (PySem.W.kitx_own (cl.get _) cl.hd ha hn htk hm) I.vO J e (fun z=>nomatch z) h
structure ip(k:Nat)(A:Around):Prop where
 hd:A.handled=none
 dp:A.depth+3*k+5 < recursionLimit
 un:A.units+16*k+200 < cLine
theorem ip.mono(r:ip k A)(h:j≤k):ip j A:=⟨r.hd,by have:=r.dp;lia,by have:=r.un;lia⟩
theorem ip.deeper(r:ip (k+1) A)(env:Env):ip k (A.deeper env):=
 ⟨r.hd,by have:=r.dp;show A.depth+1+3*k+5 < _;lia,by have:=r.un;show A.units+3+16*k+200 < _;lia⟩
theorem ip.depth(r:ip k A):A.depth < recursionLimit:=by have:=r.dp;lia
theorem ip.units(r:ip k A):A.units+64 < cLine:=by have:=r.un;lia
def Ov:TA:=fun _ H Q=>Q [] H
def MG(ta:TE)(tr:TA):TA:=fun σ H Q=>ta σ H fun x H1=>tr σ H1 fun xs H2=>Q (x::xs) H2
theorem sR:PA X [] Ov:=fun _ _ _ _ H Q I h=>Calls.spliced_nil ⟨[],H,I,.nil,h⟩
theorem nJ(ha:PE X e te)(hr:PA X es t)(hs:starEach (e::es) X.env=(false,eval e X.env)::starEach es X.env:=by rfl):PA X (e::es) (MG te t):=by
 intro pos pins s σ H Q I h;rw[hs];show wpAny _ _ (spliced ((false,eval e X.env)::backTo pos (starEach es X.env))) _ _ s;refine Calls.spliced_cons (cU (ha pins s σ H _ I h) fun u s1 ⟨x,H1,I1,r1,q1⟩=>?_);exact cU (hr pos pins s1 σ H1 _ I1 q1) fun us s2 ⟨xs,H2,I2,r2,q2⟩=>⟨x::xs,H2,I2,.cons r1 r2,q2⟩
def Oq(t:TA):TE:=fun σ H Q=>t σ H fun xs H1=>xs.length≤sizeLine∧∀p,H1 p=none->Q (.ref p) (upd H1 p (.tup xs))
def Ox(t:TA):TE:=fun σ H Q=>t σ H fun xs H1=>xs.length≤sizeLine∧∀p,H1 p=none->Q (.ref p) (upd H1 p (.lst xs))
theorem KD{x1}(h:PA X es t):PE X (.Tuple es x1 pos) (Oq t):=by
 intro pins s σ H Q I hq;refine wpAny_Tuple_spliced (cU (h pos pins s σ H _ I hq) fun us s1 ⟨xs,H1,I1,r,z,q⟩=>⟨by rw[←r.length];exact z,?_⟩);have hf:H1 s1.heap.objs.size=none:=I1.bI.fresh (Qq _);refine⟨.ref s1.heap.objs.size,upd H1 s1.heap.objs.size (.tup xs),I1.laid (t':=s1.toks) (fun b u e=>Ql _ e) (Qq _) ?_,rfl,q _ hf⟩;exact⟨z,us,r,⟨_,Qx _ rfl,rfl,⟨_,rfl⟩,rfl⟩⟩
theorem KN(h:PA X es t):PE X (.List es pos) (Ox t):=by
 intro pins s σ H Q I hq;refine wpAny_List_spliced (cU (h pos pins s σ H _ I hq) fun us s1 ⟨xs,H1,I1,r,z,q⟩=>⟨by rw[←r.length];exact z,?_⟩);have hf:H1 s1.heap.objs.size=none:=I1.bI.fresh (Qq _);refine⟨.ref s1.heap.objs.size,upd H1 s1.heap.objs.size (.lst xs),I1.laid (t':=s1.toks) (fun b u e=>Ql _ e) (Qq _) ?_,rfl,q _ hf⟩;exact⟨z,us,0,r,Qx _ rfl⟩
abbrev Sp:=List V->Hp->VK->XK->Prop
abbrev IT:=List Env->Hp->Shared->XK->Value->Shared->Prop
structure IQ(P:Program)(w:World)(K:FR)(mg:Str->Option Value)(base:Heap)(A:Around)(outer:List Env)(s:Shared)(H:Hp):Prop where
 frames:A.frames=some outer
 mod:Mod K mg base
 bs:∀b o,base.get? b=some o->s.heap.get? b=some o∧H b=none
 Jm:base.objs.size≤s.heap.objs.size
 tN:s.heap.FunFrames base outer
 Md:∀b∈DM outer,H b=none
 bI:lL P w H s.heap
 bare:AllBare s.gens
def CE(outer:List Env)(P:Program)(w:World)(H:Hp)(s:Shared)(Q:VK)(u:Value)(s':Shared):Prop:=
 ∃v H',s'.os=s.os∧AllBare s'.gens∧Un (DM outer) [] H H' s.heap s'.heap∧lL P w H' s'.heap∧RelV v u∧Q v H'
def CR(CX:IT)(outer:List Env)(P:Program)(w:World)(H:Hp)(s:Shared)(Q:VK)(E:XK)(r:Result)(s':Shared):Prop:=
 match r with
 | .ok (.ret u)=>CE outer P w H s Q u s'
 | .ok _=>False
 | .error e=>CX outer H s E e s'
structure bB(P:Program)(w:World)(K:FR)(mg:Str->Option Value)(base:Heap)(CX:IT)(k:Nat)(f:Addr)(fd:FuncData)(ps:List Str)(sp:Sp):Prop where
 len:∀vs H Q E,sp vs H Q E->vs.length=ps.length
 run:∀(A:Around)(outer:List Env)(s:Shared)(H:Hp)(args:Args)(us:List Value)(vs:List V)(Q:VK)(E:XK),ip k A->IQ P w K mg base A outer s H->BindsTo s fd args (ps.zip us)->Vals vs us->sp vs H Q E->
  codeAny (model P w) A (.call (.ref f) args) (CR CX outer P w H s Q E) s
theorem bB.imp{P:Program}{w:World}{K:FR}{mg:Str->Option Value}{base:Heap}{CX:IT}{k:Nat}{f:Addr}{fd:FuncData}{ps:List Str}{sp sp':Sp}(F:bB P w K mg base CX k f fd ps sp)
  (h:∀vs H Q E,sp' vs H Q E->sp vs H Q E):bB P w K mg base CX k f fd ps sp':=
 ⟨fun vs H Q E q=>F.len vs H Q E (h _ _ _ _ q),fun A outer s H args us vs Q E hr he hb hv hs=>F.run A outer s H args us vs Q E hr he hb hv (h _ _ _ _ hs)⟩
theorem Inv.Pd(I:Inv X pins σ H s):IQ X.prog X.w X.K X.mg X.base X.A X.stack s H:=
 ⟨I.ok.frames,I.ok.mod,I.bs,QB I.ok.Jm I.sz,I.stack,I.BB,I.bI,I.bare⟩
theorem Inv.after(I:Inv X pins σ H s)(h:CE X.stack X.prog X.w H s Q u s'):EP X pins σ Q u s':=by
 obtain⟨v,H',os,bare,un,bI,r,q⟩:=h;obtain⟨hh,g,d,t,os'⟩:=s';obtain rfl:os'=s.os:=os;exact⟨v,H',I.call (h':=hh) (g':=g) (d':=d) (t':=t) (ch:=[]) un bI bare (fun b z=>absurd z (by simp)),r,q⟩
def MI(sp:Sp)(dvs:List V)(E:XK)(t:TA):TE:=fun σ H Q=>t σ H fun vs H1=>sp (vs++dvs) H1 Q E
def Binds(K:FR)(fd:FuncData)(ps:List Str)(ds:List Value):Prop:=
 ∀(s:Shared)(us:List Value),K.In s.heap->(us++ds).length=ps.length->BindsTo s fd ⟨us,[]⟩ (ps.zip (us++ds))
theorem Binds.all{K:FR}{fd:FuncData}{ps:List Str}(h:∀us:List Value,us.length=ps.length->bindArgs fd ⟨us,[]⟩=pure (ps.zip us)):Binds K fd ps []:=fun s us _ hl=>by
 rw[Ru] at hl ⊢;exact .of_eq (h us hl)
def Passes(CX:IT)(X:Cx)(E:XK):Prop:=∀(pins:List (Addr×Obj)) (σ:St) (H:Hp) (s:Shared) (e:Value) (s':Shared),Inv X pins σ H s->CX X.stack H s E e s'->X.xe e s'
theorem JV(F:bB X.prog X.w X.K X.mg X.base CX k f fd ps sp)(hr:ip k X.A)(hb:Binds X.K fd ps ds)(hd:Vals dvs ds)(hx:Passes CX X E)(I:Inv X pins σ H s)(r:Vals vs us)(h:sp (vs++dvs) H Q E):wpAny (model X.prog X.w) X.A (call (.ref f) us) (EP X pins σ Q) X.xe s:=by
 have r2:Vals (vs++dvs) (us++ds):=r.append hd;have hl:(us++ds).length=ps.length:=by rw[←r2.length];exact F.len _ _ _ _ h
 refine wpAny_call (Ti (F.run X.A X.stack s H ⟨us,[]⟩ (us++ds) (vs++dvs) Q E hr I.Pd (hb s us I.vO hl) r2 h) fun r s' hq=>?_);cases r with
 | error e=>exact hx pins σ H s e s' I hq
 | ok fl=>
  cases fl with
  | ret u=>exact I.after hq
  | next=>exact False.elim hq
  | brk=>exact False.elim hq
  | cont=>exact False.elim hq
theorem Hv(F:bB X.prog X.w X.K X.mg X.base CX k f fd ps sp)(hr:ip k X.A)(hg:Gl X x)(hm:X.mg x=some (.ref f))(hk:PySem.W.keepIn X.K (.ref f)=true)(hb:Binds X.K fd ps ds)(hd:Vals dvs ds)(hx:Passes CX X E)
  (ha:PA X (e::es) t) (hdb:(x==("__debug__":Str))=false:=by decide) (he:starEach (e::es) X.env=(false,eval e X.env)::starEach es X.env:=by rfl) (hpl:(backTo pos (starEach es X.env)).any (·.1)=false:=by rfl):
  PE X (.Call (.Name x p) (e::es) [] pos) (MI sp dvs E t):=by
 intro pins s σ H Q I h;refine Tu (rL I hg hm ?_ hdb);refine PySem.W.callWith_K (h₀:=X.base) I.ok.mod.O9 hk (cU (ha pos pins s σ H _ I h) fun us s1 ⟨vs,H1,I1,r,q⟩=>⟨I1.vO,?_⟩) he hpl;exact JV F hr hb hd hx I1 r q
structure aB(N P:List Str)(sc:Scope):Prop where
 kind:sc.kind=.function
 co:sc.isCoroutine=false
 gen:sc.isGenerator=false
 nd:N.Nodup
 pre:N.take P.length=P
 par:∀x∈P,sc.names.lookup x=some .local∨sc.names.lookup x=some .cell
 K8:∀y∈sc.names,y.2≠.free
theorem vX{kindOf:Str->Option NameKind}{x:Str}:∀{binds:List (Str×Value)} {m:Str->Option Value},(∀v,(x,v)∉binds)->bindL kindOf binds m x=m x
 | [],_,_=>rfl
 |(n,v)::r,m,h=>by
  unfold bindL;rw[vX fun w hw=>h w (Qs _ hw)]
  split
  ·have:x≠n:=by rintro rfl;exact h v Qv
   simp[this]
  ·rfl
theorem vZ{kindOf:Str->Option NameKind}{x:Str}:∀{binds:List (Str×Value)} {m:Str->Option Value},(∀v,(x,v)∉binds)->bindC kindOf binds m x=m x
 | [],_,_=>rfl
 |(n,v)::r,m,h=>by
  unfold bindC;rw[vZ fun w hw=>h w (Qs _ hw)]
  split
  ·rfl
  ·have:x≠n:=by rintro rfl;exact h v Qv
   simp[this]
theorem vY{kindOf:Str->Option NameKind}{x:Str}{v:Value}:∀{P:List Str} {vs:List Value} {i:Nat} {m:Str->Option Value},P.Nodup->P[i]?=some x->vs[i]?=some v->kindOf x=some .local->
  bindL kindOf (P.zip vs) m x=some v
 | [],_,_,_,_,h,_,_=>by simp at h
 | _::_,[],_,_,_,_,h,_=>by simp at h
 | p::P,w::vs,0,m,nd,h1,h2,hk=>by
  simp at h1 h2;subst h1;subst h2;show bindL kindOf ((p,w)::P.zip vs) m p=_;unfold bindL;rw[vX fun v hv=>(RI.mp nd).1 (U6 hv).1,Qp hk];simp
 | p::P,w::vs,i+1,m,nd,h1,h2,hk=>by
  show bindL kindOf ((p,w)::P.zip vs) m x=_;unfold bindL;exact vY (i:=i) (RI.mp nd).2 (by simpa using h1) (by simpa using h2) hk
theorem v8{kindOf:Str->Option NameKind}{x:Str}{v:Value}:∀{P:List Str} {vs:List Value} {i:Nat} {m:Str->Option Value},P.Nodup->P[i]?=some x->vs[i]?=some v->kindOf x≠some .local->
  bindC kindOf (P.zip vs) m x=some v
 | [],_,_,_,_,h,_,_=>by simp at h
 | _::_,[],_,_,_,_,h,_=>by simp at h
 | p::P,w::vs,0,m,nd,h1,h2,hk=>by
  simp at h1 h2;subst h1;subst h2;show bindC kindOf ((p,w)::P.zip vs) m p=_;unfold bindC;rw[vZ fun v hv=>(RI.mp nd).1 (U6 hv).1,Qu hk];simp
 | p::P,w::vs,i+1,m,nd,h1,h2,hk=>by
  show bindC kindOf ((p,w)::P.zip vs) m x=_;unfold bindC;exact v8 (i:=i) (RI.mp nd).2 (by simpa using h1) (by simpa using h2) hk
noncomputable def start(N:List Str)(vs:List V):St:=vs.map some++List.replicate (N.length-vs.length) none
abbrev Ba(CX:IT)(P:Program)(w:World)(K:FR)(mg:Str->Option Value)(base:Heap)(N:List Str)(qual:Str)(scope:Scope)(f:Addr)(cd:Value)(A:Around)(outer:List Env)(s:Shared)(H:Hp)(E:XK):Cx where
 prog:=P
 w:=w
 K:=K
 mg:=mg
 base:=base
 A:=A.deeper (envOfC qual scope s.heap.objs.size f cd)
 N:=N
 s₀:=s
 H₀:=H
 env:=envOfC qual scope s.heap.objs.size f cd
 outer:=outer
 stack:=envOfC qual scope s.heap.objs.size f cd::outer
 ex:=[]
 calm:=true
 fn:=fun _=>true
 pn:=[]
 xe:=fun e s'=>wpAny (model P w) (A.deeper (envOfC qual scope s.heap.objs.size f cd)) (leaving (envOfC qual scope s.heap.objs.size f cd) e) (fun _ s''=>CX outer H s E e s'') (fun e' s''=>CX outer H s E e' s'') s'
theorem zq{sc:Scope}{n:Nat}{x:Str}(h:sc.names.lookup x=some .cell):∃c,(cellsFrom n sc.names []).lookup x=some c:=by
 have q:=Vs sc.names n [] (.inl h);exact Vl.mp q
theorem C5{CX:IT}{P:Program}{w:World}{K:FR}{mg:Str->Option Value}{base:Heap}{N ps:List Str}{qual:Str}{scope:Scope}{f:Addr}{cd:Value}{A:Around}{outer:List Env}{s s1:Shared}{H:Hp}{E:XK}{us:List Value}{vs:List V}
  (S:aB N ps scope) (hd:A.handled=none) (e0:IQ P w K mg base A outer s H) (hl:vs.length=ps.length) (r:Vals vs us)
  (x:InCallC s s.heap.objs.size (bindL (envOfC qual scope s.heap.objs.size f cd).kindOf (ps.zip us) fun _=>none) (cellsFrom (s.heap.objs.size+1) scope.names []) (bindC (envOfC qual scope s.heap.objs.size f cd).kindOf (ps.zip us) fun _=>none) s1):
  Inv (Ba CX P w K mg base N qual scope f cd A outer s H E) [] (start N vs) H s1:=by
 have hpl:ps.length≤N.length:=by have:=congrArg List.length S.pre;rw[QP] at this;lia
 obtain⟨h1,tk,rfl,hk⟩:=x.done;have noA:∀b:Addr,b∉(Ba CX P w K mg base N qual scope f cd A outer s H E).ex:=fun b z=>absurd (show b∈([]:List Addr) from z) (by simp);refine⟨⟨e0.mod,S.kind,rfl,rfl,Qq _,fun y z c h1 h2=>?_,fun y hy=>?_,fun y c _ h=>?_,fun _=>hd,Around.frames_deeper e0.frames,.inr ⟨rfl,rfl⟩,fun b z=>absurd z (noA b),e0.bs,e0.Jm,fun b _ _=>noA b,fun b z=>absurd z (noA b),e0.tN,e0.Md⟩,
  rfl,e0.bare,Un.kept hk,⟨_,x.toInCall.ns,fun i y v h1 h2 h3=>?_⟩,fun y c h=>⟨_,x.cell y c h⟩,e0.bI.fresh (Qq _),fun y c h=>?_,fun p hp=>absurd (show p∈([]:List (Addr×Obj)) from hp) (by simp),e0.bI.kept hk,?_⟩
 ·exact name_of_addr x.apart (RY h1) (RY h2)
 ·have hy:scope.names.lookup y=some .cell∨scope.names.lookup y=some .free:=hy;rcases hy with hy | hy
  ·exact zq hy
  ·exact absurd rfl (S.K8 _ (RY hy))
 ·exact US (x.above y c (RY h))
 ·have hi:i < vs.length:=by
   unfold start at h2
   by_cases hi:i < vs.length
   ·exact hi
   ·rw[QR (by simpa using hi)] at h2;rw[Uo] at h2
    split at h2 <;> cases h2
  have ha:vs[i]?=some v:=by
   unfold start at h2;rw[QE (by simpa using hi),Qy] at h2;cases e:vs[i]? with
   | none=>rw[e] at h2;cases h2
   | some a=>rw[e] at h2;cases h2;rfl
  obtain⟨u,hu,rv⟩:=r.get ha;have hp:ps[i]?=some y:=by
   rw[←S.pre,Ra (by lia)];exact h1
  have ndP:ps.Nodup:=by rw[←S.pre];exact S.nd.sublist (UW _ _)
  refine⟨u,rv,?_⟩;rcases S.par y (Qn hp) with k | k
  ·exact .inl ⟨k,vY ndP hp hu k⟩
  ·obtain⟨c,e⟩:=zq (n:=s.heap.objs.size+1) k;refine .inr ⟨.inl k,c,e,?_⟩;have q:=x.cell y c e;rw[v8 ndP hp hu (by show scope.names.lookup y≠_;rw[k];decide)] at q;exact q
 ·exact e0.bI.fresh (US (x.above y c (RY h)))
 ·unfold start;show _=N.length;rw[QD,Qk,VD]
  lia
theorem Nv{CX:IT}{P:Program}{w:World}{K:FR}{mg:Str->Option Value}{base:Heap}{k:Nat}{f:Addr}{name qual:Str}{params:Arguments}{body:List Stmt}{scope:Scope}{dV kV doc pm cdv ct oc:Value}{an od:Option Addr}
  {osl:Array (Option Value)} {N ps:List Str} {sp:Sp} (lk:K.lookup f=some ⟨oc,od,.func (PySem.W.fnOf name qual params body scope dV kV doc pm an cdv ct),osl⟩) (hcd:PySem.W.codeIn K cdv qual=true) (S:aB N ps scope)
  (len:∀vs H Q E,sp vs H Q E->vs.length=ps.length)
  (hbody:∀(A:Around)(outer:List Env)(s:Shared)(H:Hp)(vs:List V)(Q:VK)(E:XK),ip k (A.deeper (envOfC qual scope s.heap.objs.size f cdv))->sp vs H Q E->
   ∃t,zE (Ba CX P w K mg base N qual scope f cdv A outer s H E) body t∧t {nx:=fun _ H'=>Q .cN H',rt:=Q} (start N vs) H):
  bB P w K mg base CX (k+1) f (PySem.W.fnOf name qual params body scope dV kV doc pm an cdv ct) ps sp:=by
 refine⟨len,fun A outer s H args us vs Q E hr e0 hb r hsp=>?_⟩;have hl:=len _ _ _ _ hsp;have KX:K.In s.heap:=e0.mod.O9.keeps fun b o e=>(e0.bs b o e).1;have lim:s.heap.NoLimit:=e0.mod.nolimit.keeps fun b o e=>(e0.bs b o e).1;have hkind:∀y∈ps.zip us,scope.names.lookup y.1=some .local∨(scope.names.lookup y.1=some .cell∧((cellsFrom (s.heap.objs.size+1) scope.names []).lookup y.1).isSome=true):=fun⟨n,v⟩ hy=>by
  rcases S.par n (U6 hy).1 with q | q
  ·exact .inl q
  ·exact .inr ⟨q,Vs _ _ _ (.inl q)⟩
 refine codeAny_call_function hr.depth (KX _ _ lk) rfl S.co S.gen rfl (PySem.W.codeRec_of KX hcd) (hb _ _ _ _ ?_);refine wpAny_newFunctionEnv_cells S.kind hkind fun env he s1 x=>?_;subst he;refine⟨lim.keeps x.toInCall.keep,codeAny_func ?_⟩;obtain⟨t,ht,hq⟩:=hbody A outer s H vs Q E (hr.deeper _) hsp;have I:Inv (Ba CX P w K mg base N qual scope f cdv A outer s H E) [] (start N vs) H s1:=C5 S hr.hd e0 hl r x;refine Rm (ht [] s1 (start N vs) H _ I hq) (fun fl s' hs=>?_) fun e s' hs=>hs;have fin:∀{σ':St} {H':Hp} {v:V} {u:Value},Inv (Ba CX P w K mg base N qual scope f cdv A outer s H E) [] σ' H' s'->RelV v u->Q v H'->CE outer P w H s Q u s':=
  fun {σ' H' v u} J rv q=>⟨v,H',J.os,J.bare,J.base,J.bI,rv,q⟩
 cases fl with
 | ret u=>
  obtain⟨v,σ',H',J,rv,q⟩:=hs;exact fin J rv q
 | next=>
  obtain⟨σ',H',J,q⟩:=hs;exact fin (v:=V.cN) (u:=Value.none) J rfl q
 | brk=>
  obtain⟨_,_,_,q⟩:=hs;exact False.elim q
 | cont=>
  obtain⟨_,_,_,q⟩:=hs;exact False.elim q
section
variable {X:Cx} {x:Str} {p pos:Pos} {e:Expr} {es:List Expr} {t:TA} {id T:String} {r:List V->Hp->VK->Prop}
def Px(r:List V->Hp->VK->Prop)(t:TA):TE:=fun σ H Q=>t σ H fun vs H1=>r vs H1 Q
theorem sP(hc:fe X (.builtin id) r)(hg:Gl X x)(hm:X.mg x=none)(hv:bootBuiltins x=some (.builtin id))(ha:PA X (e::es) t)(hn:x≠"__name__":=by decide)(hdb:(x==("__debug__":Str))=false:=by decide)
  (he:starEach (e::es) X.env=(false,eval e X.env)::starEach es X.env:=by rfl) (hpl:(backTo pos (starEach es X.env)).any (·.1)=false:=by rfl):PE X (.Call (.Name x p) (e::es) [] pos) (Px r t):=by
 intro pins s σ H Q I h;refine Tu (kI I hg hm hv ?_ hn hdb);exact PyProof.Rows.callWith_builtin1 (cU (ha pos pins s σ H _ I h) fun us s1 ⟨vs,H1,I1,r1,q1⟩=>hc pins s1 σ H1 vs us Q I1 r1 q1) he hpl
theorem k5(hc:fe X (.type T) r)(hg:Gl X x)(hm:X.mg x=none)(hv:bootBuiltins x=some (.type T))(ha:PA X (e::es) t)(hn:x≠"__name__":=by decide)(hdb:(x==("__debug__":Str))=false:=by decide)
  (he:starEach (e::es) X.env=(false,eval e X.env)::starEach es X.env:=by rfl) (hpl:(backTo pos (starEach es X.env)).any (·.1)=false:=by rfl):PE X (.Call (.Name x p) (e::es) [] pos) (Px r t):=by
 intro pins s σ H Q I h;refine Tu (kI I hg hm hv ?_ hn hdb);exact RT (cU (ha pos pins s σ H _ I h) fun us s1 ⟨vs,H1,I1,r1,q1⟩=>hc pins s1 σ H1 vs us Q I1 r1 q1) he hpl
end
end L2
namespace HT
open PySem PyProof.Rows
section
open PySem.SeqAt
open PySem.AutoSeq1 (wpAny_loadPart')
open PySem.MeetsSeq PySem.MeetsSeq2 PySem.MeetsSeq3
end
theorem Iw(ht:IsTup s.heap t vs.toArray)(hb:IsTup s.heap b ws.toArray)(hv:vs≠[])(h1:ws=[]->Q (.ref t) s)(h2:ws≠[]->Q (.ref s.heap.objs.size) {s with heap:=s.heap.push {cls:=.type "tuple",data:=.seq (vs++ws).toArray}})(hsz:vs.length+ws.length≤sizeLine):wpAny (model prog w) A (binaryOp .Add (.ref t) (.ref b)) Q E s:=by
 obtain⟨⟨cls,dd,data,sl⟩,ho,hc,n,hd⟩:=id ht;obtain⟨⟨cls2,dd2,data2,sl2⟩,ho2,hc2,n2,hd2⟩:=id hb;simp only at hc hd hc2 hd2;subst hc hd hc2 hd2;have e:vs.toArray++ws.toArray=(vs++ws).toArray:=by simp
 by_cases hw:ws=[]
 ·exact concat_meets ⟨_,ho,rfl⟩ ⟨_,ho2,rfl⟩ Vj VS Ur Uh (Uc _ _)
   (tuple_addW1 t b vs.toArray ws.toArray n n2 dd dd2 sl sl2 (by simpa using hv) (by simp[hw])) ⟨ho,ho2,h1 hw⟩
 ·refine concat_meets ⟨_,ho,rfl⟩ ⟨_,ho2,rfl⟩ Vj VS Ur Uh (Uc _ _)
   (tuple_addW2 t b vs.toArray ws.toArray n n2 dd dd2 sl sl2 (by simpa using hv) (by simpa using hw) (by rw[QA,QA];exact hsz)) ⟨ho,ho2,?_⟩
  rw[e];exact h2 hw
noncomputable def dD(n d:Nat):Option Int->Nat
 | none=>d
 | some v=>if v < 0 then(v+(n:Int)).toNat else min v.toNat n
theorem El(n d:Nat):dD n d none=d:=rfl
theorem GO(n d k:Nat):dD n d (some (k:Int))=min k n:=by
 show(if(k:Int) < 0 then((k:Int)+(n:Int)).toNat else min (k:Int).toNat n)=min k n;rw[Qu (by lia),QO]
theorem JU(n d:Nat)(hd:d≤n)(o:Option Int):dD n d o≤n:=by
 cases o with
 | none=>exact hd
 | some v=>
  show(if v < 0 then(v+(n:Int)).toNat else min v.toNat n)≤n
  by_cases hv:v < 0
  ·rw[Qp hv];lia
  ·rw[Qu hv];exact Nat.min_le_right _ _
theorem B6(v:Int)(n d:Nat):(if v < 0 then max (v+(n:Int)) 0 else min v (n:Int))=((dD n d (some v):Nat):Int):=by
 show(if v < 0 then max (v+(n:Int)) 0 else min v (n:Int))=(((if v < 0 then(v+(n:Int)).toNat else min v.toNat n):Nat):Int)
 by_cases hv:v < 0
 ·simp only[Qp hv];lia
 ·simp only[Qu hv];lia
theorem Br(lo hi:Option Int)(n:Nat):Builtin.Slice.sliceAdjust lo hi 1 (n:Int)=(((dD n 0 lo:Nat):Int),((dD n n hi:Nat):Int)):=by
 have h1:¬((1:Int) < 0):=by lia
 unfold Builtin.Slice.sliceAdjust;simp only[h1,Sf];refine Prod.ext ?_ ?_
 ·cases lo with
  | none=>rfl
  | some v=>exact B6 v n 0
 ·cases hi with
  | none=>rfl
  | some v=>exact B6 v n n
theorem An(i j:Nat):Builtin.Slice.slicePlaces (i:Int) (j:Int) 1=j-i:=by
 unfold Builtin.Slice.slicePlaces;have h1:(1:Int) > 0:=by lia
 simp only[h1,Tr,VA]
 split <;> lia
theorem sj(p:IsPart v o)(h:Q o s):wpAny (model prog w) A (Builtin.Slice.slicePartIndex v) Q E s:=by
 cases p with
 | none=>exact slicePart_none h
 | int i t=>exact slicePart_int h
theorem iW{sl:Addr}{vl vu:Value}{lo hi:Option Int}{n:Nat}{Q:Int×Int×Nat->Shared->Prop}(hs:s.heap.IsSliceOf sl vl vu .none)(pl:IsPart vl lo)(pu:IsPart vu hi)
  (h:Q (((dD n 0 lo:Nat):Int),1,dD n n hi-dD n 0 lo) s):wpAny (model prog w) A (Builtin.Slice.sliceApplied (.ref sl) (pure (n:Int))) Q E s:=by
 obtain⟨os,hos,hcs,hds⟩:=id hs;unfold Builtin.Slice.sliceApplied Builtin.Slice.sliceFields;refine Qj (Qj (Rq hos hds (x:=vl) rfl (Qj (Rq hos hds (x:=vu) rfl (Qj (Rq hos hds (x:=.none) rfl (Qm ?_)))))));refine Qj (slicePart_none ?_);show wpAny _ _ (if((1:Int)==0)=true then _ else _) _ _ s;rw[Qu (by decide)];refine Qj (sj pl (Qj (sj pu (Qj (Qm ?_)))));show wpAny _ _ (match Builtin.Slice.sliceAdjust lo hi 1 (n:Int) with |(lo,hi)=>pure (lo,(1:Int),Builtin.Slice.slicePlaces lo hi 1)) _ _ s;rw[Br lo hi n];show wpAny _ _ (pure (((dD n 0 lo:Nat):Int),(1:Int),Builtin.Slice.slicePlaces ((dD n 0 lo:Nat):Int) ((dD n n hi:Nat):Int) 1)) _ _ s;rw[An];exact Qm h
theorem EN(xs:Array Value)(i k:Nat):((List.range k).filterMap fun(m:Nat)=>xs[((i:Int)+(m:Int)*1).toNat]?).toArray=((xs.toList.drop i).take k).toArray:=by
 have e:(fun(m:Nat)=>xs[((i:Int)+(m:Int)*1).toNat]?)=fun m=>xs[i+m]?:=by
  funext m
  have:((i:Int)+(m:Int)*1).toNat=i+m:=by lia
  rw[this]
 rw[e];have:=pick_run xs i k;rw[Tj] at this;have e2:((fun x=>xs[x]?)∘fun x=>i+x)=fun m=>xs[i+m]?:=rfl;rw[e2] at this;rw[this]
theorem nS{t sl:Addr}{items:Array Value}{vl vu:Value}{lo hi:Option Int}{Q:Value->Shared->Prop}(ht:IsTup s.heap t items)(hs:s.heap.IsSliceOf sl vl vu .none)(pl:IsPart vl lo)(pu:IsPart vu hi)
  (hw:¬(dD items.size 0 lo=0∧dD items.size items.size hi=items.size))
  (h:Q (.ref s.heap.objs.size) {s with heap:=s.heap.push {cls:=.type "tuple",data:=.seq ((items.toList.drop (dD items.size 0 lo)).take (dD items.size items.size hi-dD items.size 0 lo)).toArray}})
  (hsz:items.size≤sizeLine):wpAny (model prog w) A (getItem (.ref t) (.ref sl)) Q E s:=by
 have htake:sizeOk (.seq ((items.toList.drop (dD items.size 0 lo)).take (dD items.size items.size hi-dD items.size 0 lo)).toArray):=by
  show((items.toList.drop (dD items.size 0 lo)).take (dD items.size items.size hi-dD items.size 0 lo)).toArray.size≤sizeLine;rw[QA,QP,Tx,RA]
  lia
 have hj:dD items.size items.size hi≤items.size:=JU _ _ (Qq _) hi;obtain⟨os,hos,hcs,hds⟩:=id hs;have hTs:s.TypeIs (.ref sl) "slice":=⟨os,hos,hcs⟩;unfold getItem
 try with_reducible refine Q9 ?_
 first | refine Qj (Qm ?_) | skip
 refine Qj (wpAny_sequenceKey ht.typeIs (by decide) ?_);refine Qj (Rj (name:=Str.ofString "__getitem__") ht.typeIs Rx
  (Rh Rx ht.typeIs entry_tuple_getitem ?_ (args_tuple_getitem _ _)))
 show wpAny _ _ (Builtin.Tuple.tupleItemsOf (.ref t) >>=_) _ _ s;refine Qj (tupleItemsOf_ ht ?_);refine Qj (Ua hTs ?_);rw[Qp (by decide)];refine Qj (iW hs pl pu ?_);have hno:¬((((dD items.size 0 lo:Nat):Int)==0&&(1:Int)==1&&(dD items.size items.size hi-dD items.size 0 lo)==items.size)=true):=by
  intro q;rw[QJ,QJ] at q;have q1:((dD items.size 0 lo:Nat):Int)=0:=eq_of_beq q.1.1;have q2:dD items.size items.size hi-dD items.size 0 lo=items.size:=eq_of_beq q.2;exact hw ⟨by lia,by lia⟩
 show wpAny _ _ (if(((dD items.size 0 lo:Nat):Int)==0&&(1:Int)==1&&(dD items.size items.size hi-dD items.size 0 lo)==items.size)=true then _ else _) _ _ s;rw[Qu hno,EN]
 first
  | exact Qj (m:=Builtin.Tuple.tupleExact _) (Ri (Qm ⟨_,rfl,Qm h⟩) htake)
  | exact Qj (m:=Builtin.Tuple.tupleExact _) (Ri (Qj (Qm (Qm ⟨_,rfl,Qm h⟩))) htake)
  | exact Qj (Qj (m:=Builtin.Tuple.tupleExact _) (Ri (Qm (Qm ⟨_,rfl,Qm h⟩)) htake))
  | exact Qj (Qj (m:=Builtin.Tuple.tupleExact _) (Ri (Qm ⟨_,rfl,Qm h⟩) htake))
end HT
namespace L2
open PySem PySem.Spec PyProof.Rows
abbrev TO:=St->Hp->(Option Int->Hp->Prop)->Prop
def PO(X:Cx)(e:Option Expr)(t:TO):Prop:=
 ∀(pins:List (Addr×Obj)) (s:Shared) (σ:St) (H:Hp) (Q:Option Int->Hp->Prop),Inv X pins σ H s->t σ H Q->
  wpAny (model X.prog X.w) X.A (evalPart e X.env) (fun u s'=>∃o H',Inv X pins σ H' s'∧IsPart u o∧Q o H') X.xe s
noncomputable def GF:TO:=fun _ H Q=>Q none H
def Mz(t:TE):TO:=fun σ H Q=>t σ H fun x H1=>∃i,x=.int i∧Q (some i) H1
theorem intsAre_of:∀{us:List Value},Vals (ns.map V.int) us->IntsAre us ns:=by
 induction ns with
 | nil=>intro us r;rw[Sv] at r;cases r;exact .nil
 | cons n ns ih=>
  intro us r;rw[Qt] at r;cases r with
  | cons r1 r2=>
   obtain⟨t,e⟩:=r1;subst e;exact .cons n t (ih r2)
section
variable {X:Cx} {e:Expr} {te:TE} {lo hi:Option Expr} {tl th:TO} {pos p2:Pos}
theorem Hj:PO X none GF:=by
 intro pins s σ H Q I h;rw[evalPart_none];exact Qm ⟨none,H,I,.none,h⟩
theorem Hi(h:PE X e te):PO X (some e) (Mz te):=by
 intro pins s σ H Q I hw;rw[evalPart_some];refine cU (h pins s σ H _ I hw) fun u s1 ⟨x,H1,I1,r1,q1⟩=>?_;obtain⟨i,rfl,q⟩:=q1;obtain⟨t,rfl⟩:=r1;exact⟨some i,H1,I1,.int i t,q⟩
def L5(X:Cx)(r:V->Option Int->Option Int->Hp->VK->Prop):Prop:=
 ∀(pins:List (Addr×Obj)) (s:Shared) (σ:St) (H:Hp) (x:V) (v vl vu:Value) (lo hi:Option Int) (sl:Addr) (Q:VK),Inv X pins σ H s->RelV x v->s.heap.IsSliceOf sl vl vu .none->IsPart vl lo->IsPart vu hi->r x lo hi H Q->
  ∃T id,typeLookup (.type T) "__getitem__"=pure (some (.builtin id))∧s.TypeIs v T∧wpAny (model X.prog X.w) X.A (getItem v (.ref sl)) (EP X pins σ Q) X.xe s
def P2(r:V->Option Int->Option Int->Hp->VK->Prop)(te:TE)(tl th:TO):TE:=fun σ H Q=>te σ H fun x H1=>tl σ H1 fun l H2=>th σ H2 fun u H3=>r x l u H3 Q
theorem ER(hr:L5 X r)(he:PE X e te)(hl:PO X lo tl)(hu:PO X hi th):PE X (.Subscript e (.Slice lo hi none p2) pos) (P2 r te tl th):=by
 intro pins s σ H Q I h;refine Subscript_ (cU (he pins s σ H _ I h) fun v s1 ⟨x,H1,I1,r1,q1⟩=>?_);refine wpAny_Slice (cU (hl pins s1 σ H1 _ I1 q1) fun vl s2 ⟨l,H2,I2,pl,q2⟩=>cU (hu pins s2 σ H2 _ I2 q2) fun vu s3 ⟨u,H3,I3,pu,q3⟩=>?_);rw[evalPart_none];refine Qm ?_;have I4:Inv X pins σ H3 {s3 with heap:=s3.heap.push {cls:=.type "slice",data:=.fields #[vl,vu,.none]}}:=I3.kept (t':=s3.toks) fun b ob q=>Ql _ q;obtain⟨T,id,hT,ht,hg⟩:=hr pins {s3 with heap:=s3.heap.push {cls:=.type "slice",data:=.fields #[vl,vu,.none]}} σ H3 x v vl vu l u s3.heap.objs.size Q I4 r1 (Heap.IsSliceOf.new ..) pl pu q3;show wpAny (model X.prog X.w) X.A (subscriptTail e (.Slice lo hi none p2) v (.ref s3.heap.objs.size)) (EP X pins σ Q) X.xe {s3 with heap:=s3.heap.push {cls:=.type "slice",data:=.fields #[vl,vu,.none]}};exact tail_any (ops:=[.ref s3.heap.objs.size,v]) ht hT hg (by with_unfolding_all rfl)
noncomputable def tT(xs:List V)(lo hi:Option Int):List V:=(xs.drop (HT.dD xs.length 0 lo)).take (HT.dD xs.length xs.length hi-HT.dD xs.length 0 lo)
theorem qB(xs:List V)(lo hi:Option Int):(tT xs lo hi).length≤xs.length:=by
 unfold tT;rw[QP,Tx]
 lia
def OQ(K:FR):V->Option Int->Option Int->Hp->VK->Prop:=fun x lo hi H Q=>∃a xs,x=.ref a∧jS K H a xs∧
 ¬(HT.dD xs.length 0 lo=0∧HT.dD xs.length xs.length hi=xs.length)∧∀p,H p=none->Q (.ref p) (upd H p (.tup (tT xs lo hi)))
theorem JN:L5 X (OQ X.K):=by
 intro pins s σ H x v vl vu lo hi sl Q I rx hs pl pu h;obtain⟨a,xs,rfl,hx,hw,q⟩:=h;cases rx;obtain⟨its,r,ht,hz⟩:=I.tuple hx;have hlen:its.toArray.size=xs.length:=by rw[QA];exact r.length.symm
 refine⟨"tuple",_,Rx.lookup,ht.typeIs,?_⟩;refine HT.nS ht hs pl pu (by rw[hlen];exact hw) ?_ (by rw[hlen];exact hz);rw[hlen];refine⟨.ref s.heap.objs.size,_,I.laid (t':=s.toks) (o:=.tup (tT xs lo hi)) (fun b ob q=>Ql _ q) (Qq _) ?_,rfl,q _ (I.bI.fresh (Qq _))⟩;exact⟨QB (qB xs lo hi) hz,_,(r.drop (HT.dD xs.length 0 lo)).take (HT.dD xs.length xs.length hi-HT.dD xs.length 0 lo),x4.new _ _⟩
def M5(K:FR):R2:=fun x y H Q=>∃a b xs ys,x=.ref a∧y=.ref b∧jS K H a xs∧jS K H b ys∧xs≠[]∧xs.length+ys.length≤sizeLine∧
 (ys=[]->Q (.ref a) H)∧(ys≠[]->∀p,H p=none->Q (.ref p) (upd H p (.tup (xs++ys))))
theorem Vals.rK(r:Vals xs us):us=[]↔xs=[]:=by
 cases r with
 | nil=>simp
 | cons _ _=>simp
theorem Hz:lX X (binaryOp .Add) (M5 X.K):=by
 intro pins s σ H x y v u Q I rx ry h;obtain⟨a,b,xs,ys,rfl,rfl,ha,hb,hx,hz,q1,q2⟩:=h;cases rx;cases ry;obtain⟨its,r1,p1,_⟩:=I.tuple ha;obtain⟨its2,r2,p2,_⟩:=I.tuple hb;refine HT.Iw p1 p2 (fun z=>hx (r1.rK.mp z)) (fun z=>⟨.ref a,H,I,rfl,q1 (r2.rK.mp z)⟩) (fun z=>?_) (by rw[←r1.length,←r2.length];exact hz);refine⟨.ref s.heap.objs.size,_,I.laid (t':=s.toks) (o:=.tup (xs++ys)) (fun b ob q=>Ql _ q) (Qq _) ?_,rfl,q2 (fun w=>z (r2.rK.mpr w)) _ (I.bI.fresh (Qq _))⟩;exact⟨by rw[QD];exact hz,_,r1.append r2,x4.new _ _⟩
end
noncomputable def xw(n:Nat)(i:Int):Option Nat:=if 0≤i then(if i < n then some i.toNat else none) else if -(n:Int)≤i then some (i+n).toNat else none
noncomputable def il{α:Type}(xs:List α)(i:Int):Option α:=(xw xs.length i).bind fun j=>xs[j]?
theorem BP(h:xw n i=some j):seqIndex? i n=some j∧j < n∧-(n:Int)≤i∧i < n:=by
 unfold xw at h
 by_cases h0:0≤i
 ·rw[Qp h0] at h
  by_cases h1:i < n
  ·rw[Qp h1] at h;have e:i.toNat=j:=Option.some.inj h;exact⟨by rw[seqIndex_of h0 h1,e],by lia,by lia,h1⟩
  ·rw[Qu h1] at h;cases h
 ·rw[Qu h0] at h
  by_cases h1:-(n:Int)≤i
  ·rw[Qp h1] at h;have e:(i+n).toNat=j:=Option.some.inj h;exact⟨by rw[seqIndex_neg (by lia) h1,e],by lia,h1,by lia⟩
  ·rw[Qu h1] at h;cases h
theorem rV(h:il xs i=some v):∃j,seqIndex? i xs.length=some j∧xs[j]?=some v∧j < xs.length∧-(xs.length:Int)≤i∧i < xs.length:=by
 unfold il at h;cases e:xw xs.length i with
 | none=>rw[e] at h;cases h
 | some j=>
  rw[e] at h;obtain⟨h1,h2,h3,h4⟩:=BP e;exact⟨j,h1,h,h2,h3,h4⟩
theorem ot{α:Type}{xs:List α}{j:Nat}{v:α}(h:xs[j]?=some v):il xs (j:Int)=some v:=by
 have hj:j < xs.length:=(Qo.mp h).1;have e:xw xs.length (j:Int)=some j:=by
  unfold xw;rw[Qp (by lia),Qp (by lia)];simp
 unfold il;rw[e];exact h
theorem Gb(xs:List α)(v:α):il (xs++[v]) (-1)=some v:=by
 have hl:(xs++[v]).length=xs.length+1:=by simp
 have e:xw (xs++[v]).length (-1)=some xs.length:=by
  unfold xw;rw[hl,Qu (by decide),Qp (by lia)];congr 1
  lia
 unfold il;rw[e];show(xs++[v])[xs.length]?=some v;simp
def oE(b:Expr):Prop:=∀o i,subscripted b false o i=operate [o,i] (getItem o i)
def N0(X:Cx)(r:R2):Prop:=
 ∀(value slice:Expr)(pins:List (Addr×Obj)) (s:Shared) (σ:St) (H:Hp) (x y:V) (v u:Value) (Q:VK),Inv X pins σ H s->RelV x v->RelV y u->r x y H Q->
  subscripted slice false v u=operate [v,u] (getItem v u)->wpAny (model X.prog X.w) X.A (subscriptTail value slice v u) (EP X pins σ Q) X.xe s
def DH(X:Cx)(id:String)(r:V->List V->Hp->VK->Prop):Prop:=
 ∀(pins:List (Addr×Obj)) (s:Shared) (σ:St) (H:Hp) (x:V) (xs:List V) (v:Value) (us:List Value) (Q:VK),Inv X pins σ H s->RelV x v->Vals xs us->r x xs H Q->
  wpAny (model X.prog X.w) X.A (call (.builtin id) (v::us)) (EP X pins σ Q) X.xe s
section
variable {X:Cx} {a b:Expr} {ta tb:TE} {pos:Pos}
theorem Na(hr:N0 X r)(ha:PE X a ta)(hb:PE X b tb)(hs:oE b):PE X (.Subscript a b pos) (MB r ta tb):=by
 intro pins s σ H Q I h;exact Subscript_ (LV ha hb I h fun v u s2 x y H2 I2 rx ry q=>hr a b pins s2 σ H2 x y v u Q I2 rx ry q (hs _ _))
def OZ(K:FR):R2:=fun x y H Q=>∃p xs i v,x=.ref p∧y=.int i∧gH K H p xs∧il xs i=some v∧Q v H
def OX(K:FR):R2:=fun x y H Q=>∃p xs i v,x=.ref p∧y=.int i∧jS K H p xs∧il xs i=some v∧Q v H
def OY:R2:=fun x y H Q=>∃z i c,x=.str z∧y=.int i∧z.length≤sizeLine∧il z.cps.toList i=some c∧Q (.str ⟨#[c]⟩) H
theorem HQ:N0 X (OZ X.K):=by
 intro value slice pins s σ H x y v u Q I rx ry h hs;obtain⟨p,xs,i,z,rfl,rfl,hq,he,q⟩:=h;cases rx;obtain⟨t,rfl⟩:=ry;obtain⟨its,r,pl,hz⟩:=I.list hq;obtain⟨j,h1,h2,h3,h4,h5⟩:=rV he;obtain⟨w,ew,rw'⟩:=r.get h2;have hl:=r.length;have hn:=mR;have fin:EP X pins σ Q w s:=⟨z,H,I,rw',q⟩
 by_cases h0:0≤i
 ·have hj:i.toNat=j:=by
   rw[seqIndex_of h0 h5] at h1;exact Option.some.inj h1
  exact item_listR pl.isList h0 (by lia) (by rw[hj];simpa using ew) fin hs
 ·have hj:(i+(its.toArray.size:Int)).toNat=j:=by
   rw[seqIndex_neg (by lia) h4] at h1;rw[QA,←hl];exact Option.some.inj h1
  exact subscriptTail_builtinR (x:=w) pl.isList.typeIs slot_list_getitem.lookup
   (wpAny_getItem_list_neg (Q:=fun r s'=>r=w∧EP X pins σ Q r s') pl.isList (by lia) (by rw[QA] <;> lia) (by lia) (by rw[hj];simpa using ew) ⟨rfl,fin⟩) hs
theorem Ll:N0 X (OX X.K):=by
 intro value slice pins s σ H x y v u Q I rx ry h hs;obtain⟨p,xs,i,z,rfl,rfl,hq,he,q⟩:=h;cases rx;obtain⟨t,rfl⟩:=ry;obtain⟨its,r,pl,hz⟩:=I.tuple hq;obtain⟨j,h1,h2,h3,h4,h5⟩:=rV he;obtain⟨w,ew,rw'⟩:=r.get h2;have hl:=r.length;have hn:=mR;have fin:EP X pins σ Q w s:=⟨z,H,I,rw',q⟩;exact subscriptTail_builtinR (x:=w) pl.typeIs Rx.lookup
  (getItem_tuple (j:=j) (Q:=fun r s'=>r=w∧EP X pins σ Q r s') pl (by lia) (by lia) (by rw[QA,←hl];exact h1) (by simpa using ew) ⟨rfl,fin⟩) hs
theorem Lm:N0 X OY:=by
 intro value slice pins s σ H x y v u Q I rx ry h hs;obtain⟨z,i,c,rfl,rfl,hz,he,q⟩:=h;obtain⟨t,rfl⟩:=rx;obtain⟨t',rfl⟩:=ry;obtain⟨j,h1,h2,h3,h4,h5⟩:=rV he;have hl:z.cps.toList.length=z.length:=by simp[Str.length]
 rw[hl] at h1 h4 h5;have hn:=mR;exact tail_any (typeIs_str s z t) slot_str_getitem.lookup (getItem_str (c:=c) (by
  have e1:decide (i < -(2^63:Int))=false:=Q7 (by lia);have e2:decide (i≥2^63)=false:=Q7 (by lia);rw[e1,e2,Vo]) (by rw[h1];simpa using h2) ⟨.str ⟨#[c]⟩,H,I.tok _,⟨_,rfl⟩,q⟩) hs
theorem AG(its:List Value)(n j:Nat)(u:Value):Obj.mapSeq (·.setIfInBounds j u) {cls:=.type "list",data:=.seq its.toArray n}={cls:=.type "list",data:=.seq (its.set j u).toArray n}:=by
 simp[Obj.mapSeq]
theorem Inv.lst(I:Inv X pins σ H s)(h:H p=some (.lst xs)):
  ∃(its:List Value)(n:Nat),Vals xs its∧s.heap.get? p=some {cls:=.type "list",data:=.seq its.toArray n}∧xs.length≤sizeLine:=by
 obtain⟨z,its,n,r,e⟩:=I.bI p _ h;exact⟨its,n,r,e,z⟩
theorem Inv.Lb{pins:List (Addr×Obj)}{σ:St}{H:Hp}{s:Shared}{p:Addr}{xs ys:List V}{its its':List Value}{n n':Nat}{f:Obj->Obj}(I:Inv X pins σ H s)(h:H p=some (.lst xs))
  (ho:s.heap.get? p=some {cls:=.type "list",data:=.seq its.toArray n}) (hf:f {cls:=.type "list",data:=.seq its.toArray n}={cls:=.type "list",data:=.seq its'.toArray n'}) (r:Vals ys its') (hz:ys.length≤sizeLine) (t:Nat):
  Inv X pins σ (upd H p (.lst ys)) {s with heap:=s.heap.update p f,toks:=t}:=by
 have e:(s.heap.update p f).get? p=some {cls:=.type "list",data:=.seq its'.toArray n'}:=by
  rw[RO f ho (by rw[hf] <;> rfl),hf]
 refine I.write (x:=p) (e:=p) (by rw[h];trivial) (.inl rfl) (fun b u hb q=>(Sh _ _ (RM hb)).trans q) ⟨_,e⟩ ?_;exact⟨hz,its',n',r,e⟩
def M4:V->V->V->Hp->(Hp->Prop)->Prop:=fun o i v H Q=>∃p xs k j,o=.ref p∧i=.int k∧H p=some (.lst xs)∧xw xs.length k=some j∧Q (upd H p (.lst (xs.set j v)))
theorem set_list:L9 X M4:=by
 intro pins s σ H o i v ov iv u Q I ro ri rv h;obtain⟨p,xs,k,j,rfl,rfl,hp,hj,q⟩:=h;cases ro;obtain⟨t,rfl⟩:=ri;obtain⟨its,n,r,ho,hz⟩:=I.lst hp;obtain⟨h1,h2,h3,h4⟩:=BP hj;have hl:=r.length;have hn:=mR;have I':Inv X pins σ (upd H p (.lst (xs.set j v))) {s with heap:=s.heap.update p (Obj.mapSeq (·.setIfInBounds j u))}:=
  I.Lb hp ho (AG its n j u) (r.set rv j) (by rw[Sd];exact hz) s.toks
 by_cases h0:0≤k
 ·have hk:k.toNat=j:=by
   rw[seqIndex_of h0 h4] at h1;exact Option.some.inj h1
  exact PySem.W.ki_setAt ho h0 (by lia) (by rw[QA,←hl];exact h4) (by rw[hk];exact⟨_,I',q⟩)
 ·have hk:(k+(its.toArray.size:Int)).toNat=j:=by
   rw[seqIndex_neg (by lia) h3] at h1;rw[QA,←hl];exact Option.some.inj h1
  exact PySem.W.ki_setBack ho (by lia) (by rw[QA,←hl];exact h3) (by lia) (by rw[hk];exact⟨_,I',q⟩)
theorem wF(lo hi:Option Int)(n:Nat):(sliceBounds lo hi none n).1=((HT.dD n 0 lo:Nat):Int)∧(sliceBounds lo hi none n).2.1=((HT.dD n n hi:Nat):Int)∧(sliceBounds lo hi none n).2.2=1:=by
 refine⟨?_,?_,rfl⟩
 ·cases lo with
  | none=>simp[sliceBounds,HT.dD]
  | some i=>
   simp only[sliceBounds,HT.dD,Option.getD_none,show(1:Int) > 0 by decide,Tr]
   by_cases h:i < 0
   ·simp only[h,Tr] <;> lia
   ·simp only[h,Sf] <;> lia
 ·cases hi with
  | none=>simp[sliceBounds,HT.dD]
  | some i=>
   simp only[sliceBounds,HT.dD,Option.getD_none,show(1:Int) > 0 by decide,Tr]
   by_cases h:i < 0
   ·simp only[h,Tr] <;> lia
   ·simp only[h,Sf] <;> lia
theorem uz(its:List Value)(lo hi:Option Int):slicePick its.toArray lo hi none=((its.drop (HT.dD its.length 0 lo)).take (HT.dD its.length its.length hi-HT.dD its.length 0 lo)).toArray:=by
 obtain⟨h1,h2,h3⟩:=wF lo hi its.toArray.size;unfold slicePick;rw[h1,h2,h3];simp only[sliceRange_one,pick_run,QA] <;> rfl
def OS(K:FR):V->Option Int->Option Int->Hp->VK->Prop:=fun x lo hi H Q=>∃a xs,x=.ref a∧gH K H a xs∧∀p,H p=none->Q (.ref p) (upd H p (.lst (tT xs lo hi)))
theorem GJ:L5 X (OS X.K):=by
 intro pins s σ H x v vl vu lo hi sl Q I rx hs pl pu h;obtain⟨a,xs,rfl,hx,q⟩:=h;cases rx;obtain⟨its,r,ht,hz⟩:=I.list hx;have hlen:=r.length;refine⟨"list",_,slot_list_getitem.lookup,ht.isList.typeIs,?_⟩;refine wpAny_getItem_list_slice ht.isList hs pl pu .none (by simp) ?_ (by rw[QA] <;> lia);rw[uz,←hlen];refine⟨.ref s.heap.objs.size,_,I.laid (t':=s.toks) (o:=.lst (tT xs lo hi)) (fun b ob q=>Ql _ q) (Qq _) ?_,rfl,q _ (I.bI.fresh (Qq _))⟩;exact⟨QB (qB xs lo hi) hz,_,0,(r.drop (HT.dD xs.length 0 lo)).take (HT.dD xs.length xs.length hi-HT.dD xs.length 0 lo),Qx _ rfl⟩
theorem xT:fe X (.builtin "len") (fun xs H Q=>∃p ys,xs=[.ref p]∧(gH X.K H p ys∨jS X.K H p ys)∧Q (.int ys.length) H):=by
 intro pins s σ H xs us Q I r h;obtain⟨p,ys,rfl,hq,q⟩:=h;obtain⟨u,rfl,rx⟩:=vals1 r;cases rx;have hn:=mR;rcases hq with hq | hq
 ·obtain⟨its,r',pl,hz⟩:=I.list hq;have hlen:=r'.length;exact Calls.call_len_list pl.isList (by simp only[QA] <;> lia) ⟨.int ys.length,H,I.tok _,⟨s.toks+1,by rw[QA,hlen]⟩,q⟩
 ·obtain⟨its,r',pl,hz⟩:=I.tuple hq;have hlen:=r'.length;exact len_tuple pl (by simp only[QA] <;> lia) ⟨.int ys.length,H,I.tok _,⟨s.toks+1,by rw[QA,hlen]⟩,q⟩
theorem xS:fe X (.builtin "len") (fun xs H Q=>∃z,xs=[.str z]∧z.length≤sizeLine∧Q (.int z.length) H):=by
 intro pins s σ H xs us Q I r h;obtain⟨z,rfl,hz,q⟩:=h;obtain⟨u,rfl,t,rfl⟩:=vals1 r;have hn:=mR;exact len_str (by lia) ⟨.int z.length,H,I.tok _,⟨_,rfl⟩,q⟩
theorem xR:fe X (.type "list") (fun xs H Q=>∃p ys,xs=[.ref p]∧(gH X.K H p ys∨jS X.K H p ys)∧∀l,H l=none->Q (.ref l) (upd H l (.lst ys))):=by
 intro pins s σ H xs us Q I r h;obtain⟨p,ys,rfl,hq,q⟩:=h;obtain⟨u,rfl,rx⟩:=vals1 r;cases rx;have fin:∀(its:List Value),Vals ys its->ys.length≤sizeLine->∀(h':Heap)(c':Nat),(∀b o',s.heap.get? b=some o'->h'.get? b=some o')->
   h'.get? s.heap.objs.size=some {cls:=.type "list",dict:=none,data:=.seq its.toArray c',slots:=#[]}->EP X pins σ Q (.ref s.heap.objs.size) {s with heap:=h'}:=fun its r' hz h' c' kp e=>
  ⟨.ref s.heap.objs.size,_,I.laid (t':=s.toks) kp (Qq _) (show cS X.prog X.w _ h' _ (.lst ys) from⟨hz,its,c',r',e⟩),rfl,q _ (I.bI.fresh (Qq _))⟩
 rcases hq with hq | hq
 ·obtain⟨its,r',pl,hz⟩:=I.list hq;have hlen:=r'.length;obtain⟨o,ho,hc,n,hd⟩:=pl.isList;exact call_list_seq p (.inl rfl) ho hc hd (fun h' c' kp e=>fin its r' hz h' c' kp e) (by simp only[QA] <;> lia)
 ·obtain⟨its,r',pl,hz⟩:=I.tuple hq;have hlen:=r'.length;obtain⟨o,ho,hc,n,hd⟩:=pl;exact call_list_seq p (.inr rfl) ho hc hd (fun h' c' kp e=>fin its r' hz h' c' kp e) (by simp only[QA] <;> lia)
theorem uY:fe X (.type "tuple") (fun xs H Q=>∃p ys,xs=[.ref p]∧((gH X.K H p ys∧∀l,H l=none->Q (.ref l) (upd H l (.tup ys)))∨(jS X.K H p ys∧Q (.ref p) H))):=by
 intro pins s σ H xs us Q I r h;obtain⟨p,ys,rfl,h⟩:=h;obtain⟨u,rfl,rx⟩:=vals1 r;cases rx;rcases h with⟨hq,q⟩ |⟨hq,q⟩
 ·obtain⟨its,r',pl,hz⟩:=I.list hq;have hlen:=r'.length;refine call_tuple_list pl.isList (fun h' kp=>?_) (by simp only[QA] <;> lia);have I1:Inv X pins σ H {s with heap:=h'}:=I.kept (t':=s.toks) kp;have I2:Inv X pins σ (upd H h'.objs.size (.tup ys)) {s with heap:=h'.push {cls:=.type "tuple",data:=.seq its.toArray}}:=
   I1.laid (t':=s.toks) (fun b o e=>Ql _ e) (Qq _) (show cS X.prog X.w _ _ _ (.tup ys) from⟨hz,its,r',x4.new _ _⟩)
  exact⟨.ref h'.objs.size,_,I2,rfl,q _ (I1.bI.fresh (Qq _))⟩
 ·obtain⟨its,r',pl,hz⟩:=I.tuple hq;exact call_tuple_same pl ⟨.ref p,H,I,rfl,q⟩
def Jz(K:FR)(T:String)(x:V)(H:Hp):Prop:=match x with
 | .str _=>T="str"
 | .int _=>T="int"
 | .ref p=>(T="list"∧∃xs,gH K H p xs)∨(T="tuple"∧∃o,K.lookup p=some o∧o.cls=.type "tuple"∧o.dict=none)∨
   (T="dict"∧((∃kvs,H p=some (.dK kvs))∨∃kvs,H p=some (.dT kvs)))∨(T="set"∧∃S n,H p=some (.set S n))
 | _=>False
theorem DX(I:Inv X pins σ H s)(r:RelV x v)(ty:Jz X.K T x H):
  s.TypeIs v T∧∀a,v=.ref a->∃ob,s.heap.get? a=some ob∧ob.dict=none:=by
 cases x with
 | str z=>
  obtain⟨t,rfl⟩:=r;cases(show T="str" from ty);exact⟨typeIs_str s z t,fun _ e=>nomatch e⟩
 | int i=>
  obtain⟨t,rfl⟩:=r;cases(show T="int" from ty);exact⟨typeIs_int s i t,fun _ e=>nomatch e⟩
 | ref p=>
  cases r;rcases ty with⟨rfl,xs,hq⟩ |⟨rfl,o,hk,hc,hd⟩ |⟨rfl,hk⟩ |⟨rfl,S,n,hk⟩
  ·obtain⟨its,_,pl,_⟩:=I.list hq;refine⟨pl.isList.typeIs,fun a e=>?_⟩;cases e;obtain⟨o,n,e,c,hd,_⟩:=pl;exact⟨o,e,hd⟩
  ·refine⟨⟨o,I.vO p o hk,hc⟩,fun a e=>?_⟩;cases e;exact⟨o,I.vO _ o hk,hd⟩
  ·have z:∃o,s.heap.get? p=some o∧o.ExactDict:=by
    rcases hk with⟨kvs,hk⟩ |⟨kvs,hk⟩
    ·obtain⟨_,_,_,_,o,_,_,e,ex,_⟩:=I.bI p _ hk;exact⟨o,e,ex⟩
    ·obtain⟨_,_,_,_,o,_,_,e,ex,_⟩:=I.bI p _ hk;exact⟨o,e,ex⟩
   obtain⟨o,e,ex⟩:=z;refine⟨⟨o,e,ex.1⟩,fun a e2=>?_⟩;cases e2;exact⟨o,e,ex.2.1⟩
  ·obtain⟨o,_,_,_,e,ex,_⟩:=I.bI p _ hk;refine⟨⟨o,e,ex.1⟩,fun a e2=>?_⟩;cases e2;exact⟨o,e,ex.2.1⟩
 | _=>exact False.elim ty
def Oz(K:FR)(T:String)(r:V->List V->Hp->VK->Prop)(to:TE):TE:=fun σ H Q=>to σ H fun x H1=>Jz K T x H1∧r x [] H1 Q
def P7(K:FR)(T:String)(r:V->List V->Hp->VK->Prop)(to:TE)(t:TA):TE:=fun σ H Q=>to σ H fun x H1=>Jz K T x H1∧t σ H1 fun xs H2=>r x xs H2 Q
variable {o e:Expr} {es:List Expr} {to:TE} {t:TA} {name:Str} {apos cpos:Pos} {T id:String} {r:V->List V->Hp->VK->Prop}
theorem KP(pa:PlainAttrs T)(slot:Slot T name id)(hty:typeOf (.builtin id)=pure (.type "method_descriptor"))(hm:DH X id r)(ho:PE X o to)
  (hbase:attributeBase o name X.env (eval o X.env)=eval o X.env:=by rfl) (hline:(apos.endLine==cpos.line)=true:=by rfl):PE X (.Call (.Attribute o name apos) [] [] cpos) (Oz X.K T r to):=by
 intro pins s σ H Q I h;refine wpAny_Call_method0_late hbase hline (cU (ho pins s σ H _ I h) fun v s1 ⟨x,H1,I1,r1,ty,q1⟩=>?_);obtain⟨h1,h2⟩:=DX I1 r1 ty;exact⟨T,id,pa,slot,hty,h1,h2,Calls.callWith_builtin rfl (PySem.evalArgs_none (hm pins s1 σ H1 x [] v [] Q I1 r1 .nil q1))⟩
theorem Nb(pa:PlainAttrs T)(slot:Slot T name id)(hty:typeOf (.builtin id)=pure (.type "method_descriptor"))(hm:DH X id r)(ho:PE X o to)(ha:PA X (e::es) t)
  (hbase:attributeBase o name X.env (eval o X.env)=eval o X.env:=by rfl)
  (hfew:((backTo cpos (starEach (e::es) X.env)).all (fun x=>!x.1)&&(backToKw cpos (keywordEach [] X.env)).all (fun x=>x.1.isSome)
   &&decide ((e::es).length+([]:List Keyword).length+(if([]:List Keyword).isEmpty then 0 else 1) < 30))=true:=by rfl)
  (hline:(apos.endLine==cpos.line)=true:=by rfl) (hs:starEach (e::es) X.env=(false,eval e X.env)::starEach es X.env:=by rfl) (hplain:(backTo cpos (starEach es X.env)).any (·.1)=false:=by rfl):
  PE X (.Call (.Attribute o name apos) (e::es) [] cpos) (P7 X.K T r to t):=by
 intro pins s σ H Q I h;refine wpAny_Call_method_late hbase hfew hline rfl (cU (ho pins s σ H _ I h) fun v s1 ⟨x,H1,I1,r1,ty,q1⟩=>?_);obtain⟨h1,h2⟩:=DX I1 r1 ty;refine⟨T,id,pa,slot,hty,h1,h2,?_⟩;have hA:=ha cpos pins s1 σ H1 _ I1 q1;rw[hs] at hA ⊢;refine Calls.callWith_builtin (by show(false||(backTo cpos (starEach es X.env)).any (·.1))=false;rw[hplain] <;> rfl) (Calls.evalArgs_plain ?_);exact cU hA fun us s2 ⟨vs,H2,I2,r2,q2⟩=>hm pins s2 σ H2 x vs v us Q I2 r1 r2 q2
end
def Pm(X:Cx)(id:String)(r:V->List V->Hp->VK->Prop):Prop:=
 ∀(pins:List (Addr×Obj)) (s:Shared) (σ:St) (H:Hp) (x:V) (xs:List V) (v:Value) (us:List Value) (Q:VK),Inv X pins σ H s->RelV x v->Vals xs us->r x xs H Q->
  wpAny (model X.prog X.w) X.A (call (.builtin id) (v::us)) (EP X pins σ Q) X.xe s
theorem Vals.one{x:V}{us:List Value}(h:Vals [x] us):∃u,us=[u]∧RelV x u:=by
 cases h with
 | cons r t=>cases t;exact⟨_,rfl,r⟩
theorem Vals.two{x y:V}{us:List Value}(h:Vals [x,y] us):∃u v,us=[u,v]∧RelV x u∧RelV y v:=by
 cases h with
 | cons r t=>cases t with
  | cons q z=>cases z;exact⟨_,_,rfl,r,q⟩
theorem Vals.zero:∀{us:List Value},Vals [] us->us=[]
 | _,.nil=>rfl
theorem Vals.dropLast(h:Vals xs us):Vals xs.dropLast us.dropLast:=by
 induction h with
 | nil=>exact .nil
 | cons r t ih=>
  cases t with
  | nil=>exact .nil
  | cons q t'=>exact .cons r ih
theorem Vals.rep(h:Vals xs us):∀k:Nat,Vals (List.replicate k xs).flatten (List.replicate k us).flatten
 | 0=>.nil
 | k+1=>by
  rw[RZ,RZ,SJ,SJ];exact Vals.append h (Vals.rep h k)
theorem AW(l:List α):l.eraseIdx (l.length-1)=l.dropLast:=by
 induction l with
 | nil=>rfl
 | cons a r ih=>
  cases r with
  | nil=>rfl
  | cons b r=>
   have e:(a::b::r).length-1=((b::r).length-1)+1:=by
    have h1:(a::b::r).length=r.length+2:=rfl;have h2:(b::r).length=r.length+1:=rfl
    lia
   rw[e,List.eraseIdx_cons_succ,ih]
   all_goals rfl
theorem foldl_rep(its:List Value):∀(k:Nat)(acc:List Value),
  List.foldl (fun x1 x2=>x1++x2) acc.toArray (List.replicate k its.toArray)=(acc++(List.replicate k its).flatten).toArray
 | 0,acc=>by simp
 | k+1,acc=>by
  have e:acc.toArray++its.toArray=(acc++its).toArray:=by simp
  have e2:(acc++its)++(List.replicate k its).flatten=acc++(List.replicate (k+1) its).flatten:=by
   rw[RZ,SJ,RC]
  rw[←e2,←foldl_rep its k (acc++its),←e,RZ,Sk]
theorem Inv.HF{its its':List Value}{n:Nat}{f:Array Value->Array Value}{t':Nat}(I:Inv X pins σ H s)(hH:H l=some (.lst xs))
  (e:s.heap.get? l=some {cls:=.type "list",data:=.seq its.toArray n}) (hf:f its.toArray=its'.toArray) (hv:Vals ys its') (hz:ys.length≤sizeLine):
  Inv X pins σ (upd H l (.lst ys)) {s with heap:=s.heap.update l (Obj.mapSeq f),toks:=t'}:=by
 have q:=PySem.IsL.update e f;rw[hf] at q;refine I.write (x:=l) (e:=l) (by rw[hH];exact trivial) (.inl rfl) (fun b' u hb hu=>(Sh s.heap (Obj.mapSeq f) (RM hb)).trans hu) ⟨_,q⟩ ?_;exact⟨hz,its',_,hv,q⟩
theorem Inv.Lc(I:Inv X pins σ H s)(hv:Vals ys its)(hz:ys.length≤sizeLine):
  Inv X pins σ (upd H s.heap.objs.size (.lst ys)) {s with heap:=s.heap.push {cls:=.type "list",data:=.seq its.toArray},toks:=t'}:=
 I.laid (fun _ _ q=>Ql _ q) (Qq _) ⟨hz,its,0,hv,Qx _ rfl⟩
theorem Inv.fresh(I:Inv X pins σ H s):H s.heap.objs.size=none:=I.bI.fresh (Qq _)
theorem Inv.yZ(I:Inv X pins σ H s)(hH:H l=some (.lst xs)):xs.length≤sizeLine∧∃(its:List Value)(n:Nat),Vals xs its∧xs.length=its.length∧s.heap.get? l=some {cls:=.type "list",data:=.seq its.toArray n}:=by
 obtain⟨z,its,n,r,e⟩:=I.bI l _ hH;exact⟨z,its,n,r,r.length,e⟩
theorem sY(h:n≤sizeLine):Builtin.List.listTooLong n=false:=by
 unfold Builtin.List.listTooLong;exact Q7 (by lia)
def G3:V->List V->Hp->VK->Prop:=fun x vs H Q=>∃l xs y,x=.ref l∧vs=[y]∧H l=some (.lst xs)∧xs.length < sizeLine∧Q .cN (upd H l (.lst (xs++[y])))
theorem vF:Pm X "list.append" G3:=by
 intro pins s σ H x vs v us Q I rx rv h;obtain⟨l,xs,y,rfl,rfl,hH,hz,q⟩:=h;cases rx;obtain⟨u,rfl,ru⟩:=rv.one;obtain⟨z,its,n,r,hl,e⟩:=I.yZ hH;refine UC Rt ⟨_,e,rfl⟩ F.entry_list_append (F.args_list_append_2 _ _) (PySem.list_append l its.toArray n u (by rw[QA];lia)) ⟨e,?_⟩;refine⟨.cN,_,I.HF (its':=its++[u]) hH e (by simp) (r.append (.cons ru .nil)) ?_,rfl,q⟩;rw[QD,Q6]
 lia
def G2:V->List V->Hp->VK->Prop:=fun x vs H Q=>∃l b xs zs,x=.ref l∧vs=[.ref b]∧H l=some (.lst xs)∧H b=some (.lst zs)∧xs.length+zs.length≤sizeLine∧Q .cN (upd H l (.lst (xs++zs)))
theorem CO:Pm X "list.extend" G2:=by
 intro pins s σ H x vs v us Q I rx rv h;obtain⟨l,b,xs,zs,rfl,rfl,hH,hB,hz,q⟩:=h;cases rx;obtain⟨u,rfl,ru⟩:=rv.one;cases ru;obtain⟨z,its,n,r,hl,e⟩:=I.yZ hH;obtain⟨z2,its2,n2,r2,hl2,e2⟩:=I.yZ hB;have hsz:its.toArray.size+its2.toArray.size≤sizeLine:=by rw[QA,QA];lia
 have hlong:¬(!its.toArray.isEmpty&&Builtin.List.listTooLong (its.toArray.size+its2.toArray.size))=true:=by
  rw[sY hsz,Vf];exact Rg
 refine UC SF ⟨_,e,rfl⟩ F.entry_list_extend (F.args_list_extend_2 _ _)
  (AutoSeq1.list_extend_list_list_0 l its.toArray n b its2.toArray n2 hlong (by rw[QA];lia) (by lia)) ⟨e,e2,?_⟩
 refine⟨.cN,_,I.HF (its':=its++its2) hH e (by simp) (r.append r2) ?_,rfl,q⟩;rw[QD]
 lia
def OW:V->List V->Hp->VK->Prop:=fun x vs H Q=>∃l xs y,x=.ref l∧vs=[]∧H l=some (.lst xs)∧xs[xs.length-1]?=some y∧Q y (upd H l (.lst xs.dropLast))
theorem K9:Pm X "list.pop" OW:=by
 intro pins s σ H x vs v us Q I rx rv h;obtain⟨l,xs,y,rfl,rfl,hH,hy,q⟩:=h;cases rx;have hus:=rv.zero;subst hus;obtain⟨z,its,n,r,hl,e⟩:=I.yZ hH;obtain⟨u,hu,ru⟩:=r.get hy;have hy':its.toArray[its.toArray.size-1]?=some u:=by
  show its.toArray[its.length-1]?=some u;rw[←RB,←hl];exact hu
 refine UC F.slot_list_pop ⟨_,e,rfl⟩ F.entry_list_pop (F.args_list_pop_1 _) (MeetsSeq.list_pop_last l its.toArray n u hy' (by rw[QA];lia)) ⟨e,?_⟩;refine⟨y,_,I.HF (its':=its.dropLast) hH e ?_ r.dropLast ?_,ru,q⟩
 ·show its.toArray.eraseIdxIfInBounds (its.toArray.size-1)=its.dropLast.toArray;rw[QA,List.eraseIdxIfInBounds_toArray,AW]
 ·rw[List.length_dropLast]
  lia
def O0:R2:=fun x y H Q=>∃l b xs zs,x=.ref l∧y=.ref b∧H l=some (.lst xs)∧H b=some (.lst zs)∧xs.length+zs.length≤sizeLine∧∀p,H p=none->Q (.ref p) (upd H p (.lst (xs++zs)))
theorem E1:lX X (binaryOp .Add) O0:=by
 intro pins s σ H x y v u Q I rx ry h;obtain⟨l,b,xs,zs,rfl,rfl,hH,hB,hz,q⟩:=h;cases rx;cases ry;obtain⟨z,its,n,r,hl,e⟩:=I.yZ hH;obtain⟨z2,its2,n2,r2,hl2,e2⟩:=I.yZ hB;refine PySem.P.add_list e e2 ?_ (by rw[QA,QA];lia);have ea:its.toArray++its2.toArray=(its++its2).toArray:=by simp
 rw[ea];exact⟨.ref _,_,I.Lc (t':=s.toks) (r.append r2) (by rw[QD];lia),rfl,q _ I.fresh⟩
def OV:R2:=fun x y H Q=>∃l k xs,x=.ref l∧y=.int k∧H l=some (.lst xs)∧-(2^63)≤k∧k < 2^63∧xs.length*k.toNat≤sizeLine∧
 ∀p,H p=none->Q (.ref p) (upd H p (.lst (List.replicate k.toNat xs).flatten))
theorem len_rep(xs:List α)(k:Nat):(List.replicate k xs).flatten.length=k*xs.length:=by
 induction k with
 | zero=>simp
 | succ k ih=>rw[RZ,SJ,QD,ih,Nat.succ_mul,UU]
theorem KZ:lX X (binaryOp .Mult) OV:=by
 intro pins s σ H x y v u Q I rx ry h;obtain⟨l,k,xs,rfl,rfl,hH,h1,h2,hz,q⟩:=h;cases rx;obtain⟨t,rfl⟩:=ry;obtain⟨z,its,n,r,hl,e⟩:=I.yZ hH;have hlen:its.toArray.size*k.toNat≤sizeLine:=by rw[QA,←hl];exact hz
 have hcap:¬its.toArray.size*k.toNat > (2^63-1) / 8:=by
  have:(sizeLine:Nat)≤(2^63-1) / 8:=by decide
  lia
 have hfit:¬(!Builtin.List.listFitsIndex k)=true:=by
  rw[fitsIndex_both h1 h2];exact Rg
 have hlong:¬Builtin.List.listTooLong (its.toArray.size*k.toNat)=true:=by
  rw[sY hlen];exact Rg
 have hnew:List.foldl (fun x1 x2=>x1++x2) #[] (List.replicate (if its.toArray.isEmpty=true then 0 else k.toNat) its.toArray)=(List.replicate k.toNat its).flatten.toArray:=by
  have f0:∀m:Nat,List.foldl (fun x1 x2=>x1++x2) #[] (List.replicate m its.toArray)=(List.replicate m its).flatten.toArray:=fun m=>by
   have:=foldl_rep its m [];rw[Tg] at this;exact this
  rw[f0];cases its with
  | nil=>simp
  | cons a r'=>rw[Qu (by simp)]
 refine wpAny_binaryOp_repeat_ref (T:="list") (U:="int") (by decide) ⟨_,e,rfl⟩ (fun s'=>typeIs_int s' k t) noFill_list_mul F.fills_int_mul F.slot_int_rmul repeat_list F.slot_int_index.lookup
  (UC F.slot_int_rmul (typeIs_int s k t) F.entry_int_rmul (F.args_int_rmul_2 _ _) (int___rmul___int_list k t l its.toArray n)
   ⟨e,rfl,⟨_,e,rfl⟩,UC F.slot_list_mul ⟨_,e,rfl⟩ F.entry_list_mul (F.args_list_mul_2 _ _) (AutoListH.list___mul___list_int_3 l its.toArray n k t hfit hcap hlong) ⟨e,?_⟩⟩)
 rw[hnew];exact⟨.ref _,_,I.Lc (t':=s.toks) (r.rep k.toNat) (by rw[len_rep,Nat.mul_comm];exact hz),rfl,q _ I.fresh⟩
section
variable {κ:Type} [DecidableEq κ]
noncomputable def jO(kvs:List (κ×V))(k:κ):Option V:=(kvs.find? fun kv=>decide (kv.1=k)).map (·.2)
noncomputable def putK(kvs:List (κ×V))(k:κ)(v:V):List (κ×V):=
 if(kvs.any fun kv=>decide (kv.1=k))=true then kvs.map (fun kv=>if kv.1=k then(kv.1,v) else kv) else kvs++[(k,v)]
theorem rX{p:κ×V}{r:List (κ×V)}{k:κ}(e:p.1=k):jO (p::r) k=some p.2:=by simp[jO,Sz,e]
theorem ng{p:κ×V}{r:List (κ×V)}{k:κ}(e:¬p.1=k):jO (p::r) k=jO r k:=by simp[jO,Sz,e]
theorem ye(k:κ):∀kvs:List (κ×V),(kvs.any fun kv=>decide (kv.1=k))=(jO kvs k).isSome
 | []=>rfl
 | p::r=>by
  rw[So]
  by_cases e:p.1=k
  ·simp only[rX e,Q8 e,Bool.true_or,Option.isSome_some]
  ·rw[ng e,Q7 e,Bool.false_or];exact ye k r
theorem ix(kvs:List (κ×V))(k:κ)(v:V):(putK kvs k v).length≤kvs.length+1:=by
 unfold putK
 split
 ·rw[Qk];lia
 ·rw[QD,QI,R3];lia
theorem ur.iZ(r:ur o u):o.isSome=u.isSome:=by
 cases o with
 | none=>cases u with
  | none=>rfl
  | some _=>exact(show False from r).elim
 | some _=>cases u with
  | none=>exact(show False from r).elim
  | some _=>rfl
theorem KV.val{kvs:List (κ×V)}{vs:List (κ×Value)}(r:KV kvs vs)(k:κ):ur (jO kvs k) (valueAt vs k):=by
 unfold KV at r
 induction r with
 | nil=>exact True.intro
 | @cons p q ps qs h t ih=>
  obtain⟨h1,h2⟩:=h
  by_cases e:p.1=k
  ·have e':q.1=k:=h1.symm.trans e;have b:valueAt (q::qs) k=some q.2:=by simp[valueAt,Sz,e']
   rw[rX e,b];exact h2
  ·have e':¬q.1=k:=fun z=>e (h1.trans z);have b:valueAt (q::qs) k=valueAt qs k:=by simp[valueAt,Sz,e']
   rw[ng e,b];exact ih
theorem KV.any(r:KV kvs vs)(k:κ):(kvs.any fun kv=>decide (kv.1=k))=vs.any fun kv=>decide (kv.1=k):=by
 unfold KV at r
 induction r with
 | nil=>rfl
 | cons h t ih=>rw[So,So,ih,h.1]
theorem KV.JZ(r:KV kvs vs)(k:κ)(ry:RelV y u):
  KV (kvs.map fun kv=>if kv.1=k then(kv.1,y) else kv) (vs.map fun kv=>if kv.1=k then(kv.1,u) else kv):=by
 unfold KV at r ⊢
 induction r with
 | nil=>exact .nil
 | @cons p q ps qs h t ih=>
  rw[Qt,Qt];refine .cons ?_ ih;obtain⟨h1,h2⟩:=h
  by_cases e:p.1=k
  ·rw[Qp e,Qp (h1.symm.trans e)];exact⟨h1,ry⟩
  ·rw[Qu e,Qu (fun z=>e (h1.trans z))];exact⟨h1,h2⟩
theorem KV.put(r:KV kvs vs)(k:κ)(ry:RelV y u):KV (putK kvs k y) (stored vs k u):=by
 unfold putK stored;rw[r.any k]
 by_cases e:(vs.any fun kv=>decide (kv.1=k))=true
 ·rw[Qp e,Qp e];exact r.JZ k ry
 ·rw[Qu e,Qu e];exact Paired.snoc r ⟨rfl,ry⟩
theorem KV.length(r:KV kvs vs):kvs.length=vs.length:=Paired.length r
end
theorem lQ(r:RelV (kV k) u):(aO P w).is k u=true:=by
 cases k with
 | inl i=>obtain⟨t,e⟩:=(show ∃t,u=Value.int i t from r);subst e;exact qv P w i t
 | inr x=>obtain⟨t,e⟩:=(show ∃t,u=Value.str x t from r);subst e;exact qu P w x t
theorem vP:∀{ks:List Key} {us:List Value},Vals (ks.map kV) us->ItemsAre (aO P w) ks us
 | [],_,r=>by rw[Sv] at r;cases r;exact .nil
 | k::ks,_,r=>by
  rw[Qt] at r;cases r with
  | cons h t=>exact .cons (lQ h) (vP t)
abbrev KT(H:Hp):List (List Key×V)->List (List Key×Addr×Value)->Prop:=Paired fun p q=>p.1=q.1∧H q.2.1=some (.tup (p.1.map kV))∧RelV p.2 q.2.2
theorem KT.val{H:Hp}{kvs:List (List Key×V)}{xs:List (List Key×Addr×Value)}(r:KT H kvs xs)(k:List Key):ur (jO kvs k) ((atKey xs k).map (·.2)):=by
 induction r with
 | nil=>exact True.intro
 | @cons p q ps qs h t ih=>
  obtain⟨h1,_,h2⟩:=h
  by_cases e:p.1=k
  ·have e':q.1=k:=h1.symm.trans e;have b:atKey (q::qs) k=some q.2:=by simp[atKey,Sz,e']
   rw[rX e,b];exact h2
  ·have e':¬q.1=k:=fun z=>e (h1.trans z);have b:atKey (q::qs) k=atKey qs k:=by simp[atKey,Sz,e']
   rw[ng e,b];exact ih
theorem KT.JZ(r:KT H kvs xs)(k:List Key)(ry:RelV y u):
  KT H (kvs.map fun kv=>if kv.1=k then(kv.1,y) else kv) (xs.map (putAt k u)):=by
 induction r with
 | nil=>exact .nil
 | @cons p q ps qs h t ih=>
  rw[Qt,Qt];refine .cons ?_ ih;obtain⟨h1,h2,h3⟩:=h;unfold putAt
  by_cases e:p.1=k
  ·rw[Qp e,Qp (h1.symm.trans e)];exact⟨h1,h2,ry⟩
  ·rw[Qu e,Qu (fun z=>e (h1.trans z))];exact⟨h1,h2,h3⟩
theorem KT.put(r:KT H kvs xs)(k:List Key)(hb:H b=some (.tup (k.map kV)))(ry:RelV y u):
  KT H (putK kvs k y) (storedH xs k b u):=by
 have e:(kvs.any fun kv=>decide (kv.1=k))=(atKey xs k).isSome:=by
  rw[ye,(r.val k).iZ,UQ]
 unfold putK storedH;rw[e]
 by_cases q:(atKey xs k).isSome=true
 ·rw[Qp q,Qp q];exact r.JZ k ry
 ·rw[Qu q,Qu q];exact Paired.snoc r ⟨rfl,hb,ry⟩
theorem KT.keeps(r:KT H kvs xs)(ht:∀b ys,H b=some (.tup ys)->H' b=some (.tup ys)):KT H' kvs xs:=
 Paired.lH r fun _ _ z=>⟨z.1,ht _ _ z.2.1,z.2.2⟩
theorem I0(ok:lL P w H h)(e:Rd H a u):cS P w H h a u:=e.ok ok
theorem vU(ok:lL P w H h)(e:Rd H a (.dK kvs)):kvs.length≤sizeLine∧(a==sysModules)=false∧∃vs,KV kvs vs∧h.DictOf (aO P w) a vs:=
 show cS P w H h a (.dK kvs) from I0 ok e
theorem zj(ok:lL P w H h)(e:H a=some (.dK kvs)):kvs.length≤sizeLine∧(a==sysModules)=false∧∃vs,KV kvs vs∧h.DictOf (aO P w) a vs:=vU ok (.inl e)
theorem tF(ok:lL P w H h)(e:H a=some (.tup (ks.map kV))):(tupleKind (aO P w)).is h ks a:=by
 obtain⟨_,its,r,o,h1,h2,⟨n,h3⟩,_⟩:=(show cS P w H h a (.tup (ks.map kV)) from ok a _ e);exact⟨o,its.toArray,n,h1,h2,h3,by simpa using vP r⟩
theorem zi(ok:lL P w H h)(e:Rd H a (.dT kvs)):kvs.length≤sizeLine∧(a==sysModules)=false∧
  ∃xs,KT H kvs xs∧h.DictOfH (tupleKind (aO P w)) a xs:=by
 obtain⟨z,y,xs,r,o,es,ep,h1,h2,h3,h4,h5⟩:=(show cS P w H h a (.dT kvs) from I0 ok e);refine⟨z,y,xs,r,o,es,ep,h1,h2,h3,h4,fun x hx=>?_,h5⟩;have all:∀{l:List (List Key×V)} {m:List (List Key×Addr×Value)},KT H l m->∀x∈m,(tupleKind (aO P w)).is h x.1 x.2.1:=by
  intro l m q
  induction q with
  | nil=>intro x hx;exact nomatch hx
  | @cons p q ps qs hq t ih=>
   intro x hx;rcases QK.mp hx with e | hx
   ·subst e;exact tF ok (by rw[←hq.1];exact hq.2.1)
   ·exact ih x hx
 exact all r x hx
theorem NB(ok:lL P w H h)(e:H a=some (.dT kvs)):kvs.length≤sizeLine∧(a==sysModules)=false∧
  ∃xs,KT H kvs xs∧h.DictOfH (tupleKind (aO P w)) a xs:=zi ok (.inl e)
def va(H:Hp)(a:Addr)(y:V)(r:Option V):Prop:=
 (∃kvs k,Rd H a (.dK kvs)∧y=kV k∧r=jO kvs k)∨∃kvs k b,Rd H a (.dT kvs)∧y=.ref b∧H b=some (.tup (k.map kV))∧r=jO kvs k
def IS(H:Hp)(a:Addr)(y v:V)(H':Hp):Prop:=
 (∃kvs k,H a=some (.dK kvs)∧y=kV k∧kvs.length < sizeLine∧H'=upd H a (.dK (putK kvs k v)))∨
 ∃kvs k b,H a=some (.dT kvs)∧y=.ref b∧H b=some (.tup (k.map kV))∧kvs.length < sizeLine∧H'=upd H a (.dT (putK kvs k v))
theorem va.k{H:Hp}{a:Addr}{kvs:List (Key×V)}{k:Key}(e:H a=some (.dK kvs)):va H a (kV k) (jO kvs k):=.inl ⟨kvs,k,.inl e,rfl,rfl⟩
theorem IS.k{H:Hp}{a:Addr}{kvs:List (Key×V)}{k:Key}{v:V}(e:H a=some (.dK kvs))(hl:kvs.length < sizeLine):IS H a (kV k) v (upd H a (.dK (putK kvs k v))):=.inl ⟨kvs,k,e,rfl,hl,rfl⟩
theorem Inv.big(I:Inv X pins σ H s):sysModules < s.heap.objs.size:=by
 have h:mainGlobals < s.heap.objs.size:=(I.mod.glob.keeps I.bk).lt;exact TR (by decide) h
theorem Dq(hu:A.units+1 < cLine)(I:Inv X pins σ H s)(g:va H a y (some v))(ry:RelV y u)(h:∀w' s',Inv X pins σ H s'->RelV v w'->Q w' s'):
  wpAny (model X.prog X.w) A (getItem (.ref a) u) Q E s:=by
 rcases g with⟨kvs,k,e,ey,l⟩ |⟨kvs,k,b,e,ey,eb,l⟩
 ·subst ey;obtain⟨z,hd,vs,rel,dd⟩:=vU I.bI e;obtain⟨w',hw,rw'⟩:=ur.some_of (v:=v) (o:=valueAt vs k) (by rw[l];exact rel.val k);exact wpAny_getItem_of (lQ ry) dd.mapOf hw (h w' _ (I.tok _) rw')
 ·subst ey;cases(show u=Value.ref b from ry);obtain⟨z,hd,xs,rel,dd⟩:=zi I.bI e;obtain⟨w',hw,rw'⟩:=ur.some_of (v:=v) (o:=(atKey xs k).map (·.2)) (by rw[l];exact rel.val k);obtain⟨p,hp,hp2⟩:=QL.mp hw;refine wpAny_getItem_heap (Ud hu) (tF I.bI eb) dd hp ?_;rw[hp2];exact h w' _ (I.tok _) rw'
theorem Pf(hu:A.units+1 < cLine)(I:Inv X pins σ H s)(g:va H a y o)(ry:RelV y u)(h:∀s',Inv X pins σ H s'->Q (.bool o.isSome) s'):
  wpAny (model X.prog X.w) A (compareOp .In u (.ref a)) Q E s:=by
 rcases g with⟨kvs,k,e,ey,l⟩ |⟨kvs,k,b,e,ey,eb,l⟩
 ·subst ey;obtain⟨z,hd,vs,rel,dd⟩:=vU I.bI e;refine wpAny_in_of (lQ ry) hd dd.mapOf ?_;rw[←(rel.val k).iZ,←l];exact h _ (I.tok _)
 ·subst ey;cases(show u=Value.ref b from ry);obtain⟨z,hd,xs,rel,dd⟩:=zi I.bI e;refine wpAny_in_heap (Ud hu) (tF I.bI eb) hd dd ?_;have q:=(rel.val k).iZ;rw[UQ] at q;rw[←q,←l];exact h _ (I.tok _)
theorem Im(hu:A.units+1 < cLine)(I:Inv X pins σ H s)(g:va H a y o)(ry:RelV y u)(h:∀s',Inv X pins σ H s'->Q (.bool (!o.isSome)) s'):
  wpAny (model X.prog X.w) A (compareOp .NotIn u (.ref a)) Q E s:=by
 rcases g with⟨kvs,k,e,ey,l⟩ |⟨kvs,k,b,e,ey,eb,l⟩
 ·subst ey;obtain⟨z,hd,vs,rel,dd⟩:=vU I.bI e;refine wpAny_notIn_of (lQ ry) hd dd.mapOf ?_;rw[←(rel.val k).iZ,←l];exact h _ (I.tok _)
 ·subst ey;cases(show u=Value.ref b from ry);obtain⟨z,hd,xs,rel,dd⟩:=zi I.bI e;refine wpAny_notIn_heap (Ud hu) (tF I.bI eb) hd dd ?_;have q:=(rel.val k).iZ;rw[UQ] at q;rw[←q,←l];exact h _ (I.tok _)
theorem rO(I:Inv X pins σ H s)(mu:NZ (H a))(hs:Heap.SameBut a s.heap h')(he:∃q,h'.get? a=some q)(new:cS X.prog X.w (upd H a ob) h' a ob):
  Inv X pins σ (upd H a ob) {s with heap:=h',toks:=t'}:=
 I.write (x:=a) (e:=a) mu (.inl rfl) (fun b q hb z=>(hs.2 b hb).trans z) he new
theorem AZ(z:kvs.length≤sizeLine)(hd:(a==sysModules)=false)(rel:KV kvs vs)(dd:h'.DictOf (aO P w) a vs):
  cS P w H' h' a (.dK kvs):=⟨z,hd,vs,rel,dd⟩
theorem Dp(hu:A.units+1 < cLine)(I:Inv X pins σ H s)(g:IS H a y v H')(ry:RelV y u)(rv:RelV v r)(h:∀s',Inv X pins σ H' s'->Q () s'):
  wpAny (model X.prog X.w) A (setItem (.ref a) u r) Q E s:=by
 rcases g with⟨kvs,k,e,ey,l,eH⟩ |⟨kvs,k,b,e,ey,eb,l,eH⟩
 ·subst ey eH;obtain⟨z,hd,vs,rel,dd⟩:=zj I.bI e;have hz:vs.length≤sizeLine:=by rw[←rel.length];exact z
  have hl:(putK kvs k v).length≤sizeLine:=by have:=ix kvs k v;lia
  refine wpAny_setItem_pairs (hsz:=hz) (lQ ry) dd fun h' dd' hs=>h _ ?_;have he:∃q,h'.get? a=some q:=let⟨q,_,_,hq,_⟩:=dd';⟨q,hq⟩;exact rO I (by rw[e];exact True.intro) hs he (AZ hl hd (rel.put k rv) dd')
 ·subst ey eH;cases(show u=Value.ref b from ry);obtain⟨z,hd,xs,rel,dd⟩:=NB I.bI e;have hz:xs.length≤sizeLine:=by rw[←Paired.length rel];exact z
  have hl:(putK kvs k v).length≤sizeLine:=by have:=ix kvs k v;lia
  refine wpAny_setItem_heap (hsz:=hz) (Ud hu) (tF I.bI eb) dd fun h' dd' hs=>h _ ?_;obtain⟨q,es,ep,hq,h2,h3,h4,_,h5⟩:=dd';refine rO I (by rw[e];exact True.intro) hs ⟨q,hq⟩ ⟨hl,hd,_,(rel.put k eb rv).keeps fun c ys ec=>?_,q,es,ep,hq,h2,h3,h4,h5⟩;rw[aP (Nk ec e (fun z=>nomatch z))];exact ec
theorem NC(I:Inv X pins σ H s)(e:Rd H a (.dK kvs))(h:∀t s',Inv X pins σ H s'->Q (.int kvs.length t) s'):wpAny (model X.prog X.w) A (call (.builtin "len") [.ref a]) Q E s:=by
 obtain⟨z,hd,vs,rel,dd⟩:=vU I.bI e;refine call_len_dict hd dd (by rw[←rel.length];rw[Q4] at z;lia) ?_;rw[←rel.length];exact h _ _ (I.tok _)
def IP(i:Expr):Prop:=∀ov iv,subscripted i false ov iv=operate [ov,iv] (getItem ov iv)
theorem GG{prog:Program}{w:World}{A:Around}{E:Value->Shared->Prop}{s:Shared}{env:Env}{value slice:Expr}{pos:Pos}{T id:String}{Q:Value->Shared->Prop}
  (hl:typeLookup (.type T) "__getitem__"=pure (some (.builtin id))) (hs:IP slice)
  (h:wpAny (model prog w) A (eval value env) (fun o s₁=>wpAny (model prog w) A (eval slice env) (fun i s₂=>s₂.TypeIs o T∧wpAny (model prog w) A (getItem o i) Q E s₂) E s₁) E s):
  wpAny (model prog w) A (eval (.Subscript value slice pos) env) Q E s:=by
 refine Subscript_ (Rm h (fun o s₁ h₁=>Rm h₁ (fun i s₂ h₂=>?_) fun _ _ x=>x) fun _ _ x=>x);obtain⟨hT,h₂⟩:=h₂;unfold subscriptTail;refine Qj ?_;rw[getitemInPython_of_ne hT.not_modules];refine Qj (Tt hT hl ?_);have fin:wpAny (model prog w) A (subscripted slice false o i) (fun r s₃=>wpAny (model prog w) A (letTemporaryGo value o r >>=fun _=>pure r) Q E s₃) E s₂:=by
  rw[hs o i];exact wpAny_operating (Rm h₂ (fun r s₃ h₃=>Qj (wpAny_letTemporaryGo (Qm h₃))) fun _ _ x=>x)
 first
  | exact Qm (Qj fin)
  | exact Qj (Qm (Qj fin))
  | exact Qj fin
theorem zk(I:Inv X pins σ H s)(g:va H a y o):s.TypeIs (.ref a) "dict":=by
 rcases g with⟨kvs,k,e,_,_⟩ |⟨kvs,k,b,e,_,_,_⟩
 ·obtain⟨_,_,vs,_,dd⟩:=vU I.bI e;exact dd.typeIs
 ·obtain⟨_,_,xs,_,dd⟩:=zi I.bI e;exact dd.typeIs
theorem tR(h:Heap)(hb:sysModules < h.objs.size):cS P w H (h.push {cls:=.type "dict",data:=.dict #[]}) h.objs.size (.dK []):=
 ⟨Rw _,S9.mpr (RM (QF hb)),[],.nil,Heap.DictOf.new h⟩
def JH:TE:=fun _ H Q=>∀p,H p=none->Q (.ref p) (upd H p (.dK []))
theorem ET:PE X (.Dict [] [] pos) JH:=fun pins s σ H Q I h=>
 wpAny_Dict_empty ⟨.ref s.heap.objs.size,_,I.laid (a:=s.heap.objs.size) (o:=.dK []) (t':=s.toks) (fun _ _ q=>Ql _ q) (Qq _) (tR s.heap I.big),rfl,h _ (I.bI.fresh (Qq _))⟩
def wz:List (TE×TE)->St->Hp->(List (V×V)->Hp->Prop)->Prop
 | [],_,H,Q=>Q [] H
 |(tk,tv)::r,σ,H,Q=>tk σ H fun x H1=>tv σ H1 fun y H2=>wz r σ H2 fun ps H3=>Q ((x,y)::ps) H3
abbrev VV:List (V×V)->List (Value×Value)->Prop:=Paired fun p q=>RelV p.1 q.1∧RelV p.2 q.2
def Mk(X:Cx)(pos:Pos)(keys:List (Option Expr))(values:List Expr)(trs:List (TE×TE)):Prop:=
 ∀(pins:List (Addr×Obj)) (s:Shared) (σ:St) (H:Hp) (Q:List (V×V)->Hp->Prop),Inv X pins σ H s->wz trs σ H Q->
  wpAny (model X.prog X.w) X.A (evalPairs (pairTrees keys values X.env pos)) (fun vs s'=>∃ps H',Inv X pins σ H' s'∧VV ps vs∧Q ps H') X.xe s
theorem Hh:Mk X pos [] [] []:=fun pins s σ H Q I h=>pairTrees_nil_walk ⟨[],H,I,.nil,h⟩
theorem EK(hk:PE X k tk)(hv:PE X v tv)(hr:Mk X pos ks vs trs):
  Mk X pos (some k::ks) (v::vs) ((tk,tv)::trs):=fun pins s σ H Q I h=>
 pairTrees_cons_walk (cU (hk pins s σ H _ I h) fun u s1 ⟨x,H1,I1,rx,q1⟩=>cU (hv pins s1 σ H1 _ I1 q1) fun w2 s2 ⟨y,H2,I2,ry,q2⟩=>
  cU (hr pins s2 σ H2 _ I2 q2) fun ws s3 ⟨ps,H3,I3,rel,q3⟩=>⟨(x,y)::ps,H3,I3,.cons ⟨rx,ry⟩ rel,q3⟩)
noncomputable def kG(kvs more:List (Key×V)):List (Key×V):=more.foldl (fun acc kv=>putK acc kv.1 kv.2) kvs
theorem KV.merge:∀{more:List (Key×V)} {rs:List (Key×Value)} {kvs:List (Key×V)} {vs:List (Key×Value)},KV more rs->KV kvs vs->KV (kG kvs more) (merged vs rs):=by
 intro more rs kvs vs r;unfold KV at r
 induction r generalizing kvs vs with
 | nil=>intro q;exact q
 | @cons p q ps qs h t ih=>
  intro r0;have e:KV (putK kvs p.1 p.2) (stored vs q.1 q.2):=by
   have:=r0.put p.1 h.2;rw[←h.1];exact this
  exact ih e
theorem lP:∀(more kvs:List (Key×V)),(kG kvs more).length≤kvs.length+more.length
 | [],kvs=>by show kvs.length≤kvs.length+0;lia
 | p::r,kvs=>by
  have h1:=lP r (putK kvs p.1 p.2);have h2:=ix kvs p.1 p.2;show(kG (putK kvs p.1 p.2) r).length≤_;rw[QI];lia
theorem t5:∀{kvs:List (Key×V)} {ws:List (Value×Value)},VV (kvs.map fun kv=>(kV kv.1,kv.2)) ws->∃rs,Carries (aO P w) ws rs∧KV kvs rs
 | [],_,r=>by rw[Sv] at r;cases r;exact⟨[],True.intro,.nil⟩
 | p::kvs,_,r=>by
  rw[Qt] at r;cases r with
  | @cons a b as bs h t=>
   obtain⟨rs,c,q⟩:=t5 (P:=P) (w:=w) t;obtain⟨b1,b2⟩:=b;exact⟨(p.1,b2)::rs,⟨lQ h.1,rfl,c⟩,.cons ⟨rfl,h.2⟩ q⟩
def IX(trs:List (TE×TE)):TE:=fun σ H Q=>∀p,H p=none->wz trs σ (upd H p (.dK [])) fun ps H2=>H2 p=some (.dK [])∧∃kvs:List (Key×V),ps=kvs.map (fun kv=>(kV kv.1,kv.2))∧kvs.length≤15∧Q (.ref p) (upd H2 p (.dK (kG [] kvs)))
theorem Ht(h:Mk X pos keys values trs)(hall:keys.all (·.isSome)=true)(hl:keys.length=values.length)(h0:keys≠[])(h15:keys.length≤15):PE X (.Dict keys values pos) (IX trs):=by
 intro pins s σ H Q I q;have hn:=I.bI.fresh (Qq s.heap.objs.size);have I1:=I.laid (a:=s.heap.objs.size) (o:=.dK []) (h':=s.heap.push {cls:=.type "dict",data:=.dict #[]}) (t':=s.toks) (fun _ _ q=>Ql _ q) (Qq _) (tR s.heap I.big);refine wpAny_Dict_walk (knd:=aO X.prog X.w) hall hl h0 h15 (cU (h pins _ σ _ _ I1 (q _ hn)) fun ws s2 ⟨ps,H2,I2,rel,e,kvs,ep,lk,q2⟩=>?_);subst ep;obtain⟨rs,c,rk⟩:=t5 (P:=X.prog) (w:=X.w) rel;obtain⟨z,hd,vs0,r0,dd⟩:=zj I2.bI e;cases r0;refine⟨rs,c,dd,fun h' dd' hs=>⟨.ref s.heap.objs.size,_,?_,rfl,q2⟩⟩;have hz:(kG [] kvs).length≤sizeLine:=by
  have h1:=lP kvs [];rw[R3] at h1;rw[Q4];lia
 have he:∃q,h'.get? s.heap.objs.size=some q:=let⟨q,_,_,hq,_⟩:=dd';⟨q,hq⟩;exact rO I2 (by rw[e];exact True.intro) hs he (AZ hz hd (rk.merge .nil) dd')
end L2
namespace Att
open PySem PySem.W PySem.Calls PyProof.Rows
theorem rj:∀(ns:List Int)(vs:List Value),WellAll P h vs (ns.map WData.int)->IntsAre vs ns:=by
 intro ns
 induction ns with
 | nil=>
  intro vs w;rw[Sv] at w;cases w;exact .nil
 | cons n ns ih=>
  intro vs w;rw[Qt] at w;cases w with
  | cons a b=>
   cases a;exact .cons _ _ (ih _ b)
theorem CA{l:OpenLaw}{n:Nat}(hn:l.most=some n){P:Params}{h:Heap}{args:List WData}{vals:List Value}
  (hpre:l.row.toRowW.claim.pre args=true) (hwl:WellAll P h vals args):
  ∃a vs ns,vals=[Value.ref a]∧args=[WData.list (ns.map WData.int)]∧h.get? a=some {cls:=.type "list",data:=.seq vs.toArray}∧IntsAre vs ns∧ns.length≤n:=by
 have hsh:WShape.hasAll [] args [.list .int]=true:=(pre_splitW hpre).1;have hc:l.pre.holds [] {args:=args}=true:=(pre_splitW hpre).2;obtain⟨d,r,rfl,h1,h2⟩:=hasAllW_cons hsh;obtain rfl:=hasAllW_nil h2;obtain⟨xs,rfl,h3⟩:=hasW_list h1;obtain⟨ns,rfl⟩:=items_int h3;have hlen:ns.length≤n:=by
  unfold OpenLaw.pre at hc;have h4:(WTm.not (.lt (.lit (.int (n:Int))) (.len (.arg 0)))).holds [] {args:=[.list (ns.map .int)]}=true:=by
   have h4:=(holds_andW hc).1;rw[hn] at h4;exact h4
  have h5:=condW_of h4 (w_not (w_lt w_lit (w_len_list (w_arg rfl))));rw[Qk] at h5;refine Nat.le_of_not_lt fun q=>?_;have q':(n:Int) < ((ns.length:Nat):Int):=by lia
  first
   |(rw[Q8 q'] at h5;exact absurd h5 (by decide))
   |(simp at h5;lia)
 cases hwl with
 | cons w1 w2=>
  cases w2;cases w1 with
  | list ho hall=>exact⟨_,_,ns,rfl,rfl,ho,rj ns _ hall,hlen⟩
theorem CH(l:OpenLaw)(args:List WData):l.row.toRowW.claim.post args (.bool true) args=true:=
 postW_of (r:=l.row.toRowW) (X:=(true==true))
  (show WShape.has [] (.bool true) .bool=true by first | rfl | decide | simp[WShape.has,WShape.arms,WShape.armsAll])
  (show(WTm.eq .res (.lit (.bool true))).value [] {args:=args,res:=some (.bool true),after:=args}=some (.bool (true==true)) from w_eq_bool (w_res rfl) w_lit) rfl
theorem zy{l:OpenLaw}{n:Nat}{q:Program}{loose:List Str}{XP:(Str->Option Value)->Heap->Prop}{YP:World->Heap->Prop}{d:DefRec}
  (hn:l.most=some n) (hdf:d.params.defaults=[])
  (call:∀(w:World)(s₀ s₁:Shared)(mg mb:Str->Option Value)(fa:Addr)(o:Obj)(pm cd doc:Value)(a:Addr)(vs:List Value)(ns:List Int),
   Ground q loose [] XP w s₀ mg mb s₁.heap->YP w s₁.heap->
   s₁.heap.get? fa=some o->o.data=.func (docDef d.name d.params d.body d.scope pm cd doc)->s₁.heap.CodeRec cd d.name->mg d.name=some (.ref fa)->
   s₁.heap.get? a=some {cls:=.type "list",data:=.seq vs.toArray}->IntsAre vs ns->ns.length≤n->s₁.gens=#[]->
   codeAny (model l.prog w) callerA (.call (.ref fa) ⟨[.ref a],[]⟩) (fun r s'=>r=.ok (.ret (.bool true))∧OldK s₁.heap s'.heap∧s'.os=s₁.os∧AllBare s'.gens) s₁):
  WalkO q loose XP YP l.row.toRowW d [] (fun f vs=>PySem.call f vs):=by
 intro w s₀ s₁ mg mb G Y fa o pm cd doc dV kV ho hd hcd hD hmg hg args vals as hpre hlay hrd hwl hlo;obtain rfl:dV=.none:=Dflts.none hD hdf;obtain rfl:kV=.none:=Dflts.noKw hD;obtain⟨a,vs,ns,rfl,rfl,hobj,hints,hlen⟩:=CA hn hpre hwl;refine enter_call (Ti (call w s₀ s₁ mg mb fa o pm cd doc a vs ns G Y ho (fd_plain hd) hcd hmg hobj hints hlen hg) fun r s' hq=>?_);obtain⟨rfl,h2,h3,h4⟩:=hq;exact⟨.inl ⟨.bool true,.bool true,[],rfl,fun _=>rfl,.bool true,CH l _,fun _=>⟨List.Pairwise.nil,fun _ hm=>(nomatch hm)⟩⟩,h2,h3,h4⟩
section
variable {prog:Program} {w:World} {A:Around} {E:Value->Shared->Prop} {s:Shared} {K:Frag}
end
end Att
namespace L2
open PySem PySem.Spec PyProof.Rows
theorem iT:∀{vs:List Value} {ns:List Int},IntsAre vs ns->Vals (ns.map V.int) vs
 | _,_,.nil=>.nil
 | _,_,.cons n t h=>.cons ⟨t,rfl⟩ (iT h)
def NY(H:Hp):Prop:=∀b,H b=none∨∃o xs,H b=some (.BX o (.lst xs))
theorem Fg{P:Program}{w:World}{K:FR}{mg mb:Str->Option Value}{CX:IT}{k:Nat}{fa a:Addr}{fd:FuncData}{x:Str}{sp:Sp}{s₁:Shared}{vs:List Value}{ns:List Int}
  (KX:K.In s₁.heap) (hns:s₁.heap.Ns mainGlobals mg) (hb:s₁.heap.Ns builtinsNs mb) (hbb:∀x:Str,x≠"__name__"->mb x=bootBuiltins x) (hlim:s₁.heap.NoLimit) (hg:s₁.gens=#[])
  (ha:s₁.heap.get? a=some {cls:=.type "list",data:=.seq vs.toArray}) (hi:IntsAre vs ns) (hl:ns.length≤sizeLine) (hr:ip k callerA)
  (F:∀base:Heap,K.In base->base.Ns mainGlobals mg->bB P w K mg base CX k fa fd [x] sp) (hbind:∀(s:Shared)(u:Value),BindsTo s fd ⟨[u],[]⟩ [(x,u)])
  (hsp:∀H:Hp,NY H->gH K H a (ns.map V.int)->sp [.ref a] H (fun v _=>v=.bl true) fun _ _ _=>False)
  (hCX:∀H e s',CX [] H s₁ (fun _ _ _=>False) e s'->False):
  codeAny (model P w) callerA (.call (.ref fa) ⟨[.ref a],[]⟩) (fun r s'=>r=.ok (.ret (.bool true))∧OldK s₁.heap s'.heap∧s'.os=s₁.os∧AllBare s'.gens) s₁:=by
 have rv:=iT hi;have lenV:=hi.length;have core:∀H:Hp,NY H->gH K H a (ns.map V.int)->lL P w H s₁.heap->(∀b,H b≠none->b=a)->(H a≠none->K.lookup a=none)->
   codeAny (model P w) callerA (.call (.ref fa) ⟨[.ref a],[]⟩) (fun r s'=>r=.ok (.ret (.bool true))∧OldK s₁.heap s'.heap∧s'.os=s₁.os∧AllBare s'.gens) s₁:=by
  intro H hO hS bI hA hK;have base_of:∀{b:Addr} {o:Obj},s₁.heap.get? b=some o->H b=none->(xB s₁.heap H).get? b=some o:=fun e n=>Fo e n;have noA:∀{b:Addr} {o:Obj} {es:Array DictEntry} {ep:Nat},s₁.heap.get? b=some o->o.data=.dict es ep->H b=none:=fun {b o es ep} e d=>by
   cases q:H b with
   | none=>rfl
   | some u=>
    have e':b=a:=hA b (by rw[q];simp);subst e';rw[ha] at e;cases e;have d':Data.seq vs.toArray _=Data.dict es ep:=d;cases d'
  have nsK:∀{b:Addr} {m:Str->Option Value},s₁.heap.Ns b m->(xB s₁.heap H).Ns b m:=fun {b m} ⟨o,es,ep,e,d,r⟩=>⟨o,es,ep,base_of e (noA e d),d,r⟩;have hKb:K.In (xB s₁.heap H):=fun b o e=>base_of (KX b o e) (by
   cases q:H b with
   | none=>rfl
   | some u=>
    have e':b=a:=hA b (by rw[q];simp);subst e';rw[hK (by rw[q];simp)] at e;cases e)
  have hM:Mod K mg (xB s₁.heap H):=⟨hKb,nsK hns,⟨mb,nsK hb,hbb⟩,let⟨mc,h1,h2⟩:=hlim;⟨mc,nsK h1,h2⟩⟩;have e0:IQ P w K mg (xB s₁.heap H) callerA [] s₁ H:=⟨rfl,hM,fun b o e=>HB e,Nat.le_of_eq (C7 _ _),trivial,fun b hb=>absurd (show b∈([]:List Addr) from hb) (by simp),bI,.of_eq hg⟩;refine Ti ((F _ hKb (nsK hns)).run callerA [] s₁ H ⟨[.ref a],[]⟩ [.ref a] [.ref a] _ _ hr e0 (hbind s₁ (.ref a)) (.cons rfl .nil) (hsp H hO hS)) fun r s' h=>?_;cases r with
  | error e=>exact(hCX H e s' h).elim
  | ok fl=>
   cases fl with
   | next=>exact False.elim h
   | brk=>exact False.elim h
   | cont=>exact False.elim h
   | ret u=>
    obtain⟨v,H',os,bare,un,hok',r',q⟩:=h;have q':v=.bl true:=q;subst q';obtain rfl:u=Value.bool true:=r';refine⟨rfl,OldK.of_keep fun b o e=>?_,os,bare⟩;cases q:H b with
    | none=>exact un.keep b o e q (by intro z;exact absurd (show b∈([]:List Addr) from z) (by simp)) (by simp)
    | some u=>
     rcases hO b with z |⟨ob,xs,z⟩
     ·rw[q] at z;cases z
     ·have z2:=un.uT b ob _ z;obtain⟨e1,_⟩:=bI b _ z;obtain⟨e2,_⟩:=hok' b _ z2;rw[e] at e1;cases e1;exact e2
 cases hk:K.lookup a with
 | some o=>
  have e:=KX a o hk;rw[ha] at e;cases e;refine core (fun _=>none) (fun _=>.inl rfl) (.inr ⟨_,vs.toArray,_,hk,rfl,rfl,rfl,by rw[QA,lenV];exact hl,by simpa using rv⟩) (fun b u z=>by have z':(none:Option HO)=some u:=z;cases z') (fun b z=>absurd rfl z) fun z=>absurd rfl z
 | none=>
  refine core (fun b=>if b=a then some (.BX {cls:=.type "list",data:=.seq vs.toArray} (.lst (ns.map V.int))) else none) (fun b=>?_) (.inl (.inr ⟨{cls:=.type "list",data:=.seq vs.toArray},Qp rfl⟩)) (fun b u z=>?_) (fun b z=>?_) fun _=>hk
  ·by_cases hb:b=a
   ·exact .inr ⟨_,_,Qp hb⟩
   ·exact .inl (Qu hb)
  ·by_cases hb:b=a
   ·have z':=(Qp hb).symm.trans z;cases z';subst hb;exact⟨ha,by rw[Qk];exact hl,vs,_,rv,ha⟩
   ·have z':=(Qu hb).symm.trans z;cases z'
  ·by_cases hb:b=a
   ·exact hb
   ·exact absurd (Qu hb) z
noncomputable def nZ(s:Stmt):Arguments:=match s with
 | .FunctionDef _ a _ _ _ _ _ _ _ _=>a
 | _=>{posonlyargs:=[],args:=[],vararg:=none,kwonlyargs:=[],kw_defaults:=[],kwarg:=none,defaults:=[]}
noncomputable def jE(s:Stmt):List Stmt:=match s with
 | .FunctionDef _ _ b _ _ _ _ _ _ _=>b
 | _=>[]
noncomputable def au(s:Stmt):Scope:=match s with
 | .FunctionDef _ _ _ _ _ _ sc _ _ _=>sc
 | _=>{kind:=.function,names:=[],isGenerator:=false,isCoroutine:=false}
abbrev fE:IT:=fun _ _ _ _ _ _=>False
abbrev E0:XK:=fun _ _ _=>False
theorem Nd:Passes fE X E0:=fun _ _ _ _ _ _ _ h=>h.elim
structure fX(K:FR)(x qual:Str)(st:Stmt)(f:Addr)(fd:FuncData):Prop where
 ex:∃(oc:Value)(od:Option Addr)(kV doc pm:Value)(an:Option Addr)(cdv ct:Value)(osl:Array (Option Value)),
  fd=PySem.W.fnOf x qual (nZ st) (jE st) (au st) .none kV doc pm an cdv ct∧K.lookup f=some ⟨oc,od,.func fd,osl⟩∧PySem.W.codeIn K cdv qual=true
 kp:PySem.W.keepIn K (.ref f)=true
section
variable {P:Program} {w:World} {K:FR} {mg:Str->Option Value} {base:Heap}
theorem fX.ok{x qual:Str}{st:Stmt}{f:Addr}{fd:FuncData}{N ps:List Str}{k:Nat}{sp:Sp}(F:fX K x qual st f fd)(S:aB N ps (au st))(len:∀vs H Q E,sp vs H Q E->vs.length=ps.length)
  (hbody:∀(cdv:Value)(A:Around)(outer:List Env)(s:Shared)(H:Hp)(vs:List V)(Q:VK)(E:XK),ip k (A.deeper (envOfC qual (au st) s.heap.objs.size f cdv))->sp vs H Q E->
   ∃t,zE (Ba fE P w K mg base N qual (au st) f cdv A outer s H E).Nj (jE st) t∧t {nx:=fun _ H'=>Q .cN H',rt:=Q} (start N vs) H):bB P w K mg base fE (k+1) f fd ps sp:=by
 obtain⟨oc,od,kV,doc,pm,an,cdv,ct,osl,rfl,lk,hcd⟩:=F.ex;refine Nv lk hcd S len fun A outer s H vs Q E hr hsp=>?_;obtain⟨t,h,q⟩:=hbody cdv A outer s H vs Q E hr hsp;exact⟨t,h.Nj,q⟩
theorem fX.binds{x qual:Str}{st:Stmt}{f:Addr}{fd:FuncData}{ps:List Str}(F:fX K x qual st f fd)
  (h:∀(kV doc pm:Value)(an:Option Addr)(cdv ct:Value)(us:List Value),us.length=ps.length->bindArgs (PySem.W.fnOf x qual (nZ st) (jE st) (au st) .none kV doc pm an cdv ct) ⟨us,[]⟩=pure (ps.zip us)):Binds K fd ps []:=by
 obtain⟨oc,od,kV,doc,pm,an,cdv,ct,osl,rfl,lk,hcd⟩:=F.ex;exact .all (h kV doc pm an cdv ct)
end
theorem DA:fe X (.builtin "len") (fun xs H Q=>∃a kvs,xs=[V.ref a]∧H a=some (.dK kvs)∧Q (.int kvs.length) H):=by
 intro pins s σ H xs us Q I r h;obtain⟨a,kvs,rfl,ha,q⟩:=h;obtain⟨u,rfl,ru⟩:=vals1 r;cases ru;exact NC I (.inl ha) fun t s' I'=>⟨.int kvs.length,H,I',⟨t,rfl⟩,q⟩
theorem Lr{A B:Prop}(h:B):if false=true then A else B:=by
 rw[Qu Rg];exact h
theorem Lq{A B:Prop}(h:A):if true=true then A else B:=by
 rw[Qp rfl];exact h
section
variable {κ:Type} [DecidableEq κ]
end
theorem lL.off(ok:lL P w H h)(hC:H C=none)(k:∀b u,b≠C->h.get? b=some u->h'.get? b=some u):lL P w H h':=by
 intro a o e;have ne:a≠C:=by rintro rfl;rw[hC] at e;cases e
 refine(ok a o e).yj (fun b u hb q=>k b u ?_ q) (fun _ x=>x) (fun _ _ x=>x);rcases hb with rfl | hb
 ·exact ne
 ·rintro rfl;rw[hC] at hb;cases hb
noncomputable def iQ(env:Env):List (Str×NameKind)->List (Str×Addr)->List (Str×Addr)
 | [],acc=>acc
 |(n,k)::r,acc=>if(k==NameKind.free)=true then iQ env r ((n,(env.cells.lookup n).getD 0)::acc) else iQ env r acc
theorem jG(h:∀y∈scope.names,y.2=.free->∃c,env.cells.lookup y.1=some c):closureFor scope env=pure (iQ env scope.names []):=by
 have key:∀(names:List (Str×NameKind)) (acc:List (Str×Addr)),(∀y∈names,y.2=.free->∃c,env.cells.lookup y.1=some c)->
   (forIn names acc (fun(x:Str×NameKind)(r:List (Str×Addr))=>match x with
    |(name,kind)=>if(kind==NameKind.free)=true then do let a←cellOf env name;pure (ForInStep.yield ((name,a)::r)) else pure (ForInStep.yield r)):Sem (List (Str×Addr)))=pure (iQ env names acc):=by
  intro names
  induction names with
  | nil=>intro acc _;rfl
  | cons y r ih=>
   intro acc hy;obtain⟨n,k⟩:=y;have hr:=fun a=>ih a fun z hz=>hy z (Qs _ hz);rw[U7];unfold iQ
   by_cases hk:(k==NameKind.free)=true
   ·have hk':k=.free:=by simpa using hk
    obtain⟨c,hc⟩:=hy (n,k) Qv hk';have e:cellOf env n=pure c:=by unfold cellOf;rw[hc]
    simp only[hk,Tr,e,hc,Option.getD_some];exact hr _
   ·simp only[hk,Sf];exact hr _
 have k:=key scope.names [] h;unfold closureFor;dsimp only;rw[k];rfl
theorem p4:∀(names:List (Str×NameKind)) (acc:List (Str×Addr)),(∀y∈names,y.2=.free->∃c,env.cells.lookup y.1=some c)->
  (∀d,acc.lookup x=some d->env.cells.lookup x=some d)->(iQ env names acc).lookup x=some c->env.cells.lookup x=some c
 | [],acc,_,ha,h=>ha c h
 |(n,k)::r,acc,hy,ha,h=>by
  unfold iQ at h;have hr:=fun z hz=>hy z (Qs _ hz)
  by_cases hk:(k==NameKind.free)=true
  ·rw[Qp hk] at h;refine p4 r _ hr (fun d hd=>?_) h;have hk':k=.free:=by simpa using hk
   obtain⟨c',hc⟩:=hy (n,k) Qv hk';rw[Rf] at hd;cases hx:x==n with
   | true=>
    rw[hx] at hd;have e:x=n:=by simpa using hx
    rw[e,hc];rw[hc] at hd;exact hd
   | false=>
    rw[hx] at hd;exact ha d hd
  ·rw[Qu hk] at h;exact p4 r _ hr ha h
theorem tY:∀(names:List (Str×NameKind)) (acc:List (Str×Addr)),(∃c,acc.lookup x=some c)->∃c,(iQ env names acc).lookup x=some c
 | [],_,h=>h
 |(n,k)::r,acc,h=>by
  unfold iQ
  by_cases hk:(k==NameKind.free)=true
  ·rw[Qp hk];refine tY r _ ?_;rw[Rf];cases hx:x==n with
   | true=>exact⟨_,rfl⟩
   | false=>exact h
  ·rw[Qu hk];exact tY r _ h
theorem oj:∀(names:List (Str×NameKind)) (acc:List (Str×Addr)),(x,NameKind.free)∈names->∃c,(iQ env names acc).lookup x=some c
 | [],_,h=>by cases h
 |(n,k)::r,acc,h=>by
  unfold iQ;rcases QK.mp h with e | h'
  ·injection e with e1 e2
   subst e1 e2;rw[Qp (by rfl)];refine tY r _ ⟨(env.cells.lookup x).getD 0,?_⟩;rw[Rf,Sg]
  ·by_cases hk:(k==NameKind.free)=true
   ·rw[Qp hk];exact oj r _ h'
   ·rw[Qu hk];exact oj r _ h'
theorem jt{env:Env}:∀{names:List (Str×NameKind)} {x:Str} {j:NameKind},
  (names.map fun(n,k)=>if(k==NameKind.free&&env.scope.kind==.function&&env.kindOf n==some .cell) then(n,NameKind.cell) else(n,k)).lookup x=some j->
  ∃k,names.lookup x=some k∧(j=k∨(k=.free∧j=.cell))
 | [],_,_,h=>by simp at h
 |(n,k)::r,x,j,h=>by
  have h':List.lookup x ((if(k==NameKind.free&&env.scope.kind==.function&&env.kindOf n==some .cell)=true then(n,NameKind.cell) else(n,k))::_)=some j:=h;rw[Rf];cases hx:x==n with
  | true=>
   refine⟨k,rfl,?_⟩
   by_cases hc:(k==NameKind.free&&env.scope.kind==.function&&env.kindOf n==some .cell)=true
   ·rw[Qp hc,Rf,hx] at h';simp only[QJ,Th] at hc;exact .inr ⟨hc.1.1,(Option.some.inj h').symm⟩
   ·rw[Qu hc,Rf,hx] at h';exact .inl (Option.some.inj h').symm
  | false=>
   by_cases hc:(k==NameKind.free&&env.scope.kind==.function&&env.kindOf n==some .cell)=true
   ·rw[Qp hc,Rf,hx] at h';exact jt h'
   ·rw[Qu hc,Rf,hx] at h';exact jt h'
theorem ju{env:Env}:∀{names:List (Str×NameKind)} {x:Str},names.lookup x=some .free->
  (names.map fun(n,k)=>if(k==NameKind.free&&env.scope.kind==.function&&env.kindOf n==some .cell) then(n,NameKind.cell) else(n,k)).lookup x=some .cell∨
  (names.map fun(n,k)=>if(k==NameKind.free&&env.scope.kind==.function&&env.kindOf n==some .cell) then(n,NameKind.cell) else(n,k)).lookup x=some .free
 | [],_,h=>by simp at h
 |(n,k)::r,x,h=>by
  rw[Qt];show List.lookup x ((if(k==NameKind.free&&env.scope.kind==.function&&env.kindOf n==some .cell)=true then(n,NameKind.cell) else(n,k))::_)=_∨List.lookup x ((if(k==NameKind.free&&env.scope.kind==.function&&env.kindOf n==some .cell)=true then(n,NameKind.cell) else(n,k))::_)=_;rw[Rf] at h;cases hx:x==n with
  | true=>
   rw[hx] at h;have hk:k=.free:=Option.some.inj h
   by_cases hc:(k==NameKind.free&&env.scope.kind==.function&&env.kindOf n==some .cell)=true
   ·rw[Qp hc,Rf,hx];exact .inl rfl
   ·rw[Qu hc,Rf,hx,hk];exact .inr rfl
  | false=>
   rw[hx] at h
   by_cases hc:(k==NameKind.free&&env.scope.kind==.function&&env.kindOf n==some .cell)=true
   ·rw[Qp hc,Rf,hx];exact ju h
   ·rw[Qu hc,Rf,hx];exact ju h
abbrev gG(X:Cx)(N':List Str)(scope:Scope)(C:Addr)(s₃:Shared)(H₃:Hp)(fp:List Addr)(pl:List (Addr×Obj)):Cx:=
 {X with N:=N',s₀:=s₃,H₀:=H₃,env:=compEnvC scope (iQ X.env scope.names []) C X.env,outer:=X.stack,ex:=fp,fn:=fun _=>false,calm:=true,pn:=X.pn++pl,xe:=fun _ _=>False}
structure bA(X:Cx)(N':List Str)(caps:List (Option Nat))(scope:Scope):Prop where
 kind:scope.kind=.function
 AE:∀y∈scope.names,y.2≠.cell
 names:∀y∈scope.names,y.2=.local->scope.names.lookup y.1=some .local
 FW:∀y∈scope.names,y.2=.free->X.env.kindOf y.1=some .cell∨X.env.kindOf y.1=some .free
 len:caps.length=N'.length
 Qe:∀(j i:Nat)(x:Str),caps[j]?=some (some i)->N'[j]?=some x->X.N[i]?=some x∧scope.names.lookup x=some .free
 nd:N'.Nodup
noncomputable def p5(caps:List (Option Nat))(σ:St):St:=caps.map fun o=>o.bind fun i=>(σ[i]?).join
theorem bA.has(S:bA X N' caps scope)(ok:X.Ok):∀y∈scope.names,y.2=.free->∃c,X.env.cells.lookup y.1=some c:=fun y hy e=>ok.has y.1 (S.FW y hy e)
theorem bA.look(S:bA X N' caps scope)(ok:X.Ok)(h:(iQ X.env scope.names []).lookup x=some c):X.env.cells.lookup x=some c:=
 p4 scope.names [] (S.has ok) (fun _ z=>by simp at z) h
theorem Inv.block(S:bA X N' caps scope)(I:Inv X pins σ H s₃)(hc:X.calm=true)(hf:∀b∈fp,ie X pins H b)(hlt:∀b∈fp,b < s₃.heap.objs.size){h₄:Heap}{t₄:Nat}{m₄:Str->Option Value}
  (hn:h₄.Ns s₃.heap.objs.size m₄) (hk:∀b o,s₃.heap.get? b=some o->h₄.get? b=some o):
  Inv (gG X N' scope s₃.heap.objs.size s₃ H fp pins) [] (p5 caps σ) H {s₃ with heap:=h₄,toks:=t₄}:=by
 have ok:=I.ok;have fresh:∀b o,s₃.heap.get? b=some o->b≠s₃.heap.objs.size:=fun b o e=>QF (Qw e);have cellOk:∀x c,(iQ X.env scope.names []).lookup x=some c->∃v,s₃.heap.IsCell c v:=fun x c e=>I.cell x c (S.look ok e);refine⟨⟨ok.mod,?_,ok.glob,ok.blt,Qq _,?_,?_,?_,fun _=>ok.hd hc,ok.frames,.inl rfl,?_,I.bs,?_,?_,?_,I.stack,I.BB⟩,rfl,I.bare,Un.kept hk,?_,?_,I.bI.fresh (Qq _),?_,?_,I.bI.kept hk,?_⟩
 ·show(relabel scope X.env).kind=.function;exact S.kind
 ·intro x y c h1 h2;exact ok.inj x y c (S.look ok h1) (S.look ok h2)
 ·intro x hx;have hx':(relabel scope X.env).names.lookup x=some .cell∨(relabel scope X.env).names.lookup x=some .free:=hx;have key:∀j,(relabel scope X.env).names.lookup x=some j->j=.cell∨j=.free->∃c,(iQ X.env scope.names []).lookup x=some c:=by
   intro j hj hjk;obtain⟨k,hk1,hk2⟩:=jt hj;have hm:=RY hk1;have hkf:k=.free:=by
    rcases hk2 with rfl |⟨e,_⟩
    ·rcases hjk with rfl | e
     ·exact absurd rfl (S.AE _ hm)
     ·exact e
    ·exact e
   subst hkf;exact oj scope.names [] hm
  rcases hx' with h | h
  ·exact key _ h (.inl rfl)
  ·exact key _ h (.inr rfl)
 ·intro x c h _;exact absurd (show false=true from h) (by decide)
 ·intro b hb;refine⟨QF (hlt b hb),fun x c h=>(hf b hb).2.2.2.2.1 x c (S.look ok h)⟩
 ·exact QB ok.Jm I.sz
 ·intro b o e hb;rcases(hf b hb).2.2.2.1 with z | z
  ·exact ok.E2 b o e z
  ·exact absurd (QW (Qw e) ok.Jm) (Vc.mpr z)
 ·intro b hb z;rcases QK.mp (I.oR b z) with e | e
  ·exact(hf b hb).2.1 e
  ·exact(hf b hb).2.2.1 e
 ·refine⟨m₄,hn,fun j x v e1 e2 e3=>?_⟩;have e2':(caps.map fun o=>o.bind fun i=>(σ[i]?).join)[j]?=some (some v):=e2;rw[Qy] at e2';cases hcj:caps[j]? with
  | none=>rw[hcj] at e2';cases e2'
  | some oi=>
   rw[hcj] at e2';have e2'':(oi.bind fun i=>(σ[i]?).join)=some v:=Option.some.inj e2';cases oi with
   | none=>cases e2''
   | some i=>
    have hσ:(σ[i]?).join=some v:=e2'';have hσ':σ[i]?=some (some v):=by
     cases hs:σ[i]? with
     | none=>rw[hs] at hσ;cases hσ
     | some w=>rw[hs] at hσ;rw[show w=some v from hσ]
    obtain⟨hX,hfr⟩:=S.Qe j i x hcj e1;obtain⟨m,_,hl⟩:=I.loc;have hcgt:=S.FW _ (RY hfr) rfl;have hvis:Mh X.env.scope x:=by
     rcases hcgt with z | z
     ·exact .inr (.inl z)
     ·exact .inr (.inr z)
    obtain⟨u,ru,lk⟩:=hl i x v hX hσ' hvis;refine⟨u,ru,.inr ⟨?_,?_⟩⟩
    ·exact ju hfr
    ·obtain⟨c,hcc⟩:=oj (env:=X.env) scope.names [] (RY hfr);refine⟨c,hcc,?_⟩;rcases lk with⟨z,_⟩ |⟨_,c',hc',hcell⟩
     ·have z':X.env.kindOf x=some .local:=z;rcases hcgt with q | q
      ·rw[z'] at q;cases q
      ·rw[z'] at q;cases q
     ·have:=S.look I.ok hcc;rw[this] at hc';cases hc';obtain⟨o,ho,hd⟩:=hcell;exact⟨o,hk _ _ ho,hd⟩
 ·intro x c h;obtain⟨v,o,ho,hd⟩:=cellOk x c h;exact⟨v,o,hk _ _ ho,hd⟩
 ·intro x c h;exact I.kJ x c (S.look ok h)
 ·intro p hp;have hp':p∈X.pn++pins:=by
   rcases QS.mp hp with z | z
   ·exact z
   ·cases z
  obtain⟨e,n,ne,nf,d⟩:=I.pin p hp';refine⟨hk _ _ e,n,fresh _ _ e,fun z=>?_,d⟩;rcases QK.mp (I.oR p.1 z) with q | q
  ·exact ne q
  ·exact nf q
 ·show(caps.map _).length=N'.length;rw[Qk];exact S.len
theorem Inv.rB(S:bA X N' caps scope)(I:Inv X pins σ H s₃)(hf:∀b∈fp,ie X pins H b)(J:Inv (gG X N' scope s₃.heap.objs.size s₃ H fp pins) [] τ H' s')(hs:∀b u,b≠s₃.heap.objs.size->s'.heap.get? b=some u->h''.get? b=some u):Inv X pins σ H' {s' with heap:=h''}:=by
 have hC:H' s₃.heap.objs.size=none:=J.free;have u:Un (DM X.stack) fp H H' s₃.heap h'':=by
  have b:=J.base;have ne:∀x o,s₃.heap.get? x=some o->x≠s₃.heap.objs.size:=fun x o e=>QF (Qw e);refine⟨fun x o e n hx hb=>hs _ _ (ne x o e) (b.keep x o e n hx hb),fun x o e n hx hb=>?_,b.free,fun x o e hb=>?_,b.wt,b.uT,b.wx⟩
  ·obtain⟨sl,q⟩:=b.slot x o e n hx hb;exact⟨sl,hs _ _ (ne x o e) q⟩
  ·obtain⟨o',q⟩:=b.there x o e hb;exact⟨o',hs _ _ (ne x o e) q⟩
 exact I.call' (s':={s' with heap:=h''}) (ch:=fp) J.os u (J.bI.off hC hs) J.bare fun b hb=>⟨(hf b hb).2.2.2.1,(hf b hb).2.1,(hf b hb).2.2.2.2.1,(hf b hb).2.2.2.2.2⟩
def Gp(X:Cx)(ifs:List Expr)(t:TT):Prop:=
 ∀(pins:List (Addr×Obj)) (s:Shared) (σ:St) (H:Hp) (Q:Bool->Hp->Prop),Inv X pins σ H s->t σ H Q->
  wpAny (model X.prog X.w) X.A (forIn ifs true fun c r=>if r=true then do let ok←isTrue c X.env (eval c X.env);pure (ForInStep.yield ok) else pure (ForInStep.yield r)) (TP X pins σ Q) X.xe s
def bC:TT:=fun _ H Q=>Q true H
theorem Hm:Gp X [] bC:=fun pins s σ H Q I h=>wpAny_tests_nil ⟨H,I,h⟩
theorem Hl(h:PT X c t):Gp X [c] t:=fun pins s σ H Q I q=>wpAny_tests_one (h pins s σ H Q I q)
def N4(J:It)(g:TG)(tc:TT)(te:TE)(l:Addr)(Q:VK)(τ0:St)(H0:Hp):Prop:=
 ∃W:Nat->Nat->St->Hp->Prop,(∃m,W 0 m τ0 H0)∧∀i m τ H2,W i m τ H2->
  (J.stop i H2∧Q (.ref l) H2)∨(J.go i H2∧∃N:St->Hp->Prop,(∀τ' H',N τ' H'->∃m',m' < m∧W (i+1) m' τ' H')∧∀x H',J.IV i H2 x H'->g x τ H' fun τ2 H3=>
   tc τ2 H3 fun b H4=>if b=true then te τ2 H4 fun y H5=>∃xs,H5 l=some (.lst xs)∧xs.length < sizeLine∧N τ2 (upd H5 l (.lst (xs++[y]))) else N τ2 H4)
def D4(caps:List (Option Nat))(wi:TI)(g:TG)(tc:TT)(te:TE):TE:=fun σ H Q=>wi σ H fun J H1=>∀l,H1 l=none->N4 J g tc te l Q (p5 caps σ) (upd H1 l (.lst []))
theorem Mx(h:wpAny M A t Q (fun _ _=>False) s):wpAny M A t Q E s:=Rm h (fun _ _ q=>q) fun _ _ f=>f.elim
theorem Dt(S:bA X N' caps scope)(hc:X.calm=true)(hg:∀C s₃ H₃ fp pl,PG (gG X N' scope C s₃ H₃ fp pl) tg g)(hif:∀C s₃ H₃ fp pl,Gp (gG X N' scope C s₃ H₃ fp pl) ifs tc)
  (he:∀C s₃ H₃ fp pl,PE (gG X N' scope C s₃ H₃ fp pl) elt te) {pins:List (Addr×Obj)} {σ:St} {H3:Hp} {s3:Shared} {h₁:Heap} {t₁:Nat} {m₁:Str->Option Value} {it l:Addr} {fp:List Addr} {tn:Nat->Heap->Prop} {J:It}
  (I3:Inv X pins σ H3 s3) (T:Turn X.prog X.w X.K tg J fp it tn) (st3:tn 0 h₁) (hf3:∀b∈fp,ie X pins H3 b) (hlt3:∀b∈fp,b < s3.heap.objs.size) (hns₁:h₁.Ns s3.heap.objs.size m₁) (keep3:∀b o,s3.heap.get? b=some o->h₁.get? b=some o)
  {Q:VK} {RR:Value->Addr->Result->Shared->Prop} {W:Nat->Nat->St->Hp->Prop} {m0:Nat} (w0:W 0 m0 (p5 caps σ) H3) (turn:∀i m τ H2,W i m τ H2->
   (J.stop i H2∧Q (.ref l) H2)∨(J.go i H2∧∃N:St->Hp->Prop,(∀τ' H',N τ' H'->∃m',m' < m∧W (i+1) m' τ' H')∧∀x H',J.IV i H2 x H'->g x τ H' fun τ2 H3=>
    tc τ2 H3 fun b H4=>if b=true then te τ2 H4 fun y H5=>∃xs,H5 l=some (.lst xs)∧xs.length < sizeLine∧N τ2 (upd H5 l (.lst (xs++[y]))) else N τ2 H4))
  (hRR:∀(l C:Addr)(H':Hp)(s':Shared),H' C=none->C≠X.env.locals->X.s₀.heap.objs.size≤C->(∀x c,X.env.cells.lookup x=some c->c≠C)->(∀p∈X.pn++pins,p.1≠C)->(∃m,s'.heap.Ns C m)->Inv X pins σ H' s'->
   (∀h'':Heap,(∀b u,b≠C->s'.heap.get? b=some u->h''.get? b=some u)->Inv X pins σ H' {s' with heap:=h''})->Q (.ref l) H'->RR (.ref l) C (.ok .next) s'):
  codeAny (model X.prog X.w) X.A (.compStart (.ListComp elt [⟨tg,iter,ifs,0⟩] scope pos) 0 (.ref it) (.ref l) (compEnvC scope (iQ X.env scope.names []) s3.heap.objs.size X.env))
   (RR (.ref l) s3.heap.objs.size) {s3 with heap:=h₁,toks:=t₁}:=by
 have J0:Inv (gG X N' scope s3.heap.objs.size s3 H3 fp pins) [] (p5 caps σ) H3 {s3 with heap:=h₁,toks:=t₁}:=Inv.block S I3 hc hf3 hlt3 hns₁ keep3;have fpB:∀{H':Hp},(∀b∈fp,H' b=none)->∀b∈fp,ie (gG X N' scope s3.heap.objs.size s3 H3 fp pins) [] H' b:=fun {H'} hn b hb=>by
  obtain⟨f0,f1,f2,f3,f4,f5⟩:=hf3 b hb;refine⟨hn b hb,QF (hlt3 b hb),fun z=>?_,.inl hb,fun x c e=>f4 x c (S.look I3.ok e),fun p hp=>?_⟩
  ·rcases QK.mp (I3.oR b z) with q | q
   ·exact f1 q
   ·exact f2 q
  ·rcases QS.mp hp with q | q
   ·exact f5 p q
   ·cases q
 have fin:∀{τ:St} {H':Hp} {s':Shared},Inv (gG X N' scope s3.heap.objs.size s3 H3 fp pins) [] τ H' s'->Q (.ref l) H'->RR (.ref l) s3.heap.objs.size (.ok .next) s':=fun {τ H' s'} J q=>by
  refine hRR _ _ H' s' J.free ?_ ?_ ?_ ?_ ?_ ?_ ?_ q
  ·exact(QF I3.lt).symm
  ·exact I3.sz
  ·intro x c e z;obtain⟨v,o,ho,_⟩:=I3.cell x c e;exact QF (Qw ho) z
  ·intro p hp z;obtain⟨e,_⟩:=I3.pin p hp;exact QF (Qw e) z
  ·obtain⟨m,hm,_⟩:=J.loc;exact⟨m,hm⟩
  ·have:=Inv.rB S I3 hf3 J (h'':=s'.heap) fun b u _ e=>e;exact this
  ·exact fun h'' hs=>Inv.rB S I3 hf3 J hs
 have loop:codeAny (model X.prog X.w) X.A (.compLoop (.ListComp elt [⟨tg,iter,ifs,0⟩] scope pos) 0 (.ref it) (.ref l) (compEnvC scope (iQ X.env scope.names []) s3.heap.objs.size X.env))
   (RR (.ref l) s3.heap.objs.size) {s3 with heap:=h₁,toks:=t₁}:=by
  refine codeAny_loop rfl (fun n s'=>∃i τ H',Inv (gG X N' scope s3.heap.objs.size s3 H3 fp pins) [] τ H' s'∧tn i s'.heap∧(∀b∈fp,H' b=none)∧W i n τ H') ?_ m0 ⟨0,_,_,J0,st3,fun b hb=>(hf3 b hb).1,w0⟩;rintro n s4 ⟨i,τ,H4,J4,st4,fr4,w4⟩;show wpAny _ X.A ((compTurn (.ListComp elt [⟨tg,iter,ifs,0⟩] scope pos) 0 (.ref it) (.ref l) (compEnvC scope (iQ X.env scope.names []) s3.heap.objs.size X.env)).onRaise (fun x=>do noteFrame x (compEnvC scope (iQ X.env scope.names []) s3.heap.objs.size X.env);theTreesLotGoes x)) _ _ s4;refine wpAny_noted ?_;rw[compTurn_list];rcases turn i n τ H4 w4 with⟨stop,qn⟩ |⟨go,N,hN,step⟩
  ·refine Qj (Sa (Qj (Rm (T.done (gG X N' scope s3.heap.objs.size s3 H3 fp pins) rfl rfl rfl rfl i [] s4 τ H4 _ J4 (fpB fr4) st4 stop) (fun r s5 h5=>?_) fun _ _ e=>e)));obtain⟨hr,J5⟩:=h5;subst hr;exact Qm (fin J5 qn)
  ·refine Qj (Sa (Qj (Rm (T.item (gG X N' scope s3.heap.objs.size s3 H3 fp pins) rfl rfl rfl rfl i [] s4 τ H4 _ J4 (fpB fr4) st4 go) (fun r s5 h5=>?_) fun _ _ e=>e)));obtain⟨u,hr,h5⟩:=h5;subst hr;refine Qj (Rm h5 (fun _ s6 h6=>?_) fun _ _ e=>e);obtain⟨x,H6,J6,r6,y6,st6,fr6⟩:=h6;have J6':=J6.pinned (fpB fr6) (T.obj _ _ st6);refine Qj (Rm (Mx (hg _ _ _ _ _ _ s6 τ H6 x u _ J6' r6 (step x H6 y6))) (fun _ s7 h7=>?_) fun _ _ e=>e);obtain⟨τ7,H7,J7,q7⟩:=h7;have again:∀{τ8:St} {H8:Hp} {s8:Shared},Inv (gG X N' scope s3.heap.objs.size s3 H3 fp pins) ([]++pG fp s6.heap) τ8 H8 s8->N τ8 H8->
     ∃m,m < n∧∃i τ' H',Inv (gG X N' scope s3.heap.objs.size s3 H3 fp pins) [] τ' H' s8∧tn i s8.heap∧(∀b∈fp,H' b=none)∧W i m τ' H':=fun {τ8 H8 s8} J8 n8=>by
    obtain⟨m',hm,w8⟩:=hN τ8 H8 n8;refine⟨m',hm,i+1,τ8,H8,J8.jU,T.keep _ _ _ st6 fun b hb o e=>(J8.pin (b,o) (QH _ (QH _ (gc hb e)))).1,fun b hb=>?_,w8⟩;obtain⟨o,e,d⟩:=T.obj _ _ st6 b hb;exact(J8.pin (b,o) (QH _ (QH _ (gc hb e)))).2.1
   refine Qj (Rm (Mx (hif _ _ _ _ _ _ s7 τ7 H7 _ J7 q7)) (fun ok s8 h8=>?_) fun _ _ e=>e);obtain⟨H8,J8,q8⟩:=h8;cases ok with
   | false=>exact Qm ⟨rfl,again J8 (by simpa using q8)⟩
   | true=>
    have q8':te τ7 H8 fun y H5=>∃xs,H5 l=some (.lst xs)∧xs.length < sizeLine∧N τ7 (upd H5 l (.lst (xs++[y]))):=by simpa using q8
    refine Qj (Qj (Rm (Mx (he _ _ _ _ _ _ s8 τ7 H8 _ J8 q8')) (fun y s9 h9=>?_) fun _ _ e=>e));obtain⟨yv,H9,J9,r9,xs,hx,hz,n9⟩:=h9;refine Qj (Rm (Mx (vF (X:=gG X N' scope s3.heap.objs.size s3 H3 fp pins) _ s9 τ7 H9 (.ref l) [yv] (.ref l) [y] (fun _ H'=>N τ7 H') J9 rfl (.cons r9 .nil) ⟨_,xs,yv,rfl,rfl,hx,hz,n9⟩)) (fun _ s10 h10=>?_) fun _ _ e=>e);obtain⟨_,H10,J10,_,n10⟩:=h10;exact Qm (Qm ⟨rfl,again J10 n10⟩)
 exact codeAny_compStart_list loop (T.self X.A 0 _ _ _ st3 loop)
theorem tV(S:bA X N' caps scope)(hc:X.calm=true)(hg:∀C s₃ H₃ fp pl,PG (gG X N' scope C s₃ H₃ fp pl) tg g)(hif:∀C s₃ H₃ fp pl,Gp (gG X N' scope C s₃ H₃ fp pl) ifs tc)
  (he:∀C s₃ H₃ fp pl,PE (gG X N' scope C s₃ H₃ fp pl) elt te) {pins:List (Addr×Obj)} {σ:St} {H:Hp} {s:Shared} {it:Addr} {fp:List Addr} {tn:Nat->Heap->Prop} {J:It}
  (I:Inv X pins σ H s) (T:Turn X.prog X.w X.K tg J fp it tn) (st:tn 0 s.heap) (hf:∀b∈fp,ie X pins H b) {Q:VK} {RR:Value->Addr->Result->Shared->Prop} {E:Value->Shared->Prop}
  (h:∀l,H l=none->∃W:Nat->Nat->St->Hp->Prop,(∃m,W 0 m (p5 caps σ) (upd H l (.lst [])))∧∀i m τ H2,W i m τ H2->
   (J.stop i H2∧Q (.ref l) H2)∨(J.go i H2∧∃N:St->Hp->Prop,(∀τ' H',N τ' H'->∃m',m' < m∧W (i+1) m' τ' H')∧∀x H',J.IV i H2 x H'->g x τ H' fun τ2 H3=>
    tc τ2 H3 fun b H4=>if b=true then te τ2 H4 fun y H5=>∃xs,H5 l=some (.lst xs)∧xs.length < sizeLine∧N τ2 (upd H5 l (.lst (xs++[y]))) else N τ2 H4))
  (hRR:∀(l C:Addr)(H':Hp)(s':Shared),H' C=none->C≠X.env.locals->X.s₀.heap.objs.size≤C->(∀x c,X.env.cells.lookup x=some c->c≠C)->(∀p∈X.pn++pins,p.1≠C)->(∃m,s'.heap.Ns C m)->Inv X pins σ H' s'->
   (∀h'':Heap,(∀b u,b≠C->s'.heap.get? b=some u->h''.get? b=some u)->Inv X pins σ H' {s' with heap:=h''})->Q (.ref l) H'->RR (.ref l) C (.ok .next) s'):
  wpAny (model X.prog X.w) X.A (newList []) (fun acc s₃=>wpAny (model X.prog X.w) X.A (newFunctionEnv scope X.env.globals (iQ X.env scope.names []) [] X.env.qual none .none (some X.env)) (fun cenv s₄=>
   codeAny (model X.prog X.w) X.A (.compStart (.ListComp elt [⟨tg,iter,ifs,0⟩] scope pos) 0 (.ref it) acc {cenv with scope:=relabel scope X.env}) (RR acc cenv.locals) s₄) E s₃) E s:=by
 obtain⟨W,⟨m0,w0⟩,turn⟩:=h s.heap.objs.size I.fresh;refine Ri (wpAny_newFunctionEnv S.AE (by intro y hy;simp at hy) (fun h₁ hns₁ hsb₁=>?_) S.kind);have I3:Inv X pins σ (upd H s.heap.objs.size (.lst [])) {s with heap:=s.heap.push {cls:=.type "list",data:=.seq ([]:List Value).toArray}}:=I.Lc (t':=s.toks) (its:=[]) (ys:=[]) .nil (Rw _);have hltf:∀b∈fp,b < s.heap.objs.size:=fun b hb=>by
  obtain⟨o,e,_⟩:=T.obj 0 _ st b hb;exact Qw e
 have hf3:∀b∈fp,ie X pins (upd H s.heap.objs.size (.lst [])) b:=fun b hb=>⟨by rw[aP (QF (hltf b hb))];exact(hf b hb).1,(hf b hb).2⟩;have keep3:∀b o,(s.heap.push {cls:=.type "list",data:=.seq ([]:List Value).toArray}).get? b=some o->h₁.get? b=some o:=fun b o e=>hsb₁.extBut b o (QF (Qw e)) (Ql _ e);have st3:tn 0 h₁:=T.keep 0 _ _ st fun b hb o e=>keep3 b o (Ql _ e);have hlt3:∀b∈fp,b < (s.heap.push {cls:=.type "list",data:=.seq ([]:List Value).toArray}).objs.size:=fun b hb=>by
  have:=hltf b hb;rw[QY];exact SH this
 exact Dt (s3:={s with heap:=s.heap.push {cls:=.type "list",data:=.seq ([]:List Value).toArray}}) S hc hg hif he I3 T st3 hf3 hlt3 hns₁ keep3 w0 turn hRR
theorem ES(S:bA X N' caps scope)(hc:X.calm=true)(hi:PI X tg iter wi)(hg:∀C s₃ H₃ fp pl,PG (gG X N' scope C s₃ H₃ fp pl) tg g)(hif:∀C s₃ H₃ fp pl,Gp (gG X N' scope C s₃ H₃ fp pl) ifs tc)
  (he:∀C s₃ H₃ fp pl,PE (gG X N' scope C s₃ H₃ fp pl) elt te) (hs:∀x,foldedSetIterable iter X.env x=pure x:=by intro _;rfl):PE X (.ListComp elt [⟨tg,iter,ifs,0⟩] scope pos) (D4 caps wi g tc te):=by
 intro pins s σ H Q I h;rw[eval_ListComp];refine Ts (use:=none) rfl hs (jG (S.has I.ok)) S.kind S.names (cU (hi pins s σ H _ I h) fun v s1 h1=>cU h1 fun itv s2 h2=>?_);obtain⟨it,fp,tn,J,H2,e,I2,T,st2,f2,hQ⟩:=h2;subst e;refine tV (RR:=fun acc C=>compPost (model X.prog X.w) X.A X.xe none (EP X pins σ Q) acc C) S hc hg hif he I2 T st2 f2 hQ ?_;intro l C H' s' _ _ _ _ _ hm _ hI q;obtain⟨m,hm⟩:=hm;exact⟨m,hm,fun h'' hs''=>⟨.ref l,H',hI h'' fun b u hb e=>hs''.extBut b u hb e,rfl,q⟩⟩
theorem EH(hN:X.N.Nodup)(hi':X.N[i]?=some y)(hy:X.env.scope.names.lookup y=some .local)(S:bA X N' caps scope)(hc:X.calm=true)(hi:PI X tg iter wi)(hg:∀C s₃ H₃ fp pl,PG (gG X N' scope C s₃ H₃ fp pl) tg g)(hif:∀C s₃ H₃ fp pl,Gp (gG X N' scope C s₃ H₃ fp pl) ifs tc)(he:∀C s₃ H₃ fp pl,PE (gG X N' scope C s₃ H₃ fp pl) elt te)(hsw:swapsWith (.ListComp elt [⟨tg,iter,ifs,0⟩] scope pos) (some (.Name y py)) spos.line X.env=pure true:=by rfl)(hs:∀x,foldedSetIterable iter X.env x=pure x:=by intro _;rfl):
  PS X (.Assign [.Name y py] (.ListComp elt [⟨tg,iter,ifs,0⟩] scope pos) spos) (Cr (D4 caps wi g tc te) (qx i)):=by
 intro pins s σ H D I h;rw[exec_Assign_Name_used _ _ _ _ hsw];refine Qj (Sa (Qj ?_));show wpAny _ X.A (do let _←comprehension (.ListComp elt [⟨tg,iter,ifs,0⟩] scope pos) scope X.env _ (newList []) false (eval iter X.env) (some (assign (.Name y py) X.env))) _ _ s;refine Qj (Rm (Ts (use:=some (assign (.Name y py) X.env)) (Q:=fun _ s'=>SP X pins D .next s') rfl hs (jG (S.has I.ok)) S.kind S.names
  (cU (hi pins s σ H _ I h) fun v s1 h1=>cU h1 fun itv s2 h2=>?_)) (fun _ s' hq=>Qm (Qm hq)) fun _ _ e=>e)
 obtain⟨it,fp,tn,J,H2,e,I2,T,st2,f2,hQ⟩:=h2;subst e;refine tV (Q:=fun x H1=>qx i x σ H1 D.nx) (RR:=fun acc C=>compPost (model X.prog X.w) X.A X.xe (some (assign (.Name y py) X.env)) (fun _ s'=>SP X pins D .next s') acc C) S hc hg hif he I2 T st2 f2 hQ ?_;intro l C H' s' hC hCL hC0 hCc hCp hm hI0 hI q;obtain⟨m,hm⟩:=hm;show wpAny _ X.A (assign (.Name y py) X.env (.ref l)) _ _ s';refine Va (oQ (v:=.ref l) hI0 hN hi' (.inl hy) rfl (fun s5 I5 hch=>?_) (.inr hy));obtain⟨a,hsa,ha⟩:=hch;have hCa:C≠a:=by
  rcases ha with z | z
  ·rw[z];exact hCL
  ·exact(hCc _ _ z).symm
 refine⟨m,hm.sameBut hsa hCa,fun h'' hs''=>?_⟩;have I6:=I5.turned (t':=s5.toks) (h':=h'') (it:=C) (fun b o hb e=>hs''.extBut b o hb e) hC hCL (.inr hC0) hCc hCp;exact⟨_,H',I6,q⟩
def N6(_ j:Int):Prop:=0 < j∧j≤10^40
theorem log2_small(h:n≤10^40):n.log2 < 9000:=by
 by_cases h0:n=0
 ·rw[h0];decide
 ·refine(Nat.log2_lt h0).mpr (Nat.lt_of_le_of_lt h ?_);exact QW (show 10^40 < 2^200 by decide) (VM (by decide) (by decide))
theorem EY:lX X (binaryOp .FloorDiv) (rI N6 fun i j=>.int (i / j)):=N9 fun i j _ _ _ _ _ hc q=>by
 have h1:(0:Int) < j:=hc.1;have h2:j≤10^40:=hc.2;exact floordiv_int (by lia) (by rw[Int.fdiv_eq_ediv_of_nonneg i (by lia)];exact q) (.inl (PyProof.noPylong_of_log2 (log2_small (by lia))))
mutual
inductive DO(K:FR)(H:Hp):V->PyData->Prop where
 | cN:DO K H .cN .none
 | bl (b:Bool):DO K H (.bl b) (.bool b)
 | int (i:Int):DO K H (.int i) (.int i)
 | str (x:Str):DO K H (.str x) (.str x)
 | tup {a:Addr} {xs:List V} {ds:List PyData}:jS K H a xs->qg K H xs ds->DO K H (.ref a) (.tuple ds)
 | lst {a:Addr} {xs:List V} {ds:List PyData}:gH K H a xs->qg K H xs ds->DO K H (.ref a) (.list ds)
inductive qg(K:FR)(H:Hp):List V->List PyData->Prop where
 | nil:qg K H [] []
 | cons {x:V} {xs:List V} {d:PyData} {ds:List PyData}:DO K H x d->qg K H xs ds->qg K H (x::xs) (d::ds)
end
mutual
theorem DO.reads(I:Inv X pins σ H s){x:V}{u:Value}{d:PyData}(z:DO X.K H x d)(r:RelV x u):∃as,Reads s.heap u d as:=by
 cases z with
 | cN=>cases(show _=Value.none from r);exact⟨_,.none⟩
 | bl b=>cases(show _=Value.bool b from r);exact⟨_,.bool b⟩
 | int i=>obtain⟨t,e⟩:=(show ∃t,_=Value.int i t from r);cases e;exact⟨_,.int i t⟩
 | str x=>obtain⟨t,e⟩:=(show ∃t,_=Value.str x t from r);cases e;exact⟨_,.str x t⟩
 | tup hq hl=>
  cases(show _=Value.ref _ from r);obtain⟨its,rv,⟨o,h1,h2,n,h3⟩,_⟩:=I.tuple hq;obtain⟨as,q⟩:=qg.reads I hl rv;exact⟨_,.tuple h1 h2 h3 (by simpa using q)⟩
 | lst hq hl=>
  cases(show _=Value.ref _ from r);obtain⟨its,rv,pl,_⟩:=I.list hq;obtain⟨o,h1,h2,n,h3⟩:=pl.isList;obtain⟨as,q⟩:=qg.reads I hl rv;exact⟨_,.list h1 h2 h3 (by simpa using q)⟩
theorem qg.reads(I:Inv X pins σ H s){xs:List V}{us:List Value}{ds:List PyData}(z:qg X.K H xs ds)(v:Vals xs us):∃as,ReadsAll s.heap us ds as:=by
 cases z with
 | nil=>cases v;exact⟨_,.nil⟩
 | cons h t=>
  cases v with
  | cons r q=>
   obtain⟨as,p⟩:=DO.reads I h r;obtain⟨bs,p'⟩:=qg.reads I t q;exact⟨_,.cons p p'⟩
end
def OR:V->Option Int->Option Int->Hp->VK->Prop:=fun x lo hi H Q=>∃z,x=.str z∧z.length≤sizeLine∧Q (.str (Txt.slice z lo hi)) H
theorem JO:L5 X OR:=by
 intro pins s σ H x v vl vu lo hi sl Q I rx hs pl pu h;obtain⟨z,rfl,hz,q⟩:=h;obtain⟨t,rfl⟩:=(show ∃t,v=Value.str z t from rx);refine⟨"str",_,F.slot_str_getitem.lookup,typeIs_str _ _ _,?_⟩;obtain⟨o,h1,h2,h3⟩:=hs;have fin:(Txt.slice z lo hi).length≤sizeLine∧∀t' k,EP X pins σ Q (.str (Txt.slice z lo hi) t') {s with toks:=k}:=⟨QB (Txt.slice_le z _ _) hz,fun t' k=>⟨.str _,H,I.tok k,⟨t',rfl⟩,q⟩⟩;cases pl with
 | none=>
  cases pu with
  | none=>exact Tv (l:=none) (u:=none) (st:=none) ⟨o,h1,h2,h3⟩ rfl (UH fin)
  | int j uj=>exact Tv (l:=none) (u:=some (j,uj)) (st:=none) ⟨o,h1,h2,h3⟩ rfl (UH fin)
 | int i ui=>
  cases pu with
  | none=>exact Tv (l:=some (i,ui)) (u:=none) (st:=none) ⟨o,h1,h2,h3⟩ rfl (UH fin)
  | int j uj=>exact Tv (l:=some (i,ui)) (u:=some (j,uj)) (st:=none) ⟨o,h1,h2,h3⟩ rfl (UH fin)
theorem FY:fe X (.builtin "isinstance") (fun xs H Q=>∃x n t b,xs=[x,.ty n]∧ow X.K H x t∧PySem.W.kitOne X.K t (.type n)=some b∧Q (.bl b) H):=by
 intro pins s σ H xs us Q I r h;obtain⟨x,n,t,b,rfl,ty,e,q⟩:=h;obtain⟨u,w',rfl,ru,rw'⟩:=vals2 r;cases(show w'=Value.type n from rw');exact C1 I ru ty e fun tk=>⟨.bl b,H,I.tok tk,rfl,q⟩
noncomputable def y4(out:List (Str×NameKind))(N N':List Str)(caps:List (Option Nat))(scope:Scope):Bool:=
 decide (scope.kind=.function)&&scope.names.all (fun y=>decide (y.2≠.cell))&&scope.names.all (fun y=>!decide (y.2=.local)||decide (scope.names.lookup y.1=some .local))&&
 scope.names.all (fun y=>!decide (y.2=.free)||decide (out.lookup y.1=some .cell)||decide (out.lookup y.1=some .free))&&decide (caps.length=N'.length)&&
 (List.range caps.length).all (fun j=>match caps[j]?,N'[j]? with
  | some (some i),some x=>decide (N[i]?=some x)&&decide (scope.names.lookup x=some .free)
  | _,_=>true)&&decide N'.Nodup
theorem aE(h:y4 X.env.scope.names X.N N' caps scope=true):bA X N' caps scope:=by
 unfold y4 at h;simp only[QJ,Rk,RJ,SD,V8,Vp] at h;obtain⟨⟨⟨⟨⟨⟨h1,h2⟩,h3⟩,h4⟩,h5⟩,h6⟩,h7⟩:=h;refine⟨h1,h2,fun y hy e=>?_,fun y hy e=>?_,h5,fun j i x hj hx=>?_,h7⟩
 ·rcases h3 y hy with z | z
  ·exact absurd e z
  ·exact z
 ·rcases h4 y hy with(z | z) | z
  ·exact absurd e z
  ·exact .inl z
  ·exact .inr z
 ·have hlt:j < caps.length:=(Qo.mp hj).1;have:=h6 j (RL.mpr hlt);rw[hj,hx] at this;simp only[QJ,Rk] at this;exact this
end L2
namespace L2
end L2
namespace L2
open PySem PySem.Spec PyProof.Rows
theorem kU:PyData.strOk x=true↔∀c∈x.cps,c < 0x110000:=by
 unfold PyData.strOk;rw[Sn];simp
theorem kW(ha:PyData.strOk a=true)(hb:PyData.strOk b=true):PyData.strOk (a++b)=true:=by
 rw[kU] at*;intro c hc;have hc':c∈a.cps++b.cps:=hc;rcases Array.mem_append.mp hc' with z | z
 ·exact ha c z
 ·exact hb c z
theorem yi(l u:Option Int)(h:PyData.strOk x=true):PyData.strOk (Txt.slice x l u)=true:=by
 unfold Txt.slice
 split
 ·exact h
 ·rw[kU] at*;intro c hc;have hc':c∈(List.filterMap (x.cps[·]?) (Builtin.Str.strSliceIndices l u 1 x.length)).toArray:=hc;rw[U0] at hc';obtain⟨i,_,e⟩:=Su.mp hc';exact h c (Uy e)
theorem Cs(h:PyData.strOk z=true)(hc:il z.cps.toList i=some c):PyData.strOk (⟨#[c]⟩:Str)=true:=by
 rw[kU] at*;intro d hd;have e:d=c:=by simpa using hd
 subst e;obtain⟨j,_,hj,_⟩:=rV hc;exact h d (by have:=Qn hj;simpa using this)
theorem entry_all_loop:entryFor table "all.loop"=some Builtin.«all.loop»:=entryFor_of_tree (by ac_nf)
theorem plain_all_loop:plainId "all.loop"=true:=by decide+kernel
theorem Gh{A:Around}{pins:List (Addr×Obj)}{σ:St}{H:Hp}{p it:Addr}{bs:List Bool}{R:Result->Shared->Prop}(hA:A.handled=none)(hp:gH X.K H p (bs.map V.bl))
  (hit:it≠X.env.locals∧(it∈X.ex∨X.s₀.heap.objs.size≤it)∧(∀x c,X.env.cells.lookup x=some c->c≠it)∧∀q∈X.pn++pins,q.1≠it) (hin:H it=none)
  (h:∀s',Inv X pins σ H s'->R (.ok (.ret (.bool (bs.all id)))) s'):∀(n i:Nat)(s:Shared),bs.length-i=n->i≤bs.length->(bs.take i).all id=true->s.heap.IsListIter it p i->Inv X pins σ H s->
   codeAny (model X.prog X.w) A (.builtin "all.loop" ⟨[.ref it],[]⟩) R s:=by
 intro n
 induction n with
 | zero=>
  intro i s hn hi ht st I;have ei:i=bs.length:=by lia
  refine Ro entry_all_loop ?_;rw[Q5 plain_all_loop _];obtain⟨its,rv,pl,hz⟩:=I.list hp;have hl':=rv.length;rw[Qk] at hl';show wpAny _ _ (pyNext (.ref it) >>=_) _ _ s;refine Qj (UM hA st pl.isList (by simp;lia) fun h' eb=>?_);have I':=I.turned (t':=s.toks) (h':=h') (it:=it) (fun b o hb e=>eb b o hb e) hin hit.1 hit.2.1 hit.2.2.1 hit.2.2.2;refine Qj (RU (Qm ?_));rw[ei,QZ] at ht;have:=h _ I';rw[ht] at this;exact this
 | succ n ih=>
  intro i s hn hi ht st I;have hi':i < bs.length:=by lia
  refine Ro entry_all_loop ?_;rw[Q5 plain_all_loop _];obtain⟨its,rv,pl,hz⟩:=I.list hp;have hyi:(bs.map V.bl)[i]?=some (.bl bs[i]):=by rw[Qy,Qr hi'];rfl
  obtain⟨u,hu,ru⟩:=rv.get hyi;cases(show u=Value.bool bs[i] from ru);show wpAny _ _ (pyNext (.ref it) >>=_) _ _ s;refine Qj (UB st pl.isList (x:=.bool bs[i]) (by simpa using hu) fun h' st' sb=>?_);have I':=I.turned (t':=s.toks) (h':=h') (it:=it) (fun b o hb e=>(sb.2 b hb).trans e) hin hit.1 hit.2.1 hit.2.2.1 hit.2.2.2;dsimp only;refine Qj (Q9 (RD ?_));refine Qj (Uv ?_)
  by_cases hb:bs[i]=true
  ·rw[Qp hb];refine Qm ⟨Si plain_all_loop _,ih (i+1) _ (by lia) (by lia) ?_ st' I'⟩;rw[SO,Qr hi',List.all_append,ht,hb];rfl
  ·rw[Qu hb];refine Qj (RU (Qm ?_));have:=h _ I';have e:bs.all id=false:=by
    rw[List.all_eq_false];exact⟨bs[i],Um hi',by simpa using hb⟩
   rw[e] at this;exact this
theorem F5(hc:X.calm=true):fe X (.builtin "all") (fun xs H Q=>∃(p:Addr)(bs:List Bool),xs=[.ref p]∧gH X.K H p (bs.map V.bl)∧Q (.bl (bs.all id)) H):=by
 intro pins s σ H xs us Q I r h;obtain⟨p,bs,rfl,hp,q⟩:=h;obtain⟨u,rfl,ru⟩:=vals1 r;cases(show u=Value.ref p from ru);have hA:X.A.handled=none:=I.ok.hd hc;obtain⟨its,rv,pl,hz⟩:=I.list hp;refine call_function_tree F.kind_all F.plain_all F.entry_all (F.args_all1 _) ?_;unfold Builtin.«all»;show wpAny _ _ (pyIter (.ref p) >>=_) _ _ s;refine Qj (TC pl.isList ?_);have I3:Inv X pins σ H {s with heap:=s.heap.push {cls:=.type "list_iterator",data:=.fields #[.ref p,.int 0 0]}}:=I.kept (t':=s.toks) fun b o e=>Ql _ e;obtain⟨f0,f1,f2,f3,f4,f5⟩:=I.xE (b:=s.heap.objs.size) (H':=H) (Qq _) (I.bI.fresh (Qq _));refine Qm ⟨Si plain_all_loop _,?_⟩;exact Gh (X:=X) (σ:=σ) (H:=H) (by exact hA) hp ⟨f1,f3,f4,f5⟩ f0 (fun s' I'=>⟨.bl _,H,I',rfl,q⟩) bs.length 0 _ (by lia) (Rw _) rfl ⟨_,Qx _ rfl,rfl,rfl⟩ I3
theorem entry_any_loop:entryFor table "any.loop"=some Builtin.«any.loop»:=entryFor_of_tree (by ac_nf)
theorem plain_any_loop:plainId "any.loop"=true:=by decide+kernel
theorem Gf{A:Around}{pins:List (Addr×Obj)}{σ:St}{H:Hp}{p it:Addr}{bs:List Bool}{R:Result->Shared->Prop}(hA:A.handled=none)(hp:gH X.K H p (bs.map V.bl))
  (hit:it≠X.env.locals∧(it∈X.ex∨X.s₀.heap.objs.size≤it)∧(∀x c,X.env.cells.lookup x=some c->c≠it)∧∀q∈X.pn++pins,q.1≠it) (hin:H it=none)
  (h:∀s',Inv X pins σ H s'->R (.ok (.ret (.bool (bs.any id)))) s'):∀(n i:Nat)(s:Shared),bs.length-i=n->i≤bs.length->(bs.take i).any id=false->s.heap.IsListIter it p i->Inv X pins σ H s->
   codeAny (model X.prog X.w) A (.builtin "any.loop" ⟨[.ref it],[]⟩) R s:=by
 intro n
 induction n with
 | zero=>
  intro i s hn hi ht st I;have ei:i=bs.length:=by lia
  refine Ro entry_any_loop ?_;rw[Q5 plain_any_loop _];obtain⟨its,rv,pl,hz⟩:=I.list hp;have hl':=rv.length;rw[Qk] at hl';show wpAny _ _ (pyNext (.ref it) >>=_) _ _ s;refine Qj (UM hA st pl.isList (by simp;lia) fun h' eb=>?_);have I':=I.turned (t':=s.toks) (h':=h') (it:=it) (fun b o hb e=>eb b o hb e) hin hit.1 hit.2.1 hit.2.2.1 hit.2.2.2;refine Qj (RU (Qm ?_));rw[ei,QZ] at ht;have:=h _ I';rw[ht] at this;exact this
 | succ n ih=>
  intro i s hn hi ht st I;have hi':i < bs.length:=by lia
  refine Ro entry_any_loop ?_;rw[Q5 plain_any_loop _];obtain⟨its,rv,pl,hz⟩:=I.list hp;have hyi:(bs.map V.bl)[i]?=some (.bl bs[i]):=by rw[Qy,Qr hi'];rfl
  obtain⟨u,hu,ru⟩:=rv.get hyi;cases(show u=Value.bool bs[i] from ru);show wpAny _ _ (pyNext (.ref it) >>=_) _ _ s;refine Qj (UB st pl.isList (x:=.bool bs[i]) (by simpa using hu) fun h' st' sb=>?_);have I':=I.turned (t':=s.toks) (h':=h') (it:=it) (fun b o hb e=>(sb.2 b hb).trans e) hin hit.1 hit.2.1 hit.2.2.1 hit.2.2.2;dsimp only;refine Qj (Q9 (RD ?_));refine Qj (Uv ?_)
  by_cases hb:bs[i]=true
  ·rw[Qp hb];refine Qj (RU (Qm ?_));have:=h _ I';have e:bs.any id=true:=by
    rw[RQ];exact⟨bs[i],Um hi',hb⟩
   rw[e] at this;exact this
  ·rw[Qu hb];refine Qm ⟨Si plain_any_loop _,ih (i+1) _ (by lia) (by lia) ?_ st' I'⟩;rw[SO,Qr hi',List.any_append,ht];have hb':bs[i]=false:=by simpa using hb
   rw[hb'];rfl
theorem FZ(hc:X.calm=true):fe X (.builtin "any") (fun xs H Q=>∃(p:Addr)(bs:List Bool),xs=[.ref p]∧gH X.K H p (bs.map V.bl)∧Q (.bl (bs.any id)) H):=by
 intro pins s σ H xs us Q I r h;obtain⟨p,bs,rfl,hp,q⟩:=h;obtain⟨u,rfl,ru⟩:=vals1 r;cases(show u=Value.ref p from ru);have hA:X.A.handled=none:=I.ok.hd hc;obtain⟨its,rv,pl,hz⟩:=I.list hp;refine call_function_tree F.kind_any F.plain_any F.entry_any (F.args_any1 _) ?_;unfold Builtin.«any»;show wpAny _ _ (pyIter (.ref p) >>=_) _ _ s;refine Qj (TC pl.isList ?_);have I3:Inv X pins σ H {s with heap:=s.heap.push {cls:=.type "list_iterator",data:=.fields #[.ref p,.int 0 0]}}:=I.kept (t':=s.toks) fun b o e=>Ql _ e;obtain⟨f0,f1,f2,f3,f4,f5⟩:=I.xE (b:=s.heap.objs.size) (H':=H) (Qq _) (I.bI.fresh (Qq _));refine Qm ⟨Si plain_any_loop _,?_⟩;exact Gf (X:=X) (σ:=σ) (H:=H) (by exact hA) hp ⟨f1,f3,f4,f5⟩ f0 (fun s' I'=>⟨.bl _,H,I',rfl,q⟩) bs.length 0 _ (by lia) (Rw _) rfl ⟨_,Qx _ rfl,rfl,rfl⟩ I3
end L2
namespace Sm
open PySem L2
inductive D where
 | cN | bl (b:Bool) | int (i:Int) | str (x:Str) | ty (n:String)
 | tup (xs:List D) | lv (xs:List D) | ro (xs:List D) | dv (kvs:List (Key×D)) | ob (n:Nat)
inductive MO where
 | lst (xs:List D) | dct (kvs:List (Key×D))
abbrev MH:=List MO
abbrev DS:=List (Option D)
abbrev Pz:Hp:=fun _=>none
structure Ad where
 ob:List Addr
 rs:List Addr
def Ad.has(ρ:Ad)(a:Addr):Prop:=a∈ρ.ob∨a∈ρ.rs
def TupAt(K:FR)(ρ:Ad)(H:Hp)(a:Addr)(vs:List V):Prop:=(Rd H a (.tup vs)∧¬ρ.has a)∨jS K Pz a vs
def L7(K:FR)(ρ:Ad)(H:Hp)(a:Addr)(vs:List V):Prop:=(Rd H a (.lst vs)∧¬ρ.has a)∨gH K Pz a vs
mutual
inductive Rep(K:FR)(ρ:Ad)(H:Hp):V->D->Prop where
 | cN:Rep K ρ H .cN .cN
 | bl (b:Bool):Rep K ρ H (.bl b) (.bl b)
 | int (i:Int):Rep K ρ H (.int i) (.int i)
 | str {x:Str} (h:PyData.strOk x=true):Rep K ρ H (.str x) (.str x)
 | ty (n:String):Rep K ρ H (.ty n) (.ty n)
 | tup {a:Addr} {vs:List V} {ds:List D}:TupAt K ρ H a vs->aI K ρ H vs ds->Rep K ρ H (.ref a) (.tup ds)
 | lv {a:Addr} {vs:List V} {ds:List D}:H a=some (.lst vs)->¬ρ.has a->aI K ρ H vs ds->Rep K ρ H (.ref a) (.lv ds)
 | ro {a:Addr} {vs:List V} {ds:List D}:L7 K ρ H a vs->aI K ρ H vs ds->Rep K ρ H (.ref a) (.ro ds)
 | dv {a:Addr} {us:List (Key×V)} {kvs:List (Key×D)}:H a=some (.dK us)->¬ρ.has a->bL K ρ H us kvs->Rep K ρ H (.ref a) (.dv kvs)
 | ob {a:Addr} {n:Nat}:ρ.ob[n]?=some a->Rep K ρ H (.ref a) (.ob n)
inductive aI(K:FR)(ρ:Ad)(H:Hp):List V->List D->Prop where
 | nil:aI K ρ H [] []
 | cons {v:V} {vs:List V} {d:D} {ds:List D}:Rep K ρ H v d->aI K ρ H vs ds->aI K ρ H (v::vs) (d::ds)
inductive bL(K:FR)(ρ:Ad)(H:Hp):List (Key×V)->List (Key×D)->Prop where
 | nil:bL K ρ H [] []
 | cons {k:Key} {v:V} {vs:List (Key×V)} {d:D} {ds:List (Key×D)}:Rep K ρ H v d->bL K ρ H vs ds->bL K ρ H ((k,v)::vs) ((k,d)::ds)
end
structure Ch(ρ:Ad)(H:Hp)(ρ':Ad)(H':Hp):Prop where
 pre:∀(n:Nat) a,ρ.ob[n]?=some a->ρ'.ob[n]?=some a
 old:∀b o,¬ρ.has b->H b=some o->¬ρ'.has b∧H' b=some o
theorem Ch.refl(ρ:Ad)(H:Hp):Ch ρ H ρ H:=⟨fun _ _ e=>e,fun _ _ n e=>⟨n,e⟩⟩
theorem Ch.trans(a:Ch ρ H ρ1 H1)(b:Ch ρ1 H1 ρ2 H2):Ch ρ H ρ2 H2:=
 ⟨fun n x e=>b.pre n x (a.pre n x e),fun x o n e=>let⟨n',e'⟩:=a.old x o n e;b.old x o n' e'⟩
structure dP(ρ:Ad)(H:Hp)(ρ':Ad)(H':Hp):Prop extends Ch ρ H ρ' H' where
 rs:ρ'.rs=ρ.rs
 res:∀b∈ρ.rs,H' b=H b
theorem dP.refl(ρ:Ad)(H:Hp):dP ρ H ρ H:=⟨.refl _ _,rfl,fun _ _=>rfl⟩
theorem dP.trans(a:dP ρ H ρ1 H1)(b:dP ρ1 H1 ρ2 H2):dP ρ H ρ2 H2:=
 ⟨a.toCh.trans b.toCh,b.rs.trans a.rs,fun x hx=>(b.res x (by rw[a.rs];exact hx)).trans (a.res x hx)⟩
instance {ρ ρ':Ad} {H H':Hp}:CoeOut (dP ρ H ρ' H') (Ch ρ H ρ' H'):=⟨dP.toCh⟩
theorem Ch.rd(S:Ch ρ H ρ' H')(h:Rd H a u)(n:¬ρ.has a):Rd H' a u∧¬ρ'.has a:=by
 rcases h with h |⟨o,h⟩
 ·obtain⟨q,e⟩:=S.old a _ n h;exact⟨.inl e,q⟩
 ·obtain⟨q,e⟩:=S.old a _ n h;exact⟨.inr ⟨o,e⟩,q⟩
mutual
theorem Rep.mono(S:Ch ρ H ρ' H'){v:V}{d:D}(r:Rep K ρ H v d):Rep K ρ' H' v d:=by
 cases r with
 | cN=>exact .cN
 | bl b=>exact .bl b
 | int i=>exact .int i
 | str x=>exact .str x
 | ty n=>exact .ty n
 | tup h l=>exact .tup (h.elim (fun⟨a,n⟩=>.inl (S.rd a n)) .inr) (aI.mono S l)
 | lv h n l=>have ⟨n',h'⟩:=S.old _ _ n h;exact .lv h' n' (aI.mono S l)
 | ro h l=>exact .ro (h.elim (fun⟨a,n⟩=>.inl (S.rd a n)) .inr) (aI.mono S l)
 | dv h n l=>have ⟨n',h'⟩:=S.old _ _ n h;exact .dv h' n' (bL.mono S l)
 | ob e=>exact .ob (S.pre _ _ e)
theorem aI.mono(S:Ch ρ H ρ' H'){vs:List V}{ds:List D}(r:aI K ρ H vs ds):aI K ρ' H' vs ds:=by
 cases r with
 | nil=>exact .nil
 | cons h t=>exact .cons (Rep.mono S h) (aI.mono S t)
theorem bL.mono(S:Ch ρ H ρ' H'){vs:List (Key×V)}{ds:List (Key×D)}(r:bL K ρ H vs ds):bL K ρ' H' vs ds:=by
 cases r with
 | nil=>exact .nil
 | cons h t=>exact .cons (Rep.mono S h) (bL.mono S t)
end
theorem aI.length:∀{vs:List V} {ds:List D},aI K ρ H vs ds->vs.length=ds.length
 | _,_,.nil=>rfl
 | _,_,.cons _ t=>by rw[QI,QI,aI.length t]
theorem aI.got:∀{vs:List V} {ds:List D} {i:Nat} {d:D},aI K ρ H vs ds->ds[i]?=some d->∃v,vs[i]?=some v∧Rep K ρ H v d
 | _,_,_,_,.nil,e=>by simp at e
 | _,_,0,_,.cons r _,e=>by simp at e;subst e;exact⟨_,rfl,r⟩
 | _,_,i+1,d,.cons _ t,e=>by
  obtain⟨u,h1,h2⟩:=aI.got (i:=i) (d:=d) t (by simpa using e);exact⟨u,by simpa using h1,h2⟩
theorem aI.append:∀{vs ws:List V} {ds es:List D},aI K ρ H vs ds->aI K ρ H ws es->aI K ρ H (vs++ws) (ds++es)
 | _,_,_,_,.nil,s=>s
 | _,_,_,_,.cons r t,s=>.cons r (aI.append t s)
theorem aI.take:∀{vs:List V} {ds:List D} (n:Nat),aI K ρ H vs ds->aI K ρ H (vs.take n) (ds.take n)
 | _,_,0,_=>.nil
 | _,_,_+1,.nil=>.nil
 | _,_,n+1,.cons r t=>.cons r (aI.take n t)
theorem aI.drop:∀{vs:List V} {ds:List D} (n:Nat),aI K ρ H vs ds->aI K ρ H (vs.drop n) (ds.drop n)
 | _,_,0,r=>r
 | _,_,_+1,.nil=>.nil
 | _,_,n+1,.cons _ t=>aI.drop n t
theorem aI.set(r:Rep K ρ H v d):∀{vs:List V} {ds:List D} (i:Nat),aI K ρ H vs ds->aI K ρ H (vs.set i v) (ds.set i d)
 | _,_,_,.nil=>.nil
 | _,_,0,.cons _ t=>.cons r t
 | _,_,i+1,.cons q t=>.cons q (aI.set r i t)
theorem aI.snoc(t:aI K ρ H vs ds)(r:Rep K ρ H v d):aI K ρ H (vs++[v]) (ds++[d]):=t.append (.cons r .nil)
theorem aI.dropLast:∀{vs:List V} {ds:List D},aI K ρ H vs ds->aI K ρ H vs.dropLast ds.dropLast
 | _,_,.nil=>.nil
 | _,_,.cons _ .nil=>.nil
 | _,_,.cons r (.cons q t)=>.cons r (aI.dropLast (.cons q t))
theorem aI.isEmpty(t:aI K ρ H vs ds):vs.isEmpty=ds.isEmpty:=by cases t <;> rfl
theorem TupAt.sq(h:TupAt K ρ H a vs):jS K H a vs:=by
 rcases h with⟨h,_⟩ | h
 ·exact .inl h
 ·rcases h with(h |⟨o,h⟩) | h
  ·cases h
  ·cases h
  ·exact .inr h
theorem L7.sq(h:L7 K ρ H a vs):gH K H a vs:=by
 rcases h with⟨h,_⟩ | h
 ·exact .inl h
 ·rcases h with(h |⟨o,h⟩) | h
  ·cases h
  ·cases h
  ·exact .inr h
def Cf(K:FR)(ρ:Ad)(H:Hp)(a:Addr):MO->Prop
 | .lst ds=>∃vs,H a=some (.lst vs)∧aI K ρ H vs ds
 | .dct kvs=>∃us,H a=some (.dK us)∧bL K ρ H us kvs
structure cx(K:FR)(ρ:Ad)(h:MH)(H:Hp):Prop where
 len:ρ.ob.length=h.length
 nd:ρ.ob.Nodup
 at_:∀(n:Nat) a o,ρ.ob[n]?=some a->h[n]?=some o->Cf K ρ H a o
 vn:∀b∈ρ.rs,(∃o,H b=some o)∧b∉ρ.ob
theorem Cf.has(x:Cf K ρ H a o):∃u,H a=some u:=by
 cases o with
 | lst ds=>obtain⟨vs,e,_⟩:=x;exact⟨_,e⟩
 | dct ds=>obtain⟨vs,e,_⟩:=x;exact⟨_,e⟩
theorem Cf.mono(x:Cf K ρ H a o)(T:Ch ρ H ρ' H')(e:H' a=H a):Cf K ρ' H' a o:=by
 cases o with
 | lst ds=>obtain⟨vs,x,r⟩:=x;exact⟨vs,e.trans x,r.mono T⟩
 | dct ds=>obtain⟨vs,x,r⟩:=x;exact⟨vs,e.trans x,r.mono T⟩
theorem cx.mem(S:cx K ρ h H)(ha:a∈ρ.ob):∃(n:Nat)(o:MO),ρ.ob[n]?=some a∧h[n]?=some o∧Cf K ρ H a o:=by
 obtain⟨n,hn,e⟩:=List.mem_iff_getElem.mp ha;have hn':n < h.length:=by rw[←S.len];exact hn
 have e1:ρ.ob[n]?=some a:=by rw[Qr hn,e]
 exact⟨n,h[n],e1,Qr hn',S.at_ n a _ e1 (Qr hn')⟩
theorem cx.has(S:cx K ρ h H)(ha:ρ.has a):∃u,H a=some u:=by
 rcases ha with ha | ha
 ·obtain⟨_,_,_,_,x⟩:=S.mem ha;exact x.has
 ·exact(S.vn a ha).1
theorem cx.fresh(S:cx K ρ h H)(hp:H p=none):¬ρ.has p:=fun m=>by
 obtain⟨u,e⟩:=S.has m;rw[hp] at e;cases e
theorem dP.laid(S:cx K ρ h H)(hp:H p=none):dP ρ H ρ (upd H p o):=
 ⟨⟨fun _ _ e=>e,fun b u n e=>⟨n,by rw[aP (bt e hp)];exact e⟩⟩,rfl,fun b hb=>by
  obtain⟨u,e⟩:=(S.vn b hb).1;rw[aP (bt e hp)]⟩
theorem cx.same(S:cx K ρ h H)(T:dP ρ H ρ H')(k:∀a∈ρ.ob,H' a=H a):cx K ρ h H':=
 ⟨S.len,S.nd,fun n a o e1 e2=>(S.at_ n a o e1 e2).mono T.toCh (k a (Qn e1)),fun b hb=>⟨by rw[T.res b hb];exact(S.vn b hb).1,(S.vn b hb).2⟩⟩
theorem cx.laid(S:cx K ρ h H)(hp:H p=none):cx K ρ h (upd H p o):=
 S.same (dP.laid S hp) fun a ha=>by
  obtain⟨u,e⟩:=S.has (.inl ha);rw[aP (bt e hp)]
abbrev Ad.more(ρ:Ad)(p:Addr):Ad:=⟨ρ.ob++[p],ρ.rs⟩
theorem dP.made(S:cx K ρ h H)(hp:H p=none):dP ρ H (ρ.more p) (upd H p o):=by
 refine⟨⟨fun n a e=>?_,fun b u n e=>?_⟩,rfl,(dP.laid S hp).res⟩
 ·show(ρ.ob++[p])[n]?=_;rw[QE (Qo.mp e).1];exact e
 ·refine⟨fun m=>?_,by rw[aP (bt e hp)];exact e⟩;rcases m with m | m
  ·rcases QS.mp m with m | m
   ·exact n (.inl m)
   ·exact bt e hp (QC.mp m)
  ·exact n (.inr m)
theorem cx.made(S:cx K ρ h H)(hp:H p=none)(ho:Cf K (ρ.more p) (upd H p u) p o):cx K (ρ.more p) (h++[o]) (upd H p u):=by
 refine⟨by simp[S.len],?_,fun n a x e1 e2=>?_,fun b hb=>?_⟩
 ·show(ρ.ob++[p]).Nodup;rw[RW];refine⟨S.nd,by simp,fun a ha b hb z=>?_⟩;rw[QC.mp hb] at z;exact S.fresh hp (.inl (z ▸ ha))
 ·by_cases hn:n < ρ.ob.length
  ·have e1:(ρ.ob++[p])[n]?=some a:=e1;rw[QE hn] at e1;rw[QE (by rw[←S.len];exact hn)] at e2;have q:=S.at_ n a x e1 e2;obtain⟨w,ew⟩:=q.has;exact q.mono (dP.made S hp).toCh (aP (bt ew hp))
  ·have l1:=(Qo.mp e1).1;simp at l1;have hn':n=ρ.ob.length:=by lia
   subst hn';have e1:(ρ.ob++[p])[ρ.ob.length]?=some a:=e1;rw[QR (Qq _)] at e1;rw[QR (by rw[S.len];exact Qq _)] at e2;simp at e1;rw[S.len] at e2;simp at e2;subst e1;subst e2;exact ho
 ·obtain⟨⟨v,e⟩,n⟩:=S.vn b hb;have z:=bt e hp;refine⟨⟨v,by rw[aP z];exact e⟩,fun m=>?_⟩;rcases QS.mp m with m | m
  ·exact n m
  ·exact z (QC.mp m)
theorem dP.wrote(S:cx K ρ h H)(ha:a∈ρ.ob):dP ρ H ρ (upd H a o):=
 ⟨⟨fun _ _ e=>e,fun b u n e=>⟨n,by rw[aP (fun(z:b=a)=>n (.inl (by rw[z];exact ha)))];exact e⟩⟩,rfl,fun b hb=>aP fun(z:b=a)=>(S.vn b hb).2 (by rw[z];exact ha)⟩
theorem cx.wrote(S:cx K ρ h H)(e:ρ.ob[n]?=some a)(ho:Cf K ρ (upd H a u) a o):cx K ρ (h.set n o) (upd H a u):=by
 have ha:=Qn e;have T:dP ρ H ρ (upd H a u):=dP.wrote S ha;refine⟨by rw[Sd];exact S.len,S.nd,fun m b x e1 e2=>?_,fun b hb=>⟨by rw[T.res b hb];exact(S.vn b hb).1,(S.vn b hb).2⟩⟩
 by_cases hm:n=m
 ·subst hm;have l2:n < h.length:=by rw[←S.len];exact(Qo.mp e).1
  rw[e] at e1;cases e1;rw[Ry l2] at e2;cases e2;exact ho
 ·rw[Rl hm] at e2;have q:=S.at_ m b x e1 e2;have hb:b≠a:=by
   intro z;subst z;exact hm ((V6 (Qo.mp e).1 S.nd).mp (e.trans e1.symm))
  exact q.mono T.toCh (aP hb)
abbrev Ad.keep(ρ:Ad)(l:Addr):Ad:=⟨ρ.ob,l::ρ.rs⟩
theorem Ch.keep(hl:H l=none):Ch ρ H (ρ.keep l) (upd H l o):=by
 refine⟨fun n a e=>e,fun b u n e=>⟨fun m=>?_,by rw[aP (bt e hl)];exact e⟩⟩;rcases m with m | m
 ·exact n (.inl m)
 ·rcases QK.mp m with m | m
  ·exact bt e hl m
  ·exact n (.inr m)
theorem cx.keep(S:cx K ρ h H)(hl:H l=none):cx K (ρ.keep l) h (upd H l o):=by
 refine⟨S.len,S.nd,fun n a x e1 e2=>?_,fun b hb=>?_⟩
 ·have q:=S.at_ n a x e1 e2;obtain⟨w,ew⟩:=q.has;exact q.mono (Ch.keep hl) (aP (bt ew hl))
 ·rcases QK.mp hb with rfl | hb
  ·exact⟨⟨_,bj⟩,fun m=>S.fresh hl (.inl m)⟩
  ·obtain⟨⟨v,e⟩,n⟩:=S.vn b hb;exact⟨⟨v,by rw[aP (bt e hl)];exact e⟩,n⟩
theorem Ch.put(hl:l∈ρ.rs):Ch ρ H ρ (upd H l o):=⟨fun n a e=>e,fun b u n e=>⟨n,by rw[aP (fun(z:b=l)=>n (.inr (by rw[z];exact hl)))];exact e⟩⟩
theorem cx.put(S:cx K ρ h H)(hl:l∈ρ.rs):cx K ρ h (upd H l o):=by
 refine⟨S.len,S.nd,fun n a x e1 e2=>(S.at_ n a x e1 e2).mono (Ch.put hl) (aP fun(z:a=l)=>(S.vn l hl).2 (by rw[←z];exact Qn e1)),fun b hb=>⟨?_,(S.vn b hb).2⟩⟩
 by_cases z:b=l
 ·subst z;exact⟨_,bj⟩
 ·rw[aP z];exact(S.vn b hb).1
theorem Ch.free{os rs rs':List Addr}{H:Hp}(hs:∀b∈rs',b∈rs):Ch ⟨os,rs⟩ H ⟨os,rs'⟩ H:=⟨fun n a e=>e,fun b u n e=>⟨fun m=>n (m.elim .inl fun m=>.inr (hs b m)),e⟩⟩
theorem cx.free{os rs rs':List Addr}{H:Hp}(S:cx K ⟨os,rs⟩ h H)(hs:∀b∈rs',b∈rs):cx K ⟨os,rs'⟩ h H:=
 ⟨S.len,S.nd,fun n a x e1 e2=>(S.at_ n a x e1 e2).mono (Ch.free hs) rfl,fun b hb=>S.vn b (hs b hb)⟩
structure c7(K:FR)(ρ:Ad)(H:Hp)(σ:St)(δ:DS):Prop where
 len:σ.length=δ.length
 at_:∀(i:Nat) d,δ[i]?=some (some d)->∃v,σ[i]?=some (some v)∧Rep K ρ H v d
theorem c7.mono(R:c7 K ρ H σ δ)(S:Ch ρ H ρ' H'):c7 K ρ' H' σ δ:=⟨R.len,fun i d e=>let⟨v,a,b⟩:=R.at_ i d e;⟨v,a,b.mono S⟩⟩
theorem c7.set(R:c7 K ρ H σ δ)(r:Rep K ρ H v d)(i:Nat):c7 K ρ H (σ.set i (some v)) (δ.set i (some d)):=by
 refine⟨by rw[Sd,Sd];exact R.len,fun j e he=>?_⟩
 by_cases hij:i=j
 ·subst hij;have hl:i < δ.length:=by
   have:=(Qo.mp he).1;rw[Sd] at this;exact this
  rw[Ry hl] at he;cases he;exact⟨v,by rw[Ry (by rw[R.len];exact hl)],r⟩
 ·rw[Rl hij] at he ⊢;exact R.at_ j e he
abbrev EM:=DS->MH->Option (D×MH)
abbrev TM:=DS->MH->Option (Bool×MH)
abbrev AM:=DS->MH->Option (List D×MH)
inductive Fl where
 | nx | bk | ct | rt (d:D)
abbrev SM:=DS->MH->Option (Fl×DS×MH)
abbrev GM:=D->DS->MH->Option (DS×MH)
abbrev Fn:=List D->MH->Option (D×MH)
inductive Jq(K:FR)(ρ:Ad)(H:Hp)(h':MH)(d:D)(v:V)(H':Hp):Prop where
 | mk (ρ'):dP ρ H ρ' H'->cx K ρ' h' H'->Rep K ρ' H' v d->Jq K ρ H h' d v H'
noncomputable def fc(K:FR)(ρ:Ad)(H:Hp)(h':MH)(d:D):VK:=fun v H'=>Jq K ρ H h' d v H'
inductive PH(K:FR)(m:EM)(σ:L2.St)(H:Hp)(Q:VK):Prop where
 | mk (ρ δ h d h'):c7 K ρ H σ δ->cx K ρ h H->(m δ h=some (d,h'))->(∀v H',fc K ρ H h' d v H'->Q v H')->PH K m σ H Q
def tM(K:FR)(m:EM):TE:=fun σ H Q=>PH K m σ H Q
inductive NM(K:FR)(m:TM)(σ:L2.St)(H:Hp)(Q:Bool->Hp->Prop):Prop where
 | mk (ρ δ h b h'):c7 K ρ H σ δ->cx K ρ h H->(m δ h=some (b,h'))->(∀ρ' H',dP ρ H ρ' H'->cx K ρ' h' H'->Q b H')->NM K m σ H Q
def BA(K:FR)(m:TM):TT:=fun σ H Q=>NM K m σ H Q
inductive NT(K:FR)(m:AM)(σ:L2.St)(H:Hp)(Q:List V->Hp->Prop):Prop where
 | mk (ρ δ h ds h'):c7 K ρ H σ δ->cx K ρ h H->(m δ h=some (ds,h'))->(∀vs ρ' H',dP ρ H ρ' H'->cx K ρ' h' H'->aI K ρ' H' vs ds->Q vs H')->NT K m σ H Q
def Pw(K:FR)(m:AM):TA:=fun σ H Q=>NT K m σ H Q
inductive NO(K:FR)(m:SM)(E:Ends)(σ:L2.St)(H:Hp):Prop where
 | mk (ρ δ h fl δ' h'):c7 K ρ H σ δ->cx K ρ h H->(m δ h=some (fl,δ',h'))->(∀ρ' H',dP ρ H ρ' H'->cx K ρ' h' H'->
 match fl with
 | .nx=>∀σ',c7 K ρ' H' σ' δ'->E.nx σ' H'
 | .bk=>∀σ',c7 K ρ' H' σ' δ'->E.bk σ' H'
 | .ct=>∀σ',c7 K ρ' H' σ' δ'->E.ct σ' H'
 | .rt d=>∀v,Rep K ρ' H' v d->E.rt v H')->NO K m E σ H
def D2(K:FR)(m:SM):TS:=fun E σ H=>NO K m E σ H
inductive NS(K:FR)(m:GM)(v:V)(σ:L2.St)(H:Hp)(Q:L2.St->Hp->Prop):Prop where
 | mk (ρ δ h d δ' h'):c7 K ρ H σ δ->cx K ρ h H->Rep K ρ H v d->(m d δ h=some (δ',h'))->(∀ρ' H' σ',dP ρ H ρ' H'->cx K ρ' h' H'->c7 K ρ' H' σ' δ'->Q σ' H')->NS K m v σ H Q
def D3(K:FR)(m:GM):TG:=fun v σ H Q=>NS K m v σ H Q
def SE(X:Cx)(e:Expr)(m:EM):Prop:=PE X e (tM X.K m)
def ST(X:Cx)(e:Expr)(m:TM):Prop:=PT X e (BA X.K m)
def SW(X:Cx)(e:Expr)(m:TM):Prop:=PW X e (BA X.K m)
def SA(X:Cx)(es:List Expr)(m:AM):Prop:=PA X es (Pw X.K m)
def SS(X:Cx)(s:Stmt)(m:SM):Prop:=PS X s (D2 X.K m)
def IJ(X:Cx)(s:List Stmt)(m:SM):Prop:=zE X s (D2 X.K m)
def SG(X:Cx)(e:Expr)(m:GM):Prop:=PG X e (D3 X.K m)
theorem _root_.L2.PE.imp(h:PE X e t)(i:∀σ H Q,t' σ H Q->t σ H Q):PE X e t':=fun pins s σ H Q I q=>h pins s σ H Q I (i σ H Q q)
theorem _root_.L2.PT.imp(h:PT X e t)(i:∀σ H Q,t' σ H Q->t σ H Q):PT X e t':=fun pins s σ H Q I q=>h pins s σ H Q I (i σ H Q q)
theorem _root_.L2.PW.imp(h:PW X e t)(i:∀σ H Q,t' σ H Q->t σ H Q):PW X e t':=fun wh pins s σ H Q I q=>h wh pins s σ H Q I (i σ H Q q)
theorem _root_.L2.PA.imp(h:PA X e t)(i:∀σ H Q,t' σ H Q->t σ H Q):PA X e t':=fun pos pins s σ H Q I q=>h pos pins s σ H Q I (i σ H Q q)
theorem _root_.L2.PS.imp(h:PS X e t)(i:∀E σ H,t' E σ H->t E σ H):PS X e t':=fun pins s σ H E I q=>h pins s σ H E I (i E σ H q)
theorem _root_.L2.zE.imp(h:zE X e t)(i:∀E σ H,t' E σ H->t E σ H):zE X e t':=fun pins s σ H E I q=>h pins s σ H E I (i E σ H q)
theorem _root_.L2.PG.imp(h:PG X e t)(i:∀v σ H Q,t' v σ H Q->t v σ H Q):PG X e t':=fun pins s σ H v u Q I r q=>h pins s σ H v u Q I r (i v σ H Q q)
theorem bS(h:o.bind f=some b):∃a,o=some a∧f a=some b:=Uj.mp h
theorem gL(h:o.map f=some b):∃a,o=some a∧f a=b:=QL.mp h
theorem zx{x:D}{α:Type}{g:Bool->Option α}{z:α}(e:(match x with | .bl c=>g c | _=>none)=some z):∃c,x=.bl c∧g c=some z:=by
 cases x <;> first | exact absurd e (by intro z;cases z) | exact⟨_,rfl,e⟩
theorem fc.here(S:cx K ρ h H)(r:Rep K ρ H v d):fc K ρ H h d v H:=⟨ρ,.refl _ _,S,r⟩
theorem fc.step(T:dP ρ H ρ1 H1)(p:fc K ρ1 H1 h' d v H'):fc K ρ H h' d v H':=let⟨ρ2,T2,S2,r2⟩:=p;⟨ρ2,T.trans T2,S2,r2⟩
theorem fc.tup(S:cx K ρ h H)(r:aI K ρ H vs ds)(hp:H p=none):fc K ρ H h (.tup ds) (.ref p) (upd H p (.tup vs)):=
 ⟨ρ,dP.laid S hp,S.laid hp,.tup (.inl ⟨.inl bj,S.fresh hp⟩) (r.mono (dP.laid S hp).toCh)⟩
theorem fc.lv(S:cx K ρ h H)(r:aI K ρ H vs ds)(hp:H p=none):fc K ρ H h (.lv ds) (.ref p) (upd H p (.lst vs)):=
 ⟨ρ,dP.laid S hp,S.laid hp,.lv bj (S.fresh hp) (r.mono (dP.laid S hp).toCh)⟩
theorem fc.dv(S:cx K ρ h H)(r:bL K ρ H us ds)(hp:H p=none):fc K ρ H h (.dv ds) (.ref p) (upd H p (.dK us)):=
 ⟨ρ,dP.laid S hp,S.laid hp,.dv bj (S.fresh hp) (r.mono (dP.laid S hp).toCh)⟩
noncomputable def ae(i:Nat):EM:=fun δ h=>(δ[i]?).join.map fun d=>(d,h)
noncomputable def eK(d:D):EM:=fun _ h=>some (d,h)
noncomputable def az(f:D->D->MH->Option (D×MH))(a b:EM):EM:=fun δ h=>(a δ h).bind fun p=>(b δ p.2).bind fun q=>f p.1 q.1 q.2
noncomputable def B2(f:D->MH->Option (D×MH))(a:EM):EM:=fun δ h=>(a δ h).bind fun p=>f p.1 p.2
noncomputable def ai:AM:=fun _ h=>some ([],h)
noncomputable def ab(a:EM)(r:AM):AM:=fun δ h=>(a δ h).bind fun p=>(r δ p.2).bind fun q=>some (p.1::q.1,q.2)
noncomputable def ay(f:Fn)(a:AM):EM:=fun δ h=>(a δ h).bind fun p=>f p.1 p.2
noncomputable def Qc(t:TM)(a b:EM):EM:=fun δ h=>(t δ h).bind fun p=>if p.1 then a δ p.2 else b δ p.2
noncomputable def aL(a:EM):TM:=fun δ h=>(a δ h).bind fun p=>match p.1 with
 | .bl b=>some (b,p.2)
 | _=>none
noncomputable def fq(t:TM):TM:=fun δ h=>(t δ h).map fun p=>(!p.1,p.2)
noncomputable def qO(a b:TM):TM:=fun δ h=>(a δ h).bind fun p=>if p.1 then b δ p.2 else some (false,p.2)
noncomputable def rD(a b:TM):TM:=fun δ h=>(a δ h).bind fun p=>if p.1 then some (true,p.2) else b δ p.2
noncomputable def lI(a b:EM):EM:=fun δ h=>(a δ h).bind fun p=>match p.1 with
 | .bl c=>if c then b δ p.2 else some (.bl false,p.2)
 | _=>none
noncomputable def Pe(a b:EM):EM:=fun δ h=>(a δ h).bind fun p=>match p.1 with
 | .bl c=>if c then some (.bl true,p.2) else b δ p.2
 | _=>none
noncomputable def bJ:Fn:=fun ds h=>some (.tup ds,h)
inductive PL(K:FR)(f:D->D->MH->Option (D×MH))(x y:V)(H:Hp)(Q:VK):Prop where
 | mk (ρ h d e z h'):cx K ρ h H->Rep K ρ H x d->Rep K ρ H y e->(f d e h=some (z,h'))->(∀v H',fc K ρ H h' z v H'->Q v H')->PL K f x y H Q
def rS(K:FR)(f:D->D->MH->Option (D×MH)):R2:=fun x y H Q=>PL K f x y H Q
def oJ(X:Cx)(g:Value->Value->Sem Value)(f:D->D->MH->Option (D×MH)):Prop:=lX X g (rS X.K f)
inductive PK(K:FR)(f:D->MH->Option (D×MH))(x:V)(H:Hp)(Q:VK):Prop where
 | mk (ρ h d z h'):cx K ρ h H->Rep K ρ H x d->(f d h=some (z,h'))->(∀v H',fc K ρ H h' z v H'->Q v H')->PK K f x H Q
def rU(K:FR)(f:D->MH->Option (D×MH)):V->Hp->VK->Prop:=fun x H Q=>PK K f x H Q
inductive PQ(K:FR)(f:Fn)(vs:List V)(H:Hp)(Q:VK):Prop where
 | mk (ρ h ds z h'):cx K ρ h H->aI K ρ H vs ds->(f ds h=some (z,h'))->(∀v H',fc K ρ H h' z v H'->Q v H')->PQ K f vs H Q
def rF(K:FR)(f:Fn):List V->Hp->VK->Prop:=fun vs H Q=>PQ K f vs H Q
def gI(X:Cx)(g:Value)(f:Fn):Prop:=fe X g (rF X.K f)
section
variable {X:Cx} {a b c e:Expr} {es:List Expr} {pos:Pos} {ma mb mc:EM} {mt mu:TM} {m:AM} {f:D->D->MH->Option (D×MH)}
theorem JS(hN:X.N[i]?=some x)(hv:Mh X.env.scope x)(hd:(x==("__debug__":Str))=false:=by ac_nf)(hcd:(x==("__classdict__":Str))=false:=by ac_nf):SE X (.Name x pos) (ae i):=
 (KC hN hv hd hcd).imp fun σ H Q ⟨ρ,δ,h,d,h',R,S,e,k⟩=>by
  obtain⟨d',e1,e2⟩:=gL e;cases e2;obtain⟨v,ev,r⟩:=R.at_ i _ (Ui.mp e1);exact⟨v,ev,k v H (.here S r)⟩
theorem Cz(hp:PE X e (tC v))(hr:∀ρ H,Rep X.K ρ H v d):SE X e (eK d):=hp.imp fun σ H Q ⟨ρ,δ,h,d',h',R,S,ee,k⟩=>by
 cases ee;exact k v H (.here S (hr _ _))
theorem aj{i j}:SE X (.Constant (.int i) j pos) (eK (.int i)):=Cz KO fun _ _=>.int i
theorem dZ{b j}:SE X (.Constant (.bool b) j pos) (eK (.bl b)):=Cz Nc fun _ _=>.bl b
theorem gV{j}:SE X (.Constant .none j pos) (eK .cN):=Cz KL fun _ _=>.cN
theorem av{x j}(h:PyData.strOk x=true:=by decide+kernel):SE X (.Constant (.str x) j pos) (eK (.str x)):=Cz KH fun _ _=>.str h
theorem MN(hg:Gl X x)(hm:X.mg x=none)(hv:bootBuiltins x=some (.type n))(hn:x≠"__name__":=by decide)(hd:(x==("__debug__":Str))=false:=by ac_nf):SE X (.Name x pos) (eK (.ty n)):=
 Cz (Hw (v:=.ty n) hg hm hv rfl hn hd) fun _ _=>.ty n
theorem GL(hg:Gl X x)(hm:X.mg x=some u)(r:RelV v u)(hr:∀ρ H,Rep X.K ρ H v d)(hd:(x==("__debug__":Str))=false:=by ac_nf):SE X (.Name x pos) (eK d):=
 Cz (Hr hg hm r hd) hr
theorem BE(h:tM X.K (az f ma mb) σ H Q):MB (rS X.K f) (tM X.K ma) (tM X.K mb) σ H Q:=by
 obtain⟨ρ,δ,h,d,h',R,S,e,k⟩:=h;obtain⟨⟨x,h1⟩,e1,e⟩:=bS e;obtain⟨⟨y,h2⟩,e2,e3⟩:=bS e;refine⟨ρ,δ,h,x,h1,R,S,e1,fun v H1 ⟨ρ1,T1,S1,r1⟩=>?_⟩;refine⟨ρ1,δ,h1,y,h2,R.mono T1,S1,e2,fun u H2 ⟨ρ2,T2,S2,r2⟩=>?_⟩;exact⟨ρ2,h2,x,y,d,h',S2,r1.mono T2,r2,e3,fun w H3 p=>k w H3 (p.step (T1.trans T2))⟩
theorem aQ(ho:oJ X (binaryOp op) f)(ha:SE X a ma)(hb:SE X b mb):SE X (.BinOp a op b pos) (az f ma mb):=(Jd ho ha hb).imp fun _ _ _=>BE
theorem dw(ho:oJ X (compareOp op) f)(ha:SE X a ma)(hb:SE X b mb)(hm:behindInMarks op b=false):SE X (.Compare a [op] [b] pos) (az f ma mb):=(Hu ho ha hb hm).imp fun _ _ _=>BE
theorem aH{op:CmpOp}(ho:oJ X (compareOp op) f)(ha:SE X a ma)(hb:SE X b mb)(hm:behindInMarks op b=false):ST X (.Compare a [op] [b] pos) (aL (az f ma mb)):=
 (Ha ho ha hb hm).imp fun σ H Q ⟨ρ,δ,h,c,h',R,S,e,k⟩=>by
  obtain⟨⟨x,h1⟩,e1,e2⟩:=bS e;obtain⟨c',rfl,e2⟩:=zx e2;cases e2;refine BE ⟨ρ,δ,h,.bl c,h1,R,S,e1,fun v H' ⟨ρ',T,S',r⟩=>?_⟩;cases r;exact⟨c,rfl,k ρ' H' T S'⟩
theorem vj{op:UnaryOp}{f:D->MH->Option (D×MH)}(ho:NJ X (unaryOp op) (rU X.K f))(ha:SE X a ma):SE X (.UnaryOp op a pos) (B2 f ma):=(M8 ho ha).imp fun σ H Q ⟨ρ,δ,h,d,h',R,S,e,k⟩=>by
 obtain⟨⟨x,h1⟩,e1,e⟩:=bS e;exact⟨ρ,δ,h,x,h1,R,S,e1,fun v H1 ⟨ρ1,T1,S1,r1⟩=>⟨ρ1,h1,x,d,h',S1,r1,e,fun w H3 p=>k w H3 (p.step T1)⟩⟩
theorem af:SA X [] ai:=sR.imp fun σ H Q ⟨ρ,δ,h,d,h',R,S,e,k⟩=>by
 cases e;exact k [] ρ H (.refl _ _) S .nil
theorem aa(ha:SE X e ma)(hr:SA X es m)(hs:starEach (e::es) X.env=(false,eval e X.env)::starEach es X.env:=by ac_nf):SA X (e::es) (ab ma m):=
 (nJ ha hr hs).imp fun σ H Q ⟨ρ,δ,h,d,h',R,S,e,k⟩=>by
  obtain⟨⟨x,h1⟩,e1,e⟩:=bS e;obtain⟨⟨ys,h2⟩,e2,e3⟩:=bS e;cases e3;refine⟨ρ,δ,h,x,h1,R,S,e1,fun v H1 ⟨ρ1,T1,S1,r1⟩=>?_⟩;exact⟨ρ1,δ,h1,ys,h2,R.mono T1,S1,e2,fun vs ρ2 H2 T2 S2 rs=>k _ ρ2 H2 (T1.trans T2) S2 (.cons (r1.mono T2) rs)⟩
def oF(m:AM)(n:Nat):Prop:=∀δ h ds h',m δ h=some (ds,h')->ds.length=n
theorem aq:oF ai 0:=fun δ h ds h' e=>by cases e;rfl
theorem ag(hr:oF m n):oF (ab ma m) (n+1):=fun δ h ds h' e=>by
 obtain⟨⟨x,h1⟩,e1,e⟩:=bS e;obtain⟨⟨ys,h2⟩,e2,e3⟩:=bS e;cases e3;rw[QI,hr _ _ _ _ e2]
theorem aD{x1}(h:SA X es m)(hl:oF m n)(hn:n≤sizeLine:=by decide):SE X (.Tuple es x1 pos) (ay bJ m):=(KD h).imp fun σ H Q ⟨ρ,δ,h,d,h',R,S,e,k⟩=>by
 obtain⟨⟨x,h1⟩,e1,e⟩:=bS e;cases e;refine⟨ρ,δ,h,x,h1,R,S,e1,fun vs ρ1 H1 T1 S1 r1=>⟨by rw[r1.length,hl _ _ _ _ e1];exact hn,fun p hp=>k _ _ (fc.step T1 (.tup S1 r1 hp))⟩⟩
inductive NU(K:FR)(m:AM)(σ:L2.St)(H:Hp)(Q:VK):Prop where
 | mk (ρ δ h ds h'):c7 K ρ H σ δ->cx K ρ h H->(m δ h=some (ds,h'))->(∀ρ1 H1 p vs,dP ρ H ρ1 H1->cx K ρ1 h' H1->H1 p=none->aI K ρ1 H1 vs ds->Q (.ref p) (upd H1 p (.lst vs)))->NU K m σ H Q
def P6(K:FR)(m:AM):TE:=fun σ H Q=>NU K m σ H Q
def jR(X:Cx)(e:Expr)(m:AM):Prop:=PE X e (P6 X.K m)
noncomputable def fT(m:AM):EM:=fun δ h=>(m δ h).map fun p=>(.lv p.1,p.2)
noncomputable def xM(m:AM):EM:=fun δ h=>(m δ h).map fun p=>(.ob p.2.length,p.2++[.lst p.1])
theorem fc.ob(S:cx K ρ h H)(r:aI K ρ H vs ds)(hp:H p=none):fc K ρ H (h++[.lst ds]) (.ob h.length) (.ref p) (upd H p (.lst vs)):=
 ⟨ρ.more p,dP.made S hp,S.made hp ⟨vs,bj,r.mono (dP.made S hp).toCh⟩,.ob (show(ρ.ob++[p])[h.length]?=_ by rw[←S.len,QR (Qq _)];simp)⟩
theorem jR.lv(h:jR X e m):SE X e (fT m):=h.imp fun σ H Q ⟨ρ,δ,h,d,h',R,S,e,k⟩=>by
 obtain⟨⟨ds,h1⟩,e1,e2⟩:=gL e;cases e2;exact⟨ρ,δ,h,ds,h1,R,S,e1,fun ρ1 H1 p vs T S1 hp r=>k _ _ (fc.step T (.lv S1 r hp))⟩
theorem jR.ob(h:jR X e m):SE X e (xM m):=h.imp fun σ H Q ⟨ρ,δ,h,d,h',R,S,e,k⟩=>by
 obtain⟨⟨ds,h1⟩,e1,e2⟩:=gL e;cases e2;exact⟨ρ,δ,h,ds,h1,R,S,e1,fun ρ1 H1 p vs T S1 hp r=>k _ _ (fc.step T (.ob S1 r hp))⟩
theorem cy(h:SA X es m)(hl:oF m n)(hn:n≤sizeLine:=by decide):jR X (.List es pos) m:=(KN h).imp fun σ H Q ⟨ρ,δ,h,ds,h',R,S,e,k⟩=>
 ⟨ρ,δ,h,ds,h',R,S,e,fun vs ρ1 H1 T1 S1 r1=>⟨by rw[r1.length,hl _ _ _ _ e];exact hn,fun p hp=>k ρ1 H1 p vs T1 S1 hp r1⟩⟩
noncomputable def PF:EM:=fun _ h=>some (.dv [],h)
noncomputable def Qd:EM:=fun _ h=>some (.ob h.length,h++[.dct []])
theorem MS:SE X (.Dict [] [] pos) PF:=ET.imp fun σ H Q ⟨ρ,δ,h,d,h',R,S,e,k⟩ p hp=>by
 cases e;exact k _ _ (.dv S .nil hp)
theorem GY{σ:St}{H:Hp}{Q:Bool->Hp->Prop}(h:BA X.K (aL ma) σ H Q):tM X.K ma σ H fun x H1=>∃c,x=.bl c∧Q c H1:=by
 obtain⟨ρ,δ,h,c,h',R,S,e,k⟩:=h;obtain⟨⟨x,h1⟩,e1,e2⟩:=bS e;obtain⟨c',rfl,e2⟩:=zx e2;cases e2;refine⟨ρ,δ,h,.bl c,h1,R,S,e1,fun v H' ⟨ρ',T,S',r⟩=>?_⟩;cases r;exact⟨c,rfl,k ρ' H' T S'⟩
theorem bX(h:ST X a mt):ST X (.UnaryOp .Not a pos) (fq mt):=(Kp h).imp fun σ H Q ⟨ρ,δ,h,c,h',R,S,e,k⟩=>by
 obtain⟨⟨x,h1⟩,e1,e2⟩:=gL e;cases e2;exact⟨ρ,δ,h,x,h1,R,S,e1,fun ρ' H' T S'=>k ρ' H' T S'⟩
theorem kT(h:ST X a mt):SW X (.BoolOp .And [a] pos) mt:=G9 h
theorem dX(h:ST X a mt):SW X (.BoolOp .Or [a] pos) mt:=Kn h
theorem lZ{rest:List Expr}(ha:ST X a mt)(hb:SW X (.BoolOp .And (b::rest) pos) mu):SW X (.BoolOp .And (a::b::rest) pos) (qO mt mu):=(Ko ha hb).imp fun σ H Q ⟨ρ,δ,h,c,h',R,S,e,k⟩=>by
 obtain⟨⟨x,h1⟩,e1,e2⟩:=bS e;refine⟨ρ,δ,h,x,h1,R,S,e1,fun ρ' H' T S'=>?_⟩;cases x with
 | true=>rw[Qp rfl] at e2 ⊢;exact⟨ρ',δ,h1,c,h',R.mono T,S',e2,fun ρ2 H2 T2 S2=>k ρ2 H2 (T.trans T2) S2⟩
 | false=>rw[Qu (by simp)] at e2 ⊢;cases e2;exact k ρ' H' T S'
theorem fy{rest:List Expr}(ha:ST X a mt)(hb:SW X (.BoolOp .Or (b::rest) pos) mu):SW X (.BoolOp .Or (a::b::rest) pos) (rD mt mu):=(M6 ha hb).imp fun σ H Q ⟨ρ,δ,h,c,h',R,S,e,k⟩=>by
 obtain⟨⟨x,h1⟩,e1,e2⟩:=bS e;refine⟨ρ,δ,h,x,h1,R,S,e1,fun ρ' H' T S'=>?_⟩;cases x with
 | false=>rw[Qu (by simp)] at e2 ⊢;exact⟨ρ',δ,h1,c,h',R.mono T,S',e2,fun ρ2 H2 T2 S2=>k ρ2 H2 (T.trans T2) S2⟩
 | true=>rw[Qp rfl] at e2 ⊢;cases e2;exact k ρ' H' T S'
theorem SW.st(h:SW X a mt):ST X a mt:=PW.pt h
theorem fZ{op}(h:SE X a ma):SE X (.BoolOp op [a] pos) ma:=KI h
theorem fK{rest:List Expr}(ha:SE X a ma)(hb:SE X (.BoolOp .And (b::rest) pos) mb):SE X (.BoolOp .And (a::b::rest) pos) (lI ma mb):=(KQ ha hb).imp fun σ H Q ⟨ρ,δ,h,d,h',R,S,e,k⟩=>by
 obtain⟨⟨x,h1⟩,e1,e2⟩:=bS e;obtain⟨c,rfl,e2⟩:=zx e2;refine⟨ρ,δ,h,.bl c,h1,R,S,e1,fun v H' ⟨ρ',T,S',r⟩=>?_⟩;cases r;refine⟨c,rfl,?_⟩;cases c with
 | true=>rw[Qp rfl] at e2 ⊢;exact⟨ρ',δ,h1,d,h',R.mono T,S',e2,fun v H2 p=>k v H2 (p.step T)⟩
 | false=>rw[Qu (by simp)] at e2 ⊢;cases e2;exact k _ _ ⟨ρ',T,S',.bl _⟩
theorem MP{rest:List Expr}(ha:SE X a ma)(hb:SE X (.BoolOp .Or (b::rest) pos) mb):SE X (.BoolOp .Or (a::b::rest) pos) (Pe ma mb):=(M9 ha hb).imp fun σ H Q ⟨ρ,δ,h,d,h',R,S,e,k⟩=>by
 obtain⟨⟨x,h1⟩,e1,e2⟩:=bS e;obtain⟨c,rfl,e2⟩:=zx e2;refine⟨ρ,δ,h,.bl c,h1,R,S,e1,fun v H' ⟨ρ',T,S',r⟩=>?_⟩;cases r;refine⟨c,rfl,?_⟩;cases c with
 | false=>rw[Qu (by simp)] at e2 ⊢;exact⟨ρ',δ,h1,d,h',R.mono T,S',e2,fun v H2 p=>k v H2 (p.step T)⟩
 | true=>rw[Qp rfl] at e2 ⊢;cases e2;exact k _ _ ⟨ρ',T,S',.bl _⟩
noncomputable def Il(a:EM):EM:=fun δ h=>(a δ h).bind fun p=>match p.1 with
 | .bl c=>some (.bl (!c),p.2)
 | _=>none
theorem Ee(ha:SE X a ma):SE X (.UnaryOp .Not a pos) (Il ma):=(KJ ha).imp fun σ H Q ⟨ρ,δ,h,d,h',R,S,e,k⟩=>by
 obtain⟨⟨x,h1⟩,e1,e2⟩:=bS e;obtain⟨c,rfl,e2⟩:=zx e2;cases e2;refine⟨ρ,δ,h,.bl c,h1,R,S,e1,fun v H' ⟨ρ',T,S',r⟩=>?_⟩;cases r;exact⟨c,rfl,k _ _ ⟨ρ',T,S',.bl _⟩⟩
noncomputable def D0(d:D)(h:MH):Option Bool:=match d with
 | .cN=>some false
 | .bl b=>some b
 | .int i=>some (i !=0)
 | .str x=>if x.length≤sizeLine then some ((x.length:Int) !=0) else none
 | .tup xs=>some (!xs.isEmpty)
 | .dv kvs=>some (!kvs.isEmpty)
 | .ob n=>match h[n]? with
  | some (.lst xs)=>some (!xs.isEmpty)
  | some (.dct kvs)=>some (!kvs.isEmpty)
  | none=>none
 | .lv xs=>some (!xs.isEmpty)
 | .ro xs=>some (!xs.isEmpty)
 | .ty _=>none
noncomputable def eX(a:EM):TM:=fun δ h=>(a δ h).bind fun p=>(D0 p.1 p.2).map fun c=>(c,p.2)
theorem bL.isEmpty(t:bL K ρ H us ds):us.isEmpty=ds.isEmpty:=by cases t <;> rfl
theorem GD{K:FR}{ρ:Ad}{H:Hp}{h:MH}{v:V}{d:D}{c:Bool}(S:cx K ρ h H)(r:Rep K ρ H v d)(e:D0 d h=some c):L3 K v H c:=by
 cases r with
 | cN=>cases e;exact rfl
 | bl b=>cases e;exact rfl
 | int i=>cases e;exact rfl
 | str hs=>
  unfold D0 at e
  by_cases z:‹Str›.length≤sizeLine
  ·simp only[Qp z] at e;cases e;exact⟨z,rfl⟩
  ·simp only[Qu z] at e;cases e
 | ty n=>cases e
 | tup ht l=>cases e;exact .inr (.inl ⟨_,ht.sq,by rw[l.isEmpty]⟩)
 | lv ht n l=>cases e;exact .inl ⟨_,gH.of ht,by rw[l.isEmpty]⟩
 | ro ht l=>cases e;exact .inl ⟨_,ht.sq,by rw[l.isEmpty]⟩
 | dv ht n l=>cases e;exact .inr (.inr ⟨_,ht,by rw[l.isEmpty]⟩)
 | ob hn=>
  unfold D0 at e;rename_i a n;cases q:h[n]? with
  | none=>simp only[q] at e;cases e
  | some o=>
   have x:=S.at_ n a o hn q;cases o with
   | lst ds=>simp only[q] at e;cases e;obtain⟨vs,e1,l⟩:=x;exact .inl ⟨_,gH.of e1,by rw[l.isEmpty]⟩
   | dct ds=>simp only[q] at e;cases e;obtain⟨vs,e1,l⟩:=x;exact .inr (.inr ⟨_,e1,by rw[l.isEmpty]⟩)
theorem bN(ha:SE X a ma)(he:∀whole,isTrue a X.env whole=(do let v←whole;standAt a.pos;holding [v] (truthy v)):=by intro _;ac_nf):ST X a (eX ma):=(ED ha he).imp fun σ H Q ⟨ρ,δ,h,c,h',R,S,e,k⟩=>by
 obtain⟨⟨x,h1⟩,e1,e2⟩:=bS e;obtain⟨c',e3,e4⟩:=gL e2;cases e4;exact⟨ρ,δ,h,x,h1,R,S,e1,fun v H' ⟨ρ',T,S',r⟩=>⟨c,GD S' r e3,k ρ' H' T S'⟩⟩
end
mutual
noncomputable def ID:D->D->Bool
 | .cN,.cN=>true
 | .bl a,.bl b=>a==b
 | .int a,.int b=>a==b
 | .str a,.str b=>decide (a=b)
 | .ty a,.ty b=>a==b
 | .tup a,.tup b=>Bo a b
 | .lv a,.lv b=>Bo a b
 | .ro a,.ro b=>Bo a b
 | .dv a,.dv b=>F9 a b
 | .ob a,.ob b=>a==b
 | _,_=>false
noncomputable def Bo:List D->List D->Bool
 | [],[]=>true
 | a::r,b::s=>ID a b&&Bo r s
 | _,_=>false
noncomputable def F9:List (Key×D)->List (Key×D)->Bool
 | [],[]=>true
 |(k,a)::r,(j,b)::s=>decide (k=j)&&ID a b&&F9 r s
 | _,_=>false
end
mutual
theorem Ce:∀(a b:D),ID a b=true->a=b
 | .cN,b,h=>by cases b <;> first | rfl |(cases h;done)
 | .bl x,b,h=>by cases b <;> first | exact congrArg _ (eq_of_beq h) |(cases h;done)
 | .int x,b,h=>by cases b <;> first | exact congrArg _ (eq_of_beq h) |(cases h;done)
 | .str x,b,h=>by cases b <;> first | exact congrArg _ (Q3 h) |(cases h;done)
 | .ty x,b,h=>by cases b <;> first | exact congrArg _ (eq_of_beq h) |(cases h;done)
 | .ob x,b,h=>by cases b <;> first | exact congrArg _ (eq_of_beq h) |(cases h;done)
 | .tup x,b,h=>by cases b <;> first | exact congrArg _ (oq _ _ h) |(cases h;done)
 | .lv x,b,h=>by cases b <;> first | exact congrArg _ (oq _ _ h) |(cases h;done)
 | .ro x,b,h=>by cases b <;> first | exact congrArg _ (oq _ _ h) |(cases h;done)
 | .dv x,b,h=>by cases b <;> first | exact congrArg _ (xZ _ _ h) |(cases h;done)
theorem oq:∀(a b:List D),Bo a b=true->a=b
 | [],b,h=>by cases b <;> first | rfl |(cases h;done)
 | x::r,b,h=>by
  cases b with
  | nil=>cases h
  | cons y s=>have h:=Q1.mp h;rw[Ce _ _ h.1,oq _ _ h.2]
theorem xZ:∀(a b:List (Key×D)),F9 a b=true->a=b
 | [],b,h=>by cases b <;> first | rfl |(cases h;done)
 |(k,x)::r,b,h=>by
  cases b with
  | nil=>cases h
  | cons y s=>
   obtain⟨j,y⟩:=y;have h:=Q1.mp h;have g:=Q1.mp h.1;rw[Q3 g.1,Ce _ _ g.2,xZ _ _ h.2]
end
mutual
theorem v9:∀(a:D),ID a a=true
 | .cN=>rfl
 | .bl x=>Sg x
 | .int x=>Sg x
 | .str x=>Q8 rfl
 | .ty x=>Sg x
 | .ob x=>Sg x
 | .tup x=>ja x
 | .lv x=>ja x
 | .ro x=>ja x
 | .dv x=>p8 x
theorem ja:∀(a:List D),Bo a a=true
 | []=>rfl
 | x::r=>Q1.mpr ⟨v9 x,ja r⟩
theorem p8:∀(a:List (Key×D)),F9 a a=true
 | []=>rfl
 |(k,x)::r=>Q1.mpr ⟨Q1.mpr ⟨Q8 rfl,v9 x⟩,p8 r⟩
end
noncomputable def DE:MO->MO->Bool
 | .lst a,.lst b=>Bo a b
 | .dct a,.dct b=>F9 a b
 | _,_=>false
theorem Cb(h:DE a b=true):a=b:=by
 cases a <;> cases b <;> simp[DE] at h
 ·rw[oq _ _ h]
 ·rw[xZ _ _ h]
theorem DD(a:MO):DE a a=true:=by
 cases a with
 | lst x=>exact ja x
 | dct x=>exact p8 x
noncomputable def x3:MH->MH->Bool
 | [],[]=>true
 | a::r,b::s=>DE a b&&x3 r s
 | _,_=>false
theorem Cc:∀{a b:MH},x3 a b=true->a=b
 | [],b,h=>by cases b <;> first | rfl | simp[x3] at h
 | x::r,b,h=>by
  cases b with
  | nil=>simp[x3] at h
  | cons y s=>simp[x3] at h;rw[Cb h.1,Cc h.2]
noncomputable def bH:SM:=fun δ h=>some (.nx,δ,h)
noncomputable def OE:SM:=fun δ h=>some (.bk,δ,h)
noncomputable def MU:SM:=fun δ h=>some (.ct,δ,h)
noncomputable def aw(a b:SM):SM:=fun δ h=>(a δ h).bind fun r=>match r.1 with
 | .nx=>b r.2.1 r.2.2
 | _=>some r
noncomputable def bg(i:Nat)(e:EM):SM:=fun δ h=>(e δ h).bind fun p=>some (.nx,δ.set i (some p.1),p.2)
noncomputable def lD(e:EM)(g:GM):SM:=fun δ h=>(e δ h).bind fun p=>(g p.1 δ p.2).bind fun q=>some (.nx,q.1,q.2)
noncomputable def g6(e:EM):SM:=fun δ h=>(e δ h).bind fun p=>some (.nx,δ,p.2)
noncomputable def aR(e:EM):SM:=fun δ h=>(e δ h).bind fun p=>some (.rt p.1,δ,p.2)
noncomputable def fh(t:TM)(a b:SM):SM:=fun δ h=>(t δ h).bind fun p=>if p.1 then a δ p.2 else b δ p.2
noncomputable def Em(i:Nat)(f:D->D->MH->Option (D×MH))(e:EM):SM:=fun δ h=>((δ[i]?).join).bind fun x=>(e δ h).bind fun p=>(f x p.1 p.2).bind fun q=>some (.nx,δ.set i (some q.1),q.2)
noncomputable def gN(i:Nat):GM:=fun d δ h=>some (δ.set i (some d),h)
abbrev GA:=List D->DS->MH->Option (DS×MH)
noncomputable def cP:GA:=fun ds δ h=>match ds with
 | []=>some (δ,h)
 | _=>none
noncomputable def aC(g:GM)(u:GA):GA:=fun ds δ h=>match ds with
 | []=>none
 | d::r=>(g d δ h).bind fun p=>u r p.1 p.2
noncomputable def gT(n:Nat)(u:GA):GM:=fun d δ h=>match d with
 | .tup xs=>if xs.length=n then u xs δ h else none
 | _=>none
abbrev W:=List (Nat×MO)
abbrev IM:=DS->MH->Option (List D×W×MH)
noncomputable def lJ:W->MH->Bool
 | [],_=>true
 |(n,o)::r,h=>(match h[n]? with | some u=>DE u o | none=>false)&&lJ r h
noncomputable def nU(ws:W)(g:GM)(b:SM):List D->SM
 | [],δ,h=>if lJ ws h then some (.nx,δ,h) else none
 | x::r,δ,h=>if lJ ws h then(g x δ h).bind fun q=>(b q.1 q.2).bind fun z=>match z.1 with
  | .nx=>nU ws g b r z.2.1 z.2.2
  | .ct=>nU ws g b r z.2.1 z.2.2
  | .bk=>some (.nx,z.2.1,z.2.2)
  | .rt d=>some (.rt d,z.2.1,z.2.2)
  else none
noncomputable def jP(i:IM)(g:GM)(b:SM):SM:=fun δ h=>(i δ h).bind fun p=>nU p.2.1 g b p.1 δ p.2.2
noncomputable def jg(c:TM)(b:SM):Nat->SM
 | 0,_,_=>none
 | n+1,δ,h=>(c δ h).bind fun p=>if p.1 then(b δ p.2).bind fun z=>match z.1 with
   | .nx=>jg c b n z.2.1 z.2.2
   | .ct=>jg c b n z.2.1 z.2.2
   | .bk=>some (.nx,z.2.1,z.2.2)
   | .rt d=>some (.rt d,z.2.1,z.2.2)
  else some (.nx,δ,p.2)
section
variable {X:Cx} {a b c e tg iter:Expr} {es:List Expr} {st:Stmt} {sts rest:List Stmt} {pos:Pos} {ma mb:EM} {mt:TM} {ms mu:SM} {m:AM} {g:GM} {gs:GA}
theorem aF:IJ X [] bH:=He.imp fun E σ H ⟨ρ,δ,h,fl,δ',h',R,S,e,k⟩=>by
 cases e;exact k ρ H (.refl _ _) S σ R
theorem J3(hh:D2 X.K (aw ms mu) E σ H):My (D2 X.K ms) (D2 X.K mu) E σ H:=by
 obtain⟨ρ,δ,h,fl,δ',h',R,S,e,k⟩:=hh;obtain⟨⟨f1,δ1,h1⟩,e1,e2⟩:=bS e;cases f1 with
 | nx=>exact⟨ρ,δ,h,.nx,δ1,h1,R,S,e1,fun ρ1 H1 T1 S1 σ' R'=>⟨ρ1,δ1,h1,fl,δ',h',R',S1,e2,fun ρ2 H2 T2 S2=>k ρ2 H2 (T1.trans T2) S2⟩⟩
 | bk=>cases e2;exact⟨ρ,δ,h,.bk,_,_,R,S,e1,fun ρ1 H1 T1 S1=>k ρ1 H1 T1 S1⟩
 | ct=>cases e2;exact⟨ρ,δ,h,.ct,_,_,R,S,e1,fun ρ1 H1 T1 S1=>k ρ1 H1 T1 S1⟩
 | rt d=>cases e2;exact⟨ρ,δ,h,.rt d,_,_,R,S,e1,fun ρ1 H1 T1 S1=>k ρ1 H1 T1 S1⟩
theorem ah(h1:SS X st ms)(h2:IJ X rest mu):IJ X (st::rest) (aw ms mu):=(EF h1 h2).imp fun _ _ _=>J3
theorem ak(h1:SS X st ms):IJ X [st] ms:=Hb h1
theorem Ab(hh:D2 X.K (bg i ma) E σ H):Cr (tM X.K ma) (qx i) E σ H:=by
 obtain⟨ρ,δ,h,fl,δ',h',R,S,e,k⟩:=hh;obtain⟨⟨x,h1⟩,e1,e2⟩:=bS e;cases e2;exact⟨ρ,δ,h,x,h1,R,S,e1,fun v H1 ⟨ρ1,T1,S1,r1⟩=>k ρ1 H1 T1 S1 _ ((R.mono T1).set r1 i)⟩
theorem JJ(hN:X.N.Nodup)(hi:X.N[i]?=some x)(hx:Loc X.env.scope x)(he:SE X e ma)(hs:swapsWith e (some (.Name x pos')) pos.line X.env=pure false:=by ac_nf)(hf:X.fn x=true∨X.env.scope.names.lookup x=some .local:=by first | exact .inl rfl | exact .inr rfl | assumption):SS X (.Assign [.Name x pos'] e pos) (bg i ma):=(Kr hN hi hx he hs hf).imp fun _ _ _=>Ab
theorem GK(hN:X.N.Nodup)(hi:X.N[i]?=some x)(hx:Loc X.env.scope x)(hf:X.fn x=true∨X.env.scope.names.lookup x=some .local:=by first | exact .inl rfl | exact .inr rfl | assumption):SG X (.Name x pos) (gN i):=
 (Hq hN hi hx hf).imp fun v σ H Q ⟨ρ,δ,h,d,δ',h',R,S,r,e,k⟩=>by
  cases e;exact k ρ H _ (.refl _ _) S (R.set r i)
inductive Jn(K:FR)(m:GA)(vs:List V)(σ:L2.St)(H:Hp)(Q:L2.St->Hp->Prop):Prop where
 | mk (ρ δ h ds δ' h'):c7 K ρ H σ δ->cx K ρ h H->aI K ρ H vs ds->(m ds δ h=some (δ',h'))->(∀ρ' H' σ',dP ρ H ρ' H'->cx K ρ' h' H'->c7 K ρ' H' σ' δ'->Q σ' H')->Jn K m vs σ H Q
noncomputable def Ow(K:FR)(m:GA):L4:=fun vs σ H Q=>Jn K m vs σ H Q
def Oa(X:Cx)(es:List Expr)(m:GA):Prop:=Jr X es (Ow X.K m)
theorem _root_.L2.Jr.imp{X:Cx}{e:List Expr}{t t':L4}(h:Jr X e t)(i:∀v σ H Q,t' v σ H Q->t v σ H Q):Jr X e t':=fun pins s σ H v u Q I r q=>h pins s σ H v u Q I r (i v σ H Q q)
theorem bQ:Oa X [] cP:=Ho.imp fun v σ H Q ⟨ρ,δ,h,d,δ',h',R,S,r,e,k⟩=>by
 cases r with
 | nil=>cases e;exact⟨rfl,k ρ H σ (.refl _ _) S R⟩
 | cons _ _=>cases e
theorem ax(h1:SG X e g)(h2:Oa X es gs)(hs:(assignEach (e::es) X.env).map (·.2)=assign e X.env::(assignEach es X.env).map (·.2):=by ac_nf):Oa X (e::es) (aC g gs):=(EO h1 h2 hs).imp fun v σ H Q ⟨ρ,δ,h,d,δ',h',R,S,r,e,k⟩=>by
 cases r with
 | nil=>cases e
 | cons r rs=>
  obtain⟨⟨δ1,h1⟩,e1,e2⟩:=bS e;exact⟨_,_,rfl,ρ,δ,h,_,δ1,h1,R,S,r,e1,fun ρ1 H1 σ1 T1 S1 R1=>⟨ρ1,δ1,h1,_,δ',h',R1,S1,rs.mono T1,e2,fun ρ2 H2 σ2 T2 S2 R2=>k ρ2 H2 σ2 (T1.trans T2) S2 R2⟩⟩
theorem cE(hc:X.calm=true)(h:Oa X es gs)(hn:(assignEach es X.env).length=n:=by ac_nf)(hst:(assignEach es X.env).findIdx? (·.1)=none:=by ac_nf):SG X (.Tuple es k0 pos) (gT n gs):=
 (Kz hc h hn hst).imp fun v σ H Q ⟨ρ,δ,h,d,δ',h',R,S,r,e,k⟩=>by
  cases r <;> first |(exact absurd e (by intro z;cases z)) | skip
  rename_i a vs ds ht l _;unfold gT at e;dsimp only at e
  by_cases z:ds.length=n
  ·rw[Qp z] at e;exact⟨a,vs,rfl,ht.sq,by rw[l.length];exact z,ρ,δ,h,ds,δ',h',R,S,l,e,k⟩
  ·rw[Qu z] at e;cases e
theorem fI(he:SE X e ma)(hg:SG X tg g)(hs:swapsWithSole [tg] e pos.line X.env=pure false:=by ac_nf)(hw:swappedStores [tg] e X.env=pure none:=by ac_nf)
  (h1:(assignEach [tg] X.env).map (·.2)=[assign tg X.env]:=by ac_nf):SS X (.Assign [tg] e pos) (lD ma g):=(Kv he hg hs hw h1).imp fun E σ H ⟨ρ,δ,h,fl,δ',h',R,S,e,k⟩=>by
 obtain⟨⟨x,h1⟩,e1,e2⟩:=bS e;obtain⟨⟨δ2,h2⟩,e4,e3⟩:=bS e2;cases e3;exact⟨ρ,δ,h,x,h1,R,S,e1,fun v H1 ⟨ρ1,T1,S1,r1⟩=>⟨ρ1,δ,h1,x,_,_,R.mono T1,S1,r1,e4,fun ρ2 H2 σ2 T2 S2 R2=>k ρ2 H2 (T1.trans T2) S2 σ2 R2⟩⟩
theorem fg(he:SE X e ma)(hs:swapsWith e none pos.line X.env=pure false:=by ac_nf):SS X (.Expr e pos) (g6 ma):=(Hg he hs).imp fun E σ H ⟨ρ,δ,h,fl,δ',h',R,S,e,k⟩=>by
 obtain⟨⟨x,h1⟩,e1,e2⟩:=bS e;cases e2;exact⟨ρ,δ,h,x,h1,R,S,e1,fun v H1 ⟨ρ1,T1,S1,r1⟩=>k ρ1 H1 T1 S1 σ (R.mono T1)⟩
theorem ar(he:SE X e ma):SS X (.Return (some e) pos) (aR ma):=(Ks he).imp fun E σ H ⟨ρ,δ,h,fl,δ',h',R,S,e,k⟩=>by
 obtain⟨⟨x,h1⟩,e1,e2⟩:=bS e;cases e2;exact⟨ρ,δ,h,x,h1,R,S,e1,fun v H1 ⟨ρ1,T1,S1,r1⟩=>k ρ1 H1 T1 S1 v r1⟩
theorem aX(hc:ST X c mt)(ha:IJ X sa ms)(hb:IJ X sb mu):SS X (.If c sa sb pos) (fh mt ms mu):=(M7 hc ha hb).imp fun E σ H ⟨ρ,δ,h,fl,δ',h',R,S,e,k⟩=>by
 obtain⟨⟨x,h1⟩,e1,e2⟩:=bS e;refine⟨ρ,δ,h,x,h1,R,S,e1,fun ρ1 H1 T1 S1=>?_⟩;cases x with
 | true=>rw[Qp rfl] at e2 ⊢;exact⟨ρ1,δ,h1,fl,δ',h',R.mono T1,S1,e2,fun ρ2 H2 T2 S2=>k ρ2 H2 (T1.trans T2) S2⟩
 | false=>rw[Qu (by simp)] at e2 ⊢;exact⟨ρ1,δ,h1,fl,δ',h',R.mono T1,S1,e2,fun ρ2 H2 T2 S2=>k ρ2 H2 (T1.trans T2) S2⟩
structure Ml(K:FR)(J:It)(ρ:Ad)(H:Hp)(ws:W)(xs:List D):Prop where
 run:∀ρ1 H1 h1,Ch ρ H ρ1 H1->cx K ρ1 h1 H1->lJ ws h1=true->∀i:Nat,(xs.length≤i->J.stop i H1)∧∀x,xs[i]?=some x->J.go i H1∧∀v H2,J.IV i H1 v H2->dP ρ1 H1 ρ1 H2∧cx K ρ1 h1 H2∧Rep K ρ1 H2 v x
inductive NR(K:FR)(m:IM)(σ:L2.St)(H:Hp)(R:It->Hp->Prop):Prop where
 | mk (ρ δ h xs ws h'):c7 K ρ H σ δ->cx K ρ h H->(m δ h=some (xs,ws,h'))->(∀J ρ1 H1,dP ρ H ρ1 H1->cx K ρ1 h' H1->Ml K J ρ1 H1 ws xs->R J H1)->NR K m σ H R
def Mc(K:FR)(m:IM):TI:=fun σ H R=>NR K m σ H R
def SI(X:Cx)(tg iter:Expr)(m:IM):Prop:=PI X tg iter (Mc X.K m)
theorem _root_.L2.PI.imp(h:PI X tg e t)(i:∀σ H Q,t' σ H Q->t σ H Q):PI X tg e t':=fun pins s σ H R I q=>h pins s σ H R I (i σ H R q)
theorem Ka(hh:D2 X.K (jP mi g ms) E σ H):ME (Mc X.K mi) (D3 X.K g) (D2 X.K ms) E σ H:=by
 obtain⟨ρ,δ,h,fl,δ',h',R,S,e,k⟩:=hh;obtain⟨⟨xs,ws,h1⟩,e1,e2⟩:=bS e;refine⟨ρ,δ,h,xs,ws,h1,R,S,e1,fun J ρ1 H1 T1 S1 It=>?_⟩;refine⟨fun i m σ2 H2=>∃ρ2 δ2 h2,m=xs.length-i∧i≤xs.length∧dP ρ1 H1 ρ2 H2∧c7 X.K ρ2 H2 σ2 δ2∧cx X.K ρ2 h2 H2∧nU ws g ms (xs.drop i) δ2 h2=some (fl,δ',h'),⟨_,ρ1,δ,h1,rfl,Rw _,.refl _ _,R.mono T1,S1,e2⟩,?_⟩;rintro i m σ2 H2 ⟨ρ2,δ2,h2,rfl,hi,T2,R2,S2,e3⟩;cases q:xs.drop i with
 | nil=>
  rw[q] at e3;unfold nU at e3
  by_cases hc:lJ ws h2=true
  ·rw[Qp hc] at e3;cases e3;have hl:xs.length≤i:=by have:=congrArg List.length q;rw[Tx,R3] at this;lia
   exact .inl ⟨(It.run ρ2 H2 _ T2 S2 hc i).1 hl,k ρ2 H2 (T1.trans T2) S2 σ2 R2⟩
  ·rw[Qu hc] at e3;cases e3
 | cons x r=>
  rw[q] at e3;unfold nU at e3
  by_cases hc:lJ ws h2=true
  ·rw[Qp hc] at e3;have hx:xs[i]?=some x:=by
    have:=congrArg (fun l=>l[0]?) q
    simpa using this
   have hlt:i < xs.length:=(Qo.mp hx).1;have hr:xs.drop (i+1)=r:=by
    have:=congrArg List.tail q
    simpa using this
   obtain⟨⟨δ3,h3⟩,e4,e5⟩:=bS e3;obtain⟨⟨f4,δ4,h4⟩,e6,e7⟩:=bS e5;obtain⟨hgo,hy⟩:=(It.run ρ2 H2 h2 T2 S2 hc i).2 x hx;have NN:∀ρ5 H5 σ5,dP ρ2 H2 ρ5 H5->cx X.K ρ5 h4 H5->c7 X.K ρ5 H5 σ5 δ4->nU ws g ms r δ4 h4=some (fl,δ',h')->
     ∃m',m' < xs.length-i∧(∃ρ2 δ2 h2,m'=xs.length-(i+1)∧i+1≤xs.length∧dP ρ1 H1 ρ2 H5∧c7 X.K ρ2 H5 σ5 δ2∧cx X.K ρ2 h2 H5∧nU ws g ms (xs.drop (i+1)) δ2 h2=some (fl,δ',h')):=
    fun ρ5 H5 σ5 T5 S5 R5 e8=>⟨xs.length-(i+1),by lia,ρ5,δ4,h4,rfl,hlt,T2.trans T5,R5,S5,by rw[hr];exact e8⟩
   refine .inr ⟨hgo,fun σ5 H5=>∃ρ5,dP ρ2 H2 ρ5 H5∧cx X.K ρ5 h4 H5∧c7 X.K ρ5 H5 σ5 δ4∧nU ws g ms r δ4 h4=some (fl,δ',h'),fun σ5 H5 ⟨ρ5,T5,S5,R5,e8⟩=>NN ρ5 H5 σ5 T5 S5 R5 e8,fun v H3 y3=>?_⟩;obtain⟨T3,S3,r3⟩:=hy v H3 y3;refine⟨ρ2,δ2,h2,x,δ3,h3,R2.mono T3,S3,r3,e4,fun ρ4 H4 σ4 T4 S4 R4=>?_⟩;refine⟨ρ4,δ3,h3,f4,δ4,h4,R4,S4,e6,fun ρ5 H5 T5 S5=>?_⟩;have T25:dP ρ2 H2 ρ5 H5:=T3.trans (T4.trans T5);cases f4 with
   | nx=>exact fun σ' R'=>⟨ρ5,T25,S5,R',e7⟩
   | ct=>exact fun σ' R'=>⟨ρ5,T25,S5,R',e7⟩
   | bk=>cases e7;exact fun σ' R'=>k ρ5 H5 (T1.trans (T2.trans T25)) S5 σ' R'
   | rt d=>cases e7;exact fun v r=>k ρ5 H5 (T1.trans (T2.trans T25)) S5 v r
  ·rw[Qu hc] at e3;cases e3
theorem fH(hp:PassesOwn (model X.prog X.w) X.A X.env X.xe)(hc:X.calm=true)(hi:SI X tg iter mi)(hg:SG X tg g)(hb:IJ X body ms)(hs:∀x,foldedSetIterable iter X.env x=pure x:=by intro _;ac_nf):SS X (.For tg iter body [] pos) (jP mi g ms):=
 (Kt hp hc hi hg hb hs).imp fun _ _ _=>Ka
theorem Ep(hh:D2 X.K (jg mt ms n) E σ H):D1 (BA X.K mt) (D2 X.K ms) E σ H:=by
 obtain⟨ρ,δ,h,fl,δ',h',R,S,e,k⟩:=hh;refine⟨fun m σ2 H2=>∃ρ2 δ2 h2,dP ρ H ρ2 H2∧c7 X.K ρ2 H2 σ2 δ2∧cx X.K ρ2 h2 H2∧jg mt ms m δ2 h2=some (fl,δ',h'),⟨n,ρ,δ,h,.refl _ _,R,S,e⟩,?_⟩;rintro m σ2 H2 ⟨ρ2,δ2,h2,T2,R2,S2,e2⟩;cases m with
 | zero=>cases e2
 | succ m=>
  obtain⟨⟨x,h3⟩,e3,e4⟩:=bS e2;refine⟨ρ2,δ2,h2,x,h3,R2,S2,e3,fun ρ3 H3 T3 S3=>?_⟩;cases x with
  | false=>rw[Qu (by simp)] at e4 ⊢;cases e4;exact k ρ3 H3 (T2.trans T3) S3 σ2 (R2.mono T3)
  | true=>
   rw[Qp rfl] at e4 ⊢;obtain⟨⟨f4,δ4,h4⟩,e5,e6⟩:=bS e4;refine⟨fun σ5 H5=>∃ρ5,dP ρ3 H3 ρ5 H5∧cx X.K ρ5 h4 H5∧c7 X.K ρ5 H5 σ5 δ4∧jg mt ms m δ4 h4=some (fl,δ',h'),fun σ5 H5 ⟨ρ5,T5,S5,R5,e8⟩=>⟨m,SY m,ρ5,δ4,h4,T2.trans (T3.trans T5),R5,S5,e8⟩,?_⟩;refine⟨ρ3,δ2,h3,f4,δ4,h4,R2.mono T3,S3,e5,fun ρ5 H5 T5 S5=>?_⟩;cases f4 with
   | nx=>exact fun σ' R'=>⟨ρ5,T5,S5,R',e6⟩
   | ct=>exact fun σ' R'=>⟨ρ5,T5,S5,R',e6⟩
   | bk=>cases e6;exact fun σ' R'=>k ρ5 H5 (T2.trans (T3.trans T5)) S5 σ' R'
   | rt d=>cases e6;exact fun v r=>k ρ5 H5 (T2.trans (T3.trans T5)) S5 v r
theorem D7(hp:PassesOwn (model X.prog X.w) X.A X.env X.xe)(hc:ST X c mt)(hb:IJ X body ms):SS X (.While c body [] pos) (jg mt ms n):=(EG hp hc hb).imp fun _ _ _=>Ep
end
end Sm
namespace L2
open PySem PySem.Spec PyProof.Rows
theorem Ky(hl:PE X l tl):PI X tg l (fun σ H R=>tl σ H fun x H1=>∃a,x=.ref a∧(((∃xs,gH X.K H1 a xs)∧R (Pp X.K a) H1)∨((∃xs,jS X.K H1 a xs)∧R (Po X.K a) H1))):=by
 intro pins s σ H R I h;refine cU (hl pins s σ H _ I h) fun v s1 ⟨x,H1,I1,r1,q1⟩=>?_;obtain⟨a,e,q1⟩:=q1;subst e;cases r1;rcases q1 with⟨⟨xs,hq⟩,q⟩ |⟨⟨xs,hq⟩,q⟩
 ·obtain⟨its,rv,p,hz⟩:=I1.list hq;refine TC p.isList ?_;refine⟨s1.heap.objs.size,[s1.heap.objs.size],_,_,H1,rfl,I1.kept (t':=s1.toks) fun b o e=>Ql _ e,Ck a _,⟨_,Qx _ rfl,rfl,rfl⟩,fun b hb=>?_,q⟩;have e:b=s1.heap.objs.size:=by simpa using hb
  subst e;exact I1.xE (Qq _) (I1.bI.fresh (Qq _))
 ·obtain⟨its,rv,p,hz⟩:=I1.tuple hq;refine SK (show s1.heap.IsTuple a its.toArray from p) ?_;refine⟨s1.heap.objs.size,[s1.heap.objs.size],_,_,H1,rfl,I1.kept (t':=s1.toks) fun b o e=>Ql _ e,zL a _,⟨_,Qx _ rfl,rfl,rfl⟩,fun b hb=>?_,q⟩;have e:b=s1.heap.objs.size:=by simpa using hb
  subst e;exact I1.xE (Qq _) (I1.bI.fresh (Qq _))
end L2
namespace Sm
open PySem L2
noncomputable def dq(d:D)(h:MH):Option (List D×W):=match d with
 | .lv xs=>some (xs,[])
 | .ro xs=>some (xs,[])
 | .tup xs=>some (xs,[])
 | .ob n=>match h[n]? with
  | some (.lst xs)=>some (xs,[(n,.lst xs)])
  | _=>none
 | _=>none
noncomputable def cG(e:EM):IM:=fun δ h=>(e δ h).bind fun p=>(dq p.1 p.2).map fun q=>(q.1,q.2,p.2)
noncomputable def tJ(m:AM):IM:=fun δ h=>(m δ h).bind fun p=>match p.1 with
 | [.int j]=>if -(2^62)≤j∧j < 2^62 then some ((List.range j.toNat).map fun(k:Nat)=>D.int (k:Int),[],p.2) else none
 | [.int i,.int j]=>if -(2^62)≤i∧i < 2^62∧-(2^62)≤j∧j < 2^62 then some ((List.range (j-i).toNat).map fun(k:Nat)=>D.int (i+(k:Int)),[],p.2) else none
 | _=>none
theorem xx(hl:∀ρ1 H1 h1,Ch ρ H ρ1 H1->cx K ρ1 h1 H1->lJ ws h1=true->∃vs,aI K ρ1 H1 vs xs∧(∀i:Nat,vs.length≤i->J.stop i H1)∧∀(i:Nat) v,vs[i]?=some v->J.go i H1∧∀u H2,J.IV i H1 u H2->H2=H1∧u=v):Ml K J ρ H ws xs:=by
 refine⟨fun ρ1 H1 h1 T S hc i=>?_⟩;obtain⟨vs,l,s1,s2⟩:=hl ρ1 H1 h1 T S hc;refine⟨fun hi=>s1 i (by rw[l.length];exact hi),fun x hx=>?_⟩;obtain⟨v,hv,r⟩:=l.got hx;obtain⟨g,y⟩:=s2 i v hv;refine⟨g,fun u H2 yy=>?_⟩;obtain⟨rfl,rfl⟩:=y u H2 yy;exact⟨.refl _ _,S,r⟩
theorem Lp(hl:∀ρ1 H1 h1,Ch ρ H ρ1 H1->cx K ρ1 h1 H1->lJ ws h1=true->∃vs,aI K ρ1 H1 vs xs∧gH K H1 a vs):Ml K (Pp K a) ρ H ws xs:=
 xx fun ρ1 H1 h1 T S hc=>by
  obtain⟨vs,l,q⟩:=hl ρ1 H1 h1 T S hc;refine⟨vs,l,fun i hi=>⟨vs,q,hi⟩,fun i v hv=>⟨⟨vs,v,q,hv⟩,fun u H2 ⟨e,y⟩=>⟨e,?_⟩⟩⟩;have:=y vs q;rw[hv] at this;exact(Option.some.inj this).symm
theorem Ln(hl:∀ρ1 H1 h1,Ch ρ H ρ1 H1->cx K ρ1 h1 H1->lJ ws h1=true->∃vs,aI K ρ1 H1 vs xs∧jS K H1 a vs):Ml K (Po K a) ρ H ws xs:=
 xx fun ρ1 H1 h1 T S hc=>by
  obtain⟨vs,l,q⟩:=hl ρ1 H1 h1 T S hc;refine⟨vs,l,fun i hi=>⟨vs,q,hi⟩,fun i v hv=>⟨⟨vs,v,q,hv⟩,fun u H2 ⟨e,y⟩=>⟨e,?_⟩⟩⟩;have:=y vs q;rw[hv] at this;exact(Option.some.inj this).symm
theorem Iv(hc:lJ [(n,o)] h=true):h[n]?=some o:=by
 unfold lJ at hc;cases q:h[n]? with
 | none=>rw[q] at hc;cases hc
 | some u=>
  rw[q] at hc;simp[lJ] at hc;rw[Cb hc]
inductive SeqAt(K:FR)(H:Hp)(a:Addr)(vs:List V):Bool->Prop where
 | l:gH K H a vs->SeqAt K H a vs true
 | t:jS K H a vs->SeqAt K H a vs false
noncomputable def xy:D->Bool
 | .tup _=>false
 | _=>true
theorem l9(S:cx K ρ h H)(r:Rep K ρ H v d)(e:dq d h=some (xs,ws)):∃a,v=.ref a∧(∃vs,SeqAt K H a vs (xy d)∧aI K ρ H vs xs)∧
  ∀ρ1 H1 h1,Ch ρ H ρ1 H1->cx K ρ1 h1 H1->lJ ws h1=true->∃vs,aI K ρ1 H1 vs xs∧SeqAt K H1 a vs (xy d):=by
 cases r with
 | tup ht l=>
  cases e;refine⟨_,rfl,⟨_,.t ht.sq,l⟩,fun ρ1 H1 h1 T S1 _=>?_⟩;cases(Rep.tup ht l).mono T with
  | tup h1 l1=>exact⟨_,l1,.t h1.sq⟩
 | lv ht n l=>
  cases e;refine⟨_,rfl,⟨_,.l (gH.of ht),l⟩,fun ρ1 H1 h1 T S1 _=>?_⟩;cases(Rep.lv ht n l).mono T with
  | lv h1 _ l1=>exact⟨_,l1,.l (gH.of h1)⟩
 | ro ht l=>
  cases e;refine⟨_,rfl,⟨_,.l ht.sq,l⟩,fun ρ1 H1 h1 T S1 _=>?_⟩;cases(Rep.ro ht l).mono T with
  | ro h1 l1=>exact⟨_,l1,.l h1.sq⟩
 | @ob a n hn=>
  unfold dq at e;dsimp only at e;cases q:h[n]? with
  | none=>rw[q] at e;cases e
  | some o=>
   rw[q] at e;cases o with
   | dct _=>cases e
   | lst ys=>
    cases e;obtain⟨vs,e1,l⟩:=S.at_ n a _ hn q;refine⟨a,rfl,⟨vs,.l (gH.of e1),l⟩,fun ρ1 H1 h1 T S1 hc=>?_⟩;obtain⟨us,e2,l2⟩:=S1.at_ n a _ (T.pre n a hn) (Iv hc);exact⟨us,l2,.l (gH.of e2)⟩
 | cN=>cases e
 | bl b=>cases e
 | int i=>cases e
 | str x=>cases e
 | ty x=>cases e
 | dv _ _ _=>cases e
section
variable {X:Cx} {a b c e tg iter:Expr} {es:List Expr} {pos:Pos} {ma mb:EM} {mt:TM} {ms mu:SM} {m:AM} {g:GM} {gs:GA}
theorem bO(h:SE X e ma):SI X tg e (cG ma):=(Ky h).imp fun σ H Q ⟨ρ,δ,h,xs,ws,h',R,S,e,k⟩=>by
 obtain⟨⟨x,h1⟩,e1,e2⟩:=bS e;obtain⟨⟨ys,w⟩,e3,e4⟩:=gL e2;cases e4;refine⟨ρ,δ,h,x,h1,R,S,e1,fun v H1 ⟨ρ1,T1,S1,r1⟩=>?_⟩;obtain⟨a,rfl,⟨vs,q,l⟩,st⟩:=l9 S1 r1 e3;refine⟨a,rfl,?_⟩;generalize xy x=b at q st;cases q with
 | l q=>exact .inl ⟨⟨vs,q⟩,k _ ρ1 H1 T1 S1 (Lp fun ρ2 H2 h2 T2 S2 hc=>by obtain⟨us,l2,q2⟩:=st ρ2 H2 h2 T2 S2 hc;cases q2 with | l q2=>exact⟨us,l2,q2⟩)⟩
 | t q=>exact .inr ⟨⟨vs,q⟩,k _ ρ1 H1 T1 S1 (Ln fun ρ2 H2 h2 T2 S2 hc=>by obtain⟨us,l2,q2⟩:=st ρ2 H2 h2 T2 S2 hc;cases q2 with | t q2=>exact⟨us,l2,q2⟩)⟩
theorem pA:∀(ns:List Int),aI K ρ H (ns.map V.int) (ns.map D.int)
 | []=>.nil
 | _::r=>.cons (.int _) (pA r)
theorem Lo(lo:Int)(n:Nat):Ml K (Ob lo n) ρ H [] ((List.range n).map fun(k:Nat)=>D.int (lo+(k:Int))):=by
 refine xx fun ρ1 H1 h1 T S hc=>⟨(List.range n).map fun(k:Nat)=>V.int (lo+(k:Int)),?_,fun i hi=>?_,fun i v hv=>?_⟩
 ·have:=pA (K:=K) (ρ:=ρ1) (H:=H1) ((List.range n).map fun(k:Nat)=>lo+(k:Int));rw[QN,QN] at this;exact this
 ·rw[Qk,QU] at hi;exact hi
 ·rw[Qy] at hv;obtain⟨j,e1,e2⟩:=gL hv;obtain⟨hlt,e3⟩:=Qo.mp e1;rw[QU] at hlt;rw[List.getElem_range] at e3;subst e3;subst e2;exact⟨hlt,fun u H2 ⟨p,q⟩=>⟨p,q⟩⟩
theorem CD(l:aI K ρ H vs [.int j]):vs=[.int j]:=by
 cases l with
 | cons r l=>cases l;cases r;rfl
theorem eJ(hg:Gl X "range")(hm:X.mg "range"=none)(ha:SA X [a] m)(hs:starEach [a] X.env=[(false,eval a X.env)]:=by ac_nf)(hl:oF m 1):SI X tg (.Call (.Name "range" p) [a] [] pos) (tJ m):=
 (CJ hg hm ha hs).imp fun σ H Q ⟨ρ,δ,h,xs,ws,h',R,S,e,k⟩=>by
  obtain⟨⟨x,h1⟩,e1,e2⟩:=bS e;refine⟨ρ,δ,h,x,h1,R,S,e1,fun vs ρ1 H1 T1 S1 r1=>?_⟩
  match x,hl _ _ _ _ e1,e2,r1 with
  | [d],hl1,e2,r1=>
   cases d <;> first | exact absurd e2 (by intro z;cases z) | skip
   rename_i j;dsimp only at e2
   by_cases z:-(2^62)≤j∧j < 2^62
   ·rw[Qp z] at e2;cases e2;refine⟨j,CD r1,z.1,z.2,k _ ρ1 H1 T1 S1 ?_⟩;have:=Lo (K:=X.K) (ρ:=ρ1) (H:=H1) 0 j.toNat
    simpa using this
   ·rw[Qu z] at e2;cases e2
noncomputable def gF(caps:List (Option Nat))(δ:DS):DS:=caps.map fun o=>o.bind fun i=>(δ[i]?).join
noncomputable def bC:TM:=fun _ h=>some (true,h)
noncomputable def bU(ws:W)(g:GM)(c:TM)(e:EM):List D->DS->MH->Option (List D×MH)
 | [],_,h=>if lJ ws h then some ([],h) else none
 | x::r,δ,h=>if lJ ws h then(g x δ h).bind fun q=>(c q.1 q.2).bind fun t=>if t.1 then(e q.1 t.2).bind fun y=>(bU ws g c e r q.1 y.2).map fun z=>(y.1::z.1,z.2) else bU ws g c e r q.1 t.2 else none
noncomputable def bq(caps:List (Option Nat))(i:IM)(g:GM)(c:TM)(e:EM):AM:=fun δ h=>(i δ h).bind fun p=>(bU p.2.1 g c e p.1 (gF caps δ) p.2.2).bind fun q=>if q.1.length≤sizeLine then some q else none
theorem c7.p5(R:c7 K ρ H σ δ)(caps:List (Option Nat)):c7 K ρ H (p5 caps σ) (gF caps δ):=by
 refine⟨by simp[L2.p5,gF],fun i d hd=>?_⟩;unfold gF at hd;rw[Qy] at hd;obtain⟨o,e1,e2⟩:=gL hd;cases o with
 | none=>cases e2
 | some j=>
  have e3:δ[j]?=some (some d):=Ui.mp e2;obtain⟨v,ev,r⟩:=R.at_ j d e3;refine⟨v,?_,r⟩;unfold L2.p5;rw[Qy,e1];simp[ev]
def Mj(X:Cx)(ifs:List Expr)(m:TM):Prop:=Gp X ifs (BA X.K m)
theorem br:Mj X [] bC:=fun pins s σ H Q I hh=>by
 obtain⟨ρ,δ,h,b,h',R,S,e,k⟩:=hh;cases e;exact Hm pins s σ H Q I (k ρ H (.refl _ _) S)
theorem wG(h:ST X c mt):Mj X [c] mt:=Hl h
theorem BF(hh:tM X.K (fT (bq caps mi g mt ma)) σ H Q):D4 caps (Mc X.K mi) (D3 X.K g) (BA X.K mt) (tM X.K ma) σ H Q:=by
 obtain⟨ρ,δ,h,d,h',R,S,ee,k⟩:=hh;obtain⟨⟨out,h0⟩,ea,e0⟩:=gL ee;cases e0;obtain⟨⟨xs,ws,h1⟩,e1,eb⟩:=bS ea;obtain⟨⟨ys,h2⟩,e2,e3⟩:=bS eb;dsimp only at e2 e3
 by_cases hz:ys.length≤sizeLine
 ·rw[Qp hz] at e3;cases e3;refine⟨ρ,δ,h,xs,ws,h1,R,S,e1,fun J ρ1 H1 T1 S1 It l hl=>?_⟩;have nl:¬ρ1.has l:=S1.fresh hl;have Tl:Ch ρ1 H1 (ρ1.keep l) (upd H1 l (.lst [])):=Ch.keep hl;refine⟨fun i m τ2 H2=>∃(ob2:List Addr)(δ2:DS)(h2:MH)(vs:List V)(as bs:List D),m=xs.length-i∧i≤xs.length∧Ch ρ1 H1 ⟨ob2,l::ρ1.rs⟩ H2∧(∀b∈ρ1.rs,H2 b=H1 b)∧c7 X.K ⟨ob2,l::ρ1.rs⟩ H2 τ2 δ2∧cx X.K ⟨ob2,l::ρ1.rs⟩ h2 H2∧
    H2 l=some (.lst vs)∧aI X.K ⟨ob2,l::ρ1.rs⟩ H2 vs as∧out=as++bs∧bU ws g mt ma (xs.drop i) δ2 h2=some (bs,h0),
   ⟨_,ρ1.ob,gF caps δ,h1,[],[],out,rfl,Rw _,Tl,fun b hb=>aP fun z=>nl (.inr (z ▸ hb)),((R.mono T1).p5 caps).mono Tl,S1.keep hl,bj,.nil,rfl,e2⟩,?_⟩
  rintro i m τ2 H2 ⟨ob2,δ2,h2,vs,as,bs,rfl,hi,T2,rs2,R2,S2,hl2,l2,eo,e3⟩;have hsub:∀b∈ρ1.rs,b∈l::ρ1.rs:=fun b hb=>Qs _ hb;have C2:Ch ⟨ob2,l::ρ1.rs⟩ H2 ⟨ob2,ρ1.rs⟩ H2:=Ch.free hsub;have T2':dP ρ1 H1 ⟨ob2,ρ1.rs⟩ H2:=⟨T2.trans C2,rfl,rs2⟩;have S2':cx X.K ⟨ob2,ρ1.rs⟩ h2 H2:=S2.free hsub;cases q:xs.drop i with
  | nil=>
   rw[q] at e3;unfold bU at e3
   by_cases hc:lJ ws h2=true
   ·rw[Qp hc] at e3;cases e3;rw[Ru] at eo;subst eo;have hle:xs.length≤i:=by have:=congrArg List.length q;rw[Tx,R3] at this;lia
    refine .inl ⟨(It.run _ H2 _ T2 S2 hc i).1 hle,k _ _ ⟨_,T1.trans T2',S2',.lv hl2 (fun z=>?_) (l2.mono C2)⟩⟩;rcases z with z | z
    ·exact(S2.vn l Qv).2 z
    ·exact nl (.inr z)
   ·rw[Qu hc] at e3;cases e3
  | cons x r=>
   rw[q] at e3;unfold bU at e3
   by_cases hc:lJ ws h2=true
   ·rw[Qp hc] at e3;have hx:xs[i]?=some x:=by
     have:=congrArg (fun l=>l[0]?) q
     simpa using this
    have hlt:i < xs.length:=(Qo.mp hx).1;have hr:xs.drop (i+1)=r:=by
     have:=congrArg List.tail q
     simpa using this
    obtain⟨⟨δ3,h3⟩,e4,e5⟩:=bS e3;obtain⟨⟨t,h4⟩,e6,e7⟩:=bS e5;dsimp only at e4 e5 e6 e7;obtain⟨hgo,hy⟩:=(It.run _ H2 h2 T2 S2 hc i).2 x hx;refine .inr ⟨hgo,fun τ5 H5=>∃(ob5:List Addr)(h5:MH)(vs:List V)(as bs:List D),Ch ρ1 H1 ⟨ob5,l::ρ1.rs⟩ H5∧(∀b∈ρ1.rs,H5 b=H1 b)∧c7 X.K ⟨ob5,l::ρ1.rs⟩ H5 τ5 δ3∧cx X.K ⟨ob5,l::ρ1.rs⟩ h5 H5∧
     H5 l=some (.lst vs)∧aI X.K ⟨ob5,l::ρ1.rs⟩ H5 vs as∧out=as++bs∧bU ws g mt ma r δ3 h5=some (bs,h0),?_,?_⟩
    ·rintro τ5 H5 ⟨ob5,h5,vs5,as5,bs5,T5,rs5,R5,S5,hl5,l5,eo5,e5⟩;exact⟨xs.length-(i+1),by lia,ob5,δ3,h5,vs5,as5,bs5,rfl,hlt,T5,rs5,R5,S5,hl5,l5,eo5,by rw[hr];exact e5⟩
    ·intro v H3 y3;obtain⟨T3,S3,r3⟩:=hy v H3 y3;refine⟨⟨ob2,l::ρ1.rs⟩,δ2,h2,x,δ3,h3,R2.mono T3,S3,r3,e4,fun ρ4 H4 τ4 T4 S4 R4=>?_⟩;refine⟨ρ4,δ3,h3,t,h4,R4,S4,e6,fun ρ5 H5 T5 S5=>?_⟩;have T25:dP ⟨ob2,l::ρ1.rs⟩ H2 ρ5 H5:=T3.trans (T4.trans T5);obtain⟨ob5,rs5⟩:=ρ5;have ers:rs5=l::ρ1.rs:=T25.rs;subst ers;cases t with
     | false=>
      rw[Qu (by simp)] at e7;refine Lr ?_;exact⟨ob5,h4,vs,as,bs,T2.trans T25.toCh,fun b hb=>(T25.res b (hsub b hb)).trans (rs2 b hb),R4.mono T5,S5,(T25.res l Qv).trans hl2,l2.mono T25.toCh,eo,e7⟩
     | true=>
      rw[Qp rfl] at e7;refine Lq ?_;obtain⟨⟨y,h6⟩,e8,e9⟩:=bS e7;obtain⟨⟨zs,h7⟩,e10,e11⟩:=gL e9;cases e11;refine⟨⟨ob5,l::ρ1.rs⟩,δ3,h4,y,h6,R4.mono T5,S5,e8,fun u H6 ⟨ρ6,T6,S6,r6⟩=>?_⟩;have T26:dP ⟨ob2,l::ρ1.rs⟩ H2 ρ6 H6:=T25.trans T6;obtain⟨ob6,rs6⟩:=ρ6;have ers:rs6=l::ρ1.rs:=T26.rs;subst ers;have hl6:H6 l=some (.lst vs):=(T26.res l Qv).trans hl2;have hml:l∈(⟨ob6,l::ρ1.rs⟩:Ad).rs:=Qv;have hlen:vs.length < sizeLine:=by
       have h1:=l2.length;have h2:=congrArg List.length eo;rw[QD,QI] at h2
       lia
      have Cp:Ch ⟨ob6,l::ρ1.rs⟩ H6 ⟨ob6,l::ρ1.rs⟩ (upd H6 l (.lst (vs++[u]))):=Ch.put hml;refine⟨vs,hl6,hlen,ob6,h6,vs++[u],as++[y],zs,(T2.trans T26.toCh).trans Cp,fun b hb=>?_,((R4.mono T5.toCh).mono T6.toCh).mono Cp,S6.put hml,bj,((l2.mono T26.toCh).snoc r6).mono Cp,by rw[eo];simp,e10⟩;rw[aP (fun(z:b=l)=>nl (.inr (z ▸ hb)))];exact(T26.res b (hsub b hb)).trans (rs2 b hb)
   ·rw[Qu hc] at e3;cases e3
 ·rw[Qu hz] at e3;cases e3
end
end Sm
namespace Sm
open PySem L2 PySem.Spec PyProof.Rows
section
variable {X:Cx} {a b c e tg iter elt:Expr} {es:List Expr} {pos:Pos} {ma mb:EM} {mt:TM} {ms mu:SM} {m:AM} {g:GM} {gs:GA}
theorem bM(C:bA X N' caps scope)(hc:X.calm=true)(hi:SI X tg iter mi)(hg:∀C s₃ H₃ fp pl,SG (gG X N' scope C s₃ H₃ fp pl) tg g)(hif:∀C s₃ H₃ fp pl,Mj (gG X N' scope C s₃ H₃ fp pl) ifs mt)(he:∀C s₃ H₃ fp pl,SE (gG X N' scope C s₃ H₃ fp pl) elt ma)(hs:∀x,foldedSetIterable iter X.env x=pure x:=by intro _;ac_nf):
  SE X (.ListComp elt [⟨tg,iter,ifs,0⟩] scope pos) (fT (bq caps mi g mt ma)):=(ES (g:=D3 X.K g) (tc:=BA X.K mt) (te:=tM X.K ma) C hc hi hg hif he hs).imp fun _ _ _=>BF
theorem jh(hN:X.N.Nodup)(hi':X.N[i]?=some y)(hy:X.env.scope.names.lookup y=some .local)(C:bA X N' caps scope)(hc:X.calm=true)(hi:SI X tg iter mi)(hg:∀C s₃ H₃ fp pl,SG (gG X N' scope C s₃ H₃ fp pl) tg g)(hif:∀C s₃ H₃ fp pl,Mj (gG X N' scope C s₃ H₃ fp pl) ifs mt)(he:∀C s₃ H₃ fp pl,SE (gG X N' scope C s₃ H₃ fp pl) elt ma)(hsw:swapsWith (.ListComp elt [⟨tg,iter,ifs,0⟩] scope pos) (some (.Name y py)) spos.line X.env=pure true:=by ac_nf)(hs:∀x,foldedSetIterable iter X.env x=pure x:=by intro _;ac_nf):
  SS X (.Assign [.Name y py] (.ListComp elt [⟨tg,iter,ifs,0⟩] scope pos) spos) (bg i (fT (bq caps mi g mt ma))):=
 (EH (g:=D3 X.K g) (tc:=BA X.K mt) (te:=tM X.K ma) hN hi' hy C hc hi hg hif he hsw hs).imp fun E σ H hh=>by
  have q:=Ab hh;exact BF q
end
inductive NV(K:FR)(n:Nat)(F:Fn)(vs:List V)(H:Hp)(Q:VK):Prop where
 | mk (ρ h ds d h'):cx K ρ h H->aI K ρ H vs ds->(ds.length=n)->(F ds h=some (d,h'))->(∀v H',fc K ρ H h' d v H'->Q v H')->NV K n F vs H Q
def fY(K:FR)(n:Nat)(F:Fn):Sp:=fun vs H Q _=>NV K n F vs H Q
theorem GN(G:bB X.prog X.w X.K X.mg X.base fE k f fd ps (fY X.K n F))(hr:ip k X.A)(hg:Gl X x)(hm:X.mg x=some (.ref f))(hk:PySem.W.keepIn X.K (.ref f)=true)(hb:Binds X.K fd ps [])
  (ha:SA X (e::es) m) (hl:oF m n) (hdb:(x==("__debug__":Str))=false:=by ac_nf) (he:starEach (e::es) X.env=(false,eval e X.env)::starEach es X.env:=by ac_nf) (hpl:(backTo pos (starEach es X.env)).any (·.1)=false:=by ac_nf):
  SE X (.Call (.Name x p) (e::es) [] pos) (ay F m):=(Hv (E:=E0) G hr hg hm hk hb .nil Nd ha hdb he hpl).imp fun σ H Q ⟨ρ,δ,h,d,h',R,S,e,q⟩=>by
 obtain⟨⟨ds,h1⟩,e1,e2⟩:=bS e;refine⟨ρ,δ,h,ds,h1,R,S,e1,fun vs ρ1 H1 T1 S1 r1=>?_⟩;show fY X.K n F (vs++[]) H1 Q E0;rw[Ru];exact⟨ρ1,h1,ds,d,h',S1,r1,hl _ _ _ _ e1,e2,fun v H' P=>q v H' (P.step T1)⟩
noncomputable def GS(r:Fl×DS×MH):Option (D×MH):=match r.1 with
 | .rt d=>some (d,r.2.2)
 | .nx=>some (.cN,r.2.2)
 | _=>none
noncomputable def entry(len:Nat)(ds:List D):DS:=ds.map some++List.replicate (len-ds.length) none
noncomputable def jf(len:Nat)(body:SM):Fn:=fun ds h=>(body (entry len ds) h).bind GS
theorem c7.entry{K:FR}{ρ:Ad}{H:Hp}{vs:List V}{ds:List D}(N:List Str)(l:aI K ρ H vs ds):c7 K ρ H (L2.start N vs) (Sm.entry N.length ds):=by
 refine⟨by simp[L2.start,Sm.entry,l.length],fun i d hd=>?_⟩;unfold Sm.entry at hd;unfold L2.start
 by_cases hi:i < ds.length
 ·rw[QE (by simpa using hi),Qy] at hd;obtain⟨d',e1,e2⟩:=gL hd;cases e2;obtain⟨v,ev,r⟩:=l.got e1;refine⟨v,?_,r⟩;rw[QE (by rw[Qk,l.length];exact hi),Qy,ev];rfl
 ·rw[QR (by simpa using hi),Uo] at hd
  split at hd <;> cases hd
section
variable {P:Program} {w:World} {K:FR} {mg:Str->Option Value} {base:Heap} {x qual:Str} {st:Stmt} {f:Addr} {fd:FuncData} {N ps:List Str} {k:Nat}
theorem aT(F:fX K x qual st f fd)(Sc:aB N ps (au st))(hb:∀(cdv:Value)(A:Around)(outer:List Env)(s:Shared)(H:Hp)(E:XK),ip k (A.deeper (envOfC qual (au st) s.heap.objs.size f cdv))->IJ (Ba fE P w K mg base N qual (au st) f cdv A outer s H E).Nj (jE st) body):
  bB P w K mg base fE (k+1) f fd ps (fY K ps.length (jf N.length body)):=by
 refine F.ok Sc (fun vs H Q E h=>?_) (fun cdv A outer s H vs Q E hr h=>?_)
 ·obtain⟨ρ,h,ds,d,h',S,r,hl,_⟩:=h;rw[r.length];exact hl
 ·obtain⟨ρ,h,ds,d,h',S,r,hl,e,q⟩:=h;refine⟨_,hb cdv A outer s H E hr,?_⟩;obtain⟨⟨fl,δ1,h1⟩,e1,e2⟩:=bS e;refine⟨ρ,entry N.length ds,h,fl,δ1,h1,c7.entry N r,S,e1,fun ρ1 H1 T1 S1=>?_⟩;cases fl with
  | nx=>cases e2;exact fun σ' R'=>q _ _ ⟨ρ1,T1,S1,.cN⟩
  | rt d=>cases e2;exact fun v r=>q _ _ ⟨ρ1,T1,S1,r⟩
  | bk=>cases e2
  | ct=>cases e2
end
mutual
noncomputable def i8(n:Nat):D->Bool
 | .tup xs=>gz n xs
 | .lv xs=>gz n xs
 | .ro xs=>gz n xs
 | .dv kvs=>Iu n kvs
 | .ob m=>decide (m < n)
 | _=>true
noncomputable def gz(n:Nat):List D->Bool
 | []=>true
 | x::r=>i8 n x&&gz n r
noncomputable def Iu(n:Nat):List (Key×D)->Bool
 | []=>true
 |(_,x)::r=>i8 n x&&Iu n r
end
noncomputable def zJ(n:Nat):MO->Bool
 | .lst xs=>gz n xs
 | .dct kvs=>Iu n kvs
abbrev Ad.cut(ρ:Ad)(n:Nat):Ad:=⟨ρ.ob.take n,ρ.rs⟩
theorem Ad.n6{ρ:Ad}{n:Nat}{a:Addr}(h:(ρ.cut n).has a):ρ.has a:=h.elim (fun m=>.inl (UA m)) .inr
mutual
theorem Rep.cut{K:FR}{ρ:Ad}{H:Hp}{n:Nat}{v:V}{d:D}(r:Rep K ρ H v d)(c:i8 n d=true):Rep K (ρ.cut n) H v d:=by
 cases r with
 | cN=>exact .cN
 | bl b=>exact .bl b
 | int i=>exact .int i
 | str x=>exact .str x
 | ty n=>exact .ty n
 | tup h l=>exact .tup (h.elim (fun⟨a,n⟩=>.inl ⟨a,fun m=>n (Ad.n6 m)⟩) .inr) (aI.cut l c)
 | lv h n l=>exact .lv h (fun m=>n (Ad.n6 m)) (aI.cut l c)
 | ro h l=>exact .ro (h.elim (fun⟨a,n⟩=>.inl ⟨a,fun m=>n (Ad.n6 m)⟩) .inr) (aI.cut l c)
 | dv h n l=>exact .dv h (fun m=>n (Ad.n6 m)) (bL.cut l c)
 | ob e=>exact .ob ((Ra (Q3 c)).trans e)
theorem aI.cut{K:FR}{ρ:Ad}{H:Hp}{n:Nat}{v:List V}{d:List D}(r:aI K ρ H v d)(c:gz n d=true):aI K (ρ.cut n) H v d:=by
 cases r with
 | nil=>exact .nil
 | cons r l=>have c:=Q1.mp c;exact .cons (Rep.cut r c.1) (aI.cut l c.2)
theorem bL.cut{K:FR}{ρ:Ad}{H:Hp}{n:Nat}{v:List (Key×V)}{d:List (Key×D)}(r:bL K ρ H v d)(c:Iu n d=true):bL K (ρ.cut n) H v d:=by
 cases r with
 | nil=>exact .nil
 | cons r l=>have c:=Q1.mp c;exact .cons (Rep.cut r c.1) (bL.cut l c.2)
end
mutual
theorem Rep.clean{K:FR}{ρ:Ad}{H:Hp}{v:V}{d:D}(r:Rep K ρ H v d):i8 ρ.ob.length d=true:=by
 cases r with
 | tup h l=>exact aI.clean l
 | lv h n l=>exact aI.clean l
 | ro h l=>exact aI.clean l
 | dv h n l=>exact bL.clean l
 | ob e=>exact Q8 (Qo.mp e).1
 | _=>rfl
theorem aI.clean{K:FR}{ρ:Ad}{H:Hp}{v:List V}{d:List D}(r:aI K ρ H v d):gz ρ.ob.length d=true:=by
 cases r with
 | nil=>rfl
 | cons r l=>exact Q1.mpr ⟨Rep.clean r,aI.clean l⟩
theorem bL.clean{K:FR}{ρ:Ad}{H:Hp}{v:List (Key×V)}{d:List (Key×D)}(r:bL K ρ H v d):Iu ρ.ob.length d=true:=by
 cases r with
 | nil=>rfl
 | cons r l=>exact Q1.mpr ⟨Rep.clean r,bL.clean l⟩
end
theorem Cf.cut{K:FR}{ρ:Ad}{H:Hp}{n:Nat}{a:Addr}{o:MO}(x:Cf K ρ H a o)(c:zJ n o=true):Cf K (ρ.cut n) H a o:=by
 cases o with
 | lst ds=>obtain⟨vs,e,l⟩:=x;exact⟨vs,e,l.cut c⟩
 | dct ds=>obtain⟨vs,e,l⟩:=x;exact⟨vs,e,l.cut c⟩
theorem Cf.clean{K:FR}{ρ:Ad}{H:Hp}{a:Addr}{o:MO}(x:Cf K ρ H a o):zJ ρ.ob.length o=true:=by
 cases o with
 | lst ds=>obtain⟨vs,e,l⟩:=x;exact l.clean
 | dct ds=>obtain⟨vs,e,l⟩:=x;exact l.clean
noncomputable def wu(n:Nat)(h:MH)(d:D):D:=match d with
 | .ob m=>if m < n then .ob m else match h[m]? with
  | some (.lst xs)=>.lv xs
  | some (.dct kvs)=>.dv kvs
  | none=>.ob m
 | d=>d
noncomputable def leave(h:MH)(d:D)(h':MH):Option (D×MH):=
 if i8 h.length (wu h.length h' d)&&(x3 (h'.take h.length) h||(h'.take h.length).all (zJ h.length)) then some (wu h.length h' d,h'.take h.length) else none
noncomputable def E7(len:Nat)(body:SM):Fn:=fun ds h=>((body (entry len ds) h).bind GS).bind fun p=>leave h p.1 p.2
theorem fc.leave{K:FR}{ρ:Ad}{H H':Hp}{h h1 h':MH}{d d':D}{v:V}(S:cx K ρ h H)(p:fc K ρ H h1 d v H')(e:Sm.leave h d h1=some (d',h')):fc K ρ H h' d' v H':=by
 obtain⟨ρ1,T,S1,r⟩:=p;unfold Sm.leave at e
 by_cases hc:(i8 h.length (wu h.length h1 d)&&(x3 (h1.take h.length) h||(h1.take h.length).all (zJ h.length)))=true
 ·rw[Qp hc] at e;cases e;rw[QJ] at hc;obtain⟨c1,c2⟩:=hc;have hle:h.length≤h1.length:=by
   rw[←S.len,←S1.len];refine Nat.le_of_not_lt fun hlt=>?_;have e1:ρ.ob[ρ1.ob.length]?=some ρ.ob[ρ1.ob.length]:=Qr hlt;have:=(Qo.mp (T.pre _ _ e1)).1
   lia
  have hall:∀(m:Nat) o,m < h.length->h1[m]?=some o->zJ h.length o=true:=by
   intro m o hm ho;rw[SD] at c2;rcases c2 with c2 | c2
   ·have e1:=Cc c2;have e2:h[m]?=some o:=by rw[←e1,Ra hm];exact ho
    have hm':m < ρ.ob.length:=by rw[S.len];exact hm
    have:=(S.at_ m _ o (Qr hm') e2).clean;rw[S.len] at this;exact this
   ·rw[RJ] at c2;exact c2 o (Qn (show(h1.take h.length)[m]?=some o by rw[Ra hm];exact ho))
  have Sc:cx K (ρ1.cut h.length) (h1.take h.length) H':=by
   refine⟨by simp[S1.len],S1.nd.sublist (UW _ _),fun n a o e1 e2=>?_,fun b hb=>⟨(S1.vn b hb).1,fun m=>(S1.vn b hb).2 (UA m)⟩⟩;have hn:n < h.length:=by
    have:=(Qo.mp e2).1;rw[QP] at this
    lia
   have e1:(ρ1.ob.take h.length)[n]?=some a:=e1;rw[Ra hn] at e1 e2;exact(S1.at_ n a o e1 e2).cut (hall n o hn e2)
  refine⟨ρ1.cut h.length,⟨⟨fun n a e=>?_,fun b o n e=>?_⟩,T.rs,T.res⟩,Sc,?_⟩
  ·have hn:n < h.length:=by rw[←S.len];exact(Qo.mp e).1
   show(ρ1.ob.take h.length)[n]?=some a;rw[Ra hn];exact T.pre n a e
  ·obtain⟨n1,e1⟩:=T.old b o n e;exact⟨fun m=>n1 (Ad.n6 m),e1⟩
  ·cases d with
   | ob m=>
    unfold wu at c1 ⊢;dsimp only at c1 ⊢
    by_cases hm:m < h.length
    ·rw[Qp hm] at c1 ⊢;exact r.cut c1
    ·rw[Qu hm] at c1 ⊢;cases r with
     | ob hn=>
      rename_i a;have na:¬(ρ1.cut h.length).has a:=by
       intro z;rcases z with z | z
       ·obtain⟨j,hj⟩:=TJ z;have hj1:j < h.length:=by
         have:=(Qo.mp hj).1;rw[QP] at this
         lia
        rw[Ra hj1] at hj;have:=(V6 (Qo.mp hj).1 S1.nd).mp (hj.trans hn.symm)
        lia
       ·exact(S1.vn a z).2 (Qn hn)
      cases q:h1[m]? with
      | none=>rw[q] at c1;exact absurd c1 (by simp[i8];lia)
      | some o=>
       have x:=S1.at_ m a o hn q;cases o with
       | lst xs=>
        rw[q] at c1;obtain⟨vs,e1,l⟩:=x;exact .lv e1 na (l.cut (by simpa [i8] using c1))
       | dct xs=>
        rw[q] at c1;obtain⟨vs,e1,l⟩:=x;exact .dv e1 na (l.cut (by simpa [i8] using c1))
   | _=>exact r.cut c1
 ·rw[Qu hc] at e;cases e
section
variable {P:Program} {w:World} {K:FR} {mg:Str->Option Value} {base:Heap} {x qual:Str} {st:Stmt} {f:Addr} {fd:FuncData} {N ps:List Str} {k:Nat}
theorem fS(G:bB P w K mg base fE k f fd ps (fY K ps.length (jf N.length body))):bB P w K mg base fE k f fd ps (fY K ps.length (E7 N.length body)):=by
 refine G.imp fun vs H Q E hh=>?_;obtain⟨ρ,h,ds,d,h',S,r,hl,e,q⟩:=hh;obtain⟨⟨d1,h1⟩,e1,e2⟩:=bS e;exact⟨ρ,h,ds,d1,h1,S,r,hl,e1,fun v H' p=>q v H' (p.leave S e2)⟩
end
def spT(K:FR):Sp:=fun vs H Q _=>∃(a:Addr)(ns:List Int),vs=[.ref a]∧gH K H a (ns.map V.int)∧ns.length≤63∧∀H',Q (.bl true) H'
theorem HM{P:Program}{w:World}{K:FR}{mg:Str->Option Value}{base:Heap}{k:Nat}{f:Addr}{fd:FuncData}{ps:List Str}{F:Fn}(G:bB P w K mg base fE k f fd ps (fY K 1 F))
  (hF:∀ns:List Int,ns.length≤63->∃h',F [.ro (ns.map D.int)] []=some (.bl true,h')):bB P w K mg base fE k f fd ps (spT K):=by
 refine G.imp fun vs H Q E hh=>?_;obtain⟨a,ns,rfl,ha,hl,q⟩:=hh;obtain⟨h',e⟩:=hF ns hl;refine⟨⟨[],[]⟩,[],[.ro (ns.map D.int)],.bl true,h',⟨rfl,TX,fun n a o e=>by simp at e,fun b hb=>absurd hb (by simp)⟩,.cons (.ro ?_ (pA ns)) .nil,rfl,e,fun v H' ⟨ρ',T,S,r⟩=>?_⟩
 ·rcases ha with ha | ha
  ·exact .inl ⟨ha,fun z=>z.elim (fun z=>absurd z (by simp)) fun z=>absurd z (by simp)⟩
  ·exact .inr (.inr ha)
 ·cases r;exact q H'
mutual
noncomputable def yb:D->Option PyData
 | .cN=>some .none
 | .bl b=>some (.bool b)
 | .int i=>some (.int i)
 | .str x=>some (.str x)
 | .tup xs=>(oH xs).map .tuple
 | .lv xs=>(oH xs).map .list
 | .ro xs=>(oH xs).map .list
 | _=>none
noncomputable def oH:List D->Option (List PyData)
 | []=>some []
 | x::r=>(yb x).bind fun a=>(oH r).map fun b=>a::b
end
noncomputable def zH(h:MH)(d:D):Option PyData:=match d with
 | .ob n=>match h[n]? with
  | some (.lst xs)=>(oH xs).map .list
  | _=>none
 | d=>yb d
mutual
theorem Rep.vt{K:FR}{ρ:Ad}{H:Hp}{v:V}{d:D}{p:PyData}(r:Rep K ρ H v d)(e:yb d=some p):DO K H v p∧p.canLay0=true:=by
 cases r with
 | cN=>cases e;exact⟨.cN,rfl⟩
 | bl b=>cases e;exact⟨.bl b,rfl⟩
 | int i=>cases e;exact⟨.int i,rfl⟩
 | str hs=>cases e;exact⟨.str _,by simpa [PyData.canLay0] using hs⟩
 | tup h l=>obtain⟨q,e1,rfl⟩:=gL e;obtain⟨a,b⟩:=aI.vt l e1;exact⟨.tup h.sq a,by simpa [PyData.canLay0] using b⟩
 | lv h n l=>obtain⟨q,e1,rfl⟩:=gL e;obtain⟨a,b⟩:=aI.vt l e1;exact⟨.lst (gH.of h) a,by simpa [PyData.canLay0] using b⟩
 | ro h l=>obtain⟨q,e1,rfl⟩:=gL e;obtain⟨a,b⟩:=aI.vt l e1;exact⟨.lst h.sq a,by simpa [PyData.canLay0] using b⟩
 | _=>cases e
theorem aI.vt{K:FR}{ρ:Ad}{H:Hp}{v:List V}{d:List D}{p:List PyData}(r:aI K ρ H v d)(e:oH d=some p):qg K H v p∧PyData.canLayAll0 p=true:=by
 cases r with
 | nil=>cases e;exact⟨.nil,rfl⟩
 | cons r l=>
  obtain⟨a,e1,e2⟩:=bS e;obtain⟨b,e3,rfl⟩:=gL e2;obtain⟨a1,a2⟩:=Rep.vt r e1;obtain⟨b1,b2⟩:=aI.vt l e3;exact⟨.cons a1 b1,by simp[PyData.canLayAll0,a2,b2]⟩
end
section
variable {K:FR} {ρ:Ad} {H:Hp} {h:MH} {v:V} {d:D}
theorem wX(S:cx K ρ h H)(r:Rep K ρ H v d)(e:zH h d=some p):DO K H v p∧p.canLay0=true:=by
 cases r with
 | @ob a n hn=>
  unfold zH at e;dsimp only at e;cases q:h[n]? with
  | none=>rw[q] at e;cases e
  | some o=>
   rw[q] at e;cases o with
   | dct _=>cases e
   | lst xs=>
    obtain⟨vs,e1,l⟩:=S.at_ n a _ hn q;obtain⟨b,e3,e4⟩:=gL e;subst e4;obtain⟨b1,b2⟩:=l.vt e3;exact⟨.lst (gH.of e1) b1,by simpa [PyData.canLay0] using b2⟩
 | cN=>exact Rep.vt (Rep.cN (ρ:=ρ)) e
 | bl b=>exact Rep.vt (Rep.bl (ρ:=ρ) b) e
 | int i=>exact Rep.vt (Rep.int (ρ:=ρ) i) e
 | str x=>exact Rep.vt (Rep.str (ρ:=ρ) x) e
 | ty n=>exact Rep.vt (Rep.ty (ρ:=ρ) n) e
 | tup h l=>exact Rep.vt (.tup h l) e
 | lv h n l=>exact Rep.vt (.lv h n l) e
 | ro h l=>exact Rep.vt (.ro h l) e
 | dv h n l=>exact Rep.vt (.dv h n l) e
noncomputable def gM(d:D)(h:MH):Option (List D):=match d with
 | .lv xs=>some xs
 | .ob n=>match h[n]? with
  | some (.lst xs)=>some xs
  | _=>none
 | _=>none
theorem fk(S:cx K ρ h H)(r:Rep K ρ H v d)(e:gM d h=some xs):∃a vs,v=.ref a∧H a=some (.lst vs)∧aI K ρ H vs xs:=by
 cases r with
 | @ob a n hn=>
  unfold gM at e;dsimp only at e;cases q:h[n]? with
  | none=>rw[q] at e;cases e
  | some o=>
   rw[q] at e;cases o with
   | dct _=>cases e
   | lst ys=>
    cases e;obtain⟨vs,e1,l⟩:=S.at_ n a _ hn q;exact⟨a,vs,rfl,e1,l⟩
 | lv h n l=>cases e;exact⟨_,_,rfl,h,l⟩
 | _=>cases e
noncomputable def fb(d:D)(h:MH):Option (List (Key×D)):=match d with
 | .dv kvs=>some kvs
 | .ob n=>match h[n]? with
  | some (.dct kvs)=>some kvs
  | _=>none
 | _=>none
theorem n5(S:cx K ρ h H)(r:Rep K ρ H v d)(e:fb d h=some xs):∃a vs,v=.ref a∧H a=some (.dK vs)∧bL K ρ H vs xs:=by
 cases r with
 | @ob a n hn=>
  unfold fb at e;dsimp only at e;cases q:h[n]? with
  | none=>rw[q] at e;cases e
  | some o=>
   rw[q] at e;cases o with
   | lst _=>cases e
   | dct ys=>
    cases e;obtain⟨vs,e1,l⟩:=S.at_ n a _ hn q;exact⟨a,vs,rfl,e1,l⟩
 | dv h n l=>cases e;exact⟨_,_,rfl,h,l⟩
 | _=>cases e
theorem ny(S:cx K ρ h H)(r:Rep K ρ H v d)(e:dq d h=some (xs,ws)):∃a vs,v=.ref a∧(gH K H a vs∨jS K H a vs)∧aI K ρ H vs xs:=by
 obtain⟨a,e1,⟨vs,q,l⟩,_⟩:=l9 S r e;refine⟨a,vs,e1,?_,l⟩;generalize xy d=b at q;cases q with
 | l q=>exact .inl q
 | t q=>exact .inr q
noncomputable def rh:D->Option Key
 | .int i=>some (.inl i)
 | .str x=>some (.inr x)
 | _=>none
noncomputable def ig(kvs:List (Key×D))(k:Key):Option D:=(kvs.find? fun kv=>decide (kv.1=k)).map (·.2)
noncomputable def putD(kvs:List (Key×D))(k:Key)(v:D):List (Key×D):=
 if(kvs.any fun kv=>decide (kv.1=k))=true then kvs.map (fun kv=>if kv.1=k then(kv.1,v) else kv) else kvs++[(k,v)]
theorem lg(r:Rep K ρ H v d)(e:rh d=some k):v=kV k:=by
 cases r with
 | int i=>cases e;rfl
 | str x=>cases e;rfl
 | _=>cases e
theorem bL.val:∀{us:List (Key×V)} {kvs:List (Key×D)} (k:Key),bL K ρ H us kvs->(ig kvs k=none∧jO us k=none)∨∃d v,ig kvs k=some d∧jO us k=some v∧Rep K ρ H v d
 | _,_,k,.nil=>.inl ⟨rfl,rfl⟩
 | _,_,k,.cons (k:=j) (v:=v) (vs:=vs) (d:=d) (ds:=ds) r l=>by
  by_cases z:j=k
  ·exact .inr ⟨d,v,by simp[ig,z],by simp[jO,z],r⟩
  ·have h1:ig ((j,d)::ds) k=ig ds k:=by simp only[ig,Sz,z,decide_false]
   have h2:jO ((j,v)::vs) k=jO vs k:=ng z;rw[h1,h2];exact bL.val k l
theorem bL.length:∀{us:List (Key×V)} {kvs:List (Key×D)},bL K ρ H us kvs->us.length=kvs.length
 | _,_,.nil=>rfl
 | _,_,.cons _ l=>by rw[QI,QI,bL.length l]
theorem bL.any(k:Key):∀{us:List (Key×V)} {kvs:List (Key×D)},bL K ρ H us kvs->(us.any fun kv=>decide (kv.1=k))=(kvs.any fun kv=>decide (kv.1=k))
 | _,_,.nil=>rfl
 | _,_,.cons _ l=>by rw[So,So,bL.any k l]
theorem bL.map(r:Rep K ρ H v d):∀{us:List (Key×V)} {kvs:List (Key×D)},bL K ρ H us kvs->bL K ρ H (us.map fun kv=>if kv.1=k then(kv.1,v) else kv) (kvs.map fun kv=>if kv.1=k then(kv.1,d) else kv)
 | _,_,.nil=>.nil
 | _,_,.cons (k:=j) q l=>by
  rw[Qt,Qt]
  by_cases z:j=k
  ·rw[Qp z,Qp z];exact .cons r (bL.map r l)
  ·rw[Qu z,Qu z];exact .cons q (bL.map r l)
theorem bL.append:∀{us vs:List (Key×V)} {ks ls:List (Key×D)},bL K ρ H us ks->bL K ρ H vs ls->bL K ρ H (us++vs) (ks++ls)
 | _,_,_,_,.nil,t=>t
 | _,_,_,_,.cons r l,t=>.cons r (bL.append l t)
theorem bL.put(l:bL K ρ H us kvs)(r:Rep K ρ H v d):bL K ρ H (putK us k v) (putD kvs k d):=by
 unfold putK putD;rw[l.any k]
 by_cases z:(kvs.any fun kv=>decide (kv.1=k))=true
 ·rw[Qp z,Qp z];exact l.map r
 ·rw[Qu z,Qu z];exact l.append (.cons r .nil)
end
noncomputable def Dl(d e:D)(h:MH):Option (D×MH):=match d,e with
 | .int i,.int j=>some (.int (i+j),h)
 | .str a,.str b=>if a.length+b.length≤sizeLine then some (.str (a++b),h) else none
 | .tup [],.tup _=>none
 | .tup (x::xs),.tup ys=>if xs.length+1+ys.length≤sizeLine then some (.tup (x::xs++ys),h) else none
 | d,e=>(gM d h).bind fun xs=>(gM e h).bind fun ys=>if xs.length+ys.length≤sizeLine then some (.lv (xs++ys),h) else none
noncomputable def xF(d e:D)(h:MH):Option (D×MH):=match d,e with
 | .int i,.int j=>some (.int (i-j),h)
 | _,_=>none
noncomputable def nO(i j:Int):Bool:=(decide (-(2^64) < i)&&decide (i < 2^64))||(decide (-(2^64) < j)&&decide (j < 2^64))
noncomputable def LA(d e:D)(h:MH):Option (D×MH):=match d,e with
 | .int i,.int j=>if nO i j then some (.int (i*j),h) else none
 | _,_=>none
noncomputable def pX(d e:D)(h:MH):Option (D×MH):=match d,e with
 | .int i,.int j=>if 0 < j then some (.int (i % j),h) else none
 | _,_=>none
noncomputable def Fz(d e:D)(h:MH):Option (D×MH):=match d,e with
 | .int i,.int j=>if 0 < j∧j≤10^40 then some (.int (i / j),h) else none
 | _,_=>none
noncomputable def Ib(d e:D)(h:MH):Option (D×MH):=match d,e with
 | .int i,.int j=>if 0≤j∧j≤1000000∧i.natAbs < 2^64 then some (.int (i^j.toNat),h) else none
 | _,_=>none
noncomputable def FN(f:Int->Int->Bool)(d e:D)(h:MH):Option (D×MH):=match d,e with
 | .int i,.int j=>some (.bl (f i j),h)
 | _,_=>none
noncomputable def LB:=FN fun i j=>decide (i < j)
noncomputable def zI:=FN fun i j=>decide (i≤j)
noncomputable def Dj:=FN fun i j=>decide (j < i)
noncomputable def Ny:=FN fun i j=>decide (j≤i)
noncomputable def Mf(d e:D)(h:MH):Option Bool:=(zH h d).bind fun a=>(zH h e).bind fun b=>if a.depth≤64∧b.depth≤64 then some (PyData.eqv a b) else none
noncomputable def PB:D->Bool
 | .cN=>true
 | _=>false
noncomputable def Di(d e:D)(h:MH):Option (D×MH):=match e with
 | .cN=>some (.bl (PB d),h)
 | _=>none
noncomputable def wq(d:D)(h:MH):Option (D×MH):=match d with
 | .int i=>some (.int (-i),h)
 | _=>none
noncomputable def inD(d e:D)(h:MH):Option Bool:=match fb e h with
 | some kvs=>(rh d).map fun k=>(ig kvs k).isSome
 | none=>match d,e with
  | .str x,.str y=>some (!(Builtin.Str.occurrences y x 0 y.length 1).isEmpty)
  | d,e=>(dq e h).bind fun p=>(zH h d).bind fun a=>(oH p.1).bind fun bs=>if a.depth≤60∧PyData.depthAll bs≤60 then some (bs.any fun b=>PyData.eqv b a) else none
noncomputable def DN(d e:D)(h:MH):Option (D×MH):=(inD d e h).map fun c=>(.bl c,h)
noncomputable def iO(d e:D)(h:MH):Option (D×MH):=(inD d e h).map fun c=>(.bl (!c),h)
noncomputable def ba(d e:D)(h:MH):Option (D×MH):=match fb d h with
 | some kvs=>(rh e).bind fun k=>(ig kvs k).map fun z=>(z,h)
 | none=>match d,e with
  | .str z,.int i=>if z.length≤sizeLine then(il z.cps.toList i).map fun c=>(.str ⟨#[c]⟩,h) else none
  | d,.int i=>(dq d h).bind fun p=>(il p.1 i).map fun z=>(z,h)
  | _,_=>none
theorem xc(ho:lX X g (rI C q))(hf:∀d e h z h',f d e h=some (z,h')->∃i j,d=.int i∧e=.int j∧C i j∧h'=h∧∀ρ H,Rep X.K ρ H (q i j) z):oJ X g f:=by
 intro pins s σ H x y v u Q I rx ry hh;obtain⟨ρ,h,d,e,z,h',S,rd,re,ee,k⟩:=hh;obtain⟨i,j,rfl,rfl,c,rfl,rz⟩:=hf _ _ _ _ _ ee;cases rd;cases re;exact ho pins s σ H _ _ v u Q I rx ry ⟨i,j,rfl,rfl,c,k _ _ (.here S (rz _ _))⟩
theorem k6(ho:lX X g (Ez q))(hf:∀d e h z h',f d e h=some (z,h')->∃i j,d=.int i∧e=.int j∧h'=h∧∀ρ H,Rep X.K ρ H (q i j) z):oJ X g f:=by
 intro pins s σ H x y v u Q I rx ry hh;obtain⟨ρ,h,d,e,z,h',S,rd,re,ee,k⟩:=hh;obtain⟨i,j,rfl,rfl,rfl,rz⟩:=hf _ _ _ _ _ ee;cases rd;cases re;exact ho pins s σ H _ _ v u Q I rx ry ⟨i,j,rfl,rfl,k _ _ (.here S (rz _ _))⟩
theorem sS:oJ X (binaryOp .Sub) xF:=k6 KY fun d e h z h' ee=>by
 cases d <;> first |(cases ee;done) | skip
 cases e <;> first |(cases ee;done) | skip
 cases ee;exact⟨_,_,rfl,rfl,rfl,fun _ _=>.int _⟩
theorem KS:oJ X (binaryOp .Mult) LA:=xc K1 fun d e h z h' ee=>by
 cases d <;> first |(cases ee;done) | skip
 cases e <;> first |(cases ee;done) | skip
 rename_i i j;unfold LA at ee;dsimp only at ee
 by_cases c:nO i j=true
 ·rw[Qp c] at ee;cases ee;refine⟨i,j,rfl,rfl,?_,rfl,fun _ _=>.int _⟩;unfold nO at c;simp only[SD,QJ,Rk] at c;exact c
 ·rw[Qu c] at ee;cases ee
theorem kE:oJ X (binaryOp .Mod) pX:=xc K2 fun d e h z h' ee=>by
 cases d <;> first |(cases ee;done) | skip
 cases e <;> first |(cases ee;done) | skip
 rename_i i j;unfold pX at ee;dsimp only at ee
 by_cases c:0 < j
 ·rw[Qp c] at ee;cases ee;exact⟨i,j,rfl,rfl,c,rfl,fun _ _=>.int _⟩
 ·rw[Qu c] at ee;cases ee
theorem KU:oJ X (binaryOp .FloorDiv) Fz:=xc EY fun d e h z h' ee=>by
 cases d <;> first |(cases ee;done) | skip
 cases e <;> first |(cases ee;done) | skip
 rename_i i j;unfold Fz at ee;dsimp only at ee
 by_cases c:0 < j∧j≤10^40
 ·rw[Qp c] at ee;cases ee;exact⟨i,j,rfl,rfl,c,rfl,fun _ _=>.int _⟩
 ·rw[Qu c] at ee;cases ee
theorem EX:oJ X (binaryOp .Pow) Ib:=xc K0 fun d e h z h' ee=>by
 cases d <;> first |(cases ee;done) | skip
 cases e <;> first |(cases ee;done) | skip
 rename_i i j;unfold Ib at ee;dsimp only at ee
 by_cases c:0≤j∧j≤1000000∧i.natAbs < 2^64
 ·rw[Qp c] at ee;cases ee;exact⟨i,j,rfl,rfl,c,rfl,fun _ _=>.int _⟩
 ·rw[Qu c] at ee;cases ee
theorem B4(ee:FN f d e h=some (z,h')):∃i j,d=.int i∧e=.int j∧h'=h∧z=.bl (f i j):=by
 cases d <;> first |(cases ee;done) | skip
 cases e <;> first |(cases ee;done) | skip
 cases ee;exact⟨_,_,rfl,rfl,rfl,rfl⟩
theorem yL:oJ X (compareOp .Lt) LB:=k6 Nf fun d e h z h' ee=>by
 obtain⟨i,j,rfl,rfl,rfl,rfl⟩:=B4 ee;exact⟨i,j,rfl,rfl,rfl,fun _ _=>.bl _⟩
theorem qq:oJ X (compareOp .LtE) zI:=k6 Ng fun d e h z h' ee=>by
 obtain⟨i,j,rfl,rfl,rfl,rfl⟩:=B4 ee;exact⟨i,j,rfl,rfl,rfl,fun _ _=>.bl _⟩
theorem lO:oJ X (compareOp .Gt) Dj:=k6 Nh fun d e h z h' ee=>by
 obtain⟨i,j,rfl,rfl,rfl,rfl⟩:=B4 ee;exact⟨i,j,rfl,rfl,rfl,fun _ _=>.bl _⟩
theorem Jf:oJ X (compareOp .GtE) Ny:=k6 Ni fun d e h z h' ee=>by
 obtain⟨i,j,rfl,rfl,rfl,rfl⟩:=B4 ee;exact⟨i,j,rfl,rfl,rfl,fun _ _=>.bl _⟩
theorem oO:NJ X (unaryOp .USub) (rU X.K wq):=by
 intro pins s σ H x v Q I rx hh;obtain⟨ρ,h,d,z,h',S,rd,ee,k⟩:=hh;cases rd <;> first |(cases ee;done) | skip
 cases ee;exact Jy pins s σ H _ v Q I rx ⟨_,rfl,k _ _ (.here S (.int _))⟩
theorem KW:oJ X (binaryOp .Add) Dl:=by
 intro pins s σ H x y v u Q I rx ry hh;obtain⟨ρ,h,d,e,z,h',S,rd,re,ee,k⟩:=hh;have lists:((gM d h).bind fun xs=>(gM e h).bind fun ys=>if xs.length+ys.length≤sizeLine then some (D.lv (xs++ys),h) else none)=some (z,h')->wpAny (model X.prog X.w) X.A (binaryOp .Add v u) (EP X pins σ Q) X.xe s:=by
  intro ee;obtain⟨xs,e1,e4⟩:=bS ee;obtain⟨ys,e2,e3⟩:=bS e4
  by_cases c:xs.length+ys.length≤sizeLine
  ·rw[Qp c] at e3;cases e3;obtain⟨a,vs,rfl,ha,la⟩:=fk S rd e1;obtain⟨b,us,rfl,hb,lb⟩:=fk S re e2;exact E1 pins s σ H _ _ v u Q I rx ry ⟨a,b,vs,us,rfl,rfl,ha,hb,by rw[la.length,lb.length];exact c,fun p hp=>k _ _ (.lv S (la.append lb) hp)⟩
  ·rw[Qu c] at e3;cases e3
 cases d with
 | int i=>
  cases e <;> first |(cases ee;done) | skip
  cases ee;cases rd;cases re;exact K4 pins s σ H _ _ v u Q I rx ry ⟨_,_,rfl,rfl,k _ _ (.here S (.int _))⟩
 | str a=>
  cases e <;> first |(cases ee;done) | skip
  rename_i b;unfold Dl at ee;dsimp only at ee
  by_cases c:a.length+b.length≤sizeLine
  ·rw[Qp c] at ee;cases ee;cases rd with | str h1=>cases re with | str h2=>
   exact Aq pins s σ H _ _ v u Q I rx ry ⟨a,b,rfl,rfl,c,k _ _ (.here S (.str (kW h1 h2)))⟩
  ·rw[Qu c] at ee;cases ee
 | tup xs=>
  cases xs with
  | nil=>cases e <;> cases ee
  | cons x0 xs=>
   cases e <;> first |(cases ee;done) | skip
   rename_i ys;unfold Dl at ee;dsimp only at ee
   by_cases c:xs.length+1+ys.length≤sizeLine
   ·rw[Qp c] at ee;cases ee;cases rd with | tup h1 l1=>cases re with | tup h2 l2=>
    rename_i a vs b us;refine Hz pins s σ H _ _ v u Q I rx ry ⟨a,b,vs,us,rfl,rfl,h1.sq,h2.sq,?_,?_,fun z=>?_,fun _ p hp=>k _ _ (.tup S (l1.append l2) hp)⟩
    ·intro z;rw[z] at l1;cases l1
    ·rw[l1.length,l2.length];exact c
    ·rw[z] at l2;cases l2;rw[Ru] at k;exact k _ _ (.here S (.tup h1 l1))
   ·rw[Qu c] at ee;cases ee
 | lv xs=>exact lists (by cases e <;> exact ee)
 | ob n=>exact lists (by cases e <;> exact ee)
 | cN=>exact lists (by cases e <;> exact ee)
 | bl b=>exact lists (by cases e <;> exact ee)
 | ty b=>exact lists (by cases e <;> exact ee)
 | ro b=>exact lists (by cases e <;> exact ee)
 | dv b=>exact lists (by cases e <;> exact ee)
theorem lj(h1:p.canLay0=true)(h2:p.depth≤64):SeqAt.shaped p=true:=by
 unfold PySem.SeqAt.shaped;rw[h1,Q8 h2];rfl
theorem GU{K:FR}{ρ:Ad}{H:Hp}{v:V}{d:D}(r:Rep K ρ H v d):decide (v=V.cN)=PB d:=by
 cases r <;> rfl
theorem sV:oJ X (compareOp .Is) Di:=by
 intro pins s σ H x y v u Q I rx ry hh;obtain⟨ρ,h,d,e,z,h',S,rd,re,ee,k⟩:=hh;cases e <;> first |(cases ee;done) | skip
 cases ee;cases re;refine K3 pins s σ H _ _ v u Q I rx ry ⟨rfl,?_⟩;rw[GU rd];exact k _ _ (.here S (.bl _))
theorem wb{us:List Value}{ds:List PyData}{as:List Addr}(H:ReadsAll h us ds as)(hf:∀u d as,u∈us->Reads h u d as->d∈ds->f u=PyData.eqv d p):us.any f=ds.any fun b=>PyData.eqv b p:=by
 cases H with
 | nil=>rfl
 | cons r l=>rw[So,So,hf _ _ _ Qv r Qv,wb l fun u d as hu hr hd=>hf u d as (Qs _ hu) hr (Qs _ hd)]
open Classical in
noncomputable def Jh(h:Heap)(p:PyData)(u:Value):Bool:=if q:∃d as,Reads h u d as∧d.canLay0=true then PyData.eqv q.choose p else false
theorem FF(r:Reads h u d as)(c:d.canLay0=true):Jh h p u=PyData.eqv d p:=by
 have q:∃d as,Reads h u d as∧d.canLay0=true:=⟨d,as,r,c⟩;unfold Jh;rw[dif_pos q];obtain⟨as',r',c'⟩:=q.choose_spec;rw[PySem.SeqAt.Reads.unique _ _ _ _ _ c' r' r]
theorem jH:∀{ds:List PyData} {d:PyData},PyData.canLayAll0 ds=true->d∈ds->d.canLay0=true
 | x::r,d,c,m=>by
  simp only[PyData.canLayAll0,QJ] at c;rcases QK.mp m with rfl | m
  ·exact c.1
  ·exact jH c.2 m
theorem vV:∀{ds:List PyData} {d:PyData},d∈ds->d.depth≤PyData.depthAll ds
 | x::r,d,m=>by
  simp only[PyData.depthAll];rcases QK.mp m with rfl | m
  ·lia
  ·have:=vV m;lia
theorem vq{us:List Value}{ds:List PyData}{as:List Addr}(H:ReadsAll h us ds as)(y:Value)(hy:y∈us):∃d as,Reads h y d as∧d∈ds:=by
 cases H with
 | nil=>cases hy
 | cons r l=>
  rcases QK.mp hy with rfl | hy
  ·exact⟨_,_,r,Qv⟩
  ·obtain⟨d,as,a1,a2⟩:=vq l y hy;exact⟨d,as,a1,Qs _ a2⟩
theorem in_of(hu:X.A.units+64 < cLine)(I:L2.Inv X pins σ H s)(rx:L2.RelV x v)(ry:L2.RelV y u)(S:cx X.K ρ h H)(rd:Rep X.K ρ H x d)(re:Rep X.K ρ H y e){c:Bool}(ee:inD d e h=some c){Q:Bool->Shared->Prop}(hq:∀s',L2.Inv X pins σ H s'->Q c s'):
  wpAny (model X.prog X.w) X.A (compareOp .In v u) (fun r s'=>∃c,r=.bool c∧Q c s') X.xe s∧wpAny (model X.prog X.w) X.A (compareOp .NotIn v u) (fun r s'=>∃c,r=.bool (!c)∧Q c s') X.xe s:=by
 unfold inD at ee;cases qd:fb e h with
 | some kvs=>
  rw[qd] at ee;obtain⟨k,e1,e2⟩:=gL ee;obtain⟨a,us,rfl,ha,l⟩:=n5 S re qd;obtain rfl:u=Value.ref a:=ry;have ek:=lg rd e1;subst ek;have g:va H a (kV k) (jO us k):=va.k ha;have ec:(jO us k).isSome=c:=by
   rw[←e2];rcases l.val k with⟨h1,h2⟩ |⟨d,v,h1,h2,_⟩
   ·rw[h1,h2];rfl
   ·rw[h1,h2];rfl
  refine⟨Pf (by lia) I g rx fun s' I'=>⟨c,by rw[ec],hq s' I'⟩,Im (by lia) I g rx fun s' I'=>⟨c,by rw[ec],hq s' I'⟩⟩
 | none=>
  rw[qd] at ee;dsimp only at ee;have seqs:((dq e h).bind fun p=>(zH h d).bind fun a=>(oH p.1).bind fun bs=>if a.depth≤60∧PyData.depthAll bs≤60 then some (bs.any fun b=>PyData.eqv b a) else none)=some c->
    wpAny (model X.prog X.w) X.A (compareOp .In v u) (fun r s'=>∃c,r=.bool c∧Q c s') X.xe s∧wpAny (model X.prog X.w) X.A (compareOp .NotIn v u) (fun r s'=>∃c,r=.bool (!c)∧Q c s') X.xe s:=by
   intro ee;obtain⟨⟨xs,ws⟩,e1,e2⟩:=bS ee;obtain⟨p,e3,e4⟩:=bS e2;obtain⟨bs,e5,e6⟩:=bS e4
   by_cases w:p.depth≤60∧PyData.depthAll bs≤60
   ·rw[Qp w] at e6;cases e6;obtain⟨a,vs,rfl,hq',l⟩:=ny S re e1;obtain rfl:u=Value.ref a:=ry;obtain⟨r1,c1⟩:=wX S rd e3;obtain⟨r2,c2⟩:=l.vt e5;obtain⟨as,ra⟩:=r1.reads I rx;have key:∀its:List Value,Vals vs its->(∀y,y∈its->PySem.SeqAt.EqAt X.A.in1 s y v (Jh s.heap p y))∧its.any (Jh s.heap p)=bs.any fun b=>PyData.eqv b p:=by
     intro its rv;obtain⟨bs',rb⟩:=r2.reads I rv;refine⟨fun y hy=>?_,wb rb fun u d as _ hr hd=>FF hr (jH c2 hd)⟩;obtain⟨d,as',hr,hd⟩:=vq rb y hy;rw[FF hr (jH c2 hd)];refine Vt d p _ s y v as' as hr ra (jH c2 hd) c1 ?_;have h1:=vV hd;have h2:min d.depth p.depth≤d.depth:=Te _ _;show X.A.units+1+min d.depth p.depth < cLine;have h3:=w.2
     lia
    rcases hq' with hq' | hq'
    ·obtain⟨its,rv,pl,_⟩:=I.list hq';obtain⟨k1,k2⟩:=key its rv;have k1':∀y,y∈its.toArray->PySem.SeqAt.EqAt X.A.in1 s y v (Jh s.heap p y):=fun y hy=>k1 y (by simpa using hy);have k2':its.toArray.any (Jh s.heap p)=bs.any fun b=>PyData.eqv b p:=by rw[←k2];simp
     exact⟨PySem.SeqAt.in_listAt _ pl.isList k1' ⟨_,rfl,by rw[k2'];exact hq s I⟩,PySem.SeqAt.notIn_listAt _ pl.isList k1' ⟨_,rfl,by rw[k2'];exact hq s I⟩⟩
    ·obtain⟨its,rv,pl,_⟩:=I.tuple hq';obtain⟨k1,k2⟩:=key its rv;have k1':∀y,y∈its.toArray->PySem.SeqAt.EqAt X.A.in1 s y v (Jh s.heap p y):=fun y hy=>k1 y (by simpa using hy);have k2':its.toArray.any (Jh s.heap p)=bs.any fun b=>PyData.eqv b p:=by rw[←k2];simp
     exact⟨PySem.SeqAt.in_tupleAt _ pl k1' ⟨_,rfl,by rw[k2'];exact hq s I⟩,PySem.SeqAt.notIn_tupleAt _ pl k1' ⟨_,rfl,by rw[k2'];exact hq s I⟩⟩
   ·rw[Qu w] at e6;cases e6
  by_cases hs:(∃a,d=.str a)∧∃b,e=.str b
  ·obtain⟨⟨a,rfl⟩,b,rfl⟩:=hs;cases ee;cases rd;cases re;obtain⟨t,rfl⟩:=rx;obtain⟨t',rfl⟩:=ry;exact⟨in_str ⟨_,rfl,hq s I⟩,notIn_str ⟨_,rfl,hq s I⟩⟩
  ·refine seqs ?_;cases d <;> first | exact ee | skip
   cases e <;> first | exact ee | skip
   exact absurd ⟨⟨_,rfl⟩,_,rfl⟩ hs
theorem yM(hu:X.A.units+64 < cLine):oJ X (compareOp .In) DN:=by
 intro pins s σ H x y v u Q I rx ry hh;obtain⟨ρ,h,d,e,z,h',S,rd,re,ee,k⟩:=hh;obtain⟨c,e1,e2⟩:=gL ee;cases e2;refine cU (in_of hu I rx ry S rd re e1 (Q:=fun c' s'=>c'=c∧L2.Inv X pins σ H s') fun s' I'=>⟨rfl,I'⟩).1 fun r s' ⟨c',hr,hc,I'⟩=>?_;subst hr;subst hc;exact⟨.bl _,H,I',rfl,k _ _ (.here S (.bl _))⟩
theorem sT(hu:X.A.units+64 < cLine):oJ X (compareOp .NotIn) iO:=by
 intro pins s σ H x y v u Q I rx ry hh;obtain⟨ρ,h,d,e,z,h',S,rd,re,ee,k⟩:=hh;obtain⟨c,e1,e2⟩:=gL ee;cases e2;refine cU (in_of hu I rx ry S rd re e1 (Q:=fun c' s'=>c'=c∧L2.Inv X pins σ H s') fun s' I'=>⟨rfl,I'⟩).2 fun r s' ⟨c',hr,hc,I'⟩=>?_;subst hr;subst hc;exact⟨.bl _,H,I',rfl,k _ _ (.here S (.bl _))⟩
theorem IF{K:FR}{ρ:Ad}{H:Hp}{vs:List V}{ds:List D}{i:Int}{d:D}(l:aI K ρ H vs ds)(e:il ds i=some d):∃v,il vs i=some v∧Rep K ρ H v d:=by
 unfold il at e;obtain⟨j,e1,e2⟩:=bS e;obtain⟨v,e3,r⟩:=l.got e2;exact⟨v,by unfold il;rw[l.length,e1];exact e3,r⟩
theorem Nn(hu:X.A.units+64 < cLine):N0 X (rS X.K ba):=by
 intro value slice pins s σ H x y v u Q I rx ry hh hs;obtain⟨ρ,h,d,e,z,h',S,rd,re,ee,k⟩:=hh;unfold ba at ee;cases qd:fb d h with
 | some kvs=>
  rw[qd] at ee;obtain⟨ky,e1,e2⟩:=bS ee;obtain⟨z',e3,e4⟩:=gL e2;cases e4;obtain⟨a,us,rfl,ha,l⟩:=n5 S rd qd;obtain rfl:v=Value.ref a:=rx;have ek:=lg re e1;subst ek;rcases l.val ky with⟨h1,h2⟩ |⟨d',w,h1,h2,r⟩
  ·rw[h1] at e3;cases e3
  ·rw[h1] at e3;cases e3;have g:va H a (kV ky) (some w):=by rw[←h2];exact va.k ha
   exact tail_any (zk I g) Vg.lookup (Dq (by lia) I g ry fun w' s3 I3 rw'=>⟨w,H,I3,rw',k _ _ (.here S r)⟩) hs
 | none=>
  rw[qd] at ee;dsimp only at ee;cases e <;> first |(cases d <;> (cases ee;done)) | skip
  rename_i i;have seqs:((dq d h).bind fun p=>(il p.1 i).map fun z=>(z,h))=some (z,h')->wpAny (model X.prog X.w) X.A (subscriptTail value slice v u) (EP X pins σ Q) X.xe s:=by
   intro ee;obtain⟨⟨xs,ws⟩,e1,e2⟩:=bS ee;obtain⟨z',e3,e4⟩:=gL e2;cases e4;obtain⟨a,vs,rfl,hq',l⟩:=ny S rd e1;obtain⟨w,e5,r⟩:=IF l e3;cases re;rcases hq' with hq' | hq'
   ·exact HQ value slice pins s σ H _ _ v u Q I rx ry ⟨a,vs,i,w,rfl,rfl,hq',e5,k _ _ (.here S r)⟩ hs
   ·exact Ll value slice pins s σ H _ _ v u Q I rx ry ⟨a,vs,i,w,rfl,rfl,hq',e5,k _ _ (.here S r)⟩ hs
  cases d with
  | str x0=>
   dsimp only at ee
   by_cases c:x0.length≤sizeLine
   ·rw[Qp c] at ee;obtain⟨ch,e3,e4⟩:=gL ee;cases e4;cases rd with | str hs0=>
    cases re;exact Lm value slice pins s σ H _ _ v u Q I rx ry ⟨x0,i,ch,rfl,rfl,c,e3,k _ _ (.here S (.str (Cs hs0 e3)))⟩ hs
   ·rw[Qu c] at ee;cases ee
  | _=>exact seqs ee
theorem MR(hu:X.A.units+64 < cLine)(ha:SE X a ma)(hb:SE X b mb)(hs:oE b:=by unfold oE;intro _ _;ac_nf):SE X (.Subscript a b pos) (az ba ma mb):=(Na (Nn hu) ha hb hs).imp fun _ _ _=>BE
abbrev PM:=DS->MH->Option (Option Int×MH)
noncomputable def Gw:PM:=fun _ h=>some (none,h)
noncomputable def Gx(e:EM):PM:=fun δ h=>(e δ h).bind fun p=>match p.1 with
 | .int i=>some (some i,p.2)
 | _=>none
inductive NP(K:FR)(m:PM)(σ:L2.St)(H:Hp)(Q:Option Int->Hp->Prop):Prop where
 | mk (ρ δ h b h'):c7 K ρ H σ δ->cx K ρ h H->(m δ h=some (b,h'))->(∀ρ' H',dP ρ H ρ' H'->cx K ρ' h' H'->Q b H')->NP K m σ H Q
noncomputable def P5(K:FR)(m:PM):TO:=fun σ H Q=>NP K m σ H Q
def SP'(X:Cx)(e:Option Expr)(m:PM):Prop:=PO X e (P5 X.K m)
theorem kZ:SP' X none Gw:=fun pins s σ H Q I hh=>by
 obtain⟨ρ,δ,h,b,h',R,S,e,k⟩:=hh;cases e;exact Hj pins s σ H Q I (k ρ H (.refl _ _) S)
theorem kY(he:SE X e ma):SP' X (some e) (Gx ma):=fun pins s σ H Q I hh=>by
 obtain⟨ρ,δ,h,b,h',R,S,e,k⟩:=hh;obtain⟨⟨x,h1⟩,e1,e2⟩:=bS e;cases x <;> first |(cases e2;done) | skip
 cases e2;refine Hi he pins s σ H Q I ⟨ρ,δ,h,_,_,R,S,e1,fun v H' ⟨ρ',T,S',r⟩=>?_⟩;cases r;exact⟨_,rfl,k ρ' H' T S'⟩
noncomputable def cutD(xs:List D)(lo hi:Option Int):List D:=(xs.drop (HT.dD xs.length 0 lo)).take (HT.dD xs.length xs.length hi-HT.dD xs.length 0 lo)
noncomputable def Lz(d:D)(lo hi:Option Int)(h:MH):Option (D×MH):=match d with
 | .str z=>if z.length≤sizeLine then some (.str (Txt.slice z lo hi),h) else none
 | .tup xs=>if HT.dD xs.length 0 lo=0∧HT.dD xs.length xs.length hi=xs.length then none else some (.tup (cutD xs lo hi),h)
 | d=>(dq d h).map fun p=>(.lv (cutD p.1 lo hi),h)
noncomputable def Qb(a:EM)(l u:PM):EM:=fun δ h=>(a δ h).bind fun p=>(l δ p.2).bind fun q=>(u δ q.2).bind fun r=>Lz p.1 q.1 r.1 r.2
inductive NW(K:FR)(x:V)(lo hi:Option Int)(H:Hp)(Q:VK):Prop where
 | mk (ρ h d z h'):cx K ρ h H->Rep K ρ H x d->(Lz d lo hi h=some (z,h'))->(∀v H',fc K ρ H h' z v H'->Q v H')->NW K x lo hi H Q
def P9(K:FR):V->Option Int->Option Int->Hp->VK->Prop:=fun x lo hi H Q=>NW K x lo hi H Q
theorem aI.tT{K:FR}{ρ:Ad}{H:Hp}{vs:List V}{ds:List D}(l:aI K ρ H vs ds)(lo hi:Option Int):aI K ρ H (L2.tT vs lo hi) (cutD ds lo hi):=by
 unfold L2.tT cutD;rw[l.length];exact(l.drop _).take _
theorem IY:L5 X (P9 X.K):=by
 intro pins s σ H x v vl vu lo hi sl Q I rx hs pl pu hh;obtain⟨ρ,h,d,z,h',S,rd,ee,k⟩:=hh;have lists:xy d=true->((dq d h).map fun p=>(D.lv (cutD p.1 lo hi),h))=some (z,h')->∃T id,typeLookup (.type T) "__getitem__"=pure (some (.builtin id))∧s.TypeIs v T∧wpAny (model X.prog X.w) X.A (getItem v (.ref sl)) (EP X pins σ Q) X.xe s:=by
  intro nt e2;obtain⟨⟨xs,ws⟩,e1,e2⟩:=gL e2;cases e2;obtain⟨a,rfl,⟨vs,q,l⟩,_⟩:=l9 S rd e1;rw[nt] at q;cases q with
  | l q=>exact GJ pins s σ H _ v vl vu lo hi sl Q I rx hs pl pu ⟨a,vs,rfl,q,fun p hp=>k _ _ (.lv S (l.tT lo hi) hp)⟩
 cases d with
 | str x0=>
  unfold Lz at ee;dsimp only at ee
  by_cases c:x0.length≤sizeLine
  ·rw[Qp c] at ee;cases ee;cases rd with | str hs0=>
   exact JO pins s σ H _ v vl vu lo hi sl Q I rx hs pl pu ⟨x0,rfl,c,k _ _ (.here S (.str (yi _ _ hs0)))⟩
  ·rw[Qu c] at ee;cases ee
 | tup xs=>
  unfold Lz at ee;dsimp only at ee
  by_cases c:HT.dD xs.length 0 lo=0∧HT.dD xs.length xs.length hi=xs.length
  ·rw[Qp c] at ee;cases ee
  ·rw[Qu c] at ee;cases ee;cases rd with | tup h0 l0=>
   exact JN pins s σ H _ v vl vu lo hi sl Q I rx hs pl pu ⟨_,_,rfl,h0.sq,by rw[l0.length];exact c,fun p hp=>k _ _ (.tup S (l0.tT lo hi) hp)⟩
 | _=>exact lists rfl ee
theorem Ej{x:Str}{id:String}{p pos:Pos}{e:Expr}{es:List Expr}{f:Fn}{m:AM}(hc:gI X (.builtin id) f)(hg:Gl X x)(hm:X.mg x=none)(hv:bootBuiltins x=some (.builtin id))(ha:SA X (e::es) m)(hn:x≠"__name__":=by decide)(hdb:(x==("__debug__":Str))=false:=by ac_nf)
  (he:starEach (e::es) X.env=(false,eval e X.env)::starEach es X.env:=by ac_nf) (hpl:(backTo pos (starEach es X.env)).any (·.1)=false:=by ac_nf):SE X (.Call (.Name x p) (e::es) [] pos) (ay f m):=
 (sP hc hg hm hv ha hn hdb he hpl).imp fun σ H Q ⟨ρ,δ,h,d,h',R,S,e,k⟩=>by
  obtain⟨⟨ds,h1⟩,e1,e2⟩:=bS e;exact⟨ρ,δ,h,ds,h1,R,S,e1,fun vs ρ1 H1 T1 S1 r1=>⟨ρ1,h1,ds,d,h',S1,r1,e2,fun v H' P=>k v H' (P.step T1)⟩⟩
theorem Ei{x:Str}{id:String}{p pos:Pos}{e:Expr}{es:List Expr}{f:Fn}{m:AM}(hc:gI X (.type id) f)(hg:Gl X x)(hm:X.mg x=none)(hv:bootBuiltins x=some (.type id))(ha:SA X (e::es) m)(hn:x≠"__name__":=by decide)(hdb:(x==("__debug__":Str))=false:=by ac_nf)
  (he:starEach (e::es) X.env=(false,eval e X.env)::starEach es X.env:=by ac_nf) (hpl:(backTo pos (starEach es X.env)).any (·.1)=false:=by ac_nf):SE X (.Call (.Name x p) (e::es) [] pos) (ay f m):=
 (k5 hc hg hm hv ha hn hdb he hpl).imp fun σ H Q ⟨ρ,δ,h,d,h',R,S,e,k⟩=>by
  obtain⟨⟨ds,h1⟩,e1,e2⟩:=bS e;exact⟨ρ,δ,h,ds,h1,R,S,e1,fun vs ρ1 H1 T1 S1 r1=>⟨ρ1,h1,ds,d,h',S1,r1,e2,fun v H' P=>k v H' (P.step T1)⟩⟩
noncomputable def cZ:Fn:=fun ds h=>match ds with
 | [.str z]=>if z.length≤sizeLine then some (.int z.length,h) else none
 | [d]=>match fb d h with
  | some kvs=>some (.int kvs.length,h)
  | none=>(dq d h).map fun p=>(.int p.1.length,h)
 | _=>none
noncomputable def LG:Fn:=fun ds h=>match ds with
 | [.int i]=>some (.int (if i < 0 then -i else i),h)
 | _=>none
noncomputable def Pt(d:D)(h:MH):Option String:=match d with
 | .cN=>some "NoneType"
 | .bl _=>some "bool"
 | .int _=>some "int"
 | .str _=>some "str"
 | .tup _=>some "tuple"
 | .lv _=>some "list"
 | .dv _=>some "dict"
 | .ob n=>match h[n]? with
  | some (.lst _)=>some "list"
  | some (.dct _)=>some "dict"
  | none=>none
 | _=>none
noncomputable def D5(t n:String):Bool:=t==n||(t=="bool"&&n=="int")
noncomputable def ik:Fn:=fun ds h=>match ds with
 | [d,.ty n]=>if n∈["int","str","bool","tuple","list","dict"] then(Pt d h).map fun t=>(.bl (D5 t n),h) else none
 | _=>none
noncomputable def bV:Fn:=fun ds h=>match ds with
 | [d]=>(dq d h).map fun p=>(.tup p.1,h)
 | _=>none
noncomputable def ub:List D->Option (List Bool)
 | []=>some []
 | .bl b::r=>(ub r).map fun bs=>b::bs
 | _=>none
noncomputable def rm:Fn:=fun ds h=>match ds with
 | [d]=>(gM d h).bind fun xs=>(ub xs).map fun bs=>(.bl (bs.all id),h)
 | _=>none
noncomputable def LF:Fn:=fun ds h=>match ds with
 | [d]=>(gM d h).bind fun xs=>(ub xs).map fun bs=>(.bl (bs.any id),h)
 | _=>none
theorem rep1{K:FR}{ρ:Ad}{H:Hp}{vs:List V}{d:D}(l:aI K ρ H vs [d]):∃v,vs=[v]∧Rep K ρ H v d:=by
 cases l with
 | cons r l=>cases l;exact⟨_,rfl,r⟩
theorem rep2{K:FR}{ρ:Ad}{H:Hp}{vs:List V}{d e:D}(l:aI K ρ H vs [d,e]):∃v u,vs=[v,u]∧Rep K ρ H v d∧Rep K ρ H u e:=by
 cases l with
 | cons r l=>cases l with
  | cons r' l=>cases l;exact⟨_,_,rfl,r,r'⟩
theorem cb:gI X (.builtin "len") cZ:=by
 intro pins s σ H xs us Q I r hh;obtain⟨ρ,h,ds,z,h',S,l,ee,k⟩:=hh
 match ds,l,ee with
 | [],_,ee=>cases ee
 | _::_::_,_,ee=>exact absurd ee (by unfold cZ;split <;> simp_all)
 | [d],l,ee=>
  obtain⟨v,rfl,rd⟩:=rep1 l;have oth:(match fb d h with | some kvs=>some (D.int kvs.length,h) | none=>(dq d h).map fun p=>(D.int p.1.length,h))=some (z,h')->wpAny (model X.prog X.w) X.A (call (.builtin "len") us) (EP X pins σ Q) X.xe s:=by
   intro ee;cases q:fb d h with
   | some kvs=>
    rw[q] at ee;cases ee;obtain⟨a,ws,rfl,ha,lk⟩:=n5 S rd q;refine DA pins s σ H _ us Q I r ⟨a,ws,rfl,ha,k _ _ ?_⟩;rw[lk.length];exact .here S (.int _)
   | none=>
    rw[q] at ee;obtain⟨⟨ys,w⟩,e1,e2⟩:=gL ee;cases e2;obtain⟨a,vs,rfl,hq,l2⟩:=ny S rd e1;refine xT pins s σ H _ us Q I r ⟨a,vs,rfl,hq,k _ _ ?_⟩;rw[l2.length];exact .here S (.int _)
  cases d with
  | str x0=>
   unfold cZ at ee;dsimp only at ee
   by_cases c:x0.length≤sizeLine
   ·rw[Qp c] at ee;cases ee;cases rd;exact xS pins s σ H _ us Q I r ⟨x0,rfl,c,k _ _ (.here S (.int _))⟩
   ·rw[Qu c] at ee;cases ee
  | _=>exact oth ee
theorem FK:gI X (.builtin "abs") LG:=by
 intro pins s σ H xs us Q I r hh;obtain⟨ρ,h,ds,z,h',S,l,ee,k⟩:=hh
 match ds,l,ee with
 | [],_,ee=>cases ee
 | d::_::_,_,ee=>cases d <;> cases ee
 | [d],l,ee=>
  obtain⟨v,rfl,rd⟩:=rep1 l;cases rd <;> first |(cases ee;done) | skip
  cases ee;exact F6 pins s σ H _ us Q I r ⟨_,rfl,k _ _ (.here S (.int _))⟩
theorem bK:gI X (.type "tuple") bV:=by
 intro pins s σ H xs us Q I r hh;obtain⟨ρ,h,ds,z,h',S,l,ee,k⟩:=hh
 match ds,l,ee with
 | [],_,ee=>cases ee
 | _::_::_,_,ee=>cases ee
 | [d],l,ee=>
  obtain⟨v,rfl,rd⟩:=rep1 l;obtain⟨⟨ys,w⟩,e1,e2⟩:=gL ee;cases e2;obtain⟨a,rfl,⟨vs,q,l2⟩,_⟩:=l9 S rd e1;refine uY pins s σ H _ us Q I r ⟨a,vs,rfl,?_⟩;generalize hb:xy d=b at q;cases q with
  | l q=>exact .inl ⟨q,fun p hp=>k _ _ (.tup S l2 hp)⟩
  | t q=>
   refine .inr ⟨q,k _ _ ?_⟩;cases rd <;> first |(cases hb;done) | skip
   cases e1;exact .here S (.tup ‹_› ‹_›)
theorem Bn{K:FR}{ρ:Ad}{H:Hp}:∀{vs:List V} {xs:List D} {bs:List Bool},aI K ρ H vs xs->ub xs=some bs->vs=bs.map V.bl
 | _,_,_,.nil,e=>by cases e;rfl
 | _,_,_,.cons r l,e=>by
  cases r <;> first |(cases e;done) | skip
  obtain⟨bs',e1,e2⟩:=gL e;cases e2;rw[Bn l e1];rfl
theorem mY(hc:X.calm=true):gI X (.builtin "all") rm:=by
 intro pins s σ H xs us Q I r hh;obtain⟨ρ,h,ds,z,h',S,l,ee,k⟩:=hh
 match ds,l,ee with
 | [],_,ee=>cases ee
 | _::_::_,_,ee=>cases ee
 | [d],l,ee=>
  obtain⟨v,rfl,rd⟩:=rep1 l;obtain⟨ys,e1,e2⟩:=bS ee;obtain⟨bs,e3,e4⟩:=gL e2;cases e4;obtain⟨a,vs,rfl,ha,l2⟩:=fk S rd e1;rw[Bn l2 e3] at ha;exact F5 hc pins s σ H _ us Q I r ⟨a,bs,rfl,gH.of ha,k _ _ (.here S (.bl _))⟩
theorem LL(hc:X.calm=true):gI X (.builtin "any") LF:=by
 intro pins s σ H xs us Q I r hh;obtain⟨ρ,h,ds,z,h',S,l,ee,k⟩:=hh
 match ds,l,ee with
 | [],_,ee=>cases ee
 | _::_::_,_,ee=>cases ee
 | [d],l,ee=>
  obtain⟨v,rfl,rd⟩:=rep1 l;obtain⟨ys,e1,e2⟩:=bS ee;obtain⟨bs,e3,e4⟩:=gL e2;cases e4;obtain⟨a,vs,rfl,ha,l2⟩:=fk S rd e1;rw[Bn l2 e3] at ha;exact FZ hc pins s σ H _ us Q I r ⟨a,bs,rfl,gH.of ha,k _ _ (.here S (.bl _))⟩
theorem BO{K:FR}{t n:String}(ht:t∈["NoneType","bool","int","str","tuple","list","dict"])(hn:n∈["int","str","bool","tuple","list","dict"]):PySem.W.kitOne K (.type t) (.type n)=some (D5 t n):=by
 simp only[QK,List.mem_nil_iff,U9] at ht hn;rcases ht with rfl | rfl | rfl | rfl | rfl | rfl | rfl <;> rcases hn with rfl | rfl | rfl | rfl | rfl | rfl <;> rfl
theorem di:gI X (.builtin "isinstance") ik:=by
 intro pins s σ H xs us Q I r hh;obtain⟨ρ,h,ds,z,h',S,l,ee,k⟩:=hh
 match ds,l,ee with
 | [],_,ee=>cases ee
 | [_],_,ee=>cases ee
 | _::d::_::_,_,ee=>cases d <;> cases ee
 | [d,c],l,ee=>
  cases c <;> first |(cases ee;done) | skip
  rename_i n;unfold ik at ee;dsimp only at ee
  by_cases hn:n∈["int","str","bool","tuple","list","dict"]
  ·rw[Qp hn] at ee;obtain⟨t,e1,e2⟩:=gL ee;cases e2;obtain⟨v,u,rfl,rd,ru⟩:=rep2 l;cases ru;have fin:=k (.bl (D5 t n)) H (.here S (.bl _));have go:∀ty,ow X.K H v (.type ty)->t=ty->ty∈["NoneType","bool","int","str","tuple","list","dict"]->wpAny (model X.prog X.w) X.A (call (.builtin "isinstance") us) (EP X pins σ Q) X.xe s:=fun ty hty e hm=>by
    subst e;exact FY pins s σ H _ us Q I r ⟨v,n,_,_,rfl,hty,BO hm hn,fin⟩
   cases rd with
   | cN=>cases e1;exact go _ .cN rfl (by decide)
   | bl b=>cases e1;exact go _ (.bl b) rfl (by decide)
   | int i=>cases e1;exact go _ (.int i) rfl (by decide)
   | str h0=>cases e1;exact go _ (.str _) rfl (by decide)
   | ty _=>cases e1
   | ro _ _=>cases e1
   | lv h0 _ _=>cases e1;exact go _ (.lst h0) rfl (by decide)
   | dv h0 _ _=>cases e1;exact go _ (.dK h0) rfl (by decide)
   | @ob a m hm=>
    unfold Pt at e1;dsimp only at e1;cases q:h[m]? with
    | none=>rw[q] at e1;cases e1
    | some o=>
     rw[q] at e1;have x:=S.at_ m a o hm q;cases o with
     | lst _=>cases e1;obtain⟨vs,e3,_⟩:=x;exact go _ (.lst e3) rfl (by decide)
     | dct _=>cases e1;obtain⟨vs,e3,_⟩:=x;exact go _ (.dK e3) rfl (by decide)
   | @tup a vs ds h0 l0=>
    cases e1;obtain⟨u1,u2,rfl,r1,r2⟩:=Vals.two r;obtain rfl:u1=Value.ref a:=r1;obtain rfl:u2=Value.type n:=r2;obtain⟨its,_,⟨o,h1,h2,_⟩,_⟩:=I.tuple h0.sq;exact RH VT I.vO ⟨o,h1,h2⟩ (BO (t:="tuple") (by decide) hn) (fun z=>nomatch z) fun tk=>⟨.bl _,H,I.tok tk,rfl,fin⟩
  ·rw[Qu hn] at ee;cases ee
noncomputable def zC(m:AM):AM:=fun δ h=>(m δ h).bind fun p=>match p.1 with
 | [d]=>(dq d p.2).map fun q=>(q.1,p.2)
 | _=>none
theorem wH(hg:Gl X x)(hm:X.mg x=none)(hv:bootBuiltins x=some (.type "list"))(ha:SA X [e] m)(hl:oF m 1)(hn:x≠"__name__":=by decide)(hdb:(x==("__debug__":Str))=false:=by ac_nf)(he:starEach [e] X.env=(false,eval e X.env)::starEach [] X.env:=by ac_nf)(hpl:(backTo pos (starEach [] X.env)).any (·.1)=false:=by ac_nf):jR X (.Call (.Name x p) [e] [] pos) (zC m):=
 (k5 xR hg hm hv ha hn hdb he hpl).imp fun σ H Q ⟨ρ,δ,h,d,h',R,S,e,k⟩=>by
  obtain⟨⟨ds,h1⟩,e1,e2⟩:=bS e;refine⟨ρ,δ,h,ds,h1,R,S,e1,fun vs ρ1 H1 T1 S1 r1=>?_⟩
  match ds,hl _ _ _ _ e1,e2,r1 with
  | [d],_,e2,r1=>
   obtain⟨⟨ys,w⟩,e3,e4⟩:=gL e2;cases e4;obtain⟨v,rfl,rd⟩:=rep1 r1;obtain⟨a,ws,rfl,hq,l2⟩:=ny S1 rd e3;exact⟨a,ws,rfl,hq,fun l hl=>k ρ1 H1 l ws T1 S1 hl l2⟩
noncomputable def uU(o i v:D)(h:MH):Option MH:=match o with
 | .ob n=>match h[n]? with
  | some (.lst xs)=>match i with
   | .int j=>(xw xs.length j).map fun p=>h.set n (.lst (xs.set p v))
   | _=>none
  | some (.dct kvs)=>(rh i).bind fun k=>if kvs.length < sizeLine then some (h.set n (.dct (putD kvs k v))) else none
  | none=>none
 | _=>none
noncomputable def uS(o i:EM):GM:=fun v δ h=>(o δ h).bind fun p=>(i δ p.2).bind fun q=>(uU p.1 q.1 v q.2).map fun h'=>(δ,h')
inductive Jp(K:FR)(o i v:V)(H:Hp)(Q:Hp->Prop):Prop where
 | mk (ρ h a b c h'):cx K ρ h H->Rep K ρ H o a->Rep K ρ H i b->Rep K ρ H v c->(uU a b c h=some h')->(∀ρ' H',dP ρ H ρ' H'->cx K ρ' h' H'->Q H')->Jp K o i v H Q
def OU(K:FR):V->V->V->Hp->(Hp->Prop)->Prop:=fun o i v H Q=>Jp K o i v H Q
theorem Hf(hu:X.A.units+64 < cLine):L9 X (OU X.K):=by
 intro pins s σ H o i v ov iv u Q I ro ri rv hh;obtain⟨ρ,h,a,b,c,h',S,ra,rb,rc,ee,k⟩:=hh;cases ra <;> first |(cases ee;done) | skip
 rename_i a n hn;unfold uU at ee;dsimp only at ee;cases q:h[n]? with
 | none=>rw[q] at ee;cases ee
 | some w=>
  rw[q] at ee;have x:=S.at_ n a w hn q;have ma:=Qn hn;cases w with
  | lst xs=>
   dsimp only at ee;cases rb <;> first |(cases ee;done) | skip
   rename_i j;obtain⟨p,e1,e2⟩:=gL ee;cases e2;obtain⟨vs,e3,l⟩:=x;have T:dP ρ H ρ (upd H a (.lst (vs.set p v))):=dP.wrote S ma;exact set_list pins s σ H _ _ v ov iv u Q I ro ri rv ⟨a,vs,j,p,rfl,rfl,e3,by rw[l.length];exact e1,k ρ _ T (S.wrote hn ⟨_,bj,(l.set rc p).mono T.toCh⟩)⟩
  | dct kvs=>
   dsimp only at ee;obtain⟨ky,e1,e2⟩:=bS ee
   by_cases z:kvs.length < sizeLine
   ·rw[Qp z] at e2;cases e2;obtain⟨us,e3,l⟩:=x;have ek:=lg rb e1;subst ek;obtain rfl:ov=Value.ref a:=ro;have T:dP ρ H ρ (upd H a (.dK (putK us ky v))):=dP.wrote S ma;exact Dp (by lia) I (IS.k e3 (by rw[l.length];exact z)) ri rv fun s' I'=>⟨_,I',k ρ _ T (S.wrote hn ⟨_,bj,(l.put rc).mono T.toCh⟩)⟩
   ·rw[Qu z] at e2;cases e2
theorem oV (hu:X.A.units+64 < cLine) (ho:SE X o mo) (hi:SE X i mi) (ha:∀v,assign (.Subscript o i pos) X.env v=(do
   let ov←holding [v] (eval o X.env);let iv←holding [v,ov] (eval i X.env)
   standAt pos
   holding [v,ov,iv] (setItem ov iv v)
   release [v,ov,iv] []):=by intro _;ac_nf):SG X (.Subscript o i pos) (uS mo mi):=
 (KA ho hi (Hf hu) ha).imp fun v σ H Q ⟨ρ,δ,h,d,δ',h',R,S,r,e,k⟩=>by
  obtain⟨⟨x,h1⟩,e1,e2⟩:=bS e;obtain⟨⟨y,h2⟩,e3,e4⟩:=bS e2;obtain⟨h3,e5,e6⟩:=gL e4;cases e6;exact⟨ρ,δ,h,x,h1,R,S,e1,fun ov H1 ⟨ρ1,T1,S1,r1⟩=>⟨ρ1,δ,h1,y,h2,R.mono T1,S1,e3,fun iv H2 ⟨ρ2,T2,S2,r2⟩=>
   ⟨ρ2,h2,x,y,d,_,S2,r1.mono T2,r2,r.mono (T1.trans T2).toCh,e5,fun ρ3 H3 T3 S3=>k ρ3 H3 σ (T1.trans (T2.trans T3)) S3 (R.mono (T1.trans (T2.trans T3)).toCh)⟩⟩⟩
abbrev DP:=D->List D->MH->Option (D×MH)
inductive PN(K:FR)(f:DP)(x:V)(vs:List V)(H:Hp)(Q:VK):Prop where
 | mk (ρ h d ds z h'):cx K ρ h H->Rep K ρ H x d->aI K ρ H vs ds->(f d ds h=some (z,h'))->(∀v H',fc K ρ H h' z v H'->Q v H')->PN K f x vs H Q
def rM(K:FR)(f:DP):V->List V->Hp->VK->Prop:=fun x vs H Q=>PN K f x vs H Q
noncomputable def eM(isT:D->MH->Bool)(f:DP)(o:EM)(m:AM):EM:=fun δ h=>(o δ h).bind fun p=>if isT p.1 p.2 then(m δ p.2).bind fun q=>f p.1 q.1 q.2 else none
noncomputable def cY(d:D)(h:MH):Bool:=(gM d h).isSome
noncomputable def eO:DP:=fun d ds h=>match d,ds with
 | .ob n,[y]=>match h[n]? with
  | some (.lst xs)=>if xs.length < sizeLine then some (.cN,h.set n (.lst (xs++[y]))) else none
  | _=>none
 | _,_=>none
noncomputable def k9:DP:=fun d ds h=>match d,ds with
 | .ob n,[y]=>match h[n]? with
  | some (.lst xs)=>(gM y h).bind fun zs=>if xs.length+zs.length≤sizeLine then some (.cN,h.set n (.lst (xs++zs))) else none
  | _=>none
 | _,_=>none
noncomputable def Fc:DP:=fun d ds h=>match d,ds with
 | .ob n,[]=>match h[n]? with
  | some (.lst xs)=>(xs[xs.length-1]?).map fun y=>(y,h.set n (.lst xs.dropLast))
  | _=>none
 | _,_=>none
theorem gA{K:FR}{ρ:Ad}{H:Hp}{h:MH}{v:V}{d:D}(S:cx K ρ h H)(r:Rep K ρ H v d)(e:cY d h=true):Jz K "list" v H:=by
 obtain⟨xs,e1⟩:=Vl.mp e;obtain⟨a,vs,rfl,ha,_⟩:=fk S r e1;exact .inl ⟨rfl,vs,gH.of ha⟩
theorem oX{T id:String}{name:Str}{o e:Expr}{es:List Expr}{apos cpos:Pos}{f:DP}{mo:EM}{m:AM}{isT:D->MH->Bool}(hT:∀{K:FR} {ρ:Ad} {H:Hp} {h:MH} {v:V} {d:D},cx K ρ h H->Rep K ρ H v d->isT d h=true->Jz K T v H)
  (pa:PlainAttrs T) (slot:Slot T name id) (hty:typeOf (.builtin id)=pure (.type "method_descriptor")) (hm:DH X id (rM X.K f)) (ho:SE X o mo) (ha:SA X (e::es) m)
  (hbase:attributeBase o name X.env (eval o X.env)=eval o X.env:=by ac_nf)
  (hfew:((backTo cpos (starEach (e::es) X.env)).all (fun x=>!x.1)&&(backToKw cpos (keywordEach [] X.env)).all (fun x=>x.1.isSome)
   &&decide ((e::es).length+([]:List Keyword).length+(if([]:List Keyword).isEmpty then 0 else 1) < 30))=true:=by ac_nf)
  (hline:(apos.endLine==cpos.line)=true:=by ac_nf) (hs:starEach (e::es) X.env=(false,eval e X.env)::starEach es X.env:=by ac_nf) (hplain:(backTo cpos (starEach es X.env)).any (·.1)=false:=by ac_nf):
  SE X (.Call (.Attribute o name apos) (e::es) [] cpos) (eM isT f mo m):=(Nb pa slot hty hm ho ha hbase hfew hline hs hplain).imp fun σ H Q ⟨ρ,δ,h,d,h',R,S,e,k⟩=>by
 obtain⟨⟨x,h1⟩,e1,e2⟩:=bS e;dsimp only at e2
 by_cases c:isT x h1=true
 ·rw[Qp c] at e2;obtain⟨⟨ds,h2⟩,e3,e4⟩:=bS e2;exact⟨ρ,δ,h,x,h1,R,S,e1,fun v H1 ⟨ρ1,T1,S1,r1⟩=>⟨hT S1 r1 c,ρ1,δ,h1,ds,h2,R.mono T1,S1,e3,fun vs ρ2 H2 T2 S2 r2=>⟨ρ2,h2,x,ds,d,h',S2,r1.mono T2,r2,e4,fun w H3 p=>k w H3 (p.step (T1.trans T2))⟩⟩⟩
 ·rw[Qu c] at e2;cases e2
theorem MQ{T id:String}{name:Str}{o:Expr}{apos cpos:Pos}{f:DP}{mo:EM}{isT:D->MH->Bool}(hT:∀{K:FR} {ρ:Ad} {H:Hp} {h:MH} {v:V} {d:D},cx K ρ h H->Rep K ρ H v d->isT d h=true->Jz K T v H)
  (pa:PlainAttrs T) (slot:Slot T name id) (hty:typeOf (.builtin id)=pure (.type "method_descriptor")) (hm:DH X id (rM X.K f)) (ho:SE X o mo)
  (hbase:attributeBase o name X.env (eval o X.env)=eval o X.env:=by ac_nf) (hline:(apos.endLine==cpos.line)=true:=by ac_nf):
  SE X (.Call (.Attribute o name apos) [] [] cpos) (eM isT f mo ai):=(KP pa slot hty hm ho hbase hline).imp fun σ H Q ⟨ρ,δ,h,d,h',R,S,e,k⟩=>by
 obtain⟨⟨x,h1⟩,e1,e2⟩:=bS e;dsimp only at e2
 by_cases c:isT x h1=true
 ·rw[Qp c] at e2;exact⟨ρ,δ,h,x,h1,R,S,e1,fun v H1 ⟨ρ1,T1,S1,r1⟩=>⟨hT S1 r1 c,ρ1,h1,x,[],d,h',S1,r1,.nil,e2,fun w H3 p=>k w H3 (p.step T1)⟩⟩
 ·rw[Qu c] at e2;cases e2
theorem xq{K:FR}{ρ:Ad}{H:Hp}{h:MH}{n:Nat}{xs:List D}{v:V}(S:cx K ρ h H)(r:Rep K ρ H v (.ob n))(q:h[n]?=some (.lst xs)):∃a vs,v=.ref a∧ρ.ob[n]?=some a∧H a=some (.lst vs)∧aI K ρ H vs xs:=by
 cases r with
 | ob hn=>obtain⟨vs,e,l⟩:=S.at_ n _ _ hn q;exact⟨_,vs,rfl,hn,e,l⟩
theorem fz:DH X "list.append" (rM X.K eO):=by
 intro pins s σ H x xs v us Q I rx rs hh;obtain⟨ρ,h,d,ds,z,h',S,rd,l,ee,k⟩:=hh;cases d <;> first |(cases ee;done) | skip
 rename_i n
 match ds,l,ee with
 | [],_,ee=>cases ee
 | _::_::_,_,ee=>cases ee
 | [y],l,ee=>
  unfold eO at ee;dsimp only at ee;cases q:h[n]? with
  | none=>rw[q] at ee;cases ee
  | some w=>
   rw[q] at ee;cases w with
   | dct _=>cases ee
   | lst ys=>
    dsimp only at ee
    by_cases c:ys.length < sizeLine
    ·rw[Qp c] at ee;cases ee;obtain⟨a,vs,rfl,hn,e1,l1⟩:=xq S rd q;obtain⟨u,rfl,ru⟩:=rep1 l;have T:dP ρ H ρ (upd H a (.lst (vs++[u]))):=dP.wrote S (Qn hn);exact vF pins s σ H _ _ v us Q I rx rs ⟨a,vs,u,rfl,rfl,e1,by rw[l1.length];exact c,k _ _ ⟨ρ,T,S.wrote hn ⟨_,bj,(l1.snoc ru).mono T.toCh⟩,.cN⟩⟩
    ·rw[Qu c] at ee;cases ee
theorem vG:DH X "list.extend" (rM X.K k9):=by
 intro pins s σ H x xs v us Q I rx rs hh;obtain⟨ρ,h,d,ds,z,h',S,rd,l,ee,k⟩:=hh;cases d <;> first |(cases ee;done) | skip
 rename_i n
 match ds,l,ee with
 | [],_,ee=>cases ee
 | _::_::_,_,ee=>cases ee
 | [y],l,ee=>
  unfold k9 at ee;dsimp only at ee;cases q:h[n]? with
  | none=>rw[q] at ee;cases ee
  | some w=>
   rw[q] at ee;cases w with
   | dct _=>cases ee
   | lst ys=>
    dsimp only at ee;obtain⟨zs,e2,e3⟩:=bS ee
    by_cases c:ys.length+zs.length≤sizeLine
    ·rw[Qp c] at e3;cases e3;obtain⟨a,vs,rfl,hn,e1,l1⟩:=xq S rd q;obtain⟨u,rfl,ru⟩:=rep1 l;obtain⟨b,ws,rfl,eb,l2⟩:=fk S ru e2;have T:dP ρ H ρ (upd H a (.lst (vs++ws))):=dP.wrote S (Qn hn);exact CO pins s σ H _ _ v us Q I rx rs ⟨a,b,vs,ws,rfl,rfl,e1,eb,by rw[l1.length,l2.length];exact c,k _ _ ⟨ρ,T,S.wrote hn ⟨_,bj,(l1.append l2).mono T.toCh⟩,.cN⟩⟩
    ·rw[Qu c] at e3;cases e3
theorem La:DH X "list.pop" (rM X.K Fc):=by
 intro pins s σ H x xs v us Q I rx rs hh;obtain⟨ρ,h,d,ds,z,h',S,rd,l,ee,k⟩:=hh;cases d <;> first |(cases ee;done) | skip
 rename_i n
 match ds,l,ee with
 | _::_,_,ee=>cases ee
 | [],l,ee=>
  unfold Fc at ee;dsimp only at ee;cases q:h[n]? with
  | none=>rw[q] at ee;cases ee
  | some w=>
   rw[q] at ee;cases w with
   | dct _=>cases ee
   | lst ys=>
    dsimp only at ee;obtain⟨y,e2,e3⟩:=gL ee;cases e3;obtain⟨a,vs,rfl,hn,e1,l1⟩:=xq S rd q;cases l;obtain⟨u,e4,r4⟩:=l1.got e2;have T:dP ρ H ρ (upd H a (.lst vs.dropLast)):=dP.wrote S (Qn hn);exact K9 pins s σ H _ _ v us Q I rx rs ⟨a,vs,u,rfl,rfl,e1,by rw[l1.length];exact e4,k _ _ ⟨ρ,T,S.wrote hn ⟨_,bj,l1.dropLast.mono T.toCh⟩,r4.mono T.toCh⟩⟩
end Sm
namespace Sb
open PySem L2 PySem.Spec PyProof.Rows
open Builtin.SmallTypes (nextOf ownedTupleIsFree ownedTupleHandOut)
noncomputable def kn:Bool->String
 | true=>"list_iterator"
 | false=>"tuple_iterator"
def At(b:Bool)(h:Heap)(j l:Addr)(i:Nat):Prop:=∃o,h.get? j=some o∧o.cls=.type (kn b)∧o.data=.fields #[.ref l,.int i 0]
def Of(b:Bool)(h:Heap)(l:Addr)(items:Array Value):Prop:=match b with
 | true=>h.IsList l items
 | false=>h.IsTuple l items
theorem At.up(x:At b h j l i)(k:∀o,h.get? j=some o->h'.get? j=some o):At b h' j l i:=let⟨o,e,r⟩:=x;⟨o,k o e,r⟩
theorem At.lt(x:At b h j l i):j < h.objs.size:=let⟨_,e,_⟩:=x;Qw e
theorem Of.data(x:Of b h l items):∃o n,h.get? l=some o∧o.data=.seq items n:=by
 cases b with
 | true=>obtain⟨o,e,_,n,d⟩:=(show h.IsList l items from x);exact⟨o,n,e,d⟩
 | false=>obtain⟨o,e,_,n,d⟩:=(show h.IsTuple l items from x);exact⟨o,n,e,d⟩
theorem Of.up(x:Of b h l items)(k:∀o,h.get? l=some o->h'.get? l=some o):Of b h' l items:=by
 cases b with
 | true=>obtain⟨o,e,r⟩:=(show h.IsList l items from x);exact⟨o,k o e,r⟩
 | false=>obtain⟨o,e,r⟩:=(show h.IsTuple l items from x);exact⟨o,k o e,r⟩
theorem BN(hj:At b s.heap j l i)(hl:Of b s.heap l items)(hx:items[i]?=some x)(k:∀h',At b h' j l (i+1)->Heap.SameBut j s.heap h'->Q x {s with heap:=h'}):wpAny (model P w) A (nextOf (.ref j)) Q E s:=by
 cases b with
 | true=>exact wpAny_nextOf_list_item (show s.heap.IsListIter j l i from hj) (show s.heap.IsList l items from hl) hx k
 | false=>
  have hj':s.heap.IsTupleIter j l i:=hj;obtain⟨o,eo,ec,ed⟩:=hj';obtain⟨ol,el,_,nl,edl⟩:=(show s.heap.IsTuple l items from hl);unfold nextOf;refine Qj (Rj (name:=Str.ofString "__next__") (show s.TypeIs (.ref j) "tuple_iterator" from⟨o,eo,ec⟩) Tb
   (Rh Tb (show s.TypeIs (.ref j) "tuple_iterator" from⟨o,eo,ec⟩) VB ?_ (Vv _)))
  show wpAny _ _ (field (.ref j) 0 >>=_) _ _ s;refine Qj (Rq eo ed (x:=.ref l) rfl ?_);show wpAny _ _ (if(Value.ref l==Value.none)=true then _ else _) _ _ s;rw[Qu (show ¬((Value.ref l==Value.none)=true) by exact Rg)];show wpAny _ _ (field (.ref j) 1 >>=_) _ _ s;refine Qj (Rq eo ed (x:=.int i 0) rfl ?_);show wpAny _ _ (seqItems? (.ref l) >>=_) _ _ s;refine Qj (RK el edl ?_);simp only[QO,hx];refine Qj (VH eo ed (by simp) (Qm ⟨x,rfl,Qm (k _ ?_ (TZ ..))⟩));exact⟨_,RO _ eo (Obj.isFreed_of_fields (Ug ed _)),(Obj.cls_mapFields ..).trans ec,by rw[Ug ed];simp[rawInt]⟩
theorem E4(hh:A.handled=none)(hj:At b s.heap j l i)(hl:Of b s.heap l items)(hx:items[i]?=none)(k:∀h' e,Heap.ExtBut j s.heap h'->(∃o,h'.get? e=some o∧o.cls=.type "StopIteration")->E (.ref e) {s with heap:=h'}):wpAny (model P w) A (nextOf (.ref j)) Q E s:=by
 cases b with
 | true=>exact wpAny_nextOf_list_end hh (show s.heap.IsListIter j l i from hj) (show s.heap.IsList l items from hl) hx k
 | false=>
  have hj':s.heap.IsTupleIter j l i:=hj;obtain⟨o,eo,ec,ed⟩:=hj';obtain⟨ol,el,_,nl,edl⟩:=(show s.heap.IsTuple l items from hl);unfold nextOf;refine Qj (Rj (name:=Str.ofString "__next__") (show s.TypeIs (.ref j) "tuple_iterator" from⟨o,eo,ec⟩) Tb
   (Rh Tb (show s.TypeIs (.ref j) "tuple_iterator" from⟨o,eo,ec⟩) VB ?_ (Vv _)))
  show wpAny _ _ (field (.ref j) 0 >>=_) _ _ s;refine Qj (Rq eo ed (x:=.ref l) rfl ?_);show wpAny _ _ (if(Value.ref l==Value.none)=true then _ else _) _ _ s;rw[Qu (show ¬((Value.ref l==Value.none)=true) by exact Rg)];show wpAny _ _ (field (.ref j) 1 >>=_) _ _ s;refine Qj (Rq eo ed (x:=.int i 0) rfl ?_);show wpAny _ _ (seqItems? (.ref l) >>=_) _ _ s;refine Qj (RK el edl ?_);simp only[QO,hx];refine Qj (RU (Qj (VH eo ed (by simp) ?_)));show wpAny _ _ (newExc (.type "StopIteration") [] >>=_) _ _ _;refine Qj ?_;simp only[newExc,newTuple];refine Qj (Ri ?_ (by size_fits));refine Qj (m:=firstArgMember _ _) (wpAny_of_eq (a:=Value.none) (by first |(simp only[firstArgMember];rfl) | rfl) ?_);refine Ri ?_ (by size_fits);simp only[raiseNew];refine Qj (wpAny_handled ?_)
  first | rw[hh] | rw[show A.in1.handled=none from hh]
  refine Qj (Qm (wpAny_throw (k _ _ (((TZ ..).extBut.push _).push _) ⟨_,Qx _ rfl,rfl⟩)))
open Builtin.SmallTypes (nextOf ownedTupleIsFree ownedTupleHandOut)
variable {P:Program} {w:World} {A:Around} {E:Value->Shared->Prop} {s:Shared} {b c:Bool}
theorem Fh(x:Of b s.heap l items)(k:Q (.ref s.heap.objs.size) {s with heap:=s.heap.push {cls:=.type (kn b),data:=.fields #[.ref l,.int 0 0]}}):wpAny (model P w) A (pyIter (.ref l)) Q E s:=by
 cases b with
 | true=>exact TC (show s.heap.IsList l items from x) k
 | false=>exact SK (show s.heap.IsTuple l items from x) k
theorem Dn{e j l:Addr}{i:Nat}{items:Array Value}{x old:Value}{Q:Option Value->Shared->Prop}(hE:IsEnum s.heap e j i old)(hj:At b s.heap j l i)(hl:Of b s.heap l items)(hx:items[i]?=some x)(ne:e≠j)
  (k:∀h',IsEnumOut h' e j ((i:Int)+1) x s.heap.objs.size->At b h' j l (i+1)->h'.get? s.heap.objs.size=some {cls:=.type "tuple",data:=.seq #[.int i s.toks,x]}->h'.objs.size=s.heap.objs.size+1->
   (∀a o,a≠e->a≠j->s.heap.get? a=some o->h'.get? a=some o)->Q (some (.ref s.heap.objs.size)) {s with heap:=h',toks:=s.toks+1}):wpAny (model P w) A (pyNext (.ref e)) Q E s:=by
 have hT:s.TypeIs (.ref e) "enumerate":=⟨_,hE,rfl⟩;unfold pyNext;refine Qj (TV (Rj (name:=Str.ofString "__next__") hT SV (Rh SV hT F.entry_enumerate_next ?_ (V3 _))));obtain⟨hp,g,d,tk,os⟩:=s;show wpAny _ _ (field (.ref e) 2 >>=_) _ _ _;refine Qj (Rq hE rfl (x:=.ref j) rfl (Qj (BN hj hl hx fun k₁ j₁ t₁=>?_)));replace t₁:Heap.SameBut j hp k₁:=t₁;have E₁:IsEnum k₁ e j i old:=(t₁.2 e ne).trans hE;show wpAny _ _ (field (.ref e) 3 >>=_) _ _ ⟨k₁,g,d,tk,os⟩;refine Qj (Rq E₁ rfl (x:=rawInt i) rfl ?_);show wpAny _ _ (field (.ref e) 4 >>=_) _ _ ⟨k₁,g,d,tk,os⟩;refine Qj (Rq E₁ rfl (x:=.none) rfl ?_);show wpAny _ _ (mkInt i >>=_) _ _ ⟨k₁,g,d,tk,os⟩;refine Qj (wpAny_mkInt ?_);show wpAny _ _ (setField (.ref e) 3 (rawInt ((i:Int)+1)) >>=_) _ _ ⟨k₁,g,d,tk+1,os⟩;refine Qj (wpAny_setField_rec E₁ (by simp) fun k₂ E₂ t₂=>?_);replace t₂:Heap.SameBut e k₁ k₂:=t₂;replace E₂:IsEnum k₂ e j ((i:Int)+1) old:=E₂;show wpAny _ _ (setField (.ref e) 4 .none >>=_) _ _ ⟨k₂,g,d,tk+1,os⟩;refine Qj (wpAny_setField_rec E₂ (by simp) fun k₃ E₃ t₃=>?_);replace t₃:Heap.SameBut e k₂ k₃:=t₃;replace E₃:IsEnum k₃ e j ((i:Int)+1) old:=E₃;show wpAny _ _ (newTuple [.int i tk,x] >>=_) _ _ ⟨k₃,g,d,tk+1,os⟩;refine Qj (VJ ?_);have E₄:IsEnum (k₃.push {cls:=.type "tuple",data:=.seq #[.int i tk,x]}) e j ((i:Int)+1) old:=Ql _ E₃;generalize eq₄:k₃.push {cls:=.type "tuple",data:=.seq #[.int i tk,x]}=k₄ at E₄;have sz:k₃.objs.size=hp.objs.size:=by rw[t₃.1,t₂.1,t₁.1]
 have lte:e < hp.objs.size:=Qw hE;have tp:k₄.get? hp.objs.size=some {cls:=.type "tuple",data:=.seq #[.int i tk,x]}:=by rw[←eq₄,←sz];exact Qx _ rfl
 have sz₄:k₄.objs.size=hp.objs.size+1:=by rw[←eq₄,QY,sz]
 have up₄:∀a o,a≠e->a≠j->hp.get? a=some o->k₄.get? a=some o:=fun a o z1 z2 q=>by
  rw[←eq₄];exact Ql _ (t₃.extBut a o z1 (t₂.extBut a o z1 (t₁.extBut a o z2 q)))
 have j₄:At b k₄ j l (i+1):=j₁.up fun o q=>by rw[←eq₄];exact Ql _ (t₃.extBut j o (RM ne) (t₂.extBut j o (RM ne) q))
 show wpAny _ _ (ownedTupleIsFree (.ref e) >>=_) _ _ ⟨k₄,g,d,tk+1,os⟩;rw[sz];clear eq₄ E₃ t₃ E₂ t₂ E₁ t₁ j₁ sz k₃ k₂ k₁;refine Qj ?_;unfold ownedTupleIsFree;refine Qj (Rq E₄ rfl (x:=.none) rfl (Qm ?_));simp only[Tr];refine Qj (RU (Qj (Rq E₄ rfl (x:=old) rfl (Qj (wpAny_setField_rec E₄ (by simp) fun k₅ E₅ t₅=>?_)))));replace t₅:Heap.SameBut e k₄ k₅:=t₅;replace E₅:IsEnum k₅ e j ((i:Int)+1) x:=E₅;show wpAny _ _ (ownedTupleHandOut (.ref e) (.ref hp.objs.size) >>=_) _ _ ⟨k₅,g,d,tk+1,os⟩;refine Qj ?_;unfold ownedTupleHandOut;refine Qj (wpAny_setField_rec E₅ (by simp) fun k₆ E₆ t₆=>?_);replace t₆:Heap.SameBut e k₅ k₆:=t₆;replace E₆:IsEnumOut k₆ e j ((i:Int)+1) x hp.objs.size:=E₆;refine wpAny_setField_rec E₆ (by simp) fun k₇ E₇ t₇=>?_;replace t₇:Heap.SameBut e k₆ k₇:=t₇;replace E₇:IsEnumOut k₇ e j ((i:Int)+1) x hp.objs.size:=E₇;have up:∀a o,a≠e->k₄.get? a=some o->k₇.get? a=some o:=fun a o z q=>t₇.extBut a o z (t₆.extBut a o z (t₅.extBut a o z q));refine Qj (Uv (Qm ⟨_,rfl,Qm (k k₇ E₇ (j₄.up fun o q=>up j o (RM ne) q) (up _ _ (TQ lte) tp) ?_ fun a o z1 z2 q=>up a o z1 (up₄ a o z1 z2 q))⟩));rw[t₇.1,t₆.1,t₅.1,sz₄]
theorem FH{e j l:Addr}{i:Nat}{items:Array Value}{old:Value}{Q:Option Value->Shared->Prop}(hh:A.handled=none)(hE:IsEnum s.heap e j i old)(hj:At b s.heap j l i)(hl:Of b s.heap l items)(hx:items[i]?=none)
  (k:∀h',Heap.ExtBut j s.heap h'->Q none {s with heap:=h'}):wpAny (model P w) A (pyNext (.ref e)) Q E s:=by
 have hT:s.TypeIs (.ref e) "enumerate":=⟨_,hE,rfl⟩;unfold pyNext;refine Qj (TV (Rj (name:=Str.ofString "__next__") hT SV (Rh SV hT F.entry_enumerate_next ?_ (V3 _))));show wpAny _ _ (field (.ref e) 2 >>=_) _ _ _;refine Qj (Rq hE rfl (x:=.ref j) rfl (Qj (E4 hh hj hl hx fun h' y he' ⟨o,ho,hc⟩=>?_)));exact Qj (Sw (T:="StopIteration") (b:=true) ⟨o,ho,hc⟩ Ue (Qm (k _ he')))
theorem Dm(x:Of b s.heap l items)(k:∀h',IsEnum h' (s.heap.objs.size+1) s.heap.objs.size 0 .none->At b h' s.heap.objs.size l 0->h'.objs.size=s.heap.objs.size+2->(∀a o,s.heap.get? a=some o->h'.get? a=some o)->Q (.ref (s.heap.objs.size+1)) {s with heap:=h'}):
  wpAny (model P w) A (call (.type "enumerate") [.ref l]) Q E s:=by
 cases b with
 | true=>exact call_enumerate_list (show s.heap.IsList l items from x) k
 | false=>
  have mt:PySem.Meets (Builtin.«enumerate.__new__» ⟨[.type "enumerate",.ref l],[]⟩) (fun _ R s=>s.heap.IsTuple l items∧
    R (.ok (.ret (.ref (s.heap.push {cls:=.type "tuple_iterator",data:=.fields #[.ref l,.int 0 0]}).objs.size)))
     {s with heap:=(s.heap.push {cls:=.type "tuple_iterator",data:=.fields #[.ref l,.int 0 0]}).push {cls:=.type "enumerate",data:=.fields #[.none,.bool false,.ref s.heap.objs.size,rawInt 0,.none,.none]}}):=
   .of_wp fun prog w A R s h=>by
    obtain⟨hp,g,d,tk,os⟩:=s;obtain⟨hl,h⟩:=h;have sub:=sub_enumerate;have hL:Heap.IsTuple (Shared.heap ⟨hp,g,d,tk,os⟩) l items:=hl;obtain⟨o0,e0,c0,n0,d0⟩:=id hL
    wp_walk
    refine wpAny_stack_any fun st=>Qm ?_
    split
    ·rename_i c _ _ _ _ _;cases(c==Value.type "enumerate")
     ·wp_walk using SK hL
      exact⟨_,rfl,h⟩
     ·wp_walk using SK hL
      exact⟨_,rfl,h⟩
    ·wp_walk using SK hL
     exact⟨_,rfl,h⟩
  refine callType_new F.called_enumerate (by decide) (F.typeCall_enumerate_1 _) (F.newCall_enumerate_1 _) (fun obj=>F.args_object_init_2 obj _) F.entry_enumerate_new mt ⟨x,?_⟩;have z1:(s.heap.push {cls:=.type "tuple_iterator",data:=.fields #[.ref l,.int 0 0]}).objs.size=s.heap.objs.size+1:=QY ..;show _∧_;rw[z1];have eE:IsEnum ((s.heap.push {cls:=.type "tuple_iterator",data:=.fields #[.ref l,.int 0 0]}).push
    {cls:=.type "enumerate",data:=.fields #[.none,.bool false,.ref s.heap.objs.size,rawInt 0,.none,.none]}) (s.heap.objs.size+1) s.heap.objs.size 0 .none:=by
   have q:=Qx (s.heap.push {cls:=.type "tuple_iterator",data:=.fields #[.ref l,.int 0 0]}) (o:={cls:=.type "enumerate",data:=.fields #[.none,.bool false,.ref s.heap.objs.size,rawInt 0,.none,.none]}) rfl;rw[z1] at q;exact q
  refine⟨⟨_,eE,rfl⟩,k _ eE ⟨_,Ql _ (Qx _ rfl),rfl,rfl⟩ (by rw[QY,z1]) fun a o q=>Ql _ (Ql _ q)⟩
end Sb
namespace Sb
open PySem L2 PySem.Spec PyProof.Rows
open Builtin.SmallTypes (nextOf ownedTupleIsFree ownedTupleHandOut)
structure Zp(z T U p q l m:Addr):Prop where
 Tz:T≠z
 Uz:U≠z
 pz:p≠z
 qz:q≠z
 TU:T≠U
 Tp:T≠p
 Tq:T≠q
 Up:U≠p
 Uq:U≠q
 pq:p≠q
 lz:l≠z
 lU:l≠U
 lp:l≠p
 lq:l≠q
 mz:m≠z
 mU:m≠U
 mp:m≠p
 mq:m≠q
theorem DR (D:Zp z T U p q l m) (hz:IsZip s.heap z T U .none) (hT:IsPair s.heap T (.ref p) (.ref q)) (hU:IsPair s.heap U u v) (h1:At b s.heap p l i) (h2:At c s.heap q m i) (hl:Of b s.heap l xs) (hm:Of c s.heap m ys) (hx:xs[i]?=some x) (hy:ys[i]?=some y) (k:∀h',IsZip h' z T U (rawInt s.heap.objs.size)->IsPair h' U x y->At b h' p l (i+1)->At c h' q m (i+1)->IsPair h' s.heap.objs.size x y->h'.objs.size=s.heap.objs.size+1->
   (∀a o,a≠z->a≠U->a≠p->a≠q->s.heap.get? a=some o->h'.get? a=some o)->Q (some (.ref s.heap.objs.size)) {s with heap:=h'}):wpAny (model P w) A (pyNext (.ref z)) Q E s:=by
 have ty:s.TypeIs (.ref z) "zip":=⟨_,hz,rfl⟩;unfold pyNext;refine Qj (TV (Rj (name:=Str.ofString "__next__") ty UJ (Rh UJ ty F.entry_zip_next ?_ (F.args_zip_next_1 _))));show wpAny _ _ (field (.ref z) 2 >>=_) _ _ _;refine Qj (Rq hz rfl (x:=.bool false) rfl ?_);show wpAny _ _ (field (.ref z) 3 >>=_) _ _ _;refine Qj (Rq hz rfl (x:=.ref T) rfl (Qj (RK hT rfl ?_)));show wpAny _ _ (ownedTupleIsFree (.ref z) >>=_) _ _ _;refine Qj ?_;unfold ownedTupleIsFree;refine Qj (Rq hz rfl (x:=.none) rfl (Qm ?_));simp only[Tr];refine Qj (RU (Qj (Rq hz rfl (x:=.ref U) rfl (Qj (wpAny_setField_rec hz (by simp) fun k₁ z₁ t₁=>?_)))));replace z₁:IsZip k₁ z T U .ellipsis:=z₁;refine Qj ?_;simp only[List.zipIdx_cons,List.zipIdx_nil,U7,List.forIn_nil];refine Qj (Qj (U4 ?_));show wpAny _ _ (nextOf (.ref p) >>=_) _ _ _;refine Qj (BN (h1.up fun o e=>t₁.extBut _ o D.pz e) (hl.up fun o e=>t₁.extBut _ o D.lz e) hx fun k₂ p₂ t₂=>Qm ?_);have U₂:IsPair k₂ U u v:=t₂.extBut _ _ D.Up (t₁.extBut _ _ D.Uz hU);refine Qj (RK U₂ rfl (Qj (UO U₂ fun k₃ U₃ t₃=>Qj (Uv (Qm ?_)))));replace U₃:IsPair k₃ U x v:=U₃;refine Qj (Qj (U4 ?_));show wpAny _ _ (nextOf (.ref q) >>=_) _ _ _;refine Qj (BN (h2.up fun o e=>t₃.extBut _ o D.Uq.symm (t₂.extBut _ o D.pq.symm (t₁.extBut _ o D.qz e))) (hm.up fun o e=>t₃.extBut _ o D.mU (t₂.extBut _ o D.mp (t₁.extBut _ o D.mz e))) hy fun k₄ q₄ t₄=>Qm ?_);have U₄:IsPair k₄ U x v:=t₄.extBut _ _ D.Uq U₃;refine Qj (RK U₄ rfl (Qj (UO U₄ fun k₅ U₅ t₅=>Qj (Uv (Qm (Qm ?_))))));replace U₅:IsPair k₅ U x y:=U₅;refine Qj (RK U₅ rfl (Qj (VJ ?_)));have sz:k₅.objs.size=s.heap.objs.size:=by rw[t₅.1,t₄.1,t₃.1,t₂.1,t₁.1]
 have z₅:IsZip k₅ z T U .ellipsis:=t₅.extBut _ _ D.Uz.symm (t₄.extBut _ _ D.qz.symm (t₃.extBut _ _ D.Uz.symm (t₂.extBut _ _ D.pz.symm z₁)));have up₅:∀a o,a≠z->a≠U->a≠p->a≠q->s.heap.get? a=some o->k₅.get? a=some o:=fun a o a1 a2 a3 a4 e=>t₅.extBut _ _ a2 (t₄.extBut _ _ a4 (t₃.extBut _ _ a2 (t₂.extBut _ _ a3 (t₁.extBut _ _ a1 e))));have p₅:At b k₅ p l (i+1):=p₂.up fun o e=>t₅.extBut _ o D.Up.symm (t₄.extBut _ o D.pq (t₃.extBut _ o D.Up.symm e));have q₅:At c k₅ q m (i+1):=q₄.up fun o e=>t₅.extBut _ o D.Uq.symm e;have zlt:z < k₅.objs.size:=Qw z₅;show wpAny _ _ (ownedTupleHandOut (.ref z) (.ref k₅.objs.size) >>=_) _ _ _;refine Qj ?_;unfold ownedTupleHandOut;have z₆:IsZip (k₅.push {cls:=.type "tuple",data:=.seq #[x,y]}) z T U .ellipsis:=Ql _ z₅;refine Qj (wpAny_setField_rec z₆ (by simp) fun k₇ z₇ t₇=>?_);replace z₇:IsZip k₇ z T U (rawInt k₅.objs.size):=z₇;refine wpAny_setField_rec z₇ (by simp) fun k₈ z₈ t₈=>?_;replace z₈:IsZip k₈ z T U (rawInt k₅.objs.size):=z₈;have up:∀a o,a≠z->k₅.get? a=some o->k₈.get? a=some o:=fun a o a1 e=>t₈.extBut _ _ a1 (t₇.extBut _ _ a1 (Ql _ e));have T₈:IsPair k₈ k₅.objs.size x y:=t₈.extBut _ _ (TQ zlt) (t₇.extBut _ _ (TQ zlt) (Qx _ rfl));have s8:k₈.objs.size=k₅.objs.size+1:=by rw[t₈.1,t₇.1,QY]
 rw[sz] at z₈ T₈ s8;refine Qm ⟨_,rfl,Qm ?_⟩;show Q (some (.ref k₅.objs.size)) _;rw[sz];exact k k₈ z₈ (up _ _ D.Uz U₅) (p₅.up fun o e=>up _ o D.pz e) (q₅.up fun o e=>up _ o D.qz e) T₈ s8 fun a o a1 a2 a3 a4 e=>up a o a1 (up₅ a o a1 a2 a3 a4 e)
theorem GC(hh:A.handled=none)(D:Zp z T U p q l m)(hz:IsZip s.heap z T U .none)(hT:IsPair s.heap T (.ref p) (.ref q))(hU:IsPair s.heap U u v)(h1:At b s.heap p l i)(h2:At c s.heap q m i)(hl:Of b s.heap l xs)(hm:Of c s.heap m ys)(he:xs[i]?=none∨ys[i]?=none)(k:∀h',(∀a o,a≠z->a≠U->a≠p->a≠q->s.heap.get? a=some o->h'.get? a=some o)->Q none {s with heap:=h'}):wpAny (model P w) A (pyNext (.ref z)) Q E s:=by
 have ty:s.TypeIs (.ref z) "zip":=⟨_,hz,rfl⟩;unfold pyNext;refine Qj (TV (Rj (name:=Str.ofString "__next__") ty UJ (Rh UJ ty F.entry_zip_next ?_ (F.args_zip_next_1 _))));have fin:∀h' e,(∀a o,a≠z->a≠U->a≠p->a≠q->s.heap.get? a=some o->h'.get? a=some o)->(∃o,h'.get? e=some o∧o.cls=.type "StopIteration")->
   (fun e s'=>wpAny (model P w) A (isInstance e (.type "StopIteration")) (fun r s''=>(if r=true then Q none s'' else E e s'')) E s') (.ref e) {s with heap:=h'}:=fun h' e up ⟨o,ho,hc⟩=>
  Sw (T:="StopIteration") (b:=true) ⟨o,ho,hc⟩ Ue (by rw[Qp rfl];exact k h' up)
 show wpAny _ _ (field (.ref z) 2 >>=_) _ _ _;refine Qj (Rq hz rfl (x:=.bool false) rfl ?_);show wpAny _ _ (field (.ref z) 3 >>=_) _ _ _;refine Qj (Rq hz rfl (x:=.ref T) rfl (Qj (RK hT rfl ?_)));show wpAny _ _ (ownedTupleIsFree (.ref z) >>=_) _ _ _;refine Qj ?_;unfold ownedTupleIsFree;refine Qj (Rq hz rfl (x:=.none) rfl (Qm ?_));simp only[Tr];refine Qj (RU (Qj (Rq hz rfl (x:=.ref U) rfl (Qj (wpAny_setField_rec hz (by simp) fun k₁ z₁ t₁=>?_)))));replace z₁:IsZip k₁ z T U .ellipsis:=z₁;refine Qj ?_;simp only[List.zipIdx_cons,List.zipIdx_nil,U7,List.forIn_nil];refine Qj (Qj (U4 ?_));show wpAny _ _ (nextOf (.ref p) >>=_) _ _ _;cases ex:xs[i]? with
 | none=>
  refine Qj (E4 hh (h1.up fun o e=>t₁.extBut _ o D.pz e) (hl.up fun o e=>t₁.extBut _ o D.lz e) ex fun k₂ e t₂ ⟨oe,hoe,hce⟩=>?_);have z₂:IsZip k₂ z T U .ellipsis:=t₂ _ _ D.pz.symm z₁;have ez:e≠z:=fun r=>by subst r;rw[z₂] at hoe;cases hoe;simp at hce
  refine wpAny_setField_rec z₂ (by simp) fun k₃ _ t₃=>?_;refine Qj (Sw (T:="StopIteration") (b:=true) ⟨oe,t₃.extBut _ _ ez hoe,hce⟩ Ue (Qm (k _ fun a o a1 _ a3 _ r=>t₃.extBut _ _ a1 (t₂ _ _ a3 (t₁.extBut _ _ a1 r)))))
 | some x=>
  have ey:ys[i]?=none:=by rcases he with r | r;rw[ex] at r;cases r;exact r
  refine Qj (BN (h1.up fun o e=>t₁.extBut _ o D.pz e) (hl.up fun o e=>t₁.extBut _ o D.lz e) ex fun k₂ p₂ t₂=>Qm ?_);have U₂:IsPair k₂ U u v:=t₂.extBut _ _ D.Up (t₁.extBut _ _ D.Uz hU);refine Qj (RK U₂ rfl (Qj (UO U₂ fun k₃ U₃ t₃=>Qj (Uv (Qm ?_)))));refine Qj (Qj (U4 ?_));show wpAny _ _ (nextOf (.ref q) >>=_) _ _ _;refine Qj (E4 hh (h2.up fun o e=>t₃.extBut _ o D.Uq.symm (t₂.extBut _ o D.pq.symm (t₁.extBut _ o D.qz e))) (hm.up fun o e=>t₃.extBut _ o D.mU (t₂.extBut _ o D.mp (t₁.extBut _ o D.mz e))) ey fun k₄ e t₄ ⟨oe,hoe,hce⟩=>?_);have z₄:IsZip k₄ z T U .ellipsis:=t₄ _ _ D.qz.symm (t₃.extBut _ _ D.Uz.symm (t₂.extBut _ _ D.pz.symm z₁));have ez:e≠z:=fun r=>by subst r;rw[z₄] at hoe;cases hoe;simp at hce
  refine wpAny_setField_rec z₄ (by simp) fun k₅ _ t₅=>?_;refine Qj (Sw (T:="StopIteration") (b:=true) ⟨oe,t₅.extBut _ _ ez hoe,hce⟩ Ue (Qm (k _ fun a o a1 a2 a3 a4 r=>t₅.extBut _ _ a1 (t₄ _ _ a4 (t₃.extBut _ _ a2 (t₂.extBut _ _ a3 (t₁.extBut _ _ a1 r)))))))
abbrev g1(b:Bool)(h:Heap)(l:Addr):Heap:=h.push {cls:=.type (kn b),data:=.fields #[.ref l,.int 0 0]}
abbrev g2(b c:Bool)(h:Heap)(l m:Addr):Heap:=(g1 b h l).push {cls:=.type (kn c),data:=.fields #[.ref m,.int 0 0]}
abbrev g3(b c:Bool)(h:Heap)(l m:Addr):Heap:=(g2 b c h l m).push {cls:=.type "tuple",data:=.seq #[.ref h.objs.size,.ref (g1 b h l).objs.size]}
abbrev g4(b c:Bool)(h:Heap)(l m:Addr):Heap:=(g3 b c h l m).push {cls:=.type "tuple",data:=.seq #[.none,.none]}
abbrev g5(b c:Bool)(h:Heap)(l m:Addr):Heap:=(g4 b c h l m).push {cls:=.type "zip",data:=.fields #[.none,.bool false,.bool false,.ref (g2 b c h l m).objs.size,.ref (g3 b c h l m).objs.size]}
theorem GB(b c:Bool)(l m:Addr)(xs ys:Array Value):PySem.Meets (Builtin.«zip.__new__» ⟨[.type "zip",.ref l,.ref m],[]⟩) (fun _ R s=>Of b s.heap l xs∧Of c s.heap m ys∧R (.ok (.ret (.ref (g4 b c s.heap l m).objs.size))) {s with heap:=g5 b c s.heap l m}):=
 .of_wp fun prog w A R s h=>by
  obtain⟨hp,g,d,tk,os⟩:=s;obtain⟨hl,hm,h⟩:=h;have sub:=sub_zip;have L1:Of b (Shared.heap ⟨hp,g,d,tk,os⟩) l xs:=hl;have L2:Of c (Shared.heap ⟨hp.push {cls:=.type (kn b),data:=.fields #[.ref l,.int 0 0]},g,d,tk,os⟩) m ys:=hm.up fun o e=>Ql _ e
  wp_walk using Fh L1,Fh L2
  exact⟨_,rfl,h⟩
theorem DQ (hl:Of b s.heap l xs) (hm:Of c s.heap m ys) (k:∀h',IsZip h' (s.heap.objs.size+4) (s.heap.objs.size+2) (s.heap.objs.size+3) .none->IsPair h' (s.heap.objs.size+2) (.ref s.heap.objs.size) (.ref (s.heap.objs.size+1))->IsPair h' (s.heap.objs.size+3) .none .none->
   At b h' s.heap.objs.size l 0->At c h' (s.heap.objs.size+1) m 0->h'.objs.size=s.heap.objs.size+5->(∀a o,s.heap.get? a=some o->h'.get? a=some o)->Q (.ref (s.heap.objs.size+4)) {s with heap:=h'}):
  wpAny (model P w) A (call (.type "zip") [.ref l,.ref m]) Q E s:=by
 refine callType_new F.called_zip (by decide) (F.typeCall_zip_2 _ _) (F.newCall_zip_2 _ _) (fun obj=>F.args_object_init_3 obj _ _) F.entry_zip_new (GB b c l m xs ys) ⟨hl,hm,?_⟩;have z1:(g1 b s.heap l).objs.size=s.heap.objs.size+1:=QY ..;have z2:(g2 b c s.heap l m).objs.size=s.heap.objs.size+2:=by rw[QY,z1]
 have z3:(g3 b c s.heap l m).objs.size=s.heap.objs.size+3:=by rw[QY,z2]
 have z4:(g4 b c s.heap l m).objs.size=s.heap.objs.size+4:=by rw[QY,z3]
 have z5:(g5 b c s.heap l m).objs.size=s.heap.objs.size+5:=by rw[QY,z4]
 have e5:(g5 b c s.heap l m).get? (g4 b c s.heap l m).objs.size=some _:=Qx _ rfl;have e4:(g5 b c s.heap l m).get? (g3 b c s.heap l m).objs.size=some _:=Ql _ (Qx _ rfl);have e3:(g5 b c s.heap l m).get? (g2 b c s.heap l m).objs.size=some _:=Ql _ (Ql _ (Qx _ rfl));have e2:(g5 b c s.heap l m).get? (g1 b s.heap l).objs.size=some _:=Ql _ (Ql _ (Ql _ (Qx _ rfl)));have e1:(g5 b c s.heap l m).get? s.heap.objs.size=some _:=Ql _ (Ql _ (Ql _ (Ql _ (Qx _ rfl))));show _∧_;rw[z2,z3,z4] at e5;rw[z1,z2] at e3;rw[z3] at e4;rw[z1] at e2;rw[z4];exact⟨⟨_,e5,rfl⟩,k _ e5 e3 e4 ⟨_,e1,rfl,rfl⟩ ⟨_,e2,rfl,rfl⟩ z5 fun a o x=>Ql _ (Ql _ (Ql _ (Ql _ (Ql _ x))))⟩
section
variable {X:Cx} {pins:List (Addr×Obj)} {σ:L2.St} {H:Hp} {s:Shared} {h':Heap} {fp:List Addr}
theorem rC(I:L2.Inv X pins σ H s)(k:∀b o,b∉fp->s.heap.get? b=some o->h'.get? b=some o)(hf:∀b∈fp,ie X pins H b):L2.Inv X pins σ H {s with heap:=h',toks:=t'}:=by
 have nit:∀b u,H b=some u->b∉fp:=fun b u e z=>by rw[(hf b z).1] at e;cases e
 have nL:X.env.locals∉fp:=fun z=>(hf _ z).2.1 rfl;refine I.step (g':=s.gens) (d':=s.drawn) (ch:=fp) (fun b hb=>?_) (fun b o _ _ hc e _=>k b o hc e) (fun b o _ _ hc e _=>⟨o.slots,k b o hc e⟩) (fun _ _ _ _ n=>n)
  (fun b o hc e=>⟨o,k b o hc e⟩) (fun _ _ e=>e) (fun _ _ _ e=>e) (fun b ps e=>⟨#[],by rw[e];simp⟩) (fun m hm=>?_) (fun b u e=>?_) I.bare
 ·obtain⟨f0,f1,f2,f3,f4,f5⟩:=hf b hb;exact⟨f3,f1,f4,f5⟩
 ·obtain⟨o,es,ep,ho,r⟩:=hm;exact⟨o,es,ep,k _ o nL ho,r⟩
 ·refine(I.bI b u e).yj (fun c v hc q=>k c v ?_ q) (fun _ q=>q) fun _ _ q=>q;rcases hc with z | z
  ·rw[z];exact nit b u e
  ·exact nit c _ z
theorem By(I:L2.Inv X pins σ H s)(k:∀b o,b∉fp->s.heap.get? b=some o->h'.get? b=some o)(hf:∀b∈fp,ie X pins H b)(hlt:∀b∈fp,b < s.heap.objs.size)(ht:h'.get? s.heap.objs.size=some {cls:=.type "tuple",data:=.seq us.toArray n})(r:Vals vs us)(hz:vs.length≤sizeLine):L2.Inv X pins σ (upd H s.heap.objs.size (.tup vs)) {s with heap:=h',toks:=t'}:=by
 have nit:∀b u,H b=some u->b∉fp:=fun b u e z=>by rw[(hf b z).1] at e;cases e
 have nL:X.env.locals∉fp:=fun z=>(hf _ z).2.1 rfl;have hp:H s.heap.objs.size=none:=I.bI.fresh (Qq _);have np:∀b o,s.heap.get? b=some o->b≠s.heap.objs.size:=fun b o e=>QF (Qw e);have nH:∀b u,H b=some u->b≠s.heap.objs.size:=fun b u e=>bt e hp;refine I.step (g':=s.gens) (d':=s.drawn) (ch:=fp) (fun b hb=>?_) (fun b o _ _ hc e _=>k b o hc e) (fun b o _ _ hc e _=>⟨o.slots,k b o hc e⟩) (fun b o _ e n=>by rw[aP (np b o e)];exact n)
  (fun b o hc e=>⟨o,k b o hc e⟩) (fun b _ e=>by rw[aP (nH b _ e)];exact e) (fun b _ _ e=>by rw[aP (nH b _ e)];exact e) (fun b ps e=>⟨#[],by rw[aP (nH b _ e),e];simp⟩) (fun m hm=>?_) (fun b u e=>?_) I.bare
 ·obtain⟨f0,f1,f2,f3,f4,f5⟩:=hf b hb;exact⟨f3,f1,f4,f5⟩
 ·obtain⟨o,es,ep,ho,q⟩:=hm;exact⟨o,es,ep,k _ o nL ho,q⟩
 ·by_cases z:b=s.heap.objs.size
  ·subst z;rw[bj] at e;cases e;exact⟨hz,us,r,⟨_,ht,rfl,⟨n,rfl⟩,rfl⟩⟩
  ·rw[aP z] at e;refine(I.bI b u e).yj (fun c v hc q=>k c v ?_ q) (fun c q=>?_) fun c u q=>?_
   ·rcases hc with y | y
    ·rw[y];exact nit b u e
    ·exact nit c _ y
   ·rw[aP (nH _ _ q)];exact q
   ·rw[aP (nH _ _ q)];exact q
end
def yc(b:Bool)(K:FR)(H:Hp)(l:Addr)(xs:List V):Prop:=match b with
 | true=>gH K H l xs
 | false=>jS K H l xs
theorem yc.of(I:L2.Inv X pins σ H s)(q:yc b X.K H l xs):∃its:List Value,Vals xs its∧Of b s.heap l its.toArray:=by
 cases b with
 | true=>obtain⟨its,r,p,_⟩:=I.list (show gH X.K H l xs from q);exact⟨its,r,p.isList⟩
 | false=>obtain⟨its,r,p,_⟩:=I.tuple (show jS X.K H l xs from q);exact⟨its,r,p⟩
theorem yc.inj(I:L2.Inv X pins σ H s)(q:yc b X.K H l xs)(q':yc b X.K H l ys):xs=ys:=by
 cases b with
 | true=>exact I.y7 q q'
 | false=>exact I.vg q q'
noncomputable def PX(b:Bool)(K:FR)(l:Addr):It:=
 ⟨fun i H=>∃xs x,yc b K H l xs∧xs[i]?=some x,fun i H x H'=>∃p y,H p=none∧x=.ref p∧H'=upd H p (.tup [.int (i:Int),y])∧∀xs,yc b K H l xs->xs[i]?=some y,fun i H=>∃xs,yc b K H l xs∧xs.length≤i⟩
noncomputable def PU(b c:Bool)(K:FR)(l m:Addr):It:=
 ⟨fun i H=>∃xs ys x y,yc b K H l xs∧yc c K H m ys∧xs[i]?=some x∧ys[i]?=some y,
  fun i H x H'=>∃p u v,H p=none∧x=.ref p∧H'=upd H p (.tup [u,v])∧(∀xs,yc b K H l xs->xs[i]?=some u)∧∀xs,yc c K H m xs->xs[i]?=some v,
  fun i H=>∃xs ys,yc b K H l xs∧yc c K H m ys∧(xs.length≤i∨ys.length≤i)⟩
theorem Cn{P:Program}{w:World}{K:FR}{es:List Expr}{k0:Nat}{pos:Pos}(b:Bool)(l e j:Addr)(ne:e≠j):Turn P w K (.Tuple es k0 pos) (PX b K l) [e,j] e (fun i h=>(∃old,IsEnum h e j i old)∧At b h j l i) where
 mem:=by simp
 obj:=fun i h st a ha=>by
  obtain⟨⟨old,h1⟩,o,h2,_,d2⟩:=st;simp at ha;rcases ha with rfl | rfl
  ·exact⟨_,h1,fun v z=>by cases z⟩
  ·exact⟨o,h2,fun v z=>by rw[d2] at z;cases z⟩
 keep:=fun i h h' ⟨⟨old,h1⟩,h2⟩ k=>⟨⟨old,k e (by simp) _ h1⟩,h2.up fun o q=>k j (by simp) o q⟩
 item:=by
  intro X hP hw hK hc i pins s σ H E I hf st hg;subst hP hw hK;obtain⟨xs,x,hq,hx⟩:=hg;obtain⟨⟨old,h1⟩,h2⟩:=st;obtain⟨its,rv,hO⟩:=hq.of I;obtain⟨u,hu,ru⟩:=rv.get hx;have hlt:∀a∈[e,j],a < s.heap.objs.size:=fun a ha=>by
   simp at ha;rcases ha with rfl | rfl
   ·exact Qw h1
   ·exact h2.lt
  refine Dn h1 h2 hO (x:=u) (by simpa using hu) ne fun h' a1 a2 a3 a4 a5=>⟨_,rfl,wpAny_letOwnedTupleGo_enum a1 fun h'' b1 b2=>?_⟩;have hp:H s.heap.objs.size=none:=I.bI.fresh (Qq _);have I1:=By (t':=s.toks+1) (vs:=[.int (i:Int),x]) (us:=[.int i s.toks,u]) (n:=0) I (fun a o ha q=>a5 a o (fun z=>ha (by simp[z])) (fun z=>ha (by simp[z])) q) hf hlt a3 (.cons ⟨_,rfl⟩ (.cons ru .nil)) (show 2≤sizeLine by decide);have hf1:∀a∈[e,j],ie X pins (upd H s.heap.objs.size (.tup [.int (i:Int),x])) a:=fun a ha=>by
   obtain⟨f0,f⟩:=hf a ha;exact⟨by rw[aP (QF (hlt a ha))];exact f0,f⟩
  have I2:=rC (t':=s.toks+1) I1 (h':=h'') (fun a o ha q=>b2.extBut a o (fun z=>ha (by simp[z])) q) hf1;exact⟨.ref s.heap.objs.size,_,I2,rfl,⟨_,x,hp,rfl,rfl,fun ys hy=>by rw[hy.inj I hq];exact hx⟩,⟨⟨_,by simpa using b1⟩,a2.up fun o q=>b2.extBut j o (RM ne) q⟩,fun a ha=>(hf1 a ha).1⟩
 done:=by
  intro X hP hw hK hc i pins s σ H E I hf st hg;subst hP hw hK;obtain⟨xs,hq,hx⟩:=hg;obtain⟨⟨old,h1⟩,h2⟩:=st;obtain⟨its,rv,hO⟩:=hq.of I;have hl:=rv.length;exact FH (I.ok.hd hc) h1 h2 hO (by simp;lia) fun h' eb=>⟨rfl,rC (t':=s.toks) I (fun a o ha q=>eb a o (fun z=>ha (by simp[z])) q) hf⟩
 self:=fun A i s Q E ⟨⟨old,h1⟩,_⟩ q=>by
  have hT:s.TypeIs (.ref e) "enumerate":=⟨_,h1,rfl⟩;refine wpAny_pyIter_slot hT F.slot_enumerate_iter (Rh F.slot_enumerate_iter hT F.entry_enumerate_iter ?_ (F.args_enumerate_iter_1 _));show wpAny _ _ (ret (.ref e)) _ _ s;exact Qm ⟨_,rfl,"enumerate",_,hT,SV.lookup,q⟩
theorem DY{P:Program}{w:World}{K:FR}{es:List Expr}{k0:Nat}{pos:Pos}(b c:Bool)(z T U p q l m:Addr)(D:Zp z T U p q l m):
  Turn P w K (.Tuple es k0 pos) (PU b c K l m) [z,T,U,p,q] z (fun i h=>IsZip h z T U .none∧IsPair h T (.ref p) (.ref q)∧(∃u v,IsPair h U u v)∧At b h p l i∧At c h q m i) where
 mem:=by simp
 obj:=fun i h st a ha=>by
  obtain⟨h1,h2,⟨u,v,h3⟩,⟨o4,h4,_,d4⟩,⟨o5,h5,_,d5⟩⟩:=st;simp at ha;rcases ha with rfl | rfl | rfl | rfl | rfl
  ·exact⟨_,h1,fun v z=>by cases z⟩
  ·exact⟨_,h2,fun v z=>by cases z⟩
  ·exact⟨_,h3,fun v z=>by cases z⟩
  ·exact⟨o4,h4,fun v z=>by rw[d4] at z;cases z⟩
  ·exact⟨o5,h5,fun v z=>by rw[d5] at z;cases z⟩
 keep:=fun i h h' ⟨h1,h2,⟨u,v,h3⟩,h4,h5⟩ k=>⟨k z (by simp) _ h1,k T (by simp) _ h2,⟨u,v,k U (by simp) _ h3⟩,h4.up fun o e=>k p (by simp) o e,h5.up fun o e=>k q (by simp) o e⟩
 item:=by
  intro X hP hw hK hc i pins s σ H E I hf st hg;subst hP hw hK;obtain⟨xs,ys,x,y,hq1,hq2,hx,hy⟩:=hg;obtain⟨h1,h2,⟨u,v,h3⟩,h4,h5⟩:=st;obtain⟨is1,rv1,hO1⟩:=hq1.of I;obtain⟨is2,rv2,hO2⟩:=hq2.of I;obtain⟨u1,hu1,ru1⟩:=rv1.get hx;obtain⟨u2,hu2,ru2⟩:=rv2.get hy;have hlt:∀a∈[z,T,U,p,q],a < s.heap.objs.size:=fun a ha=>by
   simp at ha;rcases ha with rfl | rfl | rfl | rfl | rfl
   ·exact Qw h1
   ·exact Qw h2
   ·exact Qw h3
   ·exact h4.lt
   ·exact h5.lt
  refine DR D h1 h2 h3 h4 h5 hO1 hO2 (x:=u1) (y:=u2) (by simpa using hu1) (by simpa using hu2) fun h' a1 a2 a3 a4 a5 a6 a7=>⟨_,rfl,wpAny_letOwnedTupleGo_zip a1 fun h'' b1 b2=>?_⟩;have hp:H s.heap.objs.size=none:=I.bI.fresh (Qq _);have I1:=By (t':=s.toks) (vs:=[x,y]) (us:=[u1,u2]) (n:=0) I (h':=h') (fp:=[z,T,U,p,q]) (fun a o ha e=>a7 a o (fun r=>ha (by simp[r])) (fun r=>ha (by simp[r])) (fun r=>ha (by simp[r])) (fun r=>ha (by simp[r])) e) hf hlt a5 (.cons ru1 (.cons ru2 .nil)) (show 2≤sizeLine by decide);have hf1:∀a∈[z,T,U,p,q],ie X pins (upd H s.heap.objs.size (.tup [x,y])) a:=fun a ha=>by
   obtain⟨f0,f⟩:=hf a ha;exact⟨by rw[aP (QF (hlt a ha))];exact f0,f⟩
  have I2:=rC (t':=s.toks) I1 (h':=h'') (fp:=[z,T,U,p,q]) (fun a o ha e=>b2.extBut a o (fun r=>ha (by simp[r])) e) hf1;have hT':=a7 T _ D.Tz D.TU D.Tp D.Tq h2;exact⟨.ref s.heap.objs.size,_,I2,rfl,⟨_,x,y,hp,rfl,rfl,fun zs hz=>by rw[hz.inj I hq1];exact hx,fun zs hz=>by rw[hz.inj I hq2];exact hy⟩,
   ⟨b1,b2.extBut T _ D.Tz hT',⟨_,_,b2.extBut U _ D.Uz a2⟩,a3.up fun o e=>b2.extBut p o D.pz e,a4.up fun o e=>b2.extBut q o D.qz e⟩,fun a ha=>(hf1 a ha).1⟩
 done:=by
  intro X hP hw hK hc i pins s σ H E I hf st hg;subst hP hw hK;obtain⟨xs,ys,hq1,hq2,hx⟩:=hg;obtain⟨h1,h2,⟨u,v,h3⟩,h4,h5⟩:=st;obtain⟨is1,rv1,hO1⟩:=hq1.of I;obtain⟨is2,rv2,hO2⟩:=hq2.of I;have hl1:=rv1.length;have hl2:=rv2.length;exact GC (I.ok.hd hc) D h1 h2 h3 h4 h5 hO1 hO2 (by simp;lia) fun h' eb=>⟨rfl,rC (t':=s.toks) I (fp:=[z,T,U,p,q]) (fun a o ha e=>eb a o (fun r=>ha (by simp[r])) (fun r=>ha (by simp[r])) (fun r=>ha (by simp[r])) (fun r=>ha (by simp[r])) e) hf⟩
 self:=fun A i s Q E st h=>wpAny_pyIter_zip st.1 h
theorem boot_zip:bootBuiltins "zip"=some (.type "zip"):=by decide+kernel
theorem DC:bootBuiltins "enumerate"=some (.type "enumerate"):=by decide+kernel
theorem Mm(n l m:Nat)(hl:l < n)(hm:m < n):Zp (n+4) (n+2) (n+3) n (n+1) l m:=by
 constructor <;> (intro h;have h:(_:Nat)=_:=h;lia)
theorem Hn(hg:Gl X "enumerate")(hm:X.mg "enumerate"=none)(ha:PA X [a] ta)(hs:starEach [a] X.env=[(false,eval a X.env)]:=by ac_nf):
  PI X (.Tuple es k0 tpos) (.Call (.Name "enumerate" p) [a] [] pos) (fun σ H R=>ta σ H fun vs H1=>∃l b,vs=[.ref l]∧(∃xs,yc b X.K H1 l xs)∧R (PX b X.K l) H1):=by
 intro pins s σ H R I h;refine Call_ (kI I hg hm DC (RT (cU (ha pos pins s σ H _ I h) fun us s1 ⟨vs,H1,I1,r1,q1⟩=>?_) hs rfl));obtain⟨l,b,e,⟨xs,hq⟩,q⟩:=q1;subst e;obtain⟨u,rfl,ru⟩:=Vals.one r1;obtain rfl:u=Value.ref l:=ru;obtain⟨its,rv,hO⟩:=hq.of I1;refine Dm hO fun h' a1 a2 a3 a4=>?_;have I2:L2.Inv X pins σ H1 {s1 with heap:=h'}:=I1.kept (t':=s1.toks) a4;have hf:∀c∈[s1.heap.objs.size+1,s1.heap.objs.size],ie X pins H1 c:=fun c hc=>by
  simp at hc;rcases hc with rfl | rfl
  ·exact I1.xE (T9 _) (I1.bI.fresh (T9 _))
  ·exact I1.xE (Qq _) (I1.bI.fresh (Qq _))
 have T:=Cn (P:=X.prog) (w:=X.w) (K:=X.K) (es:=es) (k0:=k0) (pos:=tpos) b l (s1.heap.objs.size+1) s1.heap.objs.size (Nat.succ_ne_self _);refine T.self X.A 0 {s1 with heap:=h'} _ X.xe ⟨⟨_,a1⟩,a2⟩ ?_;exact⟨_,[s1.heap.objs.size+1,s1.heap.objs.size],_,_,H1,rfl,I2,T,⟨⟨_,a1⟩,a2⟩,hf,q⟩
theorem Kw(hg:Gl X "zip")(hm:X.mg "zip"=none)(ha:PA X [a,a'] ta)(hs:starEach [a,a'] X.env=[(false,eval a X.env),(false,eval a' X.env)]:=by ac_nf)(hs2:starEach [a'] X.env=[(false,eval a' X.env)]:=by ac_nf):
  PI X (.Tuple es k0 tpos) (.Call (.Name "zip" p) [a,a'] [] pos) (fun σ H R=>ta σ H fun vs H1=>∃l m b c,vs=[.ref l,.ref m]∧(∃xs,yc b X.K H1 l xs)∧(∃xs,yc c X.K H1 m xs)∧R (PU b c X.K l m) H1):=by
 intro pins s σ H R I h;refine Call_ (kI I hg hm boot_zip (RT (cU (ha pos pins s σ H _ I h) fun us s1 ⟨vs,H1,I1,r1,q1⟩=>?_) (by rw[hs,hs2]) (by rw[hs2];rfl)));obtain⟨l,m,b,c,e,⟨xs,hq⟩,⟨ys,hq'⟩,q⟩:=q1;subst e;obtain⟨u,v,rfl,ru,rv'⟩:=Vals.two r1;obtain rfl:u=Value.ref l:=ru;obtain rfl:v=Value.ref m:=rv';obtain⟨its,rv,hO⟩:=hq.of I1;obtain⟨its',rv',hO'⟩:=hq'.of I1;refine DQ hO hO' fun h' a1 a2 a3 a4 a5 a6 a7=>?_;have I2:L2.Inv X pins σ H1 {s1 with heap:=h'}:=I1.kept (t':=s1.toks) a7;have hf:∀d∈[s1.heap.objs.size+4,s1.heap.objs.size+2,s1.heap.objs.size+3,s1.heap.objs.size,s1.heap.objs.size+1],ie X pins H1 d:=fun d hd=>by
  simp at hd;have:s1.heap.objs.size≤d:=by lia
  exact I1.xE this (I1.bI.fresh this)
 have ll:l < s1.heap.objs.size:=by obtain⟨o,n,e,_⟩:=hO.data;exact Qw e
 have lm:m < s1.heap.objs.size:=by obtain⟨o,n,e,_⟩:=hO'.data;exact Qw e
 have D:Zp (s1.heap.objs.size+4) (s1.heap.objs.size+2) (s1.heap.objs.size+3) s1.heap.objs.size (s1.heap.objs.size+1) l m:=Mm _ _ _ ll lm;have T:=DY (P:=X.prog) (w:=X.w) (K:=X.K) (es:=es) (k0:=k0) (pos:=tpos) b c _ _ _ _ _ l m D;refine T.self X.A 0 {s1 with heap:=h'} _ X.xe ⟨a1,a2,⟨_,_,a3⟩,a4,a5⟩ ?_;exact⟨_,[s1.heap.objs.size+4,s1.heap.objs.size+2,s1.heap.objs.size+3,s1.heap.objs.size,s1.heap.objs.size+1],_,_,H1,rfl,I2,T,⟨a1,a2,⟨_,_,a3⟩,a4,a5⟩,hf,q⟩
end Sb
namespace Sm
open PySem L2 PySem.Spec PyProof.Rows
noncomputable def jK:Nat->List D->List D
 | _,[]=>[]
 | k,x::r=>.tup [.int (k:Int),x]::jK (k+1) r
noncomputable def oK:List D->List D->List D
 | x::r,y::s=>.tup [x,y]::oK r s
 | _,_=>[]
theorem pZ:∀(xs:List D)(k i:Nat),(jK k xs)[i]?=(xs[i]?).map fun x=>.tup [.int ((k+i:Nat):Int),x]
 | [],k,i=>by simp[jK]
 | x::r,k,0=>by simp[jK]
 | x::r,k,i+1=>by
  show(jK (k+1) r)[i]?=_;rw[pZ r (k+1) i];simp only[RP];congr 1
  funext y
  rw[show k+1+i=k+(i+1) by lia]
theorem eP:∀(xs:List D)(k:Nat),(jK k xs).length=xs.length
 | [],_=>rfl
 | _::r,k=>by simp[jK,eP r (k+1)]
theorem yd:∀(xs ys:List D)(i:Nat),(oK xs ys)[i]?=(xs[i]?).bind fun x=>(ys[i]?).map fun y=>.tup [x,y]
 | [],_,i=>by simp[oK]
 | _::_,[],i=>by simp[oK]
 | x::r,y::s,0=>by simp[oK]
 | x::r,y::s,i+1=>by
  show(oK r s)[i]?=_;rw[yd r s i];simp
theorem qj:∀(xs ys:List D),(oK xs ys).length=min xs.length ys.length
 | [],_=>by simp[oK]
 | _::_,[]=>by simp[oK]
 | x::r,y::s=>by simp[oK,qj r s]
theorem SeqAt.DK{K:FR}{H:Hp}{a:Addr}{vs:List V}{b:Bool}(q:SeqAt K H a vs b):Sb.yc b K H a vs:=by
 cases q with
 | l q=>exact q
 | t q=>exact q
theorem Bf(hc:lJ (ws++ws') h=true):lJ ws h=true∧lJ ws' h=true:=by
 induction ws with
 | nil=>exact⟨rfl,hc⟩
 | cons x r ih=>
  obtain⟨n,o⟩:=x;simp only[U2,lJ,QJ] at hc ⊢;obtain⟨h1,h2⟩:=ih hc.2;exact⟨⟨hc.1,h1⟩,h2⟩
noncomputable def tK(m:AM):IM:=fun δ h=>(m δ h).bind fun p=>match p.1 with
 | [d]=>(dq d p.2).map fun q=>(jK 0 q.1,q.2,p.2)
 | _=>none
noncomputable def Lu(m:AM):IM:=fun δ h=>(m δ h).bind fun p=>match p.1 with
 | [d,e]=>(dq d p.2).bind fun q=>(dq e p.2).map fun r=>(oK q.1 r.1,q.2++r.2,p.2)
 | _=>none
theorem nv(hg:Gl X "enumerate")(hm:X.mg "enumerate"=none)(ha:SA X [a] m)(hl:oF m 1)(hs:starEach [a] X.env=[(false,eval a X.env)]:=by ac_nf):SI X (.Tuple es k0 tpos) (.Call (.Name "enumerate" p) [a] [] pos) (tK m):=
 (Sb.Hn hg hm ha hs).imp fun σ H Q ⟨ρ,δ,h,xs,ws,h',R,S,e,k⟩=>by
  obtain⟨⟨ds,h1⟩,e1,e2⟩:=bS e;refine⟨ρ,δ,h,ds,h1,R,S,e1,fun vs ρ1 H1 T1 S1 r1=>?_⟩
  match ds,hl _ _ _ _ e1,e2,r1 with
  | [d],_,e2,r1=>
   obtain⟨⟨ys,w⟩,e3,e4⟩:=gL e2;cases e4;obtain⟨v,rfl,rd⟩:=rep1 r1;obtain⟨a,rfl,⟨us,q,l⟩,st⟩:=l9 S1 rd e3;refine⟨a,xy d,rfl,⟨us,q.DK⟩,k _ ρ1 H1 T1 S1 ⟨fun ρ2 H2 h2 T2 S2 hc i=>?_⟩⟩;obtain⟨ws,l2,q2⟩:=st ρ2 H2 h2 T2 S2 hc;refine⟨fun hi=>⟨ws,q2.DK,by rw[l2.length];rw[eP] at hi;exact hi⟩,fun x hx=>?_⟩;rw[pZ] at hx;obtain⟨y,ey,hx⟩:=gL hx;subst hx;obtain⟨v,ev,rv⟩:=l2.got ey;refine⟨⟨ws,v,q2.DK,ev⟩,fun u H3 ⟨p,y',hp,hu,hH,hy⟩=>?_⟩;subst hu;subst hH;have hy':y'=v:=by have:=hy ws q2.DK;rw[ev] at this;exact(Option.some.inj this).symm
   subst hy';refine⟨dP.laid S2 hp,S2.laid hp,.tup (.inl ⟨.inl bj,S2.fresh hp⟩) (.cons ?_ (.cons (rv.mono (dP.laid S2 hp).toCh) .nil))⟩;rw[SX];exact .int _
theorem JP(hg:Gl X "zip")(hm:X.mg "zip"=none)(ha:SA X [a,b] m)(hl:oF m 2)(hs:starEach [a,b] X.env=[(false,eval a X.env),(false,eval b X.env)]:=by ac_nf)(hs2:starEach [b] X.env=[(false,eval b X.env)]:=by ac_nf):
  SI X (.Tuple es k0 tpos) (.Call (.Name "zip" p) [a,b] [] pos) (Lu m):=
 (Sb.Kw hg hm ha hs hs2).imp fun σ H Q ⟨ρ,δ,h,xs,ws,h',R,S,e,k⟩=>by
  obtain⟨⟨ds,h1⟩,e1,e2⟩:=bS e;refine⟨ρ,δ,h,ds,h1,R,S,e1,fun vs ρ1 H1 T1 S1 r1=>?_⟩
  match ds,hl _ _ _ _ e1,e2,r1 with
  | [d,d'],_,e2,r1=>
   obtain⟨⟨ys,w⟩,e3,e4⟩:=bS e2;obtain⟨⟨zs,w'⟩,e5,e6⟩:=gL e4;cases e6;obtain⟨v,v',rfl,rd,rd'⟩:=rep2 r1;obtain⟨a,rfl,⟨us,q,l⟩,st⟩:=l9 S1 rd e3;obtain⟨a',rfl,⟨us',q',l'⟩,st'⟩:=l9 S1 rd' e5;refine⟨a,a',xy d,xy d',rfl,⟨us,q.DK⟩,⟨us',q'.DK⟩,k _ ρ1 H1 T1 S1 ⟨fun ρ2 H2 h2 T2 S2 hc i=>?_⟩⟩;obtain⟨c1,c2⟩:=Bf hc;obtain⟨ws,l2,q2⟩:=st ρ2 H2 h2 T2 S2 c1;obtain⟨ws',l2',q2'⟩:=st' ρ2 H2 h2 T2 S2 c2;refine⟨fun hi=>⟨ws,ws',q2.DK,q2'.DK,by rw[l2.length,l2'.length];rw[qj] at hi;dsimp only at hi;lia⟩,fun x hx=>?_⟩;rw[yd] at hx;obtain⟨y,ey,hx⟩:=bS hx;obtain⟨y',ey',hx⟩:=gL hx;subst hx;obtain⟨v,ev,rv⟩:=l2.got ey;obtain⟨v',ev',rv'⟩:=l2'.got ey';refine⟨⟨ws,ws',v,v',q2.DK,q2'.DK,ev,ev'⟩,fun u H3 ⟨p,x1,x2,hp,hu,hH,hy1,hy2⟩=>?_⟩;subst hu;subst hH;have z1:x1=v:=by have:=hy1 ws q2.DK;rw[ev] at this;exact(Option.some.inj this).symm
   have z2:x2=v':=by have:=hy2 ws' q2'.DK;rw[ev'] at this;exact(Option.some.inj this).symm
   subst z1;subst z2;exact⟨dP.laid S2 hp,S2.laid hp,.tup (.inl ⟨.inl bj,S2.fresh hp⟩) (.cons (rv.mono (dP.laid S2 hp).toCh) (.cons (rv'.mono (dP.laid S2 hp).toCh) .nil))⟩
noncomputable def xK(ls:List (Key×D)):List (Key×D)->Option Bool
 | []=>some true
 |(k,v)::r=>match ig ls k with
  | none=>some false
  | some u=>(yb v).bind fun a=>(yb u).bind fun b=>if a.depth≤60∧b.depth≤60 then(xK ls r).map fun c=>PyData.eqv a b&&c else none
noncomputable def FI(ks ls:List (Key×D)):Option Bool:=if ks.length=ls.length then xK ls ks else some false
noncomputable def Ji(d e:D)(h:MH):Option Bool:=match fb d h,fb e h with
 | some ks,some ls=>FI ks ls
 | _,_=>Mf d e h
noncomputable def cu(d e:D)(h:MH):Option (D×MH):=(Ji d e h).map fun c=>(.bl c,h)
noncomputable def nV(d e:D)(h:MH):Option (D×MH):=(Ji d e h).map fun c=>(.bl (!c),h)
theorem BU(hu:X.A.units+64 < cLine)(I:L2.Inv X pins σ H s)(lb:bL X.K ρ H vs ls)(rb:KV vs kb):
  ∀{us:List (Key×V)} {ks:List (Key×D)} {ka:List (Key×Value)} {c:Bool},bL X.K ρ H us ks->KV us ka->xK ls ks=some c->PySem.W.KeqHits X.A.in1 s kb ka c
 | _,_,_,c,.nil,ra,e=>by
  cases ra;cases e;exact .nil
 | _,_,_,c,.cons (k:=k) (v:=v) (d:=d) r l,ra,e=>by
  cases ra with
  | cons ra rr=>
   rename_i p ka;obtain⟨k',y⟩:=p;obtain⟨ek,ry⟩:=ra;dsimp only at ek ry;subst ek;simp only[xK] at e;have rel:=rb.val k;rcases lb.val k with⟨h1,h2⟩ |⟨d',v',h1,h2,r'⟩
   ·rw[h1] at e;cases e;rw[h2] at rel;refine .miss ?_;cases q:valueAt kb k with
    | none=>rfl
    | some _=>rw[q] at rel;exact rel.elim
   ·rw[h1] at e;obtain⟨a,e1,e⟩:=bS e;obtain⟨b,e2,e⟩:=bS e
    by_cases z:a.depth≤60∧b.depth≤60
    ·rw[Qp z] at e;obtain⟨c',e3,e4⟩:=gL e;subst e4;rw[h2] at rel;cases q:valueAt kb k with
     | none=>rw[q] at rel;exact rel.elim
     | some y'=>
      rw[q] at rel;obtain⟨r1,c1⟩:=r.vt e1;obtain⟨r2,c2⟩:=r'.vt e2;obtain⟨as,ra1⟩:=r1.reads I ry;obtain⟨bs,ra2⟩:=r2.reads I rel;refine .hit q (Vt a b _ s y y' as bs ra1 ra2 c1 c2 ?_) (BU hu I lb rb l rr e3);have:min a.depth b.depth≤a.depth:=Te _ _;show X.A.units+1+min a.depth b.depth < cLine
      lia
    ·rw[Qu z] at e;cases e
theorem FG(hu:X.A.units+64 < cLine)(I:L2.Inv X pins σ H s)(rx:L2.RelV x v)(ry:L2.RelV y u)(S:cx X.K ρ h H)(rd:Rep X.K ρ H x d)(re:Rep X.K ρ H y e)(ee:Ji d e h=some c):
  (∀Q:Value->Shared->Prop,Q (.bool c) s->wpAny (model X.prog X.w) X.A (compareOp .Eq v u) Q X.xe s)∧∀Q:Value->Shared->Prop,Q (.bool (!c)) s->wpAny (model X.prog X.w) X.A (compareOp .NotEq v u) Q X.xe s:=by
 have data:Mf d e h=some c->(∀Q:Value->Shared->Prop,Q (.bool c) s->wpAny (model X.prog X.w) X.A (compareOp .Eq v u) Q X.xe s)∧∀Q:Value->Shared->Prop,Q (.bool (!c)) s->wpAny (model X.prog X.w) X.A (compareOp .NotEq v u) Q X.xe s:=by
  intro ee;obtain⟨a,e3,e4⟩:=bS ee;obtain⟨b,e5,e6⟩:=bS e4
  by_cases w:a.depth≤64∧b.depth≤64
  ·rw[Qp w] at e6;cases e6;obtain⟨r1,c1⟩:=wX S rd e3;obtain⟨r2,c2⟩:=wX S re e5;obtain⟨as,ra⟩:=r1.reads I rx;obtain⟨bs,rb⟩:=r2.reads I ry;exact⟨fun Q q=>eq_dataH ra rb (lj c1 w.1) (lj c2 w.2) hu q,fun Q q=>ne_dataH ra rb (lj c1 w.1) (lj c2 w.2) hu q⟩
  ·rw[Qu w] at e6;cases e6
 unfold Ji at ee;cases q1:fb d h with
 | none=>rw[q1] at ee;exact data ee
 | some ks=>
  cases q2:fb e h with
  | none=>rw[q1,q2] at ee;exact data ee
  | some ls=>
   rw[q1,q2] at ee;obtain⟨a,us,rfl,ha,la⟩:=n5 S rd q1;obtain⟨b,ws,rfl,hb,lb⟩:=n5 S re q2;obtain rfl:v=Value.ref a:=rx;obtain rfl:u=Value.ref b:=ry;obtain⟨_,na,ka,ra,da⟩:=zj I.bI ha;obtain⟨_,nb,kb,rb,db⟩:=zj I.bI hb;have l1:ka.length=ks.length:=by rw[←la.length];exact(Paired.length ra).symm
   have l2:kb.length=ls.length:=by rw[←lb.length];exact(Paired.length rb).symm
   dsimp only[FI] at ee
   by_cases z:ks.length=ls.length
   ·rw[Qp z] at ee;have hits:=BU hu I lb rb la ra ee;have ez:(ka.length==kb.length&&c)=c:=by rw[l1,l2,z,Sg,Vn]
    exact⟨fun Q q=>PySem.W.keq_eq na nb da db (by lia) (fun _=>hits) (by rw[ez];exact q),fun Q q=>PySem.W.keq_ne na nb da db (by lia) (fun _=>hits) (by rw[ez];exact q)⟩
   ·rw[Qu z] at ee;cases ee;have ez:(ka.length==kb.length&&false)=false:=Vf _;have nh:ka.length=kb.length->PySem.W.KeqHits X.A.in1 s kb ka false:=fun q=>absurd (by rw[←l1,←l2];exact q) z;exact⟨fun Q q=>PySem.W.keq_eq na nb da db (by lia) nh (by rw[ez];exact q),fun Q q=>PySem.W.keq_ne na nb da db (by lia) nh (by rw[ez];exact q)⟩
theorem bh(hu:X.A.units+64 < cLine):oJ X (compareOp .Eq) cu:=by
 intro pins s σ H x y v u Q I rx ry hh;obtain⟨ρ,h,d,e,z,h',S,rd,re,ee,k⟩:=hh;obtain⟨c,e1,e2⟩:=gL ee;cases e2;exact(FG hu I rx ry S rd re e1).1 _ ⟨.bl _,H,I,rfl,k _ _ (.here S (.bl _))⟩
theorem sU(hu:X.A.units+64 < cLine):oJ X (compareOp .NotEq) nV:=by
 intro pins s σ H x y v u Q I rx ry hh;obtain⟨ρ,h,d,e,z,h',S,rd,re,ee,k⟩:=hh;obtain⟨c,e1,e2⟩:=gL ee;cases e2;exact(FG hu I rx ry S rd re e1).2 _ ⟨.bl _,H,I,rfl,k _ _ (.here S (.bl _))⟩
noncomputable def E8(acc:List (Key×D))(ps:List (Key×D)):List (Key×D):=ps.foldl (fun a p=>putD a p.1 p.2) acc
theorem bL.merge{K:FR}{ρ:Ad}{H:Hp}:∀{kvs:List (Key×V)} {ps:List (Key×D)} {acc:List (Key×V)} {ac:List (Key×D)},bL K ρ H acc ac->bL K ρ H kvs ps->bL K ρ H (kG acc kvs) (E8 ac ps)
 | _,_,_,_,a,.nil=>a
 | _,_,acc,ac,a,.cons (k:=k) (v:=v) (d:=d) r l=>bL.merge (acc:=putK acc k v) (ac:=putD ac k d) (a.put r) l
theorem JK(hN:X.N.Nodup)(hi:X.N[i]?=some x)(hx:Loc X.env.scope x)(he:SE X e ma)(ho:NX X op (rS X.K f))(hf:X.fn x=true∨X.env.scope.names.lookup x=some .local:=by first | exact .inl rfl | exact .inr rfl | assumption):SS X (.AugAssign (.Name x pos') op e pos) (Em i f ma):=
 (Ku hN hi hx he ho hf).imp fun E σ H ⟨ρ,δ,h,fl,δ',h',R,S,e,k⟩=>by
  obtain⟨d,e1,e2⟩:=bS e;obtain⟨⟨y,h1⟩,e3,e4⟩:=bS e2;obtain⟨⟨z,h2⟩,e5,e6⟩:=bS e4;cases e6;obtain⟨v,ev,r⟩:=R.at_ i d (Ui.mp e1);exact⟨v,ev,ρ,δ,h,y,h1,R,S,e3,fun u H1 ⟨ρ1,T1,S1,r1⟩=>⟨ρ1,h1,d,y,z,h2,S1,r.mono T1,r1,e5,fun w H2 ⟨ρ2,T2,S2,r2⟩=>k ρ2 H2 (T1.trans T2) S2 _ ((R.mono (T1.trans T2).toCh).set r2 i)⟩⟩
theorem HS(ho:lX X (inplaceOp op) (Ez q))(hf:∀d e h z h',f d e h=some (z,h')->∃i j,d=.int i∧e=.int j∧h'=h∧∀ρ H,Rep X.K ρ H (q i j) z):NX X op (rS X.K f):=k6 ho hf
theorem HU:NX X .Sub (rS X.K xF):=HS HV fun d e h z h' ee=>by
 cases d <;> first |(cases ee;done) | skip
 cases e <;> first |(cases ee;done) | skip
 cases ee;exact⟨_,_,rfl,rfl,rfl,fun _ _=>.int _⟩
theorem rR:bootBuiltins "list"=some (.type "list"):=by decide+kernel
theorem a8:bootBuiltins "tuple"=some (.type "tuple"):=by decide+kernel
theorem rT:bootBuiltins "bool"=some (.type "bool"):=by decide+kernel
theorem ua:bootBuiltins "int"=some (.type "int"):=by decide+kernel
theorem p7:bootBuiltins "str"=some (.type "str"):=by decide+kernel
theorem cc:bootBuiltins "len"=some (.builtin "len"):=by decide+kernel
theorem F8:bootBuiltins "abs"=some (.builtin "abs"):=by decide+kernel
theorem aG:bootBuiltins "isinstance"=some (.builtin "isinstance"):=by decide+kernel
theorem m5:bootBuiltins "all"=some (.builtin "all"):=by decide+kernel
theorem LU:bootBuiltins "any"=some (.builtin "any"):=by decide+kernel
noncomputable def Jx(sc:Scope)(x:Str):Bool:=match sc.names.lookup x with
 | some .local=>true
 | some .cell=>true
 | some .free=>true
 | _=>false
noncomputable def Fe(sc:Scope)(x:Str):Bool:=match sc.names.lookup x with
 | some .local=>true
 | some .cell=>true
 | _=>false
noncomputable def Nw(X:Cx)(x:Str):Bool:=X.fn x||(match X.env.scope.names.lookup x with
 | some .local=>true
 | _=>false)
theorem Jw(h:Jx sc x=true):Mh sc x:=by
 unfold Jx at h
 split at h <;> first |(cases h;done) | skip
 ·exact .inl ‹_›
 ·exact .inr (.inl ‹_›)
 ·exact .inr (.inr ‹_›)
theorem AK(h:Fe sc x=true):Loc sc x:=by
 unfold Fe at h
 split at h <;> first |(cases h;done) | skip
 ·exact .inl ‹_›
 ·exact .inr ‹_›
theorem AQ(h:Nw X x=true):X.fn x=true∨X.env.scope.names.lookup x=some .local:=by
 unfold Nw at h;rw[SD] at h;rcases h with h | h
 ·exact .inl h
 ·split at h
  ·exact .inr ‹_›
  ·cases h
theorem sv(i:Nat)(hN:X.N[i]?=some x:=by ac_nf)(hv:Jx X.env.scope x=true:=by ac_nf)(hd:(x==("__debug__":Str))=false:=by ac_nf)(hcd:(x==("__classdict__":Str))=false:=by ac_nf):SE X (.Name x pos) (ae i):=JS hN (Jw hv) hd hcd
theorem sset(i:Nat)(hN:X.N.Nodup)(he:SE X e ma)(hi:X.N[i]?=some x:=by ac_nf)(hx:Fe X.env.scope x=true:=by ac_nf)(hs:swapsWith e (some (.Name x pos')) pos.line X.env=pure false:=by ac_nf)(hf:Nw X x=true:=by ac_nf):SS X (.Assign [.Name x pos'] e pos) (bg i ma):=JJ hN hi (AK hx) he hs (AQ hf)
theorem sgn(i:Nat)(hN:X.N.Nodup)(hi:X.N[i]?=some x:=by ac_nf)(hx:Fe X.env.scope x=true:=by ac_nf)(hf:Nw X x=true:=by ac_nf):SG X (.Name x pos) (gN i):=GK hN hi (AK hx) (AQ hf)
theorem OD(i:Nat)(hN:X.N.Nodup)(he:SE X e ma)(ho:NX X op (rS X.K f))(hi:X.N[i]?=some x:=by ac_nf)(hx:Fe X.env.scope x=true:=by ac_nf)(hf:Nw X x=true:=by ac_nf):SS X (.AugAssign (.Name x pos') op e pos) (Em i f ma):=JK hN hi (AK hx) he ho (AQ hf)
noncomputable def Ek(i j:Nat)(m:AM):SM:=fun δ h=>(m δ h).bind fun p=>match p.1 with
 | [a,b]=>some (.nx,(δ.set i (some a)).set j (some b),p.2)
 | _=>none
theorem JL(i j:Nat){kt k2 pt2}(hN:X.N.Nodup)(hl:oF m 2)(hc:X.calm=true)(hij:i≠j)(P:PS X (.Assign [.Tuple [.Name x px,.Name y py] kt pt] (.Tuple [a,b] k2 pt2) pos) (MA i j (Pw X.K m))):
  SS X (.Assign [.Tuple [.Name x px,.Name y py] kt pt] (.Tuple [a,b] k2 pt2) pos) (Ek i j m):=P.imp fun E σ H ⟨ρ,δ,h,fl,δ',h',R,S,e,k⟩=>by
 obtain⟨⟨ds,h1⟩,e1,e2⟩:=bS e;refine⟨ρ,δ,h,ds,h1,R,S,e1,fun vs ρ1 H1 T1 S1 r1=>?_⟩
 match ds,hl _ _ _ _ e1,e2,r1 with
 | [d,d'],_,e2,r1=>
  cases e2;obtain⟨v,u,rfl,rd,rd'⟩:=rep2 r1;exact⟨v,u,rfl,k ρ1 H1 T1 S1 _ (((R.mono T1.toCh).set rd i).set rd' j)⟩
structure Df(P:Program)(w:World)(K:FR)(mg:Str->Option Value)(base:Heap)(nm:Str)(k:Nat)(ps:List Str)(n:Nat)(F:Fn):Prop where
 ex:∃(f:Addr)(fd:FuncData),bB P w K mg base fE k f fd ps (fY K n F)∧PySem.W.keepIn K (.ref f)=true∧Binds K fd ps []∧mg nm=some (.ref f)
theorem MT(d:Df X.prog X.w X.K X.mg X.base nm k ps n F)(hr:ip k' X.A)(hk:k≤k')(ha:SA X (e::es) m)(hl:oF m n)(hg:Gl X nm:=by unfold Gl;ac_nf)(hdb:(nm==("__debug__":Str))=false:=by ac_nf)(he:starEach (e::es) X.env=(false,eval e X.env)::starEach es X.env:=by ac_nf)(hpl:(backTo pos (starEach es X.env)).any (·.1)=false:=by ac_nf):SE X (.Call (.Name nm p) (e::es) [] pos) (ay F m):=by
 obtain⟨f,fd,G,kf,bf,mf⟩:=d.ex;exact GN G (hr.mono hk) hg mf kf bf ha hl hdb he hpl
theorem gK{P:Program}{w:World}{K:FR}{mg:Str->Option Value}{base:Heap}{k n:Nat}{f:Addr}{fd:FuncData}{ps:List Str}:bB P w K mg base fE k f fd ps (fY K n fun _ _=>none):=
 ⟨fun vs H Q E hh=>(by obtain⟨_,_,_,_,_,_,_,_,e,_⟩:=hh;cases e),fun A outer s H args us vs Q E _ _ _ _ hh=>(by obtain⟨_,_,_,_,_,_,_,_,e,_⟩:=hh;cases e)⟩
end Sm
namespace L2
open PySem PySem.Spec PyProof.Rows
abbrev TK:=St->Hp->(St->Hp->Prop)->Prop
def PM(B:Cx)(act:Sem Unit)(t:TK):Prop:=
 ∀(pins:List (Addr×Obj)) (s:Shared) (τ:St) (H:Hp) (N:St->Hp->Prop),Inv B pins τ H s->t τ H N->wpAny (model B.prog B.w) B.A act (fun _ s'=>∃τ' H',Inv B pins τ' H' s'∧N τ' H') B.xe s
def x8(J:It)(g:TG)(tc:TT)(tm:TK)(N:St->Hp->Prop)(τ0:St)(H0:Hp):Prop:=
 ∃W:Nat->Nat->St->Hp->Prop,(∃m,W 0 m τ0 H0)∧∀i m τ H2,W i m τ H2->
  (J.stop i H2∧N τ H2)∨(J.go i H2∧∃N':St->Hp->Prop,(∀τ' H',N' τ' H'->∃m',m' < m∧W (i+1) m' τ' H')∧∀x H',J.IV i H2 x H'->g x τ H' fun τ2 H3=>
   tc τ2 H3 fun b H4=>if b=true then tm τ2 H4 N' else N' τ2 H4)
noncomputable def oP(e:Expr)(d:Nat)(tg:Expr)(ifs:List Expr)(act:Sem Unit)(p:Pos)(it acc:Value)(env:Env):Sem Fin:=do
 standAt p
 match←pyNext it with
 | none=>pure (.done .next)
 | some v=>
  letOwnedTupleGo tg it v
  assign tg env v
  let mut ok:=true
  for c in ifs do
   if ok then ok←isTrue c env (eval c env)
  if ok then act
  again (.compLoop e d it acc env)
noncomputable def nX(k v:Expr)(d:Addr)(env:Env):Sem Unit:=do
 let kv←eval k env;let vv←holding [kv] (eval v env)
 standAt {k.pos with endLine:=v.pos.endLine,endCol:=v.pos.endCol}
 holding [kv,vv] (dictSet d kv vv)
theorem rY(k v t1 i1:Expr)(f1:List Expr)(sc:Scope)(pos:Pos)(it:Value)(d:Addr)(env:Env):
  compTurn (.DictComp k v [⟨t1,i1,f1,0⟩] sc pos) 0 it (.ref d) env=oP (.DictComp k v [⟨t1,i1,f1,0⟩] sc pos) 0 t1 f1 (nX k v d env) i1.pos it (.ref d) env:=by rfl
structure Plain(e:Expr):Prop where
 loop:∀(P:Program)(w:World)(d:Nat)(it acc:Value)(env:Env),(model P w).den (.compLoop e d it acc env)=(compTurn e d it acc env).onRaise (fun x=>do noteFrame x env;theTreesLotGoes x)
 start:∀(P:Program)(w:World)(d:Nat)(it acc:Value)(env:Env),(model P w).den (.compStart e d it acc env)=(compStart e d it acc env).onRaise (fun x=>do noteFrame x env;standAt theWindowsPlace)
 ul:∀(A:Around)(d:Nat)(it acc:Value)(env:Env),A.under (.compLoop e d it acc env)=A
 us:∀(A:Around)(d:Nat)(it acc:Value)(env:Env),A.under (.compStart e d it acc env)=A
theorem sO(k v:Expr)(gs:List Comprehension)(sc:Scope)(pos:Pos):Plain (.DictComp k v gs sc pos):=⟨fun _ _ _ _ _ _=>rfl,fun _ _ _ _ _ _=>rfl,fun _ _ _ _ _=>rfl,fun _ _ _ _ _=>rfl⟩
theorem NF(hk:Plain e)(ht:compTurn e d (.ref it) acc B.env=oP e d tg ifs act p (.ref it) acc B.env)(hc:B.calm=true)(hx:B.xe=fun _ _=>False)(hg:PG B tg g)(hif:Gp B ifs tc)(hm:PM B act tm)(I:Inv B pins τ H s)(T:Turn B.prog B.w B.K tg J fp it tn)(st:tn 0 s.heap)(hf:∀b∈fp,ie B pins H b)(hw:x8 J g tc tm N τ H):
  codeAny (model B.prog B.w) B.A (.compLoop e d (.ref it) acc B.env) (fun r s'=>r=.ok .next∧∃τ' H',Inv B pins τ' H' s'∧N τ' H') s:=by
 obtain⟨W,⟨m0,w0⟩,turn⟩:=hw;have stat:∀{H':Hp},(∀b∈fp,H' b=none)->∀b∈fp,ie B pins H' b:=fun hn b hb=>⟨hn b hb,(hf b hb).2⟩;have up:∀{α:Type} {t:Sem α} {Q:α->Shared->Prop} {E:Value->Shared->Prop} {s:Shared},wpAny (model B.prog B.w) B.A t Q B.xe s->wpAny (model B.prog B.w) B.A t Q E s:=fun h=>Mx (hx ▸ h);refine codeAny_loop rfl (fun n s'=>∃i τ' H',Inv B pins τ' H' s'∧tn i s'.heap∧(∀b∈fp,H' b=none)∧W i n τ' H') ?_ m0 ⟨0,_,_,I,st,fun b hb=>(hf b hb).1,w0⟩;rintro n s4 ⟨i,τ4,H4,J4,st4,fr4,w4⟩;rw[hk.ul,hk.loop];refine wpAny_noted ?_;rw[ht];unfold oP;rcases turn i n τ4 H4 w4 with⟨stop,qn⟩ |⟨go,N',hN,step⟩
 ·refine Qj (Sa (Qj (Rm (T.done B rfl rfl rfl hc i pins s4 τ4 H4 _ J4 (stat fr4) st4 stop) (fun r s5 h5=>?_) fun _ _ e=>e)));obtain⟨hr,J5⟩:=h5;subst hr;exact Qm ⟨rfl,_,_,J5,qn⟩
 ·refine Qj (Sa (Qj (Rm (T.item B rfl rfl rfl hc i pins s4 τ4 H4 _ J4 (stat fr4) st4 go) (fun r s5 h5=>?_) fun _ _ e=>e)));obtain⟨u,hr,h5⟩:=h5;subst hr;refine Qj (Rm h5 (fun _ s6 h6=>?_) fun _ _ e=>e);obtain⟨x,H6,J6,r6,y6,st6,fr6⟩:=h6;have J6':=J6.pinned (stat fr6) (T.obj _ _ st6);refine Qj (Rm (up (hg _ s6 τ4 H6 x u _ J6' r6 (step x H6 y6))) (fun _ s7 h7=>?_) fun _ _ e=>e);obtain⟨τ7,H7,J7,q7⟩:=h7;have again:∀{τ8:St} {H8:Hp} {s8:Shared},Inv B (pins++pG fp s6.heap) τ8 H8 s8->N' τ8 H8->
    ∃m,m < n∧∃i τ' H',Inv B pins τ' H' s8∧tn i s8.heap∧(∀b∈fp,H' b=none)∧W i m τ' H':=fun {τ8 H8 s8} J8 n8=>by
   obtain⟨m',hm,w8⟩:=hN τ8 H8 n8;refine⟨m',hm,i+1,τ8,H8,J8.jU,T.keep _ _ _ st6 fun b hb o e=>(J8.pin (b,o) (QH _ (QH _ (gc hb e)))).1,fun b hb=>?_,w8⟩;obtain⟨o,e,d⟩:=T.obj _ _ st6 b hb;exact(J8.pin (b,o) (QH _ (QH _ (gc hb e)))).2.1
  refine Qj (Rm (up (hif _ s7 τ7 H7 _ J7 q7)) (fun ok s8 h8=>?_) fun _ _ e=>e);obtain⟨H8,J8,q8⟩:=h8;cases ok with
  | false=>exact Qm ⟨rfl,again J8 (by simpa using q8)⟩
  | true=>
   have q8':tm τ7 H8 N':=by simpa using q8
   refine Qj (Rm (up (hm _ s8 τ7 H8 _ J8 q8')) (fun _ s9 h9=>?_) fun _ _ e=>e);obtain⟨τ9,H9,J9,n9⟩:=h9;exact Qm ⟨rfl,again J9 n9⟩
theorem LI{env:Env}{it acc:Value}{iter:Expr}{prog:Program}{w:World}{A:Around}{s:Shared}{R:Result->Shared->Prop}(hk:Plain e)(hcl:(clausesOf e)[d]?=some ⟨tg,iter,ifs,0⟩)
  (h0:codeAny (model prog w) A (.compLoop e d it acc env) R s)
  (h:wpAny (model prog w) A (pyIter it) (fun it' s'=>codeAny (model prog w) A (.compLoop e d it' acc env) R s') (notedBy (model prog w) A env fun x s'=>R (.error x) s') s):
  codeAny (model prog w) A (.compStart e d it acc env) R s:=by
 refine UI ?_;rw[hk.us,hk.start];refine wpAny_notedAt ?_;unfold compStart;rw[hcl];show wpAny _ _ (ask >>=_) _ _ s;refine Qj (Sx (wpAny_ite ?_))
 split
 ·first
   | exact Qj (Qm (Qm (And.intro rfl h0)))
   | exact Qm (And.intro rfl h0)
 ·first
   | exact Qj (RU (Qj (Sa (Qj (Rm h (fun it' s' h'=>Qm (And.intro rfl h')) fun _ _ x=>x)))))
   |(refine Qj (RU ?_);show wpAny _ _ (standAt iter.pos >>=_) _ _ s;exact Qj (Sa (Qj (Rm h (fun it' s' h'=>Qm (And.intro rfl h')) fun _ _ x=>x))))
def IK(X:Cx)(na:Sem Value)(o:Addr->HO):Prop:=∀(pins:List (Addr×Obj)) (s:Shared) (σ:St) (H:Hp) (Q:Value->Shared->Prop) (E:Value->Shared->Prop),Inv X pins σ H s->
 (∀(obj:Obj)(t':Nat),Inv X pins σ (upd H s.heap.objs.size (o s.heap.objs.size)) {s with heap:=s.heap.push obj,toks:=t'}->Q (.ref s.heap.objs.size) {s with heap:=s.heap.push obj,toks:=t'})->wpAny (model X.prog X.w) X.A na Q E s
def r8(caps:List (Option Nat))(wi:TI)(o:Addr->HO)(g:TG)(tc:TT)(tm:Addr->TK):TE:=fun σ H Q=>wi σ H fun J H1=>∀l,H1 l=none->x8 J g tc (tm l) (fun _ H'=>Q (.ref l) H') (p5 caps σ) (upd H1 l (o l))
section
variable {X:Cx} {N':List Str} {caps:List (Option Nat)} {scope:Scope} {e tg iter:Expr} {ifs:List Expr} {p:Pos} {wi:TI} {g:TG} {tc:TT} {tm:Addr->TK} {o:Addr->HO} {na:Sem Value} {act:Addr->Env->Sem Unit}
theorem FV(S:bA X N' caps scope)(hc:X.calm=true)(hk:Plain e)(hcl:(clausesOf e)[0]?=some ⟨tg,iter,ifs,0⟩)(ht:∀(it l:Addr)(env:Env),compTurn e 0 (.ref it) (.ref l) env=oP e 0 tg ifs (act l env) p (.ref it) (.ref l) env)
  (hA:IK X na o) (hg:∀C s₃ H₃ fp pl,PG (gG X N' scope C s₃ H₃ fp pl) tg g) (hif:∀C s₃ H₃ fp pl,Gp (gG X N' scope C s₃ H₃ fp pl) ifs tc)
  (hm:∀C s₃ H₃ fp pl l,PM (gG X N' scope C s₃ H₃ fp pl) (act l (gG X N' scope C s₃ H₃ fp pl).env) (tm l)) {pins:List (Addr×Obj)} {σ:St} {H:Hp} {s:Shared} {it:Addr} {fp:List Addr} {tn:Nat->Heap->Prop} {J:It}
  (I:Inv X pins σ H s) (T:Turn X.prog X.w X.K tg J fp it tn) (st:tn 0 s.heap) (hf:∀b∈fp,ie X pins H b) {Q:VK} {RR:Value->Addr->Result->Shared->Prop} {E:Value->Shared->Prop}
  (h:∀l,H l=none->x8 J g tc (tm l) (fun _ H'=>Q (.ref l) H') (p5 caps σ) (upd H l (o l)))
  (hRR:∀(l C:Addr)(H':Hp)(s':Shared),H' C=none->C≠X.env.locals->X.s₀.heap.objs.size≤C->(∀x c,X.env.cells.lookup x=some c->c≠C)->(∀p∈X.pn++pins,p.1≠C)->(∃m,s'.heap.Ns C m)->Inv X pins σ H' s'->
   (∀h'':Heap,(∀b u,b≠C->s'.heap.get? b=some u->h''.get? b=some u)->Inv X pins σ H' {s' with heap:=h''})->Q (.ref l) H'->RR (.ref l) C (.ok .next) s'):
  wpAny (model X.prog X.w) X.A na (fun acc s₃=>wpAny (model X.prog X.w) X.A (newFunctionEnv scope X.env.globals (iQ X.env scope.names []) [] X.env.qual none .none (some X.env)) (fun cenv s₄=>
   codeAny (model X.prog X.w) X.A (.compStart e 0 (.ref it) acc {cenv with scope:=relabel scope X.env}) (RR acc cenv.locals) s₄) E s₃) E s:=by
 have hw:=h s.heap.objs.size I.fresh;refine hA pins s σ H _ _ I fun obj t' I3=>wpAny_newFunctionEnv S.AE (by intro y hy;simp at hy) (fun h₁ hns₁ hsb₁=>?_) S.kind;have hltf:∀b∈fp,b < s.heap.objs.size:=fun b hb=>by
  obtain⟨o,e,_⟩:=T.obj 0 _ st b hb;exact Qw e
 have hf3:∀b∈fp,ie X pins (upd H s.heap.objs.size (o s.heap.objs.size)) b:=fun b hb=>⟨by rw[aP (QF (hltf b hb))];exact(hf b hb).1,(hf b hb).2⟩;have keep3:∀b u,(s.heap.push obj).get? b=some u->h₁.get? b=some u:=fun b u e=>hsb₁.extBut b u (QF (Qw e)) (Ql _ e);have st3:tn 0 h₁:=T.keep 0 _ _ st fun b hb o e=>keep3 b o (Ql _ e);have hlt3:∀b∈fp,b < (s.heap.push obj).objs.size:=fun b hb=>by
  have:=hltf b hb;rw[QY];exact SH this
 have J0:=Inv.block S I3 hc hf3 hlt3 hns₁ keep3 (t₄:=t');have fpB:∀b∈fp,ie (gG X N' scope (s.heap.push obj).objs.size {s with heap:=s.heap.push obj,toks:=t'} (upd H s.heap.objs.size (o s.heap.objs.size)) fp pins) [] (upd H s.heap.objs.size (o s.heap.objs.size)) b:=fun b hb=>by
  obtain⟨f0,f1,f2,f3,f4,f5⟩:=hf3 b hb;refine⟨f0,QF (hlt3 b hb),fun z=>?_,.inl hb,fun x c e=>f4 x c (S.look I3.ok e),fun p hp=>?_⟩
  ·rcases QK.mp (I3.oR b z) with q | q
   ·exact f1 q
   ·exact f2 q
  ·rcases QS.mp hp with q | q
   ·exact f5 p q
   ·cases q
 have lp:=NF hk (ht it s.heap.objs.size _) rfl rfl (hg _ _ _ _ _) (hif _ _ _ _ _) (hm _ _ _ _ _ s.heap.objs.size) J0 T st3 fpB hw;refine Ti (LI hk hcl lp (T.self X.A 0 _ _ _ st3 lp)) fun r s' hr=>?_;obtain⟨rfl,τ,H',J,q⟩:=hr;refine hRR _ _ H' s' J.free ?_ ?_ ?_ ?_ ?_ ?_ ?_ q
 ·exact(QF I3.lt).symm
 ·exact I3.sz
 ·intro x c e z;obtain⟨v,o,ho,_⟩:=I3.cell x c e;exact QF (Qw ho) z
 ·intro p hp z;obtain⟨e,_⟩:=I3.pin p hp;exact QF (Qw e) z
 ·obtain⟨m,hm,_⟩:=J.loc;exact⟨m,hm⟩
 ·have:=Inv.rB S I3 hf3 J (h'':=s'.heap) fun b u _ e=>e;exact this
 ·exact fun h'' hs=>Inv.rB S I3 hf3 J hs
theorem EU(S:bA X N' caps scope)(hc:X.calm=true)(hk:Plain e)(hcl:clausesOf e=⟨tg,iter,ifs,0⟩::gs)(ht:∀(it l:Addr)(env:Env),compTurn e 0 (.ref it) (.ref l) env=oP e 0 tg ifs (act l env) p (.ref it) (.ref l) env)(hA:IK X na o)(hi:PI X tg iter wi)(hg:∀C s₃ H₃ fp pl,PG (gG X N' scope C s₃ H₃ fp pl) tg g)(hif:∀C s₃ H₃ fp pl,Gp (gG X N' scope C s₃ H₃ fp pl) ifs tc)(hm:∀C s₃ H₃ fp pl l,PM (gG X N' scope C s₃ H₃ fp pl) (act l (gG X N' scope C s₃ H₃ fp pl).env) (tm l))(he:eval e X.env=comprehension e scope X.env p0 na false (eval iter X.env))(hs:∀x,foldedSetIterable iter X.env x=pure x:=by intro _;rfl):PE X e (r8 caps wi o g tc tm):=by
 intro pins s σ H Q I h;rw[he];refine Ts (use:=none) hcl hs (jG (S.has I.ok)) S.kind S.names (cU (hi pins s σ H _ I h) fun v s1 h1=>cU h1 fun itv s2 h2=>?_);obtain⟨it,fp,tn,J,H2,e,I2,T,st2,f2,hQ⟩:=h2;subst e;refine FV (RR:=fun acc C=>compPost (model X.prog X.w) X.A X.xe none (EP X pins σ Q) acc C) S hc hk (by rw[hcl];rfl) ht hA hg hif hm I2 T st2 f2 hQ ?_;intro l C H' s' _ _ _ _ _ hm _ hI q;obtain⟨m,hm⟩:=hm;exact⟨m,hm,fun h'' hs''=>⟨.ref l,H',hI h'' fun b u hb e=>hs''.extBut b u hb e,rfl,q⟩⟩
theorem EI(hN:X.N.Nodup)(hi':X.N[i]?=some y)(hy:X.env.scope.names.lookup y=some .local)(S:bA X N' caps scope)(hc:X.calm=true)(hk:Plain e)(hcl:clausesOf e=⟨tg,iter,ifs,0⟩::gs)(ht:∀(it l:Addr)(env:Env),compTurn e 0 (.ref it) (.ref l) env=oP e 0 tg ifs (act l env) p (.ref it) (.ref l) env)(hA:IK X na o)(hi:PI X tg iter wi)(hg:∀C s₃ H₃ fp pl,PG (gG X N' scope C s₃ H₃ fp pl) tg g)(hif:∀C s₃ H₃ fp pl,Gp (gG X N' scope C s₃ H₃ fp pl) ifs tc)(hm:∀C s₃ H₃ fp pl l,PM (gG X N' scope C s₃ H₃ fp pl) (act l (gG X N' scope C s₃ H₃ fp pl).env) (tm l))(he:∀use,evalThenUse e X.env use=(do let _←comprehension e scope X.env p0 na false (eval iter X.env) (some use)))(hsw:swapsWith e (some (.Name y py)) spos.line X.env=pure true:=by rfl)(hs:∀x,foldedSetIterable iter X.env x=pure x:=by intro _;rfl):
  PS X (.Assign [.Name y py] e spos) (Cr (r8 caps wi o g tc tm) (qx i)):=by
 intro pins s σ H D I h;rw[exec_Assign_Name_used _ _ _ _ hsw];refine Qj (Sa (Qj ?_));rw[he];refine Qj (Rm (Ts (use:=some (assign (.Name y py) X.env)) (Q:=fun _ s'=>SP X pins D .next s') hcl hs (jG (S.has I.ok)) S.kind S.names
  (cU (hi pins s σ H _ I h) fun v s1 h1=>cU h1 fun itv s2 h2=>?_)) (fun _ s' hq=>Qm (Qm hq)) fun _ _ e=>e)
 obtain⟨it,fp,tn,J,H2,e,I2,T,st2,f2,hQ⟩:=h2;subst e;refine FV (Q:=fun x H1=>qx i x σ H1 D.nx) (RR:=fun acc C=>compPost (model X.prog X.w) X.A X.xe (some (assign (.Name y py) X.env)) (fun _ s'=>SP X pins D .next s') acc C) S hc hk (by rw[hcl];rfl) ht hA hg hif hm I2 T st2 f2 hQ ?_;intro l C H' s' hC hCL hC0 hCc hCp hm hI0 hI q;obtain⟨m,hm⟩:=hm;show wpAny _ X.A (assign (.Name y py) X.env (.ref l)) _ _ s';refine Va (oQ (v:=.ref l) hI0 hN hi' (.inl hy) rfl (fun s5 I5 hch=>?_) (.inr hy));obtain⟨a,hsa,ha⟩:=hch;have hCa:C≠a:=by
  rcases ha with z | z
  ·rw[z];exact hCL
  ·exact(hCc _ _ z).symm
 refine⟨m,hm.sameBut hsa hCa,fun h'' hs''=>?_⟩;have I6:=I5.turned (t':=s5.toks) (h':=h'') (it:=C) (fun b o hb e=>hs''.extBut b o hb e) hC hCL (.inr hC0) hCc hCp;exact⟨_,H',I6,q⟩
end
end L2
namespace Sm
open PySem L2 PySem.Spec PyProof.Rows
structure Ac(α:Type)where
 at_:FR->Ad->Hp->Addr->α->Prop
 mono:∀{K:FR} {ρ ρ':Ad} {H H':Hp} {l:Addr} {a:α},at_ K ρ H l a->Ch ρ H ρ' H'->H' l=H l->at_ K ρ' H' l a
abbrev MK(α:Type):=DS->MH->α->Option (DS×MH×α)
noncomputable def i9{α:Type}(ws:W)(g:GM)(c:TM)(m:MK α):List D->MK α
 | [],δ,h,a=>if lJ ws h then some (δ,h,a) else none
 | x::r,δ,h,a=>if lJ ws h then(g x δ h).bind fun q=>(c q.1 q.2).bind fun t=>if t.1 then(m q.1 t.2 a).bind fun z=>i9 ws g c m r z.1 z.2.1 z.2.2 else i9 ws g c m r q.1 t.2 a else none
structure oC(l:Addr)(ρ:Ad)(H:Hp)(ρ':Ad)(H':Hp):Prop where
 ch:Ch ρ H ρ' H'
 rs:ρ'.rs=ρ.rs
 res:∀b∈ρ.rs,b≠l->H' b=H b
theorem oC.refl:oC l ρ H ρ H:=⟨.refl _ _,rfl,fun _ _ _=>rfl⟩
theorem oC.trans(a:oC l ρ H ρ1 H1)(b:oC l ρ1 H1 ρ2 H2):oC l ρ H ρ2 H2:=⟨a.ch.trans b.ch,b.rs.trans a.rs,fun x hx n=>(b.res x (a.rs ▸ hx) n).trans (a.res x hx n)⟩
theorem dP.Pu(a:dP ρ H ρ1 H1):oC l ρ H ρ1 H1:=⟨a.toCh,a.rs,fun b hb _=>a.res b hb⟩
inductive NQ{α:Type}(K:FR)(A:Ac α)(l:Addr)(m:MK α)(τ:L2.St)(H:Hp)(N:L2.St->Hp->Prop):Prop where
 | mk (ρ δ h a δ' h' a'):c7 K ρ H τ δ->cx K ρ h H->l∈ρ.rs->A.at_ K ρ H l a->(m δ h a=some (δ',h',a'))->(∀ρ' H' τ',oC l ρ H ρ' H'->cx K ρ' h' H'->c7 K ρ' H' τ' δ'->A.at_ K ρ' H' l a'->N τ' H')->NQ K A l m τ H N
def JF{α:Type}(K:FR)(A:Ac α)(l:Addr)(m:MK α):TK:=fun τ H N=>NQ K A l m τ H N
section
variable {α:Type} {K:FR} {A:Ac α} {l:Addr} {g:GM} {mt:TM} {m:MK α}
theorem GX(It:Ml K J ρ H ws xs)(T1:Ch ρ H ρ1 H1)(R:c7 K ρ1 H1 τ δ)(S:cx K ρ1 h H1)(hl:l∈ρ1.rs)(hA:A.at_ K ρ1 H1 l a)(e:i9 ws g mt m xs δ h a=some (δ',h',a'))(k:∀ρ2 H2 τ2,oC l ρ1 H1 ρ2 H2->cx K ρ2 h' H2->c7 K ρ2 H2 τ2 δ'->A.at_ K ρ2 H2 l a'->N τ2 H2):x8 J (D3 K g) (BA K mt) (JF K A l m) N τ H1:=by
 refine⟨fun i n τ2 H2=>∃(ρ2:Ad)(δ2:DS)(h2:MH)(a2:α),n=xs.length-i∧i≤xs.length∧oC l ρ1 H1 ρ2 H2∧c7 K ρ2 H2 τ2 δ2∧cx K ρ2 h2 H2∧A.at_ K ρ2 H2 l a2∧i9 ws g mt m (xs.drop i) δ2 h2 a2=some (δ',h',a'),
  ⟨_,ρ1,δ,h,a,rfl,Rw _,.refl,R,S,hA,e⟩,?_⟩
 rintro i n τ2 H2 ⟨ρ2,δ2,h2,a2,rfl,hi,T2,R2,S2,hA2,e3⟩;have hl2:l∈ρ2.rs:=by rw[T2.rs];exact hl
 cases q:xs.drop i with
 | nil=>
  rw[q] at e3;unfold i9 at e3
  by_cases hc:lJ ws h2=true
  ·rw[Qp hc] at e3;cases e3;have hle:xs.length≤i:=by have:=congrArg List.length q;rw[Tx,R3] at this;lia
   exact .inl ⟨(It.run _ H2 _ (T1.trans T2.ch) S2 hc i).1 hle,k _ _ _ T2 S2 R2 hA2⟩
  ·rw[Qu hc] at e3;cases e3
 | cons x r=>
  rw[q] at e3;unfold i9 at e3
  by_cases hc:lJ ws h2=true
  ·rw[Qp hc] at e3;have hx:xs[i]?=some x:=by
    have:=congrArg (fun l=>l[0]?) q
    simpa using this
   have hlt:i < xs.length:=(Qo.mp hx).1;have hr:xs.drop (i+1)=r:=by
    have:=congrArg List.tail q
    simpa using this
   obtain⟨⟨δ3,h3⟩,e4,e5⟩:=bS e3;obtain⟨⟨t,h4⟩,e6,e7⟩:=bS e5;dsimp only at e4 e5 e6 e7;obtain⟨hgo,hy⟩:=(It.run _ H2 h2 (T1.trans T2.ch) S2 hc i).2 x hx;refine .inr ⟨hgo,fun τ5 H5=>∃(ρ5:Ad)(δ5:DS)(h5:MH)(a5:α),oC l ρ1 H1 ρ5 H5∧c7 K ρ5 H5 τ5 δ5∧cx K ρ5 h5 H5∧A.at_ K ρ5 H5 l a5∧i9 ws g mt m r δ5 h5 a5=some (δ',h',a'),?_,?_⟩
   ·rintro τ5 H5 ⟨ρ5,δ5,h5,a5,T5,R5,S5,A5,e5⟩;exact⟨xs.length-(i+1),by lia,ρ5,δ5,h5,a5,rfl,hlt,T5,R5,S5,A5,by rw[hr];exact e5⟩
   ·intro v H3 y3;obtain⟨T3,S3,r3⟩:=hy v H3 y3;refine⟨ρ2,δ2,h2,x,δ3,h3,R2.mono T3.toCh,S3,r3,e4,fun ρ4 H4 τ4 T4 S4 R4=>?_⟩;refine⟨ρ4,δ3,h3,t,h4,R4,S4,e6,fun ρ5 H5 T5 S5=>?_⟩;have T25:dP ρ2 H2 ρ5 H5:=T3.trans (T4.trans T5);have A5:A.at_ K ρ5 H5 l a2:=A.mono hA2 T25.toCh (T25.res l hl2);cases t with
    | false=>
     rw[Qu (by simp)] at e7;exact Lr ⟨ρ5,δ3,h4,a2,T2.trans T25.Pu,R4.mono T5.toCh,S5,A5,e7⟩
    | true=>
     rw[Qp rfl] at e7;obtain⟨⟨δ6,h6,a6⟩,e8,e9⟩:=bS e7;refine Lq ⟨ρ5,δ3,h4,a2,δ6,h6,a6,R4.mono T5.toCh,S5,by rw[T25.rs];exact hl2,A5,e8,fun ρ7 H7 τ7 T7 S7 R7 A7=>?_⟩;exact⟨ρ7,δ6,h6,a6,(T2.trans T25.Pu).trans T7,R7,S7,A7,e9⟩
  ·rw[Qu hc] at e3;cases e3
theorem Er(h0:∀ρ H l,A.at_ K ρ (upd H l (o l)) l a0)(hh:∃ρ δ h xs ws h1 δ' h' a',c7 K ρ H σ δ∧cx K ρ h H∧mi δ h=some (xs,ws,h1)∧i9 ws g mt m xs (gF caps δ) h1 a0=some (δ',h',a')∧∀l ρ' H',dP ρ H ρ' H'->cx K ρ' h' H'->¬ρ'.has l->A.at_ K ρ' H' l a'->Q (.ref l) H'):
  r8 caps (Mc K mi) o (D3 K g) (BA K mt) (fun l=>JF K A l m) σ H Q:=by
 obtain⟨ρ,δ,h,xs,ws,h1,δ',h',a',R,S,e1,e2,k⟩:=hh;refine⟨ρ,δ,h,xs,ws,h1,R,S,e1,fun J ρ1 H1 T1 S1 It l hl=>?_⟩;have nl:¬ρ1.has l:=S1.fresh hl;have Tl:Ch ρ1 H1 (ρ1.keep l) (upd H1 l (o l)):=Ch.keep hl;refine GX It Tl (((R.mono T1.toCh).p5 caps).mono Tl) (S1.keep hl) (Qv) (h0 _ _ _) e2 fun ρ2 H2 τ2 T2 S2 R2 A2=>?_;obtain⟨ob2,rs2⟩:=ρ2;have ers:rs2=l::ρ1.rs:=T2.rs;subst ers;have hsub:∀b∈ρ1.rs,b∈l::ρ1.rs:=fun b hb=>Qs _ hb;have C2:Ch ⟨ob2,l::ρ1.rs⟩ H2 ⟨ob2,ρ1.rs⟩ H2:=Ch.free hsub;have hne:∀b∈ρ1.rs,b≠l:=fun b hb z=>nl (.inr (z ▸ hb));have T2':dP ρ1 H1 ⟨ob2,ρ1.rs⟩ H2:=⟨(Tl.trans T2.ch).trans C2,rfl,fun b hb=>(T2.res b (hsub b hb) (hne b hb)).trans (aP (hne b hb))⟩;refine k l _ H2 (T1.trans T2') (S2.free hsub) (fun z=>?_) (A.mono A2 C2 rfl);rcases z with z | z
 ·exact(S2.vn l Qv).2 z
 ·exact nl (.inr z)
end
def Qh{α:Type}(X:Cx)(act:Addr->Env->Sem Unit)(A:Ac α)(m:MK α):Prop:=∀l,L2.PM X (act l X.env) (JF X.K A l m)
theorem _root_.L2.PM.imp(h:L2.PM X a t)(i:∀σ H Q,t' σ H Q->t σ H Q):L2.PM X a t':=fun pins s σ H Q I q=>h pins s σ H Q I (i σ H Q q)
section
variable {α:Type} {X:Cx} {A:Ac α} {g:GM} {mt:TM} {m:MK α} {mi:IM} {e tg iter:Expr} {ifs:List Expr} {d:Nat} {p:Pos} {act:Addr->Env->Sem Unit}
end
end Sm
namespace L2
open PySem PySem.Spec PyProof.Rows
theorem yN(t:SetTable)(n:Nat):(t.orStandIn n).led=t.led∧(t.plain=false->(t.orStandIn n).plain=false):=by
 unfold SetTable.orStandIn
 split
 ·exact⟨rfl,id⟩
 ·exact⟨rfl,fun _=>rfl⟩
theorem tx(t:SetTable)(es:Array (Int×Value))(h:Int)(x:Value):(layNew t es h x).2.1.led=t.led:=by
 unfold layNew
 split
 ·exact(yN _ _).1
 ·rfl
theorem Aa(t:SetTable)(hs:Array Int)(n:Nat)(t':SetTable)(o:Array Nat)(e:t.relaid hs n=some (t',o)):t'.led=t.led∧t'.plain=t.plain:=by
 unfold SetTable.relaid SetTable.laid at e;cases q:SetTable.layClean (SetTable.sizeAbove n-1) hs with
 | none=>rw[q] at e;cases e
 | some owner=>rw[q] at e;cases e;exact⟨rfl,rfl⟩
theorem wN(t:SetTable)(es:Array (Int×Value))(n:Nat):(relayAll t es n).2.1.led=t.led∧(t.plain=false->(relayAll t es n).2.1.plain=false):=by
 unfold relayAll;cases q:t.relaid (es.map (·.1)) n with
 | none=>exact⟨rfl,fun _=>rfl⟩
 | some p=>
  obtain⟨t',o⟩:=p;have hl:=Aa _ _ _ _ _ q;dsimp only
  split
  ·exact⟨hl.1,fun z=>hl.2.trans z⟩
  ·exact⟨rfl,fun _=>rfl⟩
theorem mV:∀(xs:List α)(i:Nat)(x:α),xs[i]?=some x->(x::xs.eraseIdx i).Perm xs
 | y::r,0,x,h=>by
  rw[Vr] at h;cases h;exact .refl _
 | y::r,i+1,x,h=>by
  rw[RP] at h;exact(List.Perm.swap y x _).trans ((mV r i x h).cons y)
theorem Bx:∀(n:Nat)(xs:List α)(s:Shared)(Q:List α->Shared->Prop),n=xs.length->(∀ys d,ys.Perm xs->Q ys {s with drawn:=d})->wpAny M A (drawOrder n xs) Q E s
 | 0,xs,s,Q,e,h=>by
  have:xs=[]:=U5 e.symm;subst this;exact Qm (h [] s.drawn (.refl _))
 | n+1,[],s,Q,e,h=>by cases e
 | n+1,x::r,s,Q,e,h=>by
  unfold drawOrder;refine Qj (show wpAny M A (choose .order (x::r).length) _ E s from fun Γ p hΓ=>?_);unfold choose;rw[Sem.wp_choose];refine⟨by simp,?_⟩;have hlt:M.w.draws .order (s.drawn.get .order) % (x::r).length < (x::r).length:=Vd _ (by simp);generalize M.w.draws .order (s.drawn.get .order) % (x::r).length=i at hlt ⊢;have hx:(x::r)[i]?=some ((x::r)[i]):=Qr hlt;generalize (x::r)[i]=y at hx;show Sem.wp M Γ (pure i) _ _ p _;refine(Qm (M:=M) (A:=A) (E:=E) (a:=i) (s:={s with drawn:=s.drawn.bump .order}) ?_) Γ p hΓ;rw[hx];have hlen:n=((x::r).eraseIdx i).length:=by rw[Ve hlt,←e];rfl
  refine Qj (Bx n _ _ _ hlen fun ys d hy=>Qm ?_);exact h (y::ys) d ((hy.cons y).trans (mV _ _ _ hx))
theorem BJ(nx:Nat->Nat):∀(fuel k:Nat)(left:List α)(out:Array α),fuel=left.length->(pickOrder.go nx fuel k left out).toList.Perm (out.toList++left)
 | 0,k,left,out,e=>by
  have:left=[]:=U5 e.symm;subst this;unfold pickOrder.go;rw[Ru]
 | fuel+1,k,left,out,e=>by
  unfold pickOrder.go;have hlt:nx k % left.length < left.length:=Vd _ (by lia);have hx:left[nx k % left.length]?=some (left[nx k % left.length]):=Qr hlt;generalize left[nx k % left.length]=y at hx;rw[hx];dsimp only;refine(BJ nx fuel (k+1) _ _ (by rw[Ve hlt];lia)).trans ?_;rw[V9,RC];exact(mV _ _ _ hx).append_left _
theorem vA(nx:Nat->Nat)(xs:Array α):(pickOrder nx xs).toList.Perm xs.toList:=by
 unfold pickOrder;have:=BJ nx xs.size 0 xs.toList #[] (by simp)
 simpa using this
theorem tP{α:Type}(es:Array (α×Value)){idx:List Nat}(hp:idx.Perm (List.range es.size)):(idx.filterMap fun k=>(es[k]?).map (·.2)).Perm (es.toList.map (·.2)):=by
 refine(hp.filterMap _).trans (List.Perm.of_eq ?_);have:∀l:List (α×Value),(List.range l.length).filterMap (fun k=>(l[k]?).map (·.2))=l.map (·.2):=by
  intro l;have h1:(List.range l.length).filterMap (fun k=>(l[k]?).map (·.2))=((List.range l.length).filterMap fun k=>l[k]?).map (·.2):=by
   rw[VY]
  rw[h1,List.filterMap_getElem?_range_length]
 have h2:=this es.toList
 simpa using h2
theorem entry_set_iter':entryFor table "set.__iter__"=some Builtin.«frozenset.__iter__»:=entryFor_alias (id':="frozenset.__iter__") (by ac_nf) rfl (by decide+kernel) (by ac_nf)
theorem eI:Slot "set_iterator" "__next__" "set_iterator.__next__":=.of (owner:="set_iterator") (n:="__next__") (by rw[typeLookup_type,builtinLookup_eq_fast];ac_nf) (by decide+kernel) (by decide+kernel) (by decide+kernel) (by first | exact .inl (by decide+kernel) | exact .inr (by decide+kernel)) (by rw[UP];ac_nf)
theorem lS:entryFor table "set_iterator.__next__"=some Builtin.«set_iterator.__next__»:=entryFor_of_fast (by ac_nf)
theorem ou(a:Value):argsOk "set_iterator.__next__" ⟨[a],[]⟩:=by unfold argsOk;ac_nf
theorem wpAny_of_eq'(e:m=m')(h:wpAny M A m' Q E s):wpAny M A m Q E s:=e ▸ h
section
variable {P:Program} {w:World} {A:Around} {E:Value->Shared->Prop} {s:Shared} {a:Addr} {ks:List Str}
theorem xD(ho:s.heap.get? J=some o)(hd:o.data=.fields fs)(hk:k < fs.size)(h:∀h' o',(∀b u,b≠J->s.heap.get? b=some u->h'.get? b=some u)->h'.get? J=some o'->o'.cls=o.cls->o'.data=.fields (fs.setIfInBounds k x)->Q () {s with heap:=h'}):wpAny M A (setField (.ref J) k x) Q E s:=by
 refine VH ho hd hk (h _ _ (fun b u hb e=>(Sh _ _ (RM hb)).trans e) (RO _ ho (Obj.isFreed_of_fields (Ug hd _))) (Obj.cls_mapFields ..) ?_);rw[Ug hd]
theorem Cj(hob:s.heap.get? a=some ob)(hdt:ob.data=.set es ep t)(hf:t.fits es.size=true)(ht:w.params.followText "set-order"=true)(h:Q (pickOrder (w.params.setOrder a ep) es) s):wpAny (model P w) A (setWalk a) Q E s:=by
 unfold setWalk setsByText;refine Qj (RN hob hdt hf ?_);dsimp only;refine Qj (Qj (Sx (Qm ?_)));rw[Qp (show(model P w).w.params.followText "set-order"=true from ht)];exact Qj (Sx (Qm h))
theorem vE(hob:s.heap.get? a=some ob)(hdt:ob.data=.set es ep t)(hf:t.fits es.size=true)(ht:w.params.followText "set-order"=true)(h:Q (((pickOrder (w.params.setOrder a ep) es)[i]?).map fun e=>(e.2,k)) s):wpAny (model P w) A (setNext a k i ep) Q E s:=by
 unfold setNext setsByText;refine Qj (RN hob hdt hf ?_);dsimp only;refine Qj (Qj (Sx (Qm ?_)));rw[Qp (show(model P w).w.params.followText "set-order"=true from ht)];simp only[Sl,QQ,↓reduceIte];exact Qj (Cj hob hdt hf ht (Qm h))
theorem wB{J:Addr}(hh:A.handled=none)(hQ:∀h',(∀b o,s.heap.get? b=some o->h'.get? b=some o)->Q none {s with heap:=h'}):
  wpAny (model P w) A.in1 (do let x←newExc (.type "StopIteration") [];raiseNew x:Sem Fin) (fun fin s'=>∃v,fin=Fin.done (Flow.ret v)∧wpAny (model P w) A (pure (some v)) Q E s')
   (fun e s'=>wpAny (model P w) A (do let b←isInstance e (.type "StopIteration");if b=true then pure none else throw e) Q E s') s:=by
 refine Qj ?_;simp only[newExc,newTuple];refine Qj (Ri ?_ (by size_fits));refine Qj (m:=firstArgMember _ _) (wpAny_of_eq (a:=Value.none) (by first | rfl |(simp only[firstArgMember];rfl)) (Ri ?_ (by size_fits)));simp only[raiseNew];refine Qj (wpAny_handled ?_);rw[show A.in1.handled=none from hh];refine Qj (Qm (wpAny_throw ?_));refine Qj (Sw (T:="StopIteration") (b:=true) (show Shared.TypeIs _ (.ref _) _ from⟨_,Qx _ rfl,rfl⟩) Ue ?_);exact Qm (hQ _ fun b o e=>Ql _ (Ql _ e))
end
theorem ux:splitId "set.__len__"=some ("set","__len__"):=by ac_nf
theorem sub_set_set:isSubtype (.type "set") (.type "set")=pure true:=by rw[UP];ac_nf
theorem sk:typeLookup (.type "set") (Str.ofString "__len__")=pure (some (.builtin "set.__len__")):=F.slot_set_len.lookup
noncomputable def DL(a b:Str):Bool:=!ltCps b.cps.toList a.cps.toList
theorem jD:DL a b=true↔strKind.kle a.cps.toList b.cps.toList:=by
 unfold DL KeyOrd.kle;rw[ltCps_eq];simp
theorem vM(a b c:Str)(h1:DL a b=true)(h2:DL b c=true):DL a c=true:=jD.mpr (KeyOrd.kle_trans (jD.mp h1) (jD.mp h2))
theorem CY(a b:Str):(DL a b||DL b a)=true:=by
 rw[SD]
 by_cases z:strKind.klt b.cps.toList a.cps.toList
 ·exact .inr (jD.mpr (KeyOrd.kle_of_klt z))
 ·exact .inl (jD.mpr (KeyOrd.kle_of_not_klt z))
theorem tw(a b:Str)(h1:DL a b=true)(h2:DL b a=true):a=b:=by
 have:=KeyOrd.kle_antisymm (jD.mp h1) (jD.mp h2);cases a;cases b;congr 1;exact U3.mp this
noncomputable def cH(ks:List Str):List Str:=ks.mergeSort DL
theorem bD(ks:List Str):(cH ks).Perm ks:=VQ _ _
theorem fJ(ks:List Str):(cH ks).Pairwise fun a b=>DL a b=true:=Vq vM CY ks
theorem vy:∀(l:List Str)(p:Str),risingS p l=true->(p::l).Pairwise fun a b=>DL a b=true
 | [],p,_=>by simp
 | x::r,p,h=>by
  have h':(!ltCps x.cps.toList p.cps.toList&&risingS x r)=true:=h;rw[QJ] at h';have ih:=vy r x h'.2;refine VX.mpr ⟨fun y hy=>?_,ih⟩;rcases QK.mp hy with rfl | hy
  ·exact h'.1
  ·exact vM _ _ _ h'.1 ((VX.mp ih).1 y hy)
theorem yk(hp:ss.Perm ks)(h:sortedS ss=true):ss=cH ks:=by
 refine Td (fun a b _ _=>tw a b) ?_ (fJ ks) (hp.trans (bD ks).symm)
 match ss,h with
 | [],_=>exact .nil
 | x::r,h=>exact vy r x h
theorem Cu{vs:List Value}{ss:List Str}{Q:Value->Shared->Prop}(hV:StrsAre vs ss)(h64:vs.length < 64)
  (h:∀h' n (out:Array Value),(∀b o,s.heap.get? b=some o->h'.get? b=some o)->h'.get? s.heap.objs.size=some (seqObj "list" out n)->StrsAre out.toList (cH ss)->Q (.ref s.heap.objs.size) {s with heap:=h'}):
  wpAny (model P w) A (do let l←newList vs;let _←holding [l] (call (.builtin "list.sort") [l] []);ret l) (fun fin s'=>∃v,fin=Fin.done (Flow.ret v)∧Q v s') E s:=by
 refine Qj (wpAny_newList ?_ (by rw[Q4];lia));have hL:(s.heap.push (seqObj "list" vs.toArray 0)).get? s.heap.objs.size=some (seqObj "list" vs.toArray 0):=Qx _ rfl;show wpAny _ _ _ _ _ {s with heap:=s.heap.push (seqObj "list" vs.toArray 0)};refine Qj (Q9 (Rh slot_list_sort ⟨_,hL,rfl⟩ entry_list_sort (list_sort_treeK (s:={s with heap:=s.heap.push (seqObj "list" vs.toArray 0)}) strKind_oneLt hL hV.keysOf (fun v₁ v₂ rest e=>keyKind_strs (by rw[←e];exact hV)) h64 fun st' hp hs=>⟨_,rfl,?_⟩) (args_list_sort _)));obtain⟨ss',g1,g2,g3⟩:=sorted_out_str hV hp hs;have:=yk g2 g3;subst this;have hlt:s.heap.objs.size < (s.heap.push (seqObj "list" vs.toArray 0)).objs.size:=by rw[QY];exact SY _
 obtain⟨n,hn⟩:=sortedHeap_at (vs:=vs) (out:=(arrOf st').map (·.2)) hL;refine Qm ⟨_,rfl,h _ n _ (fun b o e=>?_) hn g1⟩;have hb:=Qw e;rw[sortedHeap_old (QF hb) (TR hb hlt)];exact Ql _ e
theorem vB:IK X newDict (fun _=>.dK []):=fun pins s σ H Q E I h=>by
 unfold newDict;exact Ri (h _ s.toks (I.laid (a:=s.heap.objs.size) (o:=.dK []) (t':=s.toks) (fun _ _ q=>Ql _ q) (Qq _) (tR s.heap I.big)))
def JG(tk tv:TE)(l:Addr):TK:=fun τ H N=>tk τ H fun x H1=>tv τ H1 fun y H2=>∃kvs kk,H2 l=some (.dK kvs)∧x=kV kk∧kvs.length < sizeLine∧N τ (upd H2 l (.dK (putK kvs kk y)))
theorem Hk(hk:PE B k tk)(hv:PE B v tv):PM B (nX k v l B.env) (JG tk tv l):=fun pins s τ H N I h=>by
 unfold nX;refine Qj (cU (hk pins s τ H _ I h) fun ku s1 h1=>?_);obtain⟨x,H1,I1,r1,q1⟩:=h1;refine Qj (Q9 (cU (hv pins s1 τ H1 _ I1 q1) fun vu s2 h2=>?_));obtain⟨y,H2,I2,r2,kvs,kk,e,rfl,hz,n2⟩:=h2;refine Qj (Sa (Q9 ?_));obtain⟨z,hd,vs,rel,dd⟩:=zj I2.bI e;have hzz:vs.length≤sizeLine:=by rw[←rel.length];exact z
 have hl:(putK kvs kk y).length≤sizeLine:=by have:=ix kvs kk y;lia
 refine wpAny_dictSet_pairs (hsz:=hzz) (lQ r1) dd fun h' dd' hs=>?_;have he:∃q,h'.get? l=some q:=let⟨q,_,_,hq,_⟩:=dd';⟨q,hq⟩;exact⟨τ,_,rO I2 (by rw[e];exact True.intro) hs he (AZ hl hd (rel.put kk r2) dd'),n2⟩
end L2
namespace Sm
open PySem L2 PySem.Spec PyProof.Rows
noncomputable def NI:Ac (List (Key×D)) where
 at_:=fun K ρ H l a=>∃us,H l=some (.dK us)∧bL K ρ H us a
 mono:=fun⟨vs,e,r⟩ T q=>⟨vs,q.trans e,r.mono T⟩
noncomputable def mD(k v:EM):MK (List (Key×D)):=fun δ h a=>(k δ h).bind fun p=>(v δ p.2).bind fun q=>(rh p.1).bind fun kk=>if a.length < sizeLine then some (δ,q.2,putD a kk q.1) else none
theorem oC.put{K:FR}(T:dP ρ H ρ1 H1)(hl:l∈ρ.rs):oC l ρ H ρ1 (upd H1 l o):=by
 have hl1:l∈ρ1.rs:=by rw[T.rs];exact hl
 exact⟨T.toCh.trans (Ch.put hl1),T.rs,fun b hb n=>(aP n).trans (T.res b hb)⟩
theorem bL.len{K:FR}{ρ:Ad}{H:Hp}:∀{us:List (Key×V)} {ks:List (Key×D)},bL K ρ H us ks->us.length=ks.length
 | _,_,.nil=>rfl
 | _,_,.cons _ r=>by rw[QI,QI,r.len]
theorem BC(hk:SE X k mk)(hv:SE X v mv):Qh X (fun l env=>nX k v l env) NI (mD mk mv):=fun l=>(Hk hk hv).imp fun τ H N ⟨ρ,δ,h,a,δ',h',a',R,S,hl,⟨vs,hv,rl⟩,e,kk⟩=>by
 obtain⟨⟨x,h1⟩,e1,e2⟩:=bS e;obtain⟨⟨y,h2⟩,e3,e4⟩:=bS e2;obtain⟨c,e5,e6⟩:=bS e4;dsimp only at e3 e5 e6
 by_cases hz:a.length < sizeLine
 ·rw[Qp hz] at e6;cases e6;refine⟨ρ,δ,h,x,h1,R,S,e1,fun u H1 ⟨ρ1,T1,S1,r1⟩=>⟨ρ1,δ,h1,y,_,R.mono T1.toCh,S1,e3,fun u2 H2 ⟨ρ2,T2,S2,r2⟩=>⟨vs,c,((T1.trans T2).res l hl).trans hv,lg r1 e5,by rw[rl.len];exact hz,?_⟩⟩⟩;have T:=T1.trans T2;have hl2:l∈ρ2.rs:=by rw[T.rs];exact hl
  have Cp:Ch ρ2 H2 ρ2 (upd H2 l (.dK (putK vs c u2))):=Ch.put hl2;exact kk ρ2 _ τ (oC.put (K:=X.K) T hl) (S2.put hl2) ((R.mono T.toCh).mono Cp) ⟨_,bj,((rl.mono T.toCh).put r2).mono Cp⟩
 ·rw[Qu hz] at e6;cases e6
end Sm
namespace L2
open PySem PySem.Spec PyProof.Rows
theorem Inv.draw(I:Inv X pins σ H s)(d:Drawn):Inv X pins σ H {s with drawn:=d}:=⟨I.ok,I.os,I.bare,I.base,I.loc,I.cell,I.free,I.kJ,I.pin,I.bI,I.len⟩
theorem oN:∀{us:List Value} {ss:List Str},StrsAre us ss->Vals (ss.map V.str) us
 | _,_,.nil=>.nil
 | _,_,.cons x t r=>.cons ⟨t,rfl⟩ (oN r)
end L2
namespace Sm
open PySem L2 PySem.Spec PyProof.Rows
noncomputable def Jj{α:Type}(caps:List (Option Nat))(i:IM)(g:GM)(c:TM)(m:MK α)(a0:α)(out:α->D):EM:=fun δ h=>(i δ h).bind fun p=>(i9 p.2.1 g c m p.1 (gF caps δ) p.2.2 a0).map fun q=>(out q.2.2,q.2.1)
section
variable {α:Type} {K:FR} {A:Ac α} {g:GM} {mt:TM} {m:MK α}
theorem Kb(h0:∀ρ H l,A.at_ K ρ (upd H l (o l)) l a0)(hout:∀ρ H l a,A.at_ K ρ H l a->¬ρ.has l->Rep K ρ H (.ref l) (out a))(hh:tM K (Jj caps mi g mt m a0 out) σ H Q):r8 caps (Mc K mi) o (D3 K g) (BA K mt) (fun l=>JF K A l m) σ H Q:=by
 obtain⟨ρ,δ,h,d,h',R,S,ee,k⟩:=hh;obtain⟨⟨xs,ws,h1⟩,e1,e2⟩:=bS ee;obtain⟨⟨δ',h2,a'⟩,e3,e4⟩:=gL e2;cases e4;exact Er h0 ⟨ρ,δ,h,xs,ws,h1,δ',_,a',R,S,e1,e3,fun l ρ' H' T S' n at'=>k _ _ ⟨ρ',T,S',hout _ _ _ _ at' n⟩⟩
theorem I8{caps:List (Option Nat)}{mi:IM}{m:MK (List (Key×D))}{σ:L2.St}{H:Hp}{Q:VK}(hh:tM K (Jj caps mi g mt m [] .dv) σ H Q):r8 caps (Mc K mi) (fun _=>.dK []) (D3 K g) (BA K mt) (fun l=>JF K NI l m) σ H Q:=
 Kb (A:=NI) (o:=fun _=>.dK []) (a0:=[]) (out:=.dv) (fun ρ H l=>show ∃us,_ from⟨[],bj,.nil⟩) (fun ρ H l a h n=>by obtain⟨us,e,r⟩:=h;exact .dv e n r) hh
end
theorem GW{X:Cx}{i:Nat}{m:EM}{t:TE}{E:Ends}{σ:L2.St}{H:Hp}(hh:D2 X.K (bg i m) E σ H)(imp:∀σ H Q,tM X.K m σ H Q->t σ H Q):Cr t (qx i) E σ H:=imp _ _ _ (Ab hh)
section
variable {X:Cx} {k v tg iter elt tg2 iter2:Expr} {pos:Pos} {mk mv me:EM} {mt mt2:TM} {g g2:GM} {N':List Str} {caps:List (Option Nat)} {scope:Scope} {ifs ifs2:List Expr} {mi mi2:IM}
theorem Eg(C:bA X N' caps scope)(hc:X.calm=true)(hi:SI X tg iter mi)(hg:∀C s₃ H₃ fp pl,SG (gG X N' scope C s₃ H₃ fp pl) tg g)(hif:∀C s₃ H₃ fp pl,Mj (gG X N' scope C s₃ H₃ fp pl) ifs mt)
  (hk:∀C s₃ H₃ fp pl,SE (gG X N' scope C s₃ H₃ fp pl) k mk) (hv:∀C s₃ H₃ fp pl,SE (gG X N' scope C s₃ H₃ fp pl) v mv) (hs:∀x,foldedSetIterable iter X.env x=pure x:=by intro _;ac_nf):
  SE X (.DictComp k v [⟨tg,iter,ifs,0⟩] scope pos) (Jj caps mi g mt (mD mk mv) [] .dv):=
 (EU (g:=D3 X.K g) (tc:=BA X.K mt) (tm:=fun l=>JF X.K NI l (mD mk mv)) C hc (sO ..) rfl (fun it l env=>rY ..) vB hi hg hif (fun C s₃ H₃ fp pl l=>BC (hk C s₃ H₃ fp pl) (hv C s₃ H₃ fp pl) l) rfl hs).imp fun _ _ _=>
  I8
theorem D8(hN:X.N.Nodup)(hi':X.N[i]?=some y)(hy:X.env.scope.names.lookup y=some .local)(C:bA X N' caps scope)(hc:X.calm=true)(hi:SI X tg iter mi)(hg:∀C s₃ H₃ fp pl,SG (gG X N' scope C s₃ H₃ fp pl) tg g)(hif:∀C s₃ H₃ fp pl,Mj (gG X N' scope C s₃ H₃ fp pl) ifs mt)(hk:∀C s₃ H₃ fp pl,SE (gG X N' scope C s₃ H₃ fp pl) k mk)(hv:∀C s₃ H₃ fp pl,SE (gG X N' scope C s₃ H₃ fp pl) v mv)(hsw:swapsWith (.DictComp k v [⟨tg,iter,ifs,0⟩] scope pos) (some (.Name y py)) spos.line X.env=pure true:=by ac_nf)(hs:∀x,foldedSetIterable iter X.env x=pure x:=by intro _;ac_nf):
  SS X (.Assign [.Name y py] (.DictComp k v [⟨tg,iter,ifs,0⟩] scope pos) spos) (bg i (Jj caps mi g mt (mD mk mv) [] .dv)):=
 (EI (g:=D3 X.K g) (tc:=BA X.K mt) (tm:=fun l=>JF X.K NI l (mD mk mv)) hN hi' hy C hc (sO ..) rfl (fun it l env=>rY ..) vB hi hg hif (fun C s₃ H₃ fp pl l=>BC (hk C s₃ H₃ fp pl) (hv C s₃ H₃ fp pl) l) (fun _=>rfl) hsw hs).imp fun E σ H hh=>
  GW hh fun _ _ _=>I8
theorem pv{K:FR}{ρ:Ad}{H:Hp}:∀(ss:List Str),(∀k∈ss,PyData.strOk k=true)->aI K ρ H (ss.map V.str) (ss.map D.str)
 | [],_=>.nil
 | x::r,h=>.cons (.str (h x Qv)) (pv r fun k hk=>h k (Qs _ hk))
end
end Sm
namespace L2
open PySem PySem.Spec PyProof.Rows
section
variable {X:Cx} {e st:Expr} {te ts:TE} {pos p2:Pos}
end
end L2
namespace Sm
open PySem L2 PySem.Spec PyProof.Rows
section
variable {X:Cx} {e st a b c:Expr} {ma ms mb mc:EM} {pos p2:Pos}
abbrev L8:=DS->MH->Option (List (Key×D)×MH)
noncomputable def KR:L8:=fun _ h=>some ([],h)
noncomputable def iY(k v:EM)(r:L8):L8:=fun δ h=>(k δ h).bind fun p=>(v δ p.2).bind fun q=>(rh p.1).bind fun kk=>(r δ q.2).map fun z=>((kk,q.1)::z.1,z.2)
inductive NL(K:FR)(m:L8)(σ:L2.St)(H:Hp)(Q:List (V×V)->Hp->Prop):Prop where
 | mk (ρ δ h kvs h'):c7 K ρ H σ δ->cx K ρ h H->(m δ h=some (kvs,h'))->(∀us ρ' H',dP ρ H ρ' H'->cx K ρ' h' H'->bL K ρ' H' us kvs->Q (us.map fun kv=>(kV kv.1,kv.2)) H')->NL K m σ H Q
def P4(K:FR)(m:L8):L2.St->Hp->(List (V×V)->Hp->Prop)->Prop:=fun σ H Q=>NL K m σ H Q
def SP(X:Cx)(pos:Pos)(keys:List (Option Expr))(vals:List Expr)(m:L8):Prop:=∃trs,Mk X pos keys vals trs∧∀σ H Q,P4 X.K m σ H Q->wz trs σ H Q
theorem JM:SP X pos [] [] KR:=⟨[],Hh,fun σ H Q ⟨ρ,δ,h,kvs,h',R,S,e,k⟩=>by
 cases e;exact k [] ρ H (.refl _ _) S .nil⟩
theorem kX(hk:SE X kx mk)(hv:SE X vx mv)(hr:SP X pos ks vs m):SP X pos (some kx::ks) (vx::vs) (iY mk mv m):=by
 obtain⟨trs,h1,h2⟩:=hr;refine⟨_,EK hk hv h1,fun σ H Q ⟨ρ,δ,h,kvs,h',R,S,ee,k⟩=>?_⟩;obtain⟨⟨x,ha⟩,e1,e2⟩:=bS ee;obtain⟨⟨y,hb⟩,e3,e4⟩:=bS e2;obtain⟨kk,e5,e6⟩:=bS e4;obtain⟨⟨zs,hz⟩,e7,e8⟩:=gL e6;cases e8;refine⟨ρ,δ,h,x,ha,R,S,e1,fun v H1 ⟨ρ1,T1,S1,r1⟩=>⟨ρ1,δ,ha,y,hb,R.mono T1.toCh,S1,e3,fun u H2 ⟨ρ2,T2,S2,r2⟩=>?_⟩⟩;refine h2 σ H2 _ ⟨ρ2,δ,hb,zs,_,(R.mono T1.toCh).mono T2.toCh,S2,e7,fun us ρ3 H3 T3 S3 r3=>?_⟩;have ek:=lg r1 e5;subst ek;exact k ((kk,u)::us) ρ3 H3 ((T1.trans T2).trans T3) S3 (.cons (r2.mono T3.toCh) r3)
end
end Sm
namespace L2
open PySem PySem.Spec PyProof.Rows
open HT in
theorem Co{t sl:Addr}{items:Array Value}{vl vu:Value}{lo hi:Option Int}{Q:Value->Shared->Prop}(ht:IsTup s.heap t items)(hs:s.heap.IsSliceOf sl vl vu .none)(pl:IsPart vl lo)(pu:IsPart vu hi)
  (hw:dD items.size 0 lo=0∧dD items.size items.size hi=items.size) (h:Q (.ref t) s):wpAny (model prog w) A (getItem (.ref t) (.ref sl)) Q E s:=by
 obtain⟨os,hos,hcs,hds⟩:=id hs;have hTs:s.TypeIs (.ref sl) "slice":=⟨os,hos,hcs⟩;unfold getItem
 try with_reducible refine Q9 ?_
 first | refine Qj (Qm ?_) | skip
 refine Qj (wpAny_sequenceKey ht.typeIs (by decide) ?_);refine Qj (Rj (name:=Str.ofString "__getitem__") ht.typeIs Rx (Rh Rx ht.typeIs entry_tuple_getitem ?_ (args_tuple_getitem _ _)));show wpAny _ _ (Builtin.Tuple.tupleItemsOf (.ref t) >>=_) _ _ s;refine Qj (tupleItemsOf_ ht (Qj (Ua hTs ?_)));rw[Qp (by decide)];refine Qj (iW hs pl pu ?_);show wpAny _ _ (if(((dD items.size 0 lo:Nat):Int)==0&&(1:Int)==1&&(dD items.size items.size hi-dD items.size 0 lo)==items.size)=true then _ else _) _ _ s;rw[Qp (by rw[hw.1,hw.2];simp)];unfold Builtin.Tuple.tupleIsExact;simp only[bind_assoc,pure_bind];refine Qj (Ua ht.typeIs ?_);rw[Qp (by decide)]
 first
  | exact Qj (RU (Qm ⟨_,rfl,Qm h⟩))
  | exact Qj (RU (Qj (Qm (Qm ⟨_,rfl,Qm h⟩))))
def OP(K:FR):V->Option Int->Option Int->Hp->VK->Prop:=fun x lo hi H Q=>∃a xs,x=.ref a∧jS K H a xs∧(HT.dD xs.length 0 lo=0∧HT.dD xs.length xs.length hi=xs.length)∧Q (.ref a) H
theorem D9:L5 X (OP X.K):=by
 intro pins s σ H x v vl vu lo hi sl Q I rx hs pl pu h;obtain⟨a,xs,rfl,hx,hw,q⟩:=h;cases rx;obtain⟨its,r,ht,hz⟩:=I.tuple hx;have hlen:its.toArray.size=xs.length:=by rw[QA];exact r.length.symm
 exact⟨"tuple",_,Rx.lookup,ht.typeIs,Co ht hs pl pu (by rw[hlen];exact hw) ⟨.ref a,H,I,rfl,q⟩⟩
end L2
namespace Sm
open PySem L2 PySem.Spec PyProof.Rows
section
variable {X:Cx}
noncomputable def zd(d:D)(lo hi:Option Int)(h:MH):Option (D×MH):=match d with
 | .tup xs=>if HT.dD xs.length 0 lo=0∧HT.dD xs.length xs.length hi=xs.length then some (.tup xs,h) else some (.tup (cutD xs lo hi),h)
 | d=>Lz d lo hi h
noncomputable def uV(a:EM)(l u:PM):EM:=fun δ h=>(a δ h).bind fun p=>(l δ p.2).bind fun q=>(u δ q.2).bind fun r=>zd p.1 q.1 r.1 r.2
inductive Jo(K:FR)(x:V)(lo hi:Option Int)(H:Hp)(Q:VK):Prop where
 | mk (ρ h d z h'):cx K ρ h H->Rep K ρ H x d->(zd d lo hi h=some (z,h'))->(∀v H',fc K ρ H h' z v H'->Q v H')->Jo K x lo hi H Q
def OT(K:FR):V->Option Int->Option Int->Hp->VK->Prop:=fun x lo hi H Q=>Jo K x lo hi H Q
theorem JI:L5 X (OT X.K):=by
 intro pins s σ H x v vl vu lo hi sl Q I rx hs pl pu hh;obtain⟨ρ,h,d,z,h',S,rd,ee,k⟩:=hh;cases d with
 | tup xs=>
  unfold zd at ee;dsimp only at ee
  by_cases c:HT.dD xs.length 0 lo=0∧HT.dD xs.length xs.length hi=xs.length
  ·rw[Qp c] at ee;cases ee;have rd0:=rd;cases rd with | tup h0 l0=>
   exact D9 pins s σ H _ v vl vu lo hi sl Q I rx hs pl pu ⟨_,_,rfl,h0.sq,by rw[l0.length];exact c,k _ _ (.here S rd0)⟩
  ·rw[Qu c] at ee;exact IY pins s σ H x v vl vu lo hi sl Q I rx hs pl pu ⟨ρ,h,_,z,h',S,rd,by unfold Lz;dsimp only;rw[Qu c];exact ee,k⟩
 | _=>exact IY pins s σ H x v vl vu lo hi sl Q I rx hs pl pu ⟨ρ,h,_,z,h',S,rd,ee,k⟩
theorem oW{a:Expr}{lo hi:Option Expr}{pos p2:Pos}{ma:EM}{ml mu:PM}(ha:SE X a ma)(hl:SP' X lo ml)(hu:SP' X hi mu):SE X (.Subscript a (.Slice lo hi none p2) pos) (uV ma ml mu):=
 (ER JI ha hl hu).imp fun σ H Q ⟨ρ,δ,h,d,h',R,S,e,k⟩=>by
  obtain⟨⟨x,h1⟩,e1,e2⟩:=bS e;obtain⟨⟨l,h2⟩,e3,e4⟩:=bS e2;obtain⟨⟨u,h3⟩,e5,e6⟩:=bS e4;exact⟨ρ,δ,h,x,h1,R,S,e1,fun v H1 ⟨ρ1,T1,S1,r1⟩=>⟨ρ1,δ,h1,l,h2,R.mono T1.toCh,S1,e3,fun ρ2 H2 T2 S2=>⟨ρ2,δ,h2,u,h3,(R.mono T1.toCh).mono T2.toCh,S2,e5,fun ρ3 H3 T3 S3=>
   ⟨ρ3,h3,x,d,h',S3,r1.mono (T2.trans T3).toCh,e6,fun w H4 p=>k w H4 (p.step (T1.trans (T2.trans T3)))⟩⟩⟩⟩
noncomputable def zf:Fn:=fun ds h=>match ds with
 | [.bl b]=>some (.int (if b then 1 else 0),h)
 | _=>none
theorem Bb:gI X (.type "int") zf:=by
 intro pins s σ H xs us Q I r hh;obtain⟨ρ,h,ds,z,h',S,l,ee,k⟩:=hh
 match ds,l,ee with
 | [],_,ee=>cases ee
 | _::_::_,_,ee=>exact absurd ee (by unfold zf;split <;> simp_all)
 | [d],l,ee=>
  obtain⟨v,rfl,rd⟩:=rep1 l;cases rd <;> first |(cases ee;done) | skip
  cases ee;obtain⟨u,rfl,ru⟩:=Vals.one r;cases ru;exact call_int_bool ⟨.int _,H,I.kept (t':=s.toks+1) (h':=s.heap) fun _ _ e=>e,⟨_,rfl⟩,k _ _ (.here S (.int _))⟩
noncomputable def i6(d e:D)(h:MH):Option (D×MH):=match d,e with
 | .str x,.int n=>if x.length≤1000∧0≤n∧n≤1000∧PyData.strOk (Txt.mul x n)=true then some (.str (Txt.mul x n),h) else none
 | d,e=>LA d e h
theorem iw:oJ X (binaryOp .Mult) i6:=by
 intro pins s σ H x y v u Q I rx ry hh;obtain⟨ρ,h,d,e,z,h',S,rd,re,ee,k⟩:=hh;unfold i6 at ee
 split at ee
 ·rename_i x0 n
  by_cases c:x0.length≤1000∧0≤n∧n≤1000∧PyData.strOk (Txt.mul x0 n)=true
  ·rw[Qp c] at ee;cases ee;cases rd;cases re;obtain⟨t1,rfl⟩:=rx;obtain⟨t2,rfl⟩:=ry;obtain⟨c1,c2,c3,c4⟩:=c;refine SB.mul ⟨?_,fun _ _=>?_,fun _ _=>?_⟩ fun t' k'=>⟨.str _,H,I.kept (t':=k') (h':=s.heap) fun _ _ e=>e,⟨t',rfl⟩,k _ _ (.here S (.str c4))⟩
   ·rw[Q7 (by lia),Q7 (by lia)];rfl
   ·have h1:(9007199254740991:Int)≤(2^63-1) / n:=by
     refine Int.le_ediv_of_mul_le (by lia) ?_;have:9007199254740991*n≤9007199254740991*1000:=Int.mul_le_mul_of_nonneg_left c3 (by decide)
     lia
    lia
   ·have h1:x0.length*n.toNat≤1000*1000:=Nat.mul_le_mul c1 (by lia);refine Q7 ?_;have:=Q4
    lia
  ·rw[Qu c] at ee;cases ee
 ·exact KS pins s σ H x y v u Q I rx ry ⟨ρ,h,_,_,z,h',S,rd,re,ee,k⟩
noncomputable def hZ(f f':D->D->MH->Option (D×MH))(ma mb mc:EM):EM:=fun δ h=>(ma δ h).bind fun p=>(mb δ p.2).bind fun q=>(f p.1 q.1 q.2).bind fun r=>match r.1 with
 | .bl true=>(mc δ r.2).bind fun u=>f' q.1 u.1 u.2
 | .bl false=>some (.bl false,r.2)
 | _=>none
theorem yD(hh:tM X.K (hZ f f' ma mb mc) σ H Q):zO (rS X.K f) (rS X.K f') (tM X.K ma) (tM X.K mb) (tM X.K mc) σ H Q:=by
 obtain⟨ρ,δ,h,d,h',R,S,ee,k⟩:=hh;obtain⟨⟨x,h1⟩,e1,e2⟩:=bS ee;obtain⟨⟨y,h2⟩,e3,e4⟩:=bS e2;obtain⟨⟨z,h3⟩,e5,e6⟩:=bS e4;dsimp only at e3 e5 e6;refine⟨ρ,δ,h,x,h1,R,S,e1,fun v H1 ⟨ρ1,T1,S1,r1⟩=>⟨ρ1,δ,h1,y,h2,R.mono T1.toCh,S1,e3,fun u H2 ⟨ρ2,T2,S2,r2⟩=>⟨ρ2,h2,x,y,z,h3,S2,r1.mono T2.toCh,r2,e5,fun w H3 ⟨ρ3,T3,S3,r3⟩=>?_⟩⟩⟩;cases z with
 | bl b=>
  cases r3;refine⟨b,rfl,?_⟩;cases b with
  | false=>
   cases e6;exact Lr (k _ _ (fc.step (T1.trans (T2.trans T3)) (.here S3 (.bl false))))
  | true=>
   obtain⟨⟨u',h4⟩,e7,e8⟩:=bS e6;have T:=T1.trans (T2.trans T3);exact Lq ⟨ρ3,δ,h3,u',h4,R.mono T.toCh,S3,e7,fun v' H4 ⟨ρ4,T4,S4,r4⟩=>⟨ρ4,h4,y,u',d,h',S4,r2.mono (T3.trans T4).toCh,r4,e8,fun w' H5 P=>k w' H5 (P.step (T.trans T4))⟩⟩
 | _=>cases e6
theorem Eh(ho:oJ X (compareOp op) f)(ho':oJ X (compareOp op') f')(ha:SE X a ma)(hb:SE X b mb)(hc:SE X c mc)(hm:lastMarks [op,op'] [b,c]=false:=by with_unfolding_all rfl):
  SE X (.Compare a [op,op'] [b,c] pos) (hZ f f' ma mb mc):=(EV ho ho' ha hb hc hm).imp fun _ _ _=>yD
theorem sf(ho:oJ X (compareOp op) f)(ho':oJ X (compareOp op') f')(ha:SE X a ma)(hb:SE X b mb)(hc:SE X c mc)(hm:lastMarks [op,op'] [b,c]=false:=by with_unfolding_all rfl):
  ST X (.Compare a [op,op'] [b,c] pos) (aL (hZ f f' ma mb mc)):=(EE ho ho' ha hb hc hm).imp fun σ H Q h=>yD (GY h)
end
end Sm
namespace L2
open PySem PySem.Spec PyProof.Rows
open HT in
section
variable {X:Cx} {e st:Expr} {te ts:TE} {pos p2:Pos}
end
end L2
namespace Sm
open PySem L2 PySem.Spec PyProof.Rows
section
variable {X:Cx} {e st:Expr} {ma ms:EM} {pos p2:Pos}
end
end Sm
namespace L2
open PySem PySem.Spec PyProof.Rows
open HT in
theorem FX{t b:Addr}{vs ws:List Value}{Q:Value->Shared->Prop}(ht:IsTup s.heap t vs.toArray)(hb:IsTup s.heap b ws.toArray)(hv:vs=[])(h:Q (.ref b) s):wpAny (model prog w) A (binaryOp .Add (.ref t) (.ref b)) Q E s:=by
 obtain⟨⟨cls,dd,data,sl⟩,ho,hc,n,hd⟩:=id ht;obtain⟨⟨cls2,dd2,data2,sl2⟩,ho2,hc2,n2,hd2⟩:=id hb;simp only at hc hd hc2 hd2;subst hc hd hc2 hd2;exact concat_meets ⟨_,ho,rfl⟩ ⟨_,ho2,rfl⟩ Vj VS Ur Uh (Uc _ _)
   (tuple_addW0 t b vs.toArray ws.toArray n n2 dd dd2 sl sl2 (by simp[hv])) ⟨ho,ho2,h⟩
theorem EZ:lX X (binaryOp .Add) (fun x y H Q=>∃a b ys,x=.ref a∧y=.ref b∧jS X.K H a []∧jS X.K H b ys∧Q (.ref b) H):=by
 intro pins s σ H x y v u Q I rx ry h;obtain⟨a,b,ys,rfl,rfl,ha,hb,q⟩:=h;cases rx;cases ry;obtain⟨its,r1,p1,_⟩:=I.tuple ha;obtain⟨its2,r2,p2,_⟩:=I.tuple hb;exact FX p1 p2 (r1.rK.mpr rfl) ⟨.ref b,H,I,rfl,q⟩
end L2
namespace Sm
open PySem L2 PySem.Spec PyProof.Rows
noncomputable def bp(d e:D)(h:MH):Option (D×MH):=match d,e with
 | .tup [],.tup ys=>some (.tup ys,h)
 | d,e=>Dl d e h
theorem aS:oJ X (binaryOp .Add) bp:=by
 intro pins s σ H x y v u Q I rx ry hh;obtain⟨ρ,h,d,e,z,h',S,rd,re,ee,k⟩:=hh;unfold bp at ee
 split at ee
 ·cases ee;have re0:=re;cases rd with | tup h1 l1=>cases re with | tup h2 l2=>
  cases l1;exact EZ pins s σ H _ _ v u Q I rx ry ⟨_,_,_,rfl,rfl,h1.sq,h2.sq,k _ _ (.here S re0)⟩
 ·exact KW pins s σ H _ _ v u Q I rx ry ⟨ρ,h,_,_,z,h',S,rd,re,ee,k⟩
noncomputable def Fw:Fn:=fun ds h=>match ds with
 | [.int i,.int j]=>some (.int (if j < i then j else i),h)
 | _=>none
noncomputable def xJ:Fn:=fun ds h=>match ds with
 | [.int i,.int j]=>some (.int (if j > i then j else i),h)
 | _=>none
theorem LJ(hc:X.calm=true):gI X (.builtin "min") Fw:=by
 intro pins s σ H xs us Q I r hh;obtain⟨ρ,h,ds,z,h',S,l,ee,k⟩:=hh
 match ds,l,ee with
 | [],_,ee=>cases ee
 | [_],_,ee=>exact absurd ee (by unfold Fw;split <;> simp_all)
 | _::_::_::_,_,ee=>exact absurd ee (by unfold Fw;split <;> simp_all)
 | [d,e],l,ee=>
  obtain⟨v,w,rfl,rd,re⟩:=rep2 l;cases rd <;> first |(cases ee;done) | skip
  cases re <;> first |(cases ee;done) | skip
  cases ee;exact Dx hc pins s σ H _ us Q I r ⟨_,_,rfl,k _ _ (.here S (.int _))⟩
theorem tU(hc:X.calm=true):gI X (.builtin "max") xJ:=by
 intro pins s σ H xs us Q I r hh;obtain⟨ρ,h,ds,z,h',S,l,ee,k⟩:=hh
 match ds,l,ee with
 | [],_,ee=>cases ee
 | [_],_,ee=>exact absurd ee (by unfold xJ;split <;> simp_all)
 | _::_::_::_,_,ee=>exact absurd ee (by unfold xJ;split <;> simp_all)
 | [d,e],l,ee=>
  obtain⟨v,w,rfl,rd,re⟩:=rep2 l;cases rd <;> first |(cases ee;done) | skip
  cases re <;> first |(cases ee;done) | skip
  cases ee;exact Dy hc pins s σ H _ us Q I r ⟨_,_,rfl,k _ _ (.here S (.int _))⟩
end Sm
namespace L2
open PySem PySem.Spec PyProof.Rows
section
variable {X:Cx} {a b:Expr} {rest:List Expr} {pos:Pos} {ta tb:TE}
end
end L2
namespace Sm
open PySem L2 PySem.Spec PyProof.Rows
section
variable {X:Cx} {a b:Expr} {pos:Pos} {ma mb:EM}
end
end Sm
namespace L2
open PySem PySem.Spec PyProof.Rows
end L2
namespace Sm
open PySem L2 PySem.Spec PyProof.Rows
theorem LS:bootBuiltins "min"=some (.builtin "min"):=by decide+kernel
theorem t9:bootBuiltins "max"=some (.builtin "max"):=by decide+kernel
section
variable {X:Cx} {g:GM} {mt:TM} {ma:EM}
end
end Sm
namespace L2
open PySem PySem.Spec PyProof.Rows
theorem Hy:lX X (compareOp .IsNot) (fun x y H Q=>∃a b,x=.bl a∧y=.bl b∧Q (.bl (!(a==b))) H):=by
 intro pins s σ H x y v u Q I rx ry h;obtain⟨a,b,rfl,rfl,q⟩:=h;cases rx;cases ry;cases a <;> cases b <;> exact Qm ⟨.bl _,H,I,(by decide:(_:Value)=_),q⟩
theorem iU:∀{ss:List Str} {us:List Value},Vals (ss.map V.str) us->StrsAre us ss
 | [],_,.nil=>.nil
 | x::r,_,.cons q l=>by obtain⟨t,rfl⟩:=q;exact .cons x t (iU l)
theorem Bk:fe X (.builtin "sorted") (fun xs H Q=>∃a ss,xs=[.ref a]∧gH X.K H a (ss.map V.str)∧ss.length < 64∧∀l,H l=none->Q (.ref l) (upd H l (.lst ((cH ss).map V.str)))):=by
 intro pins s σ H xs us Q I r h;obtain⟨a,ss,rfl,ha,h64,q⟩:=h;obtain⟨u,rfl,ru⟩:=vals1 r;cases ru;obtain⟨its,rv,p,hz⟩:=I.list ha;have hS:=iU rv;have hlen:its.length=ss.length:=by have:=rv.length;rw[Qk] at this;exact this.symm
 refine sorted_strs p.isList hS (by lia) fun out ss' h1 h2 h3=>?_;have:=yk h2 h3;subst this;have hl:s.heap.objs.size≤s.heap.objs.size+1:=T9 _;obtain⟨e,ho⟩:=sortedAll_at s.heap its out;have hz':((cH ss).map V.str).length≤sizeLine:=by rw[Qk,(bD ss).length_eq,Q4];lia
 refine⟨.ref (s.heap.objs.size+1),_,I.laid (t':=s.toks) (o:=.lst ((cH ss).map V.str)) (fun b o q=>sortedAll_old q) hl ⟨hz',out.toList,e,oN h1,?_⟩,rfl,q _ (I.bI.fresh hl)⟩;rw[ho]
end L2
namespace Sm
open PySem L2 PySem.Spec PyProof.Rows
noncomputable def Jg(d e:D)(h:MH):Option (D×MH):=match d,e with
 | .bl a,.bl b=>some (.bl (!(a==b)),h)
 | _,_=>none
theorem Hx:oJ X (compareOp .IsNot) Jg:=by
 intro pins s σ H x y v u Q I rx ry hh;obtain⟨ρ,h,d,e,z,h',S,rd,re,ee,k⟩:=hh;cases rd <;> first |(cases ee;done) | skip
 cases re <;> first |(cases ee;done) | skip
 cases ee;exact Hy pins s σ H _ _ v u Q I rx ry ⟨_,_,rfl,rfl,k _ _ (.here S (.bl _))⟩
noncomputable def lR:List D->Option (List Int)
 | []=>some []
 | .int i::r=>(lR r).map fun is=>i::is
 | _=>none
theorem tI:∀{xs:List D} {ns:List Int},lR xs=some ns->xs=ns.map D.int
 | [],_,e=>by cases e;rfl
 | d::r,ns,e=>by
  cases d <;> first |(cases e;done) | skip
  obtain⟨is,e1,e2⟩:=gL (show(lR r).map _=some ns from e);cases e2;rw[tI e1];rfl
theorem vQ:∀(ns:List Int),lR (ns.map D.int)=some ns
 | []=>rfl
 | n::r=>by show(lR (r.map D.int)).map _=_;rw[vQ r];rfl
theorem mE{K:FR}{ρ:Ad}{H:Hp}:∀{vs:List V} {ns:List Int},aI K ρ H vs (ns.map D.int)->vs=ns.map V.int
 | _,[],.nil=>rfl
 | _,n::r,.cons q l=>by cases q;rw[mE l];rfl
noncomputable def jV:List D->Option (List Str)
 | []=>some []
 | .str i::r=>(jV r).map fun is=>i::is
 | _=>none
theorem nq:∀{xs:List D} {ns:List Str},jV xs=some ns->xs=ns.map D.str
 | [],_,e=>by cases e;rfl
 | d::r,ns,e=>by
  cases d <;> first |(cases e;done) | skip
  obtain⟨is,e1,e2⟩:=gL (show(jV r).map _=some ns from e);cases e2;rw[nq e1];rfl
theorem iV:∀(ns:List Str),jV (ns.map D.str)=some ns
 | []=>rfl
 | n::r=>by show(jV (r.map D.str)).map _=_;rw[iV r];rfl
theorem jr{K:FR}{ρ:Ad}{H:Hp}:∀{vs:List V} {ns:List Str},aI K ρ H vs (ns.map D.str)->vs=ns.map V.str∧∀k∈ns,PyData.strOk k=true
 | _,[],.nil=>⟨rfl,fun _ h=>(nomatch h)⟩
 | _,n::r,.cons q l=>by
  cases q with
  | str h=>
   obtain⟨e,f⟩:=jr l;refine⟨by rw[e];rfl,fun k hk=>?_⟩;rcases QK.mp hk with rfl | hk
   ·exact h
   ·exact f k hk
noncomputable def AR:Fn:=fun ds h=>match ds with
 | [d]=>(gM d h).bind fun xs=>(jV xs).bind fun ns=>if ns.length < 64 then some (.lv ((cH ns).map D.str),h) else none
 | _=>none
theorem zl:gI X (.builtin "sorted") AR:=by
 intro pins s σ H xs us Q I r hh;obtain⟨ρ,h,ds,z,h',S,l,ee,k⟩:=hh
 match ds,l,ee with
 | [],_,ee=>cases ee
 | _::_::_,_,ee=>cases ee
 | [d],l,ee=>
  obtain⟨v,rfl,rd⟩:=rep1 l;obtain⟨ys,e1,e2⟩:=bS ee;obtain⟨ns,e3,e4⟩:=bS e2
  by_cases c:ns.length < 64
  ·rw[Qp c] at e4;cases e4;obtain⟨a,vs,rfl,ha,la⟩:=fk S rd e1;have:=nq e3;subst this;obtain⟨e5,f⟩:=jr la;subst e5;refine Bk pins s σ H _ us Q I r ⟨a,ns,rfl,gH.of ha,c,fun l hl=>k _ _ (.lv S (pv _ fun x hx=>f x ((bD ns).mem_iff.mp hx)) hl)⟩
  ·rw[Qu c] at e4;cases e4
section
variable {α:Type} {K:FR} {A:Ac α} {l:Addr} {g:GM} {mt:TM} {m:MK α}
mutual
theorem Rep.calm(hs:∀a,ρ'.has a->ρ.has a){v:V}{d:D}(r:Rep K ρ H v d)(c:i8 0 d=true):Rep K ρ' H v d:=by
 cases r with
 | cN=>exact .cN
 | bl b=>exact .bl b
 | int i=>exact .int i
 | str h=>exact .str h
 | ty n=>exact .ty n
 | tup h l=>exact .tup (h.elim (fun⟨a,n⟩=>.inl ⟨a,fun z=>n (hs _ z)⟩) .inr) (aI.calm hs l c)
 | lv h n l=>exact .lv h (fun z=>n (hs _ z)) (aI.calm hs l c)
 | ro h l=>exact .ro (h.elim (fun⟨a,n⟩=>.inl ⟨a,fun z=>n (hs _ z)⟩) .inr) (aI.calm hs l c)
 | dv h n l=>exact .dv h (fun z=>n (hs _ z)) (bL.calm hs l c)
 | ob e=>simp[i8] at c
theorem aI.calm(hs:∀a,ρ'.has a->ρ.has a){vs:List V}{ds:List D}(r:aI K ρ H vs ds)(c:gz 0 ds=true):aI K ρ' H vs ds:=by
 cases r with
 | nil=>exact .nil
 | cons r l=>have c:=Q1.mp c;exact .cons (Rep.calm hs r c.1) (aI.calm hs l c.2)
theorem bL.calm(hs:∀a,ρ'.has a->ρ.has a){vs:List (Key×V)}{ds:List (Key×D)}(r:bL K ρ H vs ds)(c:Iu 0 ds=true):bL K ρ' H vs ds:=by
 cases r with
 | nil=>exact .nil
 | cons r l=>have c:=Q1.mp c;exact .cons (Rep.calm hs r c.1) (bL.calm hs l c.2)
end
end
section
variable {X:Cx} {k v tg iter:Expr} {pos:Pos} {mk mv:EM} {mt:TM} {g:GM} {N':List Str} {caps:List (Option Nat)} {scope:Scope} {ifs:List Expr} {mi:IM}
end
theorem lr:bootBuiltins "sorted"=some (.builtin "sorted"):=by decide+kernel
end Sm
namespace L2
open PySem PySem.Spec PyProof.Rows
end L2
namespace Sm
open PySem L2 PySem.Spec PyProof.Rows
end Sm
namespace L2
open PySem PySem.Spec PyProof.Rows
end L2
namespace Sm
open PySem L2 PySem.Spec PyProof.Rows
end Sm
namespace Hd
open PySem PySem.W PySem.Spec PyProof.Rows L2 Sm
noncomputable def HR(_:Obj):Bool:=true
noncomputable def HN(h:Heap)(a:Addr):Option (Addr×Obj):=match h.get? a with
 | some o=>if HR o then some (a,o) else none
 | none=>none
noncomputable def bx(h:Heap):Frag:=(List.range h.objs.size).filterMap (HN h)
theorem pV(h:Heap)(a:Addr):∀l:List Addr,(l.filterMap (HN h)).lookup a=if a∈l then(HN h a).map (·.2) else none
 | []=>rfl
 | b::r=>by
  have ih:=pV h a r
  by_cases hb:a=b
  ·subst hb;rw[Qp Qv];rw[Q0];cases e:HN h a with
   | none=>
    dsimp only;rw[ih,e]
    split <;> rfl
   | some p=>
    have hp:p.1=a:=by
     unfold HN at e
     split at e
     ·split at e
      ·cases e;rfl
      ·cases e
     ·cases e
    obtain⟨p1,p2⟩:=p;dsimp only at hp;subst hp;simp
  ·have hm:(a∈b::r)↔a∈r:=by simp[hb]
   rw[Q0];cases e:HN h b with
   | none=>dsimp only;rw[ih];simp only[hm]
   | some p=>
    have hp:p.1=b:=by
     unfold HN at e
     split at e
     ·split at e
      ·cases e;rfl
      ·cases e
     ·cases e
    obtain⟨p1,p2⟩:=p;dsimp only at hp;subst hp;have hab:(a==p1)=false:=by simpa using hb
    rw[Rf,hab];dsimp only;rw[ih];simp only[hm]
theorem lh(e:h.get? a=some o)(f:HR o=true):(bx h).lookup a=some o:=by
 unfold bx;rw[pV,Qp]
 ·unfold HN;rw[e];dsimp only;rw[Qp f];rfl
 ·rw[RL];exact Qw e
theorem HP(h:Heap):(bx h).In h:=fun a o e=>by
 unfold bx at e;rw[pV] at e
 split at e
 ·unfold HN at e;cases g:h.get? a with
  | none=>rw[g] at e;cases e
  | some o'=>
   rw[g] at e;dsimp only at e
   split at e
   ·cases e;rfl
   ·cases e
 ·cases e
noncomputable def posOf(s:Stmt):Pos:=match s with
 | .FunctionDef _ _ _ _ _ _ _ _ _ p=>p
 | _=>⟨0,0,0,0⟩
noncomputable def vp(n:Str)(s:Stmt):DefRec:=⟨n,nZ s,jE s,au s,posOf s⟩
theorem Ip(r:h.CodeRec cd q):codeIn (bx h) cd q=true:=by
 obtain⟨c,o,vs,t,rfl,g,d,e⟩:=r;have f:HR o=true:=rfl;unfold codeIn;dsimp only;rw[lh g f];obtain⟨oc,od,dt,sl⟩:=o;dsimp only at d;subst d;dsimp only;obtain⟨l⟩:=vs;cases l with
 | nil=>cases e
 | cons x l=>cases l with
  | nil=>cases e
  | cons y r=>cases y <;> first |(cases e;simp;done) |(cases e;done)
theorem qy{q:Program}{loose:List Str}{mean:ExcName->Option Value}{mg mb:Str->Option Value}{h:Heap}(T:Top q loose mean mg mb h){n:Str}{st:Stmt}(e:(recsOf q).find? (fun e=>e.name==n)=some (vp n st)):
  ∃f fd,mg n=some (.ref f)∧fX (bx h) n n st f fd:=by
 have hm:vp n st∈recsOf q:=List.mem_of_find?_eq_some e;obtain⟨a,o,pm,code,doc,m,g,d,c⟩:=T.fn _ hm;have f:HR o=true:=rfl;have lk:=lh g f;have kp:keepIn (bx h) (.ref a)=true:=by
  unfold keepIn;dsimp only;rw[lk];obtain⟨oc,od,dt,sl⟩:=o;dsimp only at d;subst d;rfl
 obtain⟨oc,od,dt,sl⟩:=o;dsimp only at d;subst d;exact⟨a,_,m,⟨oc,od,.none,doc,pm,_,code,_,sl,rfl,lk,Ip c⟩,kp⟩
theorem _root_.L2.fX.one{K:Frag}{x qual:Str}{st:Stmt}{f:Addr}{fd:FuncData}{p:Str}(F:fX K x qual st f fd)
  (h:∀(kV doc pm:Value)(an:Option Addr)(cdv ct:Value)(u:Value),bindArgs (PySem.W.fnOf x qual (nZ st) (jE st) (au st) .none kV doc pm an cdv ct) ⟨[u],[]⟩=pure [(p,u)]) (s:Shared) (u:Value):BindsTo s fd ⟨[u],[]⟩ [(p,u)]:=by
 obtain⟨oc,od,kV,doc,pm,an,cdv,ct,osl,rfl,lk,hcd⟩:=F.ex;exact .of_eq (h kV doc pm an cdv ct u)
theorem Lv{l:OpenLaw}{q:Program}{loose:List Str}{XP:(Str->Option Value)->Heap->Prop}{YP:World->Heap->Prop}{d:DefRec}{k:Nat}(hn:l.most=some 63)(hdf:d.params.defaults=[])(hr:ip k callerA)
  (F:∀(w:World)(s₀:Shared)(mg mb:Str->Option Value)(h:Heap),Ground q loose [] XP w s₀ mg mb h->YP w h->∃(fa:Addr)(fd:FuncData),mg d.name=some (.ref fa)∧(∀(s:Shared)(u:Value),BindsTo s fd ⟨[u],[]⟩ [("_law_script",u)])∧
   ∀base:Heap,(bx h).In base->base.Ns mainGlobals mg->bB l.prog w (bx h) mg base fE k fa fd ["_law_script"] (spT (bx h))):
  WalkO q loose XP YP l.row.toRowW d [] (fun f vs=>PySem.call f vs):=by
 refine Att.zy hn hdf fun w s₀ s₁ mg mb fa o pm cd doc a vs ns G Y ho hd hcd hmg hobj hints hlen hg=>?_;obtain⟨fa',fd,e,hb,hF⟩:=F w s₀ mg mb _ G Y;rw[e] at hmg;cases hmg;exact Fg (HP _) G.T.g G.T.b G.T.builtins G.T.nolimit hg hobj hints (QB hlen (by decide)) hr hF hb (fun H hO hS=>⟨a,ns,rfl,hS,hlen,fun _=>rfl⟩) fun _ _ _ z=>z
noncomputable def freeOk(q:Program)(loose xs:List Str):Bool:=xs.all fun x=>!startupNames.contains x&&!(looseW q loose).contains x&&!((recsOf q).map (·.name)).contains x&&!((litsOf q).map (·.1)).contains x&&!((clssOf q (looseW q loose)).map (·.name)).contains x
theorem cQ(T:Top q (looseW q loose) mean mg mb h)(e:freeOk q loose xs=true)(hx:x∈xs):mg x=none:=by
 have:=RJ.mp e x hx;simp only[QJ,V8,List.contains_eq_mem,Vp] at this;exact T.free x this.1.1.1.1 this.1.1.1.2 this.1.1.2 this.1.2 this.2
end Hd
namespace Sm
open PySem L2
noncomputable def Nm(f:Expr->Option D):List Expr->Option (List D)
 | []=>some []
 | e::es=>(f e).bind fun d=>(Nm f es).bind fun ds=>some (d::ds)
noncomputable def kD:Nat->Expr->Option D
 | 0,_=>none
 | n+1,e=>match e with
  | .Constant .none _ _=>some .cN
  | .Constant (.bool b) _ _=>some (.bl b)
  | .Constant (.int i) _ _=>some (.int i)
  | .Constant (.str x) _ _=>if PyData.strOk x then some (.str x) else none
  | .UnaryOp .USub (.Constant (.int i) _ _) _=>some (.int (-i))
  | .Tuple es _ _=>(Nm (kD n) es).bind fun ds=>if ds.length≤1000 then some (.tup ds) else none
  | .List es _=>(Nm (kD n) es).bind fun ds=>if ds.length≤1000 then some (.lv ds) else none
  | .Dict [] [] _=>some (.dv [])
  | _=>none
noncomputable def aK(ds:List D):AM:=fun _ h=>some (ds,h)
theorem NH(ds:List D):oF (aK ds) ds.length:=fun δ h xs h' e=>by cases e;rfl
section
variable {X:Cx}
theorem D6(h:kD n e=some d)(es:List Expr):starEach (e::es) X.env=(false,eval e X.env)::starEach es X.env:=by
 cases n with
 | zero=>cases h
 | succ n=>cases e <;> first | rfl |(exfalso;exact(nomatch h))
theorem wM(hf:∀{e:Expr} {d:D},f e=some d->SE X e (eK d))(hs:∀{e:Expr} {d:D},f e=some d->∀es:List Expr,starEach (e::es) X.env=(false,eval e X.env)::starEach es X.env):
  ∀{es:List Expr} {ds:List D},Nm f es=some ds->SA X es (aK ds)
 | [],ds,h=>by cases h;exact af
 | e::es,ds,h=>by
  unfold Nm at h;obtain⟨d,e1,h⟩:=bS h;obtain⟨r,e2,h⟩:=bS h;cases h;exact(aa (hf e1) (wM hf hs e2) (hs e1 es):SA X _ (ab (eK d) (aK r)))
theorem eL:∀(n:Nat) {e:Expr} {d:D},kD n e=some d->SE X e (eK d)
 | 0,_,_,h=>by cases h
 | n+1,e,d,h=>by
  cases e <;> first |(cases h;done) | skip
  case Constant c _ _=>
   cases c <;> first |(cases h;done) | skip
   case none=>cases h;exact gV
   case bool=>cases h;exact dZ
   case int=>cases h;exact aj
   case str x=>
    have h:(if PyData.strOk x then some (D.str x) else none)=some d:=h
    by_cases hs:PyData.strOk x=true
    ·rw[Qp hs] at h;cases h;exact av hs
    ·rw[Qu hs] at h;cases h
  case UnaryOp o e _=>
   cases o <;> first |(cases h;done) | skip
   cases e <;> first |(cases h;done) | skip
   rename_i c _ _;cases c <;> first |(cases h;done) | skip
   cases h;exact(vj oO aj:SE X _ (B2 wq (eK _)))
  case Tuple es _ _=>
   obtain⟨ds,e1,e2⟩:=bS h
   by_cases hl:ds.length≤1000
   ·rw[Qp hl] at e2;cases e2;exact(aD (wM (eL n) D6 e1) (NH ds) (QB hl (by decide)):SE X _ (ay bJ (aK ds)))
   ·rw[Qu hl] at e2;cases e2
  case List es _=>
   obtain⟨ds,e1,e2⟩:=bS h
   by_cases hl:ds.length≤1000
   ·rw[Qp hl] at e2;cases e2;exact(jR.lv (cy (wM (eL n) D6 e1) (NH ds) (QB hl (by decide))):SE X _ (fT (aK ds)))
   ·rw[Qu hl] at e2;cases e2
  case Dict ks vs _=>
   cases ks <;> first |(cases h;done) | skip
   cases vs <;> first |(cases h;done) | skip
   cases h;exact MS
end
end Sm
namespace L2
open PySem PySem.Spec PyProof.Rows
noncomputable def dY(ns:List Int):List Int:=ns.mergeSort fun a b=>decide (a≤b)
theorem du(ns:List Int):(dY ns).Perm ns:=VQ _ _
theorem nu(ns:List Int):(dY ns).Pairwise (·≤·):=by
 have:=Vq (le:=fun a b:Int=>decide (a≤b)) (fun a b c h1 h2=>by simp at h1 h2 ⊢;lia) (fun a b=>by simp;lia) ns;exact this.imp fun h=>by simpa using h
theorem sg(hp:ss.Perm ns)(h:ss.Pairwise (·≤·)):ss=dY ns:=
 Td (fun a b _ _ h1 h2=>Int.le_antisymm h1 h2) h (nu ns) (hp.trans (du ns).symm)
theorem Bl:fe X (.builtin "sorted") (fun xs H Q=>∃a ss,xs=[.ref a]∧gH X.K H a (ss.map V.int)∧ss.length < 64∧∀l,H l=none->Q (.ref l) (upd H l (.lst ((dY ss).map V.int)))):=by
 intro pins s σ H xs us Q I r h;obtain⟨a,ss,rfl,ha,h64,q⟩:=h;obtain⟨u,rfl,ru⟩:=vals1 r;cases ru;obtain⟨its,rv,p,hz⟩:=I.list ha;have hS:=intsAre_of rv;have hlen:its.length=ss.length:=by have:=rv.length;rw[Qk] at this;exact this.symm
 refine sorted_ints p.isList hS (by lia) fun out ss' h1 h2 h3=>?_;have:=sg h2 h3;subst this;have hl:s.heap.objs.size≤s.heap.objs.size+1:=T9 _;obtain⟨e,ho⟩:=sortedAll_at s.heap its out;have hz':((dY ss).map V.int).length≤sizeLine:=by rw[Qk,(du ss).length_eq,Q4];lia
 refine⟨.ref (s.heap.objs.size+1),_,I.laid (t':=s.toks) (o:=.lst ((dY ss).map V.int)) (fun b o q=>sortedAll_old q) hl ⟨hz',out.toList,e,iT h1,?_⟩,rfl,q _ (I.bI.fresh hl)⟩;rw[ho]
end L2
namespace Sm
open PySem L2 PySem.Spec PyProof.Rows
noncomputable def Fv:Fn:=fun ds h=>match ds with
 | [d]=>(gM d h).bind fun xs=>(lR xs).bind fun ns=>if ns.length < 64 then some (.lv ((dY ns).map D.int),h) else none
 | _=>none
theorem repL_ints'{K:FR}{ρ:Ad}{H:Hp}:∀(ns:List Int),aI K ρ H (ns.map V.int) (ns.map D.int)
 | []=>.nil
 | n::r=>.cons (.int n) (repL_ints' r)
theorem FJ:gI X (.builtin "sorted") Fv:=by
 intro pins s σ H xs us Q I r hh;obtain⟨ρ,h,ds,z,h',S,l,ee,k⟩:=hh
 match ds,l,ee with
 | [],_,ee=>cases ee
 | _::_::_,_,ee=>cases ee
 | [d],l,ee=>
  obtain⟨v,rfl,rd⟩:=rep1 l;obtain⟨ys,e1,e2⟩:=bS ee;obtain⟨ns,e3,e4⟩:=bS e2
  by_cases c:ns.length < 64
  ·rw[Qp c] at e4;cases e4;obtain⟨a,vs,rfl,ha,la⟩:=fk S rd e1;have:=tI e3;subst this;have:=mE la;subst this;exact Bl pins s σ H _ us Q I r ⟨a,ns,rfl,gH.of ha,c,fun l hl=>k _ _ (.lv S (repL_ints' _) hl)⟩
  ·rw[Qu c] at e4;cases e4
noncomputable def AX(m:L8):EM:=fun δ h=>(m δ h).bind fun p=>if p.1.length≤15 then some (.ob p.2.length,p.2++[.dct (E8 [] p.1)]) else none
theorem Ef(h:SP X pos keys vals m)(hall:keys.all (·.isSome)=true)(hl:keys.length=vals.length)(h0:keys≠[])(hp:∀trs,Mk X pos keys vals trs->PE X (.Dict keys vals pos) (IX trs)):SE X (.Dict keys vals pos) (AX m):=by
 obtain⟨trs,h1,h2⟩:=h;refine(hp trs h1).imp fun σ H Q ⟨ρ,δ,h,d,h',R,S,ee,k⟩ p hpn=>?_;obtain⟨⟨kvs,ha⟩,e1,e2⟩:=bS ee;dsimp only at e2
 by_cases z:kvs.length≤15
 ·rw[Qp z] at e2;cases e2;have Tl:Ch ρ H (ρ.keep p) (upd H p (.dK [])):=Ch.keep hpn;have nl:¬ρ.has p:=S.fresh hpn;refine h2 σ _ _ ⟨ρ.keep p,δ,h,kvs,_,R.mono Tl,S.keep hpn,e1,fun us ρ2 H2 T2 S2 r2=>?_⟩;have hp2:H2 p=some (.dK []):=(T2.res p Qv).trans bj;refine⟨hp2,us,rfl,by rw[r2.len];exact z,?_⟩;obtain⟨ob2,rs2⟩:=ρ2;have ers:rs2=p::ρ.rs:=T2.rs;subst ers;have hml:p∈(⟨ob2,p::ρ.rs⟩:Ad).rs:=Qv;have npo:p∉ob2:=(S2.vn p hml).2;have hne:∀b∈ρ.rs,b≠p:=fun b hb z=>nl (.inr (z ▸ hb));generalize hH3:upd H2 p (.dK (kG [] us))=H3;have at3:∀b,b≠p->H3 b=H2 b:=fun b hb=>by rw[←hH3,aP hb]
  have C23:Ch ⟨ob2,p::ρ.rs⟩ H2 ⟨ob2++[p],ρ.rs⟩ H3:=by
   refine⟨fun n a e=>?_,fun b o nb eb=>⟨fun z=>?_,?_⟩⟩
   ·show(ob2++[p])[n]?=_;rw[QE (Qo.mp e).1];exact e
   ·rcases z with z | z
    ·rcases QS.mp z with z | z
     ·exact nb (.inl z)
     ·exact nb (.inr (by rw[QC.mp z];exact Qv))
    ·exact nb (.inr (Qs _ z))
   ·rw[at3 b (fun z=>nb (.inr (by rw[z];exact Qv)))];exact eb
  refine k _ _ ⟨⟨ob2++[p],ρ.rs⟩,⟨(Tl.trans T2.toCh).trans C23,rfl,fun b hb=>?_⟩,?_,.ob (by show(ob2++[p])[ha.length]?=_;rw[←S2.len];simp)⟩
  ·rw[at3 b (hne b hb),T2.res b (Qs _ hb)];exact aP (hne b hb)
  ·refine⟨by show(ob2++[p]).length=_;simp;exact S2.len,?_,fun n a x e1 e2=>?_,fun b hb=>?_⟩
   ·show(ob2++[p]).Nodup;rw[RW];exact⟨S2.nd,by simp,fun a ha b hb z=>npo (by rw[←QC.mp hb,←z];exact ha)⟩
   ·have e1:(ob2++[p])[n]?=some a:=e1;have hlen:ob2.length=ha.length:=S2.len
    by_cases hn:n < ob2.length
    ·rw[QE hn] at e1;rw[QE (by lia)] at e2;exact(S2.at_ n a x e1 e2).mono C23 (at3 a fun z=>npo (z ▸ Qn e1))
    ·have l1:=(Qo.mp e1).1;simp at l1;have hn':n=ob2.length:=by lia
     subst hn';rw[QR (Qq _)] at e1;rw[QR (by lia),hlen] at e2;simp at e1 e2;subst e1;subst e2;exact⟨kG [] us,by rw[←hH3];exact bj,(bL.merge .nil r2).mono C23⟩
   ·obtain⟨⟨o,eo⟩,nb⟩:=S2.vn b (Qs _ hb);refine⟨⟨o,by rw[at3 b (hne b hb)];exact eo⟩,fun z=>?_⟩;rcases QS.mp z with z | z
    ·exact nb z
    ·exact hne b hb (QC.mp z)
 ·rw[Qu z] at e2;cases e2
noncomputable def Ia(d e:D)(h:MH):Option (D×MH):=match e with
 | .int n=>(gM d h).bind fun xs=>if 0≤n∧n≤1000∧xs.length≤1000 then some (.lv (List.replicate n.toNat xs).flatten,h) else none
 | _=>none
theorem aI.rep{K:FR}{ρ:Ad}{H:Hp}{vs:List V}{ds:List D}(h:aI K ρ H vs ds):∀k:Nat,aI K ρ H (List.replicate k vs).flatten (List.replicate k ds).flatten
 | 0=>.nil
 | k+1=>by
  rw[RZ,RZ,SJ,SJ];exact h.append (aI.rep h k)
theorem EW:oJ X (binaryOp .Mult) Ia:=by
 intro pins s σ H x y v u Q I rx ry hh;obtain⟨ρ,h,d,e,z,h',S,rd,re,ee,k⟩:=hh;cases e <;> first |(cases ee;done) | skip
 rename_i n;obtain⟨xs,e1,e2⟩:=bS (show(gM d h).bind _=_ from ee)
 by_cases c:0≤n∧n≤1000∧xs.length≤1000
 ·rw[Qp c] at e2;cases e2;obtain⟨a,vs,rfl,ha,la⟩:=fk S rd e1;cases re;have hb:xs.length*n.toNat≤1000*1000:=Nat.mul_le_mul c.2.2 (by lia);exact KZ pins s σ H _ _ v u Q I rx ry ⟨a,n,vs,rfl,rfl,ha,by lia,by lia,by rw[la.length,show sizeLine=16777216 from rfl];lia,fun l hl=>k _ _ (.lv S (la.rep _) hl)⟩
 ·rw[Qu c] at e2;cases e2
end Sm
namespace L2
open PySem PySem.Spec PyProof.Rows
theorem vf:∀(us:List Value)(o:Nat),(∀(j:Nat) v,us[j]?=some v->∃t,v=.int ((o:Int)+j) t)->Vals ((List.range' o us.length).map fun(k:Nat)=>V.int k) us
 | [],_,_=>.nil
 | u::r,o,h=>by
  rw[QI,List.range'_succ,Qt];obtain⟨t,e⟩:=h 0 u rfl;refine .cons ⟨t,by rw[e];simp⟩ (vf r (o+1) fun j v hv=>?_);obtain⟨t,e⟩:=h (j+1) v (by simpa using hv);exact⟨t,by rw[e];congr 1;lia⟩
theorem CK(hc:X.calm=true)(hg1:Gl X "list")(hm1:X.mg "list"=none)(hg2:Gl X "range")(hm2:X.mg "range"=none)(hv:bootBuiltins "list"=some (.type "list"))(ha:PA X [a] ta)(hs:starEach [a] X.env=[(false,eval a X.env)]):
  PE X (.Call (.Name "list" p) [.Call (.Name "range" p2) [a] [] pos2] [] pos) (fun σ H Q=>ta σ H fun vs H1=>∃j:Int,vs=[.int j]∧0≤j∧j≤1000∧∀l,H1 l=none->Q (.ref l) (upd H1 l (.lst ((List.range j.toNat).map fun(k:Nat)=>V.int k)))):=by
 intro pins s σ H Q I h;refine Tu (kI I hg1 hm1 hv ?_);refine RT ?_ rfl rfl;show wpAny _ _ (spliced ((false,eval (.Call (.Name "range" p2) [a] [] pos2) X.env)::backTo pos (starEach [] X.env))) _ _ s;refine Calls.spliced_cons ?_;refine Tu (kI I hg2 hm2 boot_range (RT (cU (ha pos2 pins s σ H _ I h) fun us s1 ⟨vs,H1,I1,r1,q1⟩=>?_) hs rfl));obtain⟨j,e,j0,j1,q⟩:=q1;subst e;cases r1 with
 | cons r rr=>
  cases rr;obtain⟨t,rfl⟩:=r;refine call_range_1 ?_;have I2:Inv X pins σ H1 {s1 with heap:=s1.heap.push {cls:=.type "range",data:=.fields #[.int 0 s1.toks,.int j t,.int 1 (s1.toks+1)]},toks:=s1.toks+1+1}:=I1.kept fun b o e=>Ql _ e;refine Calls.spliced_nil ?_;refine call_list_range (n:=j.toNat) (I1.ok.hd hc) (IsRange.new ..) (small_one (by lia) (by lia) (by lia) (by lia)) (by rw[rangeSize_one];split <;> lia) (by lia) fun h' tk acc' c' hk hS' hacc=>?_;have hlen:acc'.toList.length=j.toNat:=by rw[RA];exact hacc.1
  have hv:Vals ((List.range j.toNat).map fun(k:Nat)=>V.int k) acc'.toList:=by
   have:=vf acc'.toList 0 fun i v hv=>by
    obtain⟨t,e⟩:=hacc.2 i v (by simpa using hv);exact⟨t,by rw[e];congr 1;simp⟩
   rw[hlen] at this;rw[List.range_eq_range'];exact this
  refine⟨.ref _,_,I2.laid (t':=tk) (o:=.lst ((List.range j.toNat).map fun(k:Nat)=>V.int k)) hk (Qq _) ⟨by rw[Qk,QU,Q4];lia,acc'.toList,c',hv,?_⟩,rfl,q _ (I2.bI.fresh (Qq _))⟩;rw[hS']
end L2
namespace Sm
open PySem L2 PySem.Spec PyProof.Rows
noncomputable def LX(m:AM):AM:=fun δ h=>(m δ h).bind fun p=>match p.1 with
 | [.int j]=>if 0≤j∧j≤1000 then some ((List.range j.toNat).map fun(k:Nat)=>D.int k,p.2) else none
 | _=>none
theorem sE{K:FR}{ρ:Ad}{H:Hp}:∀l:List Nat,aI K ρ H (l.map fun(k:Nat)=>V.int k) (l.map fun(k:Nat)=>D.int k)
 | []=>.nil
 | n::r=>.cons (.int n) (sE r)
theorem Cv(hc:X.calm=true)(hg1:Gl X "list")(hm1:X.mg "list"=none)(hg2:Gl X "range")(hm2:X.mg "range"=none)(hv:bootBuiltins "list"=some (.type "list"))(ha:SA X [a] m)(hs:starEach [a] X.env=[(false,eval a X.env)]:=by ac_nf):
  jR X (.Call (.Name "list" p) [.Call (.Name "range" p2) [a] [] pos2] [] pos) (LX m):=(CK hc hg1 hm1 hg2 hm2 hv ha hs).imp fun σ H Q ⟨ρ,δ,h,ds,h',R,S,e,k⟩=>by
 obtain⟨⟨xs,h1⟩,e1,e2⟩:=bS e;dsimp only at e2
 split at e2
 ·rename_i j
  split at e2
  ·rename_i c;cases e2;refine⟨ρ,δ,h,_,_,R,S,e1,fun vs ρ1 H1 T1 S1 r1=>?_⟩;obtain⟨v,rfl,rd⟩:=rep1 r1;cases rd;exact⟨j,rfl,c.1,c.2,fun l hl=>k ρ1 H1 l _ T1 S1 hl (sE _)⟩
  ·cases e2
 ·cases e2
noncomputable def LY(ma mb:EM):AM:=fun δ h=>(ma δ h).bind fun p=>(mb δ p.2).bind fun q=>(gM p.1 q.2).bind fun xs=>(gM q.1 q.2).bind fun ys=>if xs.length+ys.length≤sizeLine then some (xs++ys,q.2) else none
theorem JQ(ha:SE X a ma)(hb:SE X b mb):jR X (.BinOp a .Add b pos) (LY ma mb):=(Jd E1 ha hb).imp fun σ H Q ⟨ρ,δ,h,ds,h',R,S,e,k⟩=>by
 obtain⟨⟨x,h1⟩,e1,e2⟩:=bS e;obtain⟨⟨y,h2⟩,e3,e4⟩:=bS e2;obtain⟨xs,e5,e6⟩:=bS e4;obtain⟨ys,e7,e8⟩:=bS e6;dsimp only at e3 e5 e7
 split at e8
 ·rename_i c;cases e8;refine⟨ρ,δ,h,x,h1,R,S,e1,fun v H1 ⟨ρ1,T1,S1,r1⟩=>⟨ρ1,δ,h1,y,h2,R.mono T1.toCh,S1,e3,fun u H2 ⟨ρ2,T2,S2,r2⟩=>?_⟩⟩;obtain⟨a,vs,rfl,hA,lA⟩:=fk S2 (r1.mono T2.toCh) e5;obtain⟨b,us,rfl,hB,lB⟩:=fk S2 r2 e7;exact⟨a,b,vs,us,rfl,rfl,hA,hB,by rw[lA.length,lB.length];exact c,fun p hp=>k ρ2 H2 p (vs++us) (T1.trans T2) S2 hp (lA.append lB)⟩
 ·cases e8
end Sm
namespace Sm
open PySem L2
theorem Fy(a b:Int)(h:MH):cu (.int a) (.int b) h=some (.bl (a==b),h):=rfl
theorem Ij(a b:Bool)(h:MH):cu (.bl a) (.bl b) h=some (.bl (a==b),h):=rfl
theorem sM:∀cs:List Int,oH (cs.map D.int)=some (cs.map PyData.int)
 | []=>rfl
 | c::r=>by simp only[Qt,oH,yb,sM r,QX,QT]
theorem mX:∀cs:List Int,PyData.depthAll (cs.map PyData.int)=0
 | []=>rfl
 | c::r=>by simp only[Qt,PyData.depthAll,mX r,PyData.depth];rfl
theorem Dh{h:MH}{c:Nat}{cs:List Int}(hc:h[c]?=some (.lst (cs.map D.int))):nV (.ob c) (.lv []) h=some (.bl (!cs.isEmpty),h):=by
 simp only[nV,Ji,fb,hc,Mf,zH,sM,yb,oH,QT,QX,PyData.depth,mX];cases cs <;> rfl
theorem kK(hn:h[n]?=some (.lst xs))(e:il xs i=some d):ba (.ob n) (.int i) h=some (d,h):=by
 simp only[ba,fb,hn,dq,QX,e,QT]
theorem BZ(hn:h[n]?=some (.lst xs)):cZ [.ob n] h=some (.int xs.length,h):=by
 simp only[cZ,fb,hn,dq,QT]
theorem xH(hn:h[n]?=some (.lst xs))(e:xw xs.length i=some p):uU (.ob n) (.int i) d h=some (h.set n (.lst (xs.set p d))):=by
 simp only[uU,hn,e,QT]
theorem Gd(cs:List Int)(i:Int)(h0:0≤i)(h1:i < cs.length):∃z,il (cs.map D.int) i=some (.int z):=by
 have hlt:i.toNat < cs.length:=by lia
 refine⟨cs[i.toNat]'hlt,?_⟩;have e:((i.toNat:Nat):Int)=i:=VR h0;have q:il (cs.map D.int) ((i.toNat:Nat):Int)=some (D.int (cs[i.toNat]'hlt)):=ot (by rw[Qy,Qr hlt];rfl);rw[e] at q;exact q
theorem Ga(h0:0≤i)(h1:i < xs.length):∃v,il xs i=some v∧v∈xs:=by
 have hlt:i.toNat < xs.length:=by lia
 have e:((i.toNat:Nat):Int)=i:=VR h0;have q:il xs ((i.toNat:Nat):Int)=some (xs[i.toNat]'hlt):=ot (Qr hlt);rw[e] at q;exact⟨_,q,Um hlt⟩
end Sm
namespace Sm
open PySem
def Rn{α:Type}(o:Option α)(Q:α->Prop):Prop:=∃a,o=some a∧Q a
theorem rv(e:o=some a)(q:Q a):Rn o Q:=⟨a,e,q⟩
theorem Rn.imp(r:Rn o Q)(f:∀a,Q a->Q' a):Rn o Q':=let⟨a,e,q⟩:=r;⟨a,e,f a q⟩
theorem a9(r:Rn o fun a=>Rn (f a) Q):Rn (o.bind f) Q:=by
 obtain⟨a,e,b,e2,q⟩:=r;exact⟨b,by rw[e];exact e2,q⟩
theorem Eo(r:Rn o fun a=>Q (f a)):Rn (o.map f) Q:=by
 obtain⟨a,e,q⟩:=r;exact⟨f a,by rw[e];rfl,q⟩
theorem MV(e:δ[i]?=some (some d))(q:Q (d,h)):Rn (ae i δ h) Q:=⟨(d,h),by unfold ae;rw[e];rfl,q⟩
theorem P8(q:Q (d,h)):Rn (eK d δ h) Q:=⟨_,rfl,q⟩
theorem G0(r:Rn (a δ h) fun p=>Rn (b δ p.2) fun q=>Rn (f p.1 q.1 q.2) Q):Rn (az f a b δ h) Q:=a9 (r.imp fun _ r=>a9 r)
theorem OG(r:Rn (a δ h) fun p=>Rn (f p.1 p.2) Q):Rn (B2 f a δ h) Q:=a9 r
theorem nE(q:Q ([],h)):Rn (ai δ h) Q:=⟨_,rfl,q⟩
theorem fv(r:Rn (a δ h) fun p=>Rn (m δ p.2) fun q=>Q (p.1::q.1,q.2)):Rn (ab a m δ h) Q:=a9 (r.imp fun _ r=>a9 (r.imp fun _ q=>⟨_,rfl,q⟩))
theorem qX(r:Rn (m δ h) fun p=>Rn (f p.1 p.2) Q):Rn (ay f m δ h) Q:=a9 r
theorem OK(r:Rn (t δ h) fun p=>(p.1=true->Rn (a δ p.2) Q)∧(p.1=false->Rn (b δ p.2) Q)):Rn (Qc t a b δ h) Q:=a9 (r.imp fun p ⟨q1,q2⟩=>by
 obtain⟨c,h⟩:=p;cases c with
 | true=>exact q1 rfl
 | false=>exact q2 rfl)
theorem w9(r:Rn (a δ h) fun p=>∃c,p.1=.bl c∧Q (c,p.2)):Rn (aL a δ h) Q:=a9 (r.imp fun p ⟨c,e,q⟩=>⟨(c,p.2),by rw[e],q⟩)
theorem Ae(r:Rn (a δ h) fun p=>∃c,D0 p.1 p.2=some c∧Q (c,p.2)):Rn (eX a δ h) Q:=a9 (r.imp fun p ⟨c,e,q⟩=>⟨(c,p.2),by rw[e];rfl,q⟩)
theorem pF(r:Rn (t δ h) fun p=>Q (!p.1,p.2)):Rn (Sm.fq t δ h) Q:=Eo r
theorem Kc(r:Rn (a δ h) fun p=>(p.1=true->Rn (b δ p.2) Q)∧(p.1=false->Q (false,p.2))):Rn (Sm.qO a b δ h) Q:=a9 (r.imp fun p ⟨q1,q2⟩=>by
 obtain⟨c,h⟩:=p;cases c with
 | true=>exact q1 rfl
 | false=>exact⟨_,rfl,q2 rfl⟩)
theorem I9(r:Rn (a δ h) fun p=>(p.1=true->Q (true,p.2))∧(p.1=false->Rn (b δ p.2) Q)):Rn (Sm.rD a b δ h) Q:=a9 (r.imp fun p ⟨q1,q2⟩=>by
 obtain⟨c,h⟩:=p;cases c with
 | true=>exact⟨_,rfl,q1 rfl⟩
 | false=>exact q2 rfl)
theorem Ey(r:Rn (a δ h) fun p=>∃c,p.1=.bl c∧(c=true->Rn (b δ p.2) Q)∧(c=false->Q (.bl false,p.2))):Rn (lI a b δ h) Q:=a9 (r.imp fun p ⟨c,e,q1,q2⟩=>by
 rw[e];cases c with
 | true=>exact q1 rfl
 | false=>exact⟨_,rfl,q2 rfl⟩)
theorem OI(r:Rn (a δ h) fun p=>∃c,p.1=.bl c∧(c=true->Q (.bl true,p.2))∧(c=false->Rn (b δ p.2) Q)):Rn (Pe a b δ h) Q:=a9 (r.imp fun p ⟨c,e,q1,q2⟩=>by
 rw[e];cases c with
 | true=>exact⟨_,rfl,q1 rfl⟩
 | false=>exact q2 rfl)
theorem MZ(r:Rn (a δ h) fun p=>∃c,p.1=.bl c∧Q (.bl (!c),p.2)):Rn (Il a δ h) Q:=a9 (r.imp fun p ⟨c,e,q⟩=>⟨_,by rw[e],q⟩)
theorem CF(r:Rn (m δ h) fun p=>Q (.lv p.1,p.2)):Rn (fT m δ h) Q:=Eo r
theorem OJ(r:Rn (m δ h) fun p=>Q (.ob p.2.length,p.2++[.lst p.1])):Rn (xM m δ h) Q:=Eo r
theorem ON(q:Q (.dv [],h)):Rn (PF δ h) Q:=⟨_,rfl,q⟩
theorem OO(q:Q (.ob h.length,h++[.dct []])):Rn (Qd δ h) Q:=⟨_,rfl,q⟩
theorem Af(r:Rn (m δ h) fun p=>∃d xs ws,p.1=[d]∧dq d p.2=some (xs,ws)∧Q (xs,p.2)):Rn (zC m δ h) Q:=a9 (r.imp fun p ⟨d,xs,ws,e,e2,q⟩=>⟨(xs,p.2),by rw[e];dsimp only;rw[e2];rfl,q⟩)
theorem MW(q:Q (none,h)):Rn (Gw δ h) Q:=⟨_,rfl,q⟩
theorem MX(r:Rn (a δ h) fun p=>∃i,p.1=.int i∧Q (some i,p.2)):Rn (Gx a δ h) Q:=a9 (r.imp fun p ⟨c,e,q⟩=>⟨_,by rw[e],q⟩)
theorem OH(r:Rn (a δ h) fun p=>Rn (l δ p.2) fun q=>Rn (u δ q.2) fun r=>Rn (Lz p.1 q.1 r.1 r.2) Q):Rn (Qb a l u δ h) Q:=a9 (r.imp fun _ r=>a9 (r.imp fun _ r=>a9 r))
abbrev SQ:=Fl×DS×MH->Prop
theorem jv(q:Q (.nx,δ,h)):Rn (bH δ h) Q:=⟨_,rfl,q⟩
theorem Kd(q:Q (.bk,δ,h)):Rn (OE δ h) Q:=⟨_,rfl,q⟩
theorem GZ(q:Q (.ct,δ,h)):Rn (MU δ h) Q:=⟨_,rfl,q⟩
def vh(b:SM)(Q:SQ):SQ:=fun r=>match r.1 with
 | .nx=>Rn (b r.2.1 r.2.2) Q
 | _=>Q r
theorem kh(r:Rn (a δ h) (vh b Q)):Rn (aw a b δ h) Q:=a9 (r.imp fun p q=>by
 obtain⟨f,δ',h'⟩:=p;cases f with
 | nx=>exact q
 | bk=>exact⟨_,rfl,q⟩
 | ct=>exact⟨_,rfl,q⟩
 | rt d=>exact⟨_,rfl,q⟩)
theorem yE(r:Rn (e δ h) fun p=>Q (.nx,δ.set i (some p.1),p.2)):Rn (bg i e δ h) Q:=a9 (r.imp fun _ q=>⟨_,rfl,q⟩)
theorem M3(r:Rn (e δ h) fun p=>Rn (g p.1 δ p.2) fun q=>Q (.nx,q.1,q.2)):Rn (lD e g δ h) Q:=a9 (r.imp fun _ r=>a9 (r.imp fun _ q=>⟨_,rfl,q⟩))
theorem Kh(r:Rn (e δ h) fun p=>Q (.nx,δ,p.2)):Rn (g6 e δ h) Q:=a9 (r.imp fun _ q=>⟨_,rfl,q⟩)
theorem lM(r:Rn (e δ h) fun p=>Q (.rt p.1,δ,p.2)):Rn (aR e δ h) Q:=a9 (r.imp fun _ q=>⟨_,rfl,q⟩)
theorem BG(r:Rn (t δ h) fun p=>(p.1=true->Rn (a δ p.2) Q)∧(p.1=false->Rn (b δ p.2) Q)):Rn (fh t a b δ h) Q:=a9 (r.imp fun p ⟨q1,q2⟩=>by
 obtain⟨c,h⟩:=p;cases c with
 | true=>exact q1 rfl
 | false=>exact q2 rfl)
theorem MY(r:Rn (m δ h) fun p=>∃a b,p.1=[a,b]∧Q (.nx,(δ.set i (some a)).set j (some b),p.2)):Rn (Ek i j m δ h) Q:=a9 (r.imp fun p ⟨a,b,e,q⟩=>⟨_,by rw[e],q⟩)
theorem OM(q:Q (δ.set i (some d),h)):Rn (gN i d δ h) Q:=⟨_,rfl,q⟩
theorem Kg(r:Rn (o δ h) fun p=>Rn (i δ p.2) fun q=>Rn (uU p.1 q.1 v q.2) fun h'=>Q (δ,h')):Rn (Sm.uS o i v δ h) Q:=a9 (r.imp fun _ r=>a9 (r.imp fun _ r=>Eo r))
theorem OL(hn:xs.length=n)(r:Rn (u xs δ h) Q):Rn (gT n u (.tup xs) δ h) Q:=by
 unfold gT;dsimp only;rw[Qp hn];exact r
theorem Ew(r:Rn (g d δ h) fun p=>Rn (u xs p.1 p.2) Q):Rn (aC g u (d::xs) δ h) Q:=a9 r
theorem G1(q:Q (δ,h)):Rn (cP [] δ h) Q:=⟨_,rfl,q⟩
def GR(Q:D×MH->Prop):SQ:=fun r=>match r.1 with
 | .rt d=>Q (d,r.2.2)
 | .nx=>Q (.cN,r.2.2)
 | _=>False
theorem O1(q:Q (d,h)):GR Q (.rt d,δ,h):=q
theorem O2(q:Q (.cN,h)):GR Q (.nx,δ,h):=q
theorem rZ(r:Rn (b δ h) Q):vh b Q (.nx,δ,h):=r
theorem Oj(q:Q (.rt d,δ,h)):vh b Q (.rt d,δ,h):=q
theorem Om(q:Q (.bk,δ,h)):vh b Q (.bk,δ,h):=q
theorem Ol(q:Q (.ct,δ,h)):vh b Q (.ct,δ,h):=q
def vJ(I:DS->MH->Prop)(Q:SQ):SQ:=fun z=>match z.1 with
 | .nx=>I z.2.1 z.2.2
 | .ct=>I z.2.1 z.2.2
 | .bk=>Q (.nx,z.2.1,z.2.2)
 | .rt d=>Q (.rt d,z.2.1,z.2.2)
theorem Nl(q:I δ h):vJ I Q (.nx,δ,h):=q
theorem O7(q:I δ h):vJ I Q (.ct,δ,h):=q
theorem O8(q:Q (.nx,δ,h)):vJ I Q (.bk,δ,h):=q
theorem O6(q:Q (.rt d,δ,h)):vJ I Q (.rt d,δ,h):=q
theorem ck(r:Rn (b (entry len ds) h) (GR Q)):Rn (jf len b ds h) Q:=a9 (r.imp fun p q=>by
 obtain⟨f,δ',h'⟩:=p;cases f with
 | nx=>exact⟨_,rfl,q⟩
 | rt d=>exact⟨_,rfl,q⟩
 | bk=>exact q.elim
 | ct=>exact q.elim)
theorem Jb(r:Rn (i δ h) fun p=>Rn (nU p.2.1 g b p.1 δ p.2.2) Q):Rn (jP i g b δ h) Q:=a9 r
theorem fu:∀{xs:List D} {δ:DS} {h:MH} (I:Nat->DS->MH->Prop),I 0 δ h->(∀i δ h,i≤xs.length->I i δ h->lJ ws h=true)->
  (∀i x δ h,xs[i]?=some x->I i δ h->Rn (g x δ h) fun q=>Rn (b q.1 q.2) (vJ (I (i+1)) Q))->(∀δ h,I xs.length δ h->Q (.nx,δ,h))->Rn (nU ws g b xs δ h) Q
 | [],δ,h,I,h0,hc,_,hq=>by
  unfold nU;rw[Qp (hc 0 δ h (Qq _) h0)];exact⟨_,rfl,hq δ h h0⟩
 | x::xs,δ,h,I,h0,hc,ht,hq=>by
  unfold nU;rw[Qp (hc 0 δ h (Rw _) h0)];obtain⟨q,e1,z,e2,hz⟩:=ht 0 x δ h rfl h0;rw[e1];show Rn ((b q.1 q.2).bind _) Q;rw[e2];obtain⟨f,δ',h'⟩:=z;have next:I 1 δ' h'->Rn (nU ws g b xs δ' h') Q:=fun hi=>fu (fun i=>I (i+1)) hi (fun i δ h hl=>hc (i+1) δ h (Uk hl)) (fun i x δ h hx=>ht (i+1) x δ h (by simpa using hx)) hq
  cases f with
  | nx=>exact next hz
  | ct=>exact next hz
  | bk=>exact⟨_,rfl,hz⟩
  | rt d=>exact⟨_,rfl,hz⟩
theorem eu(r:Rn (e δ h) fun p=>∃xs ws,dq p.1 p.2=some (xs,ws)∧Q (xs,ws,p.2)):Rn (cG e δ h) Q:=a9 (r.imp fun p ⟨xs,ws,e,q⟩=>⟨(xs,ws,p.2),by rw[e];rfl,q⟩)
theorem jw(r:Rn (m δ h) fun p=>∃j:Int,p.1=[.int j]∧-(2^62)≤j∧j < 2^62∧Q ((List.range j.toNat).map fun(k:Nat)=>D.int (k:Int),[],p.2)):Rn (tJ m δ h) Q:=a9 (r.imp fun p ⟨j,e,h1,h2,q⟩=>by
 rw[e];dsimp only;rw[Qp ⟨h1,h2⟩];exact⟨_,rfl,q⟩)
theorem Kf(r:Rn (m δ h) fun p=>∃d e xs ys ws ws',p.1=[d,e]∧dq d p.2=some (xs,ws)∧dq e p.2=some (ys,ws')∧Q (oK xs ys,ws++ws',p.2)):Rn (Lu m δ h) Q:=
 a9 (r.imp fun p ⟨d,e,xs,ys,ws,ws',e1,e2,e3,q⟩=>⟨_,by rw[e1];dsimp only;rw[e2];dsimp only[Option.bind_some];rw[e3];rfl,q⟩)
theorem nG(r:Rn (m δ h) fun p=>∃d xs ws,p.1=[d]∧dq d p.2=some (xs,ws)∧Q (jK 0 xs,ws,p.2)):Rn (tK m δ h) Q:=
 a9 (r.imp fun p ⟨d,xs,ws,e1,e2,q⟩=>⟨_,by rw[e1];dsimp only;rw[e2];rfl,q⟩)
theorem Ki(r:Rn (i δ h) fun p=>Rn (bU p.2.1 g c e p.1 (gF caps δ) p.2.2) fun q=>q.1.length≤sizeLine∧Q q):Rn (bq caps i g c e δ h) Q:=
 a9 (r.imp fun p r=>a9 (r.imp fun q ⟨hz,hq⟩=>⟨q,by rw[Qp hz],hq⟩))
theorem w5(hc:lJ ws h=true)(f:D->Option D)(J:DS->Prop):∀{xs:List D} {δ:DS},J δ->
  (∀x∈xs,∀δ,J δ->Rn (g x δ h) fun q=>q.2=h∧Rn (c q.1 h) fun t=>t.2=h∧J q.1∧(t.1=true->∃y,f x=some y∧Rn (e q.1 h) fun p=>p=(y,h))∧(t.1=false->f x=none))->
  bU ws g c e xs δ h=some (xs.filterMap f,h)
 | [],δ,_,_=>by unfold bU;rw[Qp hc];rfl
 | x::xs,δ,hJ,ht=>by
  unfold bU;rw[Qp hc];obtain⟨⟨δ1,h1⟩,e1,rfl,⟨t,h2⟩,e2,rfl,J1,q1,q2⟩:=ht x Qv δ hJ;rw[e1];dsimp only[Option.bind_some] at e2 q1 q2 ⊢;rw[e2];dsimp only[Option.bind_some];have ih:=w5 hc f J J1 (xs:=xs) fun y hy=>ht y (Qs _ hy);cases t with
  | true=>
   obtain⟨y,ef,p,ep,rfl⟩:=q1 rfl;rw[Qp rfl,ep];dsimp only[Option.bind_some];rw[ih,Q0,ef];rfl
  | false=>
   rw[Qu (by simp),ih,Q0,q2 rfl]
theorem Ii(hd:fb d h=some kvs)(hv:ig kvs (.inr x)=some v):ba d (.str x) h=some (v,h):=by
 simp only[ba,hd,rh,QX,hv,QT]
theorem AS(hd:fb d h=some kvs):iO (.str x) d h=some (.bl (!(ig kvs (.inr x)).isSome),h):=by
 simp only[iO,inD,hd,rh,QT]
end Sm
namespace Sm
theorem Et(q:Q (d,h))(e:δ[i]?=some (some d):=by with_unfolding_all rfl):Rn (ae i δ h) Q:=MV e q
theorem Ja(r:Rn (u xs δ h) Q)(hn:xs.length=n:=by with_unfolding_all rfl):Rn (gT n u (.tup xs) δ h) Q:=OL hn r
end Sm
namespace Sm
open PySem L2
theorem rH:∀(xs:List D)(P:List D->DS->MH->α->Prop)(δ:DS)(h:MH)(a:α),P xs δ h a->
  (∀x r δ h a,P (x::r) δ h a->lJ ws h=true∧Rn (g x δ h) fun q=>Rn (c q.1 q.2) fun t=>if t.1=true then Rn (m q.1 t.2 a) fun z=>P r z.1 z.2.1 z.2.2 else P r q.1 t.2 a)->
  (∀δ h a,P [] δ h a->lJ ws h=true∧Q (δ,h,a))->Rn (i9 ws g c m xs δ h a) Q
 | [],P,δ,h,a,p,_,fin=>by
  obtain⟨hc,q⟩:=fin δ h a p;exact⟨_,by unfold i9;rw[Qp hc],q⟩
 | x::r,P,δ,h,a,p,step,fin=>by
  obtain⟨hc,q,e1,t,e2,q3⟩:=step x r δ h a p;unfold i9;rw[Qp hc,e1];show Rn ((c q.1 q.2).bind _) Q;rw[e2];show Rn (if t.1=true then _ else _) Q
  by_cases z:t.1=true
  ·rw[Qp z] at q3 ⊢;obtain⟨y,e3,q4⟩:=q3;rw[e3];exact rH r P _ _ _ q4 step fin
  ·rw[Qu z] at q3 ⊢;exact rH r P _ _ _ q3 step fin
theorem Jc{α:Type}{caps:List (Option Nat)}{i:IM}{g:GM}{c:TM}{m:MK α}{a0:α}{out:α->D}{Q:D×MH->Prop}(hh:Rn (i δ h) fun p=>Rn (i9 p.2.1 g c m p.1 (gF caps δ) p.2.2 a0) fun q=>Q (out q.2.2,q.2.1)):Rn (Jj caps i g c m a0 out δ h) Q:=
 a9 (hh.imp fun p r=>Eo r)
theorem M0(hh:Rn (k δ h) fun p=>Rn (v δ p.2) fun q=>∃kk,rh p.1=some kk∧a.length < sizeLine∧Q (δ,q.2,putD a kk q.1)):Rn (mD k v δ h a) Q:=
 a9 (hh.imp fun p r=>a9 (r.imp fun q ⟨kk,e1,l,k⟩=>by rw[e1];show Rn (if a.length < sizeLine then _ else _) Q;rw[Qp l];exact⟨_,rfl,k⟩))
theorem Ag(hh:Rn (a δ h) fun p=>Rn (l δ p.2) fun q=>Rn (u δ q.2) fun r=>Rn (zd p.1 q.1 r.1 r.2) Q):Rn (uV a l u δ h) Q:=a9 (hh.imp fun _ x=>a9 (x.imp fun _ y=>a9 y))
theorem Ex(hh:Rn (ma δ h) fun p=>Rn (mb δ p.2) fun q=>Rn (f p.1 q.1 q.2) fun r=>∃b,r.1=.bl b∧if b=true then Rn (mc δ r.2) fun u=>Rn (f' q.1 u.1 u.2) Q else Q (.bl false,r.2)):Rn (hZ f f' ma mb mc δ h) Q:=
 a9 (hh.imp fun p x=>a9 (x.imp fun q y=>a9 (y.imp fun r ⟨b,e,k⟩=>by
  rw[e];cases b with
  | true=>rw[Qp rfl] at k;exact a9 k
  | false=>rw[Qu (by simp)] at k;exact⟨_,rfl,k⟩)))
theorem Mn(q:Q (.tup ds,h)):Rn (bJ ds h) Q:=⟨_,rfl,q⟩
theorem Mp(q:Q (.int (-a),h)):Rn (wq (.int a) h) Q:=⟨_,rfl,q⟩
theorem w_add(q:Q (.int (a+b),h)):Rn (bp (.int a) (.int b) h) Q:=⟨_,rfl,q⟩
theorem w_sub(q:Q (.int (a-b),h)):Rn (xF (.int a) (.int b) h) Q:=⟨_,rfl,q⟩
theorem w_lt(q:Q (.bl (decide (a < b)),h)):Rn (LB (.int a) (.int b) h) Q:=⟨_,rfl,q⟩
theorem Oe(q:Q (.bl (decide (a≤b)),h)):Rn (zI (.int a) (.int b) h) Q:=⟨_,rfl,q⟩
theorem Og(q:Q (.bl (decide (b < a)),h)):Rn (Dj (.int a) (.int b) h) Q:=⟨_,rfl,q⟩
theorem Oh(q:Q (.bl (decide (b≤a)),h)):Rn (Ny (.int a) (.int b) h) Q:=⟨_,rfl,q⟩
theorem Mw(q:Q (.bl (a==b),h)):Rn (cu (.int a) (.int b) h) Q:=⟨_,rfl,q⟩
theorem Mr(q:Q (.bl (!(a==b)),h)):Rn (nV (.int a) (.int b) h) Q:=⟨_,rfl,q⟩
theorem Mv(q:Q (.bl (x==y),h)):Rn (cu (.str x) (.str y) h) Q:=⟨_,rfl,q⟩
theorem Mq(q:Q (.bl (!(x==y)),h)):Rn (nV (.str x) (.str y) h) Q:=⟨_,rfl,q⟩
theorem Mu(q:Q (d,h)):Rn (ba (.tup (d::r)) (.int 0) h) Q:=⟨_,by
 show((il (d::r) 0).map fun z=>(z,h))=_;have:il (d::r) 0=some d:=by unfold il;rw[show xw (d::r).length 0=some 0 by unfold xw;simp;try lia];rfl
 rw[this];rfl,q⟩
theorem Mt(q:Q (e,h)):Rn (ba (.tup (d::e::r)) (.int 1) h) Q:=⟨_,by
 show((il (d::e::r) 1).map fun z=>(z,h))=_;have:il (d::e::r) 1=some e:=by unfold il;rw[show xw (d::e::r).length 1=some 1 by unfold xw;simp;try lia];rfl
 rw[this];rfl,q⟩
theorem Ms(q:Q (f,h)):Rn (ba (.tup (d::e::f::r)) (.int 2) h) Q:=⟨_,by
 show((il (d::e::f::r) 2).map fun z=>(z,h))=_;have:il (d::e::f::r) 2=some f:=by unfold il;rw[show xw (d::e::f::r).length 2=some 2 by unfold xw;simp;try lia];rfl
 rw[this];rfl,q⟩
theorem Jt(q:Q (.int r.length,h)):Rn (cZ [.tup r] h) Q:=⟨_,rfl,q⟩
theorem Ju(q:Q (.int r.length,h)):Rn (cZ [.lv r] h) Q:=⟨_,rfl,q⟩
inductive qi{α β:Type}(R:α->β->Prop):List α->List β->Prop where
 | nil:qi R [] []
 | cons {x y xs ys}:R x y->qi R xs ys->qi R (x::xs) (y::ys)
theorem qi.length:∀{xs:List α} {ys:List β},qi R xs ys->ys.length=xs.length
 | _,_,.nil=>rfl
 | _,_,.cons _ t=>by rw[QI,QI,qi.length t]
theorem qi.right:∀{xs:List α} {ys:List β},qi R xs ys->∀y∈ys,∃x∈xs,R x y
 | _,_,.nil,_,h=>by cases h
 | _,_,.cons r t,y,h=>by
  rcases QK.mp h with rfl | h
  ·exact⟨_,Qv,r⟩
  ·obtain⟨x,hx,r⟩:=qi.right t y h;exact⟨x,Qs _ hx,r⟩
theorem rG(R:D->D->Prop):∀{xs:List D} {δ:DS} {h:MH} (J:Nat->DS->MH->Prop),J 0 δ h->(∀i δ h,i≤xs.length->J i δ h->lJ ws h=true)->
  (∀i x δ h,xs[i]?=some x->J i δ h->Rn (g x δ h) fun q=>Rn (e q.1 q.2) fun y=>R x y.1∧J (i+1) q.1 y.2)->Rn (bU ws g bC e xs δ h) fun p=>qi R xs p.1∧∃δ',J xs.length δ' p.2
 | [],δ,h,J,hJ,hc,_=>by
  unfold bU;rw[Qp (hc 0 δ h (Qq _) hJ)];exact⟨_,rfl,.nil,δ,hJ⟩
 | x::xs,δ,h,J,hJ,hc,ht=>by
  unfold bU;rw[Qp (hc 0 δ h (Rw _) hJ)];obtain⟨⟨δ1,h1⟩,e1,⟨y,h2⟩,e2,r,J1⟩:=ht 0 x δ h rfl hJ;dsimp only at e2 r J1;obtain⟨⟨ys,h3⟩,e3,a,δ',J2⟩:=rG R (xs:=xs) (fun i=>J (i+1)) J1 (fun i δ h hl=>hc (i+1) δ h (Uk hl)) fun i y δ h hy=>ht (i+1) y δ h (by simpa using hy);refine⟨(y::ys,h3),?_,.cons r a,δ',J2⟩;rw[e1];dsimp only[Option.bind_some];show((some (true,h1)).bind _)=_;dsimp only[Option.bind_some];rw[Qp rfl,e2];dsimp only[Option.bind_some];rw[e3];rfl
theorem rE(R:D->D->Prop):∀{xs:List D} {δ:DS} {h:MH} (J:Nat->DS->MH->Prop),J 0 δ h->(∀i δ h,i≤xs.length->J i δ h->lJ ws h=true)->
  (∀i x δ h,xs[i]?=some x->J i δ h->Rn (g x δ h) fun q=>Rn (c q.1 q.2) fun t=>(t.1=true->Rn (e q.1 t.2) fun y=>R x y.1∧J (i+1) q.1 y.2)∧(t.1=false->J (i+1) q.1 t.2))->Rn (bU ws g c e xs δ h) fun p=>p.1.length≤xs.length∧(∀y∈p.1,∃x∈xs,R x y)∧∃δ',J xs.length δ' p.2
 | [],δ,h,J,hJ,hc,_=>by
  unfold bU;rw[Qp (hc 0 δ h (Qq _) hJ)];exact⟨_,rfl,Qq _,fun _ z=>(nomatch z),δ,hJ⟩
 | x::xs,δ,h,J,hJ,hc,ht=>by
  unfold bU;rw[Qp (hc 0 δ h (Rw _) hJ)];obtain⟨⟨δ1,h1⟩,e1,⟨t,h2⟩,e2,q1,q2⟩:=ht 0 x δ h rfl hJ;dsimp only at e2 q1 q2;rw[e1];dsimp only[Option.bind_some];rw[e2];dsimp only[Option.bind_some];have next:=fun {δ':DS} {h':MH} (J1:J 1 δ' h')=>rE R (xs:=xs) (fun i=>J (i+1)) J1 (fun i δ h hl=>hc (i+1) δ h (Uk hl)) fun i y δ h hy=>ht (i+1) y δ h (by simpa using hy)
  cases t with
  | true=>
   obtain⟨⟨y,h3⟩,e3,r,J1⟩:=q1 rfl;dsimp only at r J1;obtain⟨⟨ys,h4⟩,e4,l,a,δ',J2⟩:=next J1
   refine⟨(y::ys,h4),?_,Uk l,fun z hz=>?_,δ',J2⟩
   ·rw[Qp rfl,e3];dsimp only[Option.bind_some];rw[e4];rfl
   ·rcases QK.mp hz with rfl | hz
    ·exact⟨x,Qv,r⟩
    ·obtain⟨u,hu,r⟩:=a z hz;exact⟨u,Qs _ hu,r⟩
  | false=>
   obtain⟨⟨ys,h4⟩,e4,l,a,δ',J2⟩:=next (q2 rfl)
   refine⟨(ys,h4),?_,V4 l,fun z hz=>?_,δ',J2⟩
   ·rw[Qu (by decide),e4]
   ·obtain⟨u,hu,r⟩:=a z hz;exact⟨u,Qs _ hu,r⟩
end Sm
namespace L2
open PySem PySem.Spec PyProof.Rows
abbrev O5:Hp:=fun _=>none
structure Tab(P:Program)(w:World)(K:FR)(mg:Str->Option Value)(nm:Str)(tb:List (Str×List Int)):Prop where
 ex:∃(a:Addr)(o:Obj)(es:Array DictEntry)(ep:Nat)(kvs:List (Str×Value)),mg nm=some (.ref a)∧K.lookup a=some o∧o.ExactDict∧o.data=.dict es ep∧(a==sysModules)=false∧KeysOf (strKind P w) es∧Pairs (strKind P w) es.toList kvs∧(kvs.map (·.1)).Nodup∧
  Sm.qi (fun(x:Str×List Int)(y:Str×Value)=>x.1=y.1∧∃(t:Addr)(u:Obj)(its:Array Value)(n:Nat),y.2=.ref t∧K.lookup t=some u∧u.cls=.type "tuple"∧u.dict=none∧u.data=.seq its n∧its.size≤sizeLine∧IntsAre its.toList x.2) tb kvs
theorem Cq{K:FR}:∀{tb:List (Str×List Int)} {kvs:List (Str×Value)},Sm.qi (fun(x:Str×List Int)(y:Str×Value)=>x.1=y.1∧∃(t:Addr)(u:Obj)(its:Array Value)(n:Nat),y.2=.ref t∧K.lookup t=some u∧u.cls=.type "tuple"∧u.dict=none∧u.data=.seq its n∧its.size≤sizeLine∧IntsAre its.toList x.2) tb kvs->∀x:Str,
  (∀is,tb.lookup x=some is->∃t,valueAt kvs x=some (.ref t)∧∀H,jS K H t (is.map V.int))∧(valueAt kvs x).isSome=(tb.lookup x).isSome:=by
 intro tb kvs h
 induction h with
 | nil=>exact fun x=>⟨fun is e=>(nomatch e),rfl⟩
 | @cons p q tb kvs r l ih=>
  intro x;obtain⟨a,is0⟩:=p;obtain⟨b,v⟩:=q;obtain⟨e0,t,u,its,n,e1,h1,h2,h3,h4,h5,h6⟩:=r;dsimp only at e0 e1 h6;subst e0;subst e1
  by_cases hx:x=a
  ·subst hx;have hv:valueAt ((x,Value.ref t)::kvs) x=some (.ref t):=by unfold valueAt;simp
   have hl:((x,is0)::tb).lookup x=some is0:=by simp
   refine⟨fun is e=>?_,by rw[hv,hl];rfl⟩;rw[hl] at e;cases e;exact⟨t,hv,fun H=>.inr ⟨u,its,n,h1,h2,h4,h5,iT h6,h3⟩⟩
  ·have hv:valueAt ((a,Value.ref t)::kvs) x=valueAt kvs x:=by
    unfold valueAt;rw[Ut (by simpa using fun z=>hx z.symm)]
   have hl:((a,is0)::tb).lookup x=tb.lookup x:=by
    rw[Rf,show(x==a)=false by simpa using hx]
   rw[hv,hl];exact ih x
theorem Tab.dict(T:Tab X.prog X.w X.K X.mg nm tb)(I:Inv X pins σ H s):∃(a:Addr)(kvs:List (Str×Value)),X.mg nm=some (.ref a)∧(a==sysModules)=false∧s.heap.DictOf (strKind X.prog X.w) a kvs∧∀x:Str,
  (∀is,tb.lookup x=some is->∃t,valueAt kvs x=some (.ref t)∧∀H,jS X.K H t (is.map V.int))∧(valueAt kvs x).isSome=(tb.lookup x).isSome:=by
 obtain⟨a,o,es,ep,kvs,h1,h2,h3,h4,h5,h6,h7,h8,h9⟩:=T.ex;exact⟨a,kvs,h1,h5,⟨o,es,ep,I.vO a o h2,h3,h4,h6,h7,h8⟩,Cq h9⟩
theorem KG(T:Tab X.prog X.w X.K X.mg nm tb)(hg:Gl X nm)(hi:PE X i ti)(hs:IP i)(hd:(nm==("__debug__":Str))=false):
  PE X (.Subscript (.Name nm p) i pos) (fun σ H Q=>ti σ H fun y H1=>∃x is,y=.str x∧tb.lookup x=some is∧∀t,jS X.K O5 t (is.map V.int)->Q (.ref t) H1):=by
 intro pins s σ H Q I h;obtain⟨a,kvs,hm,hsm,dd,hv⟩:=T.dict I;refine GG Vg.lookup hs (rL I hg hm (cU (hi pins s σ H _ I h) fun iv s2 ⟨y,H2,I2,ry,x,is,ey,l,q⟩=>?_) hd);subst ey;obtain⟨t,rfl⟩:=ry;obtain⟨a',kvs',hm',hsm',dd',hv'⟩:=T.dict I2;rw[hm] at hm';cases hm';obtain⟨u,e,sq⟩:=(hv' x).1 is l;exact⟨dd'.typeIs,wpAny_getItem_of (by show Value.isStrOf x (.str x t)=true;unfold Value.isStrOf;simp) dd'.mapOf e ⟨.ref u,H2,I2.tok _,rfl,q u (sq _)⟩⟩
theorem CL(T:Tab X.prog X.w X.K X.mg nm tb)(hg:Gl X nm)(ho:PE X o to)(hd:(nm==("__debug__":Str))=false):
  PC X .NotIn o (.Name nm p) (fun σ H Q=>to σ H fun y H1=>∃x,y=.str x∧Q (.bl (!(tb.lookup x).isSome)) H1):=by
 intro pins s σ H Q I h;refine cU (ho pins s σ H _ I h) fun iv s1 ⟨y,H1,I1,ry,x,ey,q⟩=>?_;subst ey;obtain⟨t,rfl⟩:=ry;obtain⟨a,kvs,hm,hsm,dd,hv⟩:=T.dict I1;refine rL I1 hg hm ?_ hd;refine wpAny_notIn_of (knd:=PySem.strKind X.prog X.w) (k:=x) (by show Value.isStrOf x (.str x t)=true;unfold Value.isStrOf;simp) hsm dd.mapOf ?_;rw[(hv x).2];exact⟨.bl _,H1,I1.tok _,rfl,q⟩
end L2
namespace Sm
open PySem L2 PySem.Spec PyProof.Rows
noncomputable def HZ(tb:List (Str×List Int))(d:D)(h:MH):Option (D×MH):=match d with
 | .str x=>(tb.lookup x).map fun is=>(.tup (is.map D.int),h)
 | _=>none
noncomputable def Fu(tb:List (Str×List Int))(d:D)(h:MH):Option (D×MH):=match d with
 | .str x=>some (.bl (!(tb.lookup x).isSome),h)
 | _=>none
theorem Ed(T:Tab X.prog X.w X.K X.mg nm tb)(hi:SE X i mi)(hg:Gl X nm:=by unfold Gl;ac_nf)(hs:IP i:=by unfold IP;intro _ _;ac_nf)(hd:(nm==("__debug__":Str))=false:=by ac_nf):SE X (.Subscript (.Name nm p) i pos) (B2 (HZ tb) mi):=
 (KG T hg hi hs hd).imp fun σ H Q ⟨ρ,δ,h,d,h',R,S,e,k⟩=>by
  obtain⟨⟨x,h1⟩,e1,e2⟩:=bS e;dsimp only at e2;refine⟨ρ,δ,h,x,h1,R,S,e1,fun v H1 ⟨ρ1,T1,S1,r1⟩=>?_⟩;unfold HZ at e2
  split at e2
  ·rename_i y;obtain⟨is,e3,e4⟩:=gL e2;cases e4;cases r1;exact⟨_,is,rfl,e3,fun t sq=>k _ _ ⟨ρ1,T1,S1,.tup (.inr sq) (repL_ints' is)⟩⟩
  ·cases e2
theorem GH(T:Tab X.prog X.w X.K X.mg nm tb)(hi:SE X i mi)(hg:Gl X nm:=by unfold Gl;ac_nf)(hd:(nm==("__debug__":Str))=false:=by ac_nf):ST X (.Compare i [.NotIn] [.Name nm p] pos) (aL (B2 (Fu tb) mi)):=
 (Kq (CL T hg hi hd) rfl).imp fun σ H Q ⟨ρ,δ,h,c,h',R,S,e,k⟩=>by
  obtain⟨⟨y,h2⟩,e0,e9⟩:=bS e;obtain⟨⟨x,h1⟩,e1,e2⟩:=bS e0;dsimp only at e2;refine⟨ρ,δ,h,x,h1,R,S,e1,fun v H1 ⟨ρ1,T1,S1,r1⟩=>?_⟩;unfold Fu at e2
  split at e2
  ·rename_i y;cases e2;cases e9;cases r1;exact⟨_,rfl,_,rfl,k _ _ T1 S1⟩
  ·cases e2
end Sm
namespace Hd
open PySem PySem.W PySem.Spec PyProof.Rows L2 Sm
abbrev Sub(h h':Heap):Prop:=∀b o,h.get? b=some o->h'.get? b=some o
theorem z7(k:Sub h h')(x:rowAt h e=some r):rowAt h' e=some r:=by
 unfold rowAt at x ⊢
 split at x
 ·split at x
  ·split at x
   ·rename_i u hu;rw[k _ _ hu];exact x
   ·cases x
  ·cases x
 ·cases x
theorem qm(k:Sub h h'):∀{es:List DictEntry} {r:List (Str×Int×List Int)},mB h es=some r->mB h' es=some r
 | [],_,x=>x
 | e::es,r,x=>by
  unfold mB at x ⊢;obtain⟨y,e1,x⟩:=Uj.mp x;obtain⟨ys,e2,x⟩:=QL.mp x;rw[z7 k e1,qm k e2];exact congrArg some x
theorem zN(k:Sub h h')(x:tabAt h nm=some r):tabAt h' nm=some r:=by
 have hg:∀v,h.nsMap mainGlobals nm=some v->h'.nsMap mainGlobals nm=some v:=fun v e=>by
  unfold Heap.nsMap at e ⊢
  split at e
  ·rename_i o ho;rw[k _ _ ho];exact e
  ·cases e
 unfold tabAt at x ⊢
 split at x
 ·rename_i a ha;rw[hg _ ha];dsimp only
  split at x
  ·cases x
  ·rename_i hs;rw[Qu hs]
   split at x
   ·rename_i o ho;rw[k _ _ ho];dsimp only
    split at x
    ·rename_i hc;rw[Qp hc]
     split at x
     ·exact qm k x
     ·cases x
    ·cases x
   ·cases x
 ·cases x
theorem za:∀{vs:List Value} {is:List Int},BQ vs=some is->IntsAre vs is
 | [],_,e=>by cases e;exact .nil
 | v::r,is,e=>by
  cases v <;> first |(cases e;done) | skip
  obtain⟨js,e1,e2⟩:=QL.mp (show(BQ r).map _=some is from e);subst e2;exact .cons _ _ (za e1)
theorem zo(h:B5 v t=true):v=.type t:=by
 unfold B5 at h
 split at h
 ·rw[Q3 h]
 ·cases h
theorem sy:∀{es:List DictEntry} {tb:List (Str×List Int)},mB h es=some (tb.map fun x=>(x.1,hashStr w x.1,x.2))->
  ∃kvs:List (Str×Value),(∀e∈es,∃k,(PySem.strKind P w).is k e.key=true∧e.hash=(PySem.strKind P w).hash k)∧Pairs (PySem.strKind P w) es kvs∧kvs.map (·.1)=tb.map (·.1)∧
   qi (fun(x:Str×List Int)(y:Str×Value)=>x.1=y.1∧∃(t:Addr)(u:Obj)(its:Array Value)(n:Nat),y.2=.ref t∧(bx h).lookup t=some u∧u.cls=.type "tuple"∧u.dict=none∧u.data=.seq its n∧its.size≤sizeLine∧IntsAre its.toList x.2) tb kvs
 | [],tb,x=>by
  have hz:tb=[]:=by
   have:=Option.some.inj x;exact List.map_eq_nil_iff.mp this.symm
  subst hz;exact⟨[],fun _ z=>(nomatch z),.nil,rfl,.nil⟩
 | e::es,tb,x=>by
  unfold mB at x;obtain⟨y,e1,x⟩:=Uj.mp x;obtain⟨ys,e2,x⟩:=QL.mp x;cases tb with
  | nil=>cases x
  | cons q tb=>
   rw[Qt] at x;obtain⟨rfl,rfl⟩:=List.cons.inj x;obtain⟨kvs,h1,h2,h3,h4⟩:=sy (P:=P) e2;unfold rowAt at e1
   split at e1
   ·rename_i x0 tk hk
    split at e1
    ·rename_i t hv
     split at e1
     ·rename_i u hu
      split at e1
      ·rename_i hc;rw[QJ] at hc
       split at e1
       ·rename_i its n hd
        split at e1
        ·rename_i hs;obtain⟨is,e3,e4⟩:=QL.mp e1;have e5:x0=q.1:=congrArg (·.1) e4;have e6:e.hash=hashStr w q.1:=congrArg (·.2.1) e4;have e7:is=q.2:=congrArg (·.2.2) e4;have hki:(PySem.strKind P w).is q.1 e.key=true:=by rw[hk,e5];show Value.isStrOf q.1 (.str q.1 tk)=true;unfold Value.isStrOf;simp
         refine⟨(q.1,.ref t)::kvs,fun e' he'=>?_,.cons hki hv h2,by rw[Qt,Qt,h3],.cons ⟨rfl,t,u,its,n,rfl,lh hu rfl,zo hc.1,by simpa using hc.2,hd,QB hs (by decide),by rw[←e7];exact za e3⟩ h4⟩;rcases QK.mp he' with rfl | he'
         ·exact⟨q.1,hki,e6⟩
         ·exact h1 e' he'
        ·cases e1
       ·cases e1
      ·cases e1
     ·cases e1
    ·cases e1
   ·cases e1
theorem tab_of(x:tabAt h nm=some (tb.map fun x=>(x.1,hashStr w x.1,x.2)))(g:h.Ns mainGlobals mg)(nd:(tb.map (·.1)).Nodup):Tab P w (bx h) mg nm tb:=by
 unfold tabAt at x
 split at x
 ·rename_i a ha
  split at x
  ·cases x
  ·rename_i hs
   split at x
   ·rename_i o ho
    split at x
    ·rename_i hc;rw[QJ,QJ] at hc
     split at x
     ·rename_i es ep hd;obtain⟨kvs,h1,h2,h3,h4⟩:=sy (P:=P) x;have hm:mg nm=some (.ref a):=by
       obtain⟨o',es',ep',g1,g2,_,g3⟩:=g;rw[←g3 nm,←ha];unfold Heap.nsMap;rw[g1];dsimp only;rw[g2]
      exact⟨a,o,es,ep,kvs,hm,lh ho rfl,⟨zo hc.1.1,by simpa using hc.1.2,Q3 hc.2⟩,hd,by simpa using hs,fun e he=>h1 e (Rb.mpr he),h2,by rw[h3];exact nd,h4⟩
     ·cases x
    ·cases x
   ·cases x
 ·cases x
end Hd
namespace L2
open PySem PySem.Spec PyProof.Rows
end L2
namespace Sm
open PySem L2 PySem.Spec PyProof.Rows
end Sm
namespace Sb
open PySem L2 PySem.Spec PyProof.Rows
open Builtin.SmallTypes (nextOf ownedTupleIsFree ownedTupleHandOut)
end Sb
namespace PySem
end PySem
namespace L2
open PySem PySem.Spec PyProof.Rows
end L2
namespace L2
open PySem PySem.Spec PyProof.Rows Sb
end L2
namespace Sm
open PySem L2 PySem.Spec PyProof.Rows Sb
end Sm
namespace Sb
open PySem L2 PySem.Spec PyProof.Rows
variable {P:Program} {w:World} {A:Around} {E:Value->Shared->Prop} {s:Shared} {b c:Bool}
end Sb
namespace Sb
open PySem L2 PySem.Spec PyProof.Rows
variable {P:Program} {w:World} {A:Around} {E:Value->Shared->Prop} {s:Shared} {b c:Bool}
end Sb
namespace L2
open PySem PySem.Spec PyProof.Rows Sb
end L2
namespace Sm
open PySem L2 PySem.Spec PyProof.Rows Sb
end Sm
namespace PySem
end PySem
namespace L2
open PySem PySem.Spec PyProof.Rows
end L2
namespace Sm
open PySem L2 PySem.Spec PyProof.Rows
end Sm
namespace L2
open PySem PySem.Spec PyProof.Rows
def eC(xs:Array Nat):Prop:=∀i j (hi:i < xs.size) (hj:j < xs.size),i < j->xs[i] < xs[j]
theorem uc(xs:Array Nat)(j:Nat)(hx:eC xs):∀(fuel lo hi:Nat),hi-lo≤fuel->lo≤hi->hi≤xs.size->(∀i (h:i < xs.size),i < lo->xs[i] < j)->(∀i (h:i < xs.size),hi≤i->j≤xs[i])->
  SetTable.below.go xs j fuel lo hi≤xs.size∧(∀i (h:i < xs.size),i < SetTable.below.go xs j fuel lo hi->xs[i] < j)∧(∀i (h:i < xs.size),SetTable.below.go xs j fuel lo hi≤i->j≤xs[i])
 | 0,lo,hi,hf,hl,hs,h1,h2=>by
  have:lo=hi:=by lia
  subst this;unfold SetTable.below.go;exact⟨hs,h1,h2⟩
 | fuel+1,lo,hi,hf,hl,hs,h1,h2=>by
  unfold SetTable.below.go
  by_cases hlt:lo < hi
  ·rw[Qp hlt];dsimp only;have hm:(lo+hi) / 2 < xs.size:=by lia
   have hg:xs.getD ((lo+hi) / 2) j=xs[(lo+hi) / 2]:=by simp[Array.getD,hm]
   rw[hg]
   by_cases hc:xs[(lo+hi) / 2] < j
   ·rw[Qp hc];refine uc xs j hx fuel _ _ (by lia) (by lia) hs (fun i h hi'=>?_) h2;rcases Ss i ((lo+hi) / 2) with q | q
    ·exact TR (hx i _ h hm q) hc
    ·have:i=(lo+hi) / 2:=by lia
     subst this;exact hc
   ·rw[Qu hc];refine uc xs j hx fuel _ _ (by lia) (by lia) (by lia) h1 (fun i h hi'=>?_);rcases Ss ((lo+hi) / 2) i with q | q
    ·have:=hx _ i hm h q;lia
    ·have:i=(lo+hi) / 2:=by lia
     subst this;lia
  ·rw[Qu hlt];have:lo=hi:=by lia
   subst this;exact⟨hs,h1,h2⟩
theorem ib(xs:Array Nat)(j:Nat)(hx:eC xs):SetTable.below xs j≤xs.size∧(∀i (h:i < xs.size),i < SetTable.below xs j->xs[i] < j)∧(∀i (h:i < xs.size),SetTable.below xs j≤i->j≤xs[i]):=
 uc xs j hx _ _ _ (by lia) (by lia) (Qq _) (fun i h z=>absurd z (Sy _)) (fun i h z=>absurd (QW h z) (Tc _))
theorem jb(hx:eC xs)(h:xs[i]?=some j):SetTable.below xs j=i:=by
 obtain⟨hi,e⟩:=SR.mp h;have b:=ib xs j hx;rcases UR (SetTable.below xs j) i with q | q | q
 ·have h1:=b.2.2 (SetTable.below xs j) (by lia) (Qq _);have h2:=hx _ i (by lia) hi q
  lia
 ·exact q
 ·have:=b.2.1 i hi q
  lia
theorem oU{t:SetTable}{i j:Nat}(hx:eC t.place)(h:t.place[i]?=some j):t.slot j=.live i:=by
 unfold SetTable.slot;rw[jb hx h];dsimp only;rw[Qp (by rw[h];simp)]
theorem zQ{t:SetTable}{j:Nat}(hd:t.dummies=#[])(h:j∉t.place.toList):t.slot j=.empty:=by
 unfold SetTable.slot;dsimp only;rw[Qu (by
  intro z;have z:=eq_of_beq z;exact h (by rw[Rb];exact Uy z)),hd]
 rfl
noncomputable def road(t:SetTable)(h:Int):Nat->SetTable.Probe
 | 0=>t.probeStart h
 | n+1=>t.advance (road t h n)
theorem vo(e:t.mask=t'.mask)(h:Int):∀n,road t h n=road t' h n
 | 0=>by show t.probeStart h=t'.probeStart h;unfold SetTable.probeStart;rw[e]
 | n+1=>by
  show t.advance (road t h n)=t'.advance (road t' h n);rw[vo e h n];unfold SetTable.advance;rw[e]
theorem sA(t:SetTable)(h:Int):∀n,(road t h n).dummy=none
 | 0=>rfl
 | n+1=>by
  have:=sA t h n;show(t.advance (road t h n)).dummy=none;unfold SetTable.advance
  split
  ·exact this
  ·exact this
theorem sD(hm:t.mask=7)(h:Int):∀n,(road t h n).more=0∧(road t h n).j=(road t h n).i∧(road t h n).i < 8∧(road t h n).perturb=SetTable.bits h / 32^n
 | 0=>by
  show(t.probeStart h).more=0∧_;unfold road SetTable.probeStart SetTable.runEnd;rw[hm];dsimp only;refine⟨by rw[Qu (by lia)];lia,rfl,Vd _ (by lia),by simp⟩
 | n+1=>by
  obtain⟨h1,h2,h3,h4⟩:=sD hm h n;show(t.advance (road t h n)).more=0∧(t.advance (road t h n)).j=(t.advance (road t h n)).i∧(t.advance (road t h n)).i < 8∧(t.advance (road t h n)).perturb=_;unfold SetTable.advance SetTable.leap SetTable.runEnd;rw[hm,h1,Qu (by lia)];dsimp only;refine⟨by rw[Qu (by lia)];lia,rfl,Vd _ (by lia),?_⟩;rw[h4,Nat.div_div_eq_div_mul,Nat.pow_succ]
theorem z8(hm:t.mask=7)(h:Int)(n:Nat):(road t h (n+1)).i=((road t h n).i*5+1+(road t h n).perturb / 32) % 8:=by
 obtain⟨h1,h2,h3,h4⟩:=sD hm h n;show(t.advance (road t h n)).i=_;unfold SetTable.advance SetTable.leap;rw[hm,h1,Qu (by lia)]
theorem IC(h:Int):SetTable.bits h < 32^13:=by
 unfold SetTable.bits;have:h % (2^64:Int) < 2^64:=RG _ (by decide);have h0:0≤h % (2^64:Int):=Rv _ (by decide)
 lia
noncomputable def Qa(i:Nat):Nat:=(i*5+1) % 8
noncomputable def HK:Nat->Nat->Nat
 | 0,i=>i
 | n+1,i=>Qa (HK n i)
theorem sC(hm:t.mask=7)(h:Int):∀k,(road t h (13+k)).j=HK k (road t h 13).j
 | 0=>rfl
 | k+1=>by
  have ih:=sC hm h k;rw[(sD hm h _).2.1] at ih;rw[(sD hm h _).2.1,show 13+(k+1)=(13+k)+1 from rfl,z8 hm h (13+k),(sD hm h _).2.2.2];have hz:SetTable.bits h / 32^(13+k) / 32=0:=by
   have:SetTable.bits h / 32^(13+k)=0:=by
    refine Nat.div_eq_of_lt (QW (IC h) ?_);exact VM (by lia) (by lia)
   rw[this]
  rw[hz,ih];rfl
theorem HL:∀i:_root_.Fin 8,∀j:_root_.Fin 8,∃k:_root_.Fin 8,HK k.1 i.1=j.1:=by decide
theorem lcg_all'(i j:Nat)(hi:i < 8)(hj:j < 8):∃k,k < 8∧HK k i=j:=by
 obtain⟨k,hk⟩:=HL ⟨i,hi⟩ ⟨j,hj⟩;exact⟨k.1,k.2,hk⟩
theorem CB(hm:t.mask=7)(h:Int)(j:Nat)(hj:j < 8):∃n,n < 21∧(road t h n).j=j:=by
 have h13:(road t h 13).j < 8:=by rw[(sD hm h 13).2.1];exact(sD hm h 13).2.2.1
 have hl:=sC hm h;revert h13 hl;generalize (road t h 13).j=r;intro h13 hl;obtain⟨k,hk1,hk⟩:=lcg_all' r j h13 hj;exact⟨13+k,by lia,(hl k).trans hk⟩
theorem sZ [DecidableEq W]:∀(l ws:List W),l.Nodup->(∀x∈l,x∈ws)->l.length≤ws.length
 | [],ws,_,_=>Rw _
 | x::l,ws,hn,hs=>by
  have hn:=RI.mp hn;have hx:=hs x (.head _);have:=sZ l (ws.erase x) hn.2 fun y hy=>by
   have:y≠x:=fun e=>hn.1 (e ▸ hy);exact(List.mem_erase_of_ne this).mpr (hs y (.tail _ hy))
  rw[Vm hx] at this;have h0:0 < ws.length:=Vx hx;simp only[QI]
  lia
theorem z9(hm:t.mask=7)(h:Int)(hs:t.place.size < 8):∃n,n < 21∧(road t h n).j∉t.place.toList:=by
 have:∃j,j < 8∧j∉t.place.toList:=by
  apply S8;intro z;have hsub:List.range 8 ⊆ t.place.toList:=fun j hj=>by
   apply S8;intro q;exact z ⟨j,RL.mp hj,q⟩
  have:=sZ (List.range 8) t.place.toList List.nodup_range hsub;simp at this
  lia
 obtain⟨j,hj,hn⟩:=this;obtain⟨n,h1,h2⟩:=CB hm h j hj;exact⟨n,h1,by rw[h2];exact hn⟩
theorem Ft [DecidablePred p]:∀{n:Nat},p n->∃m,m≤n∧p m∧∀i,i < m->¬p i
 | 0,h=>⟨0,Qq _,h,fun i hi=>absurd hi (Sy _)⟩
 | n+1,h=>by
  by_cases q:∃i,i≤n∧p i
  ·obtain⟨i,hi,hp⟩:=q;have:∀k,k≤n->p k->∃m,m≤k∧p m∧∀i,i < m->¬p i:=by
    intro k
    induction k using Nat.strongRecOn with
    | _ k ih=>
     intro hk hpk
     by_cases q2:∃i,i < k∧p i
     ·obtain⟨i,hi,hp⟩:=q2;obtain⟨m,h1,h2,h3⟩:=ih i hi (by lia) hp;exact⟨m,by lia,h2,h3⟩
     ·exact⟨k,Qq _,hpk,fun i hi hp=>q2 ⟨i,hi,hp⟩⟩
   obtain⟨m,h1,h2,h3⟩:=this i hi hp;exact⟨m,by lia,h2,h3⟩
  ·exact⟨n+1,Qq _,h,fun i hi hp=>q ⟨i,by lia,hp⟩⟩
theorem yH{t:SetTable}(hx:eC t.place)(hd:t.dummies=#[])(hashAt:Nat->Int)(h:Int){N:Nat}(hN:(road t h N).j∉t.place.toList):∀(fuel m:Nat),m≤N->N-m < fuel->(∀i,i < N->(road t h i).j∈t.place.toList)->
  (SetTable.probe.go t hashAt h fuel (road t h m)=some (.empty (road t h N).j none)∧(∀c i,m≤c->c < N->t.place[i]?=some (road t h c).j->hashAt i≠h))∨
  ∃c i,m≤c∧c < N∧t.place[i]?=some (road t h c).j∧hashAt i=h∧(∀c' i,m≤c'->c' < c->t.place[i]?=some (road t h c').j->hashAt i≠h)∧SetTable.probe.go t hashAt h fuel (road t h m)=some (.candidate (road t h c).j i (road t h (c+1)))
 | 0,m,hm,hf,hl=>absurd hf (Sy _)
 | fuel+1,m,hm,hf,hl=>by
  unfold SetTable.probe.go
  by_cases e:m=N
  ·subst e;rw[zQ hd hN];refine .inl ⟨?_,fun c i h1 h2=>absurd h2 (by lia)⟩;rw[sA]
  ·have hlt:m < N:=by lia
   obtain⟨i,hi,hv⟩:=VO (Rb.mp (hl m hlt));have hg:t.place[i]?=some (road t h m).j:=by rw[QV hi,hv]
   rw[oU hx hg];dsimp only;have uni:∀i',t.place[i']?=some (road t h m).j->i'=i:=fun i' h'=>(jb hx h').symm.trans (jb hx hg)
   by_cases hh:hashAt i=h
   ·refine .inr ⟨m,i,Qq _,hlt,hg,hh,fun c' i' h1 h2=>absurd h2 (by lia),?_⟩;rw[Qp (by rw[hh];simp)];rfl
   ·rw[Qu (by simpa using hh)];show _∨_;rcases yH hx hd hashAt h hN fuel (m+1) hlt (by lia) hl with⟨h1,h2⟩ |⟨c,i2,h1,h2,h3,h4,h5,h6⟩
    ·refine .inl ⟨h1,fun c i' hc hcN hp=>?_⟩;rcases VU hc with q | q
     ·subst q;rw[uni i' hp];exact hh
     ·exact h2 c i' q hcN hp
    ·refine .inr ⟨c,i2,by lia,h2,h3,h4,fun c' i' hc hcc hp=>?_,h6⟩;rcases VU hc with q | q
     ·subst q;rw[uni i' hp];exact hh
     ·exact h5 c' i' q hcc hp
end L2
namespace L2
open PySem PySem.Spec PyProof.Rows PySem.SeqAt
noncomputable def dE:Nat->PyData->Bool
 | _,.int _=>true
 | _,.str x=>PyData.strOk x
 | n+1,.tuple xs=>xs.all (dE n)
 | _,_=>false
theorem xb:∀(n:Nat) {d e:PyData},dE n d=true->dE n e=true->PyData.eqv d e=true->d=e:=by
 intro n
 induction n with
 | zero=>
  intro d e hd he h;cases d <;> cases e <;> simp_all [dE,PyData.eqv]
 | succ n ih=>
  have hl:∀(xs ys:List PyData),xs.all (dE n)=true->ys.all (dE n)=true->PyData.eqvAll xs ys=true->xs=ys:=by
   intro xs
   induction xs with
   | nil=>intro ys _ _ h;cases ys with | nil=>rfl | cons _ _=>simp[PyData.eqvAll] at h
   | cons x xs ihx=>
    intro ys h1 h2 h;cases ys with
    | nil=>simp[PyData.eqvAll] at h
    | cons y ys=>
     rw[TB,QJ] at h1 h2;rw[PyData.eqvAll,QJ] at h;rw[ih h1.1 h2.1 h.1,ihx ys h1.2 h2.2 h.2]
  intro d e hd he h;cases d <;> cases e <;> first
   |(simp_all [dE,PyData.eqv];done)
   |(rename_i xs ys;rw[PyData.eqv] at h;rw[hl xs ys hd he h])
theorem rJ:∀(n:Nat) {d:PyData},dE n d=true->d.canLay0=true∧d.depth≤n:=by
 intro n
 induction n with
 | zero=>
  intro d hd;cases d <;> simp_all [dE,PyData.canLay0,PyData.depth]
 | succ n ih=>
  have hl:∀(xs:List PyData),xs.all (dE n)=true->PyData.canLayAll0 xs=true∧PyData.depthAll xs≤n:=by
   intro xs
   induction xs with
   | nil=>intro _;exact⟨by simp[PyData.canLayAll0],by simp[PyData.depthAll]⟩
   | cons x xs ihx=>
    intro h1;rw[TB,QJ] at h1;obtain⟨a1,a2⟩:=ih h1.1;obtain⟨b1,b2⟩:=ihx h1.2;refine⟨by rw[PyData.canLayAll0,a1,b1];rfl,?_⟩;rw[PyData.depthAll]
    lia
  intro d hd;cases d <;> first
   |(simp_all [dE,PyData.canLay0,PyData.depth];done)
   |(rename_i xs;obtain⟨a1,a2⟩:=hl xs hd;refine⟨(by rw[PyData.canLay0];exact a1),?_⟩;rw[PyData.depth];lia)
noncomputable def ij(w:World):Nat->PyData->Int
 | _,.int i=>Lk w (.inl i)
 | _,.str x=>Lk w (.inr x)
 | n+1,.tuple xs=>reduceHash (Builtin.Tuple.tupleHashOf (xs.map (ij w n)))
 | _,_=>0
theorem C6:∀(n:Nat) {A:Around} {s:Shared} {d:PyData} {v:Value} {as:List Addr} {Q:Int->Shared->Prop},A.units+n < cLine->dE n d=true->Reads s.heap v d as->(∀k,Q (ij w n d) {s with toks:=s.toks+k})->
  wpAny (model P w) A (pyHash v) Q E s:=by
 have leaf:∀(n:Nat) {A:Around} {s:Shared} {d:PyData} {v:Value} {as:List Addr} {Q:Int->Shared->Prop},(∀xs,d≠.tuple xs)->dE n d=true->Reads s.heap v d as->(∀k,Q (ij w n d) {s with toks:=s.toks+k})->wpAny (model P w) A (pyHash v) Q E s:=by
  intro n A s d v as Q hnt hp hr h;cases hr with
  | int i t=>exact(aO P w).pyHash (k:=.inl i) (qv P w i t) (by have:=h 1;cases n <;> exact this)
  | str x t=>exact(aO P w).pyHash (k:=.inr x) (qu P w x t) (by have:=h 1;cases n <;> exact this)
  | tuple=>exact absurd rfl (hnt _)
  | none=>cases n <;> simp[dE] at hp
  | bool=>cases n <;> simp[dE] at hp
  | list=>cases n <;> simp[dE] at hp
  | dict=>cases n <;> simp[dE] at hp
 intro n
 induction n with
 | zero=>
  intro A s d v as Q hu hp hr h;exact leaf 0 (fun xs e=>by subst e;simp[dE] at hp) hp hr h
 | succ n ih=>
  intro A s d v as Q hu hp hr h
  by_cases hnt:∀xs,d≠.tuple xs
  ·exact leaf (n+1) hnt hp hr h
  ·have:∃xs,d=.tuple xs:=S8 fun z=>hnt fun xs e=>z ⟨xs,e⟩;obtain⟨xs,rfl⟩:=this;cases hr with
   | @tuple a o vs m _ _ ho hc hd hall=>
    have hT:s.TypeIs (.ref a) "tuple":=⟨o,ho,hc⟩;have hp':xs.all (dE n)=true:=hp;unfold pyHash
    first | unfold pyHashByItsType | skip
    first | refine Qj (wpAny_cRoomFor_or (.inr (by lia)) ?_) | skip
    refine Qj (Tt hT TH.lookup ?_);show wpAny _ _ (if(some (Value.builtin "tuple.__hash__")==some Value.none)=true then _ else _) Q E s;rw[Qu (by rw[beq_builtin_none];exact Rg)];refine Qj (Tt hT TH.lookup ?_);show wpAny _ _ (callSpecialIfBoundUnlessNone? (.ref a) "__hash__" _ >>=_) Q E s;refine Qj (wpAny_callSpecialIfBoundUnlessNone?_slot hT TH (Rh TH hT F.entry_tuple_hash ?_ (F.args_tuple_hash_1 _)));show wpAny _ _ (Builtin.Tuple.tupleItemsOf (.ref a) >>=_) _ _ s;refine Qj (wpAny_tupleItemsOf ho hd ?_);refine Qj ?_;rw[←TY];refine TL _
     (fun rest (b:Array Int) s'=>∃done left as',xs=done++left∧ReadsAll s.heap rest left as'∧b.toList=done.map (ij w n)∧∃k,s'={s with toks:=s.toks+k})
     _ ?_ ?_ _ _ ⟨[],xs,_,rfl,hall,rfl,0,rfl⟩
    ·rintro x rest b s' ⟨done,left,as',e,hl,hb,k,rfl⟩;cases hl with
     | @cons _ _ d1 ds bs cs h1 hl'=>
      have hd1:dE n d1=true:=by
       rw[RJ] at hp';exact hp' d1 (by rw[e];simp)
      refine Qj (ih (A:=A.in1) (s:={s with toks:=s.toks+k}) (by rw[Vk];lia) hd1 h1 fun k2=>?_)
      first
       | exact Qm ⟨done++[d1],ds,_,by rw[e];simp,hl',by simp[hb],k+k2,by simp[UK]⟩
       | exact Qj (Qm (Qm ⟨done++[d1],ds,_,by rw[e];simp,hl',by simp[hb],k+k2,by simp[UK]⟩))
    ·rintro b s' ⟨done,left,as',e,hl,hb,k,rfl⟩;cases hl;rw[Ru] at e;subst e;show wpAny _ _ (retInt (Builtin.Tuple.tupleHashOf b.toList)) _ _ _;rw[hb];refine wpAny_ret_mkInt ?_;show wpAny _ _ (if(decide (-(2:Int)^63≤Builtin.Tuple.tupleHashOf (xs.map (ij w n)))&&decide (Builtin.Tuple.tupleHashOf (xs.map (ij w n)) < 2^63))=true then _ else _) Q E _;have h:=h (k+1);unfold ij reduceHash at h
     by_cases hr:(decide (-(2:Int)^63≤Builtin.Tuple.tupleHashOf (xs.map (ij w n)))&&decide (Builtin.Tuple.tupleHashOf (xs.map (ij w n)) < 2^63))=true
     ·rw[Qp hr];rw[Qp hr] at h;exact Qm (by simpa [UK] using h)
     ·rw[Qu hr];rw[Qu hr] at h;exact Qj (RU (Qm (by simpa [UK] using h)))
theorem FD(n:Nat)(hu:A.units+n < cLine)(pd:dE n d=true)(pe:dE n e=true)(rd:Reads s.heap u d as)(re:Reads s.heap v e bs)(h:Q (PyData.eqv d e) s):
  wpAny (model P w) A (eqBool u v) Q E s:=by
 have c1:=rJ n pd;have c2:=rJ n pe;refine eqBoolOverData P w A E s u v d e as bs Q rd re c1.1 c2.1 ?_ h;have:min d.depth e.depth≤d.depth:=Te _ _
 lia
theorem qo:∀(n:Nat) {A:Around} {s:Shared} {d:PyData} {v:Value} {as:List Addr} {Q:Bool->Shared->Prop},dE n d=true->Reads s.heap v d as->Q true s->∀m,n≤m->wpAny (model P w) A (eqIsQuiet m v) Q E s:=by
 intro n
 induction n with
 | zero=>
  intro A s d v as Q hp hr h m hm;have:carriedByValue v=true:=by cases hr <;> first | rfl | simp[dE] at hp
  rw[Vb _ this];exact Qm h
 | succ n ih=>
  intro A s d v as Q hp hr h m hm;cases hr with
  | @tuple a o vs k xs _ ho hc hd hall=>
   obtain⟨m,rfl⟩:∃m',m=m'+1:=⟨m-1,by lia⟩;have hT:s.TypeIs (.ref a) "tuple":=⟨o,ho,hc⟩;have hp':xs.all (dE n)=true:=hp;unfold eqIsQuiet;refine Qj (Tt hT F.slot_tuple_eq.lookup ?_);show wpAny _ _ (isInstance (.ref a) (.type "tuple") >>=_) _ _ s;refine Qj (Sw hT isSubtype_tuple_tuple ?_);simp only[RV,QQ,Sf];refine Qj (RK ho hd ?_);refine Qj ?_;show wpAny _ _ (forIn vs _ _) _ _ s;rw[←TY];refine TL _ (fun rest r s'=>r.1=none∧s'=s∧∃ds as',ReadsAll s.heap rest ds as'∧ds.all (dE n)=true) _ ?_ ?_ _ _ ⟨rfl,rfl,xs,_,hall,hp'⟩
   ·rintro v rest r s' ⟨hr,rfl,ds,as',hl,hds⟩;cases hl with
    | cons h1 h2=>
     rw[TB,QJ] at hds;refine Qj (ih hds.1 h1 ?_ m (by lia));simp only[RV,QQ,Sf];exact Qm ⟨rfl,rfl,_,_,h2,hds.2⟩
   ·rintro⟨r1,r2⟩ s' ⟨hr,rfl,_⟩;simp only at hr;subst hr;exact Qm h
  | int i t=>rw[Vb _ rfl];exact Qm h
  | str i t=>rw[Vb _ rfl];exact Qm h
  | none=>simp[dE] at hp
  | bool=>simp[dE] at hp
  | list=>simp[dE] at hp
  | dict=>simp[dE] at hp
theorem iP(n:Nat)(h:carriedByValue v=true):ofAClassStatement n v=pure false:=by
 cases v with
 | ref a=>simp[carriedByValue] at h
 | _=>first | rfl | simp[ofAClassStatement] |(unfold ofAClassStatement;rfl)
theorem qC:∀(n:Nat) {A:Around} {s:Shared} {d:PyData} {v:Value} {as:List Addr} {Q:Bool->Shared->Prop},dE n d=true->Reads s.heap v d as->Q false s->∀m,n≤m->wpAny (model P w) A (ofAClassStatement m v) Q E s:=by
 intro n
 induction n with
 | zero=>
  intro A s d v as Q hp hr h m hm;have:carriedByValue v=true:=by cases hr <;> first | rfl | simp[dE] at hp
  rw[iP _ this];exact Qm h
 | succ n ih=>
  intro A s d v as Q hp hr h m hm;cases hr with
  | @tuple a o vs k xs _ ho hc hd hall=>
   obtain⟨m,rfl⟩:∃m',m=m'+1:=⟨m-1,by lia⟩;have hT:s.TypeIs (.ref a) "tuple":=⟨o,ho,hc⟩;have hp':xs.all (dE n)=true:=hp;unfold ofAClassStatement;refine Qj (Ua hT ?_);dsimp only;refine Qj ?_;refine Qm ?_;simp only[RV,QQ,Sf];refine Qj (RK ho hd ?_);dsimp only;refine Qj ?_;show wpAny _ _ (forIn vs _ _) _ _ s;rw[←TY];refine TL _ (fun rest r s'=>r.1=none∧s'=s∧∃ds as',ReadsAll s.heap rest ds as'∧ds.all (dE n)=true) _ ?_ ?_ _ _ ⟨rfl,rfl,xs,_,hall,hp'⟩
   ·rintro v rest r s' ⟨hr,rfl,ds,as',hl,hds⟩;cases hl with
    | cons h1 h2=>
     rw[TB,QJ] at hds;refine Qj (ih hds.1 h1 ?_ m (by lia));simp only[RV,QQ,Sf];exact Qm ⟨rfl,rfl,_,_,h2,hds.2⟩
   ·rintro⟨r1,r2⟩ s' ⟨hr,rfl,_⟩;simp only at hr;subst hr;exact Qm h
  | int i t=>rw[iP _ rfl];exact Qm h
  | str i t=>rw[iP _ rfl];exact Qm h
  | none=>simp[dE] at hp
  | bool=>simp[dE] at hp
  | list=>simp[dE] at hp
  | dict=>simp[dE] at hp
theorem C8:∀(n:Nat) {A:Around} {s:Shared} {d:PyData} {v:Value} {as:List Addr} {Q:Bool->Shared->Prop},dE n d=true->Reads s.heap v d as->(∀b,Q b s)->∀m,wpAny (model P w) A (hashByValue m v) Q E s:=by
 intro n
 induction n with
 | zero=>
  intro A s d v as Q hp hr h m;cases hr with
  | int i t=>rw[SU m (x:=.int i t) rfl];exact Qm (h _)
  | str i t=>rw[SU m (x:=.str i t) rfl];exact Qm (h _)
  | none=>simp[dE] at hp
  | bool=>simp[dE] at hp
  | list=>simp[dE] at hp
  | dict=>simp[dE] at hp
  | tuple=>simp[dE] at hp
 | succ n ih=>
  intro A s d v as Q hp hr h m;cases hr with
  | @tuple a o vs k xs _ ho hc hd hall=>
   have hT:s.TypeIs (.ref a) "tuple":=⟨o,ho,hc⟩;have hp':xs.all (dE n)=true:=hp;cases m with
   | zero=>unfold hashByValue;exact Qm (h _)
   | succ m=>
    unfold hashByValue;refine Qj (Tt hT TH.lookup ?_);dsimp only;refine Qj (RK ho hd ?_);refine Qj ?_;show wpAny _ _ (forIn vs _ _) _ _ s;rw[←TY];refine TL _ (fun rest r s'=>r.1=none∧s'=s∧∃ds as',ReadsAll s.heap rest ds as'∧ds.all (dE n)=true) _ ?_ ?_ _ _ ⟨rfl,rfl,xs,_,hall,hp'⟩
    ·rintro v rest r s' ⟨hr,rfl,ds,as',hl,hds⟩;cases hl with
     | cons h1 h2=>
      rw[TB,QJ] at hds;refine Qj (ih hds.1 h1 (fun b=>?_) m);cases b with
      | true=>
       simp only[RV,QQ,Sf];exact Qm ⟨rfl,rfl,_,_,h2,hds.2⟩
      | false=>
       simp only[Bool.not_false,Tr];exact Qm (Qm (h _))
    ·rintro⟨r1,r2⟩ s' ⟨hr,rfl,_⟩;simp only at hr;subst hr;exact Qm (h _)
  | int i t=>rw[SU m (x:=.int i t) rfl];exact Qm (h _)
  | str i t=>rw[SU m (x:=.str i t) rfl];exact Qm (h _)
  | none=>simp[dE] at hp
  | bool=>simp[dE] at hp
  | list=>simp[dE] at hp
  | dict=>simp[dE] at hp
structure ox(es:Array (Int×Value))(t:SetTable):Prop where
 mask:t.mask=7
 NA:t.dummies=#[]
 JY:eC t.place
 sz:t.place.size=es.size
 le:es.size≤4
 reach:∀(i j:Nat)(e:Int×Value),t.place[i]?=some j->es[i]?=some e->∃n,(road t e.1 n).j=j∧∀m,m < n->(road t e.1 m).j∈t.place.toList
def Gu(w:World)(h:Heap)(n:Nat)(e:Int×Value)(d:PyData):Prop:=dE n d=true∧(∃as,Reads h e.2 d as)∧e.1=ij w n d∧∃a,e.2=.ref a
def iS(w:World)(h:Heap)(n:Nat)(es:Array (Int×Value))(ds:List PyData):Prop:=ds.length=es.size∧∀(i:Nat)(e:Int×Value)(d:PyData),es[i]?=some e->ds[i]?=some d->Gu w h n e d
theorem iS.at{w:World}{h:Heap}{n:Nat}{es:Array (Int×Value)}{ds:List PyData}(E:iS w h n es ds){i:Nat}{e:Int×Value}(he:es[i]?=some e):∃d,ds[i]?=some d∧Gu w h n e d:=by
 have hi:i < es.size:=(SR.mp he).1;have hd:ds[i]?=some (ds[i]'(by rw[E.1];exact hi)):=Qr _;exact⟨_,hd,E.2 i e _ he hd⟩
theorem ox.fits(T:ox es t):t.fits es.size=true:=by
 unfold SetTable.fits SetTable.fill;rw[T.sz,T.NA,T.mask];have:=T.le;simp
 lia
theorem ox.Dd(T:ox es t)(h:Int):∃N,N < 21∧(road t h N).j∉t.place.toList∧∀i,i < N->(road t h i).j∈t.place.toList:=by
 obtain⟨n,h1,h2⟩:=z9 T.mask h (by rw[T.sz];have:=T.le;lia);obtain⟨m,m1,m2,m3⟩:=Ft (p:=fun i=>(road t h i).j∉t.place.toList) h2;exact⟨m,by lia,m2,fun i hi=>S8 (m3 i hi)⟩
theorem Ec(hn:n≤8)(px:dE n dx=true)(rx:Reads s.heap x dx as):∀(ys:List Value),(∀y∈ys,∃d as,dE n d=true∧Reads s.heap y d as)->∀{Q:Bool->Shared->Prop},Q false s->wpAny (model P w) A (searchCouldBeSeen x ys) Q E s:=by
 intro ys hys Q h;unfold searchCouldBeSeen;refine Qj ?_;refine TL _ (fun rest r s'=>r.1=none∧s'=s∧∀y∈rest,∃d as,dE n d=true∧Reads s.heap y d as) _ ?_ ?_ _ _ ⟨rfl,rfl,hys⟩
 ·rintro y rest r s' ⟨hr,rfl,hl⟩;obtain⟨d,bs,pd,rd⟩:=hl y (.head _);have hl':=fun z hz=>hl z (.tail _ hz);dsimp only
  split
  all_goals
   split
   ·exact Qm ⟨rfl,rfl,hl'⟩
   ·refine Qj (qo n px rx ?_ 8 hn);simp only[RV,QQ,Sf];refine Qj (qo n pd rd ?_ 8 hn);simp only[RV,QQ,Sf];refine Qj (qC n px rx ?_ 8 hn);simp only[QQ,Sf];refine Qj (qC n pd rd ?_ 8 hn);simp only[QQ,Sf];exact Qm ⟨rfl,rfl,hl'⟩
 ·rintro⟨r1,r2⟩ s' ⟨hr,rfl,_⟩;simp only at hr;subst hr;exact Qm h
theorem zS{a b:Addr}{ob:Obj}{es:Array (Int×Value)}{ep:Nat}{t:SetTable}{n:Nat}{ds:List PyData}{dx:PyData}{as:List Addr}{h:Int}{N:Nat}{Q:SetFound->Shared->Prop}
  (hob:s.heap.get? a=some ob) (hdt:ob.data=.set es ep t) (T:ox es t) (L:iS w s.heap n es ds) (hn:n≤8) (hu:A.units+n < cLine) (px:dE n dx=true) (rx:Reads s.heap (.ref b) dx as) (hh:h=ij w n dx)
  (hN:(road t h N).j∉t.place.toList) (hl:∀i,i < N->(road t h i).j∈t.place.toList) (hN21:N < 21)
  (hit:dx∈ds->Q (.there none) s) (miss:dx∉ds->Q (.free (road t h N).j false) s):
  ∀(k fuel m:Nat)(stand:Option SetTable.Probe),N-m=k->m≤N->N-m < fuel->stand.getD (t.probeStart h)=road t h m->(∀(c i:Nat)(d:PyData),c < m->t.place[i]?=some (road t h c).j->ds[i]?=some d->d≠dx)->
   wpAny (model P w) A (setSearchFrom a (.ref b) h true fuel stand) Q E s:=by
 intro k
 induction k using Nat.strongRecOn with
 | _ k ih=>
  intro fuel m stand hk hm hf hst hin;obtain⟨fuel,rfl⟩:∃f,fuel=f+1:=⟨fuel-1,by lia⟩;unfold setSearchFrom;refine Qj (RN hob hdt T.fits ?_);dsimp only;have hgw:t.gaveWay=false:=by unfold SetTable.gaveWay;rw[T.mask];rfl
  rw[hgw];simp only[QQ,Sf];rw[hst];generalize hha:(fun(i:Nat)=>((es[i]?.map fun(e:Int×Value)=>e.1).getD 0:Int))=hashAt;have hfuel:N-m < 10*SetTable.turns t.mask:=by unfold SetTable.turns;rw[T.mask];lia
  have hpr:=yH T.JY T.NA hashAt h hN (10*SetTable.turns t.mask) m hm hfuel hl;have at_:∀i j,t.place[i]?=some j->∃e,es[i]?=some e:=fun i j hj=>by
   have:i < es.size:=by rw[←T.sz];exact(SR.mp hj).1
   exact⟨es[i],QV this⟩
  have hhe:∀i e,es[i]?=some e->hashAt i=e.1:=fun i e he=>by rw[←hha];simp[he]
  rcases hpr with⟨p1,p2⟩ |⟨c,i,c1,c2,c3,c4,c5,c6⟩
  ·have hp:t.probe hashAt h (road t h m)=some (.empty (road t h N).j none):=p1;subst hha
   erw [hp]
   dsimp only;refine Qm (miss fun hmem=>?_);obtain⟨i,hi⟩:=R8.mp hmem;have his:i < es.size:=by rw[←L.1];exact(Qo.mp hi).1
   have he:=QV (xs:=es) his;obtain⟨hp1,hr1,hh1,_⟩:=L.2 i _ dx he hi;have hpl:i < t.place.size:=by rw[T.sz];exact his
   have hj:=QV (xs:=t.place) hpl;obtain⟨n0,r1,r2⟩:=T.reach i _ _ hj he;rw[hh1,←hh] at r1 r2;have hn0:n0 < N:=by
    rcases UR n0 N with q | q | q
    ·exact q
    ·subst q;exact absurd (by rw[r1];simp) hN
    ·exact absurd (r2 N q) hN
   rcases Ss n0 m with q | q
   ·exact hin n0 i dx q (by rw[r1];exact hj) hi rfl
   ·exact p2 n0 i q hn0 (by rw[r1];exact hj) (by rw[hhe i _ he,hh1,hh])
  ·have hp:t.probe hashAt h (road t h m)=some (.candidate (road t h c).j i (road t h (c+1))):=c6;subst hha
   erw [hp]
   dsimp only;obtain⟨⟨h',y⟩,he⟩:=at_ i _ c3
   obtain⟨dy,hdy,py,⟨bs,ry⟩,hhy,⟨ya,hya⟩⟩:=L.at he;dsimp only at ry hhy hya;subst hya;have seen:∀{Q':Bool->Shared->Prop},Q' false s->wpAny (model P w) A (searchCouldBeSeen (.ref b) ((es.filter (·.1==h)).toList.map (·.2))) Q' E s:=fun {Q'} q=>by
    refine Ec hn px rx _ (fun y hy=>?_) q;obtain⟨e,he,rfl⟩:=Qz.mp hy;have he':e∈es.toList:=by
     have:=Rb.mp he;exact Rb.mpr (Array.mem_filter.mp this).1
    obtain⟨i,hi,hv⟩:=VO (Rb.mp he');obtain⟨d,_,pd,⟨bs,rd⟩,_,_⟩:=L.at (i:=i) (e:=e) (by rw[QV hi,hv]);exact⟨d,bs,pd,rd⟩
   have go:wpAny (model P w) A (do
     let some (_,y):=es[i]? | unsupported "internal:set-entry"
     let equal←holding [y] (eqBool y (.ref b));let(es',_,t')←setState a
     if true&&equal then return .there none
     let some same:=t'.sameMemory t.moves t.mask | unsupported "set.changed-during-lookup:is-the-new-block-at-the-old-address"
     let still←match (if same then t'.slot (road t h c).j else .empty) with
      | .live i'=>match es'[i']? with
       | some (_,y')=>do pure (if←isSame y' y then some i' else none)
       | none=>pure none
      | _=>pure none
     match still with
     | none=>rule "set.search.anew";setSearchFrom a (.ref b) h true fuel none
     | some i'=>if equal then return .there (some i') else setSearchFrom a (.ref b) h true fuel (some (road t h (c+1)))) Q E s:=by
    rw[he];dsimp only;refine Qj (Q9 (FD n hu py px ry rx ?_));refine Qj (RN hob hdt T.fits ?_);dsimp only;cases hq:PyData.eqv dy dx with
    | true=>
     rw[Vn,Qp rfl];refine Qm (hit ?_);rw[←xb n py px hq];exact Qn hdy
    | false=>
     rw[Vn,Qu Rg];have hsm:t.sameMemory t.moves t.mask=some true:=by unfold SetTable.sameMemory;rw[Qp (by simp)]
     rw[hsm];dsimp only;rw[Qp rfl,oU T.JY c3];dsimp only;rw[he];dsimp only;refine Qj (wpAny_isSame_ref_self (Qj (Qm ?_)));rw[Qp rfl];dsimp only;rw[Qu Rg];refine ih (N-(c+1)) (by lia) fuel (c+1) _ rfl (by lia) (by lia) rfl fun c' i' d' hc' hp' hd'=>?_;have his':i' < es.size:=by rw[←L.1];exact(Qo.mp hd').1
     have he':=QV (xs:=es) his';obtain⟨pd',_,hh',_⟩:=L.2 i' _ d' he' hd';rcases Ss c' m with q | q
     ·exact hin c' i' d' q hp' hd'
     ·rcases Ss c' c with q2 | q2
      ·intro z;subst z;exact c5 c' i' q q2 hp' (by rw[hhe i' _ he',hh',hh])
      ·have:c'=c:=by lia
       subst this;have:i'=i:=(jb T.JY hp').symm.trans (jb T.JY c3);subst this;intro z;rw[hdy] at hd';injection hd' with hd'
       rw[hd',z,eqv_refl dx (rJ n px).1] at hq;cases hq
   cases hled:t.led with
   | true=>
    simp only[RV,QQ,Sf];exact go
   | false=>
    simp only[Bool.not_false,Tr];refine Qj (seen ?_);simp only[QQ,Sf];exact go
theorem nQ(xs:Array α)(p:Nat)(x:α)(hp:p≤xs.size)(i:Nat):(SetTable.insertAt xs p x)[i]?=if i < p then xs[i]? else if i=p then some x else xs[i-1]?:=by
 rw[←RB,SetTable.toList_insertAt]
 by_cases h1:i < p
 ·rw[Qp h1,QE (by simp;lia),UN,Qp h1,RB]
 ·rw[Qu h1,QR (by simp;lia)];have hl:(xs.toList.take p).length=p:=by simp;lia
  rw[hl]
  by_cases h2:i=p
  ·subst h2;rw[Qp rfl,Vw];rfl
  ·rw[Qu h2];obtain⟨k,hk⟩:∃k,i-p=k+1:=⟨i-p-1,by lia⟩;rw[hk,RP,VZ,RB];congr 1
   lia
noncomputable def Fm(ds:List PyData)(p:Nat)(d:PyData):List PyData:=ds.take p++d::ds.drop p
theorem vS(ds:List PyData)(p:Nat)(d:PyData):(Fm ds p d).Perm (ds++[d]):=by
 unfold Fm;have h1:(ds.take p++d::ds.drop p).Perm (d::(ds.take p++ds.drop p)):=List.perm_middle;rw[R6] at h1;exact h1.trans (List.perm_append_singleton d ds).symm
theorem Fj(ds:List PyData)(p:Nat)(d:PyData)(hp:p≤ds.length)(i:Nat):(Fm ds p d)[i]?=if i < p then ds[i]? else if i=p then some d else ds[i-1]?:=by
 unfold Fm
 by_cases h1:i < p
 ·rw[Qp h1,QE (by simp;lia),UN,Qp h1]
 ·rw[Qu h1,QR (by simp;lia)];have hl:(ds.take p).length=p:=by simp;lia
  rw[hl]
  by_cases h2:i=p
  ·subst h2;rw[Qp rfl,Vw];rfl
  ·rw[Qu h2];obtain⟨k,hk⟩:∃k,i-p=k+1:=⟨i-p-1,by lia⟩;rw[hk,RP,VZ];congr 1
   lia
theorem eC.ins(hx:eC xs)(hj:j∉xs.toList):eC (SetTable.insertAt xs (SetTable.below xs j) j):=by
 obtain⟨b1,b2,b3⟩:=ib xs j hx;have g:=nQ xs (SetTable.below xs j) j b1;generalize SetTable.below xs j=p at b1 b2 b3 g;intro i k hi hk hik;have gi:=g i;have gk:=g k;rw[QV hi] at gi;rw[QV hk] at gk;have b3':∀i (h:i < xs.size),p≤i->j < xs[i]:=fun i h q=>by
  rcases Ss j xs[i] with z | z
  ·exact z
  ·have y0:=b3 i h q;have y1:xs[i]=j:=by lia
   have y2:xs[i]∈xs.toList:=by simp
   rw[y1] at y2;exact absurd y2 hj
 have some_lt:∀{i v:Nat},some v=xs[i]?->∃h:i < xs.size,v=xs[i]:=fun {i v} e=>by
  obtain⟨h1,h2⟩:=SR.mp e.symm;exact⟨h1,h2.symm⟩
 by_cases i1:i < p
 ·rw[Qp i1] at gi;obtain⟨hi',ei⟩:=some_lt gi;rw[ei]
  by_cases k1:k < p
  ·rw[Qp k1] at gk;obtain⟨hk',ek⟩:=some_lt gk;rw[ek];exact hx i k hi' hk' hik
  ·rw[Qu k1] at gk
   by_cases k2:k=p
   ·rw[Qp k2] at gk;injection gk with gk
    rw[gk];exact b2 i hi' i1
   ·rw[Qu k2] at gk;obtain⟨hk',ek⟩:=some_lt gk;rw[ek];exact TR (b2 i hi' i1) (b3' _ hk' (by lia))
 ·rw[Qu i1] at gi;have k1:¬k < p:=by lia
  have k2:¬k=p:=by lia
  rw[Qu k1,Qu k2] at gk;obtain⟨hk',ek⟩:=some_lt gk;rw[ek]
  by_cases i2:i=p
  ·rw[Qp i2] at gi;injection gi with gi
   rw[gi];exact b3' _ hk' (by lia)
  ·rw[Qu i2] at gi;obtain⟨hi',ei⟩:=some_lt gi;rw[ei];exact hx _ _ hi' hk' (by lia)
theorem HW(hp:p≤xs.size):k∈(SetTable.insertAt xs p j).toList↔k=j∨k∈xs.toList:=by
 rw[(TF xs p j).mem_iff];simp[or_comm]
theorem ox.put(T:ox es t)(hle:es.size≤3)(hN:(road t h N).j∉t.place.toList)(hl:∀i,i < N->(road t h i).j∈t.place.toList)(ht:t'.mask=t.mask∧t'.dummies=t.dummies∧t'.place=SetTable.insertAt t.place (SetTable.below t.place (road t h N).j) (road t h N).j):
  ox (SetTable.insertAt es (SetTable.below t.place (road t h N).j) (h,x)) t':=by
 obtain⟨t1,t2,t3⟩:=ht;have hb:=(ib t.place (road t h N).j T.JY).1;have hb':SetTable.below t.place (road t h N).j≤es.size:=by rw[←T.sz];exact hb
 have hs1:(SetTable.insertAt t.place (SetTable.below t.place (road t h N).j) (road t h N).j).size=t.place.size+1:=by
  have:=(TF t.place (SetTable.below t.place (road t h N).j) (road t h N).j).length_eq
  simpa using this
 have hs2:(SetTable.insertAt es (SetTable.below t.place (road t h N).j) (h,x)).size=es.size+1:=by
  have:=(TF es (SetTable.below t.place (road t h N).j) (h,x)).length_eq
  simpa using this
 have hr:∀h' n,road t' h' n=road t h' n:=fun h' n=>vo t1 h' n;refine⟨t1.trans T.mask,t2.trans T.NA,by rw[t3];exact T.JY.ins hN,by rw[t3,hs1,hs2,T.sz],by rw[hs2];lia,fun i j e hi he=>?_⟩;rw[t3,nQ _ _ _ hb] at hi;rw[nQ _ _ _ hb'] at he;simp only[hr,t3,HW hb]
 by_cases i1:i < SetTable.below t.place (road t h N).j
 ·rw[Qp i1] at hi he;obtain⟨n,n1,n2⟩:=T.reach i j e hi he;exact⟨n,n1,fun m hm=>.inr (n2 m hm)⟩
 ·rw[Qu i1] at hi he
  by_cases i2:i=SetTable.below t.place (road t h N).j
  ·rw[Qp i2] at hi he;injection hi with hi
   injection he with he
   subst hi;subst he;exact⟨N,rfl,fun m hm=>.inr (hl m hm)⟩
  ·rw[Qu i2] at hi he;obtain⟨n,n1,n2⟩:=T.reach _ j e hi he;exact⟨n,n1,fun m hm=>.inr (n2 m hm)⟩
theorem iS.put(L:iS w h n es ds)(hp:p≤es.size)(E:Gu w h n e d):iS w h n (SetTable.insertAt es p e) (Fm ds p d):=by
 have hpd:p≤ds.length:=by rw[L.1];exact hp
 refine⟨?_,fun i e' d' he hd=>?_⟩
 ·have h1:=(TF es p e).length_eq;have h2:=(vS ds p d).length_eq;simp at h1 h2;rw[h2,h1,L.1]
 ·rw[nQ _ _ _ hp] at he;rw[Fj _ _ _ hpd] at hd
  by_cases i1:i < p
  ·rw[Qp i1] at he hd;exact L.2 i e' d' he hd
  ·rw[Qu i1] at he hd
   by_cases i2:i=p
   ·rw[Qp i2] at he hd;injection he with he
    injection hd with hd
    subst he;subst hd;exact E
   ·rw[Qu i2] at he hd;exact L.2 _ e' d' he hd
theorem mG(hk:∀b o vs m,h.get? b=some o->o.data=.seq vs m->h'.get? b=some o):∀(n:Nat) {d:PyData} {v:Value} {as:List Addr},dE n d=true->Reads h v d as->Reads h' v d as:=by
 intro n
 induction n with
 | zero=>
  intro d v as hp hr;cases hr with
  | int i t=>exact .int i t
  | str x t=>exact .str x t
  | none=>simp[dE] at hp
  | bool=>simp[dE] at hp
  | list=>simp[dE] at hp
  | dict=>simp[dE] at hp
  | tuple=>simp[dE] at hp
 | succ n ih=>
  have hl:∀(ds:List PyData) {vs:List Value} {as:List Addr},ds.all (dE n)=true->ReadsAll h vs ds as->ReadsAll h' vs ds as:=by
   intro ds
   induction ds with
   | nil=>intro vs as _ hr;cases hr;exact .nil
   | cons d ds ihd=>
    intro vs as hp hr;rw[TB,QJ] at hp;cases hr with
    | cons h1 h2=>exact .cons (ih hp.1 h1) (ihd hp.2 h2)
  intro d v as hp hr;cases hr with
  | int i t=>exact .int i t
  | str x t=>exact .str x t
  | none=>simp[dE] at hp
  | bool=>simp[dE] at hp
  | list=>simp[dE] at hp
  | dict=>simp[dE] at hp
  | tuple h1 h2 h3 h4=>exact .tuple (hk _ _ _ _ h1 h3) h2 h3 (hl _ hp h4)
theorem iS.keep(L:iS w h n es ds)(hk:∀b o vs m,h.get? b=some o->o.data=.seq vs m->h'.get? b=some o):iS w h' n es ds:=
 ⟨L.1,fun i e d he hd=>by
  obtain⟨a1,⟨as,a2⟩,a3,a4⟩:=L.2 i e d he hd;exact⟨a1,⟨as,mG hk n a1 a2⟩,a3,a4⟩⟩
noncomputable def Dc(ds:List PyData)(d:PyData):Bool:=ds.any fun e=>PyData.eqv e d
noncomputable def qb(ds:List PyData)(d:PyData):List PyData:=if Dc ds d then ds else ds++[d]
theorem Fp(hs:∀e∈ds,dE n e=true)(hd:dE n d=true):Dc ds d=true↔d∈ds:=by
 unfold Dc;rw[RQ];constructor
 ·rintro⟨e,he,q⟩;rw[←xb n (hs e he) hd q];exact he
 ·intro h;exact⟨d,h,eqv_refl d (rJ n hd).1⟩
theorem sub_tuple_set':isSubtype (.type "tuple") (.type "set")=pure false:=by rw[UP];ac_nf
theorem sub_tuple_frozenset':isSubtype (.type "tuple") (.type "frozenset")=pure false:=by rw[UP];ac_nf
structure IU(P:Program)(w:World)(A:Around)(h₀:Heap)(S:Addr)(items:Array Value)(J:Nat->Heap->Prop):Prop where
 frame:∀(i:Nat)(h h':Heap),(∀o,h.get? S=some o->h'.get? S=some o)->J i h->J i h'
 fresh:∀(led:Bool)(h:Heap),h.get? S=some {cls:=.type "set",dict:=none,data:=.set #[] 0 (.fresh 0 0 led)}->J 0 h
 step:∀(i:Nat)(v:Value)(s:Shared)(E:Value->Shared->Prop)(Q:Bool->Shared->Prop),items[i]?=some v->J i s.heap->(∀b o,h₀.get? b=some o->s.heap.get? b=some o)->
  (∀r h' tk,s.toks≤tk->Heap.SameBut S s.heap h'->J (i+1) h'->Q r {s with heap:=h',toks:=tk})->wpAny (model P w) A (setAdd S v) Q E s
theorem Eb{A:Around}{R:Result->Shared->Prop}{I:Addr}{fp wr:List Addr}{G:Array GenState->Array GenState->Prop}{items:Array Value}{St:Nat->Shared->Prop}{h₀:Heap}{S:Addr}{J:Nat->Heap->Prop}
  (W:WalksS P w A.in1 I fp wr G items.size (fun i v=>items[i]?=some v) St) (hSf:S∉fp) (D:IU P w A.in1 h₀ S items J) (hw0:∀b∈wr,h₀.get? b=none) (hS0:h₀.get? S=none):
  ∀(k i:Nat)(s:Shared),items.size-i=k->i≤items.size->St i s->J i s.heap->(∀b o,h₀.get? b=some o->s.heap.get? b=some o)->
   (∀s',Moved (S::wr) G s s'->J items.size s'.heap->R (.ok (.ret .none)) s')->
   codeAny (model P w) A (.builtin "set.update.loop" ⟨[.ref S,.ref I],[]⟩) R s:=by
 have hSw:S∉wr:=fun h=>hSf (W.sub _ h);have hsub:∀b∈wr,b∈S::wr:=fun b hb=>Qs _ hb;intro k
 induction k with
 | zero=>
  intro i s hk hi hst hJ h0 hR;have hin:i=items.size:=by lia
  subst hin;refine Ro TN ?_;rw[Q5 Sj _];show wpAny _ A.in1 (pyNext (.ref I) >>=_) _ _ s;refine Qj (W.done s _ _ hst fun s' hm=>?_);show wpAny _ A.in1 (ret Value.none) _ _ s';exact Qm (hR s' (hm.mono hsub) (D.frame _ _ _ (fun o e=>hm.heap S o hSw e) hJ))
 | succ k ih=>
  intro i s hk hi hst hJ h0 hR;have hlt:i < items.size:=by lia
  refine Ro TN ?_;rw[Q5 Sj _];show wpAny _ A.in1 (pyNext (.ref I) >>=_) _ _ s;refine Qj (W.item i s _ _ hlt hst fun v s' hP hst' hm=>?_);have hJ':=D.frame i s.heap s'.heap (fun o e=>hm.heap S o hSw e) hJ;have h0':∀b o,h₀.get? b=some o->s'.heap.get? b=some o:=fun b o e=>hm.heap b o (fun hb=>by rw[hw0 b hb] at e;cases e) (h0 b o e);show wpAny _ A.in1 (holding [v] (setAdd S v) >>=_) _ _ s';refine Qj (Q9 (D.step i v s' _ _ hP hJ' h0' fun r h' tk htk hsb hJ2=>?_));refine Qm ⟨Si Sj _,ih (i+1) _ (by lia) hlt (W.frame _ s' _ _ hst' htk fun b hb o e=>?_) hJ2 (fun b o e=>?_) fun s'' hm'' hJ''=>?_⟩
  ·rw[hsb.2 b (fun h:b=S=>hSf (by rw[←h];exact hb))];exact e
  ·rw[hsb.2 b (fun h:b=S=>by rw[h,hS0] at e;cases e)];exact h0' b o e
  ·refine hR s'' (Moved.trans W.gtrans ((hm.mono hsub).then_heap htk fun b o hb e=>?_) hm'') hJ'';rw[hsb.2 b (fun h:b=S=>hb (by rw[h];exact Qv))];exact e
set_option maxHeartbeats 3200000 in
theorem kN{l:Addr}{items:Array Value}{J:Nat->Heap->Prop}{Q:Value->Shared->Prop}
  (hh:A.handled=none) (hl:s.heap.IsTuple l items) (D:∀A':Around,A'.handled=none->A'.units≤A.units+8->IU P w A' s.heap s.heap.objs.size items J)
  (h:∀(h':Heap)(tk:Nat),J items.size h'->(∀b o,b < s.heap.objs.size->s.heap.get? b=some o->h'.get? b=some o)->Q (.ref s.heap.objs.size) {s with heap:=h',toks:=tk}):
  wpAny (model P w) A (call (.type "set") [.ref l]) Q E s:=by
 obtain⟨c,tl,hmro⟩:=RE.mro;have hmade:=RE.made;have hsub:=RE.sub;refine wpAny_call (UI ?_);show wpAny _ _ (callAny (.type "set") _) _ _ _;refine Qm ⟨Code.quiet_builtin _ (by decide+kernel),Ro F.entry_type_call ?_⟩;rw[Around.under_plain (weight_type_call_type "set" [.ref l] []) rfl];have h1:=RE.notType;have h2:=RE.canCreate;have hct:=F.typeCall_set_1 (.ref l)
 repeat(any_goals (first | assumption | wp_step))
 refine Ti (code_set_new_1 (.ref l) (E:=E) (Q₁:=fun obj s₁=>∃led:Bool,obj=.ref s.heap.objs.size∧s₁={s with heap:=s.heap.push {cls:=.type "set",dict:=none,data:=.set #[] 0 (.fresh 0 0 led)}}) fun led=>⟨led,rfl,rfl⟩) fun r s₁ hr=>?_;cases r with
 | error e=>exact hr
 | ok fl=>
  cases fl with
  | ret obj=>
   obtain⟨led,rfl,rfl⟩:=hr;have hS:(s.heap.push {cls:=.type "set",dict:=none,data:=.set #[] 0 (.fresh 0 0 led)}).get? s.heap.objs.size=some {cls:=.type "set",dict:=none,data:=.set #[] 0 (.fresh 0 0 led)}:=Qx _ rfl;have hT:Shared.TypeIs {s with heap:=s.heap.push {cls:=.type "set",dict:=none,data:=.set #[] 0 (.fresh 0 0 led)}} (.ref s.heap.objs.size) "set":=⟨_,hS,rfl⟩;have hli:=RE.init.lookup;have hbi:=RE.init.bind (.ref s.heap.objs.size)
   repeat(any_goals (first | assumption | wp_step))
   refine Ti (codeAny_call_builtin (R:=wants (fun r s₂=>r=.none∧∃h' tk,s₂={s with heap:=h',toks:=tk}∧J items.size h'∧
     (∀b o,b < s.heap.objs.size->s.heap.get? b=some o->h'.get? b=some o)) E) RE.init.plain F.entry_set_init (check_set_init_1 hT ?_)) fun r₂ s₂ hr₂=>?_
   ·obtain⟨ol,hol,hcl,nl,hdl⟩:=hl;obtain⟨ocls,odict,odata,oslots⟩:=ol;simp only at hcl hdl;subst hcl;subst hdl;have hol':(s.heap.push {cls:=.type "set",dict:=none,data:=.set #[] 0 (.fresh 0 0 led)}).get? l=some {cls:=.type "tuple",dict:=odict,data:=.seq items nl,slots:=oslots}:=Ql _ hol;have hsls:=sub_tuple_set';have hslf:=sub_tuple_frozenset';have hne:(Value.type "tuple"==Value.type "dict")=false:=by decide
    have hl1:(s.heap.push {cls:=.type "set",dict:=none,data:=.set #[] 0 (.fresh 0 0 led)}).IsTuple l items:=⟨_,hol',rfl,nl,rfl⟩;unfold Builtin.«set.__init__» noKeywords Builtin.Frozenset.updateFrom;generalize hPI:pyIter=PI
    wp_walk
    subst hPI;refine SK hl1 ?_;refine Qj (VI ?_);have hlS:l < s.heap.objs.size:=Qw hol;have hh3:A.in1.in1.in1.handled=none:=by simp[hh]
    have hneI:l≠(s.heap.push {cls:=.type "set",dict:=none,data:=.set #[] 0 (.fresh 0 0 led)}).objs.size:=by
     rw[QY];exact QF (SH hlS)
    have hSf:s.heap.objs.size∉[(s.heap.push {cls:=.type "set",dict:=none,data:=.set #[] 0 (.fresh 0 0 led)}).objs.size,l]:=by
     rw[QY];simp only[QK,QC,Ul,U9,not_or];exact⟨QF (SY _),TQ hlS⟩
    have none_of:∀b,s.heap.objs.size≤b->s.heap.get? b=none:=fun b hb=>by
     cases q:s.heap.get? b with
     | none=>rfl
     | some o=>exact absurd (Qw q) (Vc.mpr hb)
    refine Eb ((Walks.tuple hh3 _ l hneI items).toS) hSf (D _ hh3 (by simp only[Vk];lia)) (fun b hb=>?_) (none_of _ (Qq _)) (items.size-0) 0 _ (by lia) (Rw _)
     ⟨⟨_,Qx _ rfl,rfl,rfl⟩,(hl1.push _)⟩ ?hS0 ?hK ?hR
    ·rw[QC] at hb;subst hb;exact none_of _ (by rw[QY];lia)
    case hS0=>
     exact(D A hh (by lia)).fresh led _ (Ql _ hS)
    case hK=>
     intro b o e;exact Ql _ (Ql _ e)
    case hR=>
     intro s' hm hJ';obtain⟨h',g',d',tk',os'⟩:=s';have eg:g'=s.gens:=hm.gens;have ed:d'=s.drawn:=hm.drawn;have eo:os'=s.os:=hm.os;subst eg;subst ed;subst eo;show wpAny _ _ _ _ _ _;refine Qm ?_;show wpAny _ _ (ret Value.none) _ _ _;refine Qm ⟨rfl,h',tk',rfl,hJ',fun b o hb e=>?_⟩;have hb1:b≠s.heap.objs.size:=QF hb;have hb2:b≠(s.heap.push {cls:=.type "set",dict:=none,data:=.set #[] 0 (.fresh 0 0 led)}).objs.size:=by
      rw[QY];exact QF (SH hb)
     exact hm.heap b o (by simp only[QK,QC,Ul,U9,not_or];exact⟨hb1,hb2⟩) (Ql _ (Ql _ e))
   ·cases r₂ with
    | error e=>exact hr₂
    | ok fl₂=>
     cases fl₂ with
     | ret r=>
      obtain⟨rfl,h',tk,rfl,hJ',hk'⟩:=hr₂
      repeat(any_goals (first | assumption | wp_step))
      exact h _ _ hJ' hk'
     | _=>exact hr₂.elim
  | _=>exact hr.elim
def Pl(w:World)(h₀ h:Heap)(a:Addr)(n:Nat)(ds:List PyData):Prop:=
 ∃o es ep t ds',h.get? a=some o∧o.ExactSet∧o.data=.set es ep t∧ox es t∧iS w h₀ n es ds'∧ds'.Perm ds
theorem uw(keep:∀b o,h₀.get? b=some o->s.heap.get? b=some o)(hS:Pl w h₀ s.heap a n ds)(hn:n≤8)(hu:A.units+n < cLine)(px:dE n dx=true)(rx0:Reads h₀ (.ref b) dx as)(hroom:ds.length≤3)(h:∀r h',Heap.SameBut a s.heap h'->Pl w h₀ h' a n (qb ds dx)->Q r {s with heap:=h'}):wpAny (model P w) A (setAddHashed a (.ref b) (ij w n dx)) Q E s:=by
 obtain⟨ob,es,ep,t,ds',hob,hex,hdt,T,L0,hperm⟩:=id hS;have L:=L0.keep (h':=s.heap) fun b o _ _ e _=>keep b o e;have rx:=mG (h':=s.heap) (fun b o _ _ e _=>keep b o e) n px rx0;obtain⟨N,N1,N2,N3⟩:=T.Dd (ij w n dx);have hpl:∀e∈ds,dE n e=true:=fun e he=>by
  obtain⟨i,hi⟩:=R8.mp (hperm.mem_iff.mpr he);have his:i < es.size:=by rw[←L.1];exact(Qo.mp hi).1
  exact(L.2 i _ e (QV his) hi).1
 have hmem:=Fp hpl px;unfold setAddHashed setAddHashedIn;refine Q9 (Qj (RN hob hdt T.fits ?_));dsimp only;rw[Qu (by show ¬(byScan (Value.ref b) es=true);unfold byScan Value.scannable;simp)];refine Qj ?_;unfold setSearch;refine zS hob hdt T L hn hu px rx rfl N2 N3 N1 (fun hit=>?_) (fun miss=>?_) _ 100000 0 none rfl (Rw _) (by lia) rfl (fun c i d hc=>absurd hc (Sy _))
 ·dsimp only;refine Qm ?_;refine h false s.heap (Heap.SameBut.refl a s.heap) ?_;unfold qb;rw[Qp (hmem.mpr (hperm.mem_iff.mp hit))];exact hS
 ·dsimp only;have hno:Dc ds dx=false:=by
   cases q:Dc ds dx with
   | false=>rfl
   | true=>exact absurd (hperm.mem_iff.mpr (hmem.mp q)) miss
  refine Qj (RN hob hdt T.fits ?_);dsimp only;have hlen:es.size≤3:=by rw[←L.1,hperm.length_eq];exact hroom
  have hb':SetTable.below t.place (road t (ij w n dx) N).j≤es.size:=by rw[←T.sz];exact(ib _ _ T.JY).1
  have hdm:(t.put (road t (ij w n dx) N).j).1.dummies=t.dummies:=by
   unfold SetTable.put;dsimp only;rw[T.NA];rfl
  have fin:∀(t2:SetTable),t2.mask=t.mask->t2.dummies=t.dummies->t2.place=SetTable.insertAt t.place (SetTable.below t.place (road t (ij w n dx) N).j) (road t (ij w n dx) N).j->t2.led=t.led->
    wpAny (model P w) A (do
     storeSet a (SetTable.insertAt es (SetTable.below t.place (road t (ij w n dx) N).j) (ij w n dx,.ref b)) t2
     if(!false&&t2.tooFull)=true then do
      setRelay a (SetTable.grown (es.size+1))
      pure true
     else pure true) Q E s:=fun t2 m1 m2 m3 m4=>by
   have T2:=T.put hlen (x:=.ref b) N2 N3 ⟨m1,m2,m3⟩;have hsz:=T2.le;refine Qj (wpAny_storeSet_of hob hdt ?_ (Uw (by unfold scanBound;lia)));have hnf:t2.tooFull=false:=by
    unfold SetTable.tooFull SetTable.fill;have h1:=T2.sz;rw[T2.mask,T2.NA];simp
    lia
   rw[hnf,Qu (by simp)];refine Qm (h true _ (TZ s.heap a (Obj.putSet _ t2)) ?_);have hget:=RO (Obj.putSet (SetTable.insertAt es (SetTable.below t.place (road t (ij w n dx) N).j) (ij w n dx,.ref b)) t2) hob (by rw[V0 _ t2 hdt];rfl);rw[V0 _ t2 hdt] at hget;unfold qb;rw[Qu (by rw[hno];simp)];exact⟨_,_,_,_,_,hget,hex,rfl,T2,L0.put hb' ⟨px,⟨as,rx0⟩,rfl,⟨b,rfl⟩⟩,(vS _ _ _).trans (hperm.append_right _)⟩
  cases hpn:(t.put (road t (ij w n dx) N).j).1.plain with
  | true=>
   rw[Qp rfl];refine Qj (C8 n px rx (fun bv=>?_) 8);cases bv with
   | true=>exact fin _ rfl hdm rfl rfl
   | false=>exact fin _ rfl hdm rfl rfl
  | false=>
   rw[Qu Rg];refine Qj (Qm ?_);exact fin _ rfl hdm rfl rfl
noncomputable def jI(ds:List PyData):List PyData:=ds.foldl qb []
theorem zA(ds:List PyData)(d:PyData):jI (ds++[d])=qb (jI ds) d:=by unfold jI;rw[UX];rfl
theorem Gn(ds:List PyData)(d:PyData):(qb ds d).length≤ds.length+1:=by unfold qb;split <;> simp
theorem uf(ds:List PyData):(jI ds).length≤ds.length:=by
 have:∀(ds acc:List PyData),(ds.foldl qb acc).length≤acc.length+ds.length:=by
  intro ds
  induction ds with
  | nil=>intro acc;simp
  | cons d ds ih=>intro acc;rw[Sk];have:=ih (qb acc d);have:=Gn acc d;simp only[QI];lia
 have:=this ds [];unfold jI
 simpa using this
theorem take_snoc{α:Type}{l:List α}{i:Nat}{x:α}(h:l[i]?=some x):l.take (i+1)=l.take i++[x]:=by rw[List.take_add_one,h];rfl
theorem ReadsAll.Py:∀{vs:List Value} {ds:List PyData} {as:List Addr} {i:Nat} {v:Value},ReadsAll h vs ds as->vs[i]?=some v->∃d bs,ds[i]?=some d∧Reads h v d bs
 | _,_,_,0,_,.cons h1 _,e=>by simp at e;subst e;exact⟨_,_,rfl,h1⟩
 | _,_,_,i+1,_,.cons _ h2,e=>by
  rw[RP] at e;obtain⟨d,bs,q1,q2⟩:=ReadsAll.Py h2 e;exact⟨d,bs,q1,q2⟩
noncomputable def tG:PyData->Bool
 | .tuple _=>true
 | _=>false
theorem Gi{P:Program}{w:World}{A:Around}{h₀:Heap}{S:Addr}{items:Array Value}{ds:List PyData}{as:List Addr}(hu:A.units+8 < cLine)(hr:ReadsAll h₀ items.toList ds as)(hp:ds.all (dE 8)=true)(ht:ds.all tG=true)(hl:ds.length≤4):
  IU P w A h₀ S items (fun i h=>Pl w h₀ h S 8 (jI (ds.take i))) where
 frame:=fun i h h' k=>by
  rintro⟨o,es,ep,t,ds',e,r⟩;exact⟨o,es,ep,t,ds',k o e,r⟩
 fresh:=fun led h e=>by
  refine⟨_,#[],0,_,[],e,⟨rfl,rfl,rfl⟩,rfl,⟨rfl,rfl,fun i j hi=>absurd hi (Sy _),rfl,Rw _,fun i j e hi=>?_⟩,⟨rfl,fun i e d he=>?_⟩,?_⟩
  ·exact absurd hi (by simp[SetTable.fresh])
  ·exact absurd he (by simp)
  ·rw[Sq];exact .refl _
 step:=fun i v s E Q hv hJ keep h=>by
  obtain⟨d,bs,hd,rd⟩:=ReadsAll.Py hr (by rw[RB];exact hv);have hm:d∈ds:=Qn hd;have pd:=RJ.mp hp d hm;have td:=RJ.mp ht d hm;have hil:i < ds.length:=(Qo.mp hd).1;have hroom:(jI (ds.take i)).length≤3:=by
   have h1:=uf (ds.take i);have h2:(ds.take i).length≤i:=by rw[QP];exact Te _ _
   lia
  have hb:∃b,v=.ref b:=by cases rd <;> first | exact⟨_,rfl⟩ |(simp[tG] at td;done)
  obtain⟨b,rfl⟩:=hb;unfold setAdd;refine Q9 ?_;have rd':=mG (h':=s.heap) (fun b o _ _ e _=>keep b o e) 8 pd rd;refine Qj (C6 8 hu pd rd' fun k=>?_);refine uw (s:={s with toks:=s.toks+k}) keep hJ (Qq _) hu pd rd hroom fun r h' hsb hT=>?_;refine h r h' (s.toks+k) (by lia) hsb ?_;rw[take_snoc hd,zA];exact hT
noncomputable def jL(ks:List Key)(k:Key):List Key:=if ks.any (fun x=>decide (x=k)) then ks else ks++[k]
noncomputable def jM(ks:List Key):List Key:=ks.foldl jL []
theorem ue(ks:List Key)(d:Key):jM (ks++[d])=jL (jM ks) d:=by unfold jM;rw[UX];rfl
theorem DF(ds:List Key)(d:Key):(jL ds d).length≤ds.length+1:=by unfold jL;split <;> simp
theorem we(ds:List Key):(jM ds).length≤ds.length:=by
 have:∀(ds acc:List Key),(ds.foldl jL acc).length≤acc.length+ds.length:=by
  intro ds
  induction ds with
  | nil=>intro acc;simp
  | cons d ds ih=>intro acc;rw[Sk];have:=ih (jL acc d);have:=DF acc d;simp only[QI];lia
 have:=this ds [];unfold jM
 simpa using this
theorem zR{P:Program}{w:World}{h:Heap}{a:Addr}{S S':Key->Bool}{n n':Nat}(hS:h.SetOf (aO P w) a S n)(e:∀k,S k=S' k)(en:n=n'):h.SetOf (aO P w) a S' n':=by
 have:S=S':=funext e;subst this;subst en;exact hS
theorem Gj{P:Program}{w:World}{A:Around}{h₀:Heap}{S:Addr}{items:Array Value}{ks:List Key}(hk:∀(i:Nat)(v:Value),items[i]?=some v->∃k,ks[i]?=some k∧RelV (kV k) v)(hl:ks.length≤1000):
  IU P w A h₀ S items (fun i h=>h.SetOf (aO P w) S (fun k'=>(jM (ks.take i)).any fun x=>decide (x=k')) (jM (ks.take i)).length) where
 frame:=fun i h h' k=>by
  rintro⟨o,es,ep,t,e,r⟩;exact⟨o,es,ep,t,k o e,r⟩
 fresh:=fun led h e=>by
  rw[Sq];exact⟨_,#[],0,_,e,⟨rfl,rfl,rfl⟩,rfl,fun e he=>by simp at he,fun k=>by simp[jM],by decide,rfl,rfl⟩
 step:=fun i v s E Q hv hJ keep h=>by
  obtain⟨k,hki,rk⟩:=hk i v hv;have hil:i < ks.length:=(Qo.mp hki).1;have hroom:(jM (ks.take i)).length+1 < scanBound:=by
   have h1:=we (ks.take i);have h2:(ks.take i).length≤i:=by rw[QP];exact Te _ _
   unfold scanBound
   lia
  have hsc:v.scannable=true:=by
   cases k with
   | inl i=>obtain⟨t,e⟩:=(show ∃t,v=Value.int i t from rk);subst e;rfl
   | inr x=>obtain⟨t,e⟩:=(show ∃t,v=Value.str x t from rk);subst e;rfl
  unfold setAdd;refine Q9 ?_;refine Qj ((aO P w).pyHash (k:=k) (lQ rk) ?_);refine wpAny_setAddHashed_of (knd:=aO P w) (s:={s with toks:=s.toks+1}) (lQ rk) hsc hJ hroom fun h' hsb hS2=>?_;refine h _ h' (s.toks+1) (by lia) hsb (zR hS2 (fun k'=>?_) ?_)
  ·rw[take_snoc hki,ue];unfold jL
   by_cases c:((jM (ks.take i)).any fun x=>decide (x=k))=true
   ·rw[Qp c]
    by_cases e:k'=k
    ·subst e;rw[c];rfl
    ·rw[Q7 e,Vo]
   ·rw[Qu c,List.any_append];congr 1;simp[eq_comm]
  ·rw[take_snoc hki,ue];unfold jL
   split <;> simp
def Gr(h:Heap)(a:Addr)(n:Nat):Prop:=n≤4096∧∃o es ep t,h.get? a=some o∧o.ExactSet∧o.data=.set es ep t∧t.fits es.size=true∧es.size=n
noncomputable def Bw(a:Addr)(n:Nat):HO:=.ext fun h=>Gr h a n
theorem Lf(x:Gr h a n):cS P w H h a (Bw a n):=
 ⟨x,let⟨_,o,_,_,_,e,_⟩:=x;⟨o,e⟩,fun h1 h2 y k=>let⟨q,o,es,ep,t,e,r⟩:=y;⟨q,o,es,ep,t,k o e,r⟩⟩
theorem Dz:fe X (.builtin "len") (fun xs H Q=>∃a n,xs=[.ref a]∧H a=some (Bw a n)∧Q (.int n) H):=by
 intro pins s σ H xs us Q I r h;obtain⟨a,n,rfl,e,q⟩:=h;obtain⟨u,rfl,rx⟩:=vals1 r;cases rx;obtain⟨⟨hn,o,es,ep,t,e1,e2,e3,e4,e5⟩,_,_⟩:=I.bI a _ e;subst e5;have hfit:(es.size:Int) < 2^63:=by
  have:(es.size:Int)≤4096:=by lia
  exact Int.lt_of_le_of_lt this (by decide)
 refine call_len_set e1 e2 e3 e4 hfit ?_;exact⟨.int es.size,H,I.tok _,⟨_,rfl⟩,q⟩
theorem Dv(hc:X.calm=true)(hu:X.A.units+64 < cLine):fe X (.type "set") (fun xs H Q=>∃a vs n,xs=[.ref a]∧jS X.K H a vs∧
  ((∃ks,vs=ks.map kV∧ks.length≤1000∧n=(jM ks).length)∨(∃ds,qg X.K H vs ds∧ds.all (dE 8)=true∧ds.all tG=true∧ds.length≤4∧n=(jI ds).length))∧∀l,H l=none->Q (.ref l) (upd H l (Bw l n))):=by
 intro pins s σ H xs us Q I r h;obtain⟨a,vs,n,rfl,hq,hcase,q⟩:=h;obtain⟨u,rfl,rx⟩:=vals1 r;cases rx;obtain⟨its,rv,pt,hz⟩:=I.tuple hq;have hlen:=rv.length;have fin:∀(h':Heap)(tk:Nat),Gr h' s.heap.objs.size n->(∀b o,b < s.heap.objs.size->s.heap.get? b=some o->h'.get? b=some o)->EP X pins σ Q (.ref s.heap.objs.size) {s with heap:=h',toks:=tk}:=fun h' tk hL k=>
  ⟨.ref _,_,I.laid (t':=tk) (o:=Bw s.heap.objs.size n) (fun b o e=>k b o (Qw e) e) (Qq _) (Lf hL),rfl,q _ I.fresh⟩
 rcases hcase with⟨ks,rfl,hk1,rfl⟩ |⟨ds,hr,h1,h2,h3,rfl⟩
 ·have hkl:ks.length=its.length:=by rw[←hlen,Qk]
  refine kN (items:=its.toArray) (I.ok.hd hc) pt (fun A' _ _=>Gj (ks:=ks) (fun i v hv=>?_) hk1) fun h' tk hJ k=>fin h' tk ?_ k
  ·have hv':its[i]?=some v:=by simpa using hv
   have hi:i < ks.length:=by rw[hkl];exact(Qo.mp hv').1
   have hki:ks[i]?=some ks[i]:=Qr hi;obtain⟨u,hu',ru⟩:=Vals.get rv (x:=kV ks[i]) (i:=i) (by rw[Qy,hki];rfl);rw[hv'] at hu';cases hu';exact⟨_,hki,ru⟩
  ·obtain⟨o,es,ep,t,e1,e2,e3,_,_,e4,e5,e6⟩:=hJ;have hs:its.toArray.size=ks.length:=by rw[hkl];rfl
   rw[hs,QZ] at e6;have:=we ks;exact⟨by lia,o,es,ep,t,e1,e2,e3,e5,e6⟩
 ·obtain⟨as,ra⟩:=hr.reads I rv;have hdl:ds.length=its.length:=by have:=ReadsAll.length _ _ _ ra;lia
  refine kN (items:=its.toArray) (I.ok.hd hc) pt (fun A' _ hA=>Gi (ds:=ds) (as:=as) (by lia) ra h1 h2 h3) fun h' tk hJ k=>fin h' tk ?_ k;obtain⟨o,es,ep,t,ds',e1,e2,e3,e4,e5,e6⟩:=hJ;have hs:its.toArray.size=ds.length:=by rw[hdl];rfl
  rw[hs,QZ] at e6;have:=uf ds;exact⟨by lia,o,es,ep,t,e1,e2,e3,e4.fits,by rw[←e5.1,e6.length_eq]⟩
end L2
namespace Sm
open PySem L2 PySem.Spec PyProof.Rows
noncomputable def tE:List D->Option (List Key)
 | []=>some []
 | x::r=>(rh x).bind fun k=>(tE r).map fun ks=>k::ks
noncomputable def jC:D->Option Nat
 | .tup xs=>match tE xs with
  | some ks=>if ks.length≤1000 then some (jM ks).length else none
  | none=>(oH xs).bind fun ds=>if(ds.all (dE 8)&&ds.all tG&&decide (ds.length≤4))=true then some (jI ds).length else none
 | _=>none
noncomputable def nY(m:EM):EM:=fun δ h=>(m δ h).bind fun p=>(jC p.1).map fun(n:Nat)=>(D.int (n:Int),p.2)
theorem y9{K:FR}{ρ:Ad}{H:Hp}{vs:List V}{ds:List D}{ks:List Key}(z:aI K ρ H vs ds)(e:tE ds=some ks):vs=ks.map kV:=by
 cases z with
 | nil=>cases e;rfl
 | cons r l=>
  obtain⟨k,e1,e2⟩:=bS e;obtain⟨ks,e3,e4⟩:=gL e2;cases e4;rw[lg r e1,y9 l e3];rfl
theorem yq{K:FR}{ρ:Ad}{H:Hp}:∀{vs:List V} {ds:List D} {ps:List PyData},aI K ρ H vs ds->oH ds=some ps->qg K H vs ps
 | _,_,_,.nil,e=>by cases e;exact .nil
 | _,_,_,.cons r l,e=>by
  obtain⟨k,e1,e2⟩:=bS e;obtain⟨ks,e3,e4⟩:=gL e2;cases e4;exact .cons (r.vt e1).1 (yq l e3)
theorem vm(hc:X.calm=true)(hu:X.A.units+64 < cLine)(hgl:Gl X "len")(hml:X.mg "len"=none)(hgs:Gl X "set")(hms:X.mg "set"=none)(he:SE X e me)(hs:starEach [e] X.env=(false,eval e X.env)::starEach [] X.env:=by ac_nf):
  SE X (.Call (.Name "len" p) [.Call (.Name "set" p2) [e] [] pos2] [] pos) (nY me):=
 (sP Dz hgl hml (by decide+kernel) (nJ (k5 (Dv hc hu) hgs hms (by decide+kernel) (nJ he sR hs) (by decide) (by decide) hs) sR)).imp fun σ H Q ⟨ρ,δ,h,d,h',R,S,ee,k⟩=>by
  obtain⟨⟨d1,h1⟩,e1,e2⟩:=bS ee;obtain⟨n,e3,e4⟩:=gL e2;cases e4;refine⟨ρ,δ,h,d1,h1,R,S,e1,fun v H1 ⟨ρ1,T1,S1,r1⟩=>?_⟩;have fin:∀l,H1 l=none->∃a n',[V.ref l]=[V.ref a]∧upd H1 l (Bw l n) a=some (Bw a n')∧Q (.int n') (upd H1 l (Bw l n)):=fun l hl=>
   ⟨l,n,rfl,bj,k _ _ (fc.step (T1.trans (dP.laid S1 hl)) (fc.here (S1.laid hl) (.int _)))⟩
  cases d1 with
  | tup xs=>
   cases r1 with
   | @tup a vs _ ht la=>
    refine⟨a,vs,n,rfl,ht.sq,?_,fin⟩;unfold jC at e3;dsimp only at e3;cases q:tE xs with
    | some ks=>
     rw[q] at e3;dsimp only at e3
     by_cases c:ks.length≤1000
     ·rw[Qp c] at e3;cases e3;exact .inl ⟨ks,y9 la q,c,rfl⟩
     ·rw[Qu c] at e3;cases e3
    | none=>
     rw[q] at e3;obtain⟨ds,e5,e6⟩:=bS e3
     by_cases c:(ds.all (dE 8)&&ds.all tG&&decide (ds.length≤4))=true
     ·rw[Qp c] at e6;cases e6;rw[QJ,QJ] at c;exact .inr ⟨ds,yq la e5,c.1.1,c.1.2,Q3 c.2,rfl⟩
     ·rw[Qu c] at e6;cases e6
  | _=>cases e3
def Ci(mg:Str->Option Value)(x:Str)(d:D):Prop:=∃(v:V)(u:Value),mg x=some u∧RelV v u∧∀K ρ H,Rep K ρ H v d
theorem gB(C:Ci X.mg x d)(hg:Gl X x)(hd:(x==("__debug__":Str))=false:=by ac_nf):SE X (.Name x pos) (eK d):=by
 obtain⟨v,u,h1,h2,h3⟩:=C;exact GL hg h1 h2 (fun ρ H=>h3 X.K ρ H) hd
end Sm
namespace Hd
open PySem PySem.W PySem.Spec PyProof.Rows L2 Sm
theorem gn(T:Top q loose mean mg mb h)(e:valOf q x=some (.int i)):Ci mg x (.int i):=by
 obtain⟨v,h1,h2⟩:=T.const x _ e;have:=h2 h;cases this with
 | int _ t=>exact⟨.int i,_,h1,⟨t,rfl⟩,fun _ _ _=>.int i⟩
theorem Io(T:Top q loose mean mg mb h)(e:valOf q x=some (.str s))(ok:PyData.strOk s=true):Ci mg x (.str s):=by
 obtain⟨v,h1,h2⟩:=T.const x _ e;have:=h2 h;cases this with
 | str _ t=>exact⟨.str s,_,h1,⟨t,rfl⟩,fun _ _ _=>.str ok⟩
end Hd
namespace L2
open PySem PySem.Spec PyProof.Rows
noncomputable def PV(x:Str):It:=⟨fun i _=>i < x.cps.size,fun i H y H'=>H'=H∧∃c,x.cps[i]?=some c∧y=.str ⟨#[c]⟩,fun i _=>x.cps.size≤i⟩
theorem DZ{P:Program}{w:World}{K:FR}{tg:Expr}(it:Addr)(x:Str)(t:Tok):Turn P w K tg (PV x) [it] it (fun i h=>h.IsStrIter it "str_ascii_iterator" x t i) where
 mem:=by simp
 obj:=fun i h st b hb=>by
  have e:b=it:=by simpa using hb
  subst e;obtain⟨o,h1,h2,h3⟩:=st;exact⟨o,h1,fun v z=>by rw[h3] at z;cases z⟩
 keep:=fun i h h' st k=>let⟨o,h1,r⟩:=st;⟨o,k it (by simp) o h1,r⟩
 item:=by
  intro X hP hw hK hc i pins s σ H E I hf st hg;subst hP hw hK;obtain⟨f0,f1,f2,f3,f4,f5⟩:=hf it (by simp);have W:=Walks.strAscii (prog:=X.prog) (w:=X.w) (I.ok.hd hc) it x t;refine W.item i s _ _ hg st fun v h' tk hv st' kk=>?_;obtain⟨c,u,hx,rfl⟩:=hv;have I1:Inv X pins σ H {s with heap:=h',toks:=tk}:=I.turned (fun b o hb e=>kk b o (by simpa using hb) e) f0 f1 f3 f4 f5;obtain⟨o,h1,h2,h3⟩:=id st';exact⟨_,rfl,BV (s:={s with heap:=h',toks:=tk}) (n:="str_ascii_iterator") h1 h2 h3 (by decide) ⟨.str ⟨#[c]⟩,H,I1,⟨u,rfl⟩,⟨rfl,c,hx,rfl⟩,st',fun b hb=>(hf b hb).1⟩⟩
 done:=by
  intro X hP hw hK hc i pins s σ H E I hf st hg;subst hP hw hK;obtain⟨f0,f1,f2,f3,f4,f5⟩:=hf it (by simp);have hx:x.cps[i]?=none:=Uu (show x.cps.size≤i from hg);exact wpAny_pyNext_ascii_end (I.ok.hd hc) st hx fun h' eb=>⟨rfl,I.turned (t':=s.toks) (fun b o hb e=>eb b o hb e) f0 f1 f3 f4 f5⟩
 self:=fun _ _ _ _ _ st h=>wpAny_pyIter_striter_ascii st h
theorem Kx{X:Cx}{tg:Expr}{l:Expr}{tl:TE}(hl:PE X l tl):PI X tg l (fun σ H R=>tl σ H fun v H1=>∃x:Str,v=.str x∧x.cps.all (· < 128)=true∧R (PV x) H1):=by
 intro pins s σ H R I h;refine cU (hl pins s σ H _ I h) fun v s1 ⟨y,H1,I1,r1,q1⟩=>?_;obtain⟨x,e,ha,q⟩:=q1;subst e;obtain⟨t,rfl⟩:=r1;refine wpAny_pyIter_ascii ha ?_;refine⟨s1.heap.objs.size,[s1.heap.objs.size],_,_,H1,rfl,I1.kept (t':=s1.toks) fun b o e=>Ql _ e,DZ _ x t,⟨_,Qx _ rfl,rfl,rfl⟩,fun b hb=>?_,q⟩;have e:b=s1.heap.objs.size:=by simpa using hb
 subst e;exact I1.xE (Qq _) (I1.bI.fresh (Qq _))
end L2
namespace Sm
open PySem L2 PySem.Spec PyProof.Rows
noncomputable def AO(e:EM):IM:=fun δ h=>(e δ h).bind fun p=>match p.1 with
 | .str x=>if x.cps.all (· < 128)=true then some (x.cps.toList.map fun c=>D.str ⟨#[c]⟩,[],p.2) else none
 | _=>none
theorem AI(h:c < 128):PyData.strOk ⟨#[c]⟩=true:=by
 unfold PyData.strOk;simp
 lia
theorem yp{K:FR}{ρ:Ad}{H:Hp}:∀(cs:List Nat),(∀c∈cs,c < 128)->aI K ρ H (cs.map fun c=>V.str ⟨#[c]⟩) (cs.map fun c=>D.str ⟨#[c]⟩)
 | [],_=>.nil
 | c::r,h=>.cons (.str (AI (h c (.head _)))) (yp r fun d hd=>h d (.tail _ hd))
theorem Ea(h:SE X e ma):SI X tg e (AO ma):=(Kx h).imp fun σ H Q ⟨ρ,δ,h,xs,ws,h',R,S,e,k⟩=>by
 obtain⟨⟨x,h1⟩,e1,e2⟩:=bS e;refine⟨ρ,δ,h,x,h1,R,S,e1,fun v H1 ⟨ρ1,T1,S1,r1⟩=>?_⟩;cases x with
 | str x=>
  by_cases c:x.cps.all (· < 128)=true
  ·rw[show(match D.str x with | .str x=>if x.cps.all (· < 128)=true then some (x.cps.toList.map fun c=>D.str ⟨#[c]⟩,([]:W),h1) else none | _=>none)=some (x.cps.toList.map fun c=>D.str ⟨#[c]⟩,([]:W),h1) from Qp c] at e2;cases e2;cases r1;refine⟨x,rfl,c,k _ ρ1 H1 T1 S1 ?_⟩;have hlow:∀d∈x.cps.toList,d < 128:=fun d hd=>by
    rw[Sn] at c
    simpa using c d (Rb.mp hd)
   refine xx fun ρ2 H2 h2 T S2 hc=>⟨x.cps.toList.map fun c=>V.str ⟨#[c]⟩,yp _ hlow,fun i hi=>?_,fun i v hv=>?_⟩
   ·rw[Qk,RA] at hi;exact hi
   ·rw[Qy] at hv;obtain⟨j,e3,e4⟩:=gL hv;have hlt:i < x.cps.toList.length:=(Qo.mp e3).1;rw[RA] at hlt;refine⟨hlt,fun u H3 ⟨y1,c',y2,y3⟩=>⟨y1,?_⟩⟩;rw[RB,y2] at e3;cases e3;rw[y3,e4]
  ·rw[show(match D.str x with | .str x=>if x.cps.all (· < 128)=true then some (x.cps.toList.map fun c=>D.str ⟨#[c]⟩,([]:W),h1) else none | _=>none)=none from Qu c] at e2;cases e2
 | _=>cases e2
end Sm
namespace L2
open PySem PySem.Spec PyProof.Rows
theorem zr:fe X (.builtin "sorted") (fun xs H Q=>∃a ss,xs=[.ref a]∧jS X.K H a (ss.map V.str)∧ss.length < 64∧∀l,H l=none->Q (.ref l) (upd H l (.lst ((cH ss).map V.str)))):=by
 intro pins s σ H xs us Q I r h;obtain⟨a,ss,rfl,ha,h64,q⟩:=h;obtain⟨u,rfl,ru⟩:=vals1 r;cases ru;obtain⟨its,rv,p,hz⟩:=I.tuple ha;have hS:=iU rv;have hlen:its.length=ss.length:=by have:=rv.length;rw[Qk] at this;exact this.symm
 obtain⟨o,e1,e2,n,e3⟩:=id p;refine VP kind_sorted plain_sorted entry_sorted (args_sorted1 _) ?_;unfold Builtin.«sorted»;refine Qj (m:=checkCount "sorted" 1 1 _) (Qm ?_);refine Qj (wpAny_collect_seq a (.inr rfl) e1 e2 e3 (fun h1 k1=>?_) (by simp;rw[Q4];lia));refine Cu (s:={s with heap:=h1}) hS (by rw[hlen];exact h64) fun h' n out hk hl ho=>?_;have hz':((cH ss).map V.str).length≤sizeLine:=by rw[Qk,(bD ss).length_eq,Q4];lia
 have I1:Inv X pins σ H {s with heap:=h1}:=I.kept (t':=s.toks) k1;refine⟨.ref h1.objs.size,_,I1.laid (t':=s.toks) (o:=.lst ((cH ss).map V.str)) hk (Qq _) ⟨hz',out.toList,n,oN ho,?_⟩,rfl,q _ (I1.bI.fresh (Qq _))⟩;rw[hl]
end L2
namespace Sm
open PySem L2 PySem.Spec PyProof.Rows
noncomputable def xG:Fn:=fun ds h=>match ds with
 | [.tup xs]=>(jV xs).bind fun ns=>if ns.length < 64 then some (.lv ((cH ns).map D.str),h) else none
 | _=>none
theorem Dr:gI X (.builtin "sorted") xG:=by
 intro pins s σ H xs us Q I r hh;obtain⟨ρ,h,ds,z,h',S,l,ee,k⟩:=hh
 match ds,l,ee with
 | [],_,ee=>cases ee
 | d::_::_,_,ee=>cases d <;> cases ee
 | [d],l,ee=>
  obtain⟨v,rfl,rd⟩:=rep1 l;cases rd <;> first |(cases ee;done) | skip
  rename_i a vs ds ht la _;obtain⟨ns,e3,e4⟩:=bS (show((jV ds).bind fun ns=>if ns.length < 64 then some (D.lv ((cH ns).map D.str),h) else none)=some (z,h') from ee)
  by_cases c:ns.length < 64
  ·rw[Qp c] at e4;cases e4;have:=nq e3;subst this;obtain⟨e5,f⟩:=jr la;subst e5;refine zr pins s σ H _ us Q I r ⟨a,ns,rfl,ht.sq,c,fun l hl=>k _ _ (.lv S (pv _ fun x hx=>f x ((bD ns).mem_iff.mp hx)) hl)⟩
  ·rw[Qu c] at e4;cases e4
end Sm
namespace L2
open PySem PySem.Spec PyProof.Rows
end L2
namespace Sm
open PySem L2
end Sm
namespace Sm
open PySem L2 PySem.Spec PyProof.Rows
end Sm
namespace L2
open PySem PySem.Spec PyProof.Rows
end L2
namespace Sm
open PySem L2 PySem.Spec PyProof.Rows
theorem bG(d:Df X.prog X.w X.K X.mg X.base nm k ps n F)(hr:ip k' X.A)(ha:SA X (e::es) m)(hk:k≤k':=by decide)(hl:oF m n:=by repeat(first | exact aq | refine ag ?_))(hg:Gl X nm:=by unfold Gl;ac_nf)(hdb:(nm==("__debug__":Str))=false:=by ac_nf)(he:starEach (e::es) X.env=(false,eval e X.env)::starEach es X.env:=by ac_nf)(hpl:(backTo pos (starEach es X.env)).any (·.1)=false:=by ac_nf):SE X (.Call (.Name nm p) (e::es) [] pos) (ay F m):=MT d hr hk ha hl hg hdb he hpl
theorem eV{x:Str}{id:String}{p pos:Pos}{e:Expr}{es:List Expr}{f:Fn}{m:AM}(hc:gI X (.builtin id) f)(hm:X.mg x=none)(hv:bootBuiltins x=some (.builtin id))(ha:SA X (e::es) m)(hg:Gl X x:=by unfold Gl;ac_nf)(hn:x≠"__name__":=by decide)(hdb:(x==("__debug__":Str))=false:=by ac_nf)
  (he:starEach (e::es) X.env=(false,eval e X.env)::starEach es X.env:=by ac_nf) (hpl:(backTo pos (starEach es X.env)).any (·.1)=false:=by ac_nf):SE X (.Call (.Name x p) (e::es) [] pos) (ay f m):=Ej hc hg hm hv ha hn hdb he hpl
theorem so{x:Str}{id:String}{p pos:Pos}{e:Expr}{es:List Expr}{f:Fn}{m:AM}(hc:gI X (.type id) f)(hm:X.mg x=none)(hv:bootBuiltins x=some (.type id))(ha:SA X (e::es) m)(hg:Gl X x:=by unfold Gl;ac_nf)(hn:x≠"__name__":=by decide)(hdb:(x==("__debug__":Str))=false:=by ac_nf)
  (he:starEach (e::es) X.env=(false,eval e X.env)::starEach es X.env:=by ac_nf) (hpl:(backTo pos (starEach es X.env)).any (·.1)=false:=by ac_nf):SE X (.Call (.Name x p) (e::es) [] pos) (ay f m):=Ei hc hg hm hv ha hn hdb he hpl
theorem vi(hm:X.mg x=none)(hv:bootBuiltins x=some (.type n))(hg:Gl X x:=by unfold Gl;ac_nf)(hn:x≠"__name__":=by decide)(hd:(x==("__debug__":Str))=false:=by ac_nf):SE X (.Name x pos) (eK (.ty n)):=MN hg hm hv hn hd
theorem six(hr:ip k X.A)(ha:SE X a ma)(hb:SE X b mb)(hs:oE b:=by unfold oE;intro _ _;ac_nf):SE X (.Subscript a b pos) (az ba ma mb):=MR hr.units ha hb hs
end Sm
namespace Hd
open PySem PySem.W PySem.Spec PyProof.Rows L2 Sm
theorem u0{P:List Value->Prop}(h:P [])(us:List Value)(hl:us.length=0):P us:=by cases us with | nil=>exact h | cons _ _=>cases hl
theorem u1{P:List Value->Prop}(h:∀a,P [a])(us:List Value)(hl:us.length=1):P us:=by
 cases us with
 | nil=>cases hl
 | cons a r=>exact u0 (P:=fun r=>P (a::r)) (h a) r (Nat.succ.inj hl)
theorem u2{P:List Value->Prop}(h:∀a b,P [a,b])(us:List Value)(hl:us.length=2):P us:=by
 cases us with
 | nil=>cases hl
 | cons a r=>exact u1 (P:=fun r=>P (a::r)) (h a) r (Nat.succ.inj hl)
theorem u3{P:List Value->Prop}(h:∀a b c,P [a,b,c])(us:List Value)(hl:us.length=3):P us:=by
 cases us with
 | nil=>cases hl
 | cons a r=>exact u2 (P:=fun r=>P (a::r)) (h a) r (Nat.succ.inj hl)
theorem u4{P:List Value->Prop}(h:∀a b c d,P [a,b,c,d])(us:List Value)(hl:us.length=4):P us:=by
 cases us with
 | nil=>cases hl
 | cons a r=>exact u3 (P:=fun r=>P (a::r)) (h a) r (Nat.succ.inj hl)
theorem u5{P:List Value->Prop}(h:∀a b c d e,P [a,b,c,d,e])(us:List Value)(hl:us.length=5):P us:=by
 cases us with
 | nil=>cases hl
 | cons a r=>exact u4 (P:=fun r=>P (a::r)) (h a) r (Nat.succ.inj hl)
theorem u6{P:List Value->Prop}(h:∀a b c d e f,P [a,b,c,d,e,f])(us:List Value)(hl:us.length=6):P us:=by
 cases us with
 | nil=>cases hl
 | cons a r=>exact u5 (P:=fun r=>P (a::r)) (h a) r (Nat.succ.inj hl)
theorem u7{P:List Value->Prop}(h:∀a b c d e f g,P [a,b,c,d,e,f,g])(us:List Value)(hl:us.length=7):P us:=by
 cases us with
 | nil=>cases hl
 | cons a r=>exact u6 (P:=fun r=>P (a::r)) (h a) r (Nat.succ.inj hl)
theorem bR{q:Program}{loose:List Str}{mean:ExcName->Option Value}{mg mb:Str->Option Value}{h base:Heap}{P:Program}{w:World}(T:Top q loose mean mg mb h){n:Str}{st:Stmt}(e:(recsOf q).find? (fun e=>e.name==n)=some (vp n st)){ps:List Str}{k N:Nat}{F:Fn}
  (hb:∀{f:Addr} {fd:FuncData},fX (bx h) n n st f fd->Binds (bx h) fd ps []) (ok:∀{f:Addr} {fd:FuncData},fX (bx h) n n st f fd->keepIn (bx h) (.ref f)=true->Binds (bx h) fd ps []->mg n=some (.ref f)->bB P w (bx h) mg base fE k f fd ps (fY (bx h) N F)):Df P w (bx h) mg base n k ps N F:=by
 obtain⟨f,fd,m,G⟩:=qy T e;exact⟨f,fd,ok G G.kp (hb G) m,G.kp,hb G,m⟩
end Hd
namespace L2
open PySem PySem.Spec PyProof.Rows Builtin.Str
theorem HC{X:Cx}:DH X "str.join" (fun x vs H Q=>∃p a ss,x=.str p∧vs=[.ref a]∧(gH X.K H a (ss.map V.str)∨jS X.K H a (ss.map V.str))∧(ss.map (·.length)).sum+ss.length*p.length≤16777216∧Q (.str (Txt.join p ss)) H):=by
 intro pins s σ H x xs v us Q I rx rs h;obtain⟨p,a,ss,rfl,rfl,ha,hz,q⟩:=h;obtain⟨t,rfl⟩:=rx;obtain⟨u,rfl,ru⟩:=vals1 rs;cases ru;rcases ha with ha | ha
 ·obtain⟨its,rv,p,_⟩:=I.list ha;exact join_list p.isList (by simpa using iU rv) hz fun t' k=>⟨.str _,H,I.kept (t':=k) fun _ _ e=>e,⟨t',rfl⟩,q⟩
 ·obtain⟨its,rv,p,_⟩:=I.tuple ha;exact join_tuple p (by simpa using iU rv) hz fun t' k=>⟨.str _,H,I.kept (t':=k) fun _ _ e=>e,⟨t',rfl⟩,q⟩
theorem E6{X:Cx}:DH X "str.index" (fun x vs H Q=>∃p y i r,x=.str p∧vs=[.str y]∧occurrences p y 0 p.length 1=i::r∧Q (.int i) H):=by
 intro pins s σ H x xs v us Q I rx rs h;obtain⟨p,y,i,r,rfl,rfl,ho,q⟩:=h;obtain⟨t,rfl⟩:=rx;obtain⟨u,rfl,ru⟩:=vals1 rs;obtain⟨t',rfl⟩:=ru;exact SC.index ho ⟨.int _,H,I.kept (t':=s.toks+1) fun _ _ e=>e,⟨_,rfl⟩,q⟩
end L2
namespace L2
open PySem PySem.Spec PyProof.Rows
end L2
namespace Sm
open PySem L2 PySem.Spec PyProof.Rows Builtin.Str
theorem kW{x y:Str}(hx:PyData.strOk x=true)(hy:PyData.strOk y=true):PyData.strOk (x++y)=true:=by
 unfold PyData.strOk at*;show(x.cps++y.cps).all _=true;rw[Array.all_append,hx,hy];rfl
noncomputable def isStr(d:D)(_:MH):Bool:=match d with
 | .str _=>true
 | _=>false
theorem ty_str{K:FR}{ρ:Ad}{H:Hp}{h:MH}{v:V}{d:D}(S:cx K ρ h H)(r:Rep K ρ H v d)(e:isStr d h=true):Jz K "str" v H:=by
 cases r <;> first |(cases e;done) | exact rfl
noncomputable def Fd:DP:=fun d ds h=>match d,ds with
 | .str x,[y]=>(dq y h).bind fun p=>(jV p.1).bind fun ns=>if(ns.map (·.length)).sum+ns.length*x.length≤16777216 then some (.str (Str.join x ns),h) else none
 | _,_=>none
theorem se{x:Str}(hx:PyData.strOk x=true):∀ns:List Str,(∀y∈ns,PyData.strOk y=true)->PyData.strOk (Str.join x ns)=true
 | [],_=>by ac_nf
 | [y],h=>h y (.head _)
 | y::z::r,h=>kW (kW (h y (.head _)) hx) (se hx (z::r) fun a ha=>h a (.tail _ ha))
theorem HD{X:Cx}:DH X "str.join" (rM X.K Fd):=by
 intro pins s σ H x xs v us Q I rx rs hh;obtain⟨ρ,h,d,ds,z,h',S,rd,l,ee,k⟩:=hh;cases rd <;> first |(cases ee;done) | skip
 rename_i p hp
 match ds,l,ee with
 | [],_,ee=>cases ee
 | _::_::_,_,ee=>cases ee
 | [y],l,ee=>
  obtain⟨⟨ys,w⟩,e1,e2⟩:=bS ee;obtain⟨ns,e3,e4⟩:=bS e2
  by_cases c:(ns.map (·.length)).sum+ns.length*p.length≤16777216
  ·rw[Qp c] at e4;cases e4;obtain⟨v1,rfl,ry⟩:=rep1 l;obtain⟨a,vs,rfl,hq,l2⟩:=ny S ry e1;have:=nq e3;dsimp only at this;subst this;obtain⟨e5,f⟩:=jr l2;subst e5;refine HC pins s σ H _ _ v us Q I rx rs ⟨p,a,ns,rfl,rfl,hq,c,?_⟩;rw[show Txt.join p ns=Str.join p ns from StrLaws.glued_eq_join p ns];exact k _ _ (.here S (.str (se hp ns f)))
  ·rw[Qu c] at e4;cases e4
noncomputable def pS:DP:=fun d ds h=>match d,ds with
 | .str x,[.str y]=>match occurrences x y 0 x.length 1 with
  | i::_=>some (.int i,h)
  | []=>none
 | _,_=>none
theorem Fb{X:Cx}:DH X "str.index" (rM X.K pS):=by
 intro pins s σ H x xs v us Q I rx rs hh;obtain⟨ρ,h,d,ds,z,h',S,rd,l,ee,k⟩:=hh;cases rd <;> first |(cases ee;done) | skip
 rename_i p hp
 match ds,l,ee with
 | [],_,ee=>cases ee
 | y::_::_,_,ee=>cases y <;> cases ee
 | [y],l,ee=>
  obtain⟨v1,rfl,ry⟩:=rep1 l;cases ry <;> first |(cases ee;done) | skip
  rename_i q hq _;unfold pS at ee;dsimp only at ee;cases ho:occurrences p q 0 p.length 1 with
  | nil=>rw[ho] at ee;cases ee
  | cons i r=>
   rw[ho] at ee;cases ee;exact E6 pins s σ H _ _ v us Q I rx rs ⟨p,q,i,r,rfl,rfl,ho,k _ _ (.here S (.int _))⟩
end Sm
namespace L2
open PySem PySem.Spec PyProof.Rows
section
variable {X:Cx}
end
end L2
namespace Sm
open PySem L2 PySem.Spec PyProof.Rows
section
variable {X:Cx}
end
end Sm
namespace L2
open PySem PySem.Spec PyProof.Rows
end L2
namespace Sm
open PySem L2 PySem.Spec PyProof.Rows
end Sm
namespace L2
open PySem PySem.Spec PyProof.Rows
inductive Bu(w:World)(h:Heap)(a:Addr)(es:Array (Int×Value))(ep:Nat)(t:SetTable)(vs:List Value)(i:Nat):Value->Prop where
 | drawn {T:Addr} {idx:List Nat} {o:Obj} {n:Nat} (ho:h.get? T=some o) (hcT:o.cls=.type "tuple") (hd:o.data=.seq (idx.map fun(k:Nat)=>rawInt (k:Int)).toArray n) (hp:idx.Perm (List.range es.size)) (hv:vs=idx.filterMap fun k=>(es[k]?).map (·.2)):Bu w h a es ep t vs i (.ref T)
 | text (ht:w.params.followText "set-order"=true) (hv:vs=(pickOrder (w.params.setOrder a ep) es).toList.map (·.2)):Bu w h a es ep t vs i (.int 0 0)
 | led {slot:Nat} (ht:w.params.followText "set-order"=false) (hr:eC t.place) (hz:(!t.plain&&decide (es.size > 1))=false) (hl:t.led=true) (hs:slot=if i=0 then 0 else(t.place.getD (i-1) 0)+1) (hv:vs=es.toList.map (·.2)):Bu w h a es ep t vs i (.int slot 0)
def zD(w:World)(h:Heap)(J a:Addr)(es:Array (Int×Value))(ep:Nat)(t:SetTable)(vs:List Value)(i:Nat):Prop:=
 (∃ob,h.get? a=some ob∧ob.data=.set es ep t)∧t.fits es.size=true∧∃o first,h.get? J=some o∧o.cls=.type "set_iterator"∧o.data=.fields #[first,.int i 0,.ref a,.int es.size 0,.int ep 0]∧Bu w h a es ep t vs i first
theorem Bu.perm(x:Bu w h a es ep t vs i f):vs.Perm (es.toList.map (·.2)):=by
 cases x with
 | drawn ho _ hd hp hv=>subst hv;exact tP es hp
 | text ht hv=>subst hv;exact(vA _ es).map _
 | led ht hr hz hl hs hv=>subst hv;exact .refl _
def kS(w:World)(h:Heap)(a:Addr)(es:Array (Int×Value)):Prop:=
 ∃o ep t,h.get? a=some o∧o.ExactSet∧o.data=.set es ep t∧es.size < scanBound∧t.fits es.size=true∧(t.led=!w.params.followText "set-order")∧(t.plain=true->eC t.place)
theorem pW{t:SetTable}{n:Nat}(h:t.fits n=true):t.place.size=n:=by
 unfold SetTable.fits at h;rw[QJ,Th] at h;exact h.1
theorem below_at(hx:eC xs)(hi:i≤xs.size):SetTable.below xs (if i=0 then 0 else xs.getD (i-1) 0+1)=i:=by
 obtain⟨b1,b2,b3⟩:=ib xs (if i=0 then 0 else xs.getD (i-1) 0+1) hx;generalize SetTable.below xs (if i=0 then 0 else xs.getD (i-1) 0+1)=b at b1 b2 b3
 by_cases z:i=0
 ·rw[Qp z] at b2;rcases Nat.eq_zero_or_pos b with q | q
  ·lia
  ·exact absurd (b2 0 (by lia) q) (Sy _)
 ·rw[Qu z] at b2 b3;have hg:xs.getD (i-1) 0=xs[i-1]'(by lia):=by
   rw[U8,QV (by lia)];rfl
  rw[hg] at b2 b3;rcases UR b i with q | q | q
  ·have:=b3 (i-1) (by lia) (by lia);lia
  ·exact q
  ·have h1:=b2 i (by lia) q;have h2:=hx (i-1) i (by lia) (by lia) (by lia)
   lia
theorem nB(h:xs.size≤1):eC xs:=fun i j hi hj z=>by lia
section
variable {P:Program} {w:World} {A:Around} {E:Value->Shared->Prop} {s:Shared} {a:Addr} {es:Array (Int×Value)}
theorem kS.type(h:kS w s.heap a es):s.TypeIs (.ref a) "set":=let⟨o,_,_,e,x,_⟩:=h;⟨o,e,x.1⟩
theorem Gg(hS:kS w s.heap a es)(h:∀h' d J ep t vs,(∀b o,s.heap.get? b=some o->h'.get? b=some o)->s.heap.objs.size≤J->vs.Perm (es.toList.map (·.2))->zD w h' J a es ep t vs 0->Q (.ref J) {s with heap:=h',drawn:=d}):
  wpAny (model P w) A (pyIter (.ref a)) Q E s:=by
 have hT:=hS.type;obtain⟨ob,ep,t,hob,hex,hdt,h4,h5,h6,h7⟩:=hS;have out:∀(h':Heap)(d:Drawn)(J:Addr)(vs:List Value) {f:Value},(∀b o,s.heap.get? b=some o->h'.get? b=some o)->s.heap.objs.size≤J->(∃o,h'.get? J=some o∧o.cls=.type "set_iterator"∧o.data=.fields #[f,.int 0 0,.ref a,.int es.size 0,.int ep 0])->Bu w h' a es ep t vs 0 f->Q (.ref J) {s with heap:=h',drawn:=d}:=
  fun h' d J vs f hk hJ ⟨o,e1,e2,e3⟩ wy=>by
   have hp:=wy.perm;exact h h' d J ep t vs hk hJ hp ⟨⟨ob,hk _ _ hob,hdt⟩,h5,o,f,e1,e2,e3,wy⟩
 refine wpAny_pyIter_slot hT F.slot_set_iter (Rh F.slot_set_iter hT entry_set_iter' ?_ (F.args_set_iter_1 _));unfold Builtin.«frozenset.__iter__» Builtin.Frozenset.slot0 slotArgs Builtin.Frozenset.sizeOf Builtin.Frozenset.addrOf;simp only[U1,RV,QQ,↓reduceIte,bind_assoc,R3,Sl,pure_bind];refine Qj (UZ hob hdt h5 ?_);unfold setDrawn setsByText;simp only[bind_assoc];refine Qj (RN hob hdt h5 ?_);dsimp only;refine Qj (Sx ?_);simp only[pure_bind];cases hb:(!(model P w).w.params.followText "set-order"&&(!t.plain&&decide (es.size > 1))) with
 | true=>
  refine wpAny_of_eq' (Qp hb) ?_;refine Qj (Bx _ _ _ _ (by simp) fun idx d hp=>Qj (VJ ?_ (by rw[Qk,hp.length_eq,QU];exact Uw h4)));have k1:∀(o1:Obj) b o,s.heap.get? b=some o->(s.heap.push o1).get? b=some o:=fun o1 b o e=>Ql _ e;refine Qj (wpAny_setEpoch_of (k1 _ _ _ hob) hdt h5 (Qj (Ri (Qm ⟨_,rfl,"set_iterator",_,⟨_,Qx _ rfl,rfl⟩,eI.lookup,?_⟩))));exact out _ d _ _ (fun b o e=>Ql _ (Ql _ e)) (by rw[QY];exact T9 _) ⟨_,Qx _ rfl,rfl,rfl⟩ (.drawn (Ql _ (Qx _ rfl)) rfl rfl hp rfl)
 | false=>
  refine wpAny_of_eq' (Qu fun z=>Bool.noConfusion (hb.symm.trans z)) ?_;refine Qj (wpAny_setEpoch_of hob hdt h5 (Qj (Ri (Qm ⟨_,rfl,"set_iterator",_,⟨_,Qx _ rfl,rfl⟩,eI.lookup,?_⟩))));have hb':(!w.params.followText "set-order"&&(!t.plain&&decide (es.size > 1)))=false:=hb;cases ht:w.params.followText "set-order" with
  | true=>exact out _ s.drawn _ _ (fun b o e=>Ql _ e) (Qq _) ⟨_,Qx _ rfl,rfl,rfl⟩ (.text ht rfl)
  | false=>
   have hz:(!t.plain&&decide (es.size > 1))=false:=by
    rw[ht] at hb';exact hb'
   have hr:eC t.place:=by
    cases q:t.plain with
    | true=>exact h7 q
    | false=>
     rw[q] at hz;refine nB ?_;rw[pW h5]
     simpa using hz
   exact out _ s.drawn _ _ (fun b o e=>Ql _ e) (Qq _) ⟨_,Qx _ rfl,rfl,rfl⟩ (.led (slot:=0) ht hr hz (by rw[h6,ht];rfl) rfl rfl)
theorem yW(hob:s.heap.get? a=some ob)(hdt:ob.data=.set es ep t)(hf:t.fits es.size=true)(ht:w.params.followText "set-order"=false)(hz:(!t.plain&&decide (es.size > 1))=false)(hl:t.led=true)(h:Q (match es[SetTable.below t.place k]?,t.place[SetTable.below t.place k]? with | some (_,x),some j=>some (x,j+1) | _,_=>none) s):wpAny (model P w) A (setNext a k i ep) Q E s:=by
 unfold setNext setsByText;refine Qj (RN hob hdt hf ?_);dsimp only;refine Qj (Qj (Sx (Qm ?_)));rw[Qu (show ¬(model P w).w.params.followText "set-order"=true by rw[show(model P w).w.params.followText "set-order"=false from ht];simp)];have hdr:¬(!t.plain&&decide (es.size > 1))=true:=by rw[hz];simp
 refine wpAny_of_eq' (Qu hdr) ?_;refine Qj (wpAny_of_eq' (m':=pure ()) (Qu (show ¬(!t.led&&!es.isEmpty)=true by rw[hl];simp)) (Qm ?_));exact Qm h
theorem Ge(hS:zD w s.heap J a es ep t vs i)(hv:vs[i]?=some v)(hne:J≠a)(h:∀h',(∀b o,b≠J->s.heap.get? b=some o->h'.get? b=some o)->zD w h' J a es ep t vs (i+1)->Q (some v) {s with heap:=h'}):wpAny (model P w) A (pyNext (.ref J)) Q E s:=by
 obtain⟨⟨ob,hob,hdt⟩,hf,o,first,ho,hc,hd,wy⟩:=hS;have hT:s.TypeIs (.ref J) "set_iterator":=⟨o,ho,hc⟩;unfold pyNext;refine Qj (TV (Rj (name:=Str.ofString "__next__") hT eI (Rh eI hT lS ?_ (ou _))));unfold Builtin.«set_iterator.__next__» slotArgs;simp only[U1,RV,QQ,↓reduceIte,bind_assoc,R3,Sl,pure_bind];refine Qj (wpAny_fieldsOf ho hd ?_);dsimp only;refine Qj (UZ hob hdt hf ?_);simp only[Sl,QQ,↓reduceIte];cases wy with
 | @drawn T idx oT nT hoT hcT hdT hp hvs=>
  have hTJ:T≠J:=fun z=>by subst z;rw[ho] at hoT;cases hoT;rw[hd] at hdT;cases hdT
  refine Qj (m:=seqItems? (.ref T)) (RK hoT hdT ?_);dsimp only;have hlen:idx.length=es.size:=by rw[hp.length_eq,QU]
  have hall:∀k∈idx,∃e,es[k]?=some e:=fun k hk=>by
   have:k < es.size:=by have:=hp.mem_iff.mp hk;simpa using this
   exact⟨_,QV this⟩
  have hget:∀(l:List Nat)(i:Nat)(v:Value),(∀k∈l,∃e,es[k]?=some e)->(l.filterMap fun k=>(es[k]?).map (·.2))[i]?=some v->∃k e,l[i]?=some k∧es[k]?=some e∧e.2=v:=by
   intro l
   induction l with
   | nil=>intro i v _ h;simp at h
   | cons k r ih=>
    intro i v ha h;obtain⟨e,he⟩:=ha k Qv;rw[Q0,he] at h;dsimp only[Option.map] at h;cases i with
    | zero=>rw[Vr] at h;cases h;exact⟨k,e,rfl,he,rfl⟩
    | succ j=>
     rw[RP] at h;obtain⟨k',e',a1,a2,a3⟩:=ih j v (fun x hx=>ha x (Qs _ hx)) h;exact⟨k',e',by rw[RP];exact a1,a2,a3⟩
  rw[hvs] at hv;obtain⟨k,e,e1,e2,rfl⟩:=hget idx i v hall hv;have e3:((idx.map fun(k:Nat)=>rawInt (k:Int)).toArray)[(i:Int).toNat]?=some (rawInt (k:Int)):=by
   rw[QO,VE,Qy,e1];rfl
  rw[e3];show wpAny _ _ (setNextDrawn a (k:Int).toNat (ep:Int).toNat >>=_) _ _ s;rw[QO,QO];unfold setNextDrawn;simp only[bind_assoc];refine Qj (RN hob hdt hf ?_);dsimp only;simp only[Sl,QQ,↓reduceIte];rw[e2];simp only[pure_bind];refine Qj (xD ho hd (by simp) fun h' o' hk ho' hc' hd'=>Qm ⟨_,rfl,Qm (h h' hk ?_)⟩);exact⟨⟨ob,hk _ _ (RM hne) hob,hdt⟩,hf,o',.ref T,ho',hc'.trans hc,hd',.drawn (hk _ _ hTJ hoT) hcT hdT hp (by rw[hvs])⟩
 | text ht hvs=>
  show wpAny _ _ (setNext a (0:Int).toNat (i:Int).toNat (ep:Int).toNat >>=_) _ _ s;rw[QO,QO];refine Qj (vE hob hdt hf ht ?_);have hv':=hv;rw[hvs,Qy] at hv';obtain⟨e,e1,e2⟩:=QL.mp hv';rw[RB] at e1;rw[e1];dsimp only[Option.map];refine Qj (xD ho hd (by simp) fun h1 o1 hk1 ho1 hc1 hd1=>Qj (xD ho1 hd1 (by simp) fun h' o' hk ho' hc' hd'=>Qm ⟨_,rfl,Qm ?_⟩));rw[e2];refine h h' (fun b u hb z=>hk b u hb (hk1 b u hb z)) ⟨⟨ob,hk _ _ (RM hne) (hk1 _ _ (RM hne) hob),hdt⟩,hf,o',_,ho',(hc'.trans hc1).trans hc,hd',.text ht hvs⟩
 | @led slot ht hr hz hl hs hvs=>
  show wpAny _ _ (setNext a (slot:Int).toNat (i:Int).toNat (ep:Int).toNat >>=_) _ _ s;rw[QO,QO,QO];have hlt:i < es.size:=by
   have:=(Qo.mp hv).1;rw[hvs] at this
   simpa using this
  have hpz:=pW hf;refine Qj (yW hob hdt hf ht hz hl ?_);rw[hs,below_at hr (by lia),QV (show i < t.place.size by lia)];have hv':=hv;rw[hvs,Qy] at hv';obtain⟨e,e1,e2⟩:=QL.mp hv';rw[RB] at e1;obtain⟨eh,ev⟩:=e;rw[e1];dsimp only at e2 ⊢;refine Qj (xD ho hd (by simp) fun h1 o1 hk1 ho1 hc1 hd1=>Qj (xD ho1 hd1 (by simp) fun h' o' hk ho' hc' hd'=>Qm ⟨_,rfl,Qm ?_⟩));rw[e2];refine h h' (fun b u hb z=>hk b u hb (hk1 b u hb z)) ⟨⟨ob,hk _ _ (RM hne) (hk1 _ _ (RM hne) hob),hdt⟩,hf,o',_,ho',(hc'.trans hc1).trans hc,hd',.led (slot:=t.place[i]+1) ht hr hz hl ?_ hvs⟩;rw[Qu (Nat.succ_ne_zero i),VW,U8,QV (show i < t.place.size by lia)];rfl
theorem IG(hh:A.handled=none)(hS:zD w s.heap J a es ep t vs vs.length)(h:∀h',(∀b o,b≠J->s.heap.get? b=some o->h'.get? b=some o)->Q none {s with heap:=h'}):wpAny (model P w) A (pyNext (.ref J)) Q E s:=by
 obtain⟨⟨ob,hob,hdt⟩,hf,o,first,ho,hc,hd,wy⟩:=hS;have hT:s.TypeIs (.ref J) "set_iterator":=⟨o,ho,hc⟩;have hlen:vs.length=es.size:=by have:=wy.perm.length_eq;simpa using this
 unfold pyNext;refine Qj (TV (Rj (name:=Str.ofString "__next__") hT eI (Rh eI hT lS ?_ (ou _))));unfold Builtin.«set_iterator.__next__» slotArgs;simp only[U1,RV,QQ,↓reduceIte,bind_assoc,R3,Sl,pure_bind];refine Qj (wpAny_fieldsOf ho hd ?_);dsimp only;refine Qj (UZ hob hdt hf ?_);simp only[Sl,QQ,↓reduceIte];cases wy with
 | @drawn T idx oT nT hoT hcT hdT hp hvs=>
  refine Qj (m:=seqItems? (.ref T)) (RK hoT hdT ?_);dsimp only;have e3:((idx.map fun(k:Nat)=>rawInt (k:Int)).toArray)[(vs.length:Int).toNat]?=none:=by
   rw[QO,VE,Qy,Rr (by rw[hp.length_eq,QU,hlen];exact Qq _)];rfl
  rw[e3];refine Qj (xD ho hd (by simp) fun h1 o1 hk1 ho1 hc1 hd1=>Qj (xD ho1 hd1 (by simp) fun h2 o2 hk2 ho2 hc2 hd2=>?_));exact wB (J:=J) hh fun h' hk=>h h' fun b u hb z=>hk b u (hk2 b u hb (hk1 b u hb z))
 | text ht hvs=>
  show wpAny _ _ (setNext a (0:Int).toNat (vs.length:Int).toNat (ep:Int).toNat >>=_) _ _ s;rw[QO,QO];refine Qj (vE hob hdt hf ht ?_);have hz:(pickOrder (w.params.setOrder a ep) es).size=es.size:=by have:=(vA (w.params.setOrder a ep) es).length_eq;simpa using this
  rw[Uu (by rw[hz,hlen];exact Qq _)];dsimp only[Option.map];refine Qj (xD ho hd (by simp) fun h2 o2 hk2 ho2 hc2 hd2=>?_);exact wB (J:=J) hh fun h' hk=>h h' fun b u hb z=>hk b u (hk2 b u hb z)
 | @led slot ht hr hz hl hs hvs=>
  show wpAny _ _ (setNext a (slot:Int).toNat (vs.length:Int).toNat (ep:Int).toNat >>=_) _ _ s;rw[QO,QO,QO];refine Qj (yW hob hdt hf ht hz hl ?_);have hpz:=pW hf;have hnone:es[SetTable.below t.place slot]?=none:=by
   rw[hs,below_at hr (by lia)];exact Uu (by lia)
  rw[hnone];dsimp only;refine Qj (xD ho hd (by simp) fun h2 o2 hk2 ho2 hc2 hd2=>?_);exact wB (J:=J) hh fun h' hk=>h h' fun b u hb z=>hk b u (hk2 b u hb z)
theorem zD.off(x:zD w h J a es ep t vs i)(hS:h.get? S=some oS)(hc:oS.cls=.type "list")(hj:S≠J)(ha:S≠a)(k:∀b o,b≠S->h.get? b=some o->h'.get? b=some o):zD w h' J a es ep t vs i:=by
 obtain⟨⟨ob,hob,hdt⟩,hf,o,first,ho,hcc,hd,wy⟩:=x;refine⟨⟨ob,k _ _ (RM ha) hob,hdt⟩,hf,o,first,k _ _ (RM hj) ho,hcc,hd,?_⟩;cases wy with
 | @drawn T idx oT nT hoT hcT hdT hp hvs=>
  have hTS:T≠S:=fun z=>by subst z;rw[hS] at hoT;cases hoT;rw[hc] at hcT;exact absurd hcT (by decide)
  exact .drawn (k _ _ hTS hoT) hcT hdT hp hvs
 | text ht hvs=>exact .text ht hvs
 | led ht hr hz hl hs hvs=>exact .led ht hr hz hl hs hvs
theorem Cy(hh:A.handled=none)(hj:S≠J)(ha:S≠a)(hja:J≠a)(hz:vs.length≤sizeLine):
  ∀(m i:Nat)(s:Shared)(c:Nat),vs.length-i=m->i≤vs.length->zD w s.heap J a es ep t vs i->s.heap.get? S=some {cls:=.type "list",dict:=none,data:=.seq (vs.take i).toArray c,slots:=#[]}->
  (∀h' c',(∀b o,b≠S->b≠J->s.heap.get? b=some o->h'.get? b=some o)->h'.get? S=some {cls:=.type "list",dict:=none,data:=.seq vs.toArray c',slots:=#[]}->R (.ok (.ret (.ref S))) {s with heap:=h'})->
  codeAny (model P w) A (.builtin "list.extend.loop" ⟨[.ref S,.ref J,.ref S],[]⟩) R s:=by
 intro m
 induction m with
 | zero=>
  intro i s c hm hi st hS hR;have hin:i=vs.length:=by lia
  subst hin;refine Ro F.entry_extend_loop ?_;rw[Q5 T8 _];show wpAny _ A.in1 (pyNext (.ref J) >>=_) _ _ s;refine Qj (IG (A:=A.in1) hh st fun h' hk=>Qm (hR h' c (fun b o _ hb e=>hk b o hb e) ?_));rw[QZ] at hS;exact hk _ _ hj hS
 | succ m ih=>
  intro i s c hm hi st hS hR;have hlt:i < vs.length:=by lia
  have hv:vs[i]?=some vs[i]:=Qr hlt;refine Ro F.entry_extend_loop ?_;rw[Q5 T8 _];show wpAny _ A.in1 (pyNext (.ref J) >>=_) _ _ s;refine Qj (Ge (A:=A.in1) st hv hja fun h1 hk1 st1=>?_);have hS1:=hk1 _ _ hj hS;show wpAny _ A.in1 (updateSeq S (·.push vs[i]) >>=_) _ _ _;have hlen:(vs.take i).toArray.size=i:=by rw[QA,QP];lia
  refine Qj (UE (s:={s with heap:=h1}) hS1 rfl (Qm ⟨Si T8 _,?_⟩) (by rw[hlen];lia) (by show((vs.take i).toArray.push vs[i]).size≤sizeLine+1;rw[Array.size_push,hlen];lia));have hS2:=RO (Obj.mapSeq (·.push vs[i])) hS1 rfl;have hk2:∀b o,b≠S->h1.get? b=some o->(h1.update S (Obj.mapSeq (·.push vs[i]))).get? b=some o:=fun b o hb e=>(Sh _ _ (RM hb)).trans e;have hpush:(vs.take i).toArray.push vs[i]=(vs.take (i+1)).toArray:=by
   rw[SO,hv];simp
  have hS3:∃c',(h1.update S (Obj.mapSeq (·.push vs[i]))).get? S=some {cls:=.type "list",dict:=none,data:=.seq (vs.take (i+1)).toArray c',slots:=#[]}:=by
   rw[←hpush];exact⟨_,hS2⟩
  obtain⟨c3,hS3⟩:=hS3;exact ih (i+1) {s with heap:=h1.update S (Obj.mapSeq (·.push vs[i]))} c3 (by lia) hlt (st1.off hS1 rfl hj ha hk2) hS3 fun h' c' hk hS'=>hR h' c' (fun b o hb hb' e=>hk b o hb hb' (hk2 b o hb (hk1 b o hb' e))) hS'
theorem zm(hh:A.handled=none)(hS:kS w s.heap a es)(h:∀h' d vs,s.heap.objs.size≤h'.objs.size->(∀b o,s.heap.get? b=some o->h'.get? b=some o)->vs.Perm (es.toList.map (·.2))->Q vs {s with heap:=h',drawn:=d}):wpAny (model P w) A (collect (.ref a)) Q E s:=by
 have hT:=hS.type;have hlt:a < s.heap.objs.size:=let⟨o,_,_,e,_⟩:=hS;Qw e;have hks:es.size≤sizeLine:=let⟨_,_,_,_,_,_,h4,_⟩:=hS;Uw h4;unfold collect;refine Qj (VI (Ro F.entry_proto_collect ?_));rw[Q5 F.plain_proto_collect _];show wpAny _ A.in1 (newList [] >>=fun l=>again (.builtin "list.__iadd__" ⟨[l,.ref a],[]⟩)) _ _ s;refine Qj (Ri (Qm ⟨Si F.plain_list_iadd _,Ro F.entry_list_iadd ?_⟩));rw[Q5 F.plain_list_iadd _];generalize hoS:({cls:=.type "list",data:=.seq ([]:List Value).toArray}:Obj)=oS;have k0:∀b o,s.heap.get? b=some o->(s.heap.push oS).get? b=some o:=fun b o e=>Ql _ e;have hS1:kS w (s.heap.push oS) a es:=let⟨o,ep,t,e,r⟩:=hS;⟨o,ep,t,k0 _ _ e,r⟩;have hSa:s.heap.objs.size≠a:=(QF hlt).symm;have hgS:(s.heap.push oS).get? s.heap.objs.size=some oS:=Qx _ (by rw[←hoS];rfl);show wpAny _ A.in1 (Builtin.List.listExtendWith (.ref s.heap.objs.size) (.ref a) (.ref s.heap.objs.size)) _ _ {s with heap:=s.heap.push oS};unfold Builtin.List.listExtendWith;refine Qj (Ua (s:={s with heap:=s.heap.push oS}) (kS.type (s:={s with heap:=s.heap.push oS}) hS1) ?_);have e1:Builtin.List.listSameRef (.ref s.heap.objs.size) (.ref a)=false:=by simp[Builtin.List.listSameRef,hSa]
 have e2:(Value.type "set"==Value.type "list")=false:=by decide
 have e3:(Value.type "set"==Value.type "tuple")=false:=by decide
 simp only[e1,e2,e3,Vo,QQ,Sf];refine Qj (Gg (s:={s with heap:=s.heap.push oS}) hS1 fun h1 d J ep t vs k1 hJ hp st=>?_);refine Qj (Q9 ?_);have hS2:kS w h1 a es:=let⟨o,ep,t,e,r⟩:=hS1;⟨o,ep,t,k1 _ _ e,r⟩;have hT2:Shared.TypeIs {s with heap:=h1,drawn:=d} (.ref a) "set":=kS.type (s:={s with heap:=h1,drawn:=d}) hS2;unfold Builtin.List.listLengthHint;refine Qj (Tt hT2 sk ?_);dsimp only;rw[ux];dsimp only;refine Qj (Sw hT2 sub_set_set ?_);simp only[RV,QQ,Sf];refine wpAny_of_eq' (Qp (by decide+kernel)) ?_;refine Qj (Ua hT2 (Qm ?_));have hgS1:h1.get? s.heap.objs.size=some {cls:=.type "list",data:=.seq ([]:List Value).toArray}:=by rw[hoS];exact k1 _ _ hgS
 have hJs:s.heap.objs.size < J:=by
  have:=hJ;rw[show(s.heap.push oS).objs.size=s.heap.objs.size+1 from QY _ _] at this;exact this
 have hlen:vs.length=es.size:=by have:=hp.length_eq;simpa using this
 refine wpAny_of_eq' (Qp (by decide+kernel)) (Qj (RU (Qj ?_)));show wpAny _ A.in1 (updateSeq s.heap.objs.size (·.push .none) >>=fun _=>updateSeq s.heap.objs.size (·.pop)) _ _ _;refine Qj (UE (s:={s with heap:=h1,drawn:=d}) hgS1 rfl ?_);have hgS2:=RO (Obj.mapSeq (·.push Value.none)) hgS1 rfl;refine UE hgS2 rfl ?_;have hgS3:=RO (Obj.mapSeq (·.pop)) hgS2 rfl;have koff:∀b o,b≠s.heap.objs.size->h1.get? b=some o->((h1.update s.heap.objs.size (Obj.mapSeq (·.push Value.none))).update s.heap.objs.size (Obj.mapSeq (·.pop))).get? b=some o:=
  fun b o hb e=>(Sh _ _ (RM hb)).trans ((Sh _ _ (RM hb)).trans e)
 have hgS4:∃c',((h1.update s.heap.objs.size (Obj.mapSeq (·.push Value.none))).update s.heap.objs.size (Obj.mapSeq (·.pop))).get? s.heap.objs.size=some {cls:=.type "list",dict:=none,data:=.seq (vs.take 0).toArray c',slots:=#[]}:=⟨_,hgS3⟩;obtain⟨c4,hgS4⟩:=hgS4;refine Qm ⟨Si T8 _,Cy (A:=A) hh (QF hJs) hSa (fun z=>?_) (by rw[hlen];exact hks) vs.length 0 _ c4 rfl (Rw _) (st.off hgS1 rfl (QF hJs) hSa koff) hgS4 fun h' c' hk hS'=>?_⟩
 ·rw[z] at hJs;exact Nat.lt_asymm hJs hlt
 ·show wpAny _ A (load s.heap.objs.size >>=_) _ _ _;refine Qj (wpAny_load hS' (Qm ?_));refine h h' d vs (US (Qw hS')) (fun b o e=>?_) hp;have hb:b≠s.heap.objs.size:=QF (Qw e);exact hk b o hb (QF (TR (Qw e) hJs)) (koff b o hb (k1 b o (k0 b o e)))
end
end L2
namespace L2
open PySem PySem.Spec PyProof.Rows PySem.SeqAt
theorem uW{prog:Program}{w:World}{A:Around}{E:Value->Shared->Prop}{s:Shared}(a:Value){Q₁:Value->Shared->Prop}
  (h:Q₁ (.ref s.heap.objs.size) {s with heap:=s.heap.push {cls:=.type "set",dict:=none,data:=.set #[] 0 (.fresh 0 0 (!w.params.followText "set-order"))}}):
  codeAny (model prog w) A (.call (.builtin "set.__new__") ⟨[.type "set",a],[]⟩) (wants Q₁ E) s:=by
 refine UI ?_;show wpAny _ A.in1 (do checkBuiltinCall "set.__new__" ⟨[.type "set",a],[]⟩;again (.builtin "set.__new__" ⟨[.type "set",a],[]⟩)) _ _ s;refine Qj (wpAny_of_eq (F.newCall_set_1 a) (Qm ⟨Si F.plain_set_new _,Ro F.entry_set_new ?_⟩));rw[Q5 F.plain_set_new _];unfold Builtin.«set.__new__» Builtin.Frozenset.newClass;have hsub:=sub_set_self;obtain⟨hp,g,d,tk,os⟩:=s;dsimp only
 wp_walk
 refine Sx (Qm ?_);dsimp only;simp only[newObj];refine Qj (wpAny_alloc (Qm ?_));exact Qm h
structure Gv(P:Program)(w:World)(A:Around)(h₀:Heap)(S:Addr)(items:Array Value)(J:Nat->Heap->Prop):Prop where
 frame:∀(i:Nat)(h h':Heap),(∀o,h.get? S=some o->h'.get? S=some o)->J i h->J i h'
 fresh:∀(h:Heap),h.get? S=some {cls:=.type "set",dict:=none,data:=.set #[] 0 (.fresh 0 0 (!w.params.followText "set-order"))}->J 0 h
 step:∀(i:Nat)(v:Value)(s:Shared)(E:Value->Shared->Prop)(Q:Bool->Shared->Prop),items[i]?=some v->J i s.heap->(∀b o,h₀.get? b=some o->s.heap.get? b=some o)->
  (∀r h' tk,s.toks≤tk->Heap.SameBut S s.heap h'->J (i+1) h'->Q r {s with heap:=h',toks:=tk})->wpAny (model P w) A (setAdd S v) Q E s
theorem Cw{A:Around}{R:Result->Shared->Prop}{I:Addr}{fp wr:List Addr}{G:Array GenState->Array GenState->Prop}{items:Array Value}{St:Nat->Shared->Prop}{h₀:Heap}{S:Addr}{J:Nat->Heap->Prop}
  (W:WalksS P w A.in1 I fp wr G items.size (fun i v=>items[i]?=some v) St) (hSf:S∉fp) (D:Gv P w A.in1 h₀ S items J) (hw0:∀b∈wr,h₀.get? b=none) (hS0:h₀.get? S=none):
  ∀(k i:Nat)(s:Shared),items.size-i=k->i≤items.size->St i s->J i s.heap->(∀b o,h₀.get? b=some o->s.heap.get? b=some o)->
   (∀s',Moved (S::wr) G s s'->J items.size s'.heap->R (.ok (.ret .none)) s')->
   codeAny (model P w) A (.builtin "set.update.loop" ⟨[.ref S,.ref I],[]⟩) R s:=by
 have hSw:S∉wr:=fun h=>hSf (W.sub _ h);have hsub:∀b∈wr,b∈S::wr:=fun b hb=>Qs _ hb;intro k
 induction k with
 | zero=>
  intro i s hk hi hst hJ h0 hR;have hin:i=items.size:=by lia
  subst hin;refine Ro TN ?_;rw[Q5 Sj _];show wpAny _ A.in1 (pyNext (.ref I) >>=_) _ _ s;refine Qj (W.done s _ _ hst fun s' hm=>?_);show wpAny _ A.in1 (ret Value.none) _ _ s';exact Qm (hR s' (hm.mono hsub) (D.frame _ _ _ (fun o e=>hm.heap S o hSw e) hJ))
 | succ k ih=>
  intro i s hk hi hst hJ h0 hR;have hlt:i < items.size:=by lia
  refine Ro TN ?_;rw[Q5 Sj _];show wpAny _ A.in1 (pyNext (.ref I) >>=_) _ _ s;refine Qj (W.item i s _ _ hlt hst fun v s' hP hst' hm=>?_);have hJ':=D.frame i s.heap s'.heap (fun o e=>hm.heap S o hSw e) hJ;have h0':∀b o,h₀.get? b=some o->s'.heap.get? b=some o:=fun b o e=>hm.heap b o (fun hb=>by rw[hw0 b hb] at e;cases e) (h0 b o e);show wpAny _ A.in1 (holding [v] (setAdd S v) >>=_) _ _ s';refine Qj (Q9 (D.step i v s' _ _ hP hJ' h0' fun r h' tk htk hsb hJ2=>?_));refine Qm ⟨Si Sj _,ih (i+1) _ (by lia) hlt (W.frame _ s' _ _ hst' htk fun b hb o e=>?_) hJ2 (fun b o e=>?_) fun s'' hm'' hJ''=>?_⟩
  ·rw[hsb.2 b (fun h:b=S=>hSf (by rw[←h];exact hb))];exact e
  ·rw[hsb.2 b (fun h:b=S=>by rw[h,hS0] at e;cases e)];exact h0' b o e
  ·refine hR s'' (Moved.trans W.gtrans ((hm.mono hsub).then_heap htk fun b o hb e=>?_) hm'') hJ'';rw[hsb.2 b (fun h:b=S=>hb (by rw[h];exact Qv))];exact e
set_option maxHeartbeats 3200000 in
theorem t7{l:Addr}{items:Array Value}{J:Nat->Heap->Prop}{Q:Value->Shared->Prop}
  (hh:A.handled=none) (hl:s.heap.IsList l items) (D:∀A':Around,A'.handled=none->A'.units≤A.units+8->Gv P w A' s.heap s.heap.objs.size items J)
  (h:∀(h':Heap)(tk:Nat),J items.size h'->(∀b o,b < s.heap.objs.size->s.heap.get? b=some o->h'.get? b=some o)->Q (.ref s.heap.objs.size) {s with heap:=h',toks:=tk}):
  wpAny (model P w) A (call (.type "set") [.ref l]) Q E s:=by
 obtain⟨c,tl,hmro⟩:=RE.mro;have hmade:=RE.made;have hsub:=RE.sub;refine wpAny_call (UI ?_);show wpAny _ _ (callAny (.type "set") _) _ _ _;refine Qm ⟨Code.quiet_builtin _ (by decide+kernel),Ro F.entry_type_call ?_⟩;rw[Around.under_plain (weight_type_call_type "set" [.ref l] []) rfl];have h1:=RE.notType;have h2:=RE.canCreate;have hct:=F.typeCall_set_1 (.ref l)
 repeat(any_goals (first | assumption | wp_step))
 refine Ti (uW (.ref l) (E:=E) (Q₁:=fun obj s₁=>∃led:Bool,led=(!w.params.followText "set-order")∧obj=.ref s.heap.objs.size∧s₁={s with heap:=s.heap.push {cls:=.type "set",dict:=none,data:=.set #[] 0 (.fresh 0 0 led)}}) ⟨_,rfl,rfl,rfl⟩) fun r s₁ hr=>?_;cases r with
 | error e=>exact hr
 | ok fl=>
  cases fl with
  | ret obj=>
   obtain⟨led,hled,rfl,rfl⟩:=hr;have hS:(s.heap.push {cls:=.type "set",dict:=none,data:=.set #[] 0 (.fresh 0 0 led)}).get? s.heap.objs.size=some {cls:=.type "set",dict:=none,data:=.set #[] 0 (.fresh 0 0 led)}:=Qx _ rfl;have hT:Shared.TypeIs {s with heap:=s.heap.push {cls:=.type "set",dict:=none,data:=.set #[] 0 (.fresh 0 0 led)}} (.ref s.heap.objs.size) "set":=⟨_,hS,rfl⟩;have hli:=RE.init.lookup;have hbi:=RE.init.bind (.ref s.heap.objs.size)
   repeat(any_goals (first | assumption | wp_step))
   refine Ti (codeAny_call_builtin (R:=wants (fun r s₂=>r=.none∧∃h' tk,s₂={s with heap:=h',toks:=tk}∧J items.size h'∧
     (∀b o,b < s.heap.objs.size->s.heap.get? b=some o->h'.get? b=some o)) E) RE.init.plain F.entry_set_init (check_set_init_1 hT ?_)) fun r₂ s₂ hr₂=>?_
   ·obtain⟨ol,hol,hcl,nl,hdl⟩:=hl;obtain⟨ocls,odict,odata,oslots⟩:=ol;simp only at hcl hdl;subst hcl;subst hdl;have hol':(s.heap.push {cls:=.type "set",dict:=none,data:=.set #[] 0 (.fresh 0 0 led)}).get? l=some {cls:=.type "list",dict:=odict,data:=.seq items nl,slots:=oslots}:=Ql _ hol;have hsls:=F.sub_list_set;have hslf:=F.sub_list_frozenset;have hne:(Value.type "list"==Value.type "dict")=false:=by decide
    have hl1:(s.heap.push {cls:=.type "set",dict:=none,data:=.set #[] 0 (.fresh 0 0 led)}).IsList l items:=⟨_,hol',rfl,nl,rfl⟩;unfold Builtin.«set.__init__» noKeywords Builtin.Frozenset.updateFrom;generalize hPI:pyIter=PI
    wp_walk
    subst hPI;refine TC hl1 ?_;refine Qj (VI ?_);have hlS:l < s.heap.objs.size:=Qw hol;have hh3:A.in1.in1.in1.handled=none:=by simp[hh]
    have hneI:l≠(s.heap.push {cls:=.type "set",dict:=none,data:=.set #[] 0 (.fresh 0 0 led)}).objs.size:=by
     rw[QY];exact QF (SH hlS)
    have hSf:s.heap.objs.size∉[(s.heap.push {cls:=.type "set",dict:=none,data:=.set #[] 0 (.fresh 0 0 led)}).objs.size,l]:=by
     rw[QY];simp only[QK,QC,Ul,U9,not_or];exact⟨QF (SY _),TQ hlS⟩
    have none_of:∀b,s.heap.objs.size≤b->s.heap.get? b=none:=fun b hb=>by
     cases q:s.heap.get? b with
     | none=>rfl
     | some o=>exact absurd (Qw q) (Vc.mpr hb)
    refine Cw ((Walks.list hh3 _ l hneI items).toS) hSf (D _ hh3 (by simp only[Vk];lia)) (fun b hb=>?_) (none_of _ (Qq _)) (items.size-0) 0 _ (by lia) (Rw _)
     ⟨⟨_,Qx _ rfl,rfl,rfl⟩,(hl1.push _)⟩ ?hS0 ?hK ?hR
    ·rw[QC] at hb;subst hb;exact none_of _ (by rw[QY];lia)
    case hS0=>
     exact(D A hh (by lia)).fresh _ (by rw[←hled];exact Ql _ hS)
    case hK=>
     intro b o e;exact Ql _ (Ql _ e)
    case hR=>
     intro s' hm hJ';obtain⟨h',g',d',tk',os'⟩:=s';have eg:g'=s.gens:=hm.gens;have ed:d'=s.drawn:=hm.drawn;have eo:os'=s.os:=hm.os;subst eg;subst ed;subst eo;show wpAny _ _ _ _ _ _;refine Qm ?_;show wpAny _ _ (ret Value.none) _ _ _;refine Qm ⟨rfl,h',tk',rfl,hJ',fun b o hb e=>?_⟩;have hb1:b≠s.heap.objs.size:=QF hb;have hb2:b≠(s.heap.push {cls:=.type "set",dict:=none,data:=.set #[] 0 (.fresh 0 0 led)}).objs.size:=by
      rw[QY];exact QF (SH hb)
     exact hm.heap b o (by simp only[QK,QC,Ul,U9,not_or];exact⟨hb1,hb2⟩) (Ql _ (Ql _ e))
   ·cases r₂ with
    | error e=>exact hr₂
    | ok fl₂=>
     cases fl₂ with
     | ret r=>
      obtain⟨rfl,h',tk,rfl,hJ',hk'⟩:=hr₂
      repeat(any_goals (first | assumption | wp_step))
      exact h _ _ hJ' hk'
     | _=>exact hr₂.elim
  | _=>exact hr.elim
end L2
namespace L2
open PySem PySem.Spec PyProof.Rows
def oD(t:SetTable):Prop:=t.dummies=#[]∧(t.plain=true->eC t.place)
theorem E3{t:SetTable}(h:t.dummies=#[])(j:Nat):t.slot j≠.dummy:=by
 unfold SetTable.slot;dsimp only
 split
 ·simp
 ·rw[h,Qu (by simp[SetTable.has])];simp
theorem sN{t:SetTable}(hd:t.dummies=#[])(hashAt:Nat->Int)(h:Int):∀(fuel:Nat)(p:SetTable.Probe)(j:Nat)(d:Option Nat),p.dummy=none->SetTable.probe.go t hashAt h fuel p=some (.empty j d)->d=none∧t.slot j=.empty
 | 0,p,j,d,_,e=>by cases e
 | fuel+1,p,j,d,hp,e=>by
  unfold SetTable.probe.go at e;have adv:(t.advance p).dummy=none:=by
   unfold SetTable.advance
   split
   ·exact hp
   ·exact hp
  cases q:t.slot p.j with
  | empty=>
   rw[q] at e;cases e;exact⟨hp,q⟩
  | dummy=>exact absurd q (E3 hd _)
  | live i=>
   rw[q] at e;dsimp only at e
   split at e
   ·cases e
   ·exact sN hd hashAt h fuel _ j d adv e
theorem Fq(T:oD t)(hp:t.plain=true)(e:t.freeSlot h=some (j,b)):j∉t.place.toList:=by
 unfold SetTable.freeSlot at e;cases q:t.probe (fun _=>h+1) h (t.probeStart h) with
 | none=>rw[q] at e;cases e
 | some m=>
  rw[q] at e;cases m with
  | candidate _ _ _=>cases e
  | empty j' d=>
   obtain⟨rfl,hs⟩:=sN T.1 _ h _ _ j' d rfl q;cases e;intro hm;obtain⟨i,hi⟩:=R8.mp hm;rw[RB] at hi;have this:t.slot j'=.live i:=oU (T.2 hp) hi;rw[hs] at this;cases this
theorem oD.standIn{t:SetTable}{n:Nat}:oD (t.standIn n):=⟨rfl,fun h=>by cases h⟩
theorem oD.lay(T:oD t)(es:Array (Int×Value))(h:Int)(x:Value):oD (layNew t es h x).2.1:=by
 unfold layNew;cases q:t.freeSlot h with
 | none=>exact oD.standIn
 | some p=>
  obtain⟨j,b⟩:=p;dsimp only;unfold SetTable.orStandIn
  split
  ·refine⟨?_,fun hp=>?_⟩
   ·unfold SetTable.put;dsimp only;rw[T.1,Qu (by simp[SetTable.has])]
   ·exact eC.ins (T.2 hp) (Fq T hp q)
  ·exact oD.standIn
theorem CC{l:List Nat}(h:l.Pairwise (· < ·)):eC l.toArray:=fun i j hi hj z=>by
 have:=Vh.mp h i j (by simpa using hi) (by simpa using hj) z
 simpa using this
theorem HH(f:Nat->Option Nat):∀(l:List Nat),l.Pairwise (· < ·)->((l.filterMap fun j=>(f j).map (j,·)).map (·.1)).Pairwise (· < ·):=by
 intro l hl;have hs:((l.filterMap fun j=>(f j).map (j,·)).map (·.1)).Sublist l:=by
  clear hl
  induction l with
  | nil=>exact .slnil
  | cons x r ih=>
   rw[Q0];cases f x with
   | none=>exact ih.cons x
   | some y=>exact ih.cons₂ x
 exact hl.sublist hs
theorem oD.BD(T:oD t)(es:Array (Int×Value))(n:Nat):oD (relayAll t es n).2.1:=by
 unfold relayAll;cases q:t.relaid (es.map (·.1)) n with
 | none=>exact oD.standIn
 | some p=>
  obtain⟨t',o⟩:=p;dsimp only
  split
  ·unfold SetTable.relaid SetTable.laid at q;cases z:SetTable.layClean (SetTable.sizeAbove n-1) (es.map (·.1)) with
   | none=>rw[z] at q;cases q
   | some owner=>
    rw[z] at q;cases q;refine⟨rfl,fun _=>?_⟩;exact CC (HH (fun j=>owner.getD j none) _ List.pairwise_lt_range)
  ·exact oD.standIn
noncomputable def intOf:Value->Int
 | .int i _=>i
 | _=>0
noncomputable def xC(ks:List Int)(k:Int):Bool:=ks.any fun x=>decide (x=k)
theorem nR:xC ks k=true↔k∈ks:=by unfold xC;simp
noncomputable def qa(ks:List Int)(k:Int):List Int:=if xC ks k then ks else ks++[k]
def jN(P:Program)(w:World)(es:Array (Int×Value))(t:SetTable)(ks:List Int):Prop:=
 ElemsOf (aO P w) es.toList∧(∀e∈es.toList,∃x u,e.2=.int x u)∧(es.toList.map fun e=>intOf e.2).Perm ks∧es.size < scanBound∧t.fits es.size=true∧(t.led=!w.params.followText "set-order")∧oD t
def qh(P:Program)(w:World)(h:Heap)(a:Addr)(ks:List Int):Prop:=
 ks.Nodup∧∃o es ep t,h.get? a=some o∧o.ExactSet∧o.data=.set es ep t∧jN P w es t ks
theorem jN.len(x:jN P w es t ks):es.size=ks.length:=by
 have:=x.2.2.1.length_eq
 simpa using this
theorem i0:(aO P w).is (.inl x) (.int x u)=true:=lQ (k:=.inl x) (u:=.int x u) ⟨u,rfl⟩
theorem Fi(h:(aO P w).is (.inl x) (.int y u)=true):y=x:=by
 have:=(aO P w).inj _ _ _ h i0;injection this with this
 exact this.symm
theorem jN.BD(T:jN P w es t ks)(n:Nat):jN P w (relayAll t es n).1 (relayAll t es n).2.1 ks:=by
 obtain⟨h1,h2,h3,h4,h5,h6,h7⟩:=T;have hp:=relayAll_perm t es n;have hs:(relayAll t es n).1.size=es.size:=by have:=hp.length_eq;simpa using this
 have hl:=wN t es n;exact⟨h1.perm hp,fun e he=>h2 e (hp.mem_iff.mp he),(hp.map _).trans h3,by rw[hs];exact h4,relayAll_fits t es n,hl.1.trans h6,h7.BD es n⟩
theorem jN.lay(T:jN P w es t ks)(hb:es.size+1 < scanBound)(f:SetTable)(hf:f=(layNew t es ((aO P w).hash (.inl x)) (.int x u)).2.1):
  jN P w (layNew t es ((aO P w).hash (.inl x)) (.int x u)).1 f (ks++[x]):=by
 obtain⟨h1,h2,h3,h4,h5,h6,h7⟩:=T;have hp:=layNew_perm t es ((aO P w).hash (.inl x)) (.int x u);have hq:=layNew_fits t es ((aO P w).hash (.inl x)) (.int x u);rw[V9] at hp;have hs:(layNew t es ((aO P w).hash (.inl x)) (.int x u)).1.size=es.size+1:=by have:=hp.length_eq;simpa using this
 subst hf;refine⟨(h1.push i0 rfl).perm hp,fun e he=>?_,(hp.map _).trans ?_,by rw[hs];exact hb,hq,(tx _ _ _ _).trans h6,h7.lay _ _ _⟩
 ·rcases QS.mp (hp.mem_iff.mp he) with z | z
  ·exact h2 e z
  ·rw[QC] at z;subst z;exact⟨x,u,rfl⟩
 ·rw[QG];exact h3.append_right _
theorem vR(hob:s.heap.get? a=some ob)(hex:ob.ExactSet)(hdt:ob.data=.set es ep t)(hT:jN P w es' t' ks)(h:∀h' o',Heap.SameBut a s.heap h'->h'.get? a=some o'->o'.ExactSet->o'.data=.set es' (ep+1) t'->R () {s with heap:=h'}):wpAny (model P w) A (storeSet a es' t') R E s:=by
 refine wpAny_storeSet_of hob hdt (h _ {ob with data:=.set es' (ep+1) t'} (TZ s.heap a (Obj.putSet es' t')) ?_ hex rfl) (Uw hT.2.2.2.1);have:=RO (Obj.putSet es' t') hob (by rw[V0 es' t' hdt];rfl);rw[V0 es' t' hdt] at this;exact this
theorem uR(hS:qh P w s.heap a ks)(hroom:ks.length+1 < scanBound)(h:∀b h',Heap.SameBut a s.heap h'->qh P w h' a (qa ks x)->Q b {s with heap:=h'}):wpAny (model P w) A (setAddHashed a (.int x u) ((aO P w).hash (.inl x))) Q E s:=by
 obtain⟨hn,ob,es,ep,t,hob,hex,hdt,hT⟩:=hS;obtain⟨h1,h2,h3,h4,h5,h6,h7⟩:=id hT;have hsc:(Value.int x u).scannable=true:=rfl;unfold setAddHashed setAddHashedIn;refine Q9 (Qj (RN hob hdt h5 ?_));dsimp only;rw[byScan_of hsc h4 h1,Qp rfl];unfold setAddByScan;refine Qj (Qj (RU (Qj (wpAny_setScan_of (i0 (x:=x)) hob hdt h5 h1 ?_))));have hmem:xC ks x=true↔∃e∈es.toList,(aO P w).is (.inl x) e.2=true:=by
  rw[nR,←h3.mem_iff,Qz];constructor
  ·rintro⟨e,he,rfl⟩;obtain⟨y,v,hv⟩:=h2 e he;exact⟨e,he,by rw[hv];exact i0⟩
  ·rintro⟨e,he,hi⟩;obtain⟨y,v,hv⟩:=h2 e he;rw[hv] at hi;exact⟨e,he,by rw[hv];exact Fi hi⟩
 cases hr:List.findIdx? (fun e=>(aO P w).is (.inl x) e.2) es.toList with
 | some j=>
  obtain⟨hj,hpj,_⟩:=List.findIdx?_eq_some_iff_getElem.mp hr;have hk:xC ks x=true:=hmem.mpr ⟨_,Um hj,hpj⟩;have:=h false s.heap (Heap.SameBut.refl a s.heap) (by unfold qa;rw[Qp hk];exact⟨hn,ob,es,ep,t,hob,hex,hdt,hT⟩);exact Qm (Qm this)
 | none=>
  have hk:xC ks x=false:=by
   cases z:xC ks x with
   | false=>rfl
   | true=>
    obtain⟨e,he,q⟩:=hmem.mp z;rw[List.findIdx?_eq_none_iff.mp hr e he] at q;cases q
  have hb:es.size+1 < scanBound:=by rw[hT.len];exact hroom
  have fin:∀(b:Bool)(h':Heap),Heap.SameBut a s.heap h'->(∃o es ep t,h'.get? a=some o∧o.ExactSet∧o.data=.set es ep t∧jN P w es t (ks++[x]))->Q b {s with heap:=h'}:=fun b h' hs hh=>by
   refine h b h' hs ?_;unfold qa;rw[Qu (by rw[hk];simp)];refine⟨RW.mpr ⟨hn,by simp,fun c hc d hd z=>?_⟩,hh⟩;rw[QC] at hd;subst hd;subst z;rw[nR.mpr hc] at hk;cases hk
  dsimp only;have hlay:=fun f hf=>hT.lay (x:=x) (u:=u) hb f hf;have hled:=tx t es ((aO P w).hash (.inl x)) (.int x u);generalize hL:layNew t es ((aO P w).hash (.inl x)) (.int x u)=L at hlay hled ⊢;obtain⟨es1,t1,wasDummy,gave⟩:=L;dsimp only at hlay hled ⊢;have gw:∀{m:Sem Unit} {Q':Unit->Shared->Prop} {s1:Shared},(m=rule "set.scan.the-table-gave-way"∨m=pure ())->Q' () s1->wpAny (model P w) A m Q' E s1:=fun hm q=>by
   rcases hm with rfl | rfl
   ·exact RU q
   ·exact Qm q
  refine Qj (gw (by cases gave <;> first | exact .inr rfl | exact .inl rfl) ?_);have tail:∀t2:SetTable,jN P w es1 t2 (ks++[x])->∀{g:Bool->Sem Unit},(∀b,g b=rule "set.scan.the-table-gave-way"∨g b=pure ())->wpAny (model P w) A (do
    storeSet a es1 t2
    if(!wasDummy&&t2.tooFull)=true then do
      g (relayAll t2 es1 (SetTable.grown es1.size)).2.2
      storeSet a (relayAll t2 es1 (SetTable.grown es1.size)).1 (relayAll t2 es1 (SetTable.grown es1.size)).2.1
      pure (some true)
     else pure (some true)) (fun r s'=>wpAny (model P w) A (match r with | some added=>pure added | none=>setAddHashedIn a (.int x u) ((aO P w).hash (.inl x)) 99999) Q E s') E s:=fun t2 hT2 g hg=>by
   refine Qj (vR hob hex hdt hT2 fun h' o' hs ho' hx' hd'=>?_)
   split
   ·refine Qj (gw (hg _) (Qj (vR (s:={s with heap:=h'}) ho' hx' hd' (hT2.BD _) fun h2' o2 hs2 ho2 hx2 hd2=>?_)));exact Qm (Qm (fin _ _ (hs.trans hs2) ⟨_,_,_,_,ho2,hx2,hd2,hT2.BD _⟩))
   ·exact Qm (Qm (fin _ _ hs ⟨_,_,_,_,ho',hx',hd',hT2⟩))
  cases hpl:t1.plain with
  | true=>
   rw[Qp rfl];refine Qj ?_;rw[SU 8 hsc];refine Qm ?_;exact tail _ (hlay _ (Qp (show(true=true) from rfl))) (fun b=>by cases b <;> first | exact .inr rfl | exact .inl rfl)
  | false=>
   rw[Qu (by decide)];refine Qj (Qm ?_);exact tail _ (hlay _ (Qp rfl)) (fun b=>by cases b <;> first | exact .inr rfl | exact .inl rfl)
noncomputable def eT(ns:List Int):List Int:=ns.foldl qa []
theorem Bt(ks:List Int)(d:Int):eT (ks++[d])=qa (eT ks) d:=by unfold eT;rw[UX];rfl
theorem Gm(ds:List Int)(d:Int):(qa ds d).length≤ds.length+1:=by unfold qa;split <;> simp
theorem DG(ds:List Int):(eT ds).length≤ds.length:=by
 have:∀(ds acc:List Int),(ds.foldl qa acc).length≤acc.length+ds.length:=by
  intro ds
  induction ds with
  | nil=>intro acc;simp
  | cons d ds ih=>intro acc;rw[Sk];have:=ih (qa acc d);have:=Gm acc d;simp only[QI];lia
 have:=this ds [];unfold eT
 simpa using this
theorem CQ:x∈eT ns↔x∈ns:=by
 have:∀(ds acc:List Int),x∈ds.foldl qa acc↔x∈acc∨x∈ds:=by
  intro ds
  induction ds with
  | nil=>intro acc;simp
  | cons d ds ih=>
   intro acc;rw[Sk,ih];unfold qa
   by_cases c:xC acc d=true
   ·rw[Qp c];have:=nR.mp c;constructor
    ·rintro(h | h)
     ·exact .inl h
     ·exact .inr (Qs _ h)
    ·rintro(h | h)
     ·exact .inl h
     ·rcases QK.mp h with rfl | h
      ·exact .inl this
      ·exact .inr h
   ·rw[Qu c];simp[or_assoc]
 have:=this ns [];unfold eT
 simpa using this
theorem zz(ns:List Int):(eT ns).Nodup:=by
 have:∀(ds acc:List Int),acc.Nodup->(ds.foldl qa acc).Nodup:=by
  intro ds
  induction ds with
  | nil=>intro acc h;exact h
  | cons d ds ih=>
   intro acc h;rw[Sk];refine ih _ ?_;unfold qa
   by_cases c:xC acc d=true
   ·rw[Qp c];exact h
   ·rw[Qu c];refine RW.mpr ⟨h,by simp,fun a ha b hb z=>?_⟩;rw[QC] at hb;subst hb;subst z;exact c (nR.mpr ha)
 exact this ns [] TX
theorem Gk{P:Program}{w:World}{A:Around}{h₀:Heap}{S:Addr}{items:Array Value}{ns:List Int}(hk:∀(i:Nat)(v:Value),items[i]?=some v->∃n t,ns[i]?=some n∧v=.int n t)(hl:ns.length≤1000):
  Gv P w A h₀ S items (fun i h=>qh P w h S (eT (ns.take i))) where
 frame:=fun i h h' k=>by
  rintro⟨n,o,es,ep,t,e,r⟩;exact⟨n,o,es,ep,t,k o e,r⟩
 fresh:=fun h e=>by
  rw[Sq];exact⟨TX,_,#[],0,_,e,⟨rfl,rfl,rfl⟩,rfl,fun e he=>by simp at he,fun e he=>by simp at he,.refl _,by decide,rfl,rfl,rfl,fun _=>nB (show(0:Nat)≤1 from Rw 1)⟩
 step:=fun i v s E Q hv hJ keep h=>by
  obtain⟨n,t,hki,rfl⟩:=hk i v hv;have hil:i < ns.length:=(Qo.mp hki).1;have hroom:(eT (ns.take i)).length+1 < scanBound:=by
   have h1:=DG (ns.take i);have h2:(ns.take i).length≤i:=by rw[QP];exact Te _ _
   unfold scanBound
   lia
  unfold setAdd;refine Q9 ?_;refine Qj ((aO P w).pyHash (k:=.inl n) i0 ?_);refine uR (s:={s with toks:=s.toks+1}) hJ hroom fun b h' hsb hS2=>?_;refine h _ h' (s.toks+1) (by lia) hsb ?_;rw[take_snoc hki,Bt];exact hS2
section
variable {P:Program} {w:World} {A:Around} {E:Value->Shared->Prop} {s:Shared} {a:Addr} {ks:List Int}
theorem zP{Q:Value->Shared->Prop}(hV:IntsAre vs ns)(h64:vs.length < 64)
  (h:∀h' n (out:Array Value),(∀b o,s.heap.get? b=some o->h'.get? b=some o)->h'.get? s.heap.objs.size=some (seqObj "list" out n)->IntsAre out.toList (dY ns)->Q (.ref s.heap.objs.size) {s with heap:=h'}):
  wpAny (model P w) A (do let l←newList vs;let _←holding [l] (call (.builtin "list.sort") [l] []);ret l) (fun fin s'=>∃v,fin=Fin.done (Flow.ret v)∧Q v s') E s:=by
 refine Qj (wpAny_newList ?_ (by rw[Q4];lia));have hL:(s.heap.push (seqObj "list" vs.toArray 0)).get? s.heap.objs.size=some (seqObj "list" vs.toArray 0):=Qx _ rfl;show wpAny _ _ _ _ _ {s with heap:=s.heap.push (seqObj "list" vs.toArray 0)};refine Qj (Q9 (Rh slot_list_sort ⟨_,hL,rfl⟩ entry_list_sort (list_sort_tree (s:={s with heap:=s.heap.push (seqObj "list" vs.toArray 0)}) hL hV h64 fun out ns' g1 g2 g3=>⟨_,rfl,?_⟩) (args_list_sort _)));have:=sg g2 g3;subst this;have hlt:s.heap.objs.size < (s.heap.push (seqObj "list" vs.toArray 0)).objs.size:=by rw[QY];exact SY _
 obtain⟨n,hn⟩:=sortedHeap_at (vs:=vs) (out:=out) hL;refine Qm ⟨_,rfl,h _ n _ (fun b o e=>?_) hn g1⟩;have hb:=Qw e;rw[sortedHeap_old (QF hb) (TR hb hlt)];exact Ql _ e
theorem intsAre_map:∀(vs:List Value),(∀v∈vs,∃x u,v=.int x u)->IntsAre vs (vs.map intOf)
 | [],_=>.nil
 | v::r,h=>by
  obtain⟨x,u,rfl⟩:=h v Qv;exact .cons x u (intsAre_map r fun y hy=>h y (Qs _ hy))
theorem uy(hh:A.handled=none)(hS:qh P w s.heap a ks)(h64:ks.length < 64){Q:Value->Shared->Prop}
  (h:∀h' d l n (out:Array Value),(∀b o,s.heap.get? b=some o->h'.get? b=some o)->s.heap.objs.size≤l->h'.get? l=some (seqObj "list" out n)->IntsAre out.toList (dY ks)->Q (.ref l) {s with heap:=h',drawn:=d}):
  wpAny (model P w) A (call (.builtin "sorted") [.ref a]) Q E s:=by
 obtain⟨hn,o,es,ep,t,e,ex,dd,h1,h2,h3,h4,h5,h6,h7⟩:=hS;refine VP kind_sorted plain_sorted entry_sorted (args_sorted1 _) ?_;unfold Builtin.«sorted»;refine Qj (m:=checkCount "sorted" 1 1 _) (Qm ?_);refine Qj (zm (A:=A.in1) (es:=es) hh ⟨o,ep,t,e,ex,dd,h4,h5,h6,h7.2⟩ fun h1' d vs hsz k1 hp=>?_);have hst:∀v∈vs,∃x u,v=.int x u:=fun v hv=>by
  obtain⟨e,he,rfl⟩:=Qz.mp (hp.mem_iff.mp hv);exact h2 e he
 have hp2:(vs.map intOf).Perm ks:=(hp.map intOf).trans (by rw[QN];exact h3);have hV:=intsAre_map vs hst;have hlen:vs.length=ks.length:=by have:=hp2.length_eq;simpa using this
 have e:dY (vs.map intOf)=dY ks:=sg ((du _).trans hp2) (nu _);refine zP (s:={s with heap:=h1',drawn:=d}) hV (by rw[hlen];exact h64) fun h' n out hk hl ho=>?_;refine h h' d h1'.objs.size n out (fun b o z=>hk b o (k1 b o z)) ?_ hl (e ▸ ho);exact hsz
end
noncomputable def Oc(P:Program)(w:World)(a:Addr)(ks:List Int):HO:=.ext fun h=>qh P w h a ks
theorem Ls(x:qh P w h a ks):cS P' w' H h a (Oc P w a ks):=
 ⟨x,let⟨_,o,_,_,_,e,_⟩:=x;⟨o,e⟩,fun h1 h2 y k=>let⟨q,o,es,ep,t,e,r⟩:=y;⟨q,o,es,ep,t,k o e,r⟩⟩
theorem Dw{X:Cx}(hc:X.calm=true):fe X (.type "set") (fun xs H Q=>∃a ns,xs=[.ref a]∧gH X.K H a (ns.map V.int)∧ns.length≤1000∧∀l,H l=none->Q (.ref l) (upd H l (Oc X.prog X.w l (eT ns)))):=by
 intro pins s σ H xs us Q I r h;obtain⟨a,ns,rfl,hq,hk1,q⟩:=h;obtain⟨u,rfl,rx⟩:=vals1 r;cases rx;obtain⟨its,rv,pt,hz⟩:=I.list hq;have hlen:=rv.length;have hkl:ns.length=its.length:=by rw[←hlen,Qk]
 refine t7 (items:=its.toArray) (I.ok.hd hc) pt.isList (fun A' _ _=>Gk (ns:=ns) (fun i v hv=>?_) hk1) fun h' tk hJ k=>?_
 ·have hv':its[i]?=some v:=by simpa using hv
  have hi:i < ns.length:=by rw[hkl];exact(Qo.mp hv').1
  have hki:ns[i]?=some ns[i]:=Qr hi;obtain⟨u,hu',ru⟩:=Vals.get rv (x:=.int ns[i]) (i:=i) (by rw[Qy,hki];rfl);rw[hv'] at hu';cases hu';obtain⟨t,rfl⟩:=ru;exact⟨_,t,hki,rfl⟩
 ·have hs:its.toArray.size=ns.length:=by rw[hkl];rfl
  rw[hs,QZ] at hJ;exact⟨.ref _,_,I.laid (t':=tk) (o:=Oc X.prog X.w s.heap.objs.size (eT ns)) (fun b o e=>k b o (Qw e) e) (Qq _) (Ls hJ),rfl,q _ I.fresh⟩
theorem Bj(hc:X.calm=true):fe X (.builtin "sorted") (fun xs H Q=>∃a ks,xs=[.ref a]∧H a=some (Oc X.prog X.w a ks)∧ks.length < 64∧∀l,H l=none->Q (.ref l) (upd H l (.lst ((dY ks).map V.int)))):=by
 intro pins s σ H xs us Q I r h;obtain⟨a,ks,rfl,e,h64,q⟩:=h;obtain⟨u,rfl,rx⟩:=vals1 r;cases rx;obtain⟨hS,_,_⟩:=I.bI a _ e;refine uy (I.ok.hd hc) hS h64 fun h' d l n out k hl ho hV=>?_;have hz:((dY ks).map V.int).length≤sizeLine:=by
  rw[Qk,(du ks).length_eq,Q4];lia
 refine⟨.ref l,_,(I.laid (t':=s.toks) (o:=.lst ((dY ks).map V.int)) k hl ⟨hz,out.toList,n,iT hV,?_⟩).draw d,rfl,q l (I.bI.fresh hl)⟩;rw[ho]
end L2
namespace Sm
open PySem L2 PySem.Spec PyProof.Rows
noncomputable def kM(m:EM):EM:=fun δ h=>(m δ h).bind fun p=>(gM p.1 p.2).bind fun xs=>(lR xs).bind fun ns=>if ns.length≤1000∧(eT ns).length < 64 then some (.lv ((dY (eT ns)).map D.int),p.2) else none
theorem zT{p p2 pos pos2:Pos}(hc:X.calm=true)(hgl:Gl X "sorted")(hml:X.mg "sorted"=none)(hgs:Gl X "set")(hms:X.mg "set"=none)(he:SE X e me)(hs:starEach [e] X.env=(false,eval e X.env)::starEach [] X.env:=by ac_nf):
  SE X (.Call (.Name "sorted" p) [.Call (.Name "set" p2) [e] [] pos2] [] pos) (kM me):=
 (sP (Bj hc) hgl hml (by decide+kernel) (nJ (k5 (Dw hc) hgs hms (by decide+kernel) (nJ he sR hs) (by decide) (by decide) hs) sR)).imp fun σ H Q ⟨ρ,δ,h,d,h',R,S,ee,k⟩=>by
  obtain⟨⟨d1,h1⟩,e1,e2⟩:=bS ee;obtain⟨ys,e3,e4⟩:=bS e2;obtain⟨ns,e5,e6⟩:=bS e4
  by_cases c:ns.length≤1000∧(eT ns).length < 64
  ·rw[Qp c] at e6;cases e6;refine⟨ρ,δ,h,d1,h1,R,S,e1,fun v H1 ⟨ρ1,T1,S1,r1⟩=>?_⟩;obtain⟨a,vs,rfl,ha,la⟩:=fk S1 r1 e3;have:=tI e5;subst this;have:=mE la;subst this;refine⟨a,ns,rfl,gH.of ha,c.1,fun l hl=>⟨l,eT ns,rfl,bj,c.2,fun l2 hl2=>?_⟩⟩;exact k _ _ (fc.step (T1.trans (dP.laid S1 hl)) (fc.lv (S1.laid hl) (repL_ints' _) hl2))
  ·rw[Qu c] at e6;cases e6
end Sm
namespace L2
open PySem PySem.Spec PyProof.Rows
open AutoSeq1 in
theorem mQ(l:Addr)(items:Array Value)(n:Nat)(b:Addr)(items2:Array Value)(n2:Nat)(sl:Array (Option Value))(hs0:¬(!items.isEmpty&&Builtin.List.listTooLong (items.size+items2.size))=true)(hs1:items.size≤sizeLine)(hs2:items.size+items2.size≤sizeLine+1):
  Meets (Builtin.«list.extend» ⟨[.ref l,.ref b],[]⟩) (fun _ R s=>s.heap.get? l=some {cls:=.type "list",dict:=none,data:=.seq items n,slots:=#[]}∧s.heap.get? b=some {cls:=.type "tuple",dict:=none,data:=.seq items2 n2,slots:=sl}∧R (.ok (.ret Value.none)) {s with heap:=s.heap.update l (Obj.mapSeq fun x=>x++items2),toks:=s.toks}):=
 .of_wp fun prog w A R s h=>by
  obtain⟨hp,g,d,tk,os⟩:=s;obtain⟨hl,hb,h⟩:=h;have f1:=idx_int;have f2:=AutoSeq1.sub_tuple_tuple;have f3:=AutoSeq1.sub_list_list;have f4:=AutoSeq1.sub_tuple_list;have f5:=AutoSeq1.sub_list_tuple;have hz':(items++items2).size≤sizeLine+1:=by rw[Array.size_append];exact hs2
  wp_walk using (UE hl rfl (hz:=hs1) (_hz':=hz')),wpAny_loadPart' hl,wpAny_loadPart' hb;exact⟨_,rfl,h⟩
theorem AF{X:Cx}:DH X "list.extend" (fun x vs H Q=>∃l b xs zs,x=.ref l∧vs=[.ref b]∧H l=some (.lst xs)∧jS X.K H b zs∧xs.length+zs.length≤sizeLine∧Q .cN (upd H l (.lst (xs++zs)))):=by
 intro pins s σ H x vs v us Q I rx rv h;obtain⟨l,b,xs,zs,rfl,rfl,hH,hB,hz,q⟩:=h;cases rx;obtain⟨u,rfl,ru⟩:=rv.one;cases ru;obtain⟨z,its,n,r,hl,e⟩:=I.yZ hH;obtain⟨its2,r2,pl,z2⟩:=I.JB hB;obtain⟨o,g,o1,⟨n2,o3⟩,o2⟩:=pl;obtain⟨oc,od,oda,os⟩:=o;dsimp only at o1 o2 o3;subst o1 o2 o3;have hl2:=r2.length;have hsz:its.toArray.size+its2.toArray.size≤sizeLine:=by rw[QA,QA];lia
 have hlong:¬(!its.toArray.isEmpty&&Builtin.List.listTooLong (its.toArray.size+its2.toArray.size))=true:=by
  rw[sY hsz,Vf];exact Rg
 refine UC SF ⟨_,e,rfl⟩ F.entry_list_extend (F.args_list_extend_2 _ _)
  (mQ l its.toArray n b its2.toArray n2 os hlong (by rw[QA];lia) (by lia)) ⟨e,g,?_⟩
 refine⟨.cN,_,I.HF (its':=its++its2) hH e (by simp) (r.append r2) ?_,rfl,q⟩;rw[QD]
 lia
end L2
namespace Sm
open PySem L2 PySem.Spec PyProof.Rows
noncomputable def kH:DP:=fun d ds h=>match d,ds with
 | .ob n,[.tup zs]=>match h[n]? with
  | some (.lst xs)=>if xs.length+zs.length≤sizeLine then some (.cN,h.set n (.lst (xs++zs))) else none
  | _=>none
 | _,_=>none
theorem AH{X:Cx}:DH X "list.extend" (rM X.K kH):=by
 intro pins s σ H x xs v us Q I rx rs hh;obtain⟨ρ,h,d,ds,z,h',S,rd,l,ee,k⟩:=hh;cases d <;> first |(cases ee;done) | skip
 rename_i n
 match ds,l,ee with
 | [],_,ee=>cases ee
 | y::_::_,_,ee=>cases y <;> cases ee
 | [y],l,ee=>
  obtain⟨u,rfl,ru⟩:=rep1 l;cases ru <;> first |(cases ee;done) | skip
  rename_i b ws zs hb l2 _;unfold kH at ee;dsimp only at ee;cases q:h[n]? with
  | none=>rw[q] at ee;cases ee
  | some w=>
   rw[q] at ee;cases w with
   | dct _=>cases ee
   | lst ys=>
    dsimp only at ee
    by_cases c:ys.length+zs.length≤sizeLine
    ·rw[Qp c] at ee;cases ee;obtain⟨a,vs,rfl,hn,e1,l1⟩:=xq S rd q;have T:dP ρ H ρ (upd H a (.lst (vs++ws))):=dP.wrote S (Qn hn);exact AF pins s σ H _ _ v us Q I rx rs ⟨a,b,vs,ws,rfl,rfl,e1,hb.sq,by rw[l1.length,l2.length];exact c,k _ _ ⟨ρ,T,S.wrote hn ⟨_,bj,(l1.append l2).mono T.toCh⟩,.cN⟩⟩
    ·rw[Qu c] at ee;cases ee
end Sm
namespace Pg
open PySem Sm L2
abbrev Term:=Str×Int
abbrev Lock:=Str×Term
inductive Row where
 | say (w:Str)
 | call (d:Str) (ts:List Term)
 | within (l:Lock) (b:List Row)
 | all (ls:List Lock) (b:List Row)
 | ask (l:Lock) (b e:List Row)
 | oI (s t:Term) (a b c:List Row)
 | either (a b:List Row)
 | again (a:List Row)
noncomputable def bz(t:Term):D:=.tup [.str t.1,.int t.2]
noncomputable def aN(l:Lock):D:=.tup [.str l.1,bz l.2]
mutual
noncomputable def aZ:Row->D
 | .say w=>.tup [.str "say",.str w]
 | .call d ts=>.tup [.str "call",.str d,.tup (ts.map bz)]
 | .within l b=>.tup [.str "within",aN l,.tup (cD b)]
 | .all ls b=>.tup [.str "all",.tup (ls.map aN),.tup (cD b)]
 | .ask l b e=>.tup [.str "ask",aN l,.tup (cD b),.tup (cD e)]
 | .oI s t a b c=>.tup [.str "by",bz s,bz t,.tup (cD a),.tup (cD b),.tup (cD c)]
 | .either a b=>.tup [.str "either",.tup (cD a),.tup (cD b)]
 | .again a=>.tup [.str "again",.tup (cD a)]
noncomputable def cD:List Row->List D
 | []=>[]
 | r::rs=>aZ r::cD rs
end
theorem eZ:∀l:List Row,cD l=l.map aZ
 | []=>by simp[cD]
 | r::rs=>by simp[cD,eZ rs]
mutual
noncomputable def cnt:Row->Nat
 | .say _=>1
 | .call _ _=>1
 | .within _ b=>1+bc b
 | .all _ b=>1+bc b
 | .ask _ b e=>1+bc b+bc e
 | .oI _ _ a b c=>1+bc a+bc b+bc c
 | .either a b=>1+bc a+bc b
 | .again a=>1+bc a
noncomputable def bc:List Row->Nat
 | []=>0
 | r::rs=>cnt r+bc rs
end
theorem oh:∀a b:List Row,bc (a++b)=bc a+bc b
 | [],b=>by simp[bc]
 | r::a,b=>by simp[bc,oh a b];lia
structure Wd where
 names:List Str
 ao:List Str
 params:List (List Str)
def de(ps:List Str)(t:Term):Prop:=(t.1=Str.ofString ""∨t.1∈ps)∧-99≤t.2∧t.2≤99
def eW(W:Wd)(ps:List Str)(l:Lock):Prop:=l.1∈W.names∧de ps l.2
mutual
def aM(W:Wd)(ps:List Str):Nat->Row->Prop
 | _,.say w=>w∈W.names++W.ao
 | _,.call d ts=>(∃(j:Nat)(qs:List Str),W.ao[j]?=some d∧W.params[j]?=some qs∧ts.length=qs.length)∧∀t∈ts,de ps t
 | n,.within l b=>eW W ps l∧n < 5∧b.length≤12∧bu W ps (n+1) b
 | n,.all ls b=>(2≤ls.length∧ls.length≤4∧ls.Nodup∧∀l∈ls,eW W ps l)∧n < 5∧b.length≤12∧bu W ps (n+1) b
 | n,.ask l b e=>eW W ps l∧n < 5∧b.length≤12∧e.length≤12∧bu W ps (n+1) b∧bu W ps (n+1) e
 | n,.oI s t a b c=>de ps s∧de ps t∧n < 5∧a.length≤12∧b.length≤12∧c.length≤12∧bu W ps (n+1) a∧bu W ps (n+1) b∧bu W ps (n+1) c
 | n,.either a b=>n < 5∧a.length≤12∧b.length≤12∧bu W ps (n+1) a∧bu W ps (n+1) b
 | n,.again a=>n < 5∧a.length≤12∧bu W ps (n+1) a
def bu(W:Wd)(ps:List Str):Nat->List Row->Prop
 | _,[]=>True
 | n,r::rs=>aM W ps n r∧bu W ps n rs
end
theorem vC{W:Wd}{ps:List Str}{n:Nat}:∀{a b:List Row},bu W ps n a->bu W ps n b->bu W ps n (a++b)
 | [],b,_,h=>h
 | r::a,b,h,h'=>by
  unfold bu at h;show bu W ps n (r::(a++b));unfold bu;exact⟨h.1,vC h.2 h'⟩
theorem k7{W:Wd}{ps:List Str}{n:Nat}:∀{a:List Row},bu W ps n a->∀r∈a,aM W ps n r
 | [],_,_,z=>by cases z
 | r::a,h,x,hx=>by
  unfold bu at h;rcases QK.mp hx with rfl | hx
  ·exact h.1
  ·exact k7 h.2 x hx
end Pg
namespace Rc
inductive u9(c:Nat->List Nat):Nat->Nat->Nat->Prop where
 | one {k a b:Nat}:b∈c a->u9 c (k+1) a b
 | more {k a x b:Nat}:x∈c a->u9 c k x b->u9 c (k+1) a b
def R(c:Nat->List Nat)(a b:Nat):Prop:=∃k,u9 c k a b
variable {c:Nat->List Nat} {n:Nat}
theorem u9.up(h:u9 c k a b):u9 c (k+1) a b:=by
 induction h with
 | one h=>exact .one h
 | more h _ ih=>exact .more h ih
theorem u9.mono(h:u9 c k a b)(l:k≤m):u9 c m a b:=by
 obtain⟨d,rfl⟩:=Nat.le.dest l
 induction d with
 | zero=>exact h
 | succ d ih=>exact(ih (QM _ _)).up
theorem u9.back(h:u9 c (k+1) a b):b∈c a∨∃x,u9 c k a x∧b∈c x:=by
 generalize e:k+1=m at h
 induction h generalizing k with
 | one h=>exact .inl h
 | @more k' a x b h h2 ih=>
  obtain rfl:k=k':=by lia
  cases k with
  | zero=>cases h2
  | succ k=>
   rcases ih rfl with q |⟨y,q1,q2⟩
   ·exact .inr ⟨x,.one h,q⟩
   ·exact .inr ⟨y,.more h q1,q2⟩
theorem u9.lt(hc:∀i x,x∈c i->x < n)(h:u9 c k a b):b < n:=by
 induction h with
 | one h=>exact hc _ _ h
 | more _ _ ih=>exact ih
theorem R.one(h:b∈c a):R c a b:=⟨1,.one h⟩
theorem u9.trans(h:u9 c k a x)(h2:u9 c m x b):u9 c (k+m) a b:=by
 induction h with
 | @one k a x h=>exact(u9.more h h2).mono (by lia)
 | @more k a y x h _ ih=>exact(u9.more h (ih h2)).mono (by lia)
theorem R.trans(h:R c a x)(h2:R c x b):R c a b:=let⟨k,p⟩:=h;let⟨m,q⟩:=h2;⟨k+m,p.trans q⟩
theorem R.snoc(h:R c a x)(hb:b∈c x):R c a b:=h.trans (.one hb)
theorem R.within{a b:Nat}{S:Nat->Prop}(h1:∀x∈c a,S x)(h2:∀f,S f->∀x∈c f,S x)(h:R c a b):S b:=by
 obtain⟨k,h⟩:=h
 induction k generalizing b with
 | zero=>cases h
 | succ k ih=>
  rcases h.back with q |⟨x,q1,q2⟩
  ·exact h1 b q
  ·exact h2 x (ih q1) b q2
open Classical in
structure Cm(c:Nat->List Nat)(n a:Nat)(found ahead:List Nat):Prop where
 r1:∀x∈found,R c a x
 r2:∀x∈ahead,R c a x
 first:∀x∈c a,x∈found∨x∈ahead
 next:∀f∈found,∀x∈c f,x∈found∨x∈ahead
 nd:found.Nodup
theorem Cm.init:Cm c n a [] (c a):=⟨fun _ h=>(nomatch h),fun _ h=>.one h,fun _ h=>.inr h,fun _ h=>(nomatch h),.nil⟩
theorem Cm.known(C:Cm c n a found (r++[o]))(h:o∈found):Cm c n a found r:=by
 have sp:∀x,(x∈found∨x∈r++[o])->x∈found∨x∈r:=fun x hx=>by
  rcases hx with hx | hx
  ·exact .inl hx
  ·rcases QS.mp hx with hx | hx
   ·exact .inr hx
   ·rw[QC] at hx;subst hx;exact .inl h
 exact⟨C.r1,fun x hx=>C.r2 x (RF _ hx),fun x hx=>sp x (C.first x hx),fun f hf x hx=>sp x (C.next f hf x hx),C.nd⟩
theorem Cm.new(C:Cm c n a found (r++[o]))(h:o∉found):Cm c n a (found++[o]) (r++c o):=by
 have ro:=C.r2 o (QH _ (QC.mpr rfl));have sp:∀x,(x∈found∨x∈r++[o])->x∈found++[o]∨x∈r++c o:=fun x hx=>by
  rcases hx with hx | hx
  ·exact .inl (RF _ hx)
  ·rcases QS.mp hx with hx | hx
   ·exact .inr (RF _ hx)
   ·exact .inl (QH _ hx)
 refine⟨fun x hx=>?_,fun x hx=>?_,fun x hx=>sp x (C.first x hx),fun f hf x hx=>?_,?_⟩
 ·rcases QS.mp hx with hx | hx
  ·exact C.r1 x hx
  ·rw[QC] at hx;subst hx;exact ro
 ·rcases QS.mp hx with hx | hx
  ·exact C.r2 x (RF _ hx)
  ·exact ro.snoc hx
 ·rcases QS.mp hf with hf | hf
  ·exact sp x (C.next f hf x hx)
  ·rw[QC] at hf;subst hf;exact .inr (QH _ hx)
 ·refine RW.mpr ⟨C.nd,by simp,fun x hx y hy z=>?_⟩;rw[QC] at hy;subst hy;subst z;exact h hx
theorem Cm.done{a b:Nat}{found:List Nat}(C:Cm c n a found []):b∈found↔R c a b:=by
 refine⟨C.r1 b,fun h=>h.within (S:=fun x=>x∈found) (fun x hx=>?_) (fun f hf x hx=>?_)⟩
 ·rcases C.first x hx with q | q
  ·exact q
  ·cases q
 ·rcases C.next f hf x hx with q | q
  ·exact q
  ·cases q
theorem kF:∀{m:Nat} {l:List Nat},l.Nodup->(∀x∈l,x < m)->l.length≤m
 | 0,[],_,_=>Qq _
 | 0,x::r,_,h=>absurd (h x Qv) (Sy _)
 | m+1,l,hn,h=>by
  by_cases z:m∈l
  ·have h1:=kF (m:=m) (hn.erase m) fun x hx=>by
    have h2:=(hn.mem_erase_iff).mp hx;have:=h x h2.2;have:=h2.1
    lia
   rw[Vm z] at h1
   lia
  ·have h1:=kF (m:=m) hn fun x hx=>by
    have:=h x hx;have h2:x≠m:=fun q=>z (q ▸ hx)
    lia
   lia
theorem Cm.len(hc:∀i x,x∈c i->x < n)(C:Cm c n a found ahead):found.length≤n:=
 kF C.nd fun x hx=>let⟨_,h⟩:=C.r1 x hx;h.lt hc
noncomputable def Oi(far:Nat->List Nat)(one:Nat)(l:List Nat):Nat->List Nat:=fun i=>if i=one then l else far i
end Rc
namespace Mi
open PySem L2 Sm PySem.Spec PyProof.Rows
structure Bs(P:Program)(w:World)(K:FR)(mg:Str->Option Value):Prop where
 b6:mg "abs"=none
 Gz:mg "all"=none
 Qf:mg "any"=none
 LW:mg "bool"=none
 b3:mg "enumerate"=none
 b8:mg "int"=none
 wa:mg "isinstance"=none
 b5:mg "len"=none
 b2:mg "list"=none
 b7:mg "max"=none
 b9:mg "min"=none
 b0:mg "range"=none
 Mg:mg "set"=none
 b4:mg "sorted"=none
 IE:mg "str"=none
 b1:mg "tuple"=none
 Qg:mg "zip"=none
 zF:Ci mg "MOST_ROWS" (.int (60))
 x6:Ci mg "MOST_DEEDS" (.int (6))
 vb:Ci mg "MOST_PARAMS" (.int (3))
 uu:Ci mg "MOST_LETTERS" (.int (8))
 DJ:Ci mg "LETTERS" (.str "abcdefghijklmnopqrstuvwxyz")
 x5:Ci mg "MOST_NAMES" (.int (6))
 vc:Ci mg "MOST_IN_LOT" (.int (12))
 zG:Ci mg "MOST_DEEP" (.int (5))
 lY:Ci mg "MOST_FIGURE" (.int (99))
 rq:Ci mg "FEWEST_IN_ALL" (.int (2))
 vd:Ci mg "MOST_IN_ALL" (.int (4))
 uq:Tab P w K mg "SHAPES" gQ
abbrev jo:Stmt:=top 38
abbrev jB:List Str:=["_law_script"]
theorem uA:aB ["_law_script"] jB (au jo):=by walk_at "s"
noncomputable def fW:Fn:=jf 1
  (aR (xM (ab (eK (.int 0)) (ab (xM (zC (ab (uV (ae 0) Gw (Gx (eK (.int 63)))) ai))) (ab (eK (.int 0)) ai)))))
abbrev kc:Stmt:=top 39
abbrev kB:List Str:=["_law_state"]
theorem dz:aB ["_law_state","_law_cells","_law_tour","_law_cell","_law_mixed"] kB (au kc):=by walk_at "s"
noncomputable def iG:Fn:=jf 5
  (aw (bg 1 (az ba (ae 0) (eK (.int 1))))
  (aw (bg 2 (az ba (ae 0) (eK (.int 2))))
  (aw (lD (az bp (ae 2) (eK (.int 1))) (uS (ae 0) (eK (.int 2))))
  (aw (bg 3 (eK (.int 0)))
  (aw (fh (aL (az nV (ae 1) (fT ai))) (bg 3 (az ba (ae 1) (az pX (ae 2) (ay cZ (ab (ae 1) ai))))) bH)
  (fh (qO (aL (az LB (ae 2) (ay cZ (ab (ae 1) ai)))) (aL (az Ny (ay LG (ab (ae 3) ai)) (az Ib (eK (.int 10)) (eK (.int 18)))))) (lD (ay LG (ab (ae 3) ai)) (uS (ae 0) (eK (.int 0)))) (aw (bg 4 (az pX (az i6 (az bp (az bp (az pX (ae 3) (eK (.int 2305843009213693951))) (az i6 (az i6 (eK (.int 7919)) (ae 2)) (ae 2))) (eK (.int 11))) (eK (.int 48271))) (eK (.int 2305843009213693951))))
  (aw (bg 4 (az pX (az i6 (ae 4) (ae 4)) (eK (.int 2305843009213693921))))
  (lD (az bp (az pX (az bp (az bp (az i6 (ae 4) (eK (.int 69621))) (ae 2)) (eK (.int 104729))) (eK (.int 2305843009213693951))) (az Ib (eK (.int 10)) (eK (.int 9)))) (uS (ae 0) (eK (.int 0))))))))))))
abbrev j8:Stmt:=top 40
abbrev kz:List Str:=["_law_state","_law_many"]
theorem nA:aB ["_law_state","_law_many","_law_found"] kz (au j8):=by walk_at "s"
noncomputable def aY:Fn:=jf 3
  (aw (fh (aL (az LB (az ba (ae 0) (eK (.int 0))) (ae 1))) (g6 (ay iG (ab (ae 0) ai))) bH)
  (aw (bg 2 (az pX (az ba (ae 0) (eK (.int 0))) (ae 1)))
  (aw (lD (az Fz (az ba (ae 0) (eK (.int 0))) (ae 1)) (uS (ae 0) (eK (.int 0))))
  (aR (ae 2)))))
abbrev pf:Stmt:=top 41
abbrev pO:List Str:=["_law_state","_law_some"]
theorem zY:aB ["_law_state","_law_some"] pO (au pf):=by walk_at "s"
noncomputable def aV:Fn:=jf 2
  (aR (az ba (ae 1) (ay aY (ab (ae 0) (ab (ay cZ (ab (ae 1) ai)) ai)))))
abbrev jn:Stmt:=top 42
abbrev jA:List Str:=["_law_state","_law_many"]
theorem cz:aB ["_law_state","_law_many","_law_letters","_law_stem","_law_k","_law_at","_law_first","_law_stride"] jA (au jn):=by walk_at "s"
noncomputable def eS:Fn:=jf 8
  (aw (bg 2 (eK (.str "abcdefghijklmnopqrstuvwxyz")))
  (aw (bg 3 (eK (.str "")))
  (aw (jP (tJ (ab (ay aV (ab (ae 0) (ab (eK (.lv [.int 0,.int 1,.int 1,.int 2,.int 3,.int 6])) ai))) ai)) (gN 4) (bg 3 (az bp (ae 3) (az ba (ae 2) (ay aY (ab (ae 0) (ab (eK (.int 26)) ai)))))))
  (aw (bg 5 (ay aY (ab (ae 0) (ab (az bp (ay cZ (ab (ae 3) ai)) (eK (.int 1))) ai))))
  (aw (bg 6 (ay aY (ab (ae 0) (ab (eK (.int 26)) ai))))
  (aw (bg 7 (ay aV (ab (ae 0) (ab (eK (.lv [.int 1,.int 3,.int 5,.int 7,.int 9,.int 11])) ai))))
  (aR (fT (bq [none,some 5,some 6,some 2,some 3,some 7] (tJ (ab (ae 1) ai)) (gN 0) bC (az bp (az bp (uV (ae 4) Gw (Gx (ae 1))) (az ba (ae 3) (az pX (az bp (ae 2) (az i6 (ae 5) (ae 0))) (eK (.int 26))))) (uV (ae 4) (Gx (ae 1)) Gw)))))))))))
abbrev jm:Stmt:=top 43
abbrev jz:List Str:=["_law_state","_law_most","_law_odd"]
theorem cV:aB ["_law_state","_law_most","_law_odd","_law_names","_law_deeds","_law_params","_law_many","_law_floors"] jz (au jm):=by walk_at "s"
noncomputable def gP:Fn:=jf 8
  (aw (bg 3 (ay eS (ab (ae 0) (ab (ay aV (ab (ae 0) (ab (eK (.lv [.int 1,.int 2,.int 2,.int 3,.int 4,.int 6])) ai))) ai))))
  (aw (bg 4 (ay eS (ab (ae 0) (ab (ay aV (ab (ae 0) (ab (eK (.lv [.int 1,.int 1,.int 2,.int 2,.int 3,.int 4,.int 6])) ai))) ai))))
  (aw (bg 5 (ay eS (ab (ae 0) (ab (eK (.int 3)) ai))))
  (aw (bg 6 (fT (bq [none,some 0] (cG (ae 4)) (gN 0) bC (ay aV (ab (ae 1) (ab (eK (.lv [.int 0,.int 1,.int 1,.int 2,.int 2,.int 3])) ai))))))
  (aw (bg 7 (ay Fv (ab (fT (bq [none,some 3,some 0] (cG (ae 4)) (gN 0) bC (ay aY (ab (ae 2) (ab (ay cZ (ab (ae 1) ai)) ai))))) ai)))
  (aw (bg 5 (fT (bq [none,some 5] (cG (ae 6)) (gN 0) bC (uV (ae 1) Gw (Gx (ae 0))))))
  (aR (AX (iY (eK (.str "names")) (ae 3) (iY (eK (.str "deeds")) (ae 4) (iY (eK (.str "params")) (ae 5) (iY (eK (.str "floors")) (ae 7) (iY (eK (.str "left")) (ae 1) (iY (eK (.str "odd")) (ae 2) KR))))))))))))))
abbrev iL:Stmt:=top 44
abbrev iN:List Str:=["_law_state","_law_world_here"]
theorem sx:aB ["_law_state","_law_world_here"] iN (au iL):=by walk_at "s"
noncomputable def dR:Fn:=jf 2
  (aR (lI (az Dj (az ba (ae 1) (eK (.str "odd"))) (eK (.int 0))) (az cu (ay aY (ab (ae 0) (ab (az ba (ae 1) (eK (.str "odd"))) ai))) (eK (.int 0)))))
abbrev j6:Stmt:=top 45
abbrev kr:List Str:=["_law_state","_law_params"]
theorem nz:aB ["_law_state","_law_params","_law_far"] kr (au j6):=by walk_at "s"
noncomputable def cq:Fn:=jf 3
  (aw (bg 2 (az xF (ay aY (ab (ae 0) (ab (eK (.int 81)) ai))) (eK (.int 40))))
  (aw (fh (qO (aL (az Dj (ay cZ (ab (ae 1) ai)) (eK (.int 0)))) (aL (az Dj (ay aY (ab (ae 0) (ab (eK (.int 5)) ai))) (eK (.int 0))))) (aR (ay bJ (ab (ay aV (ab (ae 0) (ab (ae 1) ai))) (ab (ay aV (ab (ae 0) (ab (fT (ab (eK (.int 0)) (ab (eK (.int 0)) (ab (eK (.int 0)) (ab (eK (.int 0)) (ab (eK (.int 1)) (ab (eK (.int 1)) (ab (B2 wq (eK (.int 1))) (ab (eK (.int 2)) (ab (ae 2) ai)))))))))) ai))) ai)))) bH)
  (aR (ay bJ (ab (eK (.str "")) (ab (ay aV (ab (ae 0) (ab (fT (ab (eK (.int 0)) (ab (eK (.int 0)) (ab (eK (.int 1)) (ab (eK (.int 1)) (ab (eK (.int 2)) (ab (eK (.int 3)) (ab (B2 wq (eK (.int 1))) (ab (ae 2) ai))))))))) ai))) ai))))))
abbrev kd:Stmt:=top 47
abbrev kC:List Str:=["_law_state","_law_world_here","_law_deed","_law_top"]
theorem fM:aB ["_law_state","_law_world_here","_law_deed","_law_top","_law_some","_law_other","_law_terms"] kC (au kd):=by walk_at "s"
noncomputable def gy:Fn:=jf 7
  (aw (bg 4 (fT (bq [none,some 2,some 3,some 1] (tJ (ab (ay cZ (ab (az ba (ae 1) (eK (.str "deeds"))) ai)) ai)) (gN 0) (qO (aL (az Dj (az ba (az ba (ae 3) (eK (.str "floors"))) (ae 0)) (ae 2))) (aL (az Ny (ae 0) (ae 1)))) (ae 0))))
  (aw (fh (eX (ay dR (ab (ae 0) (ab (ae 1) ai)))) (bg 4 (fT (LX (ab (ay cZ (ab (az ba (ae 1) (eK (.str "deeds"))) ai)) ai)))) bH)
  (aw (fh (aL (az cu (ae 4) (fT ai))) (aR (ay bJ (ab (eK (.str "say")) (ab (az ba (az ba (ae 1) (eK (.str "deeds"))) (ae 2)) ai)))) bH)
  (aw (bg 5 (ay aV (ab (ae 0) (ab (ae 4) ai))))
  (aw (bg 6 (fT (bq [none,some 2,some 0,some 1] (cG (az ba (az ba (ae 1) (eK (.str "params"))) (ae 5))) (gN 0) bC (ay cq (ab (ae 2) (ab (az ba (az ba (ae 3) (eK (.str "params"))) (ae 1)) ai))))))
  (aR (ay bJ (ab (eK (.str "call")) (ab (az ba (az ba (ae 1) (eK (.str "deeds"))) (ae 5)) (ab (ay bV (ab (ae 6) ai)) ai))))))))))
abbrev j9:Stmt:=top 46
abbrev kA:List Str:=["_law_state","_law_world_here","_law_deed","_law_top","_law_held"]
theorem cM:aB ["_law_state","_law_world_here","_law_deed","_law_top","_law_held","_law_low","_law_at","_law_name","_law_same_here","_law_word","_law_more"] kA (au j9):=by walk_at "s"
noncomputable def fD:Fn:=jf 11
  (aw (bg 5 (ay xJ (ab (ae 3) (ab (az ba (az ba (ae 1) (eK (.str "floors"))) (ae 2)) ai))))
  (aw (fh (aL (az cu (ae 5) (ay cZ (ab (az ba (ae 1) (eK (.str "names"))) ai)))) (aR (ay bJ (ab (eK .cN) (ab (eK .cN) ai)))) bH)
  (aw (bg 6 (az bp (ae 5) (ay aY (ab (ae 0) (ab (az xF (ay cZ (ab (az ba (ae 1) (eK (.str "names"))) ai)) (ae 5)) ai)))))
  (aw (fh (eX (ay dR (ab (ae 0) (ab (ae 1) ai)))) (bg 6 (ay aY (ab (ae 0) (ab (ay cZ (ab (az ba (ae 1) (eK (.str "names"))) ai)) ai)))) bH)
  (aw (bg 7 (az ba (az ba (ae 1) (eK (.str "names"))) (ae 6)))
  (aw (bg 8 (fT (bq [none,some 7] (cG (ae 4)) (gN 0) (aL (az cu (az ba (ae 0) (eK (.int 0))) (ae 1))) (az ba (ae 0) (eK (.int 1))))))
  (aw (fh (qO (aL (az nV (ae 8) (fT ai))) (fq (eX (ay dR (ab (ae 0) (ab (ae 1) ai)))))) (aw (lD (az ba (ae 8) (B2 wq (eK (.int 1)))) (gT 2 (aC (gN 9) (aC (gN 10) cP))))
  (aR (ay bJ (ab (ae 6) (ab (ay bJ (ab (ae 7) (ab (ay bJ (ab (ae 9) (ab (ay Fw (ab (eK (.int 99)) (ab (az bp (az bp (ae 10) (eK (.int 1))) (ay aY (ab (ae 0) (ab (eK (.int 2)) ai)))) ai))) ai))) ai))) ai))))) bH)
  (aR (ay bJ (ab (ae 6) (ab (ay bJ (ab (ae 7) (ab (ay cq (ab (ae 0) (ab (az ba (az ba (ae 1) (eK (.str "params"))) (ae 2)) ai))) ai))) ai)))))))))))
abbrev my:Stmt:=top 51
abbrev gb:List Str:=["_law_state","_law_world_here","_law_deed","_law_deep","_law_top","_law_held","_law_most"]
theorem jX:aB ["_law_state","_law_world_here","_law_deed","_law_deep","_law_top","_law_held","_law_most","_law_rows","_law_k"] gb (au my):=by walk_at "s"
abbrev mx:Stmt:=top 50
abbrev f9:List Str:=["_law_state","_law_world_here","_law_deed","_law_deep","_law_top","_law_held"]
theorem et:aB ["_law_state","_law_world_here","_law_deed","_law_deep","_law_top","_law_held","_law_way","_law_one","_law_other","_law_lots","_law_sort"] f9 (au mx):=by walk_at "s"
abbrev iK:Stmt:=top 49
abbrev dN:List Str:=["_law_state","_law_world_here","_law_deed","_law_deep","_law_top","_law_held","_law_way"]
theorem bo:aB ["_law_state","_law_world_here","_law_deed","_law_deep","_law_top","_law_held","_law_way","_law_at","_law_lock_here","_law_some","_law_high","_law_turn","_law_low","_law_other","_law_lot_here"] dN (au iK):=by walk_at "s"
abbrev gC:Stmt:=top 48
abbrev cJ:List Str:=["_law_state","_law_world_here","_law_deed","_law_deep","_law_top","_law_held"]
theorem bw:aB ["_law_state","_law_world_here","_law_deed","_law_deep","_law_top","_law_held","_law_low","_law_name","_law_one","_law_other","_law_lots","_law_first","_law_second","_law_inner"] cJ (au gC):=by walk_at "s"
mutual
noncomputable def bT:Nat->Fn
 | 0=>fun _ _=>none
 | n+1=>E7 9
  (aw (bg 7 (xM ai))
  (aw (jP (tJ (ab (ay aY (ab (ae 0) (ab (az bp (ay aV (ab (ae 0) (ab (az bp (az Ia (fT (ab (ae 6) ai)) (eK (.int 15))) (fT (ab (eK (.int 12)) ai))) ai))) (eK (.int 1))) ai))) ai)) (gN 8) (fh (aL (az Dj (az ba (ae 1) (eK (.str "left"))) (eK (.int 0)))) (aw (lD (az xF (az ba (ae 1) (eK (.str "left"))) (eK (.int 1))) (uS (ae 1) (eK (.str "left"))))
  (g6 (eM cY eO (ae 7) (ab (ay (gg n) (ab (ae 0) (ab (ae 1) (ab (ae 2) (ab (ae 3) (ab (ae 4) (ab (ae 5) ai))))))) ai)))) bH))
  (aR (ay bV (ab (ae 7) ai)))))
noncomputable def gg:Nat->Fn
 | 0=>fun _ _=>none
 | n+1=>jf 11
  (aw (bg 6 (ay aY (ab (ae 0) (ab (eK (.int 16)) ai))))
  (aw (fh (rD (aL (az LB (ae 6) (eK (.int 2)))) (qO (aL (az cu (ae 3) (eK (.int 5)))) (aL (az LB (ae 6) (eK (.int 11)))))) (aR (ay bJ (ab (eK (.str "say")) (ab (ay aV (ab (ae 0) (ab (az bp (az ba (ae 1) (eK (.str "names"))) (az ba (ae 1) (eK (.str "deeds")))) ai))) ai)))) bH)
  (aw (fh (rD (aL (az Dj (ae 6) (eK (.int 12)))) (aL (az cu (ae 3) (eK (.int 5))))) (aR (ay gy (ab (ae 0) (ab (ae 1) (ab (ae 2) (ab (ae 4) ai)))))) bH)
  (aw (fh (qO (aL (az cu (ae 6) (eK (.int 12)))) (qO (aL (az LB (ae 3) (eK (.int 3)))) (aL (az Dj (az ba (ae 1) (eK (.str "left"))) (eK (.int 5)))))) (aR (ay (cL n) (ab (ae 0) (ab (ae 1) (ab (ae 2) (ab (ae 3) (ab (ae 4) (ab (ae 5) ai)))))))) bH)
  (aw (fh (rD (aL (az cu (ae 6) (eK (.int 11)))) (aL (az cu (ae 6) (eK (.int 12))))) (aw (Ek 7 8 (ab (ay cq (ab (ae 0) (ab (az ba (az ba (ae 1) (eK (.str "params"))) (ae 2)) ai))) (ab (ay cq (ab (ae 0) (ab (az ba (az ba (ae 1) (eK (.str "params"))) (ae 2)) ai))) ai)))
  (aw (bg 9 (fT (bq [none,some 2,some 3,some 5,some 0,some 4,some 1] (tJ (ab (eK (.int 3)) ai)) (gN 0) bC (ay (bT n) (ab (ae 4) (ab (ae 6) (ab (ae 1) (ab (az bp (ae 2) (eK (.int 1))) (ab (ae 5) (ab (ae 3) (ab (eK (.int 2)) ai)))))))))))
  (aR (az bp (ay bJ (ab (eK (.str "by")) (ab (ae 7) (ab (ae 8) ai)))) (ay bV (ab (ae 9) ai)))))) bH)
  (aw (fh (aL (az cu (ae 6) (eK (.int 10)))) (aw (bg 9 (fT (bq [none,some 2,some 3,some 5,some 0,some 4,some 1] (tJ (ab (eK (.int 2)) ai)) (gN 0) bC (ay (bT n) (ab (ae 4) (ab (ae 6) (ab (ae 1) (ab (az bp (ae 2) (eK (.int 1))) (ab (ae 5) (ab (ae 3) (ab (eK (.int 2)) ai)))))))))))
  (aR (az bp (ay bJ (ab (eK (.str "either")) ai)) (ay bV (ab (ae 9) ai))))) bH)
  (aw (fh (aL (az cu (ae 6) (eK (.int 9)))) (aR (ay bJ (ab (eK (.str "again")) (ab (ay (bT n) (ab (ae 0) (ab (ae 1) (ab (ae 2) (ab (az bp (ae 3) (eK (.int 1))) (ab (ae 4) (ab (ae 5) (ab (eK (.int 2)) ai)))))))) ai)))) bH)
  (aw (bg 10 (ay aV (ab (ae 0) (ab (eK (.lv [.str "within",.str "within",.str "within",.str "within",.str "ask",.str "all"])) ai))))
  (aR (ay (dQ n) (ab (ae 0) (ab (ae 1) (ab (ae 2) (ab (ae 3) (ab (ae 4) (ab (ae 5) (ab (ae 10) ai)))))))))))))))))
noncomputable def dQ:Nat->Fn
 | 0=>fun _ _=>none
 | n+1=>E7 15
  (aw (lD (ay fD (ab (ae 0) (ab (ae 1) (ab (ae 2) (ab (ae 4) (ab (ae 5) ai)))))) (gT 2 (aC (gN 7) (aC (gN 8) cP))))
  (aw (fh (aL (az Di (ae 7) (eK .cN))) (aR (ay bJ (ab (eK (.str "say")) (ab (az ba (az ba (ae 1) (eK (.str "deeds"))) (ae 2)) ai)))) bH)
  (aw (fh (aL (az cu (ae 6) (eK (.str "all")))) (aw (Ek 9 10 (ab (xM (ab (ae 8) ai)) (ab (ae 7) ai)))
  (aw (jP (tJ (ab (ay aV (ab (ae 0) (ab (eK (.lv [.int 1,.int 1,.int 2,.int 3])) ai))) ai)) (gN 11) (aw (lD (ay fD (ab (ae 0) (ab (ae 1) (ab (ae 2) (ab (ae 4) (ab (ae 5) ai)))))) (gT 2 (aC (gN 12) (aC (gN 13) cP))))
  (aw (bg 10 (ay xJ (ab (ae 10) (ab (ae 12) ai))))
  (bg 9 (xM (LY (ae 9) (az Ia (fT (ab (ae 13) ai)) (ay zf (ab (az iO (ae 13) (ae 9)) ai)))))))))
  (aw (fh (aL (az cu (ay cZ (ab (ae 9) ai)) (eK (.int 1)))) (g6 (eM cY eO (ae 9) (ab (ay bJ (ab (az ba (ae 8) (eK (.int 0))) (ab (ay bJ (ab (az ba (az ba (ae 8) (eK (.int 1))) (eK (.int 0))) (ab (az xF (az bp (az ba (az ba (ae 8) (eK (.int 1))) (eK (.int 1))) (eK (.int 1))) (az i6 (eK (.int 2)) (ay zf (ab (az Dj (az ba (az ba (ae 8) (eK (.int 1))) (eK (.int 1))) (eK (.int 90))) ai)))) ai))) ai))) ai))) bH)
  (aw (bg 10 (az bp (ae 10) (ay zf (ab (az cu (az ba (ae 1) (eK (.str "odd"))) (eK (.int 0))) ai))))
  (aR (ay bJ (ab (eK (.str "all")) (ab (ay bV (ab (ae 9) ai)) (ab (ay (bT n) (ab (ae 0) (ab (ae 1) (ab (ae 2) (ab (az bp (ae 3) (eK (.int 1))) (ab (ay xJ (ab (ae 4) (ab (ae 10) ai))) (ab (az bp (ae 5) (ae 9)) (ab (eK (.int 3)) ai)))))))) ai))))))))) bH)
  (aw (bg 14 (ay (bT n) (ab (ae 0) (ab (ae 1) (ab (ae 2) (ab (az bp (ae 3) (eK (.int 1))) (ab (ay xJ (ab (ae 4) (ab (ae 7) ai))) (ab (az bp (ae 5) (fT (ab (ae 8) ai))) (ab (eK (.int 3)) ai)))))))))
  (aw (fh (aL (az cu (ae 6) (eK (.str "ask")))) (aR (ay bJ (ab (eK (.str "ask")) (ab (ae 8) (ab (ae 14) (ab (ay (bT n) (ab (ae 0) (ab (ae 1) (ab (ae 2) (ab (az bp (ae 3) (eK (.int 1))) (ab (ae 4) (ab (ae 5) (ab (eK (.int 2)) ai)))))))) ai)))))) bH)
  (aR (ay bJ (ab (eK (.str "within")) (ab (ae 8) (ab (ae 14) ai))))))))))
noncomputable def cL:Nat->Fn
 | 0=>fun _ _=>none
 | n+1=>E7 14
  (aw (bg 6 (ay xJ (ab (ae 4) (ab (az ba (az ba (ae 1) (eK (.str "floors"))) (ae 2)) ai))))
  (aw (fh (aL (az cu (ae 6) (ay cZ (ab (az ba (ae 1) (eK (.str "names"))) ai)))) (aR (ay bJ (ab (eK (.str "say")) (ab (az ba (az ba (ae 1) (eK (.str "deeds"))) (ae 2)) ai)))) bH)
  (aw (fh (aL (az nV (fT (bq [none,some 6,some 1] (cG (ae 5)) (gN 0) (aL (az cu (az ba (ae 0) (eK (.int 0))) (az ba (az ba (ae 2) (eK (.str "names"))) (ae 1)))) (ae 0))) (fT ai))) (aR (ay bJ (ab (eK (.str "say")) (ab (az ba (az ba (ae 1) (eK (.str "deeds"))) (ae 2)) ai)))) bH)
  (aw (bg 7 (az ba (az ba (ae 1) (eK (.str "names"))) (ae 6)))
  (aw (lD (az xF (az ba (ae 1) (eK (.str "left"))) (eK (.int 5))) (uS (ae 1) (eK (.str "left"))))
  (aw (Ek 8 9 (ab (ay cq (ab (ae 0) (ab (az ba (az ba (ae 1) (eK (.str "params"))) (ae 2)) ai))) (ab (ay cq (ab (ae 0) (ab (az ba (az ba (ae 1) (eK (.str "params"))) (ae 2)) ai))) ai)))
  (aw (bg 10 (xM ai))
  (aw (jP (cG (fT (ab (ay bJ (ab (ae 8) (ab (ae 9) ai))) (ab (ay bJ (ab (ae 9) (ab (ae 8) ai))) ai)))) (gT 2 (aC (gN 11) (aC (gN 12) cP))) (aw (bg 13 (ay (bT n) (ab (ae 0) (ab (ae 1) (ab (ae 2) (ab (az bp (ae 3) (eK (.int 3))) (ab (ae 6) (ab (az bp (ae 5) (fT (ab (ay bJ (ab (ae 7) (ab (ae 11) ai))) (ab (ay bJ (ab (ae 7) (ab (ae 12) ai))) ai)))) (ab (eK (.int 2)) ai)))))))))
  (g6 (eM cY eO (ae 10) (ab (ay bJ (ab (ay bJ (ab (eK (.str "within")) (ab (ay bJ (ab (ae 7) (ab (ae 11) ai))) (ab (ay bJ (ab (ay bJ (ab (eK (.str "within")) (ab (ay bJ (ab (ae 7) (ab (ae 12) ai))) (ab (ae 13) ai)))) ai)) ai)))) ai)) ai)))))
  (aR (ay bJ (ab (eK (.str "by")) (ab (ae 8) (ab (ae 9) (ab (az ba (ae 10) (eK (.int 0))) (ab (ay bJ (ab (ay bJ (ab (eK (.str "within")) (ab (ay bJ (ab (ae 7) (ab (ae 8) ai))) (ab (ay bJ ai) ai)))) ai)) (ab (az ba (ae 10) (eK (.int 1))) ai))))))))))))))))
end
abbrev gZ:Stmt:=top 52
abbrev hW:List Str:=["_law_state","_law_most","_law_odd"]
theorem cI:aB ["_law_state","_law_most","_law_odd","_law_world_here","_law_deeds","_law_k","_law_deed","_law_rows"] hW (au gZ):=by walk_at "s"
noncomputable def fV:Fn:=E7 8
  (aw (bg 3 (ay gP (ab (ae 0) (ab (ae 1) (ab (ae 2) ai)))))
  (aw (bg 4 (xM ai))
  (aw (jP (tK (ab (az ba (ae 3) (eK (.str "deeds"))) ai)) (gT 2 (aC (gN 5) (aC (gN 6) cP))) (aw (bg 7 (ay (bT 20) (ab (ae 0) (ab (ae 3) (ab (ae 5) (ab (eK (.int 1)) (ab (B2 wq (eK (.int 1))) (ab (fT ai) (ab (ay aV (ab (ae 0) (ab (eK (.lv [.int 1,.int 2,.int 3,.int 4,.int 12])) ai))) ai)))))))))
  (g6 (eM cY eO (ae 4) (ab (ay bJ (ab (ae 6) (ab (ay bV (ab (az ba (az ba (ae 3) (eK (.str "params"))) (ae 5)) ai)) (ab (ae 7) ai)))) ai)))))
  (aR (ay bJ (ab (ay bV (ab (ay AR (ab (az ba (ae 3) (eK (.str "names"))) ai)) ai)) (ab (ay bV (ab (ae 4) ai)) ai)))))))
abbrev ph:Stmt:=top 54
abbrev pP:List Str:=["_law_cipher","_law_word"]
theorem jk:aB ["_law_cipher","_law_word","_law_letters","_law_stride","_law_first"] pP (au ph):=by walk_at "s"
noncomputable def cg:Fn:=jf 5
  (aw (bg 2 (eK (.str "abcdefghijklmnopqrstuvwxyz")))
  (aw (lD (ae 0) (gT 2 (aC (gN 3) (aC (gN 4) cP))))
  (aR (eM isStr Fd (eK (.str "")) (ab (fT (bq [none,some 4,some 2,some 3] (AO (ae 1)) (gN 0) bC (az ba (ae 2) (az pX (az bp (az i6 (ae 3) (eM isStr pS (ae 2) (ab (ae 0) ai))) (ae 1)) (eK (.int 26)))))) ai)))))
abbrev gY:Stmt:=top 55
abbrev hG:List Str:=["_law_cipher","_law_term_here"]
theorem qQ:aB ["_law_cipher","_law_term_here"] hG (au gY):=by walk_at "s"
noncomputable def cp:Fn:=jf 2
  (aR (ay bJ (ab (ay cg (ab (ae 0) (ab (az ba (ae 1) (eK (.int 0))) ai))) (ab (az ba (ae 1) (eK (.int 1))) ai))))
abbrev g0:Stmt:=top 56
abbrev hY:List Str:=["_law_cipher","_law_lock_here"]
theorem qR:aB ["_law_cipher","_law_lock_here"] hY (au g0):=by walk_at "s"
noncomputable def dm:Fn:=jf 2
  (aR (ay bJ (ab (ay cg (ab (ae 0) (ab (az ba (ae 1) (eK (.int 0))) ai))) (ab (ay cp (ab (ae 0) (ab (az ba (ae 1) (eK (.int 1))) ai))) ai))))
abbrev iI:Stmt:=top 57
abbrev dJ:List Str:=["_law_cipher","_law_row_here"]
theorem c8:aB ["_law_cipher","_law_row_here","_law_word","_law_head"] dJ (au iI):=by walk_at "s"
abbrev iJ:Stmt:=top 58
abbrev dM:List Str:=["_law_cipher","_law_lot_here"]
theorem su:aB ["_law_cipher","_law_lot_here"] dM (au iJ):=by walk_at "s"
mutual
noncomputable def cC:Nat->Fn
 | 0=>fun _ _=>none
 | n+1=>jf 4
  (aw (bg 2 (az ba (ae 1) (eK (.int 0))))
  (aw (fh (aL (az cu (ae 2) (eK (.str "say")))) (aR (ay bJ (ab (ae 2) (ab (ay cg (ab (ae 0) (ab (az ba (ae 1) (eK (.int 1))) ai))) ai)))) bH)
  (aw (fh (aL (az cu (ae 2) (eK (.str "call")))) (aR (ay bJ (ab (ae 2) (ab (ay cg (ab (ae 0) (ab (az ba (ae 1) (eK (.int 1))) ai))) (ab (ay bV (ab (fT (bq [none,some 0] (cG (az ba (ae 1) (eK (.int 2)))) (gN 0) bC (ay cp (ab (ae 1) (ab (ae 0) ai))))) ai)) ai))))) bH)
  (aw (bg 3 (ay bJ (ab (ae 2) ai)))
  (aw (fh (rD (aL (az cu (ae 2) (eK (.str "within")))) (aL (az cu (ae 2) (eK (.str "ask"))))) (bg 3 (ay bJ (ab (ae 2) (ab (ay dm (ab (ae 0) (ab (az ba (ae 1) (eK (.int 1))) ai))) ai)))) bH)
  (aw (fh (aL (az cu (ae 2) (eK (.str "all")))) (bg 3 (ay bJ (ab (ae 2) (ab (ay bV (ab (fT (bq [none,some 0] (cG (az ba (ae 1) (eK (.int 1)))) (gN 0) bC (ay dm (ab (ae 1) (ab (ae 0) ai))))) ai)) ai)))) bH)
  (aw (fh (aL (az cu (ae 2) (eK (.str "by")))) (bg 3 (ay bJ (ab (ae 2) (ab (ay cp (ab (ae 0) (ab (az ba (ae 1) (eK (.int 1))) ai))) (ab (ay cp (ab (ae 0) (ab (az ba (ae 1) (eK (.int 2))) ai))) ai))))) bH)
  (aR (az bp (ae 3) (ay bV (ab (fT (bq [none,some 0] (cG (uV (ae 1) (Gx (ay cZ (ab (ae 3) ai))) Gw)) (gN 0) bC (ay (bP n) (ab (ae 1) (ab (ae 0) ai))))) ai)))))))))))
noncomputable def bP:Nat->Fn
 | 0=>fun _ _=>none
 | n+1=>jf 2
  (aR (ay bV (ab (fT (bq [none,some 0] (cG (ae 1)) (gN 0) bC (ay (cC n) (ab (ae 1) (ab (ae 0) ai))))) ai)))
end
abbrev fO:Stmt:=top 59
abbrev fQ:List Str:=["_law_cipher","_law_program_here"]
theorem bY:aB ["_law_cipher","_law_program_here","_law_deeds","_law_deed","_law_params","_law_rows","_law_words_here"] fQ (au fO):=by walk_at "s"
noncomputable def dW:Fn:=E7 7
  (aw (bg 2 (xM ai))
  (aw (jP (cG (az ba (ae 1) (eK (.int 1)))) (gT 3 (aC (gN 3) (aC (gN 4) (aC (gN 5) cP)))) (aw (bg 6 (ay bV (ab (fT (bq [none,some 0] (cG (ae 4)) (gN 0) bC (ay cg (ab (ae 1) (ab (ae 0) ai))))) ai)))
  (g6 (eM cY eO (ae 2) (ab (ay bJ (ab (ay cg (ab (ae 0) (ab (ae 3) ai))) (ab (ae 6) (ab (ay (bP 20) (ab (ae 0) (ab (ae 5) ai))) ai)))) ai)))))
  (aR (ay bJ (ab (ay bV (ab (ay AR (ab (fT (bq [none,some 0] (cG (az ba (ae 1) (eK (.int 0)))) (gN 0) bC (ay cg (ab (ae 1) (ab (ae 0) ai))))) ai)) ai)) (ab (ay bV (ab (ae 2) ai)) ai))))))
abbrev iH:Stmt:=top 5
abbrev iM:List Str:=["thing","many"]
theorem sr:aB ["thing","many"] iM (au iH):=by walk_at "s"
noncomputable def cB:Fn:=jf 2
  (aR (lI (ay ik (ab (ae 0) (ab (eK (.ty "tuple")) ai))) (az cu (ay cZ (ab (ae 0) ai)) (ae 1))))
abbrev o6:Stmt:=top 6
abbrev pJ:List Str:=["thing"]
theorem zW:aB ["thing"] pJ (au o6):=by walk_at "s"
noncomputable def gS:Fn:=jf 1
  (aw (fh (rD (fq (eX (ay ik (ab (ae 0) (ab (eK (.ty "str")) ai))))) (fq (aL (hZ zI zI (eK (.int 1)) (ay cZ (ab (ae 0) ai)) (eK (.int 8)))))) (aR (eK (.bl false))) bH)
  (aR (ay rm (ab (fT (bq [none] (AO (ae 0)) (gN 0) bC (az DN (ae 0) (eK (.str "abcdefghijklmnopqrstuvwxyz"))))) ai))))
abbrev ft:Stmt:=top 20
abbrev fw:List Str:=["thing","least","most"]
theorem lC:aB ["thing","least","most"] fw (au ft):=by walk_at "s"
noncomputable def cf:Fn:=jf 3
  (aw (fh (rD (fq (eX (ay ik (ab (ae 0) (ab (eK (.ty "tuple")) ai))))) (fq (aL (hZ zI zI (ae 1) (ay cZ (ab (ae 0) ai)) (ae 2))))) (aR (eK (.bl false))) bH)
  (aR (lI (ay rm (ab (fT (bq [none] (cG (ae 0)) (gN 0) bC (ay gS (ab (ae 0) ai)))) ai)) (az cu (nY (ae 0)) (ay cZ (ab (ae 0) ai))))))
abbrev j5:Stmt:=top 22
abbrev kq:List Str:=["deeds"]
theorem wK:aB ["deeds"] kq (au j5):=by walk_at "s"
noncomputable def iF:Fn:=jf 1
  (aw (fh (rD (fq (eX (ay ik (ab (ae 0) (ab (eK (.ty "tuple")) ai))))) (fq (eX (ay rm (ab (fT (bq [none] (cG (ae 0)) (gN 0) bC (ay cB (ab (ae 0) (ab (eK (.int 3)) ai))))) ai))))) (aR (eK (.bl false))) bH)
  (aw (fh (fq (eX (ay cf (ab (ay bV (ab (fT (bq [none] (cG (ae 0)) (gN 0) bC (az ba (ae 0) (eK (.int 0))))) ai)) (ab (eK (.int 1)) (ab (eK (.int 6)) ai)))))) (aR (eK (.bl false))) bH)
  (aR (ay rm (ab (fT (bq [none] (cG (ae 0)) (gN 0) bC (ay cf (ab (az ba (ae 0) (eK (.int 1))) (ab (eK (.int 0)) (ab (eK (.int 3)) ai)))))) ai)))))
abbrev j3:Stmt:=top 21
abbrev km:List Str:=["thing"]
theorem wI:aB ["thing"] km (au j3):=by walk_at "s"
noncomputable def iD:Fn:=jf 1
  (aR (lI (ay cf (ab (ae 0) (ab (eK (.int 1)) (ab (eK (.int 6)) ai)))) (az cu (fT (zC (ab (ae 0) ai))) (ay xG (ab (ae 0) ai)))))
abbrev mn:Stmt:=top 4
abbrev mK:List Str:=["thing"]
theorem yn:aB ["thing"] mK (au mn):=by walk_at "s"
noncomputable def m8:Fn:=jf 1
  (aR (lI (ay ik (ab (ae 0) (ab (eK (.ty "int")) ai))) (Il (ay ik (ab (ae 0) (ab (eK (.ty "bool")) ai))))))
abbrev o7:Stmt:=top 7
abbrev pK:List Str:=["thing","params"]
theorem mh:aB ["thing","params","word","figure"] pK (au o7):=by walk_at "s"
noncomputable def fC:Fn:=jf 4
  (aw (fh (fq (eX (ay cB (ab (ae 0) (ab (eK (.int 2)) ai))))) (aR (eK (.bl false))) bH)
  (aw (lD (ae 0) (gT 2 (aC (gN 2) (aC (gN 3) cP))))
  (aw (fh (rD (fq (eX (ay ik (ab (ae 2) (ab (eK (.ty "str")) ai))))) (fq (eX (ay m8 (ab (ae 3) ai))))) (aR (eK (.bl false))) bH)
  (aR (lI (Pe (az cu (ae 2) (eK (.str ""))) (az DN (ae 2) (ae 1))) (hZ zI zI (B2 wq (eK (.int 99))) (ae 3) (eK (.int 99))))))))
abbrev o9:Stmt:=top 24
abbrev pM:List Str:=["deed","terms","counts","params"]
theorem zX:aB ["deed","terms","counts","params"] pM (au o9):=by walk_at "s"
noncomputable def ly:Fn:=jf 4
  (aw (fh (rD (fq (eX (ay gS (ab (ae 0) ai)))) (rD (aL (az iO (ae 0) (ae 2))) (fq (eX (ay cB (ab (ae 1) (ab (az ba (ae 2) (ae 0)) ai))))))) (aR (eK (.bl false))) bH)
  (aR (ay rm (ab (fT (bq [none,some 3] (cG (ae 1)) (gN 0) bC (ay fC (ab (ae 0) (ab (ae 1) ai))))) ai))))
abbrev o8:Stmt:=top 8
abbrev pL:List Str:=["thing","names","params"]
theorem mj:aB ["thing","names","params","name","term"] pL (au o8):=by walk_at "s"
noncomputable def je:Fn:=jf 5
  (aw (fh (fq (eX (ay cB (ab (ae 0) (ab (eK (.int 2)) ai))))) (aR (eK (.bl false))) bH)
  (aw (lD (ae 0) (gT 2 (aC (gN 3) (aC (gN 4) cP))))
  (aR (lI (ay ik (ab (ae 3) (ab (eK (.ty "str")) ai))) (lI (az DN (ae 3) (ae 1)) (ay fC (ab (ae 4) (ab (ae 2) ai))))))))
abbrev j4:Stmt:=top 23
abbrev ko:List Str:=["thing","names","params"]
theorem wJ:aB ["thing","names","params"] ko (au j4):=by walk_at "s"
noncomputable def iE:Fn:=jf 3
  (aw (fh (rD (fq (eX (ay ik (ab (ae 0) (ab (eK (.ty "tuple")) ai))))) (fq (aL (hZ zI zI (eK (.int 2)) (ay cZ (ab (ae 0) ai)) (eK (.int 4)))))) (aR (eK (.bl false))) bH)
  (aR (lI (ay rm (ab (fT (bq [none,some 1,some 2] (cG (ae 0)) (gN 0) bC (ay je (ab (ae 0) (ab (ae 1) (ab (ae 2) ai)))))) ai)) (az cu (nY (ae 0)) (ay cZ (ab (ae 0) ai))))))
abbrev f6:Stmt:=top 26
abbrev f7:List Str:=["row","names","counts","params"]
theorem ir:aB ["row","names","counts","params","sort"] f7 (au f6):=by walk_at "s"
noncomputable def eR:Fn:=jf 5
  (aw (bg 4 (az ba (ae 0) (eK (.int 0))))
  (aw (fh (aL (az cu (ae 4) (eK (.str "say")))) (aR (ay gS (ab (az ba (ae 0) (eK (.int 1))) ai))) bH)
  (aw (fh (aL (az cu (ae 4) (eK (.str "call")))) (aR (ay ly (ab (az ba (ae 0) (eK (.int 1))) (ab (az ba (ae 0) (eK (.int 2))) (ab (ae 2) (ab (ae 3) ai)))))) bH)
  (aw (fh (aL (az cu (ae 4) (eK (.str "all")))) (aR (ay iE (ab (az ba (ae 0) (eK (.int 1))) (ab (ae 1) (ab (ae 3) ai))))) bH)
  (aw (fh (aL (az DN (ae 4) (ay bJ (ab (eK (.str "within")) (ab (eK (.str "ask")) ai))))) (aR (ay je (ab (az ba (ae 0) (eK (.int 1))) (ab (ae 1) (ab (ae 3) ai))))) bH)
  (aw (fh (aL (az cu (ae 4) (eK (.str "by")))) (aR (lI (ay fC (ab (az ba (ae 0) (eK (.int 1))) (ab (ae 3) ai))) (ay fC (ab (az ba (ae 0) (eK (.int 2))) (ab (ae 3) ai))))) bH)
  (aR (eK (.bl true)))))))))
abbrev j2:Stmt:=top 25
abbrev kl:List Str:=["row"]
theorem ji:aB ["row","ahead","lots"] kl (au j2):=by walk_at "s"
noncomputable def iC:Fn:=jf 3
  (aw (fh (rD (fq (eX (ay ik (ab (ae 0) (ab (eK (.ty "tuple")) ai))))) (aL (az cu (ay cZ (ab (ae 0) ai)) (eK (.int 0))))) (aR (eK (.bl false))) bH)
  (aw (fh (rD (fq (eX (ay ik (ab (az ba (ae 0) (eK (.int 0))) (ab (eK (.ty "str")) ai))))) (aL (B2 (Fu gQ) (az ba (ae 0) (eK (.int 0)))))) (aR (eK (.bl false))) bH)
  (aw (lD (B2 (HZ gQ) (az ba (ae 0) (eK (.int 0)))) (gT 2 (aC (gN 1) (aC (gN 2) cP))))
  (aR (az cu (ay cZ (ab (ae 0) ai)) (az bp (ae 1) (ae 2)))))))
abbrev oZ:Stmt:=top 19
abbrev pI:List Str:=["row"]
theorem zV:aB ["row"] pI (au oZ):=by walk_at "s"
noncomputable def gR:Fn:=jf 1
  (aR (uV (ae 0) (Gx (az ba (B2 (HZ gQ) (az ba (ae 0) (eK (.int 0)))) (eK (.int 0)))) Gw))
abbrev jY:Stmt:=top 27
abbrev gq:List Str:=["lot","deep","left","names","counts","params"]
theorem fL:aB ["lot","deep","left","names","counts","params","row","inner"] gq (au jY):=by walk_at "s"
noncomputable def dr:Nat->Fn
 | 0=>fun _ _=>none
 | n+1=>jf 8
  (aw (fh (rD (aL (az Dj (ae 1) (eK (.int 5)))) (rD (fq (eX (ay ik (ab (ae 0) (ab (eK (.ty "tuple")) ai))))) (aL (az Dj (ay cZ (ab (ae 0) ai)) (eK (.int 12)))))) (aR (eK .cN)) bH)
  (aw (jP (cG (ae 0)) (gN 6) (aw (fh (rD (aL (az cu (ae 2) (eK (.int 0)))) (rD (fq (eX (ay iC (ab (ae 6) ai)))) (fq (eX (ay eR (ab (ae 6) (ab (ae 3) (ab (ae 4) (ab (ae 5) ai))))))))) (aR (eK .cN)) bH)
  (aw (Em 2 xF (eK (.int 1)))
  (jP (cG (ay gR (ab (ae 6) ai))) (gN 7) (aw (bg 2 (ay (dr n) (ab (ae 7) (ab (az bp (ae 1) (eK (.int 1))) (ab (ae 2) (ab (ae 3) (ab (ae 4) (ab (ae 5) ai))))))))
  (fh (aL (az Di (ae 2) (eK .cN))) (aR (eK .cN)) bH))))))
  (aR (ae 2))))
abbrev jl:Stmt:=top 28
abbrev jy:List Str:=["thing"]
theorem cj:aB ["thing","names","deeds","counts","left","deed","params","rows"] jy (au jl):=by walk_at "s"
noncomputable def gO:Fn:=jf 8
  (aw (fh (fq (eX (ay cB (ab (ae 0) (ab (eK (.int 2)) ai))))) (aR (eK (.bl false))) bH)
  (aw (lD (ae 0) (gT 2 (aC (gN 1) (aC (gN 2) cP))))
  (aw (fh (rD (fq (eX (ay iD (ab (ae 1) ai)))) (fq (eX (ay iF (ab (ae 2) ai))))) (aR (eK (.bl false))) bH)
  (aw (bg 3 (Jj [none,none,none] (cG (ae 2)) (gT 3 (aC (gN 0) (aC (gN 1) (aC (gN 2) cP)))) bC (mD (ae 0) (ay cZ (ab (ae 1) ai))) [] .dv))
  (aw (bg 4 (eK (.int 60)))
  (aw (jP (cG (ae 2)) (gT 3 (aC (gN 5) (aC (gN 6) (aC (gN 7) cP)))) (aw (bg 4 (ay (dr 8) (ab (ae 7) (ab (eK (.int 1)) (ab (ae 4) (ab (ae 1) (ab (ae 3) (ab (ae 6) ai))))))))
  (fh (aL (az Di (ae 4) (eK .cN))) (aR (eK (.bl false))) bH)))
  (aR (eK (.bl true)))))))))
abbrev mm:Stmt:=top 29
abbrev g8:List Str:=["lot","ahead"]
theorem ej:aB ["lot","ahead","found","number","row","path","at","inner"] g8 (au mm):=by walk_at "s"
noncomputable def eD:Nat->Fn
 | 0=>fun _ _=>none
 | n+1=>E7 8
  (aw (bg 2 (xM ai))
  (aw (jP (tK (ab (ae 0) ai)) (gT 2 (aC (gN 3) (aC (gN 4) cP))) (aw (bg 5 (az bp (ae 1) (ay bJ (ab (ae 3) ai))))
  (aw (g6 (eM cY eO (ae 2) (ab (ay bJ (ab (ae 5) (ab (ae 4) ai))) ai)))
  (jP (tK (ab (ay gR (ab (ae 4) ai)) ai)) (gT 2 (aC (gN 6) (aC (gN 7) cP))) (g6 (eM cY k9 (ae 2) (ab (ay (eD n) (ab (ae 7) (ab (az bp (ae 5) (ay bJ (ab (ae 6) ai))) ai))) ai)))))))
  (aR (ae 2))))
abbrev jZ:Stmt:=top 30
abbrev kj:List Str:=["program"]
theorem eN:aB ["program","found","deed","name","params","rows"] kj (au jZ):=by walk_at "s"
noncomputable def gx:Fn:=E7 6
  (aw (bg 1 (xM ai))
  (aw (jP (tK (ab (az ba (ae 0) (eK (.int 1))) ai)) (gT 2 (aC (gN 2) (aC (gT 3 (aC (gN 3) (aC (gN 4) (aC (gN 5) cP)))) cP))) (g6 (eM cY k9 (ae 1) (ab (fT (bq [none,none,some 2] (cG (ay (eD 10) (ab (ae 5) (ab (ay bJ ai) ai)))) (gT 2 (aC (gN 0) (aC (gN 1) cP))) bC (ay bJ (ab (ae 2) (ab (ae 0) (ab (ae 1) ai)))))) ai))))
  (aR (ae 1))))
abbrev oY:Stmt:=top 31
abbrev pH:List Str:=["program"]
theorem zU:aB ["program"] pH (au oY):=by walk_at "s"
noncomputable def eQ:Fn:=jf 1
  (aR (ay bV (ab (fT (bq [none,none,none] (cG (ay gx (ab (ae 0) ai))) (gT 3 (aC (gN 0) (aC (gN 1) (aC (gN 2) cP)))) bC (ay bJ (ab (ae 0) (ab (ae 2) ai))))) ai)))
abbrev j7:Stmt:=top 53
abbrev gr:List Str:=["_law_one","_law_two"]
theorem wL:aB ["_law_one","_law_two"] gr (au j7):=by walk_at "s"
noncomputable def cT:Nat->Fn
 | 0=>fun _ _=>none
 | n+1=>jf 2
  (aw (fh (eX (ay ik (ab (ae 1) (ab (eK (.ty "tuple")) ai)))) (aw (fh (rD (fq (eX (ay ik (ab (ae 0) (ab (eK (.ty "tuple")) ai))))) (aL (az nV (ay cZ (ab (ae 0) ai)) (ay cZ (ab (ae 1) ai))))) (aR (eK (.bl false))) bH)
  (aR (ay rm (ab (fT (bq [none,none] (Lu (ab (ae 0) (ab (ae 1) ai))) (gT 2 (aC (gN 0) (aC (gN 1) cP))) bC (ay (cT n) (ab (ae 0) (ab (ae 1) ai))))) ai)))) bH)
  (aw (fh (aL (az Di (ae 1) (eK .cN))) (aR (az Di (ae 0) (eK .cN))) bH)
  (aw (fh (eX (ay ik (ab (ae 1) (ab (eK (.ty "str")) ai)))) (aR (lI (ay ik (ab (ae 0) (ab (eK (.ty "str")) ai))) (az cu (ae 0) (ae 1)))) bH)
  (aw (fh (eX (ay ik (ab (ae 1) (ab (eK (.ty "bool")) ai)))) (aR (lI (ay ik (ab (ae 0) (ab (eK (.ty "bool")) ai))) (az cu (ae 0) (ae 1)))) bH)
  (aR (lI (ay ik (ab (ae 0) (ab (eK (.ty "int")) ai))) (lI (Il (ay ik (ab (ae 0) (ab (eK (.ty "bool")) ai)))) (az cu (ae 0) (ae 1)))))))))
abbrev gX:Stmt:=top 32
abbrev g9:List Str:=["program"]
theorem qP:aB ["program"] g9 (au gX):=by walk_at "s"
noncomputable def eF:Fn:=jf 1
  (aR (Jj [none,none] (tK (ab (az ba (ae 0) (eK (.int 1))) ai)) (gT 2 (aC (gN 0) (aC (gN 1) cP))) bC (mD (az ba (ae 1) (eK (.int 0))) (ae 0)) [] .dv))
abbrev mw:Stmt:=top 33
abbrev mM:List Str:=["program","rows"]
theorem gp:aB ["program","rows","numbers","called","deed","row"] mM (au mw):=by walk_at "s"
noncomputable def jJ:Fn:=E7 6
  (aw (bg 2 (ay eF (ab (ae 0) ai)))
  (aw (bg 3 (fT (bq [none] (cG (az ba (ae 0) (eK (.int 1)))) (gN 0) bC (xM ai))))
  (aw (jP (cG (ae 1)) (gT 2 (aC (gN 4) (aC (gN 5) cP))) (fh (aL (az cu (az ba (ae 5) (eK (.int 0))) (eK (.str "call")))) (g6 (eM cY eO (az ba (ae 3) (ae 4)) (ab (az ba (ae 2) (az ba (ae 5) (eK (.int 1)))) ai))) bH))
  (aR (ay bV (ab (fT (bq [none] (cG (ae 3)) (gN 0) bC (ay bV (ab (kM (ae 0)) ai)))) ai))))))
abbrev mr:Stmt:=top 34
abbrev mL:List Str:=["program"]
theorem yo:aB ["program"] mL (au mr):=by walk_at "s"
noncomputable def dC:Fn:=jf 1
  (aR (ay jJ (ab (ae 0) (ab (ay eQ (ab (ae 0) ai)) ai))))
abbrev pb:Stmt:=top 35
abbrev pN:List Str:=["calls","deed"]
theorem jj:aB ["calls","deed","found","ahead","other"] pN (au pb):=by walk_at "s"
noncomputable def gU:Fn:=E7 5
  (aw (bg 2 (xM ai))
  (aw (bg 3 (xM (zC (ab (az ba (ae 0) (ae 1)) ai))))
  (aw (jg (eX (ae 3)) (aw (bg 4 (eM cY Fc (ae 3) ai))
  (fh (aL (az iO (ae 4) (ae 2))) (aw (g6 (eM cY eO (ae 2) (ab (ae 4) ai)))
  (g6 (eM cY kH (ae 3) (ab (az ba (ae 0) (ae 4)) ai)))) bH)) 1000000)
  (aR (ae 2)))))
abbrev fN:Stmt:=top 36
abbrev fP:List Str:=["program"]
theorem gW:aB ["program","calls"] fP (au fN):=by walk_at "s"
noncomputable def cv:Fn:=jf 2
  (aw (bg 1 (ay dC (ab (ae 0) ai)))
  (aR (ay LF (ab (fT (bq [none,some 1] (tJ (ab (ay cZ (ab (ae 1) ai)) ai)) (gN 0) bC (az DN (ae 0) (ay gU (ab (ae 1) (ab (ae 0) ai)))))) ai))))
abbrev qk:Stmt:=top 60
abbrev Je:List Str:=["_law_script"]
theorem md:aB ["_law_script","_law_state","_law_k","_law_program_here","_law_cipher","_law_other","_law_due"] Je (au qk):=by walk_at "s"
noncomputable def Cg:Fn:=jf 7
  (aw (bg 1 (ay fW (ab (ae 0) ai)))
  (aw (jP (tJ (ab (eK (.int 6)) ai)) (gN 2) (aw (bg 3 (ay fV (ab (ae 1) (ab (ay aV (ab (ae 1) (ab (eK (.lv [.int 8,.int 14,.int 60])) ai))) (ab (ay aV (ab (ae 1) (ab (eK (.lv [.int 0,.int 12,.int 4])) ai))) ai)))))
  (aw (bg 4 (ay bJ (ab (ay aV (ab (ae 1) (ab (eK (.lv [.int 1,.int 3,.int 5,.int 7,.int 9,.int 11,.int 15,.int 17,.int 19,.int 21,.int 23,.int 25])) ai))) (ab (ay aY (ab (ae 1) (ab (eK (.int 26)) ai))) ai))))
  (aw (bg 5 (ay dW (ab (ae 4) (ab (ae 3) ai))))
  (aw (fh (aL (az Jg (ay gO (ab (ae 5) ai)) (eK (.bl true)))) (aR (eK (.bl false))) bH)
  (aw (bg 6 (ay bV (ab (fT (bq [none,none,some 4] (cG (ay eQ (ab (ae 3) ai))) (gT 2 (aC (gN 0) (aC (gN 1) cP))) bC (ay bJ (ab (ae 0) (ab (ay (cC 20) (ab (ae 2) (ab (ae 1) ai))) ai))))) ai)))
  (aw (fh (rD (fq (eX (ay (cT 20) (ab (ay eQ (ab (ae 5) ai)) (ab (ae 6) ai))))) (fq (eX (ay (cT 20) (ab (ay dC (ab (ae 5) ai)) (ab (ay dC (ab (ae 3) ai)) ai)))))) (aR (eK (.bl false))) bH)
  (fh (aL (az nV (ay cv (ab (ae 5) ai)) (ay cv (ab (ae 3) ai)))) (aR (eK (.bl false))) bH))))))))
  (aR (eK (.bl true)))))
section
variable (P:Program) (w:World) (K:FR) (mg:Str->Option Value) (base:Heap)
abbrev oB:Prop:=Df P w K mg base "_law_drawn" 1 jB 1 fW
abbrev qM:Prop:=Df P w K mg base "_law_load" 1 kB 1 iG
abbrev cR:Prop:=Df P w K mg base "_law_next" 2 kz 2 aY
abbrev fB:Prop:=Df P w K mg base "_law_of" 3 pO 2 aV
abbrev oA:Prop:=Df P w K mg base "_law_words" 4 jA 2 eS
abbrev oz:Prop:=Df P w K mg base "_law_world" 5 jz 3 gP
abbrev iR:Prop:=Df P w K mg base "_law_is_odd" 3 iN 2 dR
abbrev iA:Prop:=Df P w K mg base "_law_term" 4 kr 2 cq
abbrev qN:Prop:=Df P w K mg base "_law_call" 5 kC 4 gy
abbrev qL:Prop:=Df P w K mg base "_law_lock" 5 kA 5 fD
abbrev uo:Prop:=Df P w K mg base "_law_lot" 26 gb 7 (bT 20)
abbrev Bv:Prop:=Df P w K mg base "_law_row" 26 f9 6 (gg 20)
abbrev uZ:Prop:=Df P w K mg base "_law_locked" 26 dN 7 (dQ 20)
abbrev rp:Prop:=Df P w K mg base "_law_two_ways" 26 cJ 6 (cL 20)
abbrev kQ:Prop:=Df P w K mg base "_law_program" 27 hW 3 fV
abbrev jd:Prop:=Df P w K mg base "_law_by" 1 pP 2 cg
abbrev ic:Prop:=Df P w K mg base "_law_term_so" 2 hG 2 cp
abbrev kR:Prop:=Df P w K mg base "_law_lock_so" 3 hY 2 dm
abbrev lV:Prop:=Df P w K mg base "_law_row_so" 24 dJ 2 (cC 20)
abbrev lW:Prop:=Df P w K mg base "_law_lot_so" 24 dM 2 (bP 20)
abbrev iB:Prop:=Df P w K mg base "_law_program_so" 25 fQ 2 dW
abbrev dO:Prop:=Df P w K mg base "is_tuple_of" 1 iM 2 cB
abbrev lu:Prop:=Df P w K mg base "is_word" 1 pJ 1 gS
abbrev fx:Prop:=Df P w K mg base "are_unlike_words" 2 fw 3 cf
abbrev qJ:Prop:=Df P w K mg base "are_heads" 3 kq 1 iF
abbrev qH:Prop:=Df P w K mg base "are_names" 3 km 1 iD
abbrev uh:Prop:=Df P w K mg base "is_whole" 1 mK 1 m8
abbrev lx:Prop:=Df P w K mg base "is_term" 2 pK 2 fC
abbrev wj:Prop:=Df P w K mg base "is_call" 3 pM 4 ly
abbrev qf:Prop:=Df P w K mg base "is_lock" 3 pL 3 je
abbrev qI:Prop:=Df P w K mg base "are_locks" 4 ko 3 iE
abbrev jc:Prop:=Df P w K mg base "is_right_ahead" 5 f7 4 eR
abbrev qG:Prop:=Df P w K mg base "is_shaped" 1 kl 1 iC
abbrev qe:Prop:=Df P w K mg base "lots_of" 1 pI 1 gR
abbrev qE:Prop:=Df P w K mg base "rows_left" 14 gq 6 (dr 8)
abbrev oy:Prop:=Df P w K mg base "is_program" 15 jy 1 gO
abbrev ug:Prop:=Df P w K mg base "paths_in" 12 g8 2 (eD 10)
abbrev qF:Prop:=Df P w K mg base "places_of" 13 kj 1 gx
abbrev qc:Prop:=Df P w K mg base "rows_of" 14 pH 1 eQ
abbrev qK:Prop:=Df P w K mg base "_law_same" 21 gr 2 (cT 20)
abbrev kP:Prop:=Df P w K mg base "deed_numbers" 1 g9 1 eF
abbrev um:Prop:=Df P w K mg base "calls_in" 2 mM 2 jJ
abbrev m7:Prop:=Df P w K mg base "calls_of" 15 mL 1 dC
abbrev wk:Prop:=Df P w K mg base "come_to" 1 pN 2 gU
abbrev iz:Prop:=Df P w K mg base "comes_to_itself" 16 fP 1 cv
end
section
variable {P:Program} {w:World} {K:FR} {mg:Str->Option Value} {base:Heap}
theorem uQ(F:fX K "_law_drawn" "_law_drawn" jo f fd)(B:Bs P w K mg):bB P w K mg base fE 1 f fd jB (fY K 1 fW):=
 (aT F uA fun cdv A outer s H E hr=>by(conv=>arg 2;whnf);with_reducible exact(ak (ar (jR.ob (cy (aa aj (aa (jR.ob (wH (by unfold Gl;ac_nf) B.b2 rR (aa (oW (sv 0) kZ (kY aj)) af) (ag aq))) (aa aj af))) (ag (ag (ag aq))))))))
theorem xn(F:fX K "_law_load" "_law_load" kc f fd)(B:Bs P w K mg):bB P w K mg base fE 1 f fd kB (fY K 1 iG):=
 (aT F dz fun cdv A outer s H E hr=>by(conv=>arg 2;whnf);with_reducible exact(ah (sset 1 dz.nd (six hr (sv 0) aj))
   (ah (sset 2 dz.nd (six hr (sv 0) aj))
   (ah (fI (aQ aS (sv 2) aj) (oV hr.units (sv 0) aj))
   (ah (sset 3 dz.nd aj)
   (ah (aX (aH (sU hr.units) (sv 1) (jR.lv (cy af aq)) (aA _)) (ak (sset 3 dz.nd (six hr (sv 1) (aQ kE (sv 2) (eV cb B.b5 cc (aa (sv 1) af)))))) aF)
   (ak (aX (SW.st (lZ (aH yL (sv 2) (eV cb B.b5 cc (aa (sv 1) af)) (aA _)) (kT (aH Jf (eV FK B.b6 F8 (aa (sv 3) af)) (aQ EX aj aj) (aA _))))) (ak (fI (eV FK B.b6 F8 (aa (sv 3) af)) (oV hr.units (sv 0) aj))) (ah (sset 4 dz.nd (aQ kE (aQ iw (aQ aS (aQ aS (aQ kE (sv 3) aj) (aQ iw (aQ iw aj (sv 2)) (sv 2))) aj) aj) aj))
   (ah (sset 4 dz.nd (aQ kE (aQ iw (sv 4) (sv 4)) aj))
   (ak (fI (aQ aS (aQ kE (aQ aS (aQ aS (aQ iw (sv 4) aj) (sv 2)) aj) aj) (aQ EX aj aj)) (oV hr.units (sv 0) aj)))))))))))))
theorem xl(F:fX K "_law_next" "_law_next" j8 f fd)(B:Bs P w K mg)(d24:qM P w K mg base):bB P w K mg base fE 2 f fd kz (fY K 2 aY):=
 (aT F nA fun cdv A outer s H E hr=>by(conv=>arg 2;whnf);with_reducible exact(ah (aX (aH yL (six hr (sv 0) aj) (sv 1) (aA _)) (ak (fg (bG d24 hr (aa (sv 0) af)))) aF)
   (ah (sset 2 nA.nd (aQ kE (six hr (sv 0) aj) (sv 1)))
   (ah (fI (aQ KU (six hr (sv 0) aj) (sv 1)) (oV hr.units (sv 0) aj))
   (ak (ar (sv 2)))))))
theorem Az(F:fX K "_law_of" "_law_of" pf f fd)(B:Bs P w K mg)(d25:cR P w K mg base):bB P w K mg base fE 3 f fd pO (fY K 2 aV):=
 (aT F zY fun cdv A outer s H E hr=>by(conv=>arg 2;whnf);with_reducible exact(ak (ar (six hr (sv 1) (bG d25 hr (aa (sv 0) (aa (eV cb B.b5 cc (aa (sv 1) af)) af)))))))
theorem uP(F:fX K "_law_words" "_law_words" jn f fd)(B:Bs P w K mg)(d26:fB P w K mg base)(d25:cR P w K mg base):bB P w K mg base fE 4 f fd jA (fY K 2 eS):=
 (aT F cz fun cdv A outer s H E hr=>by(conv=>arg 2;whnf);with_reducible exact(ah (sset 2 cz.nd av)
   (ah (sset 3 cz.nd av)
   (ah (fH Rp rfl (eJ (by unfold Gl;ac_nf) B.b0 (aa (bG d26 hr (aa (sv 0) (aa (eL 9 (by ac_nf)) af))) af) (hl:=(ag aq))) (sgn 4 cz.nd) (ak (sset 3 cz.nd (aQ aS (sv 3) (six hr (sv 2) (bG d25 hr (aa (sv 0) (aa aj af))))))))
   (ah (sset 5 cz.nd (bG d25 hr (aa (sv 0) (aa (aQ aS (eV cb B.b5 cc (aa (sv 3) af)) aj) af))))
   (ah (sset 6 cz.nd (bG d25 hr (aa (sv 0) (aa aj af))))
   (ah (sset 7 cz.nd (bG d26 hr (aa (sv 0) (aa (eL 9 (by ac_nf)) af))))
   (ak (ar (bM (N':=["_law_k","_law_at","_law_first","_law_letters","_law_stem","_law_stride"]) (caps:=[none,some 5,some 6,some 2,some 3,some 7]) (aE (by ac_nf)) rfl (eJ (by unfold Gl;ac_nf) B.b0 (aa (sv 1) af) (hl:=(ag aq))) (fun _ _ _ _ _=>(sgn 0 (by show(["_law_k","_law_at","_law_first","_law_letters","_law_stem","_law_stride"]:List Str).Nodup;decide+kernel))) (fun _ _ _ _ _=>br) (fun _ _ _ _ _=>(aQ aS (aQ aS (oW (sv 4) kZ (kY (sv 1))) (six hr (sv 3) (aQ kE (aQ aS (sv 2) (aQ iw (sv 5) (sv 0))) aj))) (oW (sv 4) (kY (sv 1)) kZ)))))))))))))
theorem uO(F:fX K "_law_world" "_law_world" jm f fd)(B:Bs P w K mg)(d27:oA P w K mg base)(d26:fB P w K mg base)(d25:cR P w K mg base):bB P w K mg base fE 5 f fd jz (fY K 3 gP):=
 (aT F cV fun cdv A outer s H E hr=>by(conv=>arg 2;whnf);with_reducible exact(ah (sset 3 cV.nd (bG d27 hr (aa (sv 0) (aa (bG d26 hr (aa (sv 0) (aa (eL 9 (by ac_nf)) af))) af))))
   (ah (sset 4 cV.nd (bG d27 hr (aa (sv 0) (aa (bG d26 hr (aa (sv 0) (aa (eL 9 (by ac_nf)) af))) af))))
   (ah (sset 5 cV.nd (bG d27 hr (aa (sv 0) (aa aj af))))
   (ah (jh (i:=6) cV.nd (by ac_nf) (by ac_nf) (N':=["_law_deed","_law_state"]) (caps:=[none,some 0]) (aE (by ac_nf)) rfl (bO (sv 4)) (fun _ _ _ _ _=>(sgn 0 (by show(["_law_deed","_law_state"]:List Str).Nodup;decide+kernel))) (fun _ _ _ _ _=>br) (fun _ _ _ _ _=>(bG d26 hr (aa (sv 1) (aa (eL 9 (by ac_nf)) af)))))
   (ah (sset 7 cV.nd (eV FJ B.b4 lr (aa (bM (N':=["_law_deed","_law_names","_law_state"]) (caps:=[none,some 3,some 0]) (aE (by ac_nf)) rfl (bO (sv 4)) (fun _ _ _ _ _=>(sgn 0 (by show(["_law_deed","_law_names","_law_state"]:List Str).Nodup;decide+kernel))) (fun _ _ _ _ _=>br) (fun _ _ _ _ _=>(bG d25 hr (aa (sv 2) (aa (eV cb B.b5 cc (aa (sv 1) af)) af))))) af)))
   (ah (sset 5 cV.nd (bM (N':=["_law_k","_law_params"]) (caps:=[none,some 5]) (aE (by ac_nf)) rfl (bO (sv 6)) (fun _ _ _ _ _=>(sgn 0 (by show(["_law_k","_law_params"]:List Str).Nodup;decide+kernel))) (fun _ _ _ _ _=>br) (fun _ _ _ _ _=>(oW (sv 1) kZ (kY (sv 0))))))
   (ak (ar (Ef (kX av (sv 3) (kX av (sv 4) (kX av (sv 5) (kX av (sv 7) (kX av (sv 1) (kX av (sv 2) JM)))))) (by ac_nf) (by ac_nf) (by simp) fun trs h=>Ht h (by ac_nf) (by ac_nf) (by simp) (by decide)))))))))))
theorem sX(F:fX K "_law_is_odd" "_law_is_odd" iL f fd)(B:Bs P w K mg)(d25:cR P w K mg base):bB P w K mg base fE 3 f fd iN (fY K 2 dR):=
 (aT F sx fun cdv A outer s H E hr=>by(conv=>arg 2;whnf);with_reducible exact(ak (ar (fK (dw lO (six hr (sv 1) av) aj (aA _)) (fZ (dw (bh hr.units) (bG d25 hr (aa (sv 0) (aa (six hr (sv 1) av) af))) aj (aA _)))))))
theorem xk(F:fX K "_law_term" "_law_term" j6 f fd)(B:Bs P w K mg)(d25:cR P w K mg base)(d26:fB P w K mg base):bB P w K mg base fE 4 f fd kr (fY K 2 cq):=
 (aT F nz fun cdv A outer s H E hr=>by(conv=>arg 2;whnf);with_reducible exact(ah (sset 2 nz.nd (aQ sS (bG d25 hr (aa (sv 0) (aa aj af))) aj))
   (ah (aX (SW.st (lZ (aH lO (eV cb B.b5 cc (aa (sv 1) af)) aj (aA _)) (kT (aH lO (bG d25 hr (aa (sv 0) (aa aj af))) aj (aA _))))) (ak (ar (aD (aa (bG d26 hr (aa (sv 0) (aa (sv 1) af))) (aa (bG d26 hr (aa (sv 0) (aa (jR.lv (cy (aa aj (aa aj (aa aj (aa aj (aa aj (aa aj (aa (vj oO aj) (aa aj (aa (sv 2) af))))))))) (ag (ag (ag (ag (ag (ag (ag (ag (ag aq))))))))))) af))) af)) (ag (ag aq))))) aF)
   (ak (ar (aD (aa av (aa (bG d26 hr (aa (sv 0) (aa (jR.lv (cy (aa aj (aa aj (aa aj (aa aj (aa aj (aa aj (aa (vj oO aj) (aa (sv 2) af)))))))) (ag (ag (ag (ag (ag (ag (ag (ag aq)))))))))) af))) af)) (ag (ag aq))))))))
theorem xo(F:fX K "_law_call" "_law_call" kd f fd)(B:Bs P w K mg)(d29:iR P w K mg base)(d26:fB P w K mg base)(d30:iA P w K mg base):bB P w K mg base fE 5 f fd kC (fY K 4 gy):=
 (aT F fM fun cdv A outer s H E hr=>by(conv=>arg 2;whnf);with_reducible exact(ah (jh (i:=4) fM.nd (by ac_nf) (by ac_nf) (N':=["_law_k","_law_deed","_law_top","_law_world_here"]) (caps:=[none,some 2,some 3,some 1]) (aE (by ac_nf)) rfl (eJ (by unfold Gl;ac_nf) B.b0 (aa (eV cb B.b5 cc (aa (six hr (sv 1) av) af)) af) (hl:=(ag aq))) (fun _ _ _ _ _=>(sgn 0 (by show(["_law_k","_law_deed","_law_top","_law_world_here"]:List Str).Nodup;decide+kernel))) (fun _ _ _ _ _=>(wG (SW.st (lZ (aH lO (six hr (six hr (sv 3) av) (sv 0)) (sv 2) (aA _)) (kT (aH Jf (sv 0) (sv 1) (aA _))))))) (fun _ _ _ _ _=>(sv 0)))
   (ah (aX (bN (bG d29 hr (aa (sv 0) (aa (sv 1) af)))) (ak (sset 4 fM.nd (jR.lv (Cv rfl (by unfold Gl;ac_nf) B.b2 (by unfold Gl;ac_nf) B.b0 rR (aa (eV cb B.b5 cc (aa (six hr (sv 1) av) af)) af))))) aF)
   (ah (aX (aH (bh hr.units) (sv 4) (jR.lv (cy af aq)) (aA _)) (ak (ar (aD (aa av (aa (six hr (six hr (sv 1) av) (sv 2)) af)) (ag (ag aq))))) aF)
   (ah (sset 5 fM.nd (bG d26 hr (aa (sv 0) (aa (sv 4) af))))
   (ah (jh (i:=6) fM.nd (by ac_nf) (by ac_nf) (N':=["_law_one","_law_deed","_law_state","_law_world_here"]) (caps:=[none,some 2,some 0,some 1]) (aE (by ac_nf)) rfl (bO (six hr (six hr (sv 1) av) (sv 5))) (fun _ _ _ _ _=>(sgn 0 (by show(["_law_one","_law_deed","_law_state","_law_world_here"]:List Str).Nodup;decide+kernel))) (fun _ _ _ _ _=>br) (fun _ _ _ _ _=>(bG d30 hr (aa (sv 2) (aa (six hr (six hr (sv 3) av) (sv 1)) af)))))
   (ak (ar (aD (aa av (aa (six hr (six hr (sv 1) av) (sv 5)) (aa (so bK B.b1 a8 (aa (sv 6) af)) af))) (ag (ag (ag aq))))))))))))
theorem xm(F:fX K "_law_lock" "_law_lock" j9 f fd)(B:Bs P w K mg)(d25:cR P w K mg base)(d29:iR P w K mg base)(d30:iA P w K mg base):bB P w K mg base fE 5 f fd kA (fY K 5 fD):=
 (aT F cM fun cdv A outer s H E hr=>by(conv=>arg 2;whnf);with_reducible exact(ah (sset 5 cM.nd (eV (tU rfl) B.b7 t9 (aa (sv 3) (aa (six hr (six hr (sv 1) av) (sv 2)) af))))
   (ah (aX (aH (bh hr.units) (sv 5) (eV cb B.b5 cc (aa (six hr (sv 1) av) af)) (aA _)) (ak (ar (aD (aa gV (aa gV af)) (ag (ag aq))))) aF)
   (ah (sset 6 cM.nd (aQ aS (sv 5) (bG d25 hr (aa (sv 0) (aa (aQ sS (eV cb B.b5 cc (aa (six hr (sv 1) av) af)) (sv 5)) af)))))
   (ah (aX (bN (bG d29 hr (aa (sv 0) (aa (sv 1) af)))) (ak (sset 6 cM.nd (bG d25 hr (aa (sv 0) (aa (eV cb B.b5 cc (aa (six hr (sv 1) av) af)) af))))) aF)
   (ah (sset 7 cM.nd (six hr (six hr (sv 1) av) (sv 6)))
   (ah (jh (i:=8) cM.nd (by ac_nf) (by ac_nf) (N':=["_law_lock_here","_law_name"]) (caps:=[none,some 7]) (aE (by ac_nf)) rfl (bO (sv 4)) (fun _ _ _ _ _=>(sgn 0 (by show(["_law_lock_here","_law_name"]:List Str).Nodup;decide+kernel))) (fun _ _ _ _ _=>(wG (aH (bh hr.units) (six hr (sv 0) aj) (sv 1) (aA _)))) (fun _ _ _ _ _=>(six hr (sv 0) aj)))
   (ah (aX (SW.st (lZ (aH (sU hr.units) (sv 8) (jR.lv (cy af aq)) (aA _)) (kT (bX (bN (bG d29 hr (aa (sv 0) (aa (sv 1) af)))))))) (ah (fI (six hr (sv 8) (vj oO aj)) (cE rfl (ax (sgn 9 cM.nd) (ax (sgn 10 cM.nd) bQ))))
   (ak (ar (aD (aa (sv 6) (aa (aD (aa (sv 7) (aa (aD (aa (sv 9) (aa (eV (LJ rfl) B.b9 LS (aa aj (aa (aQ aS (aQ aS (sv 10) aj) (bG d25 hr (aa (sv 0) (aa aj af)))) af))) af)) (ag (ag aq))) af)) (ag (ag aq))) af)) (ag (ag aq)))))) aF)
   (ak (ar (aD (aa (sv 6) (aa (aD (aa (sv 7) (aa (bG d30 hr (aa (sv 0) (aa (six hr (six hr (sv 1) av) (sv 2)) af))) af)) (ag (ag aq))) af)) (ag (ag aq)))))))))))))
theorem BL{f1:Addr}{fd1:FuncData}(F1:fX K "_law_lot" "_law_lot" my f1 fd1)(kf1:PySem.W.keepIn K (.ref f1)=true)(bf1:Binds K fd1 gb [])(mf1:mg "_law_lot"=some (.ref f1)){f2:Addr}{fd2:FuncData}(F2:fX K "_law_row" "_law_row" mx f2 fd2)(kf2:PySem.W.keepIn K (.ref f2)=true)(bf2:Binds K fd2 f9 [])(mf2:mg "_law_row"=some (.ref f2)){f3:Addr}{fd3:FuncData}(F3:fX K "_law_locked" "_law_locked" iK f3 fd3)(kf3:PySem.W.keepIn K (.ref f3)=true)(bf3:Binds K fd3 dN [])(mf3:mg "_law_locked"=some (.ref f3)){f4:Addr}{fd4:FuncData}(F4:fX K "_law_two_ways" "_law_two_ways" gC f4 fd4)(kf4:PySem.W.keepIn K (.ref f4)=true)(bf4:Binds K fd4 cJ [])(mf4:mg "_law_two_ways"=some (.ref f4))(B:Bs P w K mg)(d25:cR P w K mg base)(d26:fB P w K mg base)(d32:qN P w K mg base)(d30:iA P w K mg base)(d31:qL P w K mg base):∀n,bB P w K mg base fE (6+n) f1 fd1 gb (fY K 7 (bT n))∧bB P w K mg base fE (6+n) f2 fd2 f9 (fY K 6 (gg n))∧bB P w K mg base fE (6+n) f3 fd3 dN (fY K 7 (dQ n))∧bB P w K mg base fE (6+n) f4 fd4 cJ (fY K 6 (cL n))
 | 0=>⟨gK,gK,gK,gK⟩
 | n+1=>by
  obtain⟨i1,i2,i3,i4⟩:=BL F1 kf1 bf1 mf1 F2 kf2 bf2 mf2 F3 kf3 bf3 mf3 F4 kf4 bf4 mf4 B d25 d26 d32 d30 d31 n;have d36:Df P w K mg base "_law_lot" (6+n) gb 7 (bT n):=⟨f1,fd1,i1,kf1,bf1,mf1⟩;have d35:Df P w K mg base "_law_row" (6+n) f9 6 (gg n):=⟨f2,fd2,i2,kf2,bf2,mf2⟩;have d34:Df P w K mg base "_law_locked" (6+n) dN 7 (dQ n):=⟨f3,fd3,i3,kf3,bf3,mf3⟩;have d33:Df P w K mg base "_law_two_ways" (6+n) cJ 6 (cL n):=⟨f4,fd4,i4,kf4,bf4,mf4⟩;refine⟨?_,?_,?_,?_⟩
  ·exact fS (aT F1 jX fun cdv A outer s H E hr=>by(conv=>arg 2;whnf);with_reducible exact(ah (sset 7 jX.nd (jR.ob (cy af aq)))
   (ah (fH Rp rfl (eJ (by unfold Gl;ac_nf) B.b0 (aa (bG d25 hr (aa (sv 0) (aa (aQ aS (bG d26 hr (aa (sv 0) (aa (aQ aS (aQ EW (jR.lv (cy (aa (sv 6) af) (ag aq))) aj) (jR.lv (cy (aa aj af) (ag aq)))) af)) (QB (by decide) (QM _ _))) aj) af)) (QB (by decide) (QM _ _))) af) (hl:=(ag aq))) (sgn 8 jX.nd) (ak (aX (aH lO (six hr (sv 1) av) aj (aA _)) (ah (fI (aQ sS (six hr (sv 1) av) aj) (oV hr.units (sv 1) av))
   (ak (fg (oX (isT:=cY) gA Q2 Rt Rz fz (sv 7) (aa (bG d35 hr (aa (sv 0) (aa (sv 1) (aa (sv 2) (aa (sv 3) (aa (sv 4) (aa (sv 5) af)))))) (Qq _)) af))))) aF)))
   (ak (ar (so bK B.b1 a8 (aa (sv 7) af)))))))
  ·exact(aT F2 et fun cdv A outer s H E hr=>by(conv=>arg 2;whnf);with_reducible exact(ah (sset 6 et.nd (bG d25 hr (aa (sv 0) (aa aj af)) (QB (by decide) (QM _ _))))
   (ah (aX (SW.st (fy (aH yL (sv 6) aj (aA _)) (dX (SW.st (lZ (aH (bh hr.units) (sv 3) aj (aA _)) (kT (aH yL (sv 6) aj (aA _)))))))) (ak (ar (aD (aa av (aa (bG d26 hr (aa (sv 0) (aa (aQ aS (six hr (sv 1) av) (six hr (sv 1) av)) af)) (QB (by decide) (QM _ _))) af)) (ag (ag aq))))) aF)
   (ah (aX (SW.st (fy (aH lO (sv 6) aj (aA _)) (dX (aH (bh hr.units) (sv 3) aj (aA _))))) (ak (ar (bG d32 hr (aa (sv 0) (aa (sv 1) (aa (sv 2) (aa (sv 4) af)))) (QB (by decide) (QM _ _))))) aF)
   (ah (aX (SW.st (lZ (aH (bh hr.units) (sv 6) aj (aA _)) (lZ (aH yL (sv 3) aj (aA _)) (kT (aH lO (six hr (sv 1) av) aj (aA _)))))) (ak (ar (bG d33 hr (aa (sv 0) (aa (sv 1) (aa (sv 2) (aa (sv 3) (aa (sv 4) (aa (sv 5) af)))))) (Qq _)))) aF)
   (ah (aX (SW.st (fy (aH (bh hr.units) (sv 6) aj (aA _)) (dX (aH (bh hr.units) (sv 6) aj (aA _))))) (ah (JL 7 8 et.nd (ag (ag aq)) rfl (by decide) (by with_unfolding_all exact(Al rfl et.nd rfl rfl (by decide) rfl rfl (aa (bG d30 hr (aa (sv 0) (aa (six hr (six hr (sv 1) av) (sv 2)) af)) (QB (by decide) (QM _ _))) (aa (bG d30 hr (aa (sv 0) (aa (six hr (six hr (sv 1) av) (sv 2)) af)) (QB (by decide) (QM _ _))) af)) rfl)))
   (ah (jh (i:=9) et.nd (by ac_nf) (by ac_nf) (N':=["_law_k","_law_deed","_law_deep","_law_held","_law_state","_law_top","_law_world_here"]) (caps:=[none,some 2,some 3,some 5,some 0,some 4,some 1]) (aE (by ac_nf)) rfl (eJ (by unfold Gl;ac_nf) B.b0 (aa aj af) (hl:=(ag aq))) (fun _ _ _ _ _=>(sgn 0 (by show(["_law_k","_law_deed","_law_deep","_law_held","_law_state","_law_top","_law_world_here"]:List Str).Nodup;decide+kernel))) (fun _ _ _ _ _=>br) (fun _ _ _ _ _=>(bG d36 hr (aa (sv 4) (aa (sv 6) (aa (sv 1) (aa (aQ aS (sv 2) aj) (aa (sv 5) (aa (sv 3) (aa aj af))))))) (Qq _))))
   (ak (ar (aQ aS (aD (aa av (aa (sv 7) (aa (sv 8) af))) (ag (ag (ag aq)))) (so bK B.b1 a8 (aa (sv 9) af))))))) aF)
   (ah (aX (aH (bh hr.units) (sv 6) aj (aA _)) (ah (jh (i:=9) et.nd (by ac_nf) (by ac_nf) (N':=["_law_k","_law_deed","_law_deep","_law_held","_law_state","_law_top","_law_world_here"]) (caps:=[none,some 2,some 3,some 5,some 0,some 4,some 1]) (aE (by ac_nf)) rfl (eJ (by unfold Gl;ac_nf) B.b0 (aa aj af) (hl:=(ag aq))) (fun _ _ _ _ _=>(sgn 0 (by show(["_law_k","_law_deed","_law_deep","_law_held","_law_state","_law_top","_law_world_here"]:List Str).Nodup;decide+kernel))) (fun _ _ _ _ _=>br) (fun _ _ _ _ _=>(bG d36 hr (aa (sv 4) (aa (sv 6) (aa (sv 1) (aa (aQ aS (sv 2) aj) (aa (sv 5) (aa (sv 3) (aa aj af))))))) (Qq _))))
   (ak (ar (aQ aS (aD (aa av af) (ag aq)) (so bK B.b1 a8 (aa (sv 9) af)))))) aF)
   (ah (aX (aH (bh hr.units) (sv 6) aj (aA _)) (ak (ar (aD (aa av (aa (bG d36 hr (aa (sv 0) (aa (sv 1) (aa (sv 2) (aa (aQ aS (sv 3) aj) (aa (sv 4) (aa (sv 5) (aa aj af))))))) (Qq _)) af)) (ag (ag aq))))) aF)
   (ah (sset 10 et.nd (bG d26 hr (aa (sv 0) (aa (eL 9 (by ac_nf)) af)) (QB (by decide) (QM _ _))))
   (ak (ar (bG d34 hr (aa (sv 0) (aa (sv 1) (aa (sv 2) (aa (sv 3) (aa (sv 4) (aa (sv 5) (aa (sv 10) af))))))) (Qq _)))))))))))))
  ·exact fS (aT F3 bo fun cdv A outer s H E hr=>by(conv=>arg 2;whnf);with_reducible exact(ah (fI (bG d31 hr (aa (sv 0) (aa (sv 1) (aa (sv 2) (aa (sv 4) (aa (sv 5) af))))) (QB (by decide) (QM _ _))) (cE rfl (ax (sgn 7 bo.nd) (ax (sgn 8 bo.nd) bQ))))
   (ah (aX (aH sV (sv 7) gV (aA _)) (ak (ar (aD (aa av (aa (six hr (six hr (sv 1) av) (sv 2)) af)) (ag (ag aq))))) aF)
   (ah (aX (aH (bh hr.units) (sv 6) av (aA _)) (ah (JL 9 10 bo.nd (ag (ag aq)) rfl (by decide) (by with_unfolding_all exact(Al rfl bo.nd rfl rfl (by decide) rfl rfl (aa (jR.ob (cy (aa (sv 8) af) (ag aq))) (aa (sv 7) af)) rfl)))
   (ah (fH Rp rfl (eJ (by unfold Gl;ac_nf) B.b0 (aa (bG d26 hr (aa (sv 0) (aa (eL 9 (by ac_nf)) af)) (QB (by decide) (QM _ _))) af) (hl:=(ag aq))) (sgn 11 bo.nd) (ah (fI (bG d31 hr (aa (sv 0) (aa (sv 1) (aa (sv 2) (aa (sv 4) (aa (sv 5) af))))) (QB (by decide) (QM _ _))) (cE rfl (ax (sgn 12 bo.nd) (ax (sgn 13 bo.nd) bQ))))
   (ah (sset 10 bo.nd (eV (tU rfl) B.b7 t9 (aa (sv 10) (aa (sv 12) af))))
   (ak (sset 9 bo.nd (jR.ob (JQ (sv 9) (aQ EW (jR.lv (cy (aa (sv 13) af) (ag aq))) (so Bb B.b8 ua (aa (dw (sT hr.units) (sv 13) (sv 9) (by ac_nf)) af))))))))))
   (ah (aX (aH (bh hr.units) (eV cb B.b5 cc (aa (sv 9) af)) aj (aA _)) (ak (fg (oX (isT:=cY) gA Q2 Rt Rz fz (sv 9) (aa (aD (aa (six hr (sv 8) aj) (aa (aD (aa (six hr (six hr (sv 8) aj) aj) (aa (aQ sS (aQ aS (six hr (six hr (sv 8) aj) aj) aj) (aQ iw aj (so Bb B.b8 ua (aa (dw lO (six hr (six hr (sv 8) aj) aj) aj (aA _)) af)))) af)) (ag (ag aq))) af)) (ag (ag aq))) af)))) aF)
   (ah (sset 10 bo.nd (aQ aS (sv 10) (so Bb B.b8 ua (aa (dw (bh hr.units) (six hr (sv 1) av) aj (aA _)) af))))
   (ak (ar (aD (aa av (aa (so bK B.b1 a8 (aa (sv 9) af)) (aa (bG d36 hr (aa (sv 0) (aa (sv 1) (aa (sv 2) (aa (aQ aS (sv 3) aj) (aa (eV (tU rfl) B.b7 t9 (aa (sv 4) (aa (sv 10) af))) (aa (aQ aS (sv 5) (sv 9)) (aa aj af))))))) (Qq _)) af))) (ag (ag (ag aq)))))))))) aF)
   (ah (sset 14 bo.nd (bG d36 hr (aa (sv 0) (aa (sv 1) (aa (sv 2) (aa (aQ aS (sv 3) aj) (aa (eV (tU rfl) B.b7 t9 (aa (sv 4) (aa (sv 7) af))) (aa (aQ aS (sv 5) (jR.lv (cy (aa (sv 8) af) (ag aq)))) (aa aj af))))))) (Qq _)))
   (ah (aX (aH (bh hr.units) (sv 6) av (aA _)) (ak (ar (aD (aa av (aa (sv 8) (aa (sv 14) (aa (bG d36 hr (aa (sv 0) (aa (sv 1) (aa (sv 2) (aa (aQ aS (sv 3) aj) (aa (sv 4) (aa (sv 5) (aa aj af))))))) (Qq _)) af)))) (ag (ag (ag (ag aq))))))) aF)
   (ak (ar (aD (aa av (aa (sv 8) (aa (sv 14) af))) (ag (ag (ag aq))))))))))))
  ·exact fS (aT F4 bw fun cdv A outer s H E hr=>by(conv=>arg 2;whnf);with_reducible exact(ah (sset 6 bw.nd (eV (tU rfl) B.b7 t9 (aa (sv 4) (aa (six hr (six hr (sv 1) av) (sv 2)) af))))
   (ah (aX (aH (bh hr.units) (sv 6) (eV cb B.b5 cc (aa (six hr (sv 1) av) af)) (aA _)) (ak (ar (aD (aa av (aa (six hr (six hr (sv 1) av) (sv 2)) af)) (ag (ag aq))))) aF)
   (ah (aX (aH (sU hr.units) (bM (N':=["_law_lock_here","_law_low","_law_world_here"]) (caps:=[none,some 6,some 1]) (aE (by ac_nf)) rfl (bO (sv 5)) (fun _ _ _ _ _=>(sgn 0 (by show(["_law_lock_here","_law_low","_law_world_here"]:List Str).Nodup;decide+kernel))) (fun _ _ _ _ _=>(wG (aH (bh hr.units) (six hr (sv 0) aj) (six hr (six hr (sv 2) av) (sv 1)) (aA _)))) (fun _ _ _ _ _=>(sv 0))) (jR.lv (cy af aq)) (aA _)) (ak (ar (aD (aa av (aa (six hr (six hr (sv 1) av) (sv 2)) af)) (ag (ag aq))))) aF)
   (ah (sset 7 bw.nd (six hr (six hr (sv 1) av) (sv 6)))
   (ah (fI (aQ sS (six hr (sv 1) av) aj) (oV hr.units (sv 1) av))
   (ah (JL 8 9 bw.nd (ag (ag aq)) rfl (by decide) (by with_unfolding_all exact(Al rfl bw.nd rfl rfl (by decide) rfl rfl (aa (bG d30 hr (aa (sv 0) (aa (six hr (six hr (sv 1) av) (sv 2)) af)) (QB (by decide) (QM _ _))) (aa (bG d30 hr (aa (sv 0) (aa (six hr (six hr (sv 1) av) (sv 2)) af)) (QB (by decide) (QM _ _))) af)) rfl)))
   (ah (sset 10 bw.nd (jR.ob (cy af aq)))
   (ah (fH Rp rfl (bO (jR.lv (cy (aa (aD (aa (sv 8) (aa (sv 9) af)) (ag (ag aq))) (aa (aD (aa (sv 9) (aa (sv 8) af)) (ag (ag aq))) af)) (ag (ag aq))))) (cE rfl (ax (sgn 11 bw.nd) (ax (sgn 12 bw.nd) bQ))) (ah (sset 13 bw.nd (bG d36 hr (aa (sv 0) (aa (sv 1) (aa (sv 2) (aa (aQ aS (sv 3) aj) (aa (sv 6) (aa (aQ aS (sv 5) (jR.lv (cy (aa (aD (aa (sv 7) (aa (sv 11) af)) (ag (ag aq))) (aa (aD (aa (sv 7) (aa (sv 12) af)) (ag (ag aq))) af)) (ag (ag aq))))) (aa aj af))))))) (Qq _)))
   (ak (fg (oX (isT:=cY) gA Q2 Rt Rz fz (sv 10) (aa (aD (aa (aD (aa av (aa (aD (aa (sv 7) (aa (sv 11) af)) (ag (ag aq))) (aa (aD (aa (aD (aa av (aa (aD (aa (sv 7) (aa (sv 12) af)) (ag (ag aq))) (aa (sv 13) af))) (ag (ag (ag aq)))) af) (ag aq)) af))) (ag (ag (ag aq)))) af) (ag aq)) af))))))
   (ak (ar (aD (aa av (aa (sv 8) (aa (sv 9) (aa (six hr (sv 10) aj) (aa (aD (aa (aD (aa av (aa (aD (aa (sv 7) (aa (sv 8) af)) (ag (ag aq))) (aa (aD af aq) af))) (ag (ag (ag aq)))) af) (ag aq)) (aa (six hr (sv 10) aj) af)))))) (ag (ag (ag (ag (ag (ag aq))))))))))))))))))
theorem q0(F:fX K "_law_program" "_law_program" gZ f fd)(B:Bs P w K mg)(d28:oz P w K mg base)(d36:uo P w K mg base)(d26:fB P w K mg base):bB P w K mg base fE 27 f fd hW (fY K 3 fV):=
 fS (aT F cI fun cdv A outer s H E hr=>by(conv=>arg 2;whnf);with_reducible exact(ah (sset 3 cI.nd (bG d28 hr (aa (sv 0) (aa (sv 1) (aa (sv 2) af)))))
   (ah (sset 4 cI.nd (jR.ob (cy af aq)))
   (ah (fH Rp rfl (nv (by unfold Gl;ac_nf) B.b3 (aa (six hr (sv 3) av) af) (ag aq)) (cE rfl (ax (sgn 5 cI.nd) (ax (sgn 6 cI.nd) bQ))) (ah (sset 7 cI.nd (bG d36 hr (aa (sv 0) (aa (sv 3) (aa (sv 5) (aa aj (aa (vj oO aj) (aa (jR.lv (cy af aq)) (aa (bG d26 hr (aa (sv 0) (aa (eL 9 (by ac_nf)) af))) af)))))))))
   (ak (fg (oX (isT:=cY) gA Q2 Rt Rz fz (sv 4) (aa (aD (aa (sv 6) (aa (so bK B.b1 a8 (aa (six hr (six hr (sv 3) av) (sv 5)) af)) (aa (sv 7) af))) (ag (ag (ag aq)))) af))))))
   (ak (ar (aD (aa (so bK B.b1 a8 (aa (eV zl B.b4 lr (aa (six hr (sv 3) av) af)) af)) (aa (so bK B.b1 a8 (aa (sv 4) af)) af)) (ag (ag aq)))))))))
theorem AA(F:fX K "_law_by" "_law_by" ph f fd)(B:Bs P w K mg):bB P w K mg base fE 1 f fd pP (fY K 2 cg):=
 (aT F jk fun cdv A outer s H E hr=>by(conv=>arg 2;whnf);with_reducible exact(ah (sset 2 jk.nd av)
   (ah (fI (sv 0) (cE rfl (ax (sgn 3 jk.nd) (ax (sgn 4 jk.nd) bQ))))
   (ak (ar (oX (isT:=isStr) ty_str Vu PySem.F.slot_str_join PySem.F.type_str_join HD av (aa (bM (N':=["_law_sign","_law_first","_law_letters","_law_stride"]) (caps:=[none,some 4,some 2,some 3]) (aE (by ac_nf)) rfl (Ea (sv 1)) (fun _ _ _ _ _=>(sgn 0 (by show(["_law_sign","_law_first","_law_letters","_law_stride"]:List Str).Nodup;decide+kernel))) (fun _ _ _ _ _=>br) (fun _ _ _ _ _=>(six hr (sv 2) (aQ kE (aQ aS (aQ iw (sv 3) (oX (isT:=isStr) ty_str Vu PySem.F.slot_str_index PySem.F.type_str_index Fb (sv 2) (aa (sv 0) af))) (sv 1)) aj)))) af)))))))
theorem qZ(F:fX K "_law_term_so" "_law_term_so" gY f fd)(B:Bs P w K mg)(d39:jd P w K mg base):bB P w K mg base fE 2 f fd hG (fY K 2 cp):=
 (aT F qQ fun cdv A outer s H E hr=>by(conv=>arg 2;whnf);with_reducible exact(ak (ar (aD (aa (bG d39 hr (aa (sv 0) (aa (six hr (sv 1) aj) af))) (aa (six hr (sv 1) aj) af)) (ag (ag aq))))))
theorem q9(F:fX K "_law_lock_so" "_law_lock_so" g0 f fd)(B:Bs P w K mg)(d40:ic P w K mg base)(d39:jd P w K mg base):bB P w K mg base fE 3 f fd hY (fY K 2 dm):=
 (aT F qR fun cdv A outer s H E hr=>by(conv=>arg 2;whnf);with_reducible exact(ak (ar (aD (aa (bG d39 hr (aa (sv 0) (aa (six hr (sv 1) aj) af))) (aa (bG d40 hr (aa (sv 0) (aa (six hr (sv 1) aj) af))) af)) (ag (ag aq))))))
theorem yO{f1:Addr}{fd1:FuncData}(F1:fX K "_law_row_so" "_law_row_so" iI f1 fd1)(kf1:PySem.W.keepIn K (.ref f1)=true)(bf1:Binds K fd1 dJ [])(mf1:mg "_law_row_so"=some (.ref f1)){f2:Addr}{fd2:FuncData}(F2:fX K "_law_lot_so" "_law_lot_so" iJ f2 fd2)(kf2:PySem.W.keepIn K (.ref f2)=true)(bf2:Binds K fd2 dM [])(mf2:mg "_law_lot_so"=some (.ref f2))(B:Bs P w K mg)(d39:jd P w K mg base)(d40:ic P w K mg base)(d41:kR P w K mg base):∀n,bB P w K mg base fE (4+n) f1 fd1 dJ (fY K 2 (cC n))∧bB P w K mg base fE (4+n) f2 fd2 dM (fY K 2 (bP n))
 | 0=>⟨gK,gK⟩
 | n+1=>by
  obtain⟨i1,i2⟩:=yO F1 kf1 bf1 mf1 F2 kf2 bf2 mf2 B d39 d40 d41 n;have d42:Df P w K mg base "_law_row_so" (4+n) dJ 2 (cC n):=⟨f1,fd1,i1,kf1,bf1,mf1⟩;have d43:Df P w K mg base "_law_lot_so" (4+n) dM 2 (bP n):=⟨f2,fd2,i2,kf2,bf2,mf2⟩;refine⟨?_,?_⟩
  ·exact(aT F1 c8 fun cdv A outer s H E hr=>by(conv=>arg 2;whnf);with_reducible exact(ah (sset 2 c8.nd (six hr (sv 1) aj))
   (ah (aX (aH (bh hr.units) (sv 2) av (aA _)) (ak (ar (aD (aa (sv 2) (aa (bG d39 hr (aa (sv 0) (aa (six hr (sv 1) aj) af)) (QB (by decide) (QM _ _))) af)) (ag (ag aq))))) aF)
   (ah (aX (aH (bh hr.units) (sv 2) av (aA _)) (ak (ar (aD (aa (sv 2) (aa (bG d39 hr (aa (sv 0) (aa (six hr (sv 1) aj) af)) (QB (by decide) (QM _ _))) (aa (so bK B.b1 a8 (aa (bM (N':=["_law_one","_law_cipher"]) (caps:=[none,some 0]) (aE (by ac_nf)) rfl (bO (six hr (sv 1) aj)) (fun _ _ _ _ _=>(sgn 0 (by show(["_law_one","_law_cipher"]:List Str).Nodup;decide+kernel))) (fun _ _ _ _ _=>br) (fun _ _ _ _ _=>(bG d40 hr (aa (sv 1) (aa (sv 0) af)) (QB (by decide) (QM _ _))))) af)) af))) (ag (ag (ag aq)))))) aF)
   (ah (sset 3 c8.nd (aD (aa (sv 2) af) (ag aq)))
   (ah (aX (SW.st (fy (aH (bh hr.units) (sv 2) av (aA _)) (dX (aH (bh hr.units) (sv 2) av (aA _))))) (ak (sset 3 c8.nd (aD (aa (sv 2) (aa (bG d41 hr (aa (sv 0) (aa (six hr (sv 1) aj) af)) (QB (by decide) (QM _ _))) af)) (ag (ag aq))))) aF)
   (ah (aX (aH (bh hr.units) (sv 2) av (aA _)) (ak (sset 3 c8.nd (aD (aa (sv 2) (aa (so bK B.b1 a8 (aa (bM (N':=["_law_one","_law_cipher"]) (caps:=[none,some 0]) (aE (by ac_nf)) rfl (bO (six hr (sv 1) aj)) (fun _ _ _ _ _=>(sgn 0 (by show(["_law_one","_law_cipher"]:List Str).Nodup;decide+kernel))) (fun _ _ _ _ _=>br) (fun _ _ _ _ _=>(bG d41 hr (aa (sv 1) (aa (sv 0) af)) (QB (by decide) (QM _ _))))) af)) af)) (ag (ag aq))))) aF)
   (ah (aX (aH (bh hr.units) (sv 2) av (aA _)) (ak (sset 3 c8.nd (aD (aa (sv 2) (aa (bG d40 hr (aa (sv 0) (aa (six hr (sv 1) aj) af)) (QB (by decide) (QM _ _))) (aa (bG d40 hr (aa (sv 0) (aa (six hr (sv 1) aj) af)) (QB (by decide) (QM _ _))) af))) (ag (ag (ag aq)))))) aF)
   (ak (ar (aQ aS (sv 3) (so bK B.b1 a8 (aa (bM (N':=["_law_lot_here","_law_cipher"]) (caps:=[none,some 0]) (aE (by ac_nf)) rfl (bO (oW (sv 1) (kY (eV cb B.b5 cc (aa (sv 3) af))) kZ)) (fun _ _ _ _ _=>(sgn 0 (by show(["_law_lot_here","_law_cipher"]:List Str).Nodup;decide+kernel))) (fun _ _ _ _ _=>br) (fun _ _ _ _ _=>(bG d43 hr (aa (sv 1) (aa (sv 0) af)) (Qq _)))) af)))))))))))))
  ·exact(aT F2 su fun cdv A outer s H E hr=>by(conv=>arg 2;whnf);with_reducible exact(ak (ar (so bK B.b1 a8 (aa (bM (N':=["_law_row_here","_law_cipher"]) (caps:=[none,some 0]) (aE (by ac_nf)) rfl (bO (sv 1)) (fun _ _ _ _ _=>(sgn 0 (by show(["_law_row_here","_law_cipher"]:List Str).Nodup;decide+kernel))) (fun _ _ _ _ _=>br) (fun _ _ _ _ _=>(bG d42 hr (aa (sv 1) (aa (sv 0) af)) (Qq _)))) af)))))
theorem mO(F:fX K "_law_program_so" "_law_program_so" fO f fd)(B:Bs P w K mg)(d39:jd P w K mg base)(d43:lW P w K mg base):bB P w K mg base fE 25 f fd fQ (fY K 2 dW):=
 fS (aT F bY fun cdv A outer s H E hr=>by(conv=>arg 2;whnf);with_reducible exact(ah (sset 2 bY.nd (jR.ob (cy af aq)))
   (ah (fH Rp rfl (bO (six hr (sv 1) aj)) (cE rfl (ax (sgn 3 bY.nd) (ax (sgn 4 bY.nd) (ax (sgn 5 bY.nd) bQ)))) (ah (sset 6 bY.nd (so bK B.b1 a8 (aa (bM (N':=["_law_one","_law_cipher"]) (caps:=[none,some 0]) (aE (by ac_nf)) rfl (bO (sv 4)) (fun _ _ _ _ _=>(sgn 0 (by show(["_law_one","_law_cipher"]:List Str).Nodup;decide+kernel))) (fun _ _ _ _ _=>br) (fun _ _ _ _ _=>(bG d39 hr (aa (sv 1) (aa (sv 0) af))))) af)))
   (ak (fg (oX (isT:=cY) gA Q2 Rt Rz fz (sv 2) (aa (aD (aa (bG d39 hr (aa (sv 0) (aa (sv 3) af))) (aa (sv 6) (aa (bG d43 hr (aa (sv 0) (aa (sv 5) af))) af))) (ag (ag (ag aq)))) af))))))
   (ak (ar (aD (aa (so bK B.b1 a8 (aa (eV zl B.b4 lr (aa (bM (N':=["_law_name","_law_cipher"]) (caps:=[none,some 0]) (aE (by ac_nf)) rfl (bO (six hr (sv 1) aj)) (fun _ _ _ _ _=>(sgn 0 (by show(["_law_name","_law_cipher"]:List Str).Nodup;decide+kernel))) (fun _ _ _ _ _=>br) (fun _ _ _ _ _=>(bG d39 hr (aa (sv 1) (aa (sv 0) af))))) af)) af)) (aa (so bK B.b1 a8 (aa (sv 2) af)) af)) (ag (ag aq))))))))
theorem sW(F:fX K "is_tuple_of" "is_tuple_of" iH f fd)(B:Bs P w K mg):bB P w K mg base fE 1 f fd iM (fY K 2 cB):=
 (aT F sr fun cdv A outer s H E hr=>by(conv=>arg 2;whnf);with_reducible exact(ak (ar (fK (eV di B.wa aG (aa (sv 0) (aa (vi B.b1 a8) af))) (fZ (dw (bh hr.units) (eV cb B.b5 cc (aa (sv 0) af)) (sv 1) (aA _)))))))
theorem Au(F:fX K "is_word" "is_word" o6 f fd)(B:Bs P w K mg):bB P w K mg base fE 1 f fd pJ (fY K 1 gS):=
 (aT F zW fun cdv A outer s H E hr=>by(conv=>arg 2;whnf);with_reducible exact(ah (aX (SW.st (fy (bX (bN (eV di B.wa aG (aa (sv 0) (aa (vi B.IE p7) af))))) (dX (bX (sf qq qq aj (eV cb B.b5 cc (aa (sv 0) af)) (gB B.uu (by unfold Gl;ac_nf))))))) (ak (ar dZ)) aF)
   (ak (ar (eV (mY rfl) B.Gz m5 (aa (bM (N':=["letter"]) (caps:=[none]) (aE (by ac_nf)) rfl (Ea (sv 0)) (fun _ _ _ _ _=>(sgn 0 (by show(["letter"]:List Str).Nodup;decide+kernel))) (fun _ _ _ _ _=>br) (fun _ _ _ _ _=>(dw (yM hr.units) (sv 0) (gB B.DJ (by unfold Gl;ac_nf)) (by ac_nf)))) af))))))
theorem lG(F:fX K "are_unlike_words" "are_unlike_words" ft f fd)(B:Bs P w K mg)(d2:lu P w K mg base):bB P w K mg base fE 2 f fd fw (fY K 3 cf):=
 (aT F lC fun cdv A outer s H E hr=>by(conv=>arg 2;whnf);with_reducible exact(ah (aX (SW.st (fy (bX (bN (eV di B.wa aG (aa (sv 0) (aa (vi B.b1 a8) af))))) (dX (bX (sf qq qq (sv 1) (eV cb B.b5 cc (aa (sv 0) af)) (sv 2)))))) (ak (ar dZ)) aF)
   (ak (ar (fK (eV (mY rfl) B.Gz m5 (aa (bM (N':=["word"]) (caps:=[none]) (aE (by ac_nf)) rfl (bO (sv 0)) (fun _ _ _ _ _=>(sgn 0 (by show(["word"]:List Str).Nodup;decide+kernel))) (fun _ _ _ _ _=>br) (fun _ _ _ _ _=>(bG d2 hr (aa (sv 0) af)))) af)) (fZ (dw (bh hr.units) (vm rfl hr.units (by unfold Gl;ac_nf) B.b5 (by unfold Gl;ac_nf) B.Mg (sv 0)) (eV cb B.b5 cc (aa (sv 0) af)) (aA _))))))))
theorem xj(F:fX K "are_heads" "are_heads" j5 f fd)(B:Bs P w K mg)(d1:dO P w K mg base)(d6:fx P w K mg base):bB P w K mg base fE 3 f fd kq (fY K 1 iF):=
 (aT F wK fun cdv A outer s H E hr=>by(conv=>arg 2;whnf);with_reducible exact(ah (aX (SW.st (fy (bX (bN (eV di B.wa aG (aa (sv 0) (aa (vi B.b1 a8) af))))) (dX (bX (bN (eV (mY rfl) B.Gz m5 (aa (bM (N':=["deed"]) (caps:=[none]) (aE (by ac_nf)) rfl (bO (sv 0)) (fun _ _ _ _ _=>(sgn 0 (by show(["deed"]:List Str).Nodup;decide+kernel))) (fun _ _ _ _ _=>br) (fun _ _ _ _ _=>(bG d1 hr (aa (sv 0) (aa aj af))))) af))))))) (ak (ar dZ)) aF)
   (ah (aX (bX (bN (bG d6 hr (aa (so bK B.b1 a8 (aa (bM (N':=["deed"]) (caps:=[none]) (aE (by ac_nf)) rfl (bO (sv 0)) (fun _ _ _ _ _=>(sgn 0 (by show(["deed"]:List Str).Nodup;decide+kernel))) (fun _ _ _ _ _=>br) (fun _ _ _ _ _=>(six hr (sv 0) aj))) af)) (aa aj (aa (gB B.x6 (by unfold Gl;ac_nf)) af)))))) (ak (ar dZ)) aF)
   (ak (ar (eV (mY rfl) B.Gz m5 (aa (bM (N':=["deed"]) (caps:=[none]) (aE (by ac_nf)) rfl (bO (sv 0)) (fun _ _ _ _ _=>(sgn 0 (by show(["deed"]:List Str).Nodup;decide+kernel))) (fun _ _ _ _ _=>br) (fun _ _ _ _ _=>(bG d6 hr (aa (six hr (sv 0) aj) (aa aj (aa (gB B.vb (by unfold Gl;ac_nf)) af)))))) af)))))))
theorem xh(F:fX K "are_names" "are_names" j3 f fd)(B:Bs P w K mg)(d6:fx P w K mg base):bB P w K mg base fE 3 f fd km (fY K 1 iD):=
 (aT F wI fun cdv A outer s H E hr=>by(conv=>arg 2;whnf);with_reducible exact(ak (ar (fK (bG d6 hr (aa (sv 0) (aa aj (aa (gB B.x5 (by unfold Gl;ac_nf)) af)))) (fZ (dw (bh hr.units) (jR.lv (wH (by unfold Gl;ac_nf) B.b2 rR (aa (sv 0) af) (ag aq))) (eV Dr B.b4 lr (aa (sv 0) af)) (aA _)))))))
theorem yP(F:fX K "is_whole" "is_whole" mn f fd)(B:Bs P w K mg):bB P w K mg base fE 1 f fd mK (fY K 1 m8):=
 (aT F yn fun cdv A outer s H E hr=>by(conv=>arg 2;whnf);with_reducible exact(ak (ar (fK (eV di B.wa aG (aa (sv 0) (aa (vi B.b8 ua) af))) (fZ (Ee (eV di B.wa aG (aa (sv 0) (aa (vi B.LW rT) af)))))))))
theorem Av(F:fX K "is_term" "is_term" o7 f fd)(B:Bs P w K mg)(d1:dO P w K mg base)(d0:uh P w K mg base):bB P w K mg base fE 2 f fd pK (fY K 2 fC):=
 (aT F mh fun cdv A outer s H E hr=>by(conv=>arg 2;whnf);with_reducible exact(ah (aX (bX (bN (bG d1 hr (aa (sv 0) (aa aj af))))) (ak (ar dZ)) aF)
   (ah (fI (sv 0) (cE rfl (ax (sgn 2 mh.nd) (ax (sgn 3 mh.nd) bQ))))
   (ah (aX (SW.st (fy (bX (bN (eV di B.wa aG (aa (sv 2) (aa (vi B.IE p7) af))))) (dX (bX (bN (bG d0 hr (aa (sv 3) af))))))) (ak (ar dZ)) aF)
   (ak (ar (fK (MP (dw (bh hr.units) (sv 2) av (aA _)) (fZ (dw (yM hr.units) (sv 2) (sv 1) (by ac_nf)))) (fZ (Eh qq qq (vj oO (gB B.lY (by unfold Gl;ac_nf))) (sv 3) (gB B.lY (by unfold Gl;ac_nf)))))))))))
theorem Ax(F:fX K "is_call" "is_call" o9 f fd)(B:Bs P w K mg)(d1:dO P w K mg base)(d2:lu P w K mg base)(d3:lx P w K mg base):bB P w K mg base fE 3 f fd pM (fY K 4 ly):=
 (aT F zX fun cdv A outer s H E hr=>by(conv=>arg 2;whnf);with_reducible exact(ah (aX (SW.st (fy (bX (bN (bG d2 hr (aa (sv 0) af)))) (fy (aH (sT hr.units) (sv 0) (sv 2) (by ac_nf)) (dX (bX (bN (bG d1 hr (aa (sv 1) (aa (six hr (sv 2) (sv 0)) af))))))))) (ak (ar dZ)) aF)
   (ak (ar (eV (mY rfl) B.Gz m5 (aa (bM (N':=["term","params"]) (caps:=[none,some 3]) (aE (by ac_nf)) rfl (bO (sv 1)) (fun _ _ _ _ _=>(sgn 0 (by show(["term","params"]:List Str).Nodup;decide+kernel))) (fun _ _ _ _ _=>br) (fun _ _ _ _ _=>(bG d3 hr (aa (sv 0) (aa (sv 1) af))))) af))))))
theorem Aw(F:fX K "is_lock" "is_lock" o8 f fd)(B:Bs P w K mg)(d1:dO P w K mg base)(d3:lx P w K mg base):bB P w K mg base fE 3 f fd pL (fY K 3 je):=
 (aT F mj fun cdv A outer s H E hr=>by(conv=>arg 2;whnf);with_reducible exact(ah (aX (bX (bN (bG d1 hr (aa (sv 0) (aa aj af))))) (ak (ar dZ)) aF)
   (ah (fI (sv 0) (cE rfl (ax (sgn 3 mj.nd) (ax (sgn 4 mj.nd) bQ))))
   (ak (ar (fK (eV di B.wa aG (aa (sv 3) (aa (vi B.IE p7) af))) (fK (dw (yM hr.units) (sv 3) (sv 1) (by ac_nf)) (fZ (bG d3 hr (aa (sv 4) (aa (sv 2) af)))))))))))
theorem xi(F:fX K "are_locks" "are_locks" j4 f fd)(B:Bs P w K mg)(d4:qf P w K mg base):bB P w K mg base fE 4 f fd ko (fY K 3 iE):=
 (aT F wJ fun cdv A outer s H E hr=>by(conv=>arg 2;whnf);with_reducible exact(ah (aX (SW.st (fy (bX (bN (eV di B.wa aG (aa (sv 0) (aa (vi B.b1 a8) af))))) (dX (bX (sf qq qq (gB B.rq (by unfold Gl;ac_nf)) (eV cb B.b5 cc (aa (sv 0) af)) (gB B.vd (by unfold Gl;ac_nf))))))) (ak (ar dZ)) aF)
   (ak (ar (fK (eV (mY rfl) B.Gz m5 (aa (bM (N':=["lock","names","params"]) (caps:=[none,some 1,some 2]) (aE (by ac_nf)) rfl (bO (sv 0)) (fun _ _ _ _ _=>(sgn 0 (by show(["lock","names","params"]:List Str).Nodup;decide+kernel))) (fun _ _ _ _ _=>br) (fun _ _ _ _ _=>(bG d4 hr (aa (sv 0) (aa (sv 1) (aa (sv 2) af)))))) af)) (fZ (dw (bh hr.units) (vm rfl hr.units (by unfold Gl;ac_nf) B.b5 (by unfold Gl;ac_nf) B.Mg (sv 0)) (eV cb B.b5 cc (aa (sv 0) af)) (aA _))))))))
theorem nM(F:fX K "is_right_ahead" "is_right_ahead" f6 f fd)(B:Bs P w K mg)(d2:lu P w K mg base)(d10:wj P w K mg base)(d9:qI P w K mg base)(d4:qf P w K mg base)(d3:lx P w K mg base):bB P w K mg base fE 5 f fd f7 (fY K 4 eR):=
 (aT F ir fun cdv A outer s H E hr=>by(conv=>arg 2;whnf);with_reducible exact(ah (sset 4 ir.nd (six hr (sv 0) aj))
   (ah (aX (aH (bh hr.units) (sv 4) av (aA _)) (ak (ar (bG d2 hr (aa (six hr (sv 0) aj) af)))) aF)
   (ah (aX (aH (bh hr.units) (sv 4) av (aA _)) (ak (ar (bG d10 hr (aa (six hr (sv 0) aj) (aa (six hr (sv 0) aj) (aa (sv 2) (aa (sv 3) af))))))) aF)
   (ah (aX (aH (bh hr.units) (sv 4) av (aA _)) (ak (ar (bG d9 hr (aa (six hr (sv 0) aj) (aa (sv 1) (aa (sv 3) af)))))) aF)
   (ah (aX (aH (yM hr.units) (sv 4) (aD (aa av (aa av af)) (ag (ag aq))) (by ac_nf)) (ak (ar (bG d4 hr (aa (six hr (sv 0) aj) (aa (sv 1) (aa (sv 3) af)))))) aF)
   (ah (aX (aH (bh hr.units) (sv 4) av (aA _)) (ak (ar (fK (bG d3 hr (aa (six hr (sv 0) aj) (aa (sv 3) af))) (fZ (bG d3 hr (aa (six hr (sv 0) aj) (aa (sv 3) af))))))) aF)
   (ak (ar dZ)))))))))
theorem xg(F:fX K "is_shaped" "is_shaped" j2 f fd)(B:Bs P w K mg):bB P w K mg base fE 1 f fd kl (fY K 1 iC):=
 (aT F ji fun cdv A outer s H E hr=>by(conv=>arg 2;whnf);with_reducible exact(ah (aX (SW.st (fy (bX (bN (eV di B.wa aG (aa (sv 0) (aa (vi B.b1 a8) af))))) (dX (aH (bh hr.units) (eV cb B.b5 cc (aa (sv 0) af)) aj (aA _))))) (ak (ar dZ)) aF)
   (ah (aX (SW.st (fy (bX (bN (eV di B.wa aG (aa (six hr (sv 0) aj) (aa (vi B.IE p7) af))))) (dX (GH B.uq (six hr (sv 0) aj))))) (ak (ar dZ)) aF)
   (ah (fI (Ed B.uq (six hr (sv 0) aj)) (cE rfl (ax (sgn 1 ji.nd) (ax (sgn 2 ji.nd) bQ))))
   (ak (ar (dw (bh hr.units) (eV cb B.b5 cc (aa (sv 0) af)) (aQ aS (sv 1) (sv 2)) (aA _))))))))
theorem As(F:fX K "lots_of" "lots_of" oZ f fd)(B:Bs P w K mg):bB P w K mg base fE 1 f fd pI (fY K 1 gR):=
 (aT F zV fun cdv A outer s H E hr=>by(conv=>arg 2;whnf);with_reducible exact(ak (ar (oW (sv 0) (kY (six hr (Ed B.uq (six hr (sv 0) aj)) aj)) kZ))))
theorem nK(F:fX K "rows_left" "rows_left" jY f fd)(B:Bs P w K mg)(kf:PySem.W.keepIn K (.ref f)=true)(bf:Binds K fd gq [])(mf:mg "rows_left"=some (.ref f))(d12:jc P w K mg base)(d11:qG P w K mg base)(d5:qe P w K mg base):∀n,bB P w K mg base fE (6+n) f fd gq (fY K 6 (dr n))
 | 0=>gK
 | n+1=>by
  have d13:Df P w K mg base "rows_left" (6+n) gq 6 (dr n):=⟨f,fd,nK F B kf bf mf d12 d11 d5 n,kf,bf,mf⟩;exact(aT F fL fun cdv A outer s H E hr=>by(conv=>arg 2;whnf);with_reducible exact(ah (aX (SW.st (fy (aH lO (sv 1) (gB B.zG (by unfold Gl;ac_nf)) (aA _)) (fy (bX (bN (eV di B.wa aG (aa (sv 0) (aa (vi B.b1 a8) af))))) (dX (aH lO (eV cb B.b5 cc (aa (sv 0) af)) (gB B.vc (by unfold Gl;ac_nf)) (aA _)))))) (ak (ar gV)) aF)
   (ah (fH Rp rfl (bO (sv 0)) (sgn 6 fL.nd) (ah (aX (SW.st (fy (aH (bh hr.units) (sv 2) aj (aA _)) (fy (bX (bN (bG d11 hr (aa (sv 6) af) (QB (by decide) (QM _ _))))) (dX (bX (bN (bG d12 hr (aa (sv 6) (aa (sv 3) (aa (sv 4) (aa (sv 5) af)))) (QB (by decide) (QM _ _))))))))) (ak (ar gV)) aF)
   (ah (OD 2 fL.nd aj HU)
   (ak (fH Rp rfl (bO (bG d5 hr (aa (sv 6) af) (QB (by decide) (QM _ _)))) (sgn 7 fL.nd) (ah (sset 2 fL.nd (bG d13 hr (aa (sv 7) (aa (aQ aS (sv 1) aj) (aa (sv 2) (aa (sv 3) (aa (sv 4) (aa (sv 5) af)))))) (Qq _)))
   (ak (aX (aH sV (sv 2) gV (aA _)) (ak (ar gV)) aF))))))))
   (ak (ar (sv 2))))))
theorem uN(F:fX K "is_program" "is_program" jl f fd)(B:Bs P w K mg)(d1:dO P w K mg base)(d8:qJ P w K mg base)(d7:qH P w K mg base)(d13:qE P w K mg base):bB P w K mg base fE 15 f fd jy (fY K 1 gO):=
 (aT F cj fun cdv A outer s H E hr=>by(conv=>arg 2;whnf);with_reducible exact(ah (aX (bX (bN (bG d1 hr (aa (sv 0) (aa aj af))))) (ak (ar dZ)) aF)
   (ah (fI (sv 0) (cE rfl (ax (sgn 1 cj.nd) (ax (sgn 2 cj.nd) bQ))))
   (ah (aX (SW.st (fy (bX (bN (bG d7 hr (aa (sv 1) af)))) (dX (bX (bN (bG d8 hr (aa (sv 2) af))))))) (ak (ar dZ)) aF)
   (ah (D8 (i:=3) cj.nd (by ac_nf) (by ac_nf) (N':=["deed","params","rows"]) (caps:=[none,none,none]) (aE (by ac_nf)) rfl (bO (sv 2)) (fun _ _ _ _ _=>(cE rfl (ax (sgn 0 (by show(["deed","params","rows"]:List Str).Nodup;decide+kernel)) (ax (sgn 1 (by show(["deed","params","rows"]:List Str).Nodup;decide+kernel)) (ax (sgn 2 (by show(["deed","params","rows"]:List Str).Nodup;decide+kernel)) bQ))))) (fun _ _ _ _ _=>br) (fun _ _ _ _ _=>(sv 0)) (fun _ _ _ _ _=>(eV cb B.b5 cc (aa (sv 1) af))))
   (ah (sset 4 cj.nd (gB B.zF (by unfold Gl;ac_nf)))
   (ah (fH Rp rfl (bO (sv 2)) (cE rfl (ax (sgn 5 cj.nd) (ax (sgn 6 cj.nd) (ax (sgn 7 cj.nd) bQ)))) (ah (sset 4 cj.nd (bG d13 hr (aa (sv 7) (aa aj (aa (sv 4) (aa (sv 1) (aa (sv 3) (aa (sv 6) af))))))))
   (ak (aX (aH sV (sv 4) gV (aA _)) (ak (ar dZ)) aF))))
   (ak (ar dZ)))))))))
theorem qr(F:fX K "paths_in" "paths_in" mm f fd)(B:Bs P w K mg)(kf:PySem.W.keepIn K (.ref f)=true)(bf:Binds K fd g8 [])(mf:mg "paths_in"=some (.ref f))(d5:qe P w K mg base):∀n,bB P w K mg base fE (2+n) f fd g8 (fY K 2 (eD n))
 | 0=>gK
 | n+1=>by
  have d15:Df P w K mg base "paths_in" (2+n) g8 2 (eD n):=⟨f,fd,qr F B kf bf mf d5 n,kf,bf,mf⟩;exact fS (aT F ej fun cdv A outer s H E hr=>by(conv=>arg 2;whnf);with_reducible exact(ah (sset 2 ej.nd (jR.ob (cy af aq)))
   (ah (fH Rp rfl (nv (by unfold Gl;ac_nf) B.b3 (aa (sv 0) af) (ag aq)) (cE rfl (ax (sgn 3 ej.nd) (ax (sgn 4 ej.nd) bQ))) (ah (sset 5 ej.nd (aQ aS (sv 1) (aD (aa (sv 3) af) (ag aq))))
   (ah (fg (oX (isT:=cY) gA Q2 Rt Rz fz (sv 2) (aa (aD (aa (sv 5) (aa (sv 4) af)) (ag (ag aq))) af)))
   (ak (fH Rp rfl (nv (by unfold Gl;ac_nf) B.b3 (aa (bG d5 hr (aa (sv 4) af) (QB (by decide) (QM _ _))) af) (ag aq)) (cE rfl (ax (sgn 6 ej.nd) (ax (sgn 7 ej.nd) bQ))) (ak (fg (oX (isT:=cY) gA Q2 SF Ub vG (sv 2) (aa (bG d15 hr (aa (sv 7) (aa (aQ aS (sv 5) (aD (aa (sv 6) af) (ag aq))) af)) (Qq _)) af)))))))))
   (ak (ar (sv 2))))))
theorem xf(F:fX K "places_of" "places_of" jZ f fd)(B:Bs P w K mg)(d15:ug P w K mg base):bB P w K mg base fE 13 f fd kj (fY K 1 gx):=
 fS (aT F eN fun cdv A outer s H E hr=>by(conv=>arg 2;whnf);with_reducible exact(ah (sset 1 eN.nd (jR.ob (cy af aq)))
   (ah (fH Rp rfl (nv (by unfold Gl;ac_nf) B.b3 (aa (six hr (sv 0) aj) af) (ag aq)) (cE rfl (ax (sgn 2 eN.nd) (ax (cE rfl (ax (sgn 3 eN.nd) (ax (sgn 4 eN.nd) (ax (sgn 5 eN.nd) bQ)))) bQ))) (ak (fg (oX (isT:=cY) gA Q2 SF Ub vG (sv 1) (aa (bM (N':=["path","row","deed"]) (caps:=[none,none,some 2]) (aE (by ac_nf)) rfl (bO (bG d15 hr (aa (sv 5) (aa (aD af aq) af)))) (fun _ _ _ _ _=>(cE rfl (ax (sgn 0 (by show(["path","row","deed"]:List Str).Nodup;decide+kernel)) (ax (sgn 1 (by show(["path","row","deed"]:List Str).Nodup;decide+kernel)) bQ)))) (fun _ _ _ _ _=>br) (fun _ _ _ _ _=>(aD (aa (sv 2) (aa (sv 0) (aa (sv 1) af))) (ag (ag (ag aq)))))) af)))))
   (ak (ar (sv 1))))))
theorem Ar(F:fX K "rows_of" "rows_of" oY f fd)(B:Bs P w K mg)(d16:qF P w K mg base):bB P w K mg base fE 14 f fd pH (fY K 1 eQ):=
 (aT F zU fun cdv A outer s H E hr=>by(conv=>arg 2;whnf);with_reducible exact(ak (ar (so bK B.b1 a8 (aa (bM (N':=["deed","path","row"]) (caps:=[none,none,none]) (aE (by ac_nf)) rfl (bO (bG d16 hr (aa (sv 0) af))) (fun _ _ _ _ _=>(cE rfl (ax (sgn 0 (by show(["deed","path","row"]:List Str).Nodup;decide+kernel)) (ax (sgn 1 (by show(["deed","path","row"]:List Str).Nodup;decide+kernel)) (ax (sgn 2 (by show(["deed","path","row"]:List Str).Nodup;decide+kernel)) bQ))))) (fun _ _ _ _ _=>br) (fun _ _ _ _ _=>(aD (aa (sv 0) (aa (sv 2) af)) (ag (ag aq))))) af)))))
theorem nN(F:fX K "_law_same" "_law_same" j7 f fd)(B:Bs P w K mg)(kf:PySem.W.keepIn K (.ref f)=true)(bf:Binds K fd gr [])(mf:mg "_law_same"=some (.ref f)):∀n,bB P w K mg base fE (1+n) f fd gr (fY K 2 (cT n))
 | 0=>gK
 | n+1=>by
  have d38:Df P w K mg base "_law_same" (1+n) gr 2 (cT n):=⟨f,fd,nN F B kf bf mf  n,kf,bf,mf⟩;exact(aT F wL fun cdv A outer s H E hr=>by(conv=>arg 2;whnf);with_reducible exact(ah (aX (bN (eV di B.wa aG (aa (sv 1) (aa (vi B.b1 a8) af)))) (ah (aX (SW.st (fy (bX (bN (eV di B.wa aG (aa (sv 0) (aa (vi B.b1 a8) af))))) (dX (aH (sU hr.units) (eV cb B.b5 cc (aa (sv 0) af)) (eV cb B.b5 cc (aa (sv 1) af)) (aA _))))) (ak (ar dZ)) aF)
   (ak (ar (eV (mY rfl) B.Gz m5 (aa (bM (N':=["_law_a","_law_b"]) (caps:=[none,none]) (aE (by ac_nf)) rfl (JP (by unfold Gl;ac_nf) B.Qg (aa (sv 0) (aa (sv 1) af)) (ag (ag aq))) (fun _ _ _ _ _=>(cE rfl (ax (sgn 0 (by show(["_law_a","_law_b"]:List Str).Nodup;decide+kernel)) (ax (sgn 1 (by show(["_law_a","_law_b"]:List Str).Nodup;decide+kernel)) bQ)))) (fun _ _ _ _ _=>br) (fun _ _ _ _ _=>(bG d38 hr (aa (sv 0) (aa (sv 1) af)) (Qq _)))) af))))) aF)
   (ah (aX (aH sV (sv 1) gV (aA _)) (ak (ar (dw sV (sv 0) gV (aA _)))) aF)
   (ah (aX (bN (eV di B.wa aG (aa (sv 1) (aa (vi B.IE p7) af)))) (ak (ar (fK (eV di B.wa aG (aa (sv 0) (aa (vi B.IE p7) af))) (fZ (dw (bh hr.units) (sv 0) (sv 1) (aA _)))))) aF)
   (ah (aX (bN (eV di B.wa aG (aa (sv 1) (aa (vi B.LW rT) af)))) (ak (ar (fK (eV di B.wa aG (aa (sv 0) (aa (vi B.LW rT) af))) (fZ (dw (bh hr.units) (sv 0) (sv 1) (aA _)))))) aF)
   (ak (ar (fK (eV di B.wa aG (aa (sv 0) (aa (vi B.b8 ua) af))) (fK (Ee (eV di B.wa aG (aa (sv 0) (aa (vi B.LW rT) af)))) (fZ (dw (bh hr.units) (sv 0) (sv 1) (aA _))))))))))))
theorem qY(F:fX K "deed_numbers" "deed_numbers" gX f fd)(B:Bs P w K mg):bB P w K mg base fE 1 f fd g9 (fY K 1 eF):=
 (aT F qP fun cdv A outer s H E hr=>by(conv=>arg 2;whnf);with_reducible exact(ak (ar (Eg (N':=["number","deed"]) (caps:=[none,none]) (aE (by ac_nf)) rfl (nv (by unfold Gl;ac_nf) B.b3 (aa (six hr (sv 0) aj) af) (ag aq)) (fun _ _ _ _ _=>(cE rfl (ax (sgn 0 (by show(["number","deed"]:List Str).Nodup;decide+kernel)) (ax (sgn 1 (by show(["number","deed"]:List Str).Nodup;decide+kernel)) bQ)))) (fun _ _ _ _ _=>br) (fun _ _ _ _ _=>(six hr (sv 1) aj)) (fun _ _ _ _ _=>(sv 0))))))
theorem yR(F:fX K "calls_in" "calls_in" mw f fd)(B:Bs P w K mg)(d18:kP P w K mg base):bB P w K mg base fE 2 f fd mM (fY K 2 jJ):=
 fS (aT F gp fun cdv A outer s H E hr=>by(conv=>arg 2;whnf);with_reducible exact(ah (sset 2 gp.nd (bG d18 hr (aa (sv 0) af)))
   (ah (jh (i:=3) gp.nd (by ac_nf) (by ac_nf) (N':=["deed"]) (caps:=[none]) (aE (by ac_nf)) rfl (bO (six hr (sv 0) aj)) (fun _ _ _ _ _=>(sgn 0 (by show(["deed"]:List Str).Nodup;decide+kernel))) (fun _ _ _ _ _=>br) (fun _ _ _ _ _=>(jR.ob (cy af aq))))
   (ah (fH Rp rfl (bO (sv 1)) (cE rfl (ax (sgn 4 gp.nd) (ax (sgn 5 gp.nd) bQ))) (ak (aX (aH (bh hr.units) (six hr (sv 5) aj) av (aA _)) (ak (fg (oX (isT:=cY) gA Q2 Rt Rz fz (six hr (sv 3) (sv 4)) (aa (six hr (sv 2) (six hr (sv 5) aj)) af)))) aF)))
   (ak (ar (so bK B.b1 a8 (aa (bM (N':=["some"]) (caps:=[none]) (aE (by ac_nf)) rfl (bO (sv 3)) (fun _ _ _ _ _=>(sgn 0 (by show(["some"]:List Str).Nodup;decide+kernel))) (fun _ _ _ _ _=>br) (fun _ _ _ _ _=>(so bK B.b1 a8 (aa (zT rfl (by unfold Gl;ac_nf) B.b4 (by unfold Gl;ac_nf) B.Mg (sv 0)) af)))) af))))))))
theorem yQ(F:fX K "calls_of" "calls_of" mr f fd)(B:Bs P w K mg)(d19:um P w K mg base)(d17:qc P w K mg base):bB P w K mg base fE 15 f fd mL (fY K 1 dC):=
 (aT F yo fun cdv A outer s H E hr=>by(conv=>arg 2;whnf);with_reducible exact(ak (ar (bG d19 hr (aa (sv 0) (aa (bG d17 hr (aa (sv 0) af)) af))))))
theorem Ay(F:fX K "come_to" "come_to" pb f fd)(B:Bs P w K mg):bB P w K mg base fE 1 f fd pN (fY K 2 gU):=
 fS (aT F jj fun cdv A outer s H E hr=>by(conv=>arg 2;whnf);with_reducible exact(ah (sset 2 jj.nd (jR.ob (cy af aq)))
   (ah (sset 3 jj.nd (jR.ob (wH (by unfold Gl;ac_nf) B.b2 rR (aa (six hr (sv 0) (sv 1)) af) (ag aq))))
   (ah (D7 (n:=1000000) Rp (bN (sv 3)) (ah (sset 4 jj.nd (MQ (isT:=cY) gA Q2 PySem.F.slot_list_pop PySem.F.type_list_pop La (sv 3)))
   (ak (aX (aH (sT hr.units) (sv 4) (sv 2) (by ac_nf)) (ah (fg (oX (isT:=cY) gA Q2 Rt Rz fz (sv 2) (aa (sv 4) af)))
   (ak (fg (oX (isT:=cY) gA Q2 SF Ub AH (sv 3) (aa (six hr (sv 0) (sv 4)) af))))) aF))))
   (ak (ar (sv 2)))))))
theorem mN(F:fX K "comes_to_itself" "comes_to_itself" fN f fd)(B:Bs P w K mg)(d20:m7 P w K mg base)(d21:wk P w K mg base):bB P w K mg base fE 16 f fd fP (fY K 1 cv):=
 (aT F gW fun cdv A outer s H E hr=>by(conv=>arg 2;whnf);with_reducible exact(ah (sset 1 gW.nd (bG d20 hr (aa (sv 0) af)))
   (ak (ar (eV (LL rfl) B.Qf LU (aa (bM (N':=["deed","calls"]) (caps:=[none,some 1]) (aE (by ac_nf)) rfl (eJ (by unfold Gl;ac_nf) B.b0 (aa (eV cb B.b5 cc (aa (sv 1) af)) af) (hl:=(ag aq))) (fun _ _ _ _ _=>(sgn 0 (by show(["deed","calls"]:List Str).Nodup;decide+kernel))) (fun _ _ _ _ _=>br) (fun _ _ _ _ _=>(dw (yM hr.units) (sv 0) (bG d21 hr (aa (sv 1) (aa (sv 0) af))) (by ac_nf)))) af))))))
theorem K7(F:fX K "law" "law" qk f fd)(B:Bs P w K mg)(d23:oB P w K mg base)(d37:kQ P w K mg base)(d26:fB P w K mg base)(d25:cR P w K mg base)(d44:iB P w K mg base)(d14:oy P w K mg base)(d17:qc P w K mg base)(d42:lV P w K mg base)(d38:qK P w K mg base)(d20:m7 P w K mg base)(d22:iz P w K mg base):bB P w K mg base fE 28 f fd Je (fY K 1 Cg):=
 (aT F md fun cdv A outer s H E hr=>by(conv=>arg 2;whnf);with_reducible exact(ah (sset 1 md.nd (bG d23 hr (aa (sv 0) af)))
   (ah (fH Rp rfl (eJ (by unfold Gl;ac_nf) B.b0 (aa aj af) (hl:=(ag aq))) (sgn 2 md.nd) (ah (sset 3 md.nd (bG d37 hr (aa (sv 1) (aa (bG d26 hr (aa (sv 1) (aa (eL 9 (by ac_nf)) af))) (aa (bG d26 hr (aa (sv 1) (aa (eL 9 (by ac_nf)) af))) af)))))
   (ah (sset 4 md.nd (aD (aa (bG d26 hr (aa (sv 1) (aa (eL 9 (by ac_nf)) af))) (aa (bG d25 hr (aa (sv 1) (aa aj af))) af)) (ag (ag aq))))
   (ah (sset 5 md.nd (bG d44 hr (aa (sv 4) (aa (sv 3) af))))
   (ah (aX (aH Hx (bG d14 hr (aa (sv 5) af)) dZ (aA _)) (ak (ar dZ)) aF)
   (ah (sset 6 md.nd (so bK B.b1 a8 (aa (bM (N':=["_law_deed","_law_row_here","_law_cipher"]) (caps:=[none,none,some 4]) (aE (by ac_nf)) rfl (bO (bG d17 hr (aa (sv 3) af))) (fun _ _ _ _ _=>(cE rfl (ax (sgn 0 (by show(["_law_deed","_law_row_here","_law_cipher"]:List Str).Nodup;decide+kernel)) (ax (sgn 1 (by show(["_law_deed","_law_row_here","_law_cipher"]:List Str).Nodup;decide+kernel)) bQ)))) (fun _ _ _ _ _=>br) (fun _ _ _ _ _=>(aD (aa (sv 0) (aa (bG d42 hr (aa (sv 2) (aa (sv 1) af))) af)) (ag (ag aq))))) af)))
   (ah (aX (SW.st (fy (bX (bN (bG d38 hr (aa (bG d17 hr (aa (sv 5) af)) (aa (sv 6) af))))) (dX (bX (bN (bG d38 hr (aa (bG d20 hr (aa (sv 5) af)) (aa (bG d20 hr (aa (sv 3) af)) af)))))))) (ak (ar dZ)) aF)
   (ak (aX (aH (sU hr.units) (bG d22 hr (aa (sv 5) af)) (bG d22 hr (aa (sv 3) af)) (aA _)) (ak (ar dZ)) aF)))))))))
   (ak (ar dZ)))))
end
theorem gv:Hd.freeOk view (["SHAPES"]:List Str) ["abs","all","any","bool","enumerate","int","isinstance","len","list","max","min","range","set","sorted","str","tuple","zip"]=true:=by decide+kernel
abbrev Rc(x:Str)(s:Stmt):Prop:=(recsOf view).find? (fun e=>e.name==x)=some (Hd.vp x s)
theorem sI:Rc "_law_drawn" jo:=by ac_nf
theorem uL:Rc "_law_load" kc:=by ac_nf
theorem uJ:Rc "_law_next" j8:=by ac_nf
theorem yB:Rc "_law_of" pf:=by ac_nf
theorem sH:Rc "_law_words" jn:=by ac_nf
theorem sG:Rc "_law_world" jm:=by ac_nf
theorem qW:Rc "_law_is_odd" iL:=by ac_nf
theorem uH:Rc "_law_term" j6:=by ac_nf
theorem uM:Rc "_law_call" kd:=by ac_nf
theorem uK:Rc "_law_lock" j9:=by ac_nf
theorem wW:Rc "_law_lot" my:=by ac_nf
theorem wV:Rc "_law_row" mx:=by ac_nf
theorem qV:Rc "_law_locked" iK:=by ac_nf
theorem nC:Rc "_law_two_ways" gC:=by ac_nf
theorem pD:Rc "_law_program" gZ:=by ac_nf
theorem yC:Rc "_law_by" ph:=by ac_nf
theorem pC:Rc "_law_term_so" gY:=by ac_nf
theorem pE:Rc "_law_lock_so" g0:=by ac_nf
theorem qT:Rc "_law_row_so" iI:=by ac_nf
theorem qU:Rc "_law_lot_so" iJ:=by ac_nf
theorem lF:Rc "_law_program_so" fO:=by ac_nf
theorem qS:Rc "is_tuple_of" iH:=by ac_nf
theorem yu:Rc "is_word" o6:=by ac_nf
theorem kg:Rc "are_unlike_words" ft:=by ac_nf
theorem uG:Rc "are_heads" j5:=by ac_nf
theorem uE:Rc "are_names" j3:=by ac_nf
theorem wQ:Rc "is_whole" mn:=by ac_nf
theorem yw:Rc "is_term" o7:=by ac_nf
theorem yz:Rc "is_call" o9:=by ac_nf
theorem yx:Rc "is_lock" o8:=by ac_nf
theorem uF:Rc "are_locks" j4:=by ac_nf
theorem mF:Rc "is_right_ahead" f6:=by ac_nf
theorem uD:Rc "is_shaped" j2:=by ac_nf
theorem yt:Rc "lots_of" oZ:=by ac_nf
theorem uB:Rc "rows_left" jY:=by ac_nf
theorem sF:Rc "is_program" jl:=by ac_nf
theorem wO:Rc "paths_in" mm:=by ac_nf
theorem uC:Rc "places_of" jZ:=by ac_nf
theorem yr:Rc "rows_of" oY:=by ac_nf
theorem uI:Rc "_law_same" j7:=by ac_nf
theorem pB:Rc "deed_numbers" gX:=by ac_nf
theorem wU:Rc "calls_in" mw:=by ac_nf
theorem wR:Rc "calls_of" mr:=by ac_nf
theorem yA:Rc "come_to" pb:=by ac_nf
theorem lE:Rc "comes_to_itself" fN:=by ac_nf
theorem GV:Rc "law" qk:=by ac_nf
theorem all_mk{l:PySem.W.OpenLaw}{w:World}{h:Heap}{mg mb:Str->Option Value}{mean:ExcName->Option Value}(T:Top view (PySem.W.looseW view (["SHAPES"]:List Str)) mean mg mb h)
  (Y_SHAPES:Hd.tabAt h "SHAPES"=some (gQ.map fun x=>(x.1,hashStr w x.1,x.2)))
  (hF:∀ns:List Int,ns.length≤63->∃h',Cg [.ro (ns.map D.int)] []=some (.bl true,h')):
  ∃(fa:Addr)(fd:FuncData),mg "law"=some (.ref fa)∧(∀(s:Shared)(v:Value),BindsTo s fd ⟨[v],[]⟩ [("_law_script",v)])∧∀base:Heap,(Hd.bx h).In base->base.Ns mainGlobals mg->bB l.prog w (Hd.bx h) mg base fE 28 fa fd ["_law_script"] (spT (Hd.bx h)):=by
 have B:Bs l.prog w (Hd.bx h) mg:=⟨Hd.cQ T gv (Qn (i:=0) rfl),Hd.cQ T gv (Qn (i:=1) rfl),Hd.cQ T gv (Qn (i:=2) rfl),Hd.cQ T gv (Qn (i:=3) rfl),Hd.cQ T gv (Qn (i:=4) rfl),Hd.cQ T gv (Qn (i:=5) rfl),Hd.cQ T gv (Qn (i:=6) rfl),Hd.cQ T gv (Qn (i:=7) rfl),Hd.cQ T gv (Qn (i:=8) rfl),Hd.cQ T gv (Qn (i:=9) rfl),Hd.cQ T gv (Qn (i:=10) rfl),Hd.cQ T gv (Qn (i:=11) rfl),Hd.cQ T gv (Qn (i:=12) rfl),Hd.cQ T gv (Qn (i:=13) rfl),Hd.cQ T gv (Qn (i:=14) rfl),Hd.cQ T gv (Qn (i:=15) rfl),Hd.cQ T gv (Qn (i:=16) rfl),Hd.gn T (by ac_nf),Hd.gn T (by ac_nf),Hd.gn T (by ac_nf),Hd.gn T (by ac_nf),Hd.Io T (by ac_nf) (by decide+kernel),Hd.gn T (by ac_nf),Hd.gn T (by ac_nf),Hd.gn T (by ac_nf),Hd.gn T (by ac_nf),Hd.gn T (by ac_nf),Hd.gn T (by ac_nf),Hd.tab_of Y_SHAPES T.g (by decide+kernel)⟩;obtain⟨f11,fd11,m11,F11⟩:=Hd.qy T wW;have k11:=F11.kp;have Gz:=F11.binds (ps:=gb) fun _ _ _ _ _ _=>Hd.u7 (fun _ _ _ _ _ _ _=>rfl);obtain⟨f12,fd12,m12,F12⟩:=Hd.qy T wV;have k12:=F12.kp;have Mg:=F12.binds (ps:=f9) fun _ _ _ _ _ _=>Hd.u6 (fun _ _ _ _ _ _=>rfl);obtain⟨f13,fd13,m13,F13⟩:=Hd.qy T qV;have k13:=F13.kp;have IE:=F13.binds (ps:=dN) fun _ _ _ _ _ _=>Hd.u7 (fun _ _ _ _ _ _ _=>rfl);obtain⟨f14,fd14,m14,F14⟩:=Hd.qy T nC;have k14:=F14.kp;have LW:=F14.binds (ps:=cJ) fun _ _ _ _ _ _=>Hd.u6 (fun _ _ _ _ _ _=>rfl);obtain⟨f19,fd19,m19,F19⟩:=Hd.qy T qT;have k19:=F19.kp;have b19:=F19.binds (ps:=dJ) fun _ _ _ _ _ _=>Hd.u2 (fun _ _=>rfl);obtain⟨f20,fd20,m20,F20⟩:=Hd.qy T qU;have k20:=F20.kp;have b20:=F20.binds (ps:=dM) fun _ _ _ _ _ _=>Hd.u2 (fun _ _=>rfl);obtain⟨f46,fd46,m46,F46⟩:=Hd.qy T GV;refine⟨f46,fd46,m46,F46.one fun _ _ _ _ _ _ _=>rfl,fun base _ _=>?_⟩;have d23:oB l.prog w (Hd.bx h) mg base:=Hd.bR T sI (fun F=>F.binds fun _ _ _ _ _ _=>Hd.u1 (fun _=>rfl)) fun F _ _ _=>uQ F B;have d24:qM l.prog w (Hd.bx h) mg base:=Hd.bR T uL (fun F=>F.binds fun _ _ _ _ _ _=>Hd.u1 (fun _=>rfl)) fun F _ _ _=>xn F B;have d25:cR l.prog w (Hd.bx h) mg base:=Hd.bR T uJ (fun F=>F.binds fun _ _ _ _ _ _=>Hd.u2 (fun _ _=>rfl)) fun F _ _ _=>xl F B d24;have d26:fB l.prog w (Hd.bx h) mg base:=Hd.bR T yB (fun F=>F.binds fun _ _ _ _ _ _=>Hd.u2 (fun _ _=>rfl)) fun F _ _ _=>Az F B d25;have d27:oA l.prog w (Hd.bx h) mg base:=Hd.bR T sH (fun F=>F.binds fun _ _ _ _ _ _=>Hd.u2 (fun _ _=>rfl)) fun F _ _ _=>uP F B d26 d25;have d28:oz l.prog w (Hd.bx h) mg base:=Hd.bR T sG (fun F=>F.binds fun _ _ _ _ _ _=>Hd.u3 (fun _ _ _=>rfl)) fun F _ _ _=>uO F B d27 d26 d25;have d29:iR l.prog w (Hd.bx h) mg base:=Hd.bR T qW (fun F=>F.binds fun _ _ _ _ _ _=>Hd.u2 (fun _ _=>rfl)) fun F _ _ _=>sX F B d25;have d30:iA l.prog w (Hd.bx h) mg base:=Hd.bR T uH (fun F=>F.binds fun _ _ _ _ _ _=>Hd.u2 (fun _ _=>rfl)) fun F _ _ _=>xk F B d25 d26;have d32:qN l.prog w (Hd.bx h) mg base:=Hd.bR T uM (fun F=>F.binds fun _ _ _ _ _ _=>Hd.u4 (fun _ _ _ _=>rfl)) fun F _ _ _=>xo F B d29 d26 d30;have d31:qL l.prog w (Hd.bx h) mg base:=Hd.bR T uK (fun F=>F.binds fun _ _ _ _ _ _=>Hd.u5 (fun _ _ _ _ _=>rfl)) fun F _ _ _=>xm F B d25 d29 d30;have okr:=BL (P:=l.prog) (w:=w) (base:=base) F11 k11 Gz m11 F12 k12 Mg m12 F13 k13 IE m13 F14 k14 LW m14 B d25 d26 d32 d30 d31 20;have d36:uo l.prog w (Hd.bx h) mg base:=⟨f11,_,okr.1,k11,Gz,m11⟩;have d35:Bv l.prog w (Hd.bx h) mg base:=⟨f12,_,okr.2.1,k12,Mg,m12⟩;have d34:uZ l.prog w (Hd.bx h) mg base:=⟨f13,_,okr.2.2.1,k13,IE,m13⟩;have d33:rp l.prog w (Hd.bx h) mg base:=⟨f14,_,okr.2.2.2,k14,LW,m14⟩;have d37:kQ l.prog w (Hd.bx h) mg base:=Hd.bR T pD (fun F=>F.binds fun _ _ _ _ _ _=>Hd.u3 (fun _ _ _=>rfl)) fun F _ _ _=>q0 F B d28 d36 d26;have d39:jd l.prog w (Hd.bx h) mg base:=Hd.bR T yC (fun F=>F.binds fun _ _ _ _ _ _=>Hd.u2 (fun _ _=>rfl)) fun F _ _ _=>AA F B;have d40:ic l.prog w (Hd.bx h) mg base:=Hd.bR T pC (fun F=>F.binds fun _ _ _ _ _ _=>Hd.u2 (fun _ _=>rfl)) fun F _ _ _=>qZ F B d39;have d41:kR l.prog w (Hd.bx h) mg base:=Hd.bR T pE (fun F=>F.binds fun _ _ _ _ _ _=>Hd.u2 (fun _ _=>rfl)) fun F _ _ _=>q9 F B d40 d39;have okr1:=yO (P:=l.prog) (w:=w) (base:=base) F19 k19 b19 m19 F20 k20 b20 m20 B d39 d40 d41 20;have d42:lV l.prog w (Hd.bx h) mg base:=⟨f19,_,okr1.1,k19,b19,m19⟩;have d43:lW l.prog w (Hd.bx h) mg base:=⟨f20,_,okr1.2,k20,b20,m20⟩;have d44:iB l.prog w (Hd.bx h) mg base:=Hd.bR T lF (fun F=>F.binds fun _ _ _ _ _ _=>Hd.u2 (fun _ _=>rfl)) fun F _ _ _=>mO F B d39 d43;have d1:dO l.prog w (Hd.bx h) mg base:=Hd.bR T qS (fun F=>F.binds fun _ _ _ _ _ _=>Hd.u2 (fun _ _=>rfl)) fun F _ _ _=>sW F B;have d2:lu l.prog w (Hd.bx h) mg base:=Hd.bR T yu (fun F=>F.binds fun _ _ _ _ _ _=>Hd.u1 (fun _=>rfl)) fun F _ _ _=>Au F B;have d6:fx l.prog w (Hd.bx h) mg base:=Hd.bR T kg (fun F=>F.binds fun _ _ _ _ _ _=>Hd.u3 (fun _ _ _=>rfl)) fun F _ _ _=>lG F B d2;have d8:qJ l.prog w (Hd.bx h) mg base:=Hd.bR T uG (fun F=>F.binds fun _ _ _ _ _ _=>Hd.u1 (fun _=>rfl)) fun F _ _ _=>xj F B d1 d6;have d7:qH l.prog w (Hd.bx h) mg base:=Hd.bR T uE (fun F=>F.binds fun _ _ _ _ _ _=>Hd.u1 (fun _=>rfl)) fun F _ _ _=>xh F B d6;have d0:uh l.prog w (Hd.bx h) mg base:=Hd.bR T wQ (fun F=>F.binds fun _ _ _ _ _ _=>Hd.u1 (fun _=>rfl)) fun F _ _ _=>yP F B;have d3:lx l.prog w (Hd.bx h) mg base:=Hd.bR T yw (fun F=>F.binds fun _ _ _ _ _ _=>Hd.u2 (fun _ _=>rfl)) fun F _ _ _=>Av F B d1 d0;have d10:wj l.prog w (Hd.bx h) mg base:=Hd.bR T yz (fun F=>F.binds fun _ _ _ _ _ _=>Hd.u4 (fun _ _ _ _=>rfl)) fun F _ _ _=>Ax F B d1 d2 d3;have d4:qf l.prog w (Hd.bx h) mg base:=Hd.bR T yx (fun F=>F.binds fun _ _ _ _ _ _=>Hd.u3 (fun _ _ _=>rfl)) fun F _ _ _=>Aw F B d1 d3;have d9:qI l.prog w (Hd.bx h) mg base:=Hd.bR T uF (fun F=>F.binds fun _ _ _ _ _ _=>Hd.u3 (fun _ _ _=>rfl)) fun F _ _ _=>xi F B d4;have d12:jc l.prog w (Hd.bx h) mg base:=Hd.bR T mF (fun F=>F.binds fun _ _ _ _ _ _=>Hd.u4 (fun _ _ _ _=>rfl)) fun F _ _ _=>nM F B d2 d10 d9 d4 d3;have d11:qG l.prog w (Hd.bx h) mg base:=Hd.bR T uD (fun F=>F.binds fun _ _ _ _ _ _=>Hd.u1 (fun _=>rfl)) fun F _ _ _=>xg F B;have d5:qe l.prog w (Hd.bx h) mg base:=Hd.bR T yt (fun F=>F.binds fun _ _ _ _ _ _=>Hd.u1 (fun _=>rfl)) fun F _ _ _=>As F B;have d13:qE l.prog w (Hd.bx h) mg base:=Hd.bR T uB (fun F=>F.binds fun _ _ _ _ _ _=>Hd.u6 (fun _ _ _ _ _ _=>rfl)) fun F k b m=>nK F B k b m d12 d11 d5 8;have d14:oy l.prog w (Hd.bx h) mg base:=Hd.bR T sF (fun F=>F.binds fun _ _ _ _ _ _=>Hd.u1 (fun _=>rfl)) fun F _ _ _=>uN F B d1 d8 d7 d13;have d15:ug l.prog w (Hd.bx h) mg base:=Hd.bR T wO (fun F=>F.binds fun _ _ _ _ _ _=>Hd.u2 (fun _ _=>rfl)) fun F k b m=>qr F B k b m d5 10;have d16:qF l.prog w (Hd.bx h) mg base:=Hd.bR T uC (fun F=>F.binds fun _ _ _ _ _ _=>Hd.u1 (fun _=>rfl)) fun F _ _ _=>xf F B d15;have d17:qc l.prog w (Hd.bx h) mg base:=Hd.bR T yr (fun F=>F.binds fun _ _ _ _ _ _=>Hd.u1 (fun _=>rfl)) fun F _ _ _=>Ar F B d16;have d38:qK l.prog w (Hd.bx h) mg base:=Hd.bR T uI (fun F=>F.binds fun _ _ _ _ _ _=>Hd.u2 (fun _ _=>rfl)) fun F k b m=>nN F B k b m  20;have d18:kP l.prog w (Hd.bx h) mg base:=Hd.bR T pB (fun F=>F.binds fun _ _ _ _ _ _=>Hd.u1 (fun _=>rfl)) fun F _ _ _=>qY F B;have d19:um l.prog w (Hd.bx h) mg base:=Hd.bR T wU (fun F=>F.binds fun _ _ _ _ _ _=>Hd.u2 (fun _ _=>rfl)) fun F _ _ _=>yR F B d18;have d20:m7 l.prog w (Hd.bx h) mg base:=Hd.bR T wR (fun F=>F.binds fun _ _ _ _ _ _=>Hd.u1 (fun _=>rfl)) fun F _ _ _=>yQ F B d19 d17;have d21:wk l.prog w (Hd.bx h) mg base:=Hd.bR T yA (fun F=>F.binds fun _ _ _ _ _ _=>Hd.u2 (fun _ _=>rfl)) fun F _ _ _=>Ay F B;have d22:iz l.prog w (Hd.bx h) mg base:=Hd.bR T lE (fun F=>F.binds fun _ _ _ _ _ _=>Hd.u1 (fun _=>rfl)) fun F _ _ _=>mN F B d20 d21;exact HM (K7 F46 B d23 d37 d26 d25 d44 d14 d17 d42 d38 d20 d22) hF
end Mi
local macro_rules | `(tactic| walk_at "o") => `(tactic| with_reducible first
 | refine Sm.kh ?_ | refine Sm.rZ ?_ | refine Sm.yE ?_ | refine Sm.M3 ?_ | refine Sm.Kh ?_ | refine Sm.lM ?_ | refine Sm.BG ?_ | refine Sm.jv ?_ | refine Sm.MY ?_ | refine Sm.Kd ?_ | refine Sm.GZ ?_
 | refine Sm.G0 ?_ | refine Sm.OG ?_ | refine Sm.P8 ?_ | refine Sm.qX ?_ | refine Sm.fv ?_ | refine Sm.nE ?_ | refine Sm.OK ?_ | refine Sm.CF ?_ | refine Sm.OJ ?_ | refine Sm.ON ?_ | refine Sm.OO ?_
 | refine Sm.w9 ?_ | refine Sm.Ae ?_ | refine Sm.pF ?_ | refine Sm.Kc ?_ | refine Sm.I9 ?_ | refine Sm.Ey ?_ | refine Sm.OI ?_ | refine Sm.MZ ?_
 | refine Sm.OH ?_ | refine Sm.MW ?_ | refine Sm.MX ?_ | refine Sm.OM ?_ | refine Sm.Kg ?_ | refine Sm.Ew ?_ | refine Sm.G1 ?_ | refine Sm.Jb ?_ | refine Sm.Ki ?_
 | refine Sm.O1 ?_ | refine Sm.O2 ?_ | refine Sm.Oj ?_ | refine Sm.Om ?_ | refine Sm.Ol ?_ | refine Sm.Nl ?_ | refine Sm.O7 ?_ | refine Sm.O8 ?_ | refine Sm.O6 ?_)
local macro_rules | `(tactic| walk_at "g") => `(tactic|(repeat(first | walk_at "o" | with_reducible refine Sm.Et ?_ | with_reducible refine Sm.Ja ?_));(try dsimp only))
local macro_rules | `(tactic| nofun) => `(tactic|(repeat(first | walk_at "o" | with_reducible refine Sm.Et ?_ | with_reducible refine Sm.Ja ?_ | with_reducible refine Sm.Mn ?_ | with_reducible refine Sm.Mp ?_ | with_reducible refine Sm.w_add ?_ | with_reducible refine Sm.w_sub ?_ | with_reducible refine Sm.w_lt ?_ | with_reducible refine Sm.Oe ?_ | with_reducible refine Sm.Og ?_ | with_reducible refine Sm.Oh ?_ | with_reducible refine Sm.Mw ?_ | with_reducible refine Sm.Mr ?_ | with_reducible refine Sm.Mv ?_ | with_reducible refine Sm.Mq ?_ | with_reducible refine Sm.Mu ?_ | with_reducible refine Sm.Mt ?_ | with_reducible refine Sm.Ms ?_ | with_reducible refine Sm.Jt ?_ | with_reducible refine Sm.Ju ?_ | with_reducible refine Sm.Ag ?_));(try dsimp only))
namespace Mi
open PySem Sm
theorem ke(hb:0 < b)(q:Q (.int (a % b),h)):Rn (pX (.int a) (.int b) h) Q:=⟨_,by unfold pX;dsimp only;rw[Qp hb],q⟩
theorem JX(hb:0 < b)(hb2:b≤10^40)(q:Q (.int (a / b),h)):Rn (Fz (.int a) (.int b) h) Q:=⟨_,by unfold Fz;dsimp only;rw[Qp ⟨hb,hb2⟩],q⟩
theorem mC(hb:nO a b=true)(q:Q (.int (a*b),h)):Rn (i6 (.int a) (.int b) h) Q:=⟨_,by show(if nO a b then _ else _)=_;rw[Qp hb],q⟩
theorem mul_r(h1:-(2^64) < b)(h2:b < 2^64):nO a b=true:=by unfold nO;simp only[SD,QJ,Rk];exact .inr ⟨h1,h2⟩
theorem E5(h1:-(2^64) < a)(h2:a < 2^64):nO a b=true:=by unfold nO;simp only[SD,QJ,Rk];exact .inl ⟨h1,h2⟩
theorem CV{h:MH}{s c:Nat}{cs:List Int}{n t:Int}(hs:h[s]?=some (.lst [.int n,.ob c,.int t]))(hc:h[c]?=some (.lst (cs.map D.int)))(ne:c≠s)(t0:0≤t)(tB:t < 2^60):
  Rn (iG [.ob s] h) fun p=>∃n',0≤n'∧p=(.cN,h.set s (.lst [.int n',.ob c,.int (t+1)])):=by
 have hl:s < h.length:=(Qo.mp hs).1;generalize hH:h.set s (.lst [.int n,.ob c,.int (t+1)])=H;have Hs:H[s]?=some (.lst [.int n,.ob c,.int (t+1)]):=by rw[←hH];exact Ry hl
 have Hc:H[c]?=some (.lst (cs.map D.int)):=by rw[←hH,Rl (RM ne)];exact hc
 have set0:∀v:Int,uU (.ob s) (.int 0) (.int v) H=some (h.set s (.lst [.int v,.ob c,.int (t+1)])):=fun v=>by
  rw[xH (p:=0) Hs rfl,←hH,List.set_set];rfl
 have e3:uU (.ob s) (.int 2) (.int (t+1)) h=some H:=by rw[xH (p:=2) hs rfl,←hH];rfl
 have e4:cZ [.ob c] H=some (.int cs.length,H):=by rw[BZ Hc,Qk]
 refine ck ?_;walk_at "g";refine rv (kK hs rfl) ?_;walk_at "g";refine rv (kK hs rfl) ?_;walk_at "g";refine rv rfl ?_;walk_at "g";refine rv e3 ?_;walk_at "g";refine rv (Dh Hc) ⟨_,rfl,fun hne=>?pos,fun hne=>?neg⟩
 case' pos=>
  have hpos:0 < cs.length:=by cases cs with | nil=>simp at hne | cons _ _=>simp
  walk_at "g";refine rv e4 (ke (by lia) ?_);obtain⟨z,hz⟩:=Gd cs (t % (cs.length:Int)) (Rv _ (by lia)) (RG _ (by lia));refine rv (kK Hc hz) ?_
 all_goals
  walk_at "g";refine rv e4 (rv rfl ⟨_,rfl,?_⟩);refine(fun mix=>⟨fun c1=>?thenA,fun _=>⟨fun z=>(nomatch z),fun _=>mix⟩⟩) ?thenB
  case thenA=>
   walk_at "g";refine rv rfl ?_;walk_at "g";refine rv rfl (rv rfl ⟨_,rfl,fun c2=>?_,fun _=>mix⟩);walk_at "g";refine rv rfl ?_;walk_at "g";refine rv (set0 _) ?_;walk_at "g";exact⟨_,by split <;> lia,rfl⟩
  case thenB=>
   walk_at "g";refine ke (by decide) ?_;walk_at "g";refine mC (E5 (by decide) (by decide)) ?_;walk_at "g";refine mC (mul_r (by lia) (by lia)) (rv rfl ?_);walk_at "g";refine rv rfl ?_;walk_at "g";refine mC (mul_r (by decide) (by decide)) ?_;walk_at "g";refine ke (by decide) ?_;walk_at "g";refine mC (E5 (Int.lt_of_lt_of_le (by decide) (Rv _ (by decide))) (Int.lt_trans (RG _ (by decide)) (by decide))) ?_;walk_at "g";refine ke (by decide) ?_;walk_at "g";refine mC (mul_r (by decide) (by decide)) ?_;walk_at "g";refine rv rfl ?_;walk_at "g";refine rv rfl ?_;walk_at "g";refine ke (by decide) ?_;walk_at "g";refine rv rfl (rv rfl ?_);walk_at "g";refine rv (set0 _) ?_;walk_at "g";exact⟨_,Int.add_nonneg (Rv _ (by decide)) (by decide),rfl⟩
structure St(s c:Nat)(cs:List Int)(R:Nat)(h:MH):Prop where
 st:∃n t:Int,h[s]?=some (.lst [.int n,.ob c,.int t])∧0≤n∧0≤t∧t+R≤2^60
 ce:h[c]?=some (.lst (cs.map D.int))
 ne:c≠s
def x9(s:Nat)(h h':MH):Prop:=h'.length=h.length∧∀k,k≠s->h'[k]?=h[k]?
theorem x9.refl(s:Nat)(h:MH):x9 s h h:=⟨rfl,fun _ _=>rfl⟩
theorem x9.trans(a:x9 s h h1)(b:x9 s h1 h2):x9 s h h2:=⟨b.1.trans a.1,fun k n=>(b.2 k n).trans (a.2 k n)⟩
theorem x9.set:x9 s h (h.set s o):=⟨Sd,fun k n=>Rl (RM n)⟩
section
variable {s c R:Nat} {cs:List Int} {h:MH}
theorem St.le(S:St s c cs R h)(hB:R'≤R):St s c cs R' h:=by
 obtain⟨n,t,e,a,b,d⟩:=S.st;exact⟨⟨n,t,e,a,b,by lia⟩,S.ce,S.ne⟩
theorem St.dn(k:Nat)(S:St s c cs (R+k) h):St s c cs R h:=S.le (QM _ _)
theorem St.set{R':Nat}{n t:Int}(S:St s c cs R h)(h1:0≤n)(h2:0≤t)(h3:t+R'≤2^60):St s c cs R' (h.set s (.lst [.int n,.ob c,.int t])):=by
 obtain⟨n0,t0,e,_⟩:=S.st;exact⟨⟨n,t,Ry (Qo.mp e).1,h1,h2,h3⟩,by rw[Rl (RM S.ne)];exact S.ce,S.ne⟩
theorem St.more(S:St s c cs R h)(g:MH):St s c cs R (h++g):=by
 obtain⟨n,t,e,r⟩:=S.st;exact⟨⟨n,t,by rw[QE (Qo.mp e).1];exact e,r⟩,by rw[QE (Qo.mp S.ce).1];exact S.ce,S.ne⟩
theorem St.off(S:St s c cs R h)(h1:k≠s)(h2:k≠c):St s c cs R (h.set k o):=by
 obtain⟨n,t,e,r⟩:=S.st;exact⟨⟨n,t,by rw[Rl h1];exact e,r⟩,by rw[Rl h2];exact S.ce,S.ne⟩
theorem St.lt(S:St s c cs R h):s < h.length∧c < h.length:=by
 obtain⟨n,t,e,r⟩:=S.st;exact⟨(Qo.mp e).1,(Qo.mp S.ce).1⟩
structure Sb(s c:Nat)(cs:List Int)(h0:MH)(R:Nat)(h:MH):Prop where
 S:St s c cs R h
 b:x9 s h0 h
theorem St.sb(S:St s c cs R h):Sb s c cs h R h:=⟨S,x9.refl _ _⟩
theorem Sb.dn(k:Nat)(A:Sb s c cs h0 (R+k) h):Sb s c cs h0 R h:=⟨A.S.dn k,A.b⟩
theorem Sb.le(A:Sb s c cs h0 R h)(hR:R'≤R):Sb s c cs h0 R' h:=⟨A.S.le hR,A.b⟩
theorem Sb.at_(A:Sb s c cs h0 R h)(e:h0[k]?=some o)(n:k≠s):h[k]?=some o:=(A.b.2 k n).trans e
variable {h0:MH}
theorem gf{m:Int}{Q:D×MH->Prop}(A:Sb s c cs h0 (R+1) h)(m0:0 < m)(m1:m≤10^40)(k:∀(r:Int)(h1:MH),0≤r->r < m->Sb s c cs h0 R h1->Q (.int r,h1)):Rn (aY [.ob s,.int m] h) Q:=by
 have S:=A.S;obtain⟨n,t,hs,n0,t0,tB⟩:=S.st;refine ck ?_;walk_at "g";refine rv (kK hs rfl) ?_;walk_at "g";refine rv rfl ⟨_,rfl,fun _=>?pos,fun _=>?neg⟩
 case' pos=>
  walk_at "g";obtain⟨p,ep,n',n0',rfl⟩:=CV hs S.ce S.ne t0 (by lia);refine rv ep ?_;have S1:St s c cs R (h.set s (.lst [.int n',.ob c,.int (t+1)])):=S.set n0' (by lia) (by lia);have b1:x9 s h (h.set s (.lst [.int n',.ob c,.int (t+1)])):=x9.set
 case' neg=>
  have S1:St s c cs R h:=S.dn 1;have b1:x9 s h h:=x9.refl s h
 all_goals
  generalize h.set s (MO.lst [D.int _,D.ob c,D.int (t+1)])=h1 at*;obtain⟨n2,t2,hs2,n02,t02,tB2⟩:=S1.st;walk_at "g";refine rv (kK hs2 rfl) ?_;walk_at "g";refine ke m0 ?_;walk_at "g";refine rv (kK hs2 rfl) ?_;walk_at "g";refine JX m0 m1 ?_;walk_at "g";refine rv (xH (p:=0) hs2 rfl) ?_;walk_at "g";exact k _ _ (Rv _ (by lia)) (RG _ m0) ⟨S1.set (Int.ediv_nonneg n02 (by lia)) t02 tB2,A.b.trans (b1.trans x9.set)⟩
theorem Iz(A:Sb s c cs h0 (R+1) h)(hd:d=.lv xs∨d=.tup xs)(l0:0 < xs.length)(l1:xs.length≤1000000)(k:∀(x:D)(h1:MH),x∈xs->Sb s c cs h0 R h1->Q (x,h1)):Rn (aV [.ob s,d] h) Q:=by
 refine ck ?_;walk_at "g";have e1:cZ [d] h=some (.int xs.length,h):=by rcases hd with rfl | rfl <;> rfl
 refine rv e1 ?_;walk_at "g";refine gf A (by lia) (by lia) fun r h' r0 r1 A1=>?_;obtain⟨v,e3,hv⟩:=Ga r0 r1;have e4:ba d (.int r) h'=some (v,h'):=by rcases hd with rfl | rfl <;> simp only[ba,fb,dq,QX,e3,QT]
 refine rv e4 ?_;walk_at "g";exact k v h' hv A1
theorem kO{is:List Int}{Q:D×MH->Prop}(P:Int->Prop)(hP:∀i∈is,P i)(A:Sb s c cs h0 (R+1) h)(k:∀(i:Int)(h1:MH),P i->i∈is->Sb s c cs h0 R h1->Q (.int i,h1))(l0:0 < is.length:=by simp)(l1:is.length≤1000:=by simp):Rn (aV [.ob s,.lv (is.map D.int)] h) Q:=
 Iz A (.inl rfl) (by rw[Qk];exact l0) (by rw[Qk];lia) fun x h1 hx A1=>by
  obtain⟨i,hi,rfl⟩:=Qz.mp hx;exact k i h1 (hP i hi) hi A1
end
theorem AY(ns:List Int)(hn:ns.length≤63)(R:Nat)(hR:R≤2^60):∃cs:List Int,fW [.ro (ns.map D.int)] []=some (.ob 1,[.lst (cs.map D.int),.lst [.int 0,.ob 0,.int 0]])∧St 1 0 cs R [.lst (cs.map D.int),.lst [.int 0,.ob 0,.int 0]]:=by
 refine⟨(ns.drop (HT.dD ns.length 0 none)).take (HT.dD ns.length ns.length (some 63)-HT.dD ns.length 0 none),?_,⟨⟨0,0,rfl,by decide,by decide,by lia⟩,rfl,by decide⟩⟩;have e:Rn (fW [.ro (ns.map D.int)] []) fun p=>p=(.ob 1,[.lst (((ns.drop (HT.dD ns.length 0 none)).take (HT.dD ns.length ns.length (some 63)-HT.dD ns.length 0 none)).map D.int),.lst [.int 0,.ob 0,.int 0]]):=by
  refine ck ?_;walk_at "g";refine Af ?_;walk_at "g";refine⟨_,rfl,rv rfl ?_⟩;walk_at "g";refine⟨_,_,_,rfl,rfl,?_⟩;walk_at "g";simp only[cutD,Qk,List.map_drop,List.map_take,R3,Tg,U2,QI]
 obtain⟨p,ep,rfl⟩:=e;exact ep
end Mi
namespace Mi
open PySem Sm L2
theorem pY(hl:a.length+b.length≤10000):bp (.str a) (.str b) h=some (.str (a++b),h):=by
 show(if a.length+b.length≤sizeLine then some (D.str (a++b),h) else none)=_;rw[Qp (by rw[show sizeLine=16777216 from rfl];lia)]
theorem ze(hl:a.length≤10000):cZ [.str a] h=some (.int a.length,h):=by
 show(if a.length≤sizeLine then some (D.int a.length,h) else none)=_;rw[Qp (by rw[show sizeLine=16777216 from rfl];lia)]
theorem zc(hl:a.length≤10000):zd (.str a) lo hi h=some (.str (Txt.slice a lo hi),h):=by
 show(if a.length≤sizeLine then some (D.str (Txt.slice a lo hi),h) else none)=_;rw[Qp (by rw[show sizeLine=16777216 from rfl];lia)]
noncomputable def t4(z:Str)(i:Int):Str:=match il z.cps.toList i with
 | some c=>⟨#[c]⟩
 | none=>""
theorem Ig(hl:z.length≤10000)(h0:0≤i)(h1:i < z.cps.toList.length):(t4 z i).length=1∧ba (.str z) (.int i) h=some (.str (t4 z i),h):=by
 obtain⟨v,e,_⟩:=Ga (xs:=z.cps.toList) h0 h1;have e1:t4 z i=⟨#[v]⟩:=by unfold t4;rw[e]
 rw[e1];refine⟨rfl,?_⟩;show(if z.length≤sizeLine then(il z.cps.toList i).map fun c=>(D.str ⟨#[c]⟩,h) else none)=_;rw[Qp (by rw[show sizeLine=16777216 from rfl];lia),e];rfl
noncomputable def gm:Str:="abcdefghijklmnopqrstuvwxyz"
theorem mS(h0:0≤i)(h1:i < 26):(t4 gm i).length=1∧ba (.str "abcdefghijklmnopqrstuvwxyz") (.int i) h=some (.str (t4 gm i),h):=
 Ig (z:=gm) (by decide) h0 (by rw[show(gm.cps.toList.length:Int)=26 by decide];exact h1)
def low(w:Str):Prop:=∀c∈w.cps,97≤c∧c≤122
theorem xu:low "":=fun c hc=>absurd (show c∈(#[]:Array Nat) from hc) (by simp)
theorem xv(ha:low a)(hb:low b):low (a++b):=by
 intro c hc;have hc':c∈a.cps++b.cps:=hc;rcases Array.mem_append.mp hc' with z | z
 ·exact ha c z
 ·exact hb c z
theorem vH(l u:Option Int)(h:low x):low (Txt.slice x l u):=by
 unfold Txt.slice
 split
 ·exact h
 ·intro c hc;have hc':c∈(List.filterMap (x.cps[·]?) (Builtin.Str.strSliceIndices l u 1 x.length)).toArray:=hc;rw[U0] at hc';obtain⟨i,_,e⟩:=Su.mp hc';exact h c (Uy e)
theorem AI(h:low w):PyData.strOk w=true:=kU.mpr fun c hc=>by have:=(h c hc).2;lia
theorem AL:gm.cps.toList=(List.range 26).map (97+·):=by decide+kernel
theorem xQ(h0:0≤i)(h1:i < 26):t4 gm i=⟨#[97+i.toNat]⟩:=by
 obtain⟨n,rfl⟩:=RS h0;have:il gm.cps.toList (n:Int)=some (97+n):=by
  rw[AL];exact ot (by rw[Qy,UD (by lia)];rfl)
 unfold t4;rw[this];rfl
theorem zp(h0:0≤i)(h1:i < 26):low (t4 gm i):=by
 rw[xQ h0 h1];intro c hc;have:c=97+i.toNat:=by simpa using hc
 lia
theorem ym(h0:0≤j):(Txt.slice x none (some j)).length≤j.toNat:=by
 have key:(Builtin.Str.strSliceIndices none (some j) 1 x.length).length≤j.toNat:=by
  unfold Builtin.Str.strSliceIndices sliceRange;simp only[show(1:Int) > 0 by decide,Tr,Qk,QU]
  (split <;> (try split) <;> (try split) <;> (try simp only[VA]) <;> lia)
 unfold Txt.slice
 split
 ·next z=>simp at z;have:x.cps.size=x.length:=rfl;lia
 ·show(List.filterMap _ (Builtin.Str.strSliceIndices none (some j) 1 x.length)).toArray.size≤_;rw[QA];exact QB (R9 _ _) key
theorem yl(h0:0≤j):(Txt.slice x (some j) none).length≤x.length-j.toNat:=by
 have key:(Builtin.Str.strSliceIndices (some j) none 1 x.length).length≤x.length-j.toNat:=by
  unfold Builtin.Str.strSliceIndices sliceRange;simp only[show(1:Int) > 0 by decide,Tr,Qk,QU]
  (split <;> (try split) <;> (try split) <;> (try simp only[VA]) <;> lia)
 unfold Txt.slice
 split
 ·next z=>simp at z;have:x.cps.size=x.length:=rfl;lia
 ·show(List.filterMap _ (Builtin.Str.strSliceIndices (some j) none 1 x.length)).toArray.size≤_;rw[QA];exact QB (R9 _ _) key
theorem Bp{a b x y:Str}(e:a++x++b=a++y++b):x=y:=by
 have e1:(a.cps++x.cps)++b.cps=(a.cps++y.cps)++b.cps:=congrArg Str.cps e;have e2:=congrArg Array.toList e1;simp only[Array.toList_append] at e2;have e3:=List.append_cancel_left (List.append_cancel_right e2);cases x;cases y;exact congrArg Str.mk (U3.mp e3)
noncomputable def wordAt(stem:Str)(at_ first stride:Int)(k:Int):Str:=Txt.slice stem none (some at_)++t4 gm ((first+stride*k) % 26)++Txt.slice stem (some at_) none
theorem DT{stem:Str}{at_ first stride:Int}{k j:Nat}(hs:stride∈[1,3,5,7,9,11])(hk:k < 6)(hj:j < 6)(e:wordAt stem at_ first stride k=wordAt stem at_ first stride j):k=j:=by
 have e1:=Bp (show Txt.slice stem none (some at_)++_++Txt.slice stem (some at_) none=Txt.slice stem none (some at_)++_++_ from e);rw[xQ (Rv _ (by decide)) (RG _ (by decide)),xQ (Rv _ (by decide)) (RG _ (by decide))] at e1;have e2:97+((first+stride*k) % 26).toNat=97+((first+stride*j) % 26).toNat:=by injection e1 with e1;injection e1 with e1;injection e1
 have e3:(first+stride*k) % 26=(first+stride*j) % 26:=by
  have a1:=Rv (first+stride*k) (show(26:Int)≠0 by decide);have a2:=Rv (first+stride*j) (show(26:Int)≠0 by decide)
  lia
 simp at hs;rcases hs with rfl | rfl | rfl | rfl | rfl | rfl <;> lia
theorem xW{h:MH}{s c R:Nat}{cs:List Int}{m:Int}{h0:MH}{Q:D×MH->Prop}(A:Sb s c cs h0 (R+20) h)(m0:0≤m)(m1:m≤6)
  (kk:∀(ws:List Str)(h1:MH),ws.length=m.toNat->(∀w∈ws,1≤w.length∧w.length≤7∧low w)->ws.Nodup->Sb s c cs h0 R h1->Q (.lv (ws.map D.str),h1)):Rn (eS [.ob s,.int m] h) Q:=by
 refine ck ?_;walk_at "g";refine jw ?_;walk_at "g";refine kO (is:=[0,1,1,2,3,6]) (fun i=>0≤i∧i≤6) (by decide) A fun k h1 hk _ A1=>?_;walk_at "g";refine⟨k,rfl,by lia,by lia,?_⟩;refine fu (fun i δ h'=>∃stem d4,δ=[some (.ob s),some (.int m),some (.str "abcdefghijklmnopqrstuvwxyz"),some (.str stem),d4,none,none,none]∧stem.length≤i∧low stem∧Sb s c cs h0 (R+19-i) h')
  ⟨"",_,rfl,Qq _,xu,A1⟩ (fun _ _ _ _ _=>rfl) ?_ ?_
 ·rintro i x δ h2 hx ⟨stem,d4,rfl,hst,bI,A2⟩;have hi:i < k.toNat:=by
   have:=(Qo.mp hx).1
   simpa using this
  rw[show R+19-i=R+19-(i+1)+1 by lia] at A2;walk_at "g";refine gf A2 (by decide) (by decide) fun r h3 r0 r1 A3=>?_;walk_at "g";obtain⟨hc,e4⟩:=mS (h:=h3) r0 r1;refine rv e4 ?_;walk_at "g";refine rv (pY (by lia)) ?_;walk_at "g";exact⟨stem++t4 gm r,_,rfl,by rw[Tn];lia,xv bI (zp r0 r1),A3⟩
 ·rintro δ h2 ⟨stem,d4,rfl,hst,bI,A2⟩;rw[Qk,QU] at hst A2;have A2:Sb s c cs h0 (R+3) h2:=A2.le (by lia);walk_at "g";refine rv (ze (by lia)) ?_;walk_at "g";refine rv (a:=(.int ((stem.length:Int)+1),h2)) rfl ?_;walk_at "g";refine gf A2 (by lia) (by lia) fun at_ h3 a0 a1 A3=>?_
  walk_at "g";refine gf A3 (by decide) (by decide) fun first h4 f0 f1 A4=>?_
  walk_at "g";refine kO (is:=[1,3,5,7,9,11]) (fun i=>0≤i∧i≤11) (by decide) A4 fun stride h5 ht tm A5=>?_;obtain⟨t0,t1⟩:=ht;walk_at "g";refine jw ?_;walk_at "g";refine⟨m,rfl,by lia,by lia,?_⟩;have hw:∀k:Int,1≤(wordAt stem at_ first stride k).length∧(wordAt stem at_ first stride k).length≤7∧low (wordAt stem at_ first stride k):=by
   intro k;have c0:=Rv (first+stride*k) (show(26:Int)≠0 by decide);have c1:=RG (first+stride*k) (show(0:Int) < 26 by decide);obtain⟨hc,e⟩:=mS (i:=(first+stride*k) % 26) (h:=[]) c0 c1;have s1:=ym (x:=stem) a0;have s2:=yl (x:=stem) a0;have s3:low (wordAt stem at_ first stride k):=xv (xv (vH _ _ bI) (zp c0 c1)) (vH _ _ bI);refine(fun(z:_∧_)=>⟨z.1,z.2,s3⟩) ?_;unfold wordAt;rw[Tn,Tn]
   lia
  refine rv (w5 rfl (fun x=>match x with | .int k=>some (.str (wordAt stem at_ first stride k)) | _=>none) (fun δ=>∃d0,δ=[d0,some (.int at_),some (.int first),some (.str "abcdefghijklmnopqrstuvwxyz"),some (.str stem),some (.int stride)]) ⟨_,rfl⟩ ?_) ⟨?_,?_⟩
  ·rintro x hx δ ⟨d0,rfl⟩;obtain⟨k,hk,rfl⟩:=Qz.mp hx;refine rv rfl ⟨rfl,rv rfl ⟨rfl,⟨_,rfl⟩,fun _=>⟨_,rfl,?_⟩,fun z=>(nomatch z)⟩⟩;refine G0 (G0 (Ag ?_));walk_at "g";refine⟨_,rfl,rv (zc (a:=stem) (by lia)) ?_⟩;walk_at "g";refine mC (E5 (by lia) (by lia)) ?_;refine rv (a:=(.int (first+stride*(k:Int)),h5)) rfl ?_;walk_at "g";refine ke (by decide) ?_;obtain⟨hc,e⟩:=mS (i:=(first+stride*(k:Int)) % 26) (h:=h5) (Rv _ (by decide)) (RG _ (by decide));have s1:=Txt.slice_le stem none (some at_);have s2:=Txt.slice_le stem (some at_) none;refine rv e (rv (pY (by lia)) ?_);refine Ag ?_;walk_at "g";refine⟨_,rfl,?_⟩;walk_at "g";refine rv (zc (a:=stem) (by lia)) (rv (pY (by rw[Tn];lia)) ?_);rfl
  ·rw[Tj];exact QB (R9 _ _) (by rw[QU,show sizeLine=16777216 from rfl];lia)
  ·walk_at "g";rw[show List.filterMap (fun x=>match x with | D.int k=>some (D.str (wordAt stem at_ first stride k)) | _=>none) ((List.range m.toNat).map fun(k:Nat)=>D.int k)=((List.range m.toNat).map fun(k:Nat)=>wordAt stem at_ first stride (k:Int)).map D.str by
    rw[Tj,QN];exact congrFun (VF (f:=D.str∘fun(k:Nat)=>wordAt stem at_ first stride (k:Int))) _]
   refine kk _ h5 (by simp) (fun w hw'=>?_) ?_ A5
   ·obtain⟨k,_,rfl⟩:=Qz.mp hw';exact hw k
   ·rw[List.nodup_iff_pairwise_ne,List.pairwise_map];refine(List.nodup_range (n:=m.toNat)).imp_of_mem fun {a b} ha hb hab e=>hab ?_;have:=RL.mp ha;have:=RL.mp hb;exact DT tm (by lia) (by lia) e
theorem St.cut{s c:Nat}{cs:List Int}{B:Nat}{hb g:MH}(S:Mi.St s c cs B (hb++g))(h1:s < hb.length)(h2:c < hb.length):Mi.St s c cs B hb:=by
 obtain⟨n,t,e,r⟩:=S.st;have e2:=S.ce;rw[QE h1] at e;rw[QE h2] at e2;exact⟨⟨n,t,e,r⟩,e2,S.ne⟩
def Cl(h:MH):Prop:=∀o∈h,zJ h.length o=true
theorem B8(n:Nat):∀js:List Int,gz n (js.map D.int)=true
 | []=>rfl
 | j::r=>by rw[Qt];show(i8 n (.int _)&&gz n _)=true;rw[B8 n r];rfl
theorem Cl.but{s c:Nat}{cs:List Int}{B:Nat}{h h':MH}(C:Cl h)(S:Mi.St s c cs B h')(b:x9 s h h'):Cl h':=by
 intro o ho;obtain⟨k,hk⟩:=R8.mp ho
 by_cases z:k=s
 ·subst z;obtain⟨n,t,e,_⟩:=S.st;rw[e] at hk;cases hk;show(true&&(decide (c < h'.length)&&(true&&true)))=true;rw[Q8 S.lt.2];rfl
 ·rw[b.2 k z] at hk;rw[b.1];exact C o (Qn hk)
theorem tu{h hb g:MH}{d:D}(hl:hb.length=h.length)(C:Cl hb)(h1:∀n,d≠.ob n)(h2:i8 h.length d=true):leave h d (hb++g)=some (d,hb):=by
 have h3:wu h.length (hb++g) d=d:=by
  cases d with
  | ob n=>exact absurd rfl (h1 n)
  | _=>rfl
 unfold leave;rw[h3,←hl,Sr (Qq _),QZ,hl,h2];have:(hb.all (zJ h.length))=true:=by
  rw[RJ];intro o ho;rw[←hl];exact C o ho
 rw[this,Bool.or_true];rfl
theorem Cl.add{h:MH}(C:Cl h){o:MO}(ho:zJ (h.length+1) o=true)(up:∀o∈h,zJ h.length o=true->zJ (h.length+1) o=true):Cl (h++[o]):=by
 intro x hx;rw[QD,Q6];rcases QS.mp hx with z | z
 ·exact up x z (C x z)
 ·rw[QC.mp z];exact ho
mutual
theorem FQ{n m:Nat}(hm:n≤m):∀d:D,i8 n d=true->i8 m d=true
 | .cN,_=>rfl
 | .bl _,_=>rfl
 | .int _,_=>rfl
 | .str _,_=>rfl
 | .ty _,_=>rfl
 | .ob k,h=>by simp only[i8,Rk] at h ⊢;lia
 | .tup xs,h=>by simp only[i8] at h ⊢;exact tZ hm xs h
 | .lv xs,h=>by simp only[i8] at h ⊢;exact tZ hm xs h
 | .ro xs,h=>by simp only[i8] at h ⊢;exact tZ hm xs h
 | .dv xs,h=>by simp only[i8] at h ⊢;exact Be hm xs h
theorem tZ{n m:Nat}(hm:n≤m):∀d:List D,gz n d=true->gz m d=true
 | [],_=>rfl
 | x::r,h=>by
  simp only[gz,QJ] at h ⊢;exact⟨FQ hm x h.1,tZ hm r h.2⟩
theorem Be{n m:Nat}(hm:n≤m):∀d:List (Key×D),Iu n d=true->Iu m d=true
 | [],_=>rfl
 |(_,x)::r,h=>by
  simp only[Iu,QJ] at h ⊢;exact⟨FQ hm x h.1,Be hm r h.2⟩
end
theorem LP{n m:Nat}(hm:n≤m)(o:MO)(h:zJ n o=true):zJ m o=true:=by
 cases o with
 | lst xs=>exact tZ hm xs h
 | dct xs=>exact Be hm xs h
theorem Cl.snoc{h:MH}(C:Cl h){o:MO}(ho:zJ (h.length+1) o=true):Cl (h++[o]):=C.add ho fun x _ z=>LP (T9 _) x z
theorem Cl.set{h:MH}(C:Cl h){n:Nat}{o:MO}(ho:zJ h.length o=true):Cl (h.set n o):=by
 intro x hx;rw[Sd];rcases List.mem_or_eq_of_mem_set hx with z | z
 ·exact C x z
 ·rw[z];exact ho
end Mi
namespace Sm
open PySem L2
theorem og{e:EM}{h:MH}{t:DS}(f:D->D):∀(xs:List D)(o:Option D),(∀x∈xs,e (some x::t) h=some (f x,h))->bU [] (gN 0) bC e xs (o::t) h=some (xs.map f,h)
 | [],o,_=>rfl
 | x::r,o,hx=>by
  have e1:e (some x::t) h=some (f x,h):=hx x Qv;have e2:=og f r (some x) fun y hy=>hx y (Qs _ hy);show((some ((o::t).set 0 (some x),h)).bind fun q=>(bC q.1 q.2).bind fun t=>if t.1=true then(e q.1 t.2).bind fun y=>(bU [] (gN 0) bC e r q.1 y.2).map fun z=>(y.1::z.1,z.2) else bU [] (gN 0) bC e r q.1 t.2)=_;show((e (some x::t) h).bind fun y=>(bU [] (gN 0) bC e r (some x::t) y.2).map fun z=>(y.1::z.1,z.2))=_;rw[e1];show((bU [] (gN 0) bC e r (some x::t) h).map fun z=>(f x::z.1,z.2))=_;rw[e2];rfl
theorem xY{α:Type}(f:α->Bool):∀(l:List α),ub (l.map fun x=>D.bl (f x))=some (l.map f)
 | []=>rfl
 | x::r=>by show(ub (r.map fun x=>D.bl (f x))).map _=_;rw[xY f r];rfl
theorem B1{α:Type}(p:α->Bool)(xs:List α)(h:MH):rm [.lv (xs.map fun x=>.bl (p x))] h=some (.bl (xs.all p),h):=by
 show(ub (xs.map fun x=>D.bl (p x))).map (fun bs=>(D.bl (bs.all id),h))=_;rw[xY];show some (D.bl ((xs.map p).all id),h)=_;rw[List.all_map];rfl
theorem zB{caps:List (Option Nat)}{ei e:EM}{δ t:DS}{o:Option D}{h:MH}{d:D}{xs:List D}(f:D->D)(hi:ei δ h=some (d,h))(hs:dq d h=some (xs,[]))(hc:gF caps δ=o::t)(hl:xs.length≤100000)(he:∀x∈xs,e (some x::t) h=some (f x,h)):
  bq caps (cG ei) (gN 0) bC e δ h=some (xs.map f,h):=by
 unfold bq cG;rw[hi];dsimp only[Option.bind_some];rw[hs];dsimp only[Option.map_some,Option.bind_some];rw[hc,og f xs o he];dsimp only[Option.bind_some];rw[Qp (by rw[Qk,show sizeLine=16777216 from rfl];lia)]
theorem II{caps:List (Option Nat)}{ei e:EM}{δ t:DS}{o:Option D}{h:MH}{d:D}{xs:List D}(p:D->Bool)(hi:ei δ h=some (d,h))(hs:dq d h=some (xs,[]))(hc:gF caps δ=o::t)(hl:xs.length≤100000)(he:∀x∈xs,e (some x::t) h=some (.bl (p x),h)):
  ay rm (ab (fT (bq caps (cG ei) (gN 0) bC e)) ai) δ h=some (.bl (xs.all p),h):=by
 unfold ay ab fT ai;rw[zB (fun x=>.bl (p x)) hi hs hc hl he];exact B1 p xs h
theorem cX{α:Type}{o:Option α}{a:α}(r:Rn o fun p=>p=a):o=some a:=let⟨_,e,q⟩:=r;by rw[e,q]
theorem Nz(hl:xs.length+ys.length≤10000):bp (.tup xs) (.tup ys) h=some (.tup (xs++ys),h):=by
 cases xs with
 | nil=>rfl
 | cons x xs=>
  show(if xs.length+1+ys.length≤sizeLine then some (D.tup (x::xs++ys),h) else none)=_;rw[Qp (by rw[show sizeLine=16777216 from rfl];rw[QI] at hl;lia)]
theorem FT{ea eb ec:EM}{δ:DS}{h:MH}{a n b:Int}(ha:ea δ h=some (.int a,h))(hn:eb δ h=some (.int n,h))(hb:ec δ h=some (.int b,h)):hZ zI zI ea eb ec δ h=some (.bl (decide (a≤n)&&decide (n≤b)),h):=by
 refine cX (Ex (rv ha (rv hn (rv rfl ⟨_,rfl,?_⟩))))
 by_cases c:a≤n
 ·rw[Qp (Q8 c),Q8 c];exact rv hb (rv rfl rfl)
 ·rw[Qu (by simpa using c),Q7 c];rfl
theorem tt(a:A):(true=true->A)∧(true=false->B):=⟨fun _=>a,fun z=>(nomatch z)⟩
theorem ff(b:B):(false=true->A)∧(false=false->B):=⟨fun z=>(nomatch z),fun _=>b⟩
theorem Ke(r:Rn (e δ h) fun p=>Rn (f x p.1 p.2) fun q=>Q (.nx,δ.set i (some q.1),q.2))(hx:δ[i]?=some (some x):=by with_unfolding_all rfl):Rn (Em i f e δ h) Q:=by
 unfold Em;rw[hx];show Rn ((e δ h).bind fun p=>(f x p.1 p.2).bind fun q=>some (Fl.nx,δ.set i (some q.1),q.2)) Q;exact a9 (r.imp fun _ r=>a9 (r.imp fun _ q=>⟨_,rfl,q⟩))
end Sm
namespace Mi
open PySem Sm L2 Pg
noncomputable def oG(W:Wd)(fl:List Int)(left odd:Int):MO:=.dct [(.inr (Str.ofString "names"),.lv (W.names.map D.str)),(.inr (Str.ofString "deeds"),.lv (W.ao.map D.str)),(.inr (Str.ofString "params"),.lv (W.params.map fun ps=>.lv (ps.map D.str))),(.inr (Str.ofString "floors"),.lv (fl.map D.int)),(.inr (Str.ofString "left"),.int left),(.inr (Str.ofString "odd"),.int odd)]
structure rn(W:Wd)(fl:List Int)(odd:Int):Prop where
 n1:1≤W.names.length
 n2:W.names.length≤6
 d1:1≤W.ao.length
 d2:W.ao.length≤6
 pl:W.params.length=W.ao.length
 p3:∀ps∈W.params,ps.length≤3
 Nx:fl.length=W.ao.length
 f0:∀f∈fl,0≤f∧f < W.names.length
 o0:0≤odd
 o1:odd≤1000
 sn:∀w∈W.names,1≤w.length∧w.length≤7∧low w
 sd:∀w∈W.ao,1≤w.length∧w.length≤7∧low w
 sp:∀ps∈W.params,∀w∈ps,1≤w.length∧w.length≤7∧low w
 nn:W.names.Nodup
 nd:W.ao.Nodup
 np:∀ps∈W.params,ps.Nodup
section
variable {h:MH} {wd:Nat} {W:Wd} {fl:List Int} {left odd:Int}
theorem fF(hw:h[wd]?=some (oG W fl left odd)):ba (.ob wd) (.str (Str.ofString "names")) h=some (.lv (W.names.map D.str),h):=by simp only[ba,fb,hw,oG];rfl
theorem fG(hw:h[wd]?=some (oG W fl left odd)):ba (.ob wd) (.str (Str.ofString "deeds")) h=some (.lv (W.ao.map D.str),h):=by simp only[ba,fb,hw,oG];rfl
theorem eG(hw:h[wd]?=some (oG W fl left odd)):ba (.ob wd) (.str (Str.ofString "params")) h=some (.lv (W.params.map fun ps=>.lv (ps.map D.str)),h):=by simp only[ba,fb,hw,oG];rfl
theorem oM(hw:h[wd]?=some (oG W fl left odd)):ba (.ob wd) (.str (Str.ofString "floors")) h=some (.lv (fl.map D.int),h):=by simp only[ba,fb,hw,oG];rfl
theorem rA(hw:h[wd]?=some (oG W fl left odd)):ba (.ob wd) (.str (Str.ofString "left")) h=some (.int left,h):=by simp only[ba,fb,hw,oG];rfl
theorem zK(hw:h[wd]?=some (oG W fl left odd)):ba (.ob wd) (.str (Str.ofString "odd")) h=some (.int odd,h):=by simp only[ba,fb,hw,oG];rfl
theorem DU(hw:h[wd]?=some (oG W fl left odd))(v:Int):uU (.ob wd) (.str (Str.ofString "left")) (.int v) h=some (h.set wd (oG W fl v odd)):=by
 have h1:(6:Nat) < sizeLine:=by decide
 simp only[uU,hw,oG,rh,QX,QI,R3];rw[Qp h1];rfl
end
section
variable {h h0:MH} {s c wd R:Nat} {cs:List Int} {W:Wd} {fl:List Int} {left odd:Int} {Q:D×MH->Prop}
theorem F7(A:Sb s c cs h0 (R+1) h)(hw:h[wd]?=some (oG W fl left odd))(ok:rn W fl odd)(k:∀(b:Bool)(h1:MH),Sb s c cs h0 R h1->Q (.bl b,h1)):Rn (dR [.ob s,.ob wd] h) Q:=by
 refine ck ?_;nofun;refine rv (zK hw) ?_;nofun;refine⟨_,rfl,fun z=>?_,fun z=>?_⟩
 ·nofun;refine rv (zK hw) ?_;nofun;refine gf A (Q3 z) (by have:=ok.o1;lia) fun m h1 _ _ A1=>?_;nofun;exact k _ _ A1
 ·nofun;exact k _ _ (A.dn 1)
theorem xX{ps:List Str}(A:Sb s c cs h0 (R+4) h)(hp:ps.length≤3)(k:∀(t:Term)(h1:MH),de ps t->t.2≤40->Sb s c cs h0 R h1->Q (bz t,h1)):Rn (cq [.ob s,.lv (ps.map D.str)] h) Q:=by
 refine ck ?_;nofun;refine gf A (by decide) (by decide) fun m h1 m0 m1 A1=>?_;nofun;have plain:∀{h2:MH} {P:D×MH->Prop},Sb s c cs h0 (R+1) h2->(∀(i:Int)(h3:MH),-40≤i∧i≤40->Sb s c cs h0 R h3->P (.int i,h3))->Rn (aV [.ob s,.lv [.int 0,.int 0,.int 1,.int 1,.int 2,.int 3,.int (-1),.int (m-40)]] h2) P:=fun A2 kk=>
  kO (is:=[0,0,1,1,2,3,-1,m-40]) (fun i=>-40≤i∧i≤40) (by intro x hx;simp at hx;lia) A2 fun i h3 hi _ A3=>kk i h3 hi A3
 refine⟨_,rfl,fun z=>?_,fun z=>⟨fun z=>(nomatch z),fun _=>?_⟩⟩
 ·have z:0 < ps.length:=by simpa using z
  nofun;refine gf A1 (by decide) (by decide) fun m2 h2 _ _ A2=>?_;nofun;refine⟨_,rfl,fun _=>?_,fun _=>?_⟩
  ·nofun;refine Iz A2 (.inl rfl) (by simpa using z) (by simp;lia) fun d3 h3 hd3 A3=>?_;obtain⟨w,hw,rfl⟩:=Qz.mp hd3;nofun;refine kO (is:=[0,0,0,0,1,1,-1,2,m-40]) (fun i=>-40≤i∧i≤40) (by intro x hx;simp at hx;lia) A3 fun i h4 hi _ A4=>?_;nofun;exact k (w,i) h4 ⟨.inr hw,by dsimp only;lia,by dsimp only;lia⟩ hi.2 A4
  ·nofun;refine plain (A2.dn 1) fun i h3 hi A3=>?_;nofun;exact k (Str.ofString "",i) h3 ⟨.inl rfl,by dsimp only;lia,by dsimp only;lia⟩ hi.2 A3
 ·nofun;refine plain (A1.dn 2) fun i h3 hi A3=>?_;nofun;exact k (Str.ofString "",i) h3 ⟨.inl rfl,by dsimp only;lia,by dsimp only;lia⟩ hi.2 A3
end
theorem dh{α:Type}{xs:List α}{f:α->D}{h:MH}{j:Nat}{x:α}(e:xs[j]?=some x):ba (.lv (xs.map f)) (.int j) h=some (f x,h):=by
 have hj:j < xs.length:=by
  rcases Ss j xs.length with z | z
  ·exact z
  ·rw[Rr z] at e;cases e
 show((il (xs.map f) j).map fun z=>(z,h))=_;have:il (xs.map f) j=some (f x):=by
  unfold il;rw[show xw (xs.map f).length j=some j by unfold xw;simp;lia];show(xs.map f)[j]?=_;rw[Qy,e];rfl
 rw[this];rfl
theorem nW(i j:Int)(h:MH):xJ [.int i,.int j] h=some (.int (max i j),h):=by
 show some (D.int (if j > i then j else i),h)=_;rw[show(if j > i then j else i)=max i j by split <;> lia]
theorem Ic(i j:Int)(h:MH):Fw [.int i,.int j] h=some (.int (min i j),h):=by
 show some (D.int (if j < i then j else i),h)=_;rw[show(if j < i then j else i)=min i j by split <;> lia]
theorem BS{α:Type}{o:Option Bool}{x y:Option α}{X Y:α->Prop}(r:∃c,o=some c∧(c=true->Rn x Y)∧(c=false->Rn y Y))(f:∀p,Y p->X p):∃c,o=some c∧(c=true->Rn x X)∧(c=false->Rn y X):=
 let⟨c,e,a,b⟩:=r
 ⟨c,e,fun z=>(a z).imp f,fun z=>(b z).imp f⟩
noncomputable def nj(t:Term):PyData:=.tuple [.str t.1,.int t.2]
theorem vw:∀ts:List Term,oH (ts.map bz)=some (ts.map nj)
 | []=>rfl
 | c::r=>by simp only[Qt,oH,vw r,bz,yb,QX,QT];rfl
theorem qA:∀ts:List Term,PyData.depthAll (ts.map nj)≤1
 | []=>by simp[PyData.depthAll]
 | c::r=>by
  have:=qA r;simp only[Qt,PyData.depthAll,nj,PyData.depth]
  lia
theorem AU(ts:List Term)(h:MH):nV (.lv (ts.map bz)) (.lv []) h=some (.bl (!ts.isEmpty),h):=by
 have:=qA ts;simp only[nV,Ji,fb,Mf,zH,vw,yb,oH,QT,QX];rw[Qp ⟨show PyData.depthAll _+1≤64 by lia,by decide⟩];cases ts <;> rfl
section
variable {h h0:MH} {s c wd R:Nat} {cs:List Int} {W:Wd} {fl:List Int} {left odd:Int} {Q:D×MH->Prop}
theorem LQ{ps:List Str}{j:Nat}{top:Int}{held:List Lock}(A:Sb s c cs h0 (R+10) h)(hw0:h0[wd]?=some (oG W fl left odd))(hne:wd≠s)(ok:rn W fl odd)(hp:W.params[j]?=some ps)(hj:j < W.ao.length)(ht:top≤W.names.length)(hh:∀l∈held,eW W ps l)(hl:held.length≤1000)
  (k1:∀(k:Int)(l:Lock)(h1:MH),max top (fl[j]?.getD 0) < W.names.length->0≤k->k < W.names.length->eW W ps l->Sb s c cs h0 R h1->Q (.tup [.int k,aN l],h1))
  (k2:∀(h1:MH),max top (fl[j]?.getD 0)=W.names.length->Sb s c cs h0 R h1->Q (.tup [.cN,.cN],h1)):Rn (fD [.ob s,.ob wd,.int j,.int top,.lv (held.map aN)] h) Q:=by
 have hw:=A.at_ hw0 hne;obtain⟨f,hf⟩:∃f,fl[j]?=some f:=⟨_,Qr (by rw[ok.Nx];exact hj)⟩;have hfm:=ok.f0 f (Qn hf);have n2:=ok.n2;rw[hf] at k1 k2;dsimp only[Option.getD_some] at k1 k2;refine ck ?_;nofun;refine rv (oM hw) ?_;nofun;refine rv (dh hf) ?_;nofun;refine rv (nW top f h) ?_;have lo0:0≤max top f:=by lia
 have lo1:max top f≤W.names.length:=by lia
 generalize max top f=lo at lo0 lo1 k1 k2 ⊢;nofun;refine rv (fF hw) ?_;nofun;refine⟨_,rfl,fun z=>?_,fun z=>?_⟩
 ·have z:lo=W.names.length:=by simpa using z
  nofun;exact k2 h z (A.dn 10)
 have z:lo≠W.names.length:=by simpa using z
 have z0:lo < W.names.length:=by lia
 have k1:=fun k l h1=>k1 k l h1 z0;clear k2;nofun;refine rv (fF hw) ?_;nofun;simp only[Qk];refine gf A (by lia) (by lia) fun m h1 m0 m1 A1=>?_;nofun;refine F7 A1 (A1.at_ hw0 hne) ok fun b h2 A2=>?_;nofun;refine BS (Y:=fun r=>∃(k:Int)(h3:MH),r=(Fl.nx,[some (.ob s),some (.ob wd),some (.int j),some (.int top),some (.lv (held.map aN)),some (.int lo),some (.int k),none,none,none,none],h3)∧0≤k∧k < W.names.length∧Sb s c cs h0 (R+7) h3) ?_ ?_
 ·refine⟨b,rfl,fun _=>?_,fun _=>?_⟩
  ·nofun;refine rv (fF (A2.at_ hw0 hne)) ?_;nofun;simp only[Qk];refine gf A2 (by lia) (by lia) fun k h3 k0 k1 A3=>?_;exact⟨k,h3,rfl,k0,k1,A3⟩
  ·nofun;exact⟨lo+m,h2,rfl,by lia,by lia,A2.dn 1⟩
 rintro _ ⟨k,h3,rfl,k0,kL,A3⟩;have hw3:=A3.at_ hw0 hne;have k1:=fun l h1=>k1 k l h1 k0 kL;obtain⟨kn,rfl⟩:=RS k0;obtain⟨nm,hnm⟩:∃f,W.names[kn]?=some f:=⟨_,Qr (by lia)⟩;show Rn _ _;nofun;refine rv (fF hw3) ?_;nofun;refine rv (dh hnm) ?_;nofun;refine eu ?_;nofun;refine⟨_,_,rfl,?_⟩;obtain⟨⟨ys,h4⟩,e4,hyl,hym,δ4,hh4,_⟩:=rE (ws:=[]) (g:=gN 0) (c:=aL (az cu (az ba (ae 0) (eK (D.int 0))) (ae 1))) (e:=az ba (ae 0) (eK (D.int 1))) (fun x y=>∃l∈held,x=aN l∧y=bz l.2)
  (xs:=held.map aN) (δ:=[none,some (.str nm)]) (h:=h3) (fun j δ h'=>h'=h3∧∃d0,δ=[d0,some (.str nm)]) ⟨rfl,_,rfl⟩ (fun _ _ _ _ _=>rfl) (by
   rintro i x δ h' hx ⟨rfl,d0,rfl⟩;obtain⟨l,hl,rfl⟩:=Qz.mp (Qn hx);nofun;refine rv (a:=(.str l.1,_)) rfl ?_;nofun;refine⟨_,rfl,fun _=>?_,fun _=>⟨rfl,_,rfl⟩⟩;nofun;exact rv (a:=(bz l.2,_)) rfl ⟨⟨l,hl,rfl,rfl⟩,rfl,_,rfl⟩)
 dsimp only at hh4;subst hh4;refine rv e4 ⟨QB hyl (by rw[Qk,show sizeLine=16777216 from rfl];lia),?_⟩;obtain⟨ts,rfl,htm⟩:∃ts:List Term,ys=ts.map bz∧∀t∈ts,de ps t:=by
  clear e4 hyl
  induction ys with
  | nil=>exact⟨[],rfl,fun _ z=>(nomatch z)⟩
  | cons y r ih=>
   obtain⟨js,rfl,h1⟩:=ih fun z hz=>hym z (Qs _ hz);obtain⟨x,hx,l,hl,rfl,rfl⟩:=hym y Qv;exact⟨l.2::js,rfl,List.forall_mem_cons.mpr ⟨(hh l hl).2,h1⟩⟩
 nofun;have pl:=ok.p3 ps (Qn hp);refine rv (AU ts _) ⟨_,rfl,fun z=>?_,fun z=>⟨fun z=>(nomatch z),fun _=>?_⟩⟩
 ·nofun;refine F7 A3 hw3 ok fun b' h5 A5=>⟨_,rfl,fun _=>?_,fun _=>?_⟩
  ·have hts:ts≠[]:=by rintro rfl;cases z
   obtain⟨us,last,rfl⟩:∃us last,ts=us++[last]:=⟨ts.dropLast,ts.getLast hts,(List.dropLast_concat_getLast hts).symm⟩;have hlast:=htm last (by simp);nofun;refine rv (a:=(bz last,_)) (by
    show((il ((us++[last]).map bz) (-1)).map fun z=>(z,h5))=_;rw[QG];show((il (us.map bz++[bz last]) (-1)).map fun z=>(z,h5))=_;rw[Gb];rfl) ?_
   nofun;refine rv (a:=_) rfl ?_;nofun;refine gf A5 (by decide) (by decide) fun m6 h6 m60 m61 A6=>?_;nofun;refine rv (Ic _ _ _) ?_;nofun;exact k1 (nm,(last.1,min 99 (last.2+1+m6))) h6 ⟨Qn hnm,hlast.1,by dsimp only;have:=hlast.2;lia,by dsimp only;lia⟩ (A6.dn 5)
  ·nofun;refine rv (eG (A5.at_ hw0 hne)) ?_;nofun;refine rv (dh hp) ?_;nofun;refine xX (A5.dn 2) pl fun t h6 tk _ A6=>?_;nofun;exact k1 (nm,t) h6 ⟨Qn hnm,tk⟩ A6
 ·nofun;refine rv (eG hw3) ?_;nofun;refine rv (dh hp) ?_;nofun;refine xX (A3.dn 3) pl fun t h6 tk _ A6=>?_;nofun;exact k1 (nm,t) h6 ⟨Qn hnm,tk⟩ A6
end
theorem zg(cs:List Int)(h:MH):cu (.lv (cs.map D.int)) (.lv []) h=some (.bl cs.isEmpty,h):=by
 simp only[cu,Ji,fb,Mf,zH,sM,yb,oH,QT,QX,PyData.depth,mX];cases cs <;> rfl
theorem Kj(r:Rn (m δ h) fun p=>∃j:Int,p.1=[.int j]∧0≤j∧j≤1000∧Q ((List.range j.toNat).map fun(k:Nat)=>D.int (k:Int),p.2)):Rn (LX m δ h) Q:=a9 (r.imp fun p ⟨j,e,h1,h2,q⟩=>by
 rw[e];dsimp only;rw[Qp ⟨h1,h2⟩];exact⟨_,rfl,q⟩)
section
variable {h h0:MH} {s c wd R:Nat} {cs:List Int} {W:Wd} {fl:List Int} {left odd:Int} {Q:D×MH->Prop}
theorem LR{top:Int}(A:Sb s c cs h0 (R+14) h)(hw0:h0[wd]?=some (oG W fl left odd))(hne:wd≠s)(ok:rn W fl odd)(hp:W.params[j]?=some ps)(hj:j < W.ao.length)
  (kk:∀(r:Row)(h1:MH),(∀n,aM W ps n r)->cnt r=1->Sb s c cs h0 R h1->Q (aZ r,h1)):Rn (gy [.ob s,.ob wd,.int j,.int top] h) Q:=by
 have hw:=A.at_ hw0 hne;have d2:=ok.d2;have pl:=ok.p3 ps (Qn hp);obtain⟨dj,hdj⟩:∃f,W.ao[j]?=some f:=⟨_,Qr hj⟩;refine ck ?_;nofun;refine jw ?_;nofun;refine rv (fG hw) ?_;nofun;refine⟨(W.ao.map D.str).length,rfl,by rw[Qk];lia,by rw[Qk];lia,?_⟩;rw[Qk,QO];obtain⟨⟨ys,h1⟩,e1,hyl,hym,δ1,hh1,_⟩:=rE (ws:=[]) (g:=gN 0) (c:=qO (aL (az Dj (az ba (az ba (ae 3) (eK (.str "floors"))) (ae 0)) (ae 2))) (aL (az Ny (ae 0) (ae 1)))) (e:=ae 0) (fun x y=>y=x)
  (xs:=(List.range W.ao.length).map fun(k:Nat)=>D.int (k:Int)) (δ:=[none,some (.int j),some (.int top),some (.ob wd)]) (h:=h) (fun i δ h'=>h'=h∧∃d0,δ=[d0,some (.int j),some (.int top),some (.ob wd)]) ⟨rfl,_,rfl⟩ (fun _ _ _ _ _=>rfl) (by
   rintro i x δ h' hx ⟨rfl,d0,rfl⟩;rw[Qy] at hx;obtain⟨k,hk,hk2⟩:=QL.mp hx;subst hk2;have hkl:k < fl.length:=by rw[ok.Nx];exact RL.mp (Qn hk)
   obtain⟨f,hf⟩:∃f,fl[k]?=some f:=⟨_,Qr hkl⟩;nofun;refine rv (oM hw) ?_;nofun;refine rv (dh hf) ?_;nofun;refine⟨_,rfl,fun _=>?_,fun _=>⟨fun z=>(nomatch z),fun _=>⟨rfl,_,rfl⟩⟩⟩;nofun;refine⟨_,rfl,fun _=>?_,fun _=>⟨rfl,_,rfl⟩⟩;nofun;exact⟨rfl,rfl,_,rfl⟩)
 dsimp only at hh1;subst hh1;refine rv e1 ⟨QB hyl (by rw[Qk,QU,show sizeLine=16777216 from rfl];lia),?_⟩;have hint:∀zs:List D,(∀y∈zs,∃x,x∈(List.range W.ao.length).map (fun(k:Nat)=>D.int (k:Int))∧y=x)->∃js:List Int,zs=js.map D.int∧∀k∈js,0≤k∧k < W.ao.length:=by
  intro zs hz
  induction zs with
  | nil=>exact⟨[],rfl,fun _ z=>(nomatch z)⟩
  | cons y r ih=>
   obtain⟨js,rfl,q⟩:=ih fun z hz'=>hz z (Qs _ hz');obtain⟨x,hx,rfl⟩:=hz y Qv;obtain⟨k,hk,rfl⟩:=Qz.mp hx;exact⟨k::js,rfl,fun i hi=>by
    rcases QK.mp hi with rfl | hi
    ·have:=RL.mp hk;lia
    ·exact q i hi⟩
 have hyn:ys.length≤6:=by
  have h9:ys.length≤_:=hyl;rw[Qk,QU] at h9
  lia
 obtain⟨js,rfl,hjs⟩:=hint ys hym;rw[Qk] at hyn;nofun;refine F7 A hw ok fun b h2 A2=>?_;have hw2:=A2.at_ hw0 hne;nofun;refine BS (Y:=fun r=>∃(ks:List Int),r=(Fl.nx,[some (.ob s),some (.ob wd),some (.int j),some (.int top),some (.lv (ks.map D.int)),none,none],h2)∧ks.length≤6∧∀k∈ks,0≤k∧k < W.ao.length) ?_ ?_
 ·refine⟨b,rfl,fun _=>?_,fun _=>?_⟩
  ·nofun;refine Kj ?_;nofun;refine rv (fG hw2) ?_;nofun;refine⟨(W.ao.map D.str).length,rfl,by rw[Qk];lia,by rw[Qk];lia,?_⟩;rw[Qk,QO];obtain⟨ks,hk1,hk2⟩:=hint _ fun y hy=>⟨y,hy,rfl⟩;refine⟨ks,?_,?_,hk2⟩
   ·show _=_;rw[←hk1];rfl
   ·have:=congrArg List.length hk1;rw[Qk,Qk,QU] at this
    lia
  ·nofun;exact⟨js,rfl,hyn,hjs⟩
 rintro _ ⟨ks,rfl,kn,hks⟩;show Rn _ _;nofun;refine rv (zg ks _) ⟨_,rfl,fun z=>?_,fun z=>?_⟩
 ·nofun;refine rv (fG hw2) ?_;nofun;refine rv (dh hdj) ?_;nofun;have:=kk (.say dj) h2 (fun n=>by unfold aM;exact QH _ (Qn hdj)) (by rw[cnt]) (A2.dn 13);rw[aZ] at this;exact this
 have z0:0 < ks.length:=by cases ks with | nil=>cases z | cons _ _=>simp
 nofun;refine Iz A2 (.inl rfl) (by simpa using z0) (by simp;lia) fun d3 h3 hd3 A3=>?_;have hw3:=A3.at_ hw0 hne;obtain⟨k,hk,rfl⟩:=Qz.mp hd3;obtain⟨k0,k1⟩:=hks k hk;obtain⟨kn',rfl⟩:=RS k0;have hkl:kn' < W.ao.length:=by lia
 obtain⟨dk,hdk⟩:∃f,W.ao[kn']?=some f:=⟨_,Qr hkl⟩;obtain⟨qs,hqs⟩:∃f,W.params[kn']?=some f:=⟨_,Qr (by rw[ok.pl];exact hkl)⟩;have ql:=ok.p3 qs (Qn hqs);nofun;refine eu ?_;nofun;refine rv (eG hw3) ?_;nofun;refine rv (dh hqs) ?_;refine⟨_,_,rfl,?_⟩;obtain⟨⟨zs,h4⟩,e4,hzs,δ4,_,A4⟩:=rG (ws:=[]) (g:=gN 0) (e:=ay cq (ab (ae 2) (ab (az ba (az ba (ae 3) (eK (.str "params"))) (ae 1)) ai))) (fun _ y=>∃t:Term,y=bz t∧de ps t)
  (xs:=qs.map D.str) (δ:=[none,some (.int j),some (.ob s),some (.ob wd)]) (h:=h3) (fun i δ h'=>(∃d0,δ=[d0,some (.int j),some (.ob s),some (.ob wd)])∧Sb s c cs h0 (R+4*(3-i)) h') ⟨⟨_,rfl⟩,A3⟩ (fun _ _ _ _ _=>rfl) (by
   rintro i x δ h' hx ⟨⟨d0,rfl⟩,Ai⟩;have hi:i < 3:=by
    have:=(Qo.mp hx).1;rw[Qk] at this
    lia
   rw[show R+4*(3-i)=R+4*(3-(i+1))+4 by lia] at Ai;have hwi:=Ai.at_ hw0 hne;nofun;refine rv (eG hwi) ?_;nofun;refine rv (dh hp) ?_;nofun;exact xX Ai pl fun t h6 tk _ A6=>⟨⟨t,rfl,tk⟩,⟨_,rfl⟩,A6⟩)
 obtain⟨ts,rfl,htm⟩:∃ts:List Term,zs=ts.map bz∧∀t∈ts,de ps t:=by
  have hr:=hzs.right;clear e4 hzs A4;dsimp only at hr
  induction zs with
  | nil=>exact⟨[],rfl,fun _ z=>(nomatch z)⟩
  | cons y r ih=>
   obtain⟨js,rfl,h1⟩:=ih fun z hz=>hr z (Qs _ hz);obtain⟨x,hx,t,rfl,tk⟩:=hr y Qv;exact⟨t::js,rfl,fun j hj=>by
    rcases QK.mp hj with rfl | hj
    ·exact tk
    ·exact h1 j hj⟩
 have hzl:=hzs.length;dsimp only at hzl;rw[Qk,Qk] at hzl;refine rv e4 ⟨by dsimp only;rw[Qk,show sizeLine=16777216 from rfl];lia,?_⟩;have A4:Sb s c cs h0 R h4:=A4.le (QM _ _);have hw4:=A4.at_ hw0 hne;nofun;refine rv (fG hw4) ?_;nofun;refine rv (dh hdk) ?_;nofun;refine rv (a:=(.tup (ts.map bz),_)) rfl ?_;nofun;have:=kk (.call dk ts) h4 (fun n=>by unfold aM;exact⟨⟨kn',qs,hdk,hqs,hzl⟩,htm⟩) (by rw[cnt]) A4;rw[aZ] at this;exact this
end
def iq(s wd:Nat)(h h':MH):Prop:=h'.length=h.length∧∀k,k≠s->k≠wd->h'[k]?=h[k]?
theorem iq.refl(s wd:Nat)(h:MH):iq s wd h h:=⟨rfl,fun _ _ _=>rfl⟩
theorem iq.trans(a:iq s wd h h1)(b:iq s wd h1 h2):iq s wd h h2:=⟨b.1.trans a.1,fun k n m=>(b.2 k n m).trans (a.2 k n m)⟩
theorem x9.two(a:x9 s h h1):iq s wd h h1:=⟨a.1,fun k n _=>a.2 k n⟩
theorem iq.set:iq s wd h (h.set wd o):=⟨Sd,fun k _ n=>Rl (RM n)⟩
theorem iq.Ph(b:iq s wd (hb++g) h2)(hs:s < hb.length)(hw:wd < hb.length):∃hb',h2=hb'++g∧iq s wd hb hb':=by
 have hl:h2.length=hb.length+g.length:=by rw[b.1];simp
 refine⟨h2.take hb.length,?_,by rw[QP];lia,fun k hk hk'=>?_⟩
 ·refine UY fun k=>?_
  by_cases z:k < hb.length
  ·rw[QE (by rw[QP];lia),Ra z]
  ·rw[b.2 _ (by lia) (by lia),QR (by lia),QR (by rw[QP];lia),QP];rw[show min hb.length h2.length=hb.length by lia]
 ·by_cases z:k < hb.length
  ·rw[Ra z,b.2 k hk hk',QE z]
  ·rw[Rr (by rw[QP];lia),Rr (by lia)]
theorem i7(n:Nat):∀js:List Str,gz n (js.map D.str)=true
 | []=>rfl
 | j::r=>by rw[Qt];show(i8 n (.str _)&&gz n _)=true;rw[i7 n r];rfl
theorem vW(n:Nat):∀js:List (List Str),gz n (js.map fun ps=>.lv (ps.map D.str))=true
 | []=>rfl
 | j::r=>by rw[Qt];show(gz n (j.map D.str)&&gz n _)=true;rw[i7 n j,vW n r];rfl
theorem Bd(n:Nat)(W:Wd)(fl:List Int)(l odd:Int):zJ n (oG W fl l odd)=true:=by
 show(gz n _&&(gz n _&&(gz n _&&(gz n _&&(true&&(true&&true))))))=true;rw[i7,i7,vW,B8];rfl
structure En where
 s:Nat
 c:Nat
 wd:Nat
 cs:List Int
 W:Wd
 fl:List Int
 odd:Int
 ok:rn W fl odd
 ne:wd≠s
 nc:wd≠c
structure Wb(E:En)(h0:MH)(R l:Nat)(h:MH):Prop where
 S:St E.s E.c E.cs R h
 w:h[E.wd]?=some (oG E.W E.fl l E.odd)
 C:Cl h
 b:iq E.s E.wd h0 h
section
variable {E:En} {h0 h h1 h' g:MH} {R R' l l' k:Nat} {Q:D×MH->Prop}
theorem Wb.lt(A:Wb E h0 R l h):E.s < h.length∧E.c < h.length∧E.wd < h.length:=⟨A.S.lt.1,A.S.lt.2,(Qo.mp A.w).1⟩
theorem Wb.by(A:Wb E h0 R l h)(B:Sb E.s E.c E.cs h R' h1):Wb E h0 R' l h1:=⟨B.S,(B.b.2 _ E.ne).trans A.w,A.C.but B.S B.b,A.b.trans B.b.two⟩
theorem Wb.le(A:Wb E h0 R l h)(hR:R'≤R):Wb E h0 R' l h:=⟨A.S.le hR,A.w,A.C,A.b⟩
theorem Wb.here(A:Wb E h0 R l h):Wb E h R l h:=⟨A.S,A.w,A.C,iq.refl _ _ _⟩
theorem Wb.tr(A:Wb E h1 R l h)(b:iq E.s E.wd h0 h1):Wb E h0 R l h:=⟨A.S,A.w,A.C,b.trans A.b⟩
theorem Wb.set(A:Wb E h0 R l h)(v:Nat):Wb E h0 R v (h.set E.wd (oG E.W E.fl v E.odd)):=
 ⟨A.S.off E.ne E.nc,Ry A.lt.2.2,A.C.set (Bd _ _ _ _ _),A.b.trans iq.set⟩
theorem Wb.push(A:Wb E h0 R l h)(ho:zJ (h.length+1) o=true):Wb E (h++[o]) R l (h++[o]):=⟨A.S.more _,by rw[QE A.lt.2.2];exact A.w,A.C.snoc ho,iq.refl _ _ _⟩
theorem LO(C:Cl h)(S:St E.s E.c E.cs R h')(w:h'[E.wd]?=some (oG E.W E.fl l E.odd))(b:iq E.s E.wd h h'):Cl h':=by
 intro o ho;obtain⟨k,hk⟩:=R8.mp ho
 by_cases z:k=E.s
 ·subst z;obtain⟨n,t,e,_⟩:=S.st;rw[e] at hk;cases hk;show(true&&(decide (E.c < h'.length)&&(true&&true)))=true;rw[Q8 S.lt.2];rfl
 ·by_cases z2:k=E.wd
  ·subst z2;rw[w] at hk;cases hk;exact Bd _ _ _ _ _
  ·rw[b.2 k z z2] at hk;rw[b.1];exact C o (Qn hk)
theorem Wb.pop(A0:Wb E h0 R0 l0 h)(A:Wb E (h++g) R l h'):∃hb,h'=hb++g∧hb.length=h.length∧Wb E h0 R l hb:=by
 obtain⟨h1,h2,h3⟩:=A0.lt;obtain⟨hb,rfl,b⟩:=A.b.Ph h1 h3;have e:=b.1;have S:=A.S.cut (by lia) (by lia);have w:=A.w;rw[QE (by lia)] at w;exact⟨hb,rfl,e,S,w,LO A0.C S w b,A0.b.trans b⟩
theorem w_next(A:Wb E h0 (R+1) l h)(m0:0 < m)(m1:m≤10^40)(k:∀(r:Int)(h1:MH),0≤r->r < m->Wb E h0 R l h1->Q (.int r,h1)):Rn (aY [.ob E.s,.int m] h) Q:=
 gf A.S.sb m0 m1 fun r h1 r0 r1 S1=>k r h1 r0 r1 (A.by S1)
theorem Mo(A:Wb E h0 (R+1) l h)(hd:d=.lv xs∨d=.tup xs)(l0:0 < xs.length)(l1:xs.length≤1000000)(k:∀(x:D)(h1:MH),x∈xs->Wb E h0 R l h1->Q (x,h1)):Rn (aV [.ob E.s,d] h) Q:=
 Iz A.S.sb hd l0 l1 fun x h1 hx S1=>k x h1 hx (A.by S1)
theorem DV{is:List Int}(P:Int->Prop)(hP:∀i∈is,P i)(A:Wb E h0 (R+1) l h)(k:∀(i:Int)(h1:MH),P i->Wb E h0 R l h1->Q (.int i,h1))(l0:0 < is.length:=by simp)(l1:is.length≤1000:=by simp):Rn (aV [.ob E.s,.lv (is.map D.int)] h) Q:=
 kO P hP A.S.sb (fun i h1 hi _ S1=>k i h1 hi (A.by S1)) l0 l1
theorem wm(A:Wb E h0 (R+4) l h)(hp:ps.length≤3)(k:∀(t:Term)(h1:MH),de ps t->Wb E h0 R l h1->Q (bz t,h1)):Rn (cq [.ob E.s,.lv (ps.map D.str)] h) Q:=
 xX A.S.sb hp fun t h1 ht _ S1=>k t h1 ht (A.by S1)
structure Cd(W:Wd)(j:Nat)(ps:List Str)(d:Nat)(top:Int)(held:List Lock):Prop where
 hp:W.params[j]?=some ps
 hj:j < W.ao.length
 d1:1≤d
 ht:top≤W.names.length
 hh:∀x∈held,eW W ps x
 hl:held.length≤4*d
variable {j d f:Nat} {ps:List Str} {top:Int} {held:List Lock}
theorem Cd.more{W:Wd}{n:Nat}{top':Int}{ls:List Lock}(G:Cd W j ps d top held)(ht:top'≤W.names.length)(hl:ls.length≤4*n)(ho:∀x∈ls,eW W ps x):Cd W j ps (d+n) top' (held++ls):=
 ⟨G.hp,G.hj,QB G.d1 (QM _ _),ht,fun x hx=>(QS.mp hx).elim (G.hh x) (ho x),by have:=G.hl;rw[QD];lia⟩
theorem Cd.deep{W:Wd}(G:Cd W j ps d top held):Cd W j ps (d+1) top held:=⟨G.hp,G.hj,V4 G.d1,G.ht,G.hh,by have:=G.hl;lia⟩
theorem Cd.pl(G:Cd E.W j ps d top held):ps.length≤3:=E.ok.p3 ps (Qn G.hp)
theorem DW(A:Wb E h0 (R+10) l h)(G:Cd E.W j ps d top held)(hd:d≤5)(k1:∀(k:Int)(x:Lock)(h1:MH),max top (E.fl[j]?.getD 0) < E.W.names.length->0≤k->k < E.W.names.length->eW E.W ps x->Wb E h0 R l h1->Q (.tup [.int k,aN x],h1))
  (k2:∀(h1:MH),max top (E.fl[j]?.getD 0)=E.W.names.length->Wb E h0 R l h1->Q (.tup [.cN,.cN],h1)):Rn (fD [.ob E.s,.ob E.wd,.int j,.int top,.lv (held.map aN)] h) Q:=
 LQ A.S.sb A.w E.ne E.ok G.hp G.hj G.ht G.hh (by have:=G.hl;lia) (fun k x h1 a b c e S1=>k1 k x h1 a b c e (A.by S1)) fun h1 a S1=>k2 h1 a (A.by S1)
theorem Jv(A:Wb E h0 (R+14) l h)(G:Cd E.W j ps d top held)(k:∀(r:Row)(h1:MH),(∀n,aM E.W ps n r)->cnt r=1->Wb E h0 R l h1->Q (aZ r,h1)):Rn (gy [.ob E.s,.ob E.wd,.int j,.int top] h) Q:=
 LR A.S.sb A.w E.ne E.ok G.hp G.hj fun r h1 a b S1=>k r h1 a b (A.by S1)
abbrev Gs(E:En)(h0:MH)(R l:Nat)(ps:List Str)(d:Nat)(Q:D×MH->Prop):Prop:=∀(r:Row)(l':Nat)(h':MH),aM E.W ps d r->l'+cnt r=l+1->Wb E h0 (R+100*l') l' h'->Q (aZ r,h')
abbrev Pn(E:En)(h0:MH)(R l:Nat)(ps:List Str)(d:Nat)(Q:D×MH->Prop):Prop:=∀(t:List Row)(l':Nat)(h':MH),bu E.W ps d t->t.length≤12->l'+bc t=l->Wb E h0 (R+100*l') l' h'->Q (.tup (cD t),h')
def DI(E:En)(f:Nat):Prop:=∀{h0 h:MH} {R l j:Nat} {ps:List Str} {d:Nat} {top:Int} {held:List Lock} {most:Int} {Q:D×MH->Prop},Wb E h0 (R+100*l+4) l h->Cd E.W j ps d top held->d≤5->3*(5-d)+2≤f->1≤most->most≤12->Pn E h0 R l ps d Q->
 Rn (bT f [.ob E.s,.ob E.wd,.int j,.int d,.int top,.lv (held.map aN),.int most] h) Q
def L6(E:En)(f:Nat):Prop:=∀{h0 h:MH} {R l j:Nat} {ps:List Str} {d:Nat} {top:Int} {held:List Lock} {Q:D×MH->Prop},Wb E h0 (R+100*l+100) l h->Cd E.W j ps d top held->d≤5->3*(5-d)+1≤f->Gs E h0 R l ps d Q->
 Rn (gg f [.ob E.s,.ob E.wd,.int j,.int d,.int top,.lv (held.map aN)] h) Q
def Gq(E:En)(f:Nat):Prop:=∀{h0 h:MH} {R l j:Nat} {ps:List Str} {d:Nat} {top:Int} {held:List Lock} {way:Str} {Q:D×MH->Prop},Wb E h0 (R+100*l+95) l h->Cd E.W j ps d top held->d < 5->3*(5-d)≤f->way∈[Str.ofString "within",Str.ofString "ask",Str.ofString "all"]->Gs E h0 R l ps d Q->
 Rn (dQ f [.ob E.s,.ob E.wd,.int j,.int d,.int top,.lv (held.map aN),.str way] h) Q
def LZ(E:En)(f:Nat):Prop:=∀{h0 h:MH} {R l j:Nat} {ps:List Str} {d:Nat} {top:Int} {held:List Lock} {Q:D×MH->Prop},Wb E h0 (R+100*l+95) l h->Cd E.W j ps d top held->d < 3->5 < l->3*(5-d)≤f->Gs E h0 R l ps d Q->
 Rn (cL f [.ob E.s,.ob E.wd,.int j,.int d,.int top,.lv (held.map aN)] h) Q
end
theorem nF(r:Rn (b (entry len ds) h) (GR fun p=>Rn (leave h p.1 p.2) Q)):Rn (E7 len b ds h) Q:=by
 obtain⟨p,e,q⟩:=ck r;obtain⟨z,e2,k⟩:=q;refine⟨z,?_,k⟩;have e:((b (entry len ds) h).bind GS)=some p:=e;show((b (entry len ds) h).bind GS).bind _=_;rw[e];exact e2
theorem nI{isT:D->MH->Bool}{f:DP}{o:EM}{m:AM}{δ:DS}{h:MH}{Q:D×MH->Prop}(r:Rn (o δ h) fun p=>isT p.1 p.2=true∧Rn (m δ p.2) fun q=>Rn (f p.1 q.1 q.2) Q):Rn (eM isT f o m δ h) Q:=
 a9 (r.imp fun p ⟨e,r⟩=>by rw[Qp e];exact a9 r)
theorem dH(e:h[n]?=some (.lst xs)):cY (.ob n) h=true:=by unfold cY gM;dsimp only;rw[e];rfl
theorem eB(e:h[n]?=some (.lst xs))(hl:xs.length < sizeLine):eO (.ob n) [y] h=some (.cN,h.set n (.lst (xs++[y]))):=by unfold eO;dsimp only;rw[e];dsimp only;rw[Qp hl]
theorem xO(n:Nat)(t:Term):i8 n (bz t)=true:=rfl
theorem rP(n:Nat)(t:Lock):i8 n (aN t)=true:=rfl
theorem gd(n:Nat)(f:α->D)(hf:∀x,i8 n (f x)=true):∀xs:List α,gz n (xs.map f)=true
 | []=>rfl
 | x::r=>by rw[Qt];show(i8 n (f x)&&gz n _)=true;rw[hf x,gd n f hf r];rfl
mutual
theorem tX(n:Nat):∀r:Row,i8 n (aZ r)=true
 | .say w=>by rw[aZ];rfl
 | .call d ts=>by rw[aZ];show(true&&(true&&(gz n _&&true)))=true;rw[gd n _ (xO n)];rfl
 | .within l b=>by rw[aZ];show(true&&(i8 n (aN l)&&(gz n _&&true)))=true;rw[rP,fU n b];rfl
 | .all ls b=>by rw[aZ];show(true&&(gz n _&&(gz n _&&true)))=true;rw[gd n _ (rP n),fU n b];rfl
 | .ask l b e=>by rw[aZ];show(true&&(i8 n (aN l)&&(gz n _&&(gz n _&&true))))=true;rw[rP,fU n b,fU n e];rfl
 | .oI s t a b c=>by rw[aZ];show(true&&(i8 n (bz s)&&(i8 n (bz t)&&(gz n _&&(gz n _&&(gz n _&&true))))))=true;rw[xO,xO,fU n a,fU n b,fU n c];rfl
 | .either a b=>by rw[aZ];show(true&&(gz n _&&(gz n _&&true)))=true;rw[fU n a,fU n b];rfl
 | .again a=>by rw[aZ];show(true&&(gz n _&&true))=true;rw[fU n a];rfl
theorem fU(n:Nat):∀r:List Row,gz n (cD r)=true
 | []=>by rw[cD];rfl
 | r::rs=>by rw[cD];show(i8 n _&&gz n _)=true;rw[tX n r,fU n rs];rfl
end
theorem tL(e:H.length=n):(H++[a])[n]?=some a:=by rw[←e];simp
theorem JR(e:H.length=n):(H++[a]).set n b=H++[b]:=by rw[←e];simp
section
variable {E:En} {f:Nat}
theorem AJ(hr:L6 E f):DI E (f+1):=by
 intro h0 h R l j ps d top held most Q A G d5 hf m0 m1 k;unfold bT;refine nF ?_;nofun;refine jw ?_;nofun;refine rv (a:=(.lv (List.replicate 15 (D.int most)),_)) rfl ?_;nofun;refine rv (a:=(.lv ((List.replicate 15 most++[12]).map D.int),_)) rfl ?_;nofun;refine DV (fun i=>1≤i∧i≤12) (by intro x hx;simp at hx;lia) (A.push (o:=.lst []) rfl) fun i h2 hi A2=>?_;nofun;refine w_next (m:=i+1) A2 (by lia) (by lia) fun m h3 n0 n1 A3=>?_;nofun;refine⟨m,rfl,by lia,by lia,?_⟩;obtain⟨hb,rfl,hbl,A3⟩:=A.pop A3;refine fu (fun i δ h'=>∃(t:List Row)(l':Nat)(d8:Option D)(hb:MH),δ=[some (.ob E.s),some (.ob E.wd),some (.int j),some (.int d),some (.int top),some (.lv (held.map aN)),some (.int most),some (.ob h.length),d8]∧h'=hb++[.lst (cD t)]∧hb.length=h.length∧bu E.W ps d t∧t.length≤i∧l'+bc t=l∧Wb E h0 (R+100*l'+2) l' hb)
  ⟨[],l,_,hb,rfl,by rw[cD],hbl,by unfold bu;trivial,Qq _,by simp[bc],A3⟩ (fun _ _ _ _ _=>rfl) ?_ ?_
 ·rintro q x δ h' hx ⟨t,l',d8,hb,rfl,rfl,hbl,okl,hll,hc,A4⟩;have hq:q < 12:=by
   have:=(Qo.mp hx).1;simp at this
   lia
  have A5:=A4.push (o:=.lst (cD t)) (fU _ t);nofun;refine rv (rA A5.w) ?_;nofun;refine⟨_,rfl,fun z=>?_,fun z=>?_⟩
  ·obtain⟨l1,rfl⟩:∃n,l'=n+1:=⟨l'-1,by have:=Q3 z;lia⟩;nofun;refine rv (rA A5.w) ?_;nofun;refine rv (DU A5.w _) ?_;rw[show((l1+1:Nat):Int)-1=(l1:Int) by lia];have A6:=A5.set l1;nofun;refine nI ?_;nofun;refine⟨dH (xs:=cD t) (by rw[Rl (by have:=A4.lt;lia)];exact tL hbl),?_⟩;nofun;refine hr (R:=R+2) (A6.le (by lia)) G d5 (by lia) fun r l6 h6 okr cr A7=>?_;obtain⟨hb6,rfl,hbl6,A8⟩:=A4.pop A7;nofun;have hl6:=hbl6.trans hbl;refine rv (eB (tL hl6) (by rw[eZ,Qk,show sizeLine=16777216 from rfl];lia)) ?_;rw[JR hl6];nofun;have hcn:bc (t++[r])=bc t+cnt r:=by rw[oh];simp[bc]
   exact⟨t++[r],l6,_,hb6,rfl,by rw[eZ,eZ,QG];rfl,hl6,vC okl (by unfold bu;exact⟨okr,by unfold bu;trivial⟩),by simp;lia,by lia,A8.le (by lia)⟩
  ·nofun;exact⟨t,l',_,hb,rfl,rfl,hbl,okl,by lia,hc,A4⟩
 ·rintro δ h' ⟨t,l',d8,hb,rfl,rfl,hbl,okl,hll,hc,A4⟩;rw[Qk,QU] at hll;nofun;refine rv (a:=(.tup (cD t),hb++[.lst (cD t)])) (by simp only[bV,dq,tL hbl,QT]) ?_;nofun;exact rv (tu hbl A4.C (fun n z=>(nomatch z)) (fU _ t)) (k t l' hb okl (by lia) hc (A4.le (by lia)))
end
theorem BH:∀{xs:List D} {δ:DS} {h:MH} (J:List D->DS->MH->Prop),J [] δ h->(∀ys δ h,J ys δ h->lJ ws h=true)->
  (∀x ys δ h,x∈xs->ys.length < xs.length->J ys δ h->Rn (g x δ h) fun q=>Rn (e q.1 q.2) fun y=>J (ys++[y.1]) q.1 y.2)->Rn (bU ws g bC e xs δ h) fun p=>p.1.length=xs.length∧∃δ',J p.1 δ' p.2
 | [],δ,h,J,hJ,hc,_=>by
  unfold bU;rw[Qp (hc [] δ h hJ)];exact⟨_,rfl,rfl,δ,hJ⟩
 | x::xs,δ,h,J,hJ,hc,ht=>by
  unfold bU;rw[Qp (hc [] δ h hJ)];obtain⟨⟨δ1,h1⟩,e1,⟨y,h2⟩,e2,J1⟩:=ht x [] δ h Qv (Nat.succ_pos _) hJ;obtain⟨⟨ys,h3⟩,e3,a,δ',J2⟩:=BH (ws:=ws) (g:=g) (e:=e) (xs:=xs) (fun ys=>J (y::ys)) J1 (fun ys δ h=>hc (y::ys) δ h) fun x ys δ h hx hl=>ht x (y::ys) δ h (Qs _ hx) (Nat.succ_lt_succ hl);refine⟨(y::ys,h3),?_,congrArg Nat.succ a,δ',J2⟩;rw[e1];dsimp only[Option.bind_some];show((some (true,h1)).bind _)=_;dsimp only[Option.bind_some] at e2 e3 ⊢;rw[Qp rfl,e2];dsimp only[Option.bind_some];rw[e3];rfl
theorem tQ(f:α->D)(xs ys:List α)(h:MH)(hl:xs.length+ys.length≤1000):bp (.lv (xs.map f)) (.lv (ys.map f)) h=some (.lv ((xs++ys).map f),h):=by
 rw[QG];simp only[bp,Dl,gM,QX,Qk];rw[Qp (by rw[show sizeLine=16777216 from rfl];lia)]
theorem M1(P:Prop)[Decidable P](e:Rn (t δ h) fun p=>p=(decide P,h))(q1:P->Rn (x δ h) Q)(q2:¬P->Rn (y δ h) Q):Rn (fh t x y δ h) Q:=by
 refine BG (e.imp ?_);rintro _ rfl;exact⟨fun z=>q1 (Q3 z),fun z=>q2 (of_decide_eq_false z)⟩
theorem gJ(P:Prop)[Decidable P](e:Rn (t δ h) fun p=>p=(decide P,h))(q1:P->Rn (x δ h) (vh b Q))(q2:¬P->Rn (b δ h) Q):Rn (aw (fh t x bH) b δ h) Q:=
 kh (M1 P e q1 fun z=>⟨_,rfl,q2 z⟩)
theorem dT [Decidable P](p:P)(h:MH):(true,h)=(decide P,h):=by rw[Q8 p]
theorem dF [Decidable P](p:¬P)(h:MH):(false,h)=(decide P,h):=by rw[Q7 p]
section
variable {E:En} {f:Nat}
theorem vI{n:Nat}(hlot:DI E f){h0 h:MH}{R l j:Nat}{ps:List Str}{d:Nat}{top:Int}{held:List Lock}{Q:List D×MH->Prop}
  (A:Wb E h0 (R+100*l+12) l h) (hn:n≤3) (G:Cd E.W j ps d top held) (d5:d < 5) (hf:3*(5-d)≤f) (k:∀(lots:List (List Row)) (l':Nat) (h':MH),lots.length=n->(∀t∈lots,t.length≤12∧bu E.W ps (d+1) t)->l'+(lots.map bc).sum=l->Wb E h0 (R+100*l') l' h'->Q (lots.map (fun t=>D.tup (cD t)),h')):
  Rn (bU [] (gN 0) Sm.bC (ay (bT f) (ab (ae 4) (ab (ae 6) (ab (ae 1) (ab (az bp (ae 2) (eK (.int 1))) (ab (ae 5) (ab (ae 3) (ab (eK (.int 2)) ai)))))))) ((List.range n).map fun(k:Nat)=>D.int k) [none,some (.int j),some (.int d),some (.lv (held.map aN)),some (.ob E.s),some (.int top),some (.ob E.wd)] h) Q:=by
 refine(BH (ws:=[]) (fun ys δ h'=>∃(d0:Option D)(lots:List (List Row)) (l':Nat),δ=[d0,some (.int j),some (.int d),some (.lv (held.map aN)),some (.ob E.s),some (.int top),some (.ob E.wd)]∧ys=lots.map (fun t=>D.tup (cD t))∧(∀t∈lots,t.length≤12∧bu E.W ps (d+1) t)∧l'+(lots.map bc).sum=l∧Wb E h0 (R+100*l'+(12-4*lots.length)) l' h') ⟨none,[],l,rfl,rfl,fun _ z=>(nomatch z),by simp,A⟩ (fun _ _ _ _=>rfl) ?_).imp ?_
 ·rintro x _ δ h' hx hys ⟨d0,lots,l',rfl,rfl,bI,hc,A1⟩;rw[Qk,Qk,QU] at hys;nofun;refine hlot (R:=R+(8-4*lots.length)) (d:=d+1) (A1.le (by lia)) G.deep (by lia) (by lia) (by decide) (by decide) fun t l2 h2 okl hll cr A2=>?_;refine⟨_,lots++[t],l2,rfl,by rw[QG];rfl,fun u z=>?_,by simp;lia,A2.le (by rw[QD,Q6];lia)⟩;rcases QS.mp z with z | z
  ·exact bI u z
  ·rw[QC.mp z];exact⟨hll,okl⟩
 ·rintro⟨ys,h2⟩ ⟨hy,_,d0,lots,l',_,he,bI,hc,A1⟩;dsimp only at hy he;subst he;rw[Qk,Qk,QU] at hy;exact k lots l' h2 hy bI hc (A1.le (by lia))
theorem JW(hlot:DI E f)(hlk:Gq E f)(htw:LZ E f):L6 E (f+1):=by
 intro h0 h R l j ps d top held Q A G d5 hf k;have pl:=G.pl;have n1:=E.ok.n1;have n2:=E.ok.n2;have d2:=E.ok.d2;unfold gg;refine ck ?_;nofun;refine w_next (m:=16) A (by decide) (by decide) fun w h1 w0 w1 A1=>?_;refine gJ (w < 2∨(d=5∧w < 11)) ?_ (fun z=>?_) (fun z=>?_)
 ·nofun;refine⟨_,rfl,fun z=>?_,fun z=>?_⟩
  ·have z:w < 2:=by simpa using z
   exact dT (.inl z) _
  ·have z:¬w < 2:=by simpa using z
   nofun;refine⟨_,rfl,fun y=>?_,fun y=>?_⟩
   ·have y0:(d:Int)=5:=by simpa using y
    have y:d=5:=by lia
    nofun;refine⟨_,rfl,?_⟩;rw[show decide (w < 11)=decide (w < 2∨(d=5∧w < 11)) from decide_eq_decide.mpr (by lia)]
   ·have y0:(d:Int)≠5:=by simpa using y
    have y:d≠5:=by lia
    exact dF (by lia) _
 ·nofun;refine rv (fF A1.w) ?_;nofun;refine rv (fG A1.w) ?_;nofun;refine rv (tQ D.str E.W.names E.W.ao _ (by lia)) ?_;nofun;refine Mo (xs:=(E.W.names++E.W.ao).map D.str) A1 (.inl rfl) (by simp;lia) (by simp;lia) fun x h2 hx A2=>?_;obtain⟨w',hw',rfl⟩:=Qz.mp hx;nofun;rw[show D.tup [.str "say",.str w']=aZ (.say w') by rw[aZ]];exact k (.say w') l h2 (by unfold aM;exact hw') (by rw[cnt]) (A2.le (by lia))
 have nd:d=5->11≤w:=by lia
 have w2:2≤w:=by lia
 refine gJ (12 < w∨d=5) ?_ (fun z=>?_) (fun z=>?_)
 ·nofun;refine⟨_,rfl,fun y=>?_,fun y=>?_⟩
  ·have y:12 < w:=by simpa using y
   exact dT (.inl y) _
  ·have y:¬12 < w:=by simpa using y
   nofun;refine⟨_,rfl,?_⟩;rw[show((d:Int)==5)=decide (12 < w∨d=5) by
    rw[Se];simp only[Th,Rk];lia]
 ·nofun;refine Jv (R:=R+100*l) (A1.le (by lia)) G fun r h2 okr cr A2=>?_;nofun;exact k r l h2 (okr d) (by rw[cr]) A2
 have d4:d < 5:=by lia
 refine gJ (w=12∧d < 3∧5 < (l:Int)) ?_ (fun z=>?_) (fun z=>?_)
 ·nofun;refine⟨_,rfl,fun y=>?_,fun y=>?_⟩
  ·have y:w=12:=by simpa using y
   nofun;refine⟨_,rfl,fun x=>?_,fun x=>?_⟩
   ·have x0:(d:Int) < 3:=by simpa using x
    have x:d < 3:=by lia
    nofun;refine rv (rA A1.w) ?_;nofun;refine⟨_,rfl,?_⟩;rw[show decide (5 < (l:Int))=decide (w=12∧d < 3∧5 < (l:Int)) from decide_eq_decide.mpr (by lia)]
   ·have x0:¬(d:Int) < 3:=by simpa using x
    have x:¬d < 3:=by lia
    exact dF (by lia) _
  ·have y:w≠12:=by simpa using y
   exact dF (by lia) _
 ·nofun;refine htw (R:=R) (A1.le (by lia)) G z.2.1 (by lia) (by lia) fun r l2 h2 okr cr A2=>?_;nofun;exact k r l2 h2 okr cr A2
 refine gJ (w=11∨w=12) ?_ (fun z=>?_) (fun z=>?_)
 ·nofun;refine⟨_,rfl,fun y=>?_,fun y=>?_⟩
  ·have y:w=11:=by simpa using y
   exact dT (.inl y) _
  ·have y:w≠11:=by simpa using y
   nofun;refine⟨_,rfl,?_⟩;rw[show(w==12)=decide (w=11∨w=12) by rw[Se];simp only[Th,Rk];lia]
 ·show Rn (aw _ _ _ _) _;nofun;refine rv (eG A1.w) ?_;nofun;refine rv (dh G.hp) ?_;nofun;refine wm A1 pl fun t1 h2 tk1 A2=>?_;nofun;refine rv (eG A2.w) ?_;nofun;refine rv (dh G.hp) ?_;nofun;refine wm A2 pl fun t2 h3 tk2 A3=>?_;nofun;refine⟨_,_,rfl,?_⟩;nofun;refine jw ?_;nofun;refine⟨3,rfl,by lia,by lia,?_⟩;refine vI (n:=3) (R:=R) hlot (A3.le (by lia)) (by lia) G d4 (by lia) fun lots l4 h4 hn bI cr A4=>?_
  match lots,hn with
  | [x,y,v],_=>
   refine⟨by show 3≤sizeLine;decide,?_⟩;nofun;refine rv (a:=(.tup [.tup (cD x),.tup (cD y),.tup (cD v)],_)) rfl ?_;nofun;refine rv (a:=(aZ (.oI t1 t2 x y v),_)) (by rw[aZ];rfl) ?_;nofun;simp only[Qt,Sv,UL,List.sum_nil] at cr;have hx:=bI x (by simp);have hy:=bI y (by simp);have hv:=bI v (by simp);exact k (.oI t1 t2 x y v) l4 h4 (by unfold aM;exact⟨tk1,tk2,d4,hx.1,hy.1,hv.1,hx.2,hy.2,hv.2⟩) (by rw[cnt];lia) A4
 refine gJ (w=10) ?_ (fun z=>?_) (fun z=>?_)
 ·nofun;refine⟨_,rfl,?_⟩;rw[show(w==10)=decide (w=10) by rw[Se];simp only[Th,Rk]]
 ·nofun;refine jw ?_;nofun;refine⟨2,rfl,by lia,by lia,?_⟩;refine vI (n:=2) (R:=R) hlot (A1.le (by lia)) (by lia) G d4 (by lia) fun lots l2 h2 hn bI cr A2=>?_
  match lots,hn with
  | [x,y],_=>
   refine⟨by show 2≤sizeLine;decide,?_⟩;nofun;refine rv (a:=(.tup [.tup (cD x),.tup (cD y)],_)) rfl ?_;nofun;refine rv (a:=(aZ (.either x y),_)) (by rw[aZ];rfl) ?_;nofun;simp only[Qt,Sv,UL,List.sum_nil] at cr;have hx:=bI x (by simp);have hy:=bI y (by simp);exact k (.either x y) l2 h2 (by unfold aM;exact⟨d4,hx.1,hy.1,hx.2,hy.2⟩) (by rw[cnt];lia) A2
 refine gJ (w=9) ?_ (fun z=>?_) (fun z=>?_)
 ·nofun;refine⟨_,rfl,?_⟩;rw[show(w==9)=decide (w=9) by rw[Se];simp only[Th,Rk]]
 ·nofun;refine hlot (R:=R) (d:=d+1) (A1.le (by lia)) G.deep (by lia) (by lia) (by decide) (by decide) fun t l2 h2 okl hll cr A2=>?_;nofun;rw[show D.tup [.str "again",.tup (cD t)]=aZ (.again t) by rw[aZ]];exact k (.again t) l2 h2 (by unfold aM;exact⟨d4,hll,okl⟩) (by rw[cnt];lia) A2
 nofun;refine Mo (xs:=[Str.ofString "within",Str.ofString "within",Str.ofString "within",Str.ofString "within",Str.ofString "ask",Str.ofString "all"].map D.str) A1 (.inl rfl) (by simp) (by simp) fun x h2 hx A2=>?_;obtain⟨w',hw',rfl⟩:=Qz.mp hx;nofun;refine hlk (R:=R) (A2.le (by lia)) G d4 (by lia) (by simp at hw' ⊢;lia) fun r l3 h3 okr cr A3=>?_;nofun;exact k r l3 h3 okr cr A3
end
noncomputable def dU(t:Lock):PyData:=.tuple [.str t.1,nj t.2]
theorem EC(t:Term):yb (bz t)=some (nj t):=by simp only[bz,yb,oH,QX,QT];rfl
theorem yF(t:Lock):yb (aN t)=some (dU t):=by simp only[aN,yb,oH,EC,QX,QT];rfl
theorem k3:∀ts:List Lock,oH (ts.map aN)=some (ts.map dU)
 | []=>rfl
 | c::r=>by simp only[Qt,oH,k3 r,yF,QX,QT]
theorem iy:∀ts:List Lock,PyData.depthAll (ts.map dU)≤2
 | []=>by simp[PyData.depthAll]
 | c::r=>by
  have:=iy r;simp only[Qt,PyData.depthAll,dU,nj,PyData.depth]
  lia
theorem xI{h:MH}{n:Nat}{ls:List Lock}(x:Lock)(e:h[n]?=some (.lst (ls.map aN))):iO (aN x) (.ob n) h=some (.bl (!(ls.map dU).any fun b=>PyData.eqv b (dU x)),h):=by
 have h1:=iy ls;have h2:=iy [x];have h3:(dU x).depth≤60:=by
  simp only[Qt,Sv,PyData.depthAll] at h2
  lia
 unfold iO inD;simp only[fb,e];show((dq (.ob n) h).bind _).map _=_;simp only[dq,e,QX,k3];show(((zH h (aN x)).bind _).map _)=_;rw[show zH h (aN x)=some (dU x) from yF x];dsimp only[Option.bind_some];rw[Qp ⟨h3,by lia⟩];rfl
theorem Kk(r:Rn (ma δ h) fun p=>Rn (mb δ p.2) fun q=>∃xs ys,gM p.1 q.2=some xs∧gM q.1 q.2=some ys∧xs.length+ys.length≤sizeLine∧Q (xs++ys,q.2)):Rn (LY ma mb δ h) Q:=
 a9 (r.imp fun p r=>a9 (r.imp fun q ⟨xs,ys,e1,e2,hl,hq⟩=>⟨_,by rw[e1];dsimp only[Option.bind_some];rw[e2];dsimp only[Option.bind_some];rw[Qp hl],hq⟩))
theorem FC(x:Lock):PyData.eqv (dU x) (dU x)=true:=by
 simp[dU,nj,PyData.eqv,PyData.eqvAll]
theorem GQ(r:Row)(n:Nat):aZ r≠.ob n:=by cases r <;> rw[aZ] <;> exact fun z=>(nomatch z)
theorem Wb.ext(A:Wb E h0 R l h)(C:Cl (h++g)):Wb E (h++g) R l (h++g):=⟨A.S.more _,by rw[QE A.lt.2.2];exact A.w,C,iq.refl _ _ _⟩
theorem Eu(b:iq E.s E.wd h0 h)(k:Gs E h0 R l ps d Q)(r:Row)(ok:aM E.W ps d r)(hc:l'+cnt r=l+1)(A:Wb E h (R+100*l') l' hb)(e:aZ r=x):Rn (leave h x (hb++g)) Q:=
 ⟨_,e ▸ tu A.b.1 A.C (GQ r) (tX _ r),k r l' hb ok hc (A.tr b)⟩
theorem wZ(b:iq E.s E.wd h0 h)(k:Gs E h0 R l ps d Q)(r:Row)(ok:aM E.W ps d r)(hc:l'+cnt r=l+1)(A:Wb E h (R+100*l') l' hb)(e:aZ r=x):Rn (leave h x hb) Q:=by
 have:=Eu (g:=[]) b k r ok hc A e
 rwa [Ru] at this
section
variable {E:En} {f:Nat}
theorem CT(hlot:DI E f):Gq E (f+1):=by
 intro h0 h R l j ps d top held way Q A G d5 hf hw k;obtain⟨dj,hdj⟩:∃f,E.W.ao[j]?=some f:=⟨_,Qr G.hj⟩;have hl:=G.hl;have ht:=G.ht;have b0:=A.b;replace A:=A.here;unfold dQ;refine nF ?_;nofun;refine DW A G (by lia) (fun k1 lk h1 hmx k0 k2 okk A1=>?_) fun h1 _ A1=>?_
 ·nofun;refine rv (a:=(.bl false,_)) rfl ⟨_,rfl,fun z=>(nomatch z),fun _=>?_⟩;refine⟨_,rfl,?_⟩;show Rn (aw _ _ _ _) _;refine gJ (way=Str.ofString "all") ?_ (fun z=>?_) (fun z=>?_)
  ·nofun;refine⟨_,rfl,?_⟩;rw[show(way==Str.ofString "all")=decide (way=Str.ofString "all") by rw[Se];simp only[Th,Rk]]
  ·show Rn (aw _ _ _ _) _;nofun;refine⟨_,_,rfl,?_⟩;nofun;refine jw ?_;nofun;refine DV (is:=[1,1,2,3]) (fun i=>1≤i∧i≤3) (by decide) (A1.push (o:=.lst [aN lk]) rfl) fun i h2 hi A2=>?_;obtain⟨hb2,rfl,e2,A2'⟩:=A1.pop A2;nofun;refine⟨i,rfl,by lia,by lia,?_⟩;refine fu (fun i δ h'=>∃(ls:List Lock)(hi:Int)(n:Nat)(d11 d12 d13:Option D)(hb g:MH),δ=[some (.ob E.s),some (.ob E.wd),some (.int j),some (.int d),some (.int top),some (.lv (held.map aN)),some (.str way),some (.int k1),some (aN lk),some (.ob n),some (.int hi),d11,d12,d13,none]∧h'=hb++g∧h'[n]?=some (.lst (ls.map aN))∧h.length≤n∧lk∈ls∧ls.Nodup∧(∀x∈ls,eW E.W ps x)∧ls.length≤i+1∧0≤hi∧hi < E.W.names.length∧Wb E h (R+100*l+(80-10*i)) l hb∧Cl (hb++g))
    ⟨[lk],k1,h1.length,none,none,none,hb2,[.lst [aN lk]],rfl,rfl,tL e2,by rw[A1.b.1];exact Qq _,by simp,by simp,by simpa using okk,Qq _,k0,k2,A2'.le (by lia),A2.C⟩ (fun _ _ _ _ _=>rfl) ?_ ?_
   ·rintro q x δ h' hx ⟨ls,hi',n,d11,d12,d13,hb,g,rfl,rfl,hn,hnl,hlk,nd,bI,hll,hi0,hi1,A3,C3⟩;have hq:q < 3:=by
     have:=(Qo.mp hx).1;simp at this
     lia
    nofun;refine DW (R:=R+100*l+(80-10*(q+1))) ((A3.ext C3).le (by lia)) G (by lia) (fun k4 lk4 h4 _ k40 k41 okk4 A4=>?_) fun h1 z4 _=>absurd z4 (by lia)
    ·have hn4:h4[n]?=some (.lst (ls.map aN)):=by
      have:=A.lt;rw[A4.b.2 n (by lia) (by lia)];exact hn
     obtain⟨hb4,rfl,e4,A4'⟩:=A3.pop A4;nofun;refine rv (nW _ _ _) ?_;nofun;refine Kk ?_;nofun;refine rv (xI lk4 hn4) ?_;obtain⟨us,v,hv,hus,husl,hnd,hokk⟩:∃(us:List Lock)(v:Int),zf [.bl (!(ls.map dU).any fun b=>PyData.eqv b (dU lk4))] (hb4++g)=some (.int v,hb4++g)∧Ia (.lv [aN lk4]) (.int v) (hb4++g)=some (.lv (us.map aN),hb4++g)∧us.length≤1∧(ls++us).Nodup∧∀x∈ls++us,eW E.W ps x:=by
      cases hb0:((ls.map dU).any fun b=>PyData.eqv b (dU lk4)) with
      | true=>exact⟨[],0,rfl,rfl,by simp,by simpa using nd,by simpa using bI⟩
      | false=>
       have hnot:lk4∉ls:=fun z=>by
        rw[V7] at hb0;exact hb0 (dU lk4) (List.mem_map_of_mem z) (FC lk4)
       refine⟨[lk4],1,rfl,rfl,by simp,?_,?_⟩
       ·rw[RW];refine⟨nd,by simp,fun x hx y hy z=>hnot ?_⟩;rw[QC.mp hy] at z;rw[←z];exact hx
       ·intro x hx;rcases QS.mp hx with z | z
        ·exact bI x z
        ·rw[QC.mp z];exact okk4
     nofun;refine rv hv ?_;nofun;refine rv hus ?_;refine⟨ls.map aN,us.map aN,by simp only[gM,hn4],rfl,by rw[Qk,Qk,show sizeLine=16777216 from rfl];lia,?_⟩;refine⟨ls++us,max hi' k4,(hb4++g).length,_,_,_,hb4,g++[.lst ((ls++us).map aN)],rfl,by rw[QG];exact RC _ _ _,by rw[QG];simp,?_,RF _ hlk,hnd,hokk,by simp;lia,by lia,by lia,A4',?_⟩
     ·have:=A4'.b.1;rw[QD];lia
     ·rw[←RC];exact A4.C.snoc (o:=.lst _) (gd _ _ (rP _) _)
   ·rintro δ h' ⟨ls,hi',n,d11,d12,d13,hb,g,rfl,rfl,hn,hnl,hlk,nd,bI,hll,hi0,hi1,A3,C3⟩;rw[Qk,QU] at hll A3;replace A3:=A3.le (R':=R+100*l+10) (by lia);show Rn (aw _ _ _ _) _;refine kh ?_;refine Rn.imp (Q:=fun r=>∃(ls:List Lock)(g:MH),r=(Fl.nx,[some (.ob E.s),some (.ob E.wd),some (.int j),some (.int d),some (.int top),some (.lv (held.map aN)),some (.str way),some (.int k1),some (aN lk),some (.ob n),some (.int hi'),d11,d12,d13,none],hb++g)∧(hb++g)[n]?=some (.lst (ls.map aN))∧2≤ls.length∧ls.length≤4∧ls.Nodup∧(∀x∈ls,eW E.W ps x)∧Cl (hb++g)) ?_ ?_
    ·nofun;refine rv (BZ hn) ?_;nofun;refine⟨_,rfl,fun z=>?_,fun z=>?_⟩
     ·have z:ls.length=1:=by
       have:((ls.map aN).length:Int)=1:=by simpa using z
       rw[Qk] at this
       lia
      obtain⟨x0,rfl⟩:∃x0,ls=[x0]:=List.length_eq_one_iff.mp z;obtain rfl:lk=x0:=QC.mp hlk;obtain⟨nm,wo,fi⟩:=lk;have hok0:=bI _ (QC.mpr rfl);nofun;refine nI ?_;nofun;refine⟨dH hn,?_⟩;nofun;refine rv (a:=(.str nm,_)) rfl ?_;nofun;refine rv (a:=(bz (wo,fi),_)) rfl ?_;nofun;refine rv (a:=(.str wo,_)) rfl ?_;nofun;refine rv (a:=(bz (wo,fi),_)) rfl ?_;nofun;refine rv (a:=(.int fi,_)) rfl ?_;nofun;refine rv (a:=(bz (wo,fi),_)) rfl ?_;nofun;refine rv (a:=(.int fi,_)) rfl ?_;nofun;obtain⟨v,hv,hm,v1,v0⟩:∃v:Int,zf [.bl (decide (90 < fi))] (hb++g)=some (.int v,hb++g)∧i6 (.int 2) (.int v) (hb++g)=some (.int (2*v),hb++g)∧(90 < fi->v=1)∧(¬90 < fi->v=0):=by
       by_cases z:90 < fi
       ·exact⟨1,by rw[Q8 z];rfl,rfl,fun _=>rfl,fun y=>absurd z y⟩
       ·exact⟨0,by rw[Q7 z];rfl,rfl,fun y=>absurd y z,fun _=>rfl⟩
      refine rv hv ?_;nofun;refine rv hm ?_;nofun;refine rv (eB hn (by rw[Qk,show sizeLine=16777216 from rfl];simp)) ?_;nofun;have hlen:=A3.b.1;rw[Tw _ _ (by lia)];have okf:=hok0.2;have okn:=hok0.1;dsimp only at okn;unfold de at okf;dsimp only at okf;have hvv:v=0∨v=1:=by by_cases z:90 < fi <;> lia
      refine⟨[(nm,wo,fi),(nm,wo,fi+1-2*v)],_,rfl,?_,by simp,by simp,?_,?_,?_⟩
      ·rw[QR (by lia),Ry]
       ·rfl
       ·have:=(Qo.mp hn).1;rw[QD] at this
        lia
      ·simp;lia
      ·intro x hx;rcases QK.mp hx with rfl | hx
       ·exact hok0
       ·rw[QC.mp hx];exact⟨okn,okf.1,by dsimp only;lia,by dsimp only;lia⟩
      ·rw[←Tw _ _ (by lia)];exact C3.set (o:=.lst _) rfl
     ·have z:ls.length≠1:=by
       have:((ls.map aN).length:Int)≠1:=by simpa using z
       rw[Qk] at this
       lia
      have:0 < ls.length:=Vx hlk;exact⟨_,rfl,ls,g,rfl,hn,by lia,by lia,nd,bI,C3⟩
    rintro _ ⟨ls,g,rfl,hn,l2,l4,nd,bI,C4⟩;have A4:=A3.ext C4;show Rn (aw _ _ _ _) _;nofun;refine rv (zK A4.w) ?_;nofun;obtain⟨v,hv,v0,v1⟩:∃v:Int,zf [.bl (E.odd==0)] (hb++g)=some (.int v,hb++g)∧0≤v∧v≤1:=by
     cases E.odd==0
     ·exact⟨0,rfl,by lia,by lia⟩
     ·exact⟨1,rfl,by lia,by lia⟩
    refine rv hv ?_;nofun;refine rv (a:=(.tup (ls.map aN),_)) (by simp only[bV,dq,hn,QT];rfl) ?_;nofun;refine rv (nW _ _ _) ?_;nofun;refine rv (a:=(.lv ((held++ls).map aN),_)) (by
     rw[QG];simp only[bp,Dl,gM,hn,QX,Qk];rw[Qp (by rw[show sizeLine=16777216 from rfl];lia)]) ?_
    nofun;refine hlot (R:=R) (d:=d+1) (A4.le (by lia)) (G.more (n:=1) (by lia) (by lia) bI) (by lia) (by lia) (by decide) (by decide) fun t l5 h5 okl hll5 cr A5=>?_;obtain⟨hb5,rfl,_,A5'⟩:=A3.pop A5;nofun;exact Eu b0 k (.all ls t) (by unfold aM;exact⟨⟨l2,l4,nd,bI⟩,d5,hll5,okl⟩) (by rw[cnt];lia) A5' (by rw[aZ])
  refine kh ?_;nofun;refine rv (nW _ _ _) ?_;nofun;refine rv (tQ aN held [lk] _ (by simp;lia)) ?_;nofun;refine hlot (R:=R+10) (d:=d+1) (A1.le (by lia)) (G.more (n:=1) (ls:=[lk]) (by lia) (by simp) (by simpa using okk)) (by lia) (by lia) (by decide) (by decide) fun t l2 h2 okl hll cr A2=>?_;refine Rn.imp (Q:=_) (gJ (way=Str.ofString "ask") ?_ (fun z=>?_) (fun z=>?_)) fun _ z=>z
  ·nofun;refine⟨_,rfl,?_⟩;rw[show(way==Str.ofString "ask")=decide (way=Str.ofString "ask") by rw[Se];simp only[Th,Rk]]
  ·nofun;refine hlot (R:=R) (d:=d+1) (A2.le (by lia)) G.deep (by lia) (by lia) (by decide) (by decide) fun t3 l3 h3 okl3 hll3 cr3 A3=>?_;nofun;exact wZ b0 k (.ask lk t t3) (by unfold aM;exact⟨okk,d5,hll,hll3,okl,okl3⟩) (by rw[cnt];lia) A3 (by rw[aZ])
  ·nofun;exact wZ b0 k (.within lk t) (by unfold aM;exact⟨okk,d5,hll,okl⟩) (by rw[cnt];lia) (A2.le (by lia)) (by rw[aZ])
 ·nofun;refine rv (a:=(.bl true,_)) rfl ⟨_,rfl,fun _=>?_,fun z=>(nomatch z)⟩;nofun;refine rv (fG A1.w) ?_;nofun;refine rv (dh hdj) ?_;nofun;exact wZ b0 k (.say dj) (by unfold aM;exact QH _ (Qn hdj)) (by rw[cnt]) (A1.le (by lia)) (by rw[aZ])
end
theorem AV(ts:List Lock)(h:MH):nV (.lv (ts.map aN)) (.lv []) h=some (.bl (!ts.isEmpty),h):=by
 have:=iy ts;simp only[nV,Ji,fb,Mf,zH,k3,yb,oH,QT,QX];rw[Qp ⟨show PyData.depthAll _+1≤64 by lia,by decide⟩];cases ts <;> rfl
section
variable {E:En}
theorem JA{f:Nat}(hlot:DI E f):LZ E (f+1):=by
 intro h0 h R l j ps d top held Q A G d3 l5 hf k;have pl:=G.pl;have hl:=G.hl;have ht:=G.ht;have b0:=A.b;replace A:=A.here;obtain⟨dj,hdj⟩:∃f,E.W.ao[j]?=some f:=⟨_,Qr G.hj⟩;obtain⟨fj,hfj⟩:∃f,E.fl[j]?=some f:=⟨_,Qr (by rw[E.ok.Nx];exact G.hj)⟩;have hfm:=E.ok.f0 fj (Qn hfj);have hsay:Rn (leave h (.tup [.str "say",.str dj]) h) Q:=wZ b0 k (.say dj) (by unfold aM;exact QH _ (Qn hdj)) (by rw[cnt]) (A.le (by lia)) (by rw[aZ]);unfold cL;refine nF ?_;nofun;refine rv (oM A.w) ?_;nofun;refine rv (dh hfj) ?_;nofun;refine rv (nW top fj h) ?_;have lo0:0≤max top fj:=by lia
 have lo1:max top fj≤E.W.names.length:=by lia
 generalize max top fj=lo at lo0 lo1 ⊢;refine gJ (lo=E.W.names.length) ?_ (fun z=>?_) (fun z=>?_)
 ·nofun;refine rv (fF A.w) ?_;nofun;refine⟨_,rfl,?_⟩;rw[Qk,show(lo==(E.W.names.length:Int))=decide (lo=E.W.names.length) by rw[Se];simp only[Th,Rk]]
 ·nofun;refine rv (fG A.w) ?_;nofun;refine rv (dh hdj) ?_;nofun;exact hsay
 obtain⟨kn,rfl⟩:=RS lo0;have hkn:kn < E.W.names.length:=by lia
 obtain⟨nm,hnm⟩:∃f,E.W.names[kn]?=some f:=⟨_,Qr hkn⟩;refine kh ?_;nofun;refine eu ?_;nofun;refine⟨_,_,rfl,?_⟩;obtain⟨⟨ys,h4⟩,e4,hyl,hym,δ4,hh4,_⟩:=rE (ws:=[]) (g:=gN 0) (c:=aL (az cu (az ba (ae 0) (eK (.int 0))) (az ba (az ba (ae 2) (eK (.str "names"))) (ae 1)))) (e:=ae 0) (fun x y=>∃l∈held,y=aN l)
  (xs:=held.map aN) (δ:=[none,some (.int kn),some (.ob E.wd)]) (h:=h) (fun j δ h'=>h'=h∧∃d0,δ=[d0,some (.int kn),some (.ob E.wd)]) ⟨rfl,_,rfl⟩ (fun _ _ _ _ _=>rfl) (by
   rintro i x δ h' hx ⟨rfl,d0,rfl⟩;obtain⟨l,hl,rfl⟩:=Qz.mp (Qn hx);nofun;refine rv (a:=(.str l.1,_)) rfl ?_;nofun;refine rv (fF A.w) ?_;nofun;refine rv (dh hnm) ?_;nofun;refine⟨_,rfl,fun _=>?_,fun _=>⟨rfl,_,rfl⟩⟩;nofun;exact⟨⟨l,hl,rfl⟩,rfl,_,rfl⟩)
 dsimp only at hh4;subst hh4;refine rv e4 ⟨QB hyl (by rw[Qk,show sizeLine=16777216 from rfl];lia),?_⟩;obtain⟨ts,rfl⟩:∃ts:List Lock,ys=ts.map aN:=by
  clear e4 hyl
  induction ys with
  | nil=>exact⟨[],rfl⟩
  | cons y r ih=>
   obtain⟨js,rfl⟩:=ih fun z hz=>hym z (Qs _ hz);obtain⟨x,hx,l,hl,rfl⟩:=hym y Qv;exact⟨l::js,rfl⟩
 nofun;refine rv (AV ts _) ⟨_,rfl,fun z=>?_,fun z=>?_⟩
 ·nofun;refine rv (fG A.w) ?_;nofun;refine rv (dh hdj) ?_;nofun;exact hsay
 nofun;refine rv (fF A.w) ?_;nofun;refine rv (dh hnm) ?_;nofun;refine rv (rA A.w) ?_;nofun;refine rv (DU A.w _) ?_;rw[show(l:Int)-5=((l-5:Nat):Int) by lia];have A1:=A.set (l-5);generalize h4.set E.wd (oG E.W E.fl ((l-5:Nat):Int) E.odd)=h5 at A1 ⊢;nofun;refine rv (eG A1.w) ?_;nofun;refine rv (dh G.hp) ?_;nofun;refine wm A1 pl fun t1 h2 tk1 A2=>?_;nofun;refine rv (eG A2.w) ?_;nofun;refine rv (dh G.hp) ?_;nofun;refine wm A2 pl fun t2 h3 tk2 A3=>?_;nofun;refine⟨_,_,rfl,?_⟩;nofun;refine eu ?_;nofun;refine⟨_,_,rfl,?_⟩;have hlen3:=A3.b.1;have okn:=Qn hnm;refine fu (fun i δ h'=>∃(rows:List Row)(l':Nat)(d11 d12 d13:Option D)(hb:MH),δ=[some (.ob E.s),some (.ob E.wd),some (.int j),some (.int d),some (.int top),some (.lv (held.map aN)),some (.int kn),some (.str nm),some (bz t1),some (bz t2),some (.ob h3.length),d11,d12,d13]∧h'=hb++[.lst (rows.map fun r=>.tup [aZ r])]∧rows.length=i∧(∀r∈rows,aM E.W ps (d+1) r)∧l'+(rows.map cnt).sum+5=l+2*i∧Wb E h4 (R+100*l'+(8-4*i)) l' hb)
  ⟨[],l-5,_,_,_,h3,rfl,rfl,rfl,fun _ z=>(nomatch z),by simp;lia,A3.le (by lia)⟩ (fun _ _ _ _ _=>rfl) ?_ ?_
 ·rintro i x δ h' hx ⟨rows,l',d11,d12,d13,hb,rfl,rfl,hrl,hro,hc,A6⟩;have hi:i < 2:=(Qo.mp hx).1;obtain⟨u,v,rfl,uk,vk⟩:∃u v:Term,x=.tup [bz u,bz v]∧de ps u∧de ps v:=by
   rcases QK.mp (Qn hx) with rfl | hx
   ·exact⟨t1,t2,rfl,tk1,tk2⟩
   ·rw[QC.mp hx];exact⟨t2,t1,rfl,tk2,tk1⟩
  have hlb:hb.length=h3.length:=A6.b.1.trans hlen3.symm;generalize hrs:rows.map (fun r=>D.tup [aZ r])=rs;have hcl:gz (hb.length+1) rs=true:=by rw[←hrs];exact gd _ _ (fun r=>by show(i8 _ (aZ r)&&true)=true;rw[tX];rfl) rows
  nofun;refine rv (tQ aN held [(nm,u),(nm,v)] _ (by simp;lia)) ?_;nofun;refine hlot (R:=R+(8-4*(i+1))) (d:=d+3) ((A6.push (o:=.lst rs) hcl).le (by lia)) (G.more (n:=3) (ls:=[(nm,u),(nm,v)]) lo1 (by simp) (by
   intro x hx;rcases QK.mp hx with rfl | z
   ·exact⟨okn,uk⟩
   ·rw[QC.mp z];exact⟨okn,vk⟩)) (by lia) (by lia) (by decide) (by decide) fun t l7 h7 okl hll cr A7=>?_
  obtain⟨hb7,rfl,e7,A7'⟩:=A6.pop A7;have hl7:=e7.trans hlb;nofun;refine nI ?_;nofun;refine⟨dH (tL hl7),?_⟩;nofun;refine rv (eB (tL hl7) (by rw[←hrs,Qk,show sizeLine=16777216 from rfl];lia)) ?_;rw[JR hl7];nofun;have hcn:((rows++[Row.within (nm,u) [Row.within (nm,v) t]]).map cnt).sum=(rows.map cnt).sum+(2+bc t):=by
   rw[QG,Tf];simp[cnt,bc]
   lia
  refine⟨rows++[.within (nm,u) [.within (nm,v) t]],l7,_,_,_,hb7,rfl,?_,by simp[hrl],?_,by rw[hcn];lia,A7'.le (by lia)⟩
  ·rw[QG,hrs];simp[aZ,cD,aN]
  ·intro r hr;rcases QS.mp hr with z | z
   ·exact hro r z
   ·rw[QC.mp z];simp only[aM,bu];exact⟨⟨okn,uk⟩,by lia,by simp,⟨⟨okn,vk⟩,by lia,hll,okl⟩,trivial⟩
 ·rintro δ h' ⟨rows,l',d11,d12,d13,hb,rfl,rfl,hrl,hro,hc,A6⟩
  match rows,hrl with
  | [r0,r1],_=>
   have hc:l'+(([r0,r1]:List Row).map cnt).sum+5=l+2*2:=hc;have hat:(hb++[MO.lst [.tup [aZ r0],.tup [aZ r1]]])[h3.length]?=some (.lst [.tup [aZ r0],.tup [aZ r1]]):=tL (A6.b.1.trans hlen3.symm);show Rn _ _;nofun;refine rv (kK hat (d:=.tup [aZ r0]) rfl) ?_;nofun;refine rv (kK hat (d:=.tup [aZ r1]) rfl) ?_;nofun;refine Eu b0 k (.oI t1 t2 [r0] [.within (nm,t1) []] [r1]) ?_ ?_ (A6.le (by lia)) (by simp[aZ,cD,aN])
   ·simp only[aM,bu];exact⟨tk1,tk2,by lia,by simp,by simp,by simp,⟨hro r0 (by simp),trivial⟩,⟨⟨⟨okn,tk1⟩,by lia,by simp,trivial⟩,trivial⟩,⟨hro r1 (by simp),trivial⟩⟩
   ·simp[cnt,bc] at hc ⊢;lia
theorem ring:∀f,DI E f∧L6 E f∧Gq E f∧LZ E f
 | 0=>⟨fun _ _ _ z=>absurd z (by lia),fun _ _ _ z=>absurd z (by lia),fun _ _ z1 z=>absurd z (by lia),fun _ _ z1 _ z=>absurd z (by lia)⟩
 | f+1=>let⟨a,b,c,d⟩:=ring f;⟨AJ b,JW a c d,CT a,JA a⟩
end
theorem xA{P:Int->Prop}:∀{zs:List D},(∀y∈zs,∃i,y=.int i∧P i)->∃js:List Int,zs=js.map D.int∧∀j∈js,P j
 | [],_=>⟨[],rfl,fun _ z=>(nomatch z)⟩
 | y::r,h=>by
  obtain⟨js,rfl,q⟩:=xA (zs:=r) fun z hz=>h z (Qs _ hz);obtain⟨i,rfl,p⟩:=h y Qv;exact⟨i::js,rfl,fun j hj=>by
   rcases QK.mp hj with rfl | hj
   ·exact p
   ·exact q j hj⟩
theorem De(f:α->D)(xs:List α)(k:Nat)(h:MH):zd (.lv (xs.map f)) none (some (k:Int)) h=some (.lv ((xs.take k).map f),h):=by
 show some (D.lv (cutD (xs.map f) none (some (k:Int))),h)=_;unfold cutD;rw[HT.El,HT.GO,List.drop_zero,Nat.sub_zero,Qk,←List.map_take]
 by_cases z:k≤xs.length
 ·rw[Ux z]
 ·rw[Nat.min_eq_right (by lia),Us (Qq _),Us (by lia)]
theorem Iy{h h0:MH}{s c R:Nat}{cs:List Int}{most odd:Int}{Q:D×MH->Prop}(A:Sb s c cs h0 (R+80) h)(o0:0≤odd)(o1:odd≤1000)(k:∀(W:Wd)(fl:List Int)(hb:MH),rn W fl odd->Sb s c cs h0 R hb->Q (.ob hb.length,hb++[oG W fl most odd])):Rn (gP [.ob s,.int most,.int odd] h) Q:=by
 refine ck ?_;nofun;refine kO (is:=[1,2,2,3,4,6]) (fun i=>1≤i∧i≤6) (by decide) A fun n1 h1 hn1 _ A1=>?_;nofun;refine xW A1 (by lia) (by lia) fun ns h2 nl nk nnd A2=>?_;nofun;refine kO (is:=[1,1,2,2,3,4,6]) (fun i=>1≤i∧i≤6) (by decide) A2 fun n2 h3 hn2 _ A3=>?_;nofun;refine xW A3 (by lia) (by lia) fun ds h4 dl dk dnd A4=>?_;nofun;refine xW A4 (by lia) (by lia) fun ps h5 pl pk pnd A5=>?_;nofun;refine eu ?_;nofun;refine⟨_,_,rfl,?_⟩;obtain⟨⟨ys,h6⟩,e6,a6,δ6,_,A6⟩:=rG (ws:=[]) (g:=gN 0) (e:=ay aV (ab (ae 1) (ab (eK (.lv [.int 0,.int 1,.int 1,.int 2,.int 2,.int 3])) ai))) (fun _ y=>∃i,y=.int i∧0≤i∧i≤3)
  (xs:=ds.map D.str) (δ:=[none,some (.ob s)]) (h:=h5) (fun i δ h'=>(∃d0,δ=[d0,some (.ob s)])∧Sb s c cs h0 (R+18-i) h') ⟨⟨_,rfl⟩,A5⟩ (fun _ _ _ _ _=>rfl) (by
   rintro i x δ h' hx ⟨⟨d0,rfl⟩,A6⟩;have hi:i < 6:=by
    have:=(Qo.mp hx).1;rw[Qk] at this
    lia
   nofun;exact kO (R:=R+18-(i+1)) (is:=[0,1,1,2,2,3]) (fun i=>0≤i∧i≤3) (by decide) (A6.le (by lia)) fun i h7 hi _ A7=>⟨⟨i,rfl,hi⟩,⟨_,rfl⟩,A7⟩)
 have l6:=a6.length;obtain⟨many,rfl,hmany⟩:=xA (P:=fun i=>0≤i∧i≤3) fun y hy=>(let⟨_,_,r⟩:=a6.right y hy;r);dsimp only at l6;rw[Qk,Qk] at l6;rw[Qk] at A6;refine rv e6 ⟨by dsimp only;rw[Qk,show sizeLine=16777216 from rfl];lia,?_⟩;nofun;refine eu ?_;nofun;refine⟨_,_,rfl,?_⟩;obtain⟨⟨ys,h7⟩,e7,a7,δ7,_,A7⟩:=rG (ws:=[]) (g:=gN 0) (e:=ay aY (ab (ae 2) (ab (ay cZ (ab (ae 1) ai)) ai))) (fun _ y=>∃i,y=.int i∧0≤i∧i < ns.length)
  (xs:=ds.map D.str) (δ:=[none,some (.lv (ns.map D.str)),some (.ob s)]) (h:=h6) (fun i δ h'=>(∃d0,δ=[d0,some (.lv (ns.map D.str)),some (.ob s)])∧Sb s c cs h0 (R+12-i) h') ⟨⟨_,rfl⟩,A6.le (by lia)⟩ (fun _ _ _ _ _=>rfl) (by
   rintro i x δ h' hx ⟨⟨d0,rfl⟩,A7⟩;have hi:i < 6:=by
    have:=(Qo.mp hx).1;rw[Qk] at this
    lia
   nofun;rw[Qk];exact gf (R:=R+12-(i+1)) (A7.le (by lia)) (by lia) (by lia) fun r h8 r0 r1 A8=>⟨⟨r,rfl,r0,r1⟩,⟨_,rfl⟩,A8⟩)
 have l7:=a7.length;obtain⟨fls,rfl,hfls⟩:=xA (P:=fun i=>0≤i∧i < ns.length) fun y hy=>(let⟨_,_,r⟩:=a7.right y hy;r);dsimp only at l7;rw[Qk,Qk] at l7;rw[Qk] at A7;refine rv e7 ⟨by dsimp only;rw[Qk,show sizeLine=16777216 from rfl];lia,?_⟩;nofun;refine rv (a:=(.lv ((dY fls).map D.int),h7)) (by
  show(lR (fls.map D.int)).bind _=_;rw[vQ];show(if fls.length < 64 then _ else _)=_;rw[Qp (by lia)]) ?_
 nofun;refine eu ?_;nofun;refine⟨_,_,rfl,?_⟩;have e8:bU [] (gN 0) bC (uV (ae 1) Gw (Gx (ae 0))) (many.map D.int) [none,some (.lv (ps.map D.str))] h7=some ((many.map D.int).filterMap fun d=>match d with | .int k=>some (.lv ((ps.take k.toNat).map D.str)) | _=>none,h7):=
  w5 rfl _ (fun δ=>∃d0,δ=[d0,some (.lv (ps.map D.str))]) ⟨_,rfl⟩ (by
   rintro x hx δ ⟨d0,rfl⟩;obtain⟨k,hk,rfl⟩:=Qz.mp hx;refine rv rfl ⟨rfl,rv rfl ⟨rfl,⟨_,rfl⟩,fun _=>⟨_,rfl,?_⟩,fun z=>(nomatch z)⟩⟩;obtain⟨n,rfl⟩:=RS (hmany k hk).1;nofun;refine⟨_,rfl,rv (De D.str ps n _) ?_⟩;rfl)
 have e9:((many.map D.int).filterMap fun d=>match d with | .int k=>some (D.lv ((ps.take k.toNat).map D.str)) | _=>none)=(many.map fun k=>ps.take k.toNat).map fun ps=>D.lv (ps.map D.str):=by
  rw[Tj,QN];exact congrFun (VF (f:=(fun ps:List Str=>D.lv (ps.map D.str))∘fun k:Int=>ps.take k.toNat)) _
 rw[e9] at e8;refine rv e8 ⟨by dsimp only;rw[Qk,Qk,show sizeLine=16777216 from rfl];lia,?_⟩;nofun;have hfin:∀(a b c d e f:D),Rn (AX (iY (eK (.str "names")) (ae 3) (iY (eK (.str "deeds")) (ae 4) (iY (eK (.str "params")) (ae 5) (iY (eK (.str "floors")) (ae 7) (iY (eK (.str "left")) (ae 1) (iY (eK (.str "odd")) (ae 2) KR)))))) [some (.ob s),some (.int most),some (.int odd),some a,some b,some c,some d,some e] h7) fun p=>p=(.ob h7.length,h7++[.dct [(.inr (Str.ofString "names"),a),(.inr (Str.ofString "deeds"),b),(.inr (Str.ofString "params"),c),(.inr (Str.ofString "floors"),e),(.inr (Str.ofString "left"),.int most),(.inr (Str.ofString "odd"),.int odd)]]):=fun a b c d e f=>⟨_,rfl,rfl⟩;refine(hfin _ _ _ _ _ .cN).imp ?_;rintro _ rfl;nofun;refine k ⟨ns,ds,many.map fun k=>ps.take k.toNat⟩ (dY fls) h7 ⟨?_,?_,?_,?_,?_,?_,?_,?_,o0,o1,nk,dk,?_,nnd,dnd,?_⟩ (A7.le (by lia))
 ·show 1≤ns.length;lia
 ·show ns.length≤6;lia
 ·show 1≤ds.length;lia
 ·show ds.length≤6;lia
 ·show(many.map _).length=ds.length;rw[Qk];lia
 ·intro q hq;obtain⟨k,hk,rfl⟩:=Qz.mp hq;rw[QP];have:=pl
  lia
 ·show(dY fls).length=ds.length;rw[(du fls).length_eq];lia
 ·intro f hf;exact hfls f ((du fls).mem_iff.mp hf)
 ·intro q hq w hw;obtain⟨k,hk,rfl⟩:=Qz.mp hq;exact pk w (UA hw)
 ·intro q hq;obtain⟨k,hk,rfl⟩:=Qz.mp hq;exact pnd.sublist (UW _ _)
end Mi
namespace Pg
open PySem Sm L2
abbrev gh:=Str×List Str×List Row
structure Prog where
 names:List Str
 ao:List gh
noncomputable def cA(d:gh):D:=.tup [.str d.1,.tup (d.2.1.map D.str),.tup (cD d.2.2)]
noncomputable def eY(P:Prog):D:=.tup [.tup (P.names.map D.str),.tup (P.ao.map cA)]
structure IL(W:Wd)(most:Nat)(P:Prog):Prop where
 nm:P.names=cH W.names
 dl:P.ao.length=W.ao.length
 dd:∀(j:Nat)(d:gh),P.ao[j]?=some d->W.ao[j]?=some d.1∧W.params[j]?=some d.2.1∧bu W d.2.1 1 d.2.2∧d.2.2.length≤12
 ct:(P.ao.map fun d=>bc d.2.2).sum≤most
end Pg
namespace Mi
open PySem Sm L2 Pg
theorem xP(n:Nat)(d:gh):i8 n (cA d)=true:=by
 show(true&&(gz n (d.2.1.map D.str)&&(gz n (cD d.2.2)&&true)))=true;rw[i7,fU];rfl
theorem B7(n:Nat)(P:Prog):i8 n (eY P)=true:=by
 show(gz n (P.names.map D.str)&&(gz n (P.ao.map cA)&&true))=true;rw[i7,gd n _ (xP n)];rfl
theorem rN{α:Type}{f:α->D}{xs:List α}{i:Nat}{x:D}(h:(jK 0 (xs.map f))[i]?=some x):∃a,xs[i]?=some a∧x=.tup [.int (i:Int),f a]:=by
 rw[pZ,Qy] at h;cases e:xs[i]? with
 | none=>rw[e] at h;cases h
 | some a=>
  rw[e] at h;cases h;exact⟨a,rfl,by rw[SX]⟩
theorem Wb.out(C:Cl h)(B:Sb E.s E.c E.cs h R' h0)(e:E.wd=h0.length)(A:Wb E (h0++[o]) R l h1):∃hb o',h1=hb++[o']∧Sb E.s E.c E.cs h R hb∧Cl hb:=by
 have b:=A.b;obtain⟨hs,hc⟩:=B.S.lt;have hl:h1.length=h0.length+1:=by rw[b.1];simp
 have hx:h0.length < h1.length:=by lia
 have ee:h1=h1.take h0.length++[h1[h0.length]'hx]:=by rw[List.take_append_getElem,Us (by lia)]
 have bb:x9 E.s h0 (h1.take h0.length):=⟨by rw[QP];lia,fun k hk=>by
  by_cases z:k < h0.length
  ·rw[Ra z,b.2 k hk (by lia),QE z]
  ·rw[Rr (by rw[QP];lia),Rr (by lia)]⟩
 have S:=A.S;rw[ee] at S;have S':=S.cut (by rw[bb.1];exact hs) (by rw[bb.1];exact hc);exact⟨_,_,ee,⟨S',B.b.trans bb⟩,C.but S' (B.b.trans bb)⟩
theorem DB{h h0:MH}{s c R most:Nat}{cs:List Int}{odd:Int}{Q:D×MH->Prop}(A:Sb s c cs h0 (R+100*most+120) h)(C:Cl h)(o0:0≤odd)(o1:odd≤1000)(k:∀(W:Wd)(fl:List Int)(P:Prog)(h1:MH),rn W fl odd->IL W most P->Sb s c cs h0 R h1->Cl h1->Q (eY P,h1)):Rn (fV [.ob s,.int most,.int odd] h) Q:=by
 refine nF ?_;nofun;refine Iy (R:=R+100*most+40) A.S.sb o0 o1 fun W fl hb ok A1=>?_;obtain⟨lt1,lt2⟩:=A1.S.lt;have d2:=ok.d2;have n1:=ok.n1;have n2:=ok.n2;have hlen:=A1.b.1;let E:En:=⟨s,c,hb.length,cs,W,fl,odd,ok,by lia,by lia⟩;have B0:Wb E (hb++[oG W fl most odd]) (R+100*most+40) most (hb++[oG W fl most odd]):=⟨A1.S.more _,tL rfl,(C.but A1.S A1.b).snoc (Bd _ _ _ _ _),iq.refl _ _ _⟩;nofun;refine nG ?_;nofun;refine rv (fG (B0.push (o:=.lst []) rfl).w) ?_;nofun;refine⟨_,_,_,rfl,rfl,?_⟩;have hobl:(hb++[oG W fl most odd]).length=h.length+1:=by simp[hlen]
 rw[hobl];refine fu (fun i δ h'=>∃(dds:List gh)(l':Nat)(d5 d6 d7:Option D)(hw:MH),δ=[some (.ob s),some (.int most),some (.int odd),some (.ob hb.length),some (.ob (h.length+1)),d5,d6,d7]∧h'=hw++[.lst (dds.map cA)]∧hw.length=h.length+1∧dds.length=i∧(∀(j:Nat)(d:gh),dds[j]?=some d->W.ao[j]?=some d.1∧W.params[j]?=some d.2.1∧bu W d.2.1 1 d.2.2∧d.2.2.length≤12)∧l'+(dds.map fun d=>bc d.2.2).sum=most∧Wb E (hb++[oG W fl most odd]) (R+100*l'+(40-5*i)) l' hw)
  ⟨[],most,_,_,_,_,rfl,rfl,hobl,rfl,fun _ _ z=>by simp at z,by simp,B0⟩ (fun _ _ _ _ _=>rfl) ?_ ?_
 ·rintro i x δ h' hx ⟨dds,l',d5,d6,d7,hw,rfl,rfl,hwl,hdl,hdd,hc,A6⟩;obtain⟨dn,hdn,rfl⟩:=rN hx;have hi:i < W.ao.length:=(Qo.mp hdn).1;obtain⟨ps,hps⟩:∃f,W.params[i]?=some f:=⟨_,Qr (by rw[ok.pl];exact hi)⟩;nofun;refine DV (E:=E) (R:=R+100*l'+(39-5*i)) (is:=[1,2,3,4,12]) (fun i=>1≤i∧i≤12) (by decide) ((A6.push (o:=.lst (dds.map cA)) (gd _ _ (xP _) dds)).le (by lia)) fun mo h7 hmo A7=>?_;nofun;refine(ring (E:=E) 20).1 (R:=R+(40-5*(i+1))) (d:=1) (held:=[]) (A7.le (by lia)) ⟨hps,hi,by decide,show(-1:Int)≤W.names.length by lia,fun _ z=>(nomatch z),by simp⟩ (by decide) (by decide) hmo.1 hmo.2 fun t l8 h8 okl hll cr A8=>?_;have w8:=A8.w;obtain⟨hw8,rfl,e8,A8'⟩:=A6.pop A8;have hl8:=e8.trans hwl;nofun;refine nI ?_;nofun;refine⟨dH (tL hl8),?_⟩;nofun;refine rv (eG w8) ?_;nofun;refine rv (dh hps) ?_;nofun;refine rv (a:=(.tup (ps.map D.str),_)) rfl ?_;nofun;refine rv (eB (tL hl8) (by rw[Qk,show sizeLine=16777216 from rfl];lia)) ?_;rw[JR hl8];nofun;have hcn:((dds++[(dn,ps,t)]).map fun d:gh=>bc d.2.2).sum=(dds.map fun d:gh=>bc d.2.2).sum+bc t:=by
   rw[QG,Tf];simp
  refine⟨dds++[(dn,ps,t)],l8,_,_,_,hw8,rfl,by rw[QG];rfl,hl8,by simp[hdl],?_,by rw[hcn];lia,A8'.le (by lia)⟩;intro j d hj
  by_cases z:j < dds.length
  ·rw[QE z] at hj;exact hdd j d hj
  ·rw[QR (by lia)] at hj;have hj0:j-dds.length=0:=by
    have:=(Qo.mp hj).1;simp at this
    lia
   rw[hj0] at hj;cases hj;obtain rfl:j=i:=by lia
   exact⟨hdn,hps,okl,hll⟩
 ·rintro δ h' ⟨dds,l',d5,d6,d7,hw,rfl,rfl,hwl,hdl,hdd,hc,A6⟩;rw[eP,Qk] at hdl;have w6:=(A6.push (o:=.lst (dds.map cA)) (gd _ _ (xP _) dds)).w;have hat:(hw++[MO.lst (dds.map cA)])[h.length+1]?=some (.lst (dds.map cA)):=tL hwl;obtain⟨hb',o',rfl,B9,C9⟩:=Wb.out (E:=E) C A1 rfl A6;nofun;refine rv (fF w6) ?_;nofun;refine rv (a:=(.lv ((cH W.names).map D.str),_)) (by
   show(jV (W.names.map D.str)).bind _=_;rw[iV];show(if W.names.length < 64 then _ else _)=_;rw[Qp (by lia)]) ?_
  nofun;refine rv (a:=(.tup ((cH W.names).map D.str),_)) rfl ?_;nofun;refine rv (a:=(.tup (dds.map cA),_)) (by simp only[bV,dq,hat,QT];rfl) ?_;nofun;rw[RC];exact rv (tu B9.b.1 C9 (fun n z=>(nomatch z)) (B7 _ ⟨cH W.names,dds⟩)) (k W fl ⟨cH W.names,dds⟩ hb' ok ⟨rfl,hdl,hdd,by show _≤_;dsimp only;lia⟩ ⟨B9.S.le (by lia),A.b.trans B9.b⟩ C9)
end Mi
namespace Pg
open PySem Sm L2
noncomputable def pU(l:List Row):D:=.tup (cD l)
noncomputable def aJ:Row->List (List Row)
 | .say _=>[]
 | .call _ _=>[]
 | .within _ b=>[b]
 | .all _ b=>[b]
 | .ask _ b e=>[b,e]
 | .oI _ _ a b c=>[a,b,c]
 | .either a b=>[a,b]
 | .again a=>[a]
mutual
noncomputable def bE(p:List Nat):Row->List (List Nat×Row)
 | .say _=>[]
 | .call _ _=>[]
 | .within _ b=>aU (p++[0]) 0 b
 | .all _ b=>aU (p++[0]) 0 b
 | .ask _ b e=>aU (p++[0]) 0 b++aU (p++[1]) 0 e
 | .oI _ _ a b c=>aU (p++[0]) 0 a++(aU (p++[1]) 0 b++aU (p++[2]) 0 c)
 | .either a b=>aU (p++[0]) 0 a++aU (p++[1]) 0 b
 | .again a=>aU (p++[0]) 0 a
noncomputable def aU(a:List Nat)(k:Nat):List Row->List (List Nat×Row)
 | []=>[]
 | r::rs=>(a++[k],r)::(bE (a++[k]) r++aU a (k+1) rs)
end
noncomputable def fR(p:List Nat):Nat->List (List Row)->List (List Nat×Row)
 | _,[]=>[]
 | k,l::ls=>aU (p++[k]) 0 l++fR p (k+1) ls
theorem CI(p:List Nat)(r:Row):bE p r=fR p 0 (aJ r):=by
 cases r <;> simp[bE,aJ,fR]
theorem mI(a:List Nat):∀(k:Nat)(x y:List Row),aU a k (x++y)=aU a k x++aU a (k+x.length) y
 | k,[],y=>by simp[aU]
 | k,r::x,y=>by simp[aU,mI a (k+1) x y,UU,UT]
theorem pT(p:List Nat):∀(k:Nat)(x y:List (List Row)),fR p k (x++y)=fR p k x++fR p (k+x.length) y
 | k,[],y=>by simp[fR]
 | k,r::x,y=>by simp[fR,pT p (k+1) x y,UU,UT]
mutual
noncomputable def df:Row->Nat
 | .say _=>0
 | .call _ _=>0
 | .within _ b=>cF b
 | .all _ b=>cF b
 | .ask _ b e=>max (cF b) (cF e)
 | .oI _ _ a b c=>max (cF a) (max (cF b) (cF c))
 | .either a b=>max (cF a) (cF b)
 | .again a=>cF a
noncomputable def cF:List Row->Nat
 | []=>1
 | r::rs=>max (1+df r) (cF rs)
end
theorem pR{lot:List Row}{r:Row}(h:r∈lot):1+df r≤cF lot:=by
 induction lot with
 | nil=>cases h
 | cons x xs ih=>
  rw[cF];rcases QK.mp h with rfl | h
  ·lia
  ·have:=ih h;lia
theorem pQ{r:Row}{l:List Row}(h:l∈aJ r):cF l≤df r:=by
 cases r <;> simp[aJ] at h
 case within=>subst h;simp[df]
 case all=>subst h;simp[df]
 case ask=>rcases h with rfl | rfl <;> rw[df] <;> lia
 case oI=>rcases h with rfl | rfl | rfl <;> rw[df] <;> lia
 case either=>rcases h with rfl | rfl <;> rw[df] <;> lia
 case again=>subst h;simp[df]
theorem FL(r:Row):cnt r=1+((aJ r).map bc).sum:=by cases r <;> simp[cnt,aJ] <;> lia
mutual
theorem Ap(p:List Nat):∀r:Row,1+(bE p r).length=cnt r
 | .say _=>by simp[bE,cnt]
 | .call _ _=>by simp[bE,cnt]
 | .within _ b=>by simp[bE,cnt,bF (p++[0]) 0 b]
 | .all _ b=>by simp[bE,cnt,bF (p++[0]) 0 b]
 | .ask _ b e=>by simp[bE,cnt,bF (p++[0]) 0 b,bF (p++[1]) 0 e];lia
 | .oI _ _ a b c=>by simp[bE,cnt,bF (p++[0]) 0 a,bF (p++[1]) 0 b,bF (p++[2]) 0 c];lia
 | .either a b=>by simp[bE,cnt,bF (p++[0]) 0 a,bF (p++[1]) 0 b];lia
 | .again a=>by simp[bE,cnt,bF (p++[0]) 0 a]
theorem bF(a:List Nat):∀(k:Nat)(l:List Row),(aU a k l).length=bc l
 | k,[]=>by simp[aU,bc]
 | k,r::rs=>by
  have:=Ap (a++[k]) r;have:=bF a (k+1) rs;simp[aU,bc];lia
end
mutual
theorem mP{W:Wd}{ps:List Str}:∀(n:Nat)(r:Row),aM W ps n r->n≤5->df r≤5-n
 | n,.say _,_,_=>by simp[df]
 | n,.call _ _,_,_=>by simp[df]
 | n,.within _ b,h,hn=>by rw[aM] at h;have:=bZ (n+1) b h.2.2.2 h.2.1;rw[df];lia
 | n,.all _ b,h,hn=>by rw[aM] at h;have:=bZ (n+1) b h.2.2.2 h.2.1;rw[df];lia
 | n,.ask _ b e,h,hn=>by rw[aM] at h;have:=bZ (n+1) b h.2.2.2.2.1 h.2.1;have:=bZ (n+1) e h.2.2.2.2.2 h.2.1;rw[df];lia
 | n,.oI _ _ a b c,h,hn=>by
  rw[aM] at h;obtain⟨_,_,h0,_,_,_,h1,h2,h3⟩:=h;have:=bZ (n+1) a h1 h0;have:=bZ (n+1) b h2 h0;have:=bZ (n+1) c h3 h0;rw[df];lia
 | n,.either a b,h,hn=>by
  rw[aM] at h;obtain⟨h0,_,_,h1,h2⟩:=h;have:=bZ (n+1) a h1 h0;have:=bZ (n+1) b h2 h0;rw[df];lia
 | n,.again a,h,hn=>by
  rw[aM] at h;obtain⟨h0,_,h1⟩:=h;have:=bZ (n+1) a h1 h0;rw[df];lia
theorem bZ{W:Wd}{ps:List Str}:∀(n:Nat)(l:List Row),bu W ps n l->n≤5->cF l≤6-n
 | n,[],_,hn=>by simp[cF];lia
 | n,r::rs,h,hn=>by
  rw[bu] at h;have:=mP n r h.1 hn;have:=bZ n rs h.2 hn;rw[cF];lia
end
noncomputable def xt(n:Nat):D:=.int (n:Int)
noncomputable def lN(p:List Nat):D:=.tup (p.map xt)
noncomputable def qp(x:List Nat×Row):D:=.tup [lN x.1,aZ x.2]
end Pg
namespace Mi
open PySem Sm L2 Pg
theorem Ir(n:Nat)(x:List Nat×Row):i8 n (qp x)=true:=by
 show(gz n (x.1.map xt)&&(i8 n (aZ x.2)&&true))=true;rw[gd n _ (fun _=>rfl),tX];rfl
theorem p9(h:MH):x3 h h=true:=by
 induction h with
 | nil=>rfl
 | cons o r ih=>show(DE o o&&x3 r r)=true;rw[DD,ih];rfl
theorem vK{H:MH}{xs:List D}(hc:gz H.length xs=true):leave H (.ob H.length) (H++[.lst xs])=some (.lv xs,H):=by
 have h3:wu H.length (H++[.lst xs]) (.ob H.length)=.lv xs:=by
  show(if H.length < H.length then _ else _)=_;rw[Qu (Tc _)];simp
 unfold leave;rw[h3,Sr (Qq _),QZ,p9];show(if(gz H.length xs&&_)=true then _ else _)=_;rw[hc];rfl
theorem nP(r:Row)(h:MH):gR [aZ r] h=some (.tup ((aJ r).map pU),h):=by
 have e:Rn (gR [aZ r] h) fun p=>p=(.tup ((aJ r).map pU),h):=by
  refine ck ?_;cases r <;> rw[aZ] <;> (nofun;refine rv rfl ?_;nofun;refine rv rfl ?_;dsimp only;refine⟨_,rfl,?_⟩;nofun;refine rv rfl ?_;rfl)
 obtain⟨p,e1,rfl⟩:=e;exact e1
theorem Dk{xs ys:List D}{h:MH}(hl:xs.length+ys.length≤10000):bp (.tup xs) (.tup ys) h=some (.tup (xs++ys),h):=by
 cases xs with
 | nil=>rfl
 | cons x xs=>
  show(if xs.length+1+ys.length≤sizeLine then some (D.tup (x::xs++ys),h) else none)=_;rw[Qp (by rw[show sizeLine=16777216 from rfl];rw[QI] at hl;lia)]
theorem tj{h:MH}{n:Nat}{xs ys:List D}(e:h[n]?=some (.lst xs))(hl:xs.length+ys.length≤1000000):k9 (.ob n) [.lv ys] h=some (.cN,h.set n (.lst (xs++ys))):=by
 unfold k9;dsimp only;rw[e];show(if xs.length+ys.length≤sizeLine then _ else _)=_;rw[Qp (by rw[show sizeLine=16777216 from rfl];lia)]
theorem sm{H:MH}{o o':MO}:(H++[o]).set H.length o'=H++[o']:=by
 rw[Tw _ _ (Qq _),Vw];rfl
theorem i5{H:MH}{o:MO}:(H++[o])[H.length]?=some o:=by simp
theorem vT(a:List Nat)(i:Nat)(hl:a.length≤1000)(h:MH):bp (lN a) (.tup [.int (i:Int)]) h=some (lN (a++[i]),h):=by
 show bp (.tup (a.map xt)) (.tup [xt i]) _=_;rw[Dk (by rw[Qk];simp;lia)];simp[lN]
theorem sQ:∀(n:Nat)(lot:List Row)(ahead:List Nat)(h:MH),cF lot≤n->bc lot≤1000->ahead.length+2*n≤100->eD n [.tup (cD lot),lN ahead] h=some (.lv ((aU ahead 0 lot).map qp),h)
 | 0,lot,ahead,h,hn,hc,ha=>by
  exfalso;cases lot with
  | nil=>simp[cF] at hn
  | cons r rs=>rw[cF] at hn;lia
 | n+1,lot,ahead,h,hn,hc,ha=>by
  have e:Rn (eD (n+1) [.tup (cD lot),lN ahead] h) fun p=>p=(.lv ((aU ahead 0 lot).map qp),h):=by
   unfold eD;refine nF ?_;nofun;refine nG ?_;nofun;refine⟨_,_,_,rfl,rfl,?_⟩;rw[eZ];refine fu (fun i δ h'=>∃(d3 d4 d5 d6 d7:Option D),δ=[some (.tup (lot.map aZ)),some (lN ahead),some (.ob h.length),d3,d4,d5,d6,d7]∧h'=h++[.lst ((aU ahead 0 (lot.take i)).map qp)])
    ⟨_,_,_,_,_,rfl,by simp[aU]⟩ (fun _ _ _ _ _=>rfl) ?_ ?_
   ·rintro i x δ h' hx ⟨d3,d4,d5,d6,d7,rfl,rfl⟩;obtain⟨r,hr,rfl⟩:=rN hx;have hrm:=Qn hr;have hi:i < lot.length:=(Qo.mp hr).1;have htk:lot.take (i+1)=lot.take i++[r]:=by
     rw[SO,hr];rfl
    have hpl:aU ahead 0 (lot.take (i+1))=aU ahead 0 (lot.take i)++((ahead++[i],r)::fR (ahead++[i]) 0 (aJ r)):=by
     rw[htk,mI];simp only[aU,CI,QP,Ru,SX];rw[Ux (by lia)]
    have hlen:(aU ahead 0 lot).length≤1000:=by rw[bF];exact hc
    have hsub:(aU ahead 0 (lot.take (i+1))).length≤1000:=by
     have:aU ahead 0 lot=aU ahead 0 (lot.take (i+1))++aU ahead (0+(lot.take (i+1)).length) (lot.drop (i+1)):=by
      rw[←mI,R6]
     rw[this,QD] at hlen
     lia
    generalize aU ahead 0 (lot.take i)=F0 at hpl ⊢;nofun;refine rv (vT ahead i (by lia) _) ?_;nofun;rw[hpl,QD,QI] at hsub;refine nI ?_;nofun;refine⟨dH i5,?_⟩;nofun;refine rv (eB i5 (by rw[Qk,show sizeLine=16777216 from rfl];lia)) ?_;nofun;rw[sm];refine nG ?_;nofun;refine rv (nP r _) ?_;nofun;refine⟨_,_,_,rfl,rfl,?_⟩;refine fu (fun j δ h'=>∃(d6 d7:Option D),δ=[some (.tup (lot.map aZ)),some (lN ahead),some (.ob h.length),some (.int i),some (aZ r),some (lN (ahead++[i])),d6,d7]∧h'=h++[.lst ((F0++((ahead++[i],r)::fR (ahead++[i]) 0 ((aJ r).take j))).map qp)])
     ⟨_,_,rfl,by simp[fR,qp]⟩ (fun _ _ _ _ _=>rfl) ?_ ?_
    ·rintro j x δ h' hx ⟨d6,d7,rfl,rfl⟩;obtain⟨l,hl,rfl⟩:=rN hx;have hlm:=Qn hl;have hj:j < (aJ r).length:=(Qo.mp hl).1;have htk:(aJ r).take (j+1)=(aJ r).take j++[l]:=by
      rw[SO,hl];rfl
     have hpj:fR (ahead++[i]) 0 ((aJ r).take (j+1))=fR (ahead++[i]) 0 ((aJ r).take j)++aU (ahead++[i]++[j]) 0 l:=by
      rw[htk,pT];simp only[fR,QP,Ru,SX];rw[Ux (by lia)]
     have hsub2:(fR (ahead++[i]) 0 ((aJ r).take (j+1))).length≤(fR (ahead++[i]) 0 (aJ r)).length:=by
      have:fR (ahead++[i]) 0 (aJ r)=fR (ahead++[i]) 0 ((aJ r).take (j+1))++fR (ahead++[i]) (0+((aJ r).take (j+1)).length) ((aJ r).drop (j+1)):=by
       rw[←pT,R6]
      rw[this,QD]
      lia
     rw[hpj,QD] at hsub2;have ih:=fun hh=>sQ n l (ahead++[i]++[j]) hh (by have:=pR hrm;have:=pQ hlm;lia) (by rw[←bF (ahead++[i]++[j]) 0];lia) (by simp;lia);nofun;refine nI ?_;nofun;refine⟨dH i5,?_⟩;nofun;refine rv (vT (ahead++[i]) j (by simp;lia) _) ?_;nofun;refine rv (ih _) ?_;nofun;refine rv (tj i5 (by rw[Qk,Qk,QD,QI];lia)) ?_;nofun;rw[sm,←QG];refine⟨_,_,rfl,?_⟩;rw[hpj];simp
    ·rintro δ h' ⟨d6,d7,rfl,rfl⟩;rw[eP,Qk,QZ];nofun;exact⟨_,_,_,_,_,rfl,by rw[hpl]⟩
   ·rintro δ h' ⟨d3,d4,d5,d6,d7,rfl,rfl⟩;rw[eP,Qk,QZ];nofun;exact rv (vK (gd _ _ (Ir _) _)) rfl
  obtain⟨p,e1,rfl⟩:=e;exact e1
end Mi
namespace Pg
open PySem Sm L2
noncomputable def placesFrom:Nat->List gh->List (Nat×List Nat×Row)
 | _,[]=>[]
 | k,d::ds=>(aU [] 0 d.2.2).map (fun x=>(k,x.1,x.2))++placesFrom (k+1) ds
noncomputable def mJ(x:Nat×List Nat×Row):D:=.tup [xt x.1,lN x.2.1,aZ x.2.2]
noncomputable def rowAt(x:Nat×List Nat×Row):D:=.tup [xt x.1,aZ x.2.2]
theorem g7:∀(k:Nat)(x y:List gh),placesFrom k (x++y)=placesFrom k x++placesFrom (k+x.length) y
 | k,[],y=>by simp[placesFrom]
 | k,d::x,y=>by simp[placesFrom,g7 (k+1) x y,UU,UT]
theorem dc:∀(k:Nat)(ds:List gh),(placesFrom k ds).length=(ds.map fun d=>bc d.2.2).sum
 | _,[]=>rfl
 | k,d::ds=>by simp[placesFrom,dc (k+1) ds,bF]
theorem wA:∀{ds:List gh} {d:gh},d∈ds->bc d.2.2≤(ds.map fun d=>bc d.2.2).sum
 | x::r,d,h=>by
  rw[Qt,UL];rcases QK.mp h with rfl | h
  ·lia
  ·have:=wA h;lia
structure Od(P:Prog):Prop where
 nd:∀d∈P.ao,cF d.2.2≤6
 ct:(P.ao.map fun d=>bc d.2.2).sum≤1000
 dl:P.ao.length≤1000
theorem IL.fit{W:Wd}{m:Nat}{P:Prog}(o:IL W m P)(hm:m≤1000)(hd:W.ao.length≤6):Od P:=by
 refine⟨fun d hd=>?_,QB o.ct hm,by rw[o.dl];lia⟩;obtain⟨j,hj⟩:=R8.mp hd;obtain⟨_,_,ok,_⟩:=o.dd j d hj;have:=bZ 1 d.2.2 ok (by lia)
 lia
end Pg
namespace Mi
open PySem Sm L2 Pg
theorem FO(n:Nat)(x:Nat×List Nat×Row):i8 n (mJ x)=true:=by
 show(true&&(gz n (x.2.1.map xt)&&(i8 n (aZ x.2.2)&&true)))=true;rw[gd n _ (fun _=>rfl),tX];rfl
theorem jF{α:Type}{ws:W}{g:GM}{e:EM}{h:MH}(hc:lJ ws h=true)(f k:α->D)(J:DS->Prop)(xs:List α){δ:DS}(h0:J δ)(ht:∀x∈xs,∀δ,J δ->Rn (g (f x) δ h) fun q=>q.2=h∧J q.1∧Rn (e q.1 h) fun p=>p=(k x,h)):
  bU ws g bC e (xs.map f) δ h=some (xs.map k,h):=by
 induction xs generalizing δ with
 | nil=>rw[Sv];unfold bU;rw[Qp hc];rfl
 | cons x r ih=>
  rw[Qt];unfold bU;rw[Qp hc];obtain⟨⟨δ1,h1⟩,e1,rfl,J1,p,e2,rfl⟩:=ht x Qv δ h0;rw[e1];dsimp only[Option.bind_some] at e2 ⊢;show((some (true,h1)).bind _)=_;dsimp only[Option.bind_some];rw[Qp rfl,e2];dsimp only[Option.bind_some];rw[ih J1 fun y hy=>ht y (Qs _ hy)];rfl
theorem yI{P:Prog}(fit:Od P)(h:MH):gx [eY P] h=some (.lv ((placesFrom 0 P.ao).map mJ),h):=by
 have e:Rn (gx [eY P] h) fun p=>p=(.lv ((placesFrom 0 P.ao).map mJ),h):=by
  refine nF ?_;nofun;refine nG ?_;nofun;refine rv (a:=(.tup (P.ao.map cA),_)) rfl ?_;nofun;refine⟨_,_,_,rfl,rfl,?_⟩;refine fu (fun i δ h'=>∃(d2 d3 d4 d5:Option D),δ=[some (eY P),some (.ob h.length),d2,d3,d4,d5]∧h'=h++[.lst ((placesFrom 0 (P.ao.take i)).map mJ)])
   ⟨_,_,_,_,rfl,by simp[placesFrom]⟩ (fun _ _ _ _ _=>rfl) ?_ ?_
  ·rintro i x δ h' hx ⟨d2,d3,d4,d5,rfl,rfl⟩;obtain⟨d,hd,rfl⟩:=rN hx;have hdm:=Qn hd;have hi:i < P.ao.length:=(Qo.mp hd).1;have htk:P.ao.take (i+1)=P.ao.take i++[d]:=by rw[SO,hd];rfl
   have hpl:placesFrom 0 (P.ao.take (i+1))=placesFrom 0 (P.ao.take i)++(aU [] 0 d.2.2).map fun x=>(i,x.1,x.2):=by
    rw[htk,g7];simp only[placesFrom,QP,Ru,SX];rw[Ux (by lia)]
   have hc:=wA hdm;have ct:=fit.ct;have hlen:(placesFrom 0 P.ao).length≤1000:=by rw[dc];exact ct
   have hsub:(placesFrom 0 (P.ao.take (i+1))).length≤1000:=by
    have:placesFrom 0 P.ao=placesFrom 0 (P.ao.take (i+1))++placesFrom (0+(P.ao.take (i+1)).length) (P.ao.drop (i+1)):=by
     rw[←g7,R6]
    rw[this,QD] at hlen
    lia
   rw[hpl,QD,Qk] at hsub;unfold cA;nofun;refine nI ?_;nofun;refine⟨dH i5,?_⟩;nofun;refine eu ?_;nofun;refine rv (sQ 10 d.2.2 [] _ (QB (fit.nd d hdm) (by decide)) (by lia) (by simp)) ?_;refine⟨_,_,rfl,?_⟩;refine rv (jF rfl qp (fun x=>mJ (i,x.1,x.2)) (fun δ=>∃a b,δ=[a,b,some (.int i)]) (aU [] 0 d.2.2) ⟨_,_,rfl⟩ ?_) ⟨?_,?_⟩
   ·rintro x hx δ ⟨a,b,rfl⟩;unfold qp;nofun;refine⟨rfl,⟨_,_,rfl⟩,?_⟩;nofun;rfl
   ·dsimp only;rw[Qk,show sizeLine=16777216 from rfl]
    lia
   ·nofun;refine rv (tj i5 (by rw[Qk,Qk];lia)) ?_;nofun;rw[sm];refine⟨_,_,_,_,rfl,?_⟩;rw[hpl,QG,QN];rfl
  ·rintro δ h' ⟨d2,d3,d4,d5,rfl,rfl⟩;rw[eP,Qk,QZ];nofun;exact rv (vK (gd _ _ (FO _) _)) rfl
 obtain⟨p,e1,rfl⟩:=e;exact e1
theorem pj{P:Prog}(fit:Od P)(h:MH):eQ [eY P] h=some (.tup ((placesFrom 0 P.ao).map rowAt),h):=by
 have e:Rn (eQ [eY P] h) fun p=>p=(.tup ((placesFrom 0 P.ao).map rowAt),h):=by
  refine ck ?_;nofun;refine eu ?_;nofun;refine rv (yI fit h) ?_;refine⟨_,_,rfl,?_⟩;refine rv (jF rfl mJ rowAt (fun δ=>∃a b c,δ=[a,b,c]) (placesFrom 0 P.ao) ⟨_,_,_,rfl⟩ ?_) ⟨?_,?_⟩
  ·rintro x hx δ ⟨a,b,c,rfl⟩;unfold mJ;nofun;refine⟨rfl,⟨_,_,_,rfl⟩,?_⟩;nofun;rfl
  ·dsimp only;rw[Qk,dc,show sizeLine=16777216 from rfl];have:=fit.ct
   lia
  ·nofun;refine rv (a:=(.tup ((placesFrom 0 P.ao).map rowAt),h)) rfl ?_;nofun
 obtain⟨p,e1,rfl⟩:=e;exact e1
noncomputable def gl(a b:Int)(c:Nat):Nat:=97+((a*((c:Int)-97)+b) % 26).toNat
noncomputable def cw(a b:Int)(w:Str):Str:=⟨(w.cps.toList.map (gl a b)).toArray⟩
theorem Nt(a b:Int)(c:Nat):97≤gl a b c∧gl a b c≤122:=by
 have:=RG (a*((c:Int)-97)+b) (by decide:(0:Int) < 26);unfold gl
 lia
theorem cw_len(a b:Int)(w:Str):(cw a b w).length=w.length:=by
 show(w.cps.toList.map (gl a b)).toArray.size=w.cps.size;simp
theorem cw_low(a b:Int)(w:Str):low (cw a b w):=fun c hc=>by
 have hc:c∈(w.cps.toList.map (gl a b)).toArray:=hc;obtain⟨d,_,rfl⟩:=Qz.mp (U0.mp hc);exact Nt a b d
theorem Lw{a b:Int}(ha:a∈([1,3,5,7,9,11,15,17,19,21,23,25]:List Int)){c d:Nat}(hc:97≤c∧c≤122)(hd:97≤d∧d≤122)(e:gl a b c=gl a b d):c=d:=by
 have key:∀a∈([1,3,5,7,9,11,15,17,19,21,23,25]:List Int),∀c < 26,∀d < 26,(a*((c:Nat):Int)) % 26=(a*((d:Nat):Int)) % 26->c=d:=by decide+kernel
 unfold gl at e;have h1:=Rv (a*((c:Int)-97)+b) (by decide:(26:Int)≠0);have h2:=Rv (a*((d:Int)-97)+b) (by decide:(26:Int)≠0);have e2:(a*((c:Int)-97)+b) % 26=(a*((d:Int)-97)+b) % 26:=by lia
 rw[Int.emod_add_cancel_right] at e2;have:=key a ha (c-97) (by lia) (d-97) (by lia) (by
  rw[show(((c-97:Nat)):Int)=(c:Int)-97 by lia,show(((d-97:Nat)):Int)=(d:Int)-97 by lia];exact e2)
 lia
theorem map_inj{f:Nat->Nat}:∀{l m:List Nat},(∀c∈l,∀d∈m,f c=f d->c=d)->l.map f=m.map f->l=m
 | [],[],_,_=>rfl
 | [],_::_,_,e=>by cases e
 | _::_,[],_,e=>by cases e
 | c::l,d::m,h,e=>by
  rw[Qt,Qt] at e;injection e with e1 e2
  rw[h c Qv d Qv e1,map_inj (fun x hx y hy=>h x (Qs _ hx) y (Qs _ hy)) e2]
theorem cw_inj{a b:Int}(ha:a∈([1,3,5,7,9,11,15,17,19,21,23,25]:List Int)){v w:Str}(hv:low v)(hw:low w)(e:cw a b v=cw a b w):v=w:=by
 obtain⟨v⟩:=v;obtain⟨w⟩:=w;have e1:(v.toList.map (gl a b)).toArray=(w.toList.map (gl a b)).toArray:=congrArg Str.cps e;have e2:=congrArg Array.toList e1;have e3:v.toList=w.toList:=map_inj (fun c hc d hd=>Lw ha (hv c (Rb.mp hc)) (hw d (Rb.mp hd))) e2;rw[U3.mp e3]
theorem join_one:∀cs:List Nat,Str.join (Str.ofString "") (cs.map fun c=>(⟨#[c]⟩:Str))=⟨cs.toArray⟩
 | []=>rfl
 | [c]=>rfl
 | c::d::r=>by
  show(⟨#[c]⟩:Str)++Str.ofString ""++Str.join (Str.ofString "") ((d::r).map fun c=>(⟨#[c]⟩:Str))=_;rw[join_one (d::r)];show(⟨#[c]++#[]++(d::r).toArray⟩:Str)=_;congr 1;simp
theorem yh:∀cs:List Nat,((cs.map fun c=>(⟨#[c]⟩:Str)).map (·.length)).sum=cs.length
 | []=>rfl
 | c::r=>by rw[Qt,Qt,UL,yh r,QI];show 1+_=_;lia
theorem HY{c:Nat}{h:MH}(h1:97≤c)(h2:c≤122):pS (.str (Str.ofString "abcdefghijklmnopqrstuvwxyz")) [.str ⟨#[c]⟩] h=some (.int ((c:Int)-97),h):=by
 have:∀c < 123,97≤c->Builtin.Str.occurrences (Str.ofString "abcdefghijklmnopqrstuvwxyz") ⟨#[c]⟩ 0 (Str.ofString "abcdefghijklmnopqrstuvwxyz").length 1=[c-97]:=by decide+kernel
 unfold pS;dsimp only;rw[this c (by lia) h1];dsimp only;congr 3
 lia
theorem Le{k:Int}{h:MH}(h0:0≤k)(h1:k < 26):ba (.str (Str.ofString "abcdefghijklmnopqrstuvwxyz")) (.int k) h=some (.str ⟨#[97+k.toNat]⟩,h):=by
 have:∀d < 26,il (Str.ofString "abcdefghijklmnopqrstuvwxyz").cps.toList ((d:Nat):Int)=some (97+d):=by decide+kernel
 obtain⟨d,rfl⟩:=RS h0;show(if(Str.ofString "abcdefghijklmnopqrstuvwxyz").length≤sizeLine then(il (Str.ofString "abcdefghijklmnopqrstuvwxyz").cps.toList (d:Int)).map fun c=>(D.str ⟨#[c]⟩,h) else none)=_;rw[Qp (by decide+kernel),this d (by lia)];rfl
theorem IB{a b:Int}{w:Str}{h:MH}(hw:low w)(hl:w.length≤100):cg [.tup [.int a,.int b],.str w] h=some (.str (cw a b w),h):=by
 have ha:w.cps.all (· < 128)=true:=by
  rw[Sn];intro c hc;have:=hw c hc;simp;lia
 refine cX (ck ?_);nofun;refine nI ?_;nofun;refine⟨rfl,?_⟩;refine fv (CF ?_);have e1:AO (ae 1) [some (.tup [.int a,.int b]),some (.str w),some (.str (Str.ofString "abcdefghijklmnopqrstuvwxyz")),some (.int a),some (.int b)] h=some (w.cps.toList.map fun c=>D.str ⟨#[c]⟩,[],h):=by
  show(if w.cps.all (· < 128)=true then _ else _)=_;rw[Qp ha]
 have e2:bq [none,some 4,some 2,some 3] (AO (ae 1)) (gN 0) bC (az ba (ae 2) (az pX (az bp (az i6 (ae 3) (eM isStr pS (ae 2) (ab (ae 0) ai))) (ae 1)) (eK (.int 26)))) [some (.tup [.int a,.int b]),some (.str w),some (.str (Str.ofString "abcdefghijklmnopqrstuvwxyz")),some (.int a),some (.int b)] h=some (w.cps.toList.map fun c=>D.str ⟨#[gl a b c]⟩,h):=by
  unfold bq;rw[e1];show((bU [] (gN 0) bC _ (w.cps.toList.map fun c=>D.str ⟨#[c]⟩) [none,some (.int b),some (.str (Str.ofString "abcdefghijklmnopqrstuvwxyz")),some (.int a)] h).bind _)=_;rw[jF (h:=h) rfl (fun c:Nat=>D.str ⟨#[c]⟩) (fun c=>D.str ⟨#[gl a b c]⟩) (fun δ=>∃v,δ=[v,some (.int b),some (.str (Str.ofString "abcdefghijklmnopqrstuvwxyz")),some (.int a)]) w.cps.toList ⟨_,rfl⟩ (by
   rintro c hc δ ⟨v,rfl⟩;have hc:=hw c (Rb.mp hc);refine⟨_,rfl,rfl,⟨_,rfl⟩,?_⟩;show Rn _ _;nofun;refine nI ?_;nofun;refine⟨rfl,?_⟩;nofun;refine rv (HY hc.1 hc.2) ?_;refine mC (mul_r (by lia) (by lia)) ?_;nofun;refine ke (by decide) ?_;refine rv (Le (Rv _ (by decide)) (RG _ (by decide))) ?_;rfl)]
  show(if _≤sizeLine then _ else _)=_;rw[Qp (by rw[Qk,RA,Q4];have:w.cps.size=w.length:=rfl;lia)]
 refine rv e2 (nE ?_);dsimp only;have e3:(w.cps.toList.map fun c=>D.str ⟨#[gl a b c]⟩)=((w.cps.toList.map (gl a b)).map fun c=>(⟨#[c]⟩:Str)).map D.str:=by rw[QN,QN];rfl
 refine rv (a:=(.str (cw a b w),h)) ?_ ?_
 ·rw[e3];unfold Fd;dsimp only[dq,Option.bind_some];rw[iV];dsimp only[Option.bind_some];rw[Qp (by
   rw[yh,Qk,Qk,RA];have:w.cps.size=w.length:=rfl;have:(Str.ofString "").length=0:=rfl
   lia),join_one]
  rfl
 ·nofun
end Mi
namespace Pg
open PySem Sm L2
section
variable (φ:Str->Str)
noncomputable def rg(t:Term):Term:=(φ t.1,t.2)
noncomputable def yX(l:Lock):Lock:=(φ l.1,rg φ l.2)
mutual
noncomputable def mapR:Row->Row
 | .say w=>.say (φ w)
 | .call d ts=>.call (φ d) (ts.map (rg φ))
 | .within l b=>.within (yX φ l) (dG b)
 | .all ls b=>.all (ls.map (yX φ)) (dG b)
 | .ask l b e=>.ask (yX φ l) (dG b) (dG e)
 | .oI s t a b c=>.oI (rg φ s) (rg φ t) (dG a) (dG b) (dG c)
 | .either a b=>.either (dG a) (dG b)
 | .again a=>.again (dG a)
noncomputable def dG:List Row->List Row
 | []=>[]
 | r::rs=>mapR r::dG rs
end
theorem tf:∀l:List Row,dG φ l=l.map (mapR φ)
 | []=>by simp[dG]
 | r::rs=>by simp[dG,tf rs]
theorem eA(l:List Row):(dG φ l).length=l.length:=by rw[tf,Qk]
noncomputable def gu(d:gh):gh:=(φ d.1,d.2.1.map φ,dG φ d.2.2)
noncomputable def lH(P:Prog):Prog:=⟨cH (P.names.map φ),P.ao.map (gu φ)⟩
noncomputable def E9(W:Wd):Wd:=⟨W.names.map φ,W.ao.map φ,W.params.map (·.map φ)⟩
mutual
theorem Iq:∀r:Row,cnt (mapR φ r)=cnt r
 | .say _=>by simp[mapR,cnt]
 | .call _ _=>by simp[mapR,cnt]
 | .within _ b=>by simp[mapR,cnt,dI b]
 | .all _ b=>by simp[mapR,cnt,dI b]
 | .ask _ b e=>by simp[mapR,cnt,dI b,dI e]
 | .oI _ _ a b c=>by simp[mapR,cnt,dI a,dI b,dI c]
 | .either a b=>by simp[mapR,cnt,dI a,dI b]
 | .again a=>by simp[mapR,cnt,dI a]
theorem dI:∀l:List Row,bc (dG φ l)=bc l
 | []=>by simp[dG,bc]
 | r::rs=>by simp[dG,bc,Iq r,dI rs]
end
mutual
theorem Ao(p:List Nat):∀r:Row,bE p (mapR φ r)=(bE p r).map fun x=>(x.1,mapR φ x.2)
 | .say _=>by simp[mapR,bE]
 | .call _ _=>by simp[mapR,bE]
 | .within _ b=>by simp only[mapR,bE,dA]
 | .all _ b=>by simp only[mapR,bE,dA]
 | .ask _ b e=>by simp only[mapR,bE,dA,QG]
 | .oI _ _ a b c=>by simp only[mapR,bE,dA,QG]
 | .either a b=>by simp only[mapR,bE,dA,QG]
 | .again a=>by simp only[mapR,bE,dA]
theorem dA(a:List Nat):∀(k:Nat)(l:List Row),aU a k (dG φ l)=(aU a k l).map fun x=>(x.1,mapR φ x.2)
 | k,[]=>by simp[dG,aU]
 | k,r::rs=>by simp only[dG,aU,Ao (a++[k]) r,dA a (k+1) rs,Qt,QG]
end
theorem ki:∀(k:Nat)(ds:List gh),placesFrom k (ds.map (gu φ))=(placesFrom k ds).map fun x=>(x.1,x.2.1,mapR φ x.2.2)
 | _,[]=>rfl
 | k,d::ds=>by
  rw[Qt,placesFrom,placesFrom,ki (k+1) ds,QG];congr 1;show(aU [] 0 (dG φ d.2.2)).map _=_;rw[dA,QN,QN];rfl
end
structure N5(φ:Str->Str):Prop where
 nil:φ (Str.ofString "")=Str.ofString ""
 len:∀w,(φ w).length=w.length
 lw:∀w,Mi.low (φ w)
 inj:∀v w,Mi.low v->Mi.low w->φ v=φ w->v=w
section
variable {φ:Str->Str} (C:N5 φ) {W:Wd} {ps:List Str} (hn:∀w∈W.names,Mi.low w) (hp:∀w∈ps,Mi.low w)
include C
theorem ni{t:Term}(o:de ps t):de (ps.map φ) (rg φ t):=by
 refine⟨?_,o.2⟩;rcases o.1 with e | e
 ·exact .inl (by show φ t.1=_;rw[e,C.nil])
 ·exact .inr (Qz.mpr ⟨_,e,rfl⟩)
theorem tq{l:Lock}(o:eW W ps l):eW (E9 φ W) (ps.map φ) (yX φ l):=⟨Qz.mpr ⟨_,o.1,rfl⟩,ni C o.2⟩
include hn hp
omit C in
theorem yg{t:Term}(o:de ps t):Mi.low t.1:=by
 rcases o.1 with e | e
 ·rw[e];exact Mi.xu
 ·exact hp _ e
theorem qw:∀{ls:List Lock},ls.Nodup->(∀l∈ls,eW W ps l)->(ls.map (yX φ)).Nodup
 | [],_,_=>TX
 | l::r,nd,h=>by
  rw[RI] at nd;rw[Qt,RI];refine⟨fun q=>?_,qw nd.2 fun x hx=>h x (Qs _ hx)⟩;obtain⟨m,hm,e⟩:=Qz.mp q;have ol:=h l Qv;have om:=h m (Qs _ hm);have e1:φ m.1=φ l.1:=congrArg Prod.fst e;have e2:rg φ m.2=rg φ l.2:=congrArg Prod.snd e;have e3:=C.inj _ _ (hn _ om.1) (hn _ ol.1) e1;have e4:=C.inj _ _ (yg hn hp om.2) (yg hn hp ol.2) (congrArg Prod.fst e2);have e5:(rg φ m.2).2=(rg φ l.2).2:=congrArg Prod.snd e2;have e5:m.2.2=l.2.2:=e5;have:m=l:=by
   obtain⟨a,b,c⟩:=m;obtain⟨a',b',c'⟩:=l;dsimp only at e3 e4 e5;rw[e3,e4,e5]
  exact nd.1 (this ▸ hm)
mutual
theorem GP:∀(n:Nat)(r:Row),aM W ps n r->aM (E9 φ W) (ps.map φ) n (mapR φ r)
 | n,.say w,o=>by
  rw[aM] at o;rw[mapR,aM];show φ w∈W.names.map φ++W.ao.map φ;rw[←QG];exact Qz.mpr ⟨w,o,rfl⟩
 | n,.call d ts,o=>by
  rw[aM] at o;rw[mapR,aM];obtain⟨⟨j,qs,h1,h2,h3⟩,h4⟩:=o;refine⟨⟨j,qs.map φ,by show(W.ao.map φ)[j]?=_;rw[Qy,h1];rfl,by show(W.params.map (·.map φ))[j]?=_;rw[Qy,h2];rfl,by rw[Qk,Qk,h3]⟩,fun t ht=>?_⟩;obtain⟨u,hu,rfl⟩:=Qz.mp ht;exact ni C (h4 u hu)
 | n,.within l b,o=>by rw[aM] at o;rw[mapR,aM,eA];exact⟨tq C o.1,o.2.1,o.2.2.1,fm (n+1) b o.2.2.2⟩
 | n,.all ls b,o=>by
  rw[aM] at o;rw[mapR,aM,eA,Qk];exact⟨⟨o.1.1,o.1.2.1,qw C hn hp o.1.2.2.1 o.1.2.2.2,fun l hl=>by obtain⟨m,hm,rfl⟩:=Qz.mp hl;exact tq C (o.1.2.2.2 m hm)⟩,o.2.1,o.2.2.1,fm (n+1) b o.2.2.2⟩
 | n,.ask l b e,o=>by rw[aM] at o;rw[mapR,aM,eA,eA];exact⟨tq C o.1,o.2.1,o.2.2.1,o.2.2.2.1,fm (n+1) b o.2.2.2.2.1,fm (n+1) e o.2.2.2.2.2⟩
 | n,.oI s t a b c,o=>by
  rw[aM] at o;obtain⟨h1,h2,h3,h4,h5,h6,h7,h8,h9⟩:=o;rw[mapR,aM,eA,eA,eA];exact⟨ni C h1,ni C h2,h3,h4,h5,h6,fm (n+1) a h7,fm (n+1) b h8,fm (n+1) c h9⟩
 | n,.either a b,o=>by rw[aM] at o;rw[mapR,aM,eA,eA];exact⟨o.1,o.2.1,o.2.2.1,fm (n+1) a o.2.2.2.1,fm (n+1) b o.2.2.2.2⟩
 | n,.again a,o=>by rw[aM] at o;rw[mapR,aM,eA];exact⟨o.1,o.2.1,fm (n+1) a o.2.2⟩
theorem fm:∀(n:Nat)(l:List Row),bu W ps n l->bu (E9 φ W) (ps.map φ) n (dG φ l)
 | n,[],_=>by rw[dG,bu];trivial
 | n,r::rs,o=>by rw[bu] at o;rw[dG,bu];exact⟨GP n r o.1,fm n rs o.2⟩
end
end
end Pg
namespace Mi
open PySem Sm L2 Pg
theorem k8{φ:Str->Str}(C:N5 φ):∀{ws:List Str},(∀w∈ws,low w)->ws.Nodup->(ws.map φ).Nodup
 | [],_,_=>TX
 | w::r,h,nd=>by
  rw[RI] at nd;rw[Qt,RI];refine⟨fun q=>?_,k8 C (fun x hx=>h x (Qs _ hx)) nd.2⟩;obtain⟨v,hv,e⟩:=Qz.mp q;exact nd.1 (C.inj _ _ (h v (Qs _ hv)) (h w Qv) e ▸ hv)
theorem wC{a b:List Str}(p:a.Perm b):cH a=cH b:=
 Td (fun a b _ _=>tw a b) (fJ _) (fJ _) ((bD _).trans (p.trans (bD _).symm))
section
variable {φ:Str->Str} (C:N5 φ) {W:Wd} {fl:List Int} {odd:Int} {P:Prog} {m:Nat} (ok:rn W fl odd) (o:IL W m P)
include C ok
theorem Js:rn (E9 φ W) fl odd where
 n1:=by show 1≤(W.names.map φ).length;rw[Qk];exact ok.n1
 n2:=by show(W.names.map φ).length≤6;rw[Qk];exact ok.n2
 d1:=by show 1≤(W.ao.map φ).length;rw[Qk];exact ok.d1
 d2:=by show(W.ao.map φ).length≤6;rw[Qk];exact ok.d2
 pl:=by show(W.params.map (·.map φ)).length=(W.ao.map φ).length;rw[Qk,Qk];exact ok.pl
 p3:=fun ps hp=>by obtain⟨qs,hq,rfl⟩:=Qz.mp hp;rw[Qk];exact ok.p3 qs hq
 Nx:=by show fl.length=(W.ao.map φ).length;rw[Qk];exact ok.Nx
 f0:=fun f hf=>by show 0≤f∧f < ((W.names.map φ).length:Int);rw[Qk];exact ok.f0 f hf
 o0:=ok.o0
 o1:=ok.o1
 sn:=fun w hw=>by obtain⟨v,hv,rfl⟩:=Qz.mp hw;rw[C.len];exact⟨(ok.sn v hv).1,(ok.sn v hv).2.1,C.lw v⟩
 sd:=fun w hw=>by obtain⟨v,hv,rfl⟩:=Qz.mp hw;rw[C.len];exact⟨(ok.sd v hv).1,(ok.sd v hv).2.1,C.lw v⟩
 sp:=fun ps hp w hw=>by
  obtain⟨qs,hq,rfl⟩:=Qz.mp hp;obtain⟨v,hv,rfl⟩:=Qz.mp hw;rw[C.len];exact⟨(ok.sp qs hq v hv).1,(ok.sp qs hq v hv).2.1,C.lw v⟩
 nn:=k8 C (fun w hw=>(ok.sn w hw).2.2) ok.nn
 nd:=k8 C (fun w hw=>(ok.sd w hw).2.2) ok.nd
 np:=fun ps hp=>by obtain⟨qs,hq,rfl⟩:=Qz.mp hp;exact k8 C (fun w hw=>(ok.sp qs hq w hw).2.2) (ok.np qs hq)
include o
theorem EJ:IL (E9 φ W) m (lH φ P) where
 nm:=by
  show cH (P.names.map φ)=cH (W.names.map φ);rw[o.nm];exact wC ((bD _).map φ)
 dl:=by show(P.ao.map (gu φ)).length=(W.ao.map φ).length;rw[Qk,Qk];exact o.dl
 dd:=fun j d hj=>by
  have hj:(P.ao.map (gu φ))[j]?=some d:=hj;rw[Qy] at hj;obtain⟨e,he,rfl⟩:=QL.mp hj;obtain⟨a1,a2,a3,a4⟩:=o.dd j e he;have hm:=Qn a2;exact⟨by show(W.ao.map φ)[j]?=_;rw[Qy,a1];rfl,by show(W.params.map (·.map φ))[j]?=_;rw[Qy,a2];rfl,fm C (fun w hw=>(ok.sn w hw).2.2) (fun w hw=>(ok.sp _ hm w hw).2.2) 1 e.2.2 a3,by show(dG φ e.2.2).length≤12;rw[eA];exact a4⟩
 ct:=by
  show((P.ao.map (gu φ)).map fun d=>bc d.2.2).sum≤m;rw[QN];refine QB (Nat.le_of_eq ?_) o.ct;congr 1;exact Ta fun d _=>dI φ d.2.2
end
end Mi
namespace Mi
open PySem L2 Sm PySem.Spec PyProof.Rows Pg
def Wo(w:Str):Prop:=1≤w.length∧w.length≤7∧low w
theorem Ld:∀c < 128,97≤c->(c≤122->(!(Builtin.Str.occurrences (Str.ofString "abcdefghijklmnopqrstuvwxyz") ⟨#[c]⟩ 0 (Str.ofString "abcdefghijklmnopqrstuvwxyz").length 1).isEmpty)=true):=by decide+kernel
theorem rQ(ha:ea δ h=some (.int a,h))(hn:eb δ h=some (.int n,h))(hb:ec δ h=some (.int b,h))(h1:a≤n)(h2:n≤b):hZ zI zI ea eb ec δ h=some (.bl true,h):=by
 rw[FT ha hn hb,Q8 h1,Q8 h2];rfl
theorem ud(hi:ei δ h=some (d,h))(hs:dq d h=some (xs,[]))(hc:gF caps δ=o::t)(hl:xs.length≤100000)(he:∀x∈xs,e (some x::t) h=some (.bl true,h)):
  ay rm (ab (fT (bq caps (cG ei) (gN 0) bC e)) ai) δ h=some (.bl true,h):=by
 rw[II (fun _=>true) hi hs hc hl he,RJ.mpr fun _ _=>rfl]
theorem Wo.asc(o:Wo w):w.cps.all (· < 128)=true:=by
 rw[Sn];intro c hc;have:=o.2.2 c hc;simp;lia
theorem Wo.ok(o:Wo w):PyData.strOk w=true:=AI o.2.2
theorem Ah(o:Wo w):gS [.str w] h=some (.bl true,h):=by
 have e1:AO (ae 0) [some (.str w)] h=some (w.cps.toList.map fun c=>D.str ⟨#[c]⟩,[],h):=by
  show(if w.cps.all (· < 128)=true then _ else _)=_;rw[Qp o.asc]
 have e2:bq [none] (AO (ae 0)) (gN 0) bC (az DN (ae 0) (eK (.str "abcdefghijklmnopqrstuvwxyz"))) [some (.str w)] h=some ((w.cps.toList.map fun c=>D.str ⟨#[c]⟩).map fun _=>D.bl true,h):=by
  unfold bq;rw[e1];show((bU [] (gN 0) bC _ (w.cps.toList.map fun c=>D.str ⟨#[c]⟩) [none] h).bind _)=_;rw[og (t:=[]) (fun _=>D.bl true) _ none fun x hx=>?_]
  ·show(if _≤sizeLine then _ else _)=_;rw[Qp (by rw[Qk,Qk,RA,Q4];have:w.cps.size=w.length:=rfl;have:=o.2.1;lia)]
  ·obtain⟨c,hc,rfl⟩:=Qz.mp hx;have hc:=o.2.2 c (Rb.mp hc);show some (D.bl (!(Builtin.Str.occurrences _ _ _ _ _).isEmpty),h)=_;rw[Ld c (by lia) hc.1 hc.2]
 refine cX (ck ?_);nofun;refine rv (a:=(.bl true,h)) rfl ⟨true,rfl,ff (pF (w9 (rv (rQ (n:=w.length) rfl (ze (by have:=o.2.1;lia)) rfl (by have:=o.1;lia) (by have:=o.2.1;lia)) ⟨true,rfl,ff ?_⟩)))⟩;refine jv (rZ (lM (qX (fv (CF (rv e2 (nE ?_)))))));refine rv (B1 (fun _=>true) _ h) ?_;nofun;rw[RJ.mpr fun _ _=>rfl]
theorem sL:∀ws:List Str,oH (ws.map D.str)=some (ws.map PyData.str)
 | []=>rfl
 | c::r=>by simp only[Qt,oH,yb,sL r,QX,QT]
theorem mW:∀ws:List Str,PyData.depthAll (ws.map PyData.str)=0
 | []=>rfl
 | c::r=>by simp only[Qt,PyData.depthAll,mW r,PyData.depth];rfl
theorem BR{w:Str}{ps:List Str}{h:MH}(m:w∈ps):DN (.str w) (.tup (ps.map D.str)) h=some (.bl true,h):=by
 have e2:inD (.str w) (.tup (ps.map D.str)) h=some true:=by
  show((oH (ps.map D.str)).bind fun bs=>if(PyData.str w).depth≤60∧PyData.depthAll bs≤60 then some (bs.any fun b=>PyData.eqv b (.str w)) else none)=_;rw[sL];show(if(PyData.str w).depth≤60∧PyData.depthAll (ps.map PyData.str)≤60 then some ((ps.map PyData.str).any fun b=>PyData.eqv b (.str w)) else none)=_;rw[Qp ⟨by simp[PyData.depth],by rw[mW];lia⟩,RQ.mpr ⟨.str w,Qz.mpr ⟨w,m,rfl⟩,by simp[PyData.eqv]⟩]
 unfold DN;rw[e2];rfl
theorem xa{t:Term}{ps:List Str}{h:MH}(o:de ps t):fC [bz t,.tup (ps.map D.str)] h=some (.bl true,h):=by
 obtain⟨w,f⟩:=t;have fin:hZ zI zI (B2 wq (eK (.int 99))) (ae 3) (eK (.int 99)) [some (bz (w,f)),some (.tup (ps.map D.str)),some (.str w),some (.int f)] h=some (.bl true,h):=rQ (a:=-99) (n:=f) (b:=99) rfl rfl rfl o.2.1 o.2.2;refine cX (ck ?_);nofun;refine rv (a:=(.bl true,h)) rfl ⟨true,rfl,ff ?_⟩;unfold bz at*;nofun;refine rv (a:=(.bl true,h)) rfl ⟨true,rfl,ff ?_⟩;nofun;refine rv (a:=(.bl true,h)) rfl ⟨true,rfl,ff ?_⟩;nofun;refine⟨_,rfl,fun z=>⟨true,rfl,tt (rv fin ?_)⟩,fun z=>?_⟩
 ·nofun
 ·nofun;rcases o.1 with q | q
  ·dsimp only at q;rw[q] at z;exact absurd z (by decide)
  ·refine rv (BR q) ⟨true,rfl,tt (rv fin ?_)⟩;nofun
theorem Aj{l:Lock}{ns ps:List Str}{h:MH}(o1:l.1∈ns)(o2:de ps l.2):je [aN l,.tup (ns.map D.str),.tup (ps.map D.str)] h=some (.bl true,h):=by
 refine cX (ck ?_);nofun;refine rv (a:=(.bl true,h)) rfl ⟨true,rfl,ff ?_⟩;unfold aN;nofun;refine rv (a:=(.bl true,h)) rfl ⟨true,rfl,tt ?_⟩;nofun;refine rv (BR o1) ⟨true,rfl,tt ?_⟩;nofun;refine rv (xa o2) ?_;nofun
theorem yf(hi:ei δ h=some (.tup xs,h))(hs:jC (.tup xs)=some xs.length):az cu (nY ei) (ay cZ (ab ei ai)) δ h=some (.bl true,h):=by
 unfold az nY ay ab ai;rw[hi];dsimp only[Option.bind_some];rw[hs];dsimp only[Option.map_some,Option.bind_some];rw[hi];show cu (.int xs.length) (.int xs.length) h=_;rw[Fy,Sg]
theorem tD:∀ws:List Str,tE (ws.map D.str)=some (ws.map .inr)
 | []=>rfl
 | w::r=>by show((tE (r.map D.str)).map fun ks=>Sum.inr w::ks)=_;rw[tD r];rfl
theorem wc:∀(ws:List Str)(acc:List Key),(acc++ws.map Sum.inr).Nodup->(ws.map (Sum.inr:Str->Key)).foldl jL acc=acc++ws.map Sum.inr
 | [],acc,_=>by simp
 | w::r,acc,h=>by
  have e:jL acc (.inr w)=acc++[.inr w]:=by
   unfold jL;rw[Qu];intro q;obtain⟨x,hx,e⟩:=RQ.mp q;rw[RW] at h;exact h.2.2 x hx x (by rw[Q3 e];simp) rfl
  have ih:=wc r (acc++[.inr w]) (by rw[RC];exact h);rw[Qt,Sk,e];refine ih.trans ?_;rw[RC];rfl
theorem len_strs{ws:List Str}(hl:ws.length≤1000)(hn:ws.Nodup):jC (.tup (ws.map D.str))=some (ws.map D.str).length:=by
 unfold jC;dsimp only;rw[tD];dsimp only;rw[Qp (by rw[Qk];exact hl),Qk];show some ((ws.map Sum.inr).foldl jL []).length=_;rw[wc ws [] (by rw[Tg];exact hn.map Sum.inr fun a b h=>by simpa using h),Tg,Qk]
theorem sJ{ws:List Str}{a b:Int}{h:MH}(ha:a≤ws.length)(hb:(ws.length:Int)≤b)(h6:ws.length≤6)(ho:∀w∈ws,Wo w)(hn:ws.Nodup):cf [.tup (ws.map D.str),.int a,.int b] h=some (.bl true,h):=by
 refine cX (ck ?_);nofun;refine rv (a:=(.bl true,h)) rfl ⟨true,rfl,ff (pF (w9 (rv (rQ (n:=ws.length) rfl (show some (D.int ((ws.map D.str).length:Int),h)=_ by rw[Qk]) rfl ha hb) ⟨true,rfl,ff ?_⟩)))⟩;refine jv (rZ (lM (Ey (rv (ud (t:=[]) rfl rfl rfl (by rw[Qk];lia) fun x hx=>?_) ⟨true,rfl,tt (rv (yf rfl (len_strs (by lia) hn)) ?_)⟩))))
 ·obtain⟨w,hw,rfl⟩:=Qz.mp hx;exact Ah (ho w hw)
 ·nofun
theorem wg:∀(ds acc:List PyData),(∀d∈acc++ds,dE 8 d=true)->(acc++ds).Nodup->ds.foldl qb acc=acc++ds
 | [],acc,_,_=>by simp
 | d::r,acc,hp,nd=>by
  have e:qb acc d=acc++[d]:=by
   unfold qb;rw[Qu];intro q;unfold Dc at q;obtain⟨x,hx,e⟩:=RQ.mp q;have:=xb 8 (hp x (by simp[hx])) (hp d (by simp)) e;subst this;rw[RW] at nd;exact nd.2.2 x hx x (by simp) rfl
  rw[Sk,e,wg r (acc++[d]) (fun x hx=>hp x (by simpa using hx)) (by rw[RC];exact nd),RC];rfl
theorem CU{a b:Lock}(h:dU a=dU b):a=b:=by
 obtain⟨x,y,z⟩:=a;obtain⟨u,v,w⟩:=b;simp only[dU,nj,PyData.tuple.injEq,List.cons.injEq,PyData.str.injEq,PyData.int.injEq,and_true] at h;obtain⟨h1,h2,h3⟩:=h;rw[h1,h2,h3]
theorem CW{ls:List Lock}(h2:2≤ls.length)(h4:ls.length≤4)(nd:ls.Nodup)(hs:∀l∈ls,PyData.strOk l.1=true∧PyData.strOk l.2.1=true):jC (.tup (ls.map aN))=some (ls.map aN).length:=by
 have hk:tE (ls.map aN)=none:=by
  cases ls with
  | nil=>simp at h2
  | cons l r=>rfl
 have hp:∀x∈ls.map dU,dE 8 x=true:=fun x hx=>by
  obtain⟨l,hl,rfl⟩:=Qz.mp hx;obtain⟨a,b⟩:=hs l hl;simp[dU,nj,dE,a,b]
 unfold jC;dsimp only;rw[hk];dsimp only;rw[k3];dsimp only[Option.bind_some];rw[Qp]
 ·show some ((ls.map dU).foldl qb []).length=_;rw[wg (ls.map dU) [] (by simpa using hp) (by rw[Tg];exact nd.map dU fun a b h=>fun z=>h (CU z)),Tg,Qk,Qk]
 ·rw[QJ,QJ];refine⟨⟨RJ.mpr hp,RJ.mpr fun x hx=>?_⟩,by rw[Qk];exact Q8 h4⟩;obtain⟨l,hl,rfl⟩:=Qz.mp hx;rfl
theorem K6:PyData.strOk (Str.ofString "")=true:=by decide+kernel
theorem JC(xs:List D)(n:Int)(h:MH):cB [.tup xs,.int n] h=some (.bl ((xs.length:Int)==n),h):=rfl
end Mi
namespace Mi
open PySem L2 Sm Pg
structure Wr(W:Wd)(ns ps:List Str)(kvs:List (Key×D)):Prop where
 hn:∀w∈W.names,Wo w
 hd:∀w∈W.ao,Wo w
 hp:∀w∈ps,Wo w
 hs:∀w∈W.names,w∈ns
 hc:∀(j:Nat)(d:Str)(qs:List Str),W.ao[j]?=some d->W.params[j]?=some qs->ig kvs (.inr d)=some (.int (qs.length:Int))
 h3:∀qs∈W.params,qs.length≤3
section
variable {W:Wd} {ns ps:List Str} {kvs:List (Key×D)} (E:Wr W ns ps kvs)
include E
theorem G5{ls:List Lock}{h:MH}(h2:2≤ls.length)(h4:ls.length≤4)(nd:ls.Nodup)(hl:∀l∈ls,eW W ps l):iE [.tup (ls.map aN),.tup (ns.map D.str),.tup (ps.map D.str)] h=some (.bl true,h):=by
 refine cX (ck ?_);nofun;refine rv (a:=(.bl true,h)) rfl ⟨true,rfl,ff (pF (w9 (rv (rQ (a:=2) (n:=ls.length) (b:=4) rfl (show some (D.int ((ls.map aN).length:Int),h)=_ by rw[Qk]) rfl (by lia) (by lia)) ⟨true,rfl,ff ?_⟩)))⟩;refine jv (rZ (lM (Ey (rv (ud (t:=[some (.tup (ns.map D.str)),some (.tup (ps.map D.str))]) rfl rfl rfl (by rw[Qk];lia) fun x hx=>?_) ⟨true,rfl,tt (rv (yf rfl (CW h2 h4 nd fun l hm=>⟨(E.hn _ (hl l hm).1).ok,?_⟩)) ?_)⟩))))
 ·obtain⟨l,hm,rfl⟩:=Qz.mp hx;exact Aj (E.hs _ (hl l hm).1) (hl l hm).2
 ·rcases(hl l hm).2.1 with e | e
  ·rw[e];exact K6
  ·exact(E.hp _ e).ok
 ·nofun
theorem Km{w:Str}{ts:List Term}{h:MH}{j:Nat}{qs:List Str}(h1:W.ao[j]?=some w)(h2:W.params[j]?=some qs)(hl:ts.length=qs.length)(ht:∀t∈ts,de ps t):ly [.str w,.tup (ts.map bz),.dv kvs,.tup (ps.map D.str)] h=some (.bl true,h):=by
 have hv:=E.hc j w qs h1 h2;have h3:=E.h3 qs (Qn h2);refine cX (ck ?_);nofun;refine rv (Ah (E.hd w (Qn h1))) ⟨true,rfl,ff ?_⟩;nofun;refine rv (AS (kvs:=kvs) rfl) ?_;rw[hv];refine⟨_,rfl,ff ?_⟩;nofun;refine rv (Ii (kvs:=kvs) rfl hv) ?_;nofun;refine rv (JC _ _ _) ?_;rw[Qk,hl,Sg];refine⟨true,rfl,ff ?_⟩;have hx:∀x∈ts.map bz,fC [x,.tup (ps.map D.str)] h=some (.bl true,h):=fun x hx=>by
  obtain⟨t,hm,rfl⟩:=Qz.mp hx;exact xa (ht t hm)
 refine jv (rZ (lM (rv (ud (t:=[some (.tup (ps.map D.str))]) rfl rfl rfl (by rw[Qk];lia) hx) ?_)));nofun
theorem G8{n:Nat}{r:Row}{h:MH}(o:aM W ps n r):eR [aZ r,.tup (ns.map D.str),.dv kvs,.tup (ps.map D.str)] h=some (.bl true,h):=by
 refine cX (ck ?_);cases r <;> rw[aM] at o <;> rw[aZ] <;> nofun
 case say w=>
  refine⟨_,rfl,fun _=>?_,fun z=>absurd z (by decide)⟩;nofun;refine rv (Ah ?_) ?_
  ·rcases QS.mp o with q | q
   ·exact E.hn w q
   ·exact E.hd w q
  ·nofun
 all_goals
  refine⟨_,rfl,fun z=>absurd z (by decide),fun _=>?_⟩;nofun
 case call w ts=>
  refine⟨_,rfl,fun _=>?_,fun z=>absurd z (by decide)⟩;nofun;obtain⟨⟨j,qs,h1,h2,h3⟩,h4⟩:=o;refine rv (Km E h1 h2 h3 h4) ?_;nofun
 all_goals
  refine⟨_,rfl,fun z=>absurd z (by decide),fun _=>?_⟩;nofun
 case all ls b=>
  refine⟨_,rfl,fun _=>?_,fun z=>absurd z (by decide)⟩;nofun;obtain⟨⟨h2,h4,nd,hl⟩,_⟩:=o;refine rv (G5 E h2 h4 nd hl) ?_;nofun
 all_goals
  refine⟨_,rfl,fun z=>absurd z (by decide),fun _=>?_⟩;nofun
 case within l b=>
  refine rv (a:=(.bl true,h)) (by ac_nf) ⟨true,rfl,tt ?_⟩;nofun;refine rv (Aj (E.hs _ o.1.1) o.1.2) ?_;nofun
 case ask l b c=>
  refine rv (a:=(.bl true,h)) (by ac_nf) ⟨true,rfl,tt ?_⟩;nofun;refine rv (Aj (E.hs _ o.1.1) o.1.2) ?_;nofun
 all_goals
  refine rv (a:=(.bl false,h)) (by ac_nf) ⟨false,rfl,ff ?_⟩;nofun
 case oI s t a b c=>
  refine⟨_,rfl,fun _=>?_,fun z=>absurd z (by decide)⟩;nofun;refine rv (xa o.1) ⟨true,rfl,tt ?_⟩;nofun;refine rv (xa o.2.1) ?_;nofun
 all_goals
  refine⟨_,rfl,fun z=>absurd z (by decide),fun _=>?_⟩;nofun
omit E in
theorem EA(r:Row)(h:MH):iC [aZ r] h=some (.bl true,h):=by cases r <;> rw[aZ] <;> ac_nf
omit E in
theorem z6{n:Nat}{r:Row}(h:aM W ps n r):∀l∈aJ r,n < 5∧l.length≤12∧bu W ps (n+1) l:=by
 intro x hx;cases r <;> simp[aJ] at hx <;> rw[aM] at h
 case within l b=>subst hx;exact h.2
 case all l b=>subst hx;exact h.2
 case ask l b e=>
  obtain⟨_,h5,h1,h2,h3,h4⟩:=h;rcases hx with rfl | rfl
  ·exact⟨h5,h1,h3⟩
  ·exact⟨h5,h2,h4⟩
 case oI s t a b c=>
  obtain⟨_,_,h5,h1,h2,h3,h4,h6,h7⟩:=h;rcases hx with rfl | rfl | rfl
  ·exact⟨h5,h1,h4⟩
  ·exact⟨h5,h2,h6⟩
  ·exact⟨h5,h3,h7⟩
 case either a b=>
  obtain⟨h5,h1,h2,h3,h4⟩:=h;rcases hx with rfl | rfl
  ·exact⟨h5,h1,h3⟩
  ·exact⟨h5,h2,h4⟩
 case again a=>subst hx;exact h
theorem EB:∀(f n:Nat)(lot:List Row)(left:Nat)(h:MH),6≤n+f->n≤5->bu W ps n lot->lot.length≤12->bc lot≤left->dr f [.tup (cD lot),.int n,.int left,.tup (ns.map D.str),.dv kvs,.tup (ps.map D.str)] h=some (.int ((left-bc lot:Nat):Int),h)
 | 0,n,lot,left,h,e,h5,_,_,_=>by lia
 | f+1,n,lot,left,h,e,h5,o,h12,hc=>by
  refine cX ?_;unfold dr;refine ck ?_;nofun;refine⟨_,rfl,fun z=>absurd (Q3 z) (by lia),fun _=>?_⟩;nofun;refine rv (a:=(.bl true,h)) rfl ⟨true,rfl,ff ?_⟩;nofun;refine⟨_,rfl,fun z=>absurd (Q3 z) (by rw[eZ,Qk];lia),fun _=>?_⟩;nofun;refine eu ?_;nofun;refine⟨_,_,rfl,?_⟩;rw[eZ];refine fu (fun i δ h'=>h'=h∧∃(v6 v7:Option D),δ=[some (.tup (lot.map aZ)),some (.int n),some (.int ((left-bc (lot.take i):Nat):Int)),some (.tup (ns.map D.str)),some (.dv kvs),some (.tup (ps.map D.str)),v6,v7]) ⟨rfl,none,none,by rw[Sq];rfl⟩ (fun _ _ _ _ _=>rfl) ?_ ?_
  ·rintro i x δ h' hx ⟨rfl,v6,v7,rfl⟩;rw[Qy] at hx;obtain⟨r,hr,rfl⟩:=QL.mp hx;have htk:lot.take (i+1)=lot.take i++[r]:=by rw[SO,hr];rfl
   have hcn:bc (lot.take (i+1))=bc (lot.take i)+cnt r:=by rw[htk,oh];simp[bc]
   have hle:bc (lot.take (i+1))≤bc lot:=by
    conv=>rhs;rw[←R6 (i+1) lot,oh]
    lia
   have ho:=k7 o r (Qn hr);have hcr:=FL r;generalize bc (lot.take i)=c0 at*;nofun;refine⟨_,rfl,fun z=>absurd (eq_of_beq z) (by lia),fun _=>?_⟩;nofun;refine rv (EA r _) ⟨true,rfl,ff ?_⟩;nofun;refine rv (G8 E ho) ⟨true,rfl,ff ?_⟩;nofun;refine Ke ?_;nofun;refine eu ?_;nofun;refine rv (nP r _) ?_;nofun;refine⟨_,_,rfl,?_⟩;refine fu (fun j δ h2=>h2=h'∧∃(v7:Option D),δ=[some (.tup (lot.map aZ)),some (.int n),some (.int ((left-c0-1-(((aJ r).take j).map bc).sum:Nat):Int)),some (.tup (ns.map D.str)),some (.dv kvs),some (.tup (ps.map D.str)),some (aZ r),v7]) ⟨rfl,v7,by rw[Sq];show[_,_,some (D.int _),_,_,_,_,_]=_;congr 4;simp;lia⟩ (fun _ _ _ _ _=>rfl) ?_ ?_
   ·rintro j y δ h2 hy ⟨rfl,v7,rfl⟩;rw[Qy] at hy;obtain⟨l,hl,rfl⟩:=QL.mp hy;have hm:=Qn hl;obtain⟨a5,a12,al⟩:=z6 ho l hm;have ht2:(((aJ r).take (j+1)).map bc).sum=(((aJ r).take j).map bc).sum+bc l:=by rw[take_snoc hl,QG,Tf];simp
    have hle2:(((aJ r).take (j+1)).map bc).sum≤((aJ r).map bc).sum:=by
     conv=>rhs;rw[←R6 (j+1) (aJ r),QG,Tf]
     lia
    rw[ht2] at hle2 ⊢;generalize (((aJ r).take j).map bc).sum=s0 at*;nofun;refine rv (EB f (n+1) l _ h2 (by lia) (by lia) al a12 (by lia)) ?_;nofun;refine rv (a:=(.bl false,h2)) rfl ⟨false,rfl,ff ?_⟩;nofun;rw[show left-c0-1-(s0+bc l)=left-c0-1-s0-bc l by lia];exact⟨rfl,some (pU l),rfl⟩
   ·rintro δ h2 ⟨rfl,v7,rfl⟩;rw[Qk,QZ];nofun;rw[show left-bc (lot.take (i+1))=left-c0-1-((aJ r).map bc).sum by lia];exact⟨rfl,some (aZ r),v7,rfl⟩
  ·rintro δ h' ⟨rfl,v6,v7,rfl⟩;rw[Qk,QZ];nofun
theorem G6(lot:List Row)(left:Nat)(h:MH)(o:bu W ps 1 lot)(h12:lot.length≤12)(hc:bc lot≤left):dr 8 [.tup (cD lot),.int 1,.int left,.tup (ns.map D.str),.dv kvs,.tup (ps.map D.str)] h=some (.int ((left-bc lot:Nat):Int),h):=EB E 8 1 lot left h (by decide) (by decide) o h12 hc
end
end Mi
namespace Mi
open PySem Sm L2 Pg
section
variable {Z:D} {h:MH}
theorem oa{α:Type}{F:Fn}(f k:α->D)(xs:List α){ei:EM}{δ:DS}(hi:ei δ h=some (.tup (xs.map f),h))(hc:gF [none,some 0] δ=[none,some Z])(hl:xs.length≤1000)(hx:∀x∈xs,F [Z,f x] h=some (k x,h)):
  ay bV (ab (fT (bq [none,some 0] (cG ei) (gN 0) bC (ay F (ab (ae 1) (ab (ae 0) ai))))) ai) δ h=some (.tup (xs.map k),h):=by
 have e:bq [none,some 0] (cG ei) (gN 0) bC (ay F (ab (ae 1) (ab (ae 0) ai))) δ h=some (xs.map k,h):=by
  unfold bq cG;rw[hi];show((bU [] (gN 0) bC _ (xs.map f) (gF [none,some 0] δ) h).bind _)=_;rw[hc,jF (h:=h) rfl f k (fun δ=>∃v,δ=[v,some Z]) xs ⟨_,rfl⟩ (by
   rintro x hm δ ⟨v,rfl⟩;refine⟨_,rfl,rfl,⟨_,rfl⟩,?_⟩;exact⟨_,hx x hm,rfl⟩)]
  show(if _≤sizeLine then _ else _)=_;rw[Qp (by rw[Qk,Q4];lia)]
 refine cX (qX (fv (CF (rv e (nE ?_)))));exact⟨_,rfl,rfl⟩
noncomputable def ML(n:Nat):SM:=aR (az bp (ae 3) (ay bV (ab (fT (bq [none,some 0] (cG (uV (ae 1) (Gx (ay cZ (ab (ae 3) ai))) Gw)) (gN 0) bC (ay (bP n) (ab (ae 1) (ab (ae 0) ai))))) ai)))
variable {φ:Str->Str} (hby:∀(w:Str)(h:MH),low w->w.length≤100->cg [Z,.str w] h=some (.str (φ w),h))
theorem GI{n:Nat}{row hd:List D}{S:Option D}{ls:List (List Row)}(hs:zd (.tup row) (some ((hd.length:Nat):Int)) none h=some (.tup (ls.map pU),h))(hl:∀l∈ls,bP n [Z,pU l] h=some (pU (dG φ l),h))(h3:ls.length≤3)(hh:hd.length≤3):
  ML n [some Z,some (.tup row),S,some (.tup hd)] h=some (.rt (.tup (hd++ls.map fun l=>pU (dG φ l))),[some Z,some (.tup row),S,some (.tup hd)],h):=by
 unfold ML;refine cX (lM (G0 (rv (a:=(.tup hd,h)) rfl (rv (oa (Z:=Z) pU (fun l=>pU (dG φ l)) ls ?_ rfl (by lia) hl) ?_))))
 ·refine cX ?_;nofun;refine⟨_,rfl,?_⟩;nofun;exact rv hs rfl
 ·exact rv (Nz (by rw[Qk];lia)) rfl
include hby
theorem Bz{t:Term}(hl:low t.1)(hz:t.1.length≤100):cp [Z,bz t] h=some (bz (rg φ t),h):=by
 refine cX (ck ?_);unfold bz;nofun;refine rv (hby _ _ hl hz) ?_;nofun;rfl
theorem HG{l:Lock}(h1:low l.1)(h2:l.1.length≤100)(hl:low l.2.1)(hz:l.2.1.length≤100):dm [Z,aN l] h=some (aN (yX φ l),h):=by
 refine cX (ck ?_);unfold aN;nofun;refine rv (hby _ _ h1 h2) ?_;nofun;refine rv (Bz hby hl hz) ?_;nofun;rfl
variable {W:Wd} {ps:List Str} (hn:∀w∈W.names++W.ao,low w∧w.length≤100) (hp:∀w∈ps,low w∧w.length≤100) (h3k:∀qs∈W.params,qs.length≤3)
include hn hp
omit hby in
theorem xp{t:Term}(o:de ps t):low t.1∧t.1.length≤100:=by
 rcases o.1 with e | e
 ·rw[e];exact⟨xu,by decide⟩
 ·exact hp _ e
theorem AB{t:Term}(o:de ps t):cp [Z,bz t] h=some (bz (rg φ t),h):=Bz hby (xp hn hp o).1 (xp hn hp o).2
theorem AD{l:Lock}(o:eW W ps l):dm [Z,aN l] h=some (aN (yX φ l),h):=by
 have h1:=hn l.1 (RF _ o.1);have h2:=xp hn hp o.2;exact HG hby h1.1 h1.2 h2.1 h2.2
include h3k in
theorem wD:∀n:Nat,(∀(m:Nat)(lot:List Row),bu W ps m lot->lot.length≤12->2*cF lot≤n->bP n [Z,.tup (cD lot)] h=some (.tup (cD (dG φ lot)),h))∧(∀(m:Nat)(r:Row),aM W ps m r->2*df r+1≤n->cC n [Z,aZ r] h=some (aZ (mapR φ r),h))
 | 0=>⟨fun m lot _ _ z=>by
  cases lot with
  | nil=>simp[cF] at z
  | cons r rs=>rw[cF] at z;lia,fun _ _ _ z=>absurd z (by lia)⟩
 | n+1=>by
  obtain⟨ihL,ihR⟩:=wD n;constructor
  ·intro m lot o h12 hz;refine cX ?_;unfold bP;rw[eZ,eZ,tf,QN];refine ck (lM (rv (oa (Z:=Z) aZ (fun r=>aZ (mapR φ r)) lot rfl rfl (by lia) fun r hr=>?_) ?_))
   ·have:=pR hr;exact ihR m r (k7 o r hr) (by lia)
   ·rfl
  ·intro m r o hz;have hl:∀l∈aJ r,bP n [Z,pU l] h=some (pU (dG φ l),h):=fun l hl=>by
    have:=pQ hl;obtain⟨_,h12,ol⟩:=z6 o l hl;exact ihL (m+1) l ol h12 (by lia)
   refine cX ?_;unfold cC;refine ck ?_;show Rn (aw _ (aw _ (aw _ (aw _ (aw _ (aw _ (aw _ (ML n))))))) _ _) _;have tl:∀(row hd:List D)(S:Option D),zd (.tup row) (some ((hd.length:Nat):Int)) none h=some (.tup ((aJ r).map pU),h)->hd.length≤3->ML n [some Z,some (.tup row),S,some (.tup hd)] h=some (.rt (.tup (hd++(aJ r).map fun l=>pU (dG φ l))),[some Z,some (.tup row),S,some (.tup hd)],h):=fun row hd S hs hh=>GI hs hl (by cases r <;> simp[aJ]) hh;generalize ML n=T at tl ⊢;cases r <;> rw[aM] at o <;> rw[aZ,mapR,aZ] <;> nofun
   case say w=>
    refine⟨_,rfl,fun _=>?_,fun z=>absurd z (by decide)⟩;nofun;refine rv (hby w h (hn w o).1 (hn w o).2) ?_;nofun
   all_goals
    refine⟨_,rfl,fun z=>absurd z (by decide),fun _=>?_⟩;nofun
   case call w ts _=>
    obtain⟨⟨j,qs,h1,h2,h3⟩,h4⟩:=o;have hw:=hn w (QH _ (Qn h1));have h5:=h3k qs (Qn h2);refine⟨_,rfl,fun _=>?_,fun z=>absurd z (by decide)⟩;refine lM (qX (fv (rv (a:=(.str (Str.ofString "call"),h)) rfl (fv (qX (rv (a:=([Z,.str w],h)) rfl (rv (hby w h hw.1 hw.2) (fv (rv (oa (Z:=Z) bz (fun t=>bz (rg φ t)) ts rfl rfl (by lia) fun t ht=>AB hby hn hp (h4 t ht)) (nE ?_))))))))));nofun;rw[QN];rfl
   all_goals
    refine⟨_,rfl,fun z=>absurd z (by decide),fun _=>?_⟩;nofun
   case within l b _ _=>
    refine⟨_,rfl,fun _=>tt ?_,fun z=>absurd z (by decide)⟩;nofun;refine rv (AD hby hn hp o.1) ?_;nofun;refine⟨_,rfl,fun z=>absurd z (by decide),fun _=>?_⟩;nofun;refine⟨_,rfl,fun z=>absurd z (by decide),fun _=>?_⟩;nofun;exact rv (tl _ _ _ rfl (by simp)) rfl
   all_goals
    refine⟨_,rfl,fun z=>absurd z (by decide),fun _=>?_⟩;nofun
   case ask l b e _ _ _=>
    refine⟨_,rfl,fun _=>?_,fun z=>absurd z (by decide)⟩;nofun;refine rv (AD hby hn hp o.1) ?_;nofun;refine⟨_,rfl,fun z=>absurd z (by decide),fun _=>?_⟩;nofun;refine⟨_,rfl,fun z=>absurd z (by decide),fun _=>?_⟩;nofun;exact rv (tl _ _ _ rfl (by simp)) rfl
   all_goals
    refine⟨_,rfl,fun z=>absurd z (by decide),fun _=>?_⟩;nofun
   case all ls b _ _ _ _=>
    refine⟨_,rfl,fun _=>?_,fun z=>absurd z (by decide)⟩;refine yE (qX (fv (rv (a:=(.str (Str.ofString "all"),h)) rfl (fv (rv (oa (Z:=Z) aN (fun t=>aN (yX φ t)) ls rfl rfl (by have:=o.1.2.1;lia) fun l hl=>AD hby hn hp (o.1.2.2.2 l hl)) (nE ?_))))));nofun;refine⟨_,rfl,fun z=>absurd z (by decide),fun _=>?_⟩;nofun;rw[QN];exact rv (tl _ _ _ rfl (by simp)) rfl
   all_goals
    refine⟨_,rfl,fun z=>absurd z (by decide),fun _=>?_⟩;nofun
   case oI s t a b c _ _ _ _ _=>
    refine⟨_,rfl,fun _=>?_,fun z=>absurd z (by decide)⟩;nofun;refine rv (AB hby hn hp o.1) ?_;nofun;refine rv (AB hby hn hp o.2.1) ?_;nofun;exact rv (tl _ _ _ rfl (by simp)) rfl
   all_goals
    refine⟨_,rfl,fun z=>absurd z (by decide),fun _=>?_⟩;nofun;exact rv (tl _ _ _ rfl (by simp)) rfl
end
end Mi
namespace Mi
open PySem Sm L2
theorem vL{H g:MH}{d:D}(h1:∀n,d≠.ob n)(h2:i8 H.length d=true):leave H d (H++g)=some (d,H):=by
 have h3:wu H.length (H++g) d=d:=by
  cases d with
  | ob n=>exact absurd rfl (h1 n)
  | _=>rfl
 unfold leave;rw[h3,Sr (Qq _),QZ,h2,p9];rfl
theorem OB(H:MH)(a b:MO):(H++[a]).set H.length b=H++[b]:=by simp
theorem getL(H:MH)(a:MO):(H++[a])[H.length]?=some a:=by simp
theorem wY{c:TM}{b:SM}{Q:SQ}(I:Nat->DS->MH->Prop)(step:∀k δ h,I k δ h->Rn (c δ h) fun p=>(p.1=true->Rn (b δ p.2) (vJ (fun δ h=>∃k',k' < k∧I k' δ h) Q))∧(p.1=false->Q (.nx,δ,p.2))):
  ∀(n k:Nat)(δ:DS)(h:MH),k < n->I k δ h->Rn (jg c b n δ h) Q
 | 0,k,δ,h,hk,_=>absurd hk (by lia)
 | n+1,k,δ,h,hk,hI=>by
  obtain⟨p,e1,q1,q2⟩:=step k δ h hI;unfold jg;rw[e1];dsimp only[Option.bind_some]
  by_cases z:p.1=true
  ·rw[Qp z];obtain⟨⟨f,δ',h'⟩,e2,q⟩:=q1 z;rw[e2];dsimp only[Option.bind_some];cases f with
   | nx=>obtain⟨k',hk',hI'⟩:=q;exact wY I step n k' δ' h' (by lia) hI'
   | ct=>obtain⟨k',hk',hI'⟩:=q;exact wY I step n k' δ' h' (by lia) hI'
   | bk=>exact⟨_,rfl,q⟩
   | rt d=>exact⟨_,rfl,q⟩
  ·rw[Qu z];exact⟨_,rfl,q2 (by simpa using z)⟩
end Mi
namespace Mi
open PySem Sm L2 Rc
noncomputable def nD(x:Nat):D:=.int (x:Int)
noncomputable def B3(cs:List (List Nat)):D:=.tup (cs.map fun l=>.tup (l.map nD))
noncomputable def lK(cs:List (List Nat))(i:Nat):List Nat:=cs.getD i []
theorem t8{cs:List (List Nat)}{i:Nat}(h:i < cs.length):cs[i]?=some (lK cs i):=by
 unfold lK;rw[RX,Qr h];rfl
theorem Ak:∀ns:List Nat,oH (ns.map nD)=some (ns.map fun(n:Nat)=>PyData.int (n:Int))
 | []=>rfl
 | n::r=>by rw[Qt];show((yb (nD n)).bind _)=_;rw[show yb (nD n)=some (.int (n:Int)) from rfl];dsimp only[Option.bind_some];rw[Ak r];rfl
theorem tS:∀ns:List Nat,PyData.depthAll (ns.map fun(n:Nat)=>PyData.int (n:Int))≤1
 | []=>by simp[PyData.depthAll]
 | n::r=>by
  have:=tS r;simp only[Qt,PyData.depthAll,PyData.depth]
  lia
theorem Bq(x:Nat):∀ns:List Nat,((ns.map fun(n:Nat)=>PyData.int (n:Int)).any fun b=>PyData.eqv b (.int (x:Int)))=ns.any fun y=>decide (y=x)
 | []=>rfl
 | n::r=>by
  rw[Qt,So,So,Bq x r];congr 1;simp only[PyData.eqv]
  by_cases h:n=x
  ·subst h;simp
  ·rw[Q7 h];simp only[S9,ne_eq]
   lia
theorem Dg{h:MH}{n:Nat}{ns:List Nat}(x:Nat)(e:h[n]?=some (.lst (ns.map nD))):iO (nD x) (.ob n) h=some (.bl (!ns.any fun y=>decide (y=x)),h):=by
 have h1:=tS ns;unfold iO inD;simp only[fb,e];show((dq (.ob n) h).bind _).map _=_;simp only[dq,e,QX,Ak];show(((zH h (nD x)).bind _).map _)=_;rw[show zH h (nD x)=some (.int (x:Int)) from rfl];dsimp only[Option.bind_some];rw[Qp ⟨by simp[PyData.depth],by lia⟩,←Bq];rfl
theorem Ff{H g:MH}{xs:List D}{m:Nat}(hm:H.length≤m)(e:(H++g)[m]?=some (.lst xs))(h2:i8 H.length (.lv xs)=true):leave H (.ob m) (H++g)=some (.lv xs,H):=by
 have h3:wu H.length (H++g) (.ob m)=.lv xs:=by
  unfold wu;dsimp only;rw[Qu (Vc.mpr hm),e]
 unfold leave;rw[h3,Sr (Qq _),QZ,h2,p9];rfl
theorem FP(m:Nat):∀ns:List Nat,gz m (ns.map nD)=true
 | []=>rfl
 | n::r=>by rw[Qt];show(i8 m (nD n)&&gz m (r.map nD))=true;rw[FP m r];rfl
theorem Fx{cs:List (List Nat)}{a:Nat}{h:MH}(ha:a < cs.length):ba (B3 cs) (nD a) h=some (.tup ((lK cs a).map nD),h):=by
 have q:il (cs.map fun l=>D.tup (l.map nD)) (a:Int)=some (.tup ((lK cs a).map nD)):=ot (by rw[Qy,t8 ha];rfl);show((il (cs.map fun l=>D.tup (l.map nD)) (a:Int)).map fun z=>(z,h))=_;rw[q];rfl
theorem BW(h:MH)(a b:MO):(h++[a,b])[h.length]?=some a:=by simp
theorem zb(h:MH)(a b:MO):(h++[a,b])[h.length+1]?=some b:=by simp
theorem MM(h:MH)(a b x:MO):(h++[a,b]).set h.length x=h++[x,b]:=by simp
theorem IZ(h:MH)(a b x:MO):(h++[a,b]).set (h.length+1) x=h++[a,x]:=by simp[List.set_append]
theorem HE{h:MH}{n:Nat}{r:List Nat}{x:Nat}(e:h[n]?=some (.lst ((r++[x]).map nD))):Fc (.ob n) [] h=some (nD x,h.set n (.lst (r.map nD))):=by
 unfold Fc;dsimp only;rw[e];dsimp only;rw[QG,Qt,Sv,QD,Q6,VW,List.getElem?_concat_length,List.dropLast_concat];rfl
theorem yY{h:MH}{n:Nat}{xs:List D}{zs:List D}(e:h[n]?=some (.lst xs))(hl:xs.length+zs.length≤sizeLine):kH (.ob n) [.tup zs] h=some (.cN,h.set n (.lst (xs++zs))):=by
 unfold kH;dsimp only;rw[e];dsimp only;rw[Qp hl]
theorem xN{h:MH}{cs:List (List Nat)}{a:Nat}(ha:a < cs.length)(hn:cs.length≤100)(hc:∀l∈cs,l.length≤100∧∀x∈l,x < cs.length):
  ∃found:List Nat,(∀b,b∈found↔R (lK cs) a b)∧gU [B3 cs,nD a] h=some (.lv (found.map nD),h):=by
 have hlt:∀i x,x∈lK cs i->x < cs.length:=fun i x hx=>by
  by_cases z:i < cs.length
  ·exact(hc _ (Qn (t8 z))).2 x hx
  ·unfold lK at hx;rw[RX,Rr (by lia)] at hx;cases hx
 have hlen:∀i,(lK cs i).length≤100:=fun i=>by
  by_cases z:i < cs.length
  ·exact(hc _ (Qn (t8 z))).1
  ·unfold lK;rw[RX,Rr (by lia)];exact Rw _
 suffices r:Rn (gU [B3 cs,nD a] h) fun p=>∃found:List Nat,(∀b,b∈found↔R (lK cs) a b)∧p=(.lv (found.map nD),h) by
  obtain⟨p,e,found,h1,rfl⟩:=r;exact⟨found,h1,e⟩
 refine nF ?_;nofun;refine Af ?_;nofun;refine rv (Fx ha) ?_;nofun;refine⟨_,_,_,rfl,rfl,?_⟩;nofun;have h0:=hlen a;refine wY (fun k δ h'=>∃(found ahead:List Nat)(o:Option D),δ=[some (B3 cs),some (nD a),some (.ob h.length),some (.ob (h.length+1)),o]∧h'=h++[.lst (found.map nD),.lst (ahead.map nD)]∧k=(cs.length-found.length)*101+ahead.length∧Cm (lK cs) cs.length a found ahead∧k≤20000) ?_ 1000000 (cs.length*101+(lK cs a).length) _ _ (by lia) ⟨[],lK cs a,none,?_,?_,rfl,Cm.init,by lia⟩
 ·rintro k δ h' ⟨found,ahead,o,rfl,rfl,rfl,C,hk⟩;nofun;refine⟨!ahead.isEmpty,?_,fun z=>?_,fun z=>?_⟩
  ·show(match (h++[MO.lst (found.map nD),MO.lst (ahead.map nD)])[h.length+1]? with | some (.lst xs)=>some (!xs.isEmpty) | some (.dct kvs)=>some (!kvs.isEmpty) | none=>none)=_;rw[zb];simp
  ·obtain⟨r,x,rfl⟩:∃r x,ahead=r++[x]:=by
    rcases List.eq_nil_or_concat ahead with q |⟨r,x,q⟩
    ·subst q;cases z
    ·exact⟨r,x,by simpa using q⟩
   nofun;refine nI ?_;nofun;refine⟨dH (zb _ _ _),?_⟩;nofun;refine rv (HE (zb _ _ _)) ?_;rw[IZ];nofun;refine rv (Dg x (BW _ _ _)) ?_;have hx:x < cs.length:=let⟨_,q⟩:=C.r2 x (QH _ (QC.mpr rfl));q.lt hlt;refine⟨_,rfl,fun q=>?_,fun q=>?_⟩
   ·have hnew:x∉found:=fun m=>by
     have:found.any (fun y=>decide (y=x))=true:=RQ.mpr ⟨x,m,Q8 rfl⟩;rw[this] at q;cases q
    have C2:=C.new hnew;have hl:=C2.len hlt;have hl2:=hlen x;rw[QD,Q6] at hl;rw[QD,Q6] at hk;have hz:=Q4;nofun;refine nI ?_;nofun;refine⟨dH (BW _ _ _),?_⟩;nofun;refine rv (eB (BW _ _ _) (by rw[Qk];lia)) ?_;rw[MM];nofun;refine nI ?_;nofun;refine⟨dH (zb _ _ _),?_⟩;nofun;refine rv (Fx hx) ?_;nofun;refine rv (yY (zb _ _ _) (by rw[Qk,Qk];lia)) ?_;rw[IZ];nofun;refine⟨_,?_,found++[x],r++lK cs x,_,rfl,?_,rfl,C2,?_⟩
    ·rw[QD,QD,Q6,QD,Q6];have e1:cs.length-found.length=(cs.length-(found.length+1))+1:=by lia
     rw[e1,Nat.add_mul]
     lia
    ·simp
    ·rw[QD,Q6,QD];have e1:cs.length-found.length=(cs.length-(found.length+1))+1:=by lia
     rw[e1,Nat.add_mul] at hk
     lia
   ·have hold:x∈found:=by
     have:found.any (fun y=>decide (y=x))=true:=by simpa using q
     obtain⟨y,hy,e⟩:=RQ.mp this;rw[←Q3 e];exact hy
    rw[QD,Q6] at hk;nofun;exact⟨_,by rw[QD,Q6];exact SY _,found,r,_,rfl,rfl,rfl,C.known hold,by lia⟩
  ·have e0:ahead=[]:=by simpa using z
   subst e0;nofun;exact⟨_,Ff (Qq _) (BW _ _ _) (FP _ _),found,fun b=>C.done,rfl⟩
 ·simp[entry]
 ·simp
theorem LD{h:MH}{ns:List Nat}(x:Nat):DN (nD x) (.lv (ns.map nD)) h=some (.bl (ns.any fun y=>decide (y=x)),h):=by
 have h1:=tS ns;unfold DN inD;simp only[fb];show((dq (.lv (ns.map nD)) h).bind _).map _=_;simp only[dq,QX,Ak];show(((zH h (nD x)).bind _).map _)=_;rw[show zH h (nD x)=some (.int (x:Int)) from rfl];dsimp only[Option.bind_some];rw[Qp ⟨by simp[PyData.depth],by lia⟩,←Bq];rfl
theorem IH(l:List Nat)(p:Nat->Bool)(h:MH):LF [.lv (l.map fun w=>D.bl (p w))] h=some (.bl (l.any p),h):=by
 show(ub (l.map fun x=>D.bl (p x))).map (fun bs=>(D.bl (bs.any id),h))=_;rw[xY];show some (D.bl ((l.map p).any id),h)=_;rw[List.any_map];rfl
theorem Ie:cZ [B3 cs] h=some (.int (cs.length:Int),h):=by
 show some (D.int ((cs.map fun l=>D.tup (l.map nD)).length:Int),h)=_;rw[Qk]
theorem tW{h:MH}{cs:List (List Nat)}{P:D}(hP:dC [P] h=some (B3 cs,h))(hn:cs.length≤100)(hc:∀l∈cs,l.length≤100∧∀x∈l,x < cs.length):
  ∃c:Bool,(c=true↔∃i,i < cs.length∧R (lK cs) i i)∧cv [P] h=some (.bl c,h):=by
 suffices r:Rn (cv [P] h) fun p=>∃c:Bool,(c=true↔∃i,i < cs.length∧R (lK cs) i i)∧p=(.bl c,h) by
  obtain⟨p,e,c,h1,rfl⟩:=r;exact⟨c,h1,e⟩
 refine ck ?_;nofun;refine rv hP ?_;nofun;refine jw ?_;nofun;refine rv Ie ?_;nofun;refine⟨(cs.length:Int),rfl,by lia,by lia,?_⟩;rw[QO];have fo:∀i,i < cs.length->(az DN (ae 0) (ay gU (ab (ae 1) (ab (ae 0) ai)))) [some (nD i),some (B3 cs)] h=some (.bl (@decide (R (lK cs) i i) (Classical.propDecidable _)),h):=fun i hi=>by
  obtain⟨found,h1,h2⟩:=xN (h:=h) hi hn hc;refine cX ?_;nofun;refine rv h2 ?_;nofun;refine rv (LD i) ?_;congr 2;rw[Se,RQ,@decide_eq_true_iff _ (Classical.propDecidable _),←h1];constructor
  ·rintro⟨y,hy,e⟩;rw[←Q3 e];exact hy
  ·exact fun hy=>⟨i,hy,Q8 rfl⟩
 refine rv (og (t:=[some (B3 cs)]) (fun d=>match d with | .int i=>.bl (@decide (R (lK cs) i.toNat i.toNat) (Classical.propDecidable _)) | d=>d) _ _ fun x hx=>?_) ?_
 ·obtain⟨i,hi,rfl⟩:=Qz.mp hx;exact fo i (RL.mp hi)
 ·refine⟨by rw[Qk,Qk,QU,Q4];lia,?_⟩;nofun;rw[QN];refine rv (IH (List.range cs.length) (fun i=>@decide (R (lK cs) i i) (Classical.propDecidable _)) h) ?_;nofun;refine⟨_,?_,rfl⟩;rw[RQ];constructor
  ·rintro⟨i,hi,e⟩;exact⟨i,RL.mp hi,@Q3 _ (Classical.propDecidable _) e⟩
  ·rintro⟨i,hi,e⟩;exact⟨i,RL.mpr hi,@Q8 _ (Classical.propDecidable _) e⟩
noncomputable def jQ(l:List Nat):MO:=.lst (l.map nD)
noncomputable def CN(b n:Nat):D:=.lv ((List.range n).map fun i=>.ob (b+i))
theorem Lx{h:MH}{far:List (List Nat)}{i:Nat}(hi:i < far.length):(h++far.map jQ)[h.length+i]?=some (.lst ((lK far i).map nD)):=by
 rw[QR (by lia),To,Qy,t8 hi];rfl
theorem OC{h:MH}{far:List (List Nat)}{i:Nat}{l:List Nat}:(h++far.map jQ).set (h.length+i) (.lst (l.map nD))=h++(far.set i l).map jQ:=by
 rw[Tw _ _ (by lia),To,List.map_set];rfl
theorem IA(hi:i < far.length):lK (far.set i l)=Oi (lK far) i l:=by
 funext k
 unfold lK Oi;rw[RX,V5]
 by_cases e:i=k
 ·subst e;simp[hi]
 ·rw[Qu e,Qu (fun z=>e z.symm)];show far[k]?.getD []=far.getD k [];rw[RX]
theorem Ih(hi:i < n):ba (CN b n) (nD i) h=some (.ob (b+i),h):=by
 have q:il ((List.range n).map fun i=>D.ob (b+i)) (i:Int)=some (.ob (b+i)):=ot (by rw[Qy,UD hi];rfl);show((il ((List.range n).map fun i=>D.ob (b+i)) (i:Int)).map fun z=>(z,h))=_;rw[q];rfl
theorem yS:∀(xs:List D)(h:MH)(o:Option D),bU [] (gN 0) bC (xM ai) xs [o] h=some ((List.range xs.length).map fun i=>.ob (h.length+i),h++(List.replicate xs.length []).map jQ)
 | [],h,o=>by
  show some (([]:List D),h)=_;simp
 | x::r,h,o=>by
  show((xM ai [some x] h).bind fun y=>(bU [] (gN 0) bC (xM ai) r [some x] y.2).map fun z=>(y.1::z.1,z.2))=_;show((bU [] (gN 0) bC (xM ai) r [some x] (h++[.lst []])).map fun z=>(D.ob h.length::z.1,z.2))=_;rw[yS r (h++[MO.lst ([]:List D)]) (some x)];simp only[QT,QD,Q6,QI,List.range_succ_eq_map,Qt,QN,RZ,RC,List.singleton_append,Nat.add_zero];congr 2;congr 1;apply Ta;intro i _;show D.ob (h.length+1+i)=D.ob (h.length+(i+1));congr 1
  lia
noncomputable def nr(ns:List Nat):List Nat:=(dY (eT (ns.map fun(n:Nat)=>(n:Int)))).map Int.toNat
theorem si(hm:m δ h=some (d,h))(hd:gM d h=some (ns.map nD))(hl:ns.length≤1000)(hk:∀x∈ns,x < 60):
  (nr ns).Nodup∧(∀x,x∈nr ns↔x∈ns)∧kM m δ h=some (.lv ((nr ns).map nD),h):=by
 have e1:lR (ns.map nD)=some (ns.map fun(n:Nat)=>(n:Int)):=by
  clear hd hl hk
  induction ns with
  | nil=>rfl
  | cons n r ih=>rw[Qt];show(lR (r.map nD)).map _=_;rw[ih];rfl
 have hmem:∀z,z∈dY (eT (ns.map fun(n:Nat)=>(n:Int)))↔∃n∈ns,(n:Int)=z:=fun z=>by
  rw[(du _).mem_iff,CQ,Qz]
 have hnd:(dY (eT (ns.map fun(n:Nat)=>(n:Int)))).Nodup:=(du _).nodup_iff.mpr (zz _);have back:∀l:List Int,(∀z∈l,0≤z)->l=(l.map Int.toNat).map fun(n:Nat)=>(n:Int):=fun l=>by
  induction l with
  | nil=>intro _;rfl
  | cons z r ih=>intro hz;rw[Qt,Qt,←ih fun y hy=>hz y (Qs _ hy)];congr 1;have:=hz z Qv;lia
 have hpos:∀z∈dY (eT (ns.map fun(n:Nat)=>(n:Int))),0≤z:=fun z hz=>by obtain⟨n,_,rfl⟩:=(hmem z).mp hz;lia
 have hb:=back _ hpos;unfold nr;refine⟨?_,fun x=>?_,?_⟩
 ·rw[hb] at hnd;exact VN (S:=fun a b:Int=>a≠b) (fun(n:Nat)=>(n:Int)) (fun a b h z=>h (by rw[z])) hnd
 ·rw[Qz];constructor
  ·rintro⟨z,hz,rfl⟩;obtain⟨n,hn,rfl⟩:=(hmem z).mp hz;rw[QO];exact hn
  ·exact fun hx=>⟨_,(hmem _).mpr ⟨x,hx,rfl⟩,QO x⟩
 ·have h64:(eT (ns.map fun(n:Nat)=>(n:Int))).length < 64:=by
   have h1:=kF (m:=60) (l:=(dY (eT (ns.map fun(n:Nat)=>(n:Int)))).map Int.toNat) (by rw[hb] at hnd;exact VN (S:=fun a b:Int=>a≠b) (fun(n:Nat)=>(n:Int)) (fun a b h z=>h (by rw[z])) hnd) fun x hx=>by
    obtain⟨z,hz,rfl⟩:=Qz.mp hx;obtain⟨n,hn,rfl⟩:=(hmem z).mp hz;rw[QO];exact hk n hn
   rw[Qk,(du _).length_eq] at h1
   lia
  unfold kM;rw[hm];dsimp only[Option.bind_some];rw[hd];dsimp only[Option.bind_some];rw[e1];dsimp only[Option.bind_some];rw[Qp ⟨by rw[Qk];exact hl,h64⟩];congr 3
  conv=>lhs;rw[hb]
  rw[QN];rfl
end Mi
namespace Mi
open PySem Sm L2 Rc Pg
noncomputable def cW:Row->Option Str
 | .call w _=>some w
 | _=>none
noncomputable def m9(num:Str->Nat)(k:Nat)(rs:List (Nat×Row)):List Nat:=rs.filterMap fun x=>if x.1=k then(cW x.2).map num else none
noncomputable def p6:SM:=fh (aL (az cu (az ba (ae 5) (eK (.int 0))) (eK (.str "call")))) (g6 (eM cY eO (az ba (ae 3) (ae 4)) (ab (az ba (ae 2) (az ba (ae 5) (eK (.int 1)))) ai))) bH
theorem LC(e:ig kvs (.inr w)=some d):ba (.dv kvs) (.str w) h=some (d,h):=by
 simp only[ba,fb,rh,QX,e,QT]
theorem FU{h:MH}{v0 v1:Option D}(hd:d < called.length)(hz:(lK called d).length≤2000)(hk:∀w,cW r=some w->ig kvs (.inr w)=some (nD (num w))):
  p6 [v0,v1,some (.dv kvs),some (CN h.length called.length),some (nD d),some (aZ r)] (h++called.map jQ)=
   some (.nx,[v0,v1,some (.dv kvs),some (CN h.length called.length),some (nD d),some (aZ r)],h++(called.set d (lK called d++((cW r).map num).toList)).map jQ):=by
 have same:called.set d (lK called d++[])=called:=by
  rw[Ru];refine UY fun k=>?_;rw[V5]
  by_cases e:d=k
  ·subst e;rw[Qp rfl,Qp hd];exact(t8 hd).symm
  ·rw[Qu e]
 have hs:∀r:Row,ba (aZ r) (.int 0) (h++called.map jQ)=some (.str (match r with | .say _=>"say" | .call _ _=>"call" | .within _ _=>"within" | .all _ _=>"all" | .ask _ _ _=>"ask" | .oI _ _ _ _ _=>"by" | .either _ _=>"either" | .again _=>"again"),h++called.map jQ):=fun r=>by cases r <;> rw[aZ] <;> rfl
 refine cX ?_;unfold p6;nofun;refine rv (hs r) ?_
 by_cases c:∃w ts,r=.call w ts
 ·obtain⟨w,ts,rfl⟩:=c;refine⟨_,rfl,?_⟩;refine rv (a:=(.bl true,h++called.map jQ)) (by ac_nf) ?_;refine⟨true,rfl,fun _=>?_,fun z=>(nomatch z)⟩;nofun;refine nI ?_;nofun;refine rv (Ih hd) ?_;refine⟨dH (Lx hd),?_⟩;nofun;refine rv (a:=(.str w,h++called.map jQ)) (by rw[aZ];rfl) ?_;refine rv (LC (hk w rfl)) ?_;nofun;refine rv (eB (Lx hd) (by rw[Qk,Q4];lia)) ?_;show _=_;rw[show(lK called d).map nD++[nD (num w)]=(lK called d++[num w]).map nD by rw[QG];rfl,OC];rfl
 ·have e0:cW r=none:=by
   cases r with
   | call w ts=>exact absurd ⟨w,ts,rfl⟩ c
   | _=>rfl
  rw[e0];refine⟨_,rfl,?_⟩;refine rv (a:=(.bl false,h++called.map jQ)) (by
   cases r with
   | call w ts=>exact absurd ⟨w,ts,rfl⟩ c
   | _=>ac_nf) ?_
  refine⟨false,rfl,fun z=>(nomatch z),fun _=>?_⟩;refine⟨_,rfl,?_⟩;show _=_;rw[show((none:Option Str).map num).toList=[] from rfl,same]
noncomputable def Kl(x:Nat×Row):D:=.tup [nD x.1,aZ x.2]
noncomputable def t6:SM:=jP (cG (ae 1)) (gT 2 (aC (gN 4) (aC (gN 5) cP))) p6
theorem Bg{h:MH}{v0 v4 v5:Option D}{Q:SQ}(hr:∀x∈rs,x.1 < n)(hl:rs.length≤2000)(hk:∀x∈rs,∀w,cW x.2=some w->ig kvs (.inr w)=some (nD (num w)))
  (k:∀called v4 v5,called.length=n->(∀k,k < n->lK called k=m9 num k rs)->Q (.nx,[v0,some (.tup (rs.map Kl)),some (.dv kvs),some (CN h.length n),v4,v5],h++called.map jQ)):
  Rn (t6 [v0,some (.tup (rs.map Kl)),some (.dv kvs),some (CN h.length n),v4,v5] (h++(List.replicate n []).map jQ)) Q:=by
 unfold t6;refine Jb (eu ?_);nofun;refine⟨_,_,rfl,?_⟩;refine fu (fun i δ h'=>∃called v4 v5,called.length=n∧(∀k,k < n->lK called k=m9 num k (rs.take i))∧δ=[v0,some (.tup (rs.map Kl)),some (.dv kvs),some (CN h.length n),v4,v5]∧h'=h++called.map jQ) ⟨List.replicate n [],_,_,VD,fun k hk=>?_,rfl,rfl⟩ (fun _ _ _ _ _=>rfl) ?_ ?_
 ·unfold lK;rw[RX,Uo,Qp hk];rfl
 ·rintro i y δ h' hy ⟨called,v4,v5,hn,hi,rfl,rfl⟩;rw[Qy] at hy;obtain⟨⟨d,r⟩,hx,rfl⟩:=QL.mp hy;have hm:=Qn hx;have hd:d < n:=hr _ hm;have hz:(lK called d).length≤2000:=by
   rw[hi d hd];unfold m9;have h1:=R9 (fun x:Nat×Row=>if x.1=d then(cW x.2).map num else none) (rs.take i);have h2:(rs.take i).length≤rs.length:=by rw[QP];lia
   lia
  have e:=FU (h:=h) (called:=called) (kvs:=kvs) (num:=num) (d:=d) (r:=r) (v0:=v0) (v1:=some (.tup (rs.map Kl))) (by lia) hz (hk _ hm);rw[hn] at e;unfold Kl;nofun;refine rv e ?_;refine Nl ⟨called.set d (lK called d++((cW r).map num).toList),_,_,by rw[Sd];exact hn,fun k hk'=>?_,rfl,rfl⟩;rw[IA (by lia),take_snoc hx];have ea:m9 num k (rs.take i++[(d,r)])=m9 num k (rs.take i)++m9 num k [(d,r)]:=by unfold m9;rw[VG]
  rw[ea];unfold Oi
  by_cases z:k=d
  ·subst z;rw[Qp rfl,hi k hk'];congr 1;unfold m9;rw[Q0];dsimp only;rw[Qp rfl];cases cW r <;> rfl
  ·rw[Qu z,hi k hk'];have e2:m9 num k [(d,r)]=[]:=by
    unfold m9;rw[Q0];dsimp only;rw[Qu fun q=>z q.symm];rfl
   rw[e2,Ru]
 ·rintro δ h' ⟨called,v4,v5,hn,hi,rfl,rfl⟩;rw[Qk,QZ] at hi;exact k called _ _ hn hi
theorem Jl(m:Nat):∀cs:List (List Nat),gz m (cs.map fun l=>.tup (l.map nD))=true
 | []=>rfl
 | l::r=>by rw[Qt];show(gz m (l.map nD)&&gz m (r.map fun l=>.tup (l.map nD)))=true;rw[FP,Jl m r];rfl
theorem uX(hN:eF [.tup [a,.tup ds]] h=some (.dv kvs,h))(hr:∀x∈rs,x.1 < ds.length)(hl:rs.length≤1000)(hn:ds.length≤60)(hk:∀x∈rs,∀w,cW x.2=some w->ig kvs (.inr w)=some (nD (num w))∧num w < ds.length):
  jJ [.tup [a,.tup ds],.tup (rs.map Kl)] h=some (B3 ((List.range ds.length).map fun k=>nr (m9 num k rs)),h):=by
 refine cX (nF ?_);nofun;refine rv hN ?_;nofun;refine eu ?_;nofun;refine⟨_,_,rfl,?_⟩;refine rv (yS ds h none) ?_;refine⟨by rw[Qk,QU,Q4];lia,?_⟩;show Rn (aw t6 _ _ _) _;refine kh (Bg (n:=ds.length) (num:=num) hr (by lia) (fun x hx w e=>(hk x hx w e).1) fun called v4 v5 hc1 hc2=>?_);have one:∀i,i < ds.length->ay bV (ab (kM (ae 0)) ai) [some (.ob (h.length+i))] (h++called.map jQ)=some (.tup ((nr (m9 num i rs)).map nD),h++called.map jQ):=fun i hi=>by
  have hf:(m9 num i rs).length≤rs.length:=R9 _ _;have e:=(si (m:=ae 0) (δ:=[some (.ob (h.length+i))]) (h:=h++called.map jQ) (d:=.ob (h.length+i)) (ns:=m9 num i rs) rfl (by show(match (h++called.map jQ)[h.length+i]? with | some (.lst xs)=>some xs | _=>none)=_;rw[Lx (by lia),hc2 i hi]) (by lia) (fun x hx=>by
   unfold m9 at hx;obtain⟨y,hy,e⟩:=Su.mp hx
   by_cases z:y.1=i
   ·rw[Qp z] at e;obtain⟨w,e1,rfl⟩:=QL.mp e;have:=(hk y hy w e1).2
    lia
   ·rw[Qu z] at e;cases e)).2.2
  refine cX ?_;nofun;refine rv e ?_;nofun;exact⟨_,rfl,rfl⟩
 nofun;refine eu ?_;nofun;refine⟨_,_,rfl,?_⟩;refine rv (og (t:=[]) (fun d=>match d with | .ob m=>.tup ((nr (m9 num (m-h.length) rs)).map nD) | d=>d) _ none fun x hx=>?_) ?_
 ·obtain⟨i,hi,rfl⟩:=Qz.mp hx;dsimp only;rw[To];exact one i (RL.mp hi)
 ·refine⟨by rw[Qk,Qk,QU,Q4];lia,?_⟩;nofun;refine⟨_,rfl,?_⟩;have em:((List.range ds.length).map fun i=>D.ob (h.length+i)).map (fun d=>match d with | D.ob m=>D.tup ((nr (m9 num (m-h.length) rs)).map nD) | d=>d)=((List.range ds.length).map fun k=>nr (m9 num k rs)).map fun l=>D.tup (l.map nD):=by
   rw[QN,QN];refine Ta fun i _=>?_;show D.tup ((nr (m9 num (h.length+i-h.length) rs)).map nD)=_;rw[To];rfl
  rw[em];nofun;exact⟨_,vL (fun n z=>(nomatch z)) (Jl _ _),rfl⟩
noncomputable def nums:Nat->List Str->List (Key×D)
 | _,[]=>[]
 | k,w::r=>(.inr w,nD k)::nums (k+1) r
theorem yU:∀(k:Nat)(x y:List Str),nums k (x++y)=nums k x++nums (k+x.length) y
 | k,[],y=>by simp[nums]
 | k,w::x,y=>by simp only[U2,nums,yU (k+1) x y,QI];congr 3;lia
theorem vD:∀(k:Nat)(x:List Str),(nums k x).map (·.1)=x.map Sum.inr
 | _,[]=>rfl
 | k,w::r=>by rw[nums,Qt,Qt,vD (k+1) r]
theorem yT:∀(k:Nat)(x:List Str),(nums k x).length=x.length
 | _,[]=>rfl
 | k,w::r=>by rw[nums,QI,QI,yT (k+1) r]
theorem BM:∀(k i:Nat)(x:List Str)(w:Str),x.Nodup->x[i]?=some w->ig (nums k x) (.inr w)=some (nD (k+i))
 | k,0,v::r,w,_,e=>by
  cases e;unfold ig nums;rw[Vy (by simp)];rfl
 | k,i+1,v::r,w,hn,e=>by
  have hne:v≠w:=fun z=>(RI.mp hn).1 (z ▸ Qn (by simpa using e));have:=BM (k+1) i r w (RI.mp hn).2 (by simpa using e);unfold ig at this ⊢;rw[nums,Ut (by simpa using hne),this];congr 2
  lia
theorem yG{kvs:List (Key×D)}{k:Key}{v:D}(h:k∉kvs.map (·.1)):putD kvs k v=kvs++[(k,v)]:=by
 unfold putD;rw[Qu];intro z;obtain⟨kv,hkv,e⟩:=RQ.mp z;exact h (Qz.mpr ⟨kv,hkv,Q3 e⟩)
theorem n4{h:MH}{a:D}{ds:List D}{ws:List Str}(hd:ds.length=ws.length)(hw:∀(i:Nat)(d:D),ds[i]?=some d->∃(w:Str)(rest:List D),ws[i]?=some w∧d=D.tup (.str w::rest))(hn:ws.Nodup)(hl:ws.length≤1000):
  eF [.tup [a,.tup ds]] h=some (.dv (nums 0 ws),h):=by
 refine cX (ck ?_);nofun;refine Jc (nG ?_);nofun;refine⟨_,_,_,rfl,rfl,?_⟩;refine rH (jK 0 ds) (fun r δ h' acc=>∃i v0 v1,i≤ds.length∧r=jK i (ds.drop i)∧h'=h∧δ=[v0,v1]∧acc=nums 0 (ws.take i)) _ _ _ ⟨0,_,_,Rw _,by rw[List.drop_zero],rfl,rfl,by rw[Sq];rfl⟩ ?_ ?_
 ·rintro x r δ h' acc ⟨i,v0,v1,hi,hr,rfl,rfl,rfl⟩;have hlt:i < ds.length:=by
   rcases Ss i ds.length with z | z
   ·exact z
   ·rw[List.drop_eq_nil_of_le z] at hr;cases hr
  rw[Vi hlt] at hr;obtain⟨w,rest,e1,e2⟩:=hw i ds[i] (Qr hlt);rw[e2] at hr;injection hr with hx hr
  subst hx;refine⟨rfl,?_⟩;nofun;refine⟨_,rfl,?_⟩;dsimp only;rw[Qp rfl];refine M0 ?_;nofun;have hw1:w∉ws.take i:=fun m=>by
   obtain⟨j,hj⟩:=R8.mp m;rw[UN] at hj
   by_cases z:j < i
   ·rw[Qp z] at hj;have h1:=(Qo.mp hj);have h2:=(Qo.mp e1);obtain⟨a1,b1⟩:=h1;obtain⟨a2,b2⟩:=h2;have:=(Vh.mp hn) j i a1 a2 z;exact this (b1.trans b2.symm)
   ·rw[Qu z] at hj;cases hj
  refine⟨.inr w,rfl,by rw[yT,QP,Q4];lia,i+1,_,_,hlt,hr,rfl,rfl,?_⟩;show putD (nums 0 (ws.take i)) (.inr w) (nD i)=_;have hli:(ws.take i).length=i:=by rw[QP];lia
  rw[yG (by rw[vD];intro m;obtain⟨y,hy,e⟩:=Qz.mp m;cases e;exact hw1 hy),take_snoc e1,yU,hli,SX];rfl
 ·rintro δ h' acc ⟨i,v0,v1,hi,hr,rfl,rfl,rfl⟩;have he:i=ds.length:=by
   rcases Ss i ds.length with z | z
   ·rw[Vi z] at hr;cases hr
   ·lia
  refine⟨rfl,?_⟩;show _=_;dsimp only;rw[he,hd,QZ]
end Mi
namespace Pg
open PySem Sm L2
mutual
noncomputable def gE:Row->List Row
 | .say _=>[]
 | .call _ _=>[]
 | .within _ b=>dg b
 | .all _ b=>dg b
 | .ask _ b e=>dg b++dg e
 | .oI _ _ a b c=>dg a++(dg b++dg c)
 | .either a b=>dg a++dg b
 | .again a=>dg a
noncomputable def dg:List Row->List Row
 | []=>[]
 | r::rs=>r::(gE r++dg rs)
end
mutual
theorem yK(p:List Nat):∀r:Row,(bE p r).map (·.2)=gE r
 | .say _=>by simp[bE,gE]
 | .call _ _=>by simp[bE,gE]
 | .within _ b=>by simp only[bE,gE,cm]
 | .all _ b=>by simp only[bE,gE,cm]
 | .ask _ b e=>by simp only[bE,gE,QG,cm]
 | .oI _ _ a b c=>by simp only[bE,gE,QG,cm]
 | .either a b=>by simp only[bE,gE,QG,cm]
 | .again a=>by simp only[bE,gE,cm]
theorem cm(a:List Nat):∀(k:Nat)(l:List Row),(aU a k l).map (·.2)=dg l
 | k,[]=>by simp[aU,dg]
 | k,r::rs=>by simp only[aU,dg,Qt,QG,yK (a++[k]) r,cm a (k+1) rs]
end
theorem tO(r:Row):gE r=(aJ r).flatMap dg:=by
 cases r <;> simp[gE,aJ]
theorem mT:∀l:List Row,dg l=l.flatMap fun r=>r::gE r
 | []=>by simp[dg]
 | r::rs=>by rw[dg,mT rs];simp
end Pg
namespace Mi
open PySem Sm L2 Rc Pg
noncomputable def gD(k:Nat)(ds:List gh):List (Nat×Row):=(placesFrom k ds).map fun x=>(x.1,x.2.2)
theorem iu(k:Nat)(d:gh)(ds:List gh):gD k (d::ds)=(dg d.2.2).map (fun r=>(k,r))++gD (k+1) ds:=by
 unfold gD;rw[placesFrom,QG,QN,←cm [] 0 d.2.2,QN];rfl
theorem zt(num:Str->Nat)(k:Nat):∀l:List Row,m9 num k (l.map fun r=>(k,r))=(l.filterMap cW).map num
 | []=>rfl
 | r::l=>by
  have ih:=zt num k l;unfold m9 at ih ⊢;rw[Qt,Q0,ih,Q0];dsimp only;rw[Qp rfl];cases cW r <;> rfl
theorem xU(h:j≠k):∀l:List Row,m9 num k (l.map fun r=>(j,r))=[]
 | []=>rfl
 | r::l=>by
  have ih:=xU (num:=num) h l;unfold m9 at ih ⊢;rw[Qt,Q0,ih];dsimp only;rw[Qu h]
theorem xV(num:Str->Nat)(k:Nat)(a b:List (Nat×Row)):m9 num k (a++b)=m9 num k a++m9 num k b:=by unfold m9;rw[VG]
theorem Ca:∀(ds:List gh)(j:Nat),k < j->m9 num k (gD j ds)=[]
 | [],_,_=>rfl
 | d::ds,j,h=>by rw[iu,xV,xU (by lia),Ca ds (j+1) (by lia)];rfl
noncomputable def dB(l:List Row):List Str:=(dg l).filterMap cW
theorem zu:∀(ds:List gh)(j i:Nat)(d:gh),ds[i]?=some d->m9 num (j+i) (gD j ds)=(dB d.2.2).map num
 | x::ds,j,0,d,e=>by
  cases e;rw[iu,xV,Nat.add_zero,zt,Ca ds (j+1) (by lia),Ru];rfl
 | x::ds,j,i+1,d,e=>by
  rw[iu,xV,xU (by lia),show j+(i+1)=j+1+i by lia,zu ds (j+1) i d (by simpa using e)];rfl
theorem jq:∀{ds:List gh} {j:Nat} {x:Nat×Row},x∈gD j ds->x.1 < j+ds.length∧∃d∈ds,x.2∈dg d.2.2
 | [],_,_,h=>by cases h
 | d::ds,j,x,h=>by
  rw[iu] at h;rw[QI];rcases QS.mp h with h | h
  ·obtain⟨r,hr,rfl⟩:=Qz.mp h;exact⟨by dsimp only;lia,d,Qv,hr⟩
  ·obtain⟨a,e,he,hx⟩:=jq h;exact⟨by lia,e,Qs _ he,hx⟩
noncomputable def rf(P:Prog)(w:Str):Nat:=(P.ao.map (·.1)).idxOf w
noncomputable def Bc(P:Prog):List (List Nat):=P.ao.map fun d=>nr ((dB d.2.2).map (rf P))
theorem LM(P:Prog):(List.range P.ao.length).map (fun k=>nr (m9 (rf P) k (gD 0 P.ao)))=Bc P:=by
 unfold Bc;refine UY fun i=>?_;rw[Qy,Qy]
 by_cases h:i < P.ao.length
 ·rw[UD h,Qr h];have:=zu (num:=rf P) P.ao 0 i _ (Qr h);rw[SX] at this;simp only[QT,this]
 ·rw[Rr (by simpa using h),Rr (by simpa using h)];rfl
theorem xr(h:w∈P.ao.map (·.1)):rf P w < P.ao.length∧(P.ao.map (·.1))[rf P w]?=some w:=by
 have:=List.idxOf_lt_length_iff.mpr h;refine⟨by simpa [rf] using this,?_⟩;unfold rf;rw[Qr this,List.getElem_idxOf]
theorem lT(fit:Od P)(hn:(P.ao.map (·.1)).Nodup)(h6:P.ao.length≤6)(hk:∀d∈P.ao,∀w∈dB d.2.2,w∈P.ao.map (·.1))(h:MH):dC [eY P] h=some (B3 (Bc P),h):=by
 have hk':∀x∈gD 0 P.ao,∀w,cW x.2=some w->w∈P.ao.map (·.1):=fun x hx w hw=>by
  obtain⟨_,d,hd,hr⟩:=jq hx;exact hk d hd w (Su.mpr ⟨x.2,hr,hw⟩)
 have e:=uX (h:=h) (a:=.tup (P.names.map D.str)) (ds:=P.ao.map cA) (rs:=gD 0 P.ao) (num:=rf P) (n4 (ws:=P.ao.map (·.1)) (by rw[Qk,Qk]) (fun i d hd=>by
   rw[Qy] at hd;obtain⟨x,hx,rfl⟩:=QL.mp hd;exact⟨x.1,_,by rw[Qy,hx];rfl,rfl⟩) hn (by rw[Qk];lia))
  (fun x hx=>by rw[Qk];simpa using (jq hx).1) (by unfold gD;rw[Qk,dc];exact fit.ct) (by rw[Qk];lia) (fun x hx w hw=>by
   obtain⟨h1,h2⟩:=xr (hk' x hx w hw);exact⟨by rw[BM 0 _ _ w hn h2,SX],by rw[Qk];exact h1⟩)
 rw[Qk,LM] at e;refine cX (ck ?_);nofun;refine rv (pj fit h) ?_;nofun;rw[show(placesFrom 0 P.ao).map rowAt=(gD 0 P.ao).map Kl by unfold gD;rw[QN];rfl];refine rv e ?_;nofun
end Mi
namespace Mi
open PySem L2 Sm PySem.Spec PyProof.Rows Pg
theorem zh:∀A:List Str,PyData.eqvAll (A.map PyData.str) (A.map PyData.str)=true
 | []=>by simp[PyData.eqvAll]
 | a::A=>by rw[Qt,PyData.eqvAll,zh A];simp[PyData.eqv]
theorem FE(A:List Str)(h:MH):cu (.lv (A.map D.str)) (.lv (A.map D.str)) h=some (.bl true,h):=by
 show((((oH (A.map D.str)).map PyData.list).bind fun a=>((oH (A.map D.str)).map PyData.list).bind fun b=>if a.depth≤64∧b.depth≤64 then some (PyData.eqv a b) else none)).map (fun c=>(D.bl c,h))=_;rw[sL];show(if(PyData.list (A.map PyData.str)).depth≤64∧(PyData.list (A.map PyData.str)).depth≤64 then some (PyData.eqv (.list (A.map PyData.str)) (.list (A.map PyData.str))) else none).map _=_;have hd:(PyData.list (A.map PyData.str)).depth≤64:=by rw[PyData.depth,mW];lia
 rw[Qp ⟨hd,hd⟩,PyData.eqv,zh];rfl
theorem Ct(ws:List Str):cH (cH ws)=cH ws:=
 Td (fun a b _ _=>tw a b) (fJ _) (fJ _) (bD _)
theorem y8{α:Type}:∀{a b:List α},a.length=b.length->(∀(j:Nat) x,a[j]?=some x->b[j]?=some x)->a=b
 | [],[],_,_=>rfl
 | [],_::_,h,_=>by simp at h
 | _::_,[],h,_=>by simp at h
 | x::a,y::b,h,q=>by
  have h0:=q 0 x rfl;simp at h0;rw[h0,y8 (a:=a) (b:=b) (by simpa using h) fun j z hz=>by simpa using q (j+1) z (by simpa using hz)]
noncomputable def Gy(ds:List gh):List (Key×D):=ds.map fun d=>(.inr d.1,.int (d.2.1.length:Int))
theorem Jk:∀{ds:List gh} {j:Nat} {d:gh},(ds.map (·.1)).Nodup->ds[j]?=some d->ig (Gy ds) (.inr d.1)=some (.int (d.2.1.length:Int))
 | x::r,0,d,_,e=>by
  cases e;unfold ig Gy;rw[Qt,Vy (by simp)];rfl
 | x::r,j+1,d,hn,e=>by
  rw[Qt,RI] at hn;have e:r[j]?=some d:=by simpa using e
  have hne:x.1≠d.1:=fun z=>hn.1 (z ▸ Qz.mpr ⟨d,Qn e,rfl⟩);have:=Jk hn.2 e;unfold ig Gy at this ⊢;rw[Qt,Ut (by simpa using hne),this]
theorem Ds(hi:ei δ h=some (.tup (ds.map cA),h))(hn:(ds.map (·.1)).Nodup)(h6:ds.length≤6):
  Jj [none,none,none] (cG ei) (gT 3 (aC (gN 0) (aC (gN 1) (aC (gN 2) cP)))) bC (mD (ae 0) (ay cZ (ab (ae 1) ai))) [] .dv δ h=some (.dv (Gy ds),h):=by
 refine cX (Jc (eu (rv hi ⟨_,_,rfl,?_⟩)));refine rH (ds.map cA) (fun r δ' h' a=>h'=h∧(∃v0 v1 v2,δ'=[v0,v1,v2])∧∃l r',l++r'=ds∧r=r'.map cA∧a=Gy l) _ _ _ ⟨rfl,⟨none,none,none,rfl⟩,[],ds,rfl,rfl,rfl⟩ ?_ ?_
 ·rintro x r δ' h' a ⟨rfl,⟨v0,v1,v2,rfl⟩,l,r',e,er,rfl⟩;obtain⟨d,r',rfl⟩:∃d r'',r'=d::r'':=by
   cases r' with
   | nil=>cases er
   | cons d r''=>exact⟨d,r'',rfl⟩
  rw[Qt] at er;injection er with ex er
  subst ex;refine⟨rfl,?_⟩;unfold cA;nofun;refine rv (a:=(true,h')) rfl ?_;rw[Qp rfl];refine M0 ?_;nofun;have hlen:l.length < 6:=by have:=congrArg List.length e;simp at this;lia
  refine⟨_,rfl,by unfold Gy;rw[Qk,Q4];lia,rfl,⟨_,_,_,rfl⟩,l++[d],r',by rw[RC];exact e,er,?_⟩;rw[Qk,yG]
  ·unfold Gy;rw[QG];rfl
  ·intro q;rw[←e,QG,RW] at hn;unfold Gy at q;rw[QN] at q;obtain⟨y,hy,z⟩:=Qz.mp q;injection z with z
   exact hn.2.2 y.1 (Qz.mpr ⟨y,hy,rfl⟩) d.1 (by simp) z
 ·rintro δ' h' a ⟨rfl,_,l,r',e,er,rfl⟩;obtain rfl:r'=[]:=by cases r' with | nil=>rfl | cons d r''=>cases er
  rw[Ru] at e;subst e;exact⟨rfl,rfl⟩
section
variable {W:Wd} {fl:List Int} {odd:Int} {P:Prog} {m:Nat} (ok:rn W fl odd) (o:IL W m P)
include o
theorem ia:P.ao.map (·.1)=W.ao:=y8 (by rw[Qk];exact o.dl) fun j x hx=>by
 rw[Qy] at hx;obtain⟨d,e1,e2⟩:=QL.mp hx;rw[←e2];exact(o.dd j d e1).1
include ok
theorem G4:iD [.tup (P.names.map D.str)] h=some (.bl true,h):=by
 have hl:=(bD W.names).length_eq;have n1:=ok.n1;have n2:=ok.n2;rw[o.nm];refine cX (ck ?_);nofun;refine rv (sJ (a:=1) (b:=6) (by lia) (by lia) (by lia) (fun w hw=>ok.sn w ((bD _).mem_iff.mp hw)) ((bD _).nodup_iff.mpr ok.nn)) ⟨true,rfl,tt ?_⟩;nofun;refine Af ?_;nofun;refine⟨_,_,_,rfl,rfl,?_⟩;nofun;refine rv (a:=(.lv ((cH W.names).map D.str),h)) (by
  unfold xG;dsimp only;rw[iV];dsimp only[Option.bind_some];rw[Qp (by lia),Ct]) ?_
 refine rv (FE _ h) ?_;nofun
theorem G7:iF [.tup (P.ao.map cA)] h=some (.bl true,h):=by
 have d1:=ok.d1;have d2:=ok.d2;have dl:=o.dl;refine cX (ck ?_);refine kh (BG (I9 ?_));nofun;refine rv (a:=(.bl true,h)) rfl ⟨true,rfl,ff ?_⟩;refine pF (Ae (rv (ud (t:=[]) rfl rfl rfl (by rw[Qk];lia) fun x hx=>?_) ⟨true,rfl,ff ?_⟩))
 ·obtain⟨d,hd,rfl⟩:=Qz.mp hx;rfl
 refine jv (rZ (kh (BG (pF (Ae (qX (fv (qX (fv (CF (rv (zB (t:=[]) (fun d=>match d with | .tup (a::_)=>a | d=>d) rfl rfl rfl (by rw[Qk];lia) fun x hx=>?_) ?_)))))))))))
 ·obtain⟨d,hd,rfl⟩:=Qz.mp hx;rfl
 nofun;refine rv (a:=(.tup (W.ao.map D.str),h)) (by rw[QN,←ia o,QN];rfl) ?_;nofun;refine rv (sJ (a:=1) (b:=6) (by lia) (by lia) (by lia) ok.sd ok.nd) ⟨true,rfl,ff ?_⟩;refine jv (rZ (lM (rv (ud (t:=[]) rfl rfl rfl (by rw[Qk];lia) fun x hx=>?_) ?_)))
 ·obtain⟨d,hd,rfl⟩:=Qz.mp hx;obtain⟨j,hj⟩:=TJ hd;have hm:=Qn (o.dd j d hj).2.1;have h3:=ok.p3 _ hm;exact sJ (a:=0) (b:=3) (by lia) (by lia) (by lia) (ok.sp _ hm) (ok.np _ hm)
 ·nofun
theorem LH{j:Nat}{d:gh}(hj:P.ao[j]?=some d):Wr W P.names d.2.1 (Gy P.ao) where
 hn:=ok.sn
 hd:=ok.sd
 hp:=fun w hw=>ok.sp d.2.1 (Qn (o.dd j d hj).2.1) w hw
 hs:=fun w hw=>by rw[o.nm];exact(bD _).mem_iff.mpr hw
 h3:=ok.p3
 hc:=fun i e qs h1 h2=>by
  have hi:i < P.ao.length:=by rw[o.dl];exact(Qo.mp h1).1
  have hx:P.ao[i]?=some P.ao[i]:=Qr hi;obtain⟨a1,a2,_⟩:=o.dd i _ hx;rw[a1] at h1;rw[a2] at h2;cases h1;cases h2;exact Jk (by rw[ia o];exact ok.nd) hx
theorem CG{h:MH}(hm:m≤60):gO [eY P] h=some (.bl true,h):=by
 have d2:=ok.d2;have dl:=o.dl;refine cX (ck ?_);nofun;refine rv (a:=(.bl true,h)) rfl ⟨true,rfl,ff ?_⟩;unfold eY;nofun;refine rv (G4 ok o) ⟨true,rfl,ff ?_⟩;nofun;refine rv (G7 ok o) ⟨true,rfl,ff ?_⟩;refine jv (rZ (kh (yE (rv (Ds rfl (by rw[ia o];exact ok.nd) (by lia)) ?_))));nofun;refine eu ?_;nofun;refine⟨_,_,rfl,?_⟩;refine fu (fun i δ h'=>h'=h∧∃(v5 v6 v7:Option D),δ=[some (.tup [.tup (P.names.map D.str),.tup (P.ao.map cA)]),some (.tup (P.names.map D.str)),some (.tup (P.ao.map cA)),some (.dv (Gy P.ao)),some (.int ((60-((P.ao.take i).map fun d=>bc d.2.2).sum:Nat):Int)),v5,v6,v7]) ⟨rfl,none,none,none,by rw[Sq];rfl⟩ (fun _ _ _ _ _=>rfl) ?_ ?_
 ·rintro i x δ h' hx ⟨rfl,v5,v6,v7,rfl⟩;rw[Qy] at hx;obtain⟨d,hd,rfl⟩:=QL.mp hx;obtain⟨_,_,a3,a4⟩:=o.dd i d hd;have hcn:((P.ao.take (i+1)).map fun d=>bc d.2.2).sum=((P.ao.take i).map fun d=>bc d.2.2).sum+bc d.2.2:=by rw[take_snoc hd,QG,Tf];simp
  have hle:((P.ao.take (i+1)).map fun d=>bc d.2.2).sum≤(P.ao.map fun d=>bc d.2.2).sum:=by
   conv=>rhs;rw[←R6 (i+1) P.ao,QG,Tf]
   lia
  have ct:=o.ct;rw[hcn] at hle ⊢;generalize ((P.ao.take i).map fun d=>bc d.2.2).sum=s0 at*;unfold cA;nofun;refine rv (G6 (LH ok o hd) d.2.2 _ h' a3 a4 (by lia)) ?_;nofun;refine rv (a:=(.bl false,h')) rfl ⟨false,rfl,ff ?_⟩;nofun;rw[show 60-(s0+bc d.2.2)=60-s0-bc d.2.2 by lia];exact⟨rfl,_,_,_,rfl⟩
 ·rintro δ h' ⟨rfl,v5,v6,v7,rfl⟩;nofun
end
end Mi
namespace Mi
open PySem Sm L2 Rc Pg
theorem Bi(l:List Row):(dB l).length≤bc l:=by
 have h1:=R9 cW (dg l);have h2:(dg l).length=bc l:=by rw[←cm [] 0 l,Qk,bF]
 unfold dB
 lia
noncomputable def mZ(r:Row):List Str:=(r::gE r).filterMap cW
theorem qD(l:List Row):dB l=l.flatMap mZ:=by
 unfold dB mZ;rw[mT,Vz]
theorem fA(r:Row)(h:cW r=none):mZ r=(aJ r).flatMap dB:=by
 unfold dB mZ;rw[tO,Q0,h,Vz]
end Mi
namespace Pg
open PySem Sm L2
def plain:Nat->D->Prop
 | 0,_=>False
 | n+1,.tup xs=>xs.length≤100000∧∀x∈xs,plain n x
 | _+1,.str _=>True
 | _+1,.int _=>True
 | _+1,.cN=>True
 | _+1,.bl _=>True
 | _+1,_=>False
theorem bW:∀{n m:Nat} {d:D},plain n d->n≤m->plain m d
 | 0,_,_,h,_=>h.elim
 | n+1,0,_,_,hm=>absurd hm (by lia)
 | n+1,m+1,.tup xs,h,hm=>⟨h.1,fun x hx=>bW (h.2 x hx) (by lia)⟩
 | n+1,m+1,.str _,h,hm=>trivial
 | n+1,m+1,.int _,h,hm=>trivial
 | n+1,m+1,.cN,h,hm=>trivial
 | n+1,m+1,.bl _,h,hm=>trivial
 | n+1,m+1,.lv _,h,hm=>h.elim
 | n+1,m+1,.ro _,h,hm=>h.elim
 | n+1,m+1,.dv _,h,hm=>h.elim
 | n+1,m+1,.ob _,h,hm=>h.elim
 | n+1,m+1,.ty _,h,hm=>h.elim
theorem iX{α:Type}{n:Nat}{f:α->D}{xs:List α}(hl:xs.length≤100000)(h:∀x∈xs,plain n (f x)):plain (n+1) (.tup (xs.map f)):=
 ⟨by rw[Qk];exact hl,fun y hy=>by obtain⟨x,hx,rfl⟩:=Qz.mp hy;exact h x hx⟩
theorem jx(t:Term):plain 2 (bz t):=⟨by simp,fun x hx=>by
 simp at hx;rcases hx with rfl | rfl <;> trivial⟩
theorem mH(t:Lock):plain 3 (aN t):=⟨by simp,fun x hx=>by
 simp at hx;rcases hx with rfl | rfl
 ·trivial
 ·exact jx _⟩
mutual
def dS:Row->Prop
 | .say _=>True
 | .call _ ts=>ts.length≤100000
 | .within _ b=>eU b
 | .all ls b=>ls.length≤100000∧eU b
 | .ask _ b e=>eU b∧eU e
 | .oI _ _ a b c=>eU a∧eU b∧eU c
 | .either a b=>eU a∧eU b
 | .again a=>eU a
def eU:List Row->Prop
 | []=>True
 | r::rs=>rs.length < 100000∧dS r∧eU rs
end
theorem aW{n:Nat}{d:D}{xs:List D}(h:plain n d)(h2:plain (n+1) (.tup xs))(hl:xs.length < 100000):plain (n+1) (.tup (d::xs)):=
 ⟨by simp;lia,fun x hx=>by
  rcases QK.mp hx with rfl | hx
  ·exact h
  ·exact h2.2 x hx⟩
theorem gj{n:Nat}:plain (n+1) (.tup []):=⟨by simp,fun x hx=>by cases hx⟩
mutual
theorem vz:∀r:Row,dS r->plain (2*df r+5) (aZ r)
 | .say _,_=>by rw[aZ];exact aW trivial (aW trivial gj (by simp)) (by simp)
 | .call _ ts,h=>by
  rw[aZ];rw[dS] at h;exact aW trivial (aW trivial (aW (iX h fun t _=>bW (jx t) (by lia)) gj (by simp)) (by simp)) (by simp)
 | .within l b,h=>by
  rw[aZ];rw[dS] at h;rw[df];exact aW trivial (aW (bW (mH l) (by lia)) (aW (c9 b h) gj (by simp)) (by simp)) (by simp)
 | .all ls b,h=>by
  rw[aZ];rw[dS] at h;rw[df];have h3:plain (2*cF b+3+1) (.tup (ls.map aN)):=iX h.1 fun t _=>bW (mH t) (by lia);exact aW trivial (aW h3 (aW (c9 b h.2) gj (by simp)) (by simp)) (by simp)
 | .ask l b e,h=>by
  rw[aZ];rw[dS] at h;rw[df];exact aW trivial (aW (bW (mH l) (by lia)) (aW (bW (c9 b h.1) (by lia)) (aW (bW (c9 e h.2) (by lia)) gj (by simp)) (by simp)) (by simp)) (by simp)
 | .oI s t a b c,h=>by
  rw[aZ];rw[dS] at h;rw[df];exact aW trivial (aW (bW (jx s) (by lia)) (aW (bW (jx t) (by lia)) (aW (bW (c9 a h.1) (by lia)) (aW (bW (c9 b h.2.1) (by lia)) (aW (bW (c9 c h.2.2) (by lia)) gj (by simp)) (by simp)) (by simp)) (by simp)) (by simp)) (by simp)
 | .either a b,h=>by
  rw[aZ];rw[dS] at h;rw[df];exact aW trivial (aW (bW (c9 a h.1) (by lia)) (aW (bW (c9 b h.2) (by lia)) gj (by simp)) (by simp)) (by simp)
 | .again a,h=>by
  rw[aZ];rw[dS] at h;rw[df];exact aW trivial (aW (c9 a h) gj (by simp)) (by simp)
theorem c9:∀l:List Row,eU l->plain (2*cF l+4) (.tup (cD l))
 | [],_=>by rw[cD];exact gj
 | r::rs,h=>by
  rw[cD];rw[eU] at h;rw[cF];refine aW (n:=2*max (1+df r) (cF rs)+3) (bW (vz r h.2.1) (by lia)) (bW (c9 rs h.2.2) (by lia)) (by rw[eZ,Qk];exact h.1)
end
mutual
theorem qt{W:Wd}{ps:List Str}(hp:∀qs∈W.params,qs.length≤3):∀(n:Nat)(r:Row),aM W ps n r->dS r
 | n,.say _,_=>by rw[dS];trivial
 | n,.call _ ts,h=>by
  rw[aM] at h;obtain⟨⟨j,qs,_,h2,h3⟩,_⟩:=h;have:=hp qs (Qn h2);rw[dS];lia
 | n,.within _ b,h=>by rw[aM] at h;rw[dS];exact cn hp (n+1) b h.2.2.2 h.2.2.1
 | n,.all ls b,h=>by rw[aM] at h;rw[dS];exact⟨by have:=h.1.2.1;lia,cn hp (n+1) b h.2.2.2 h.2.2.1⟩
 | n,.ask _ b e,h=>by rw[aM] at h;rw[dS];exact⟨cn hp (n+1) b h.2.2.2.2.1 h.2.2.1,cn hp (n+1) e h.2.2.2.2.2 h.2.2.2.1⟩
 | n,.oI _ _ a b c,h=>by
  rw[aM] at h;obtain⟨_,_,h0,l1,l2,l3,h1,h2,h3⟩:=h;rw[dS];exact⟨cn hp (n+1) a h1 l1,cn hp (n+1) b h2 l2,cn hp (n+1) c h3 l3⟩
 | n,.either a b,h=>by
  rw[aM] at h;obtain⟨h0,l1,l2,h1,h2⟩:=h;rw[dS];exact⟨cn hp (n+1) a h1 l1,cn hp (n+1) b h2 l2⟩
 | n,.again a,h=>by
  rw[aM] at h;obtain⟨h0,l1,h1⟩:=h;rw[dS];exact cn hp (n+1) a h1 l1
theorem cn{W:Wd}{ps:List Str}(hp:∀qs∈W.params,qs.length≤3):∀(n:Nat)(l:List Row),bu W ps n l->l.length≤12->eU l
 | n,[],_,_=>by rw[eU];trivial
 | n,r::rs,h,hl=>by
  rw[bu] at h;rw[eU];rw[QI] at hl;exact⟨by lia,qt hp n r h.1,cn hp n rs h.2 (by lia)⟩
end
end Pg
namespace Mi
open PySem Sm L2 Pg
theorem ve:∀xs:List D,oK xs xs=xs.map fun x=>.tup [x,x]
 | []=>rfl
 | x::r=>by rw[Qt,←ve r];rfl
theorem zw{α:Type}:∀xs:List α,ub (xs.map fun _=>D.bl true)=some (xs.map fun _=>true)
 | []=>rfl
 | x::r=>by rw[Qt];show(ub (r.map _)).map _=_;rw[zw r];rfl
theorem FA{α:Type}(xs:List α)(h:MH):rm [.lv (xs.map fun _=>D.bl true)] h=some (.bl true,h):=by
 show(ub (xs.map fun _=>D.bl true)).map _=_;rw[zw];simp
theorem same_refl:∀(n:Nat)(d:D)(h:MH),plain n d->cT n [d,d] h=some (.bl true,h)
 | 0,_,_,hp=>hp.elim
 | n+1,d,h,hp=>by
  have e:Rn (cT (n+1) [d,d] h) fun p=>p=(.bl true,h):=by
   unfold cT;refine ck ?_;cases d with
   | tup xs=>
    nofun;refine rv rfl ⟨true,rfl,fun _=>?_,fun z=>(nomatch z)⟩;nofun;refine rv rfl ⟨true,rfl,fun z=>(nomatch z),fun _=>?_⟩;nofun;refine⟨false,by simp,fun z=>(nomatch z),fun _=>?_⟩;nofun;refine Kf ?_;nofun;refine⟨_,_,_,_,_,_,rfl,rfl,rfl,?_⟩;rw[ve];refine rv (jF rfl (fun x=>.tup [x,x]) (fun _=>.bl true) (fun δ=>∃a b,δ=[a,b]) xs ⟨_,_,rfl⟩ ?_) ⟨?_,?_⟩
    ·rintro x hx δ ⟨a,b,rfl⟩;nofun;refine⟨rfl,⟨_,_,rfl⟩,?_⟩;nofun;exact rv (same_refl n x h (hp.2 x hx)) rfl
    ·dsimp only;rw[Qk,show sizeLine=16777216 from rfl];have:=hp.1
     lia
    ·nofun;refine rv (FA xs h) ?_;nofun
   | str x=>
    nofun;refine rv rfl ⟨false,rfl,fun z=>(nomatch z),fun _=>?_⟩;nofun;refine rv rfl ⟨false,rfl,fun z=>(nomatch z),fun _=>?_⟩;nofun;refine rv rfl ⟨true,rfl,fun _=>?_,fun z=>(nomatch z)⟩;nofun;refine rv rfl ⟨true,rfl,fun _=>?_,fun z=>(nomatch z)⟩;nofun;simp
   | int x=>
    nofun;refine rv rfl ⟨false,rfl,fun z=>(nomatch z),fun _=>?_⟩;nofun;refine rv rfl ⟨false,rfl,fun z=>(nomatch z),fun _=>?_⟩;nofun;refine rv rfl ⟨false,rfl,fun z=>(nomatch z),fun _=>?_⟩;nofun;refine rv rfl ⟨false,rfl,fun z=>(nomatch z),fun _=>?_⟩;nofun;refine rv rfl ⟨true,rfl,fun _=>?_,fun z=>(nomatch z)⟩;nofun;refine rv rfl ⟨false,rfl,⟨_,rfl,fun _=>?_,fun z=>(nomatch z)⟩⟩;nofun;simp
   | cN=>
    nofun;refine rv rfl ⟨false,rfl,fun z=>(nomatch z),fun _=>?_⟩;nofun;refine rv rfl ⟨true,rfl,fun _=>?_,fun z=>(nomatch z)⟩;nofun;exact rv rfl rfl
   | bl x=>
    nofun;refine rv rfl ⟨false,rfl,fun z=>(nomatch z),fun _=>?_⟩;nofun;refine rv rfl ⟨false,rfl,fun z=>(nomatch z),fun _=>?_⟩;nofun;refine rv rfl ⟨false,rfl,fun z=>(nomatch z),fun _=>?_⟩;nofun;refine rv rfl ⟨true,rfl,fun _=>?_,fun z=>(nomatch z)⟩;nofun;refine rv rfl ⟨true,rfl,fun _=>?_,fun z=>(nomatch z)⟩;nofun;refine rv (Ij x x h) ?_;nofun;simp
   | lv _=>exact hp.elim
   | ro _=>exact hp.elim
   | dv _=>exact hp.elim
   | ob _=>exact hp.elim
   | ty _=>exact hp.elim
  obtain⟨p,e1,rfl⟩:=e;exact e1
end Mi
namespace Mi
open PySem Sm L2 Rc Pg
theorem EL{cs:List (List Nat)}(h1:cs.length≤100)(h2:∀l∈cs,l.length≤100):plain 20 (B3 cs):=
 bW (iX (n:=2) (by lia) fun l hl=>iX (n:=1) (by have:=h2 l hl;lia) fun _ _=>trivial) (by lia)
mutual
theorem Du{W:Wd}{ps:List Str}:∀(n:Nat)(r:Row),aM W ps n r->∀w∈mZ r,w∈W.ao
 | n,.say _,_,w,h=>by simp[mZ,gE,cW] at h
 | n,.call d ts,o,w,h=>by
  rw[aM] at o;obtain⟨⟨j,qs,h1,_⟩,_⟩:=o;have:w=d:=by simpa [mZ,gE,cW] using h
  rw[this];exact Qn h1
 | n,.within l b,o,w,h=>by rw[aM] at o;rw[fA _ rfl] at h;simp[aJ] at h;exact cK (n+1) b o.2.2.2 w h
 | n,.all l b,o,w,h=>by rw[aM] at o;rw[fA _ rfl] at h;simp[aJ] at h;exact cK (n+1) b o.2.2.2 w h
 | n,.ask l b e,o,w,h=>by
  rw[aM] at o;rw[fA _ rfl] at h;simp[aJ] at h;rcases h with h | h
  ·exact cK (n+1) b o.2.2.2.2.1 w h
  ·exact cK (n+1) e o.2.2.2.2.2 w h
 | n,.oI s t a b c,o,w,h=>by
  rw[aM] at o;rw[fA _ rfl] at h;simp[aJ] at h;obtain⟨_,_,_,_,_,_,h1,h2,h3⟩:=o;rcases h with h | h | h
  ·exact cK (n+1) a h1 w h
  ·exact cK (n+1) b h2 w h
  ·exact cK (n+1) c h3 w h
 | n,.either a b,o,w,h=>by
  rw[aM] at o;rw[fA _ rfl] at h;simp[aJ] at h;obtain⟨_,_,_,h1,h2⟩:=o;rcases h with h | h
  ·exact cK (n+1) a h1 w h
  ·exact cK (n+1) b h2 w h
 | n,.again a,o,w,h=>by rw[aM] at o;rw[fA _ rfl] at h;simp[aJ] at h;exact cK (n+1) a o.2.2 w h
theorem cK{W:Wd}{ps:List Str}:∀(n:Nat)(l:List Row),bu W ps n l->∀w∈dB l,w∈W.ao
 | n,[],_,w,h=>by simp[dB,dg] at h
 | n,r::rs,o,w,h=>by
  rw[bu] at o;rw[qD,List.flatMap_cons,←qD] at h;rcases QS.mp h with h | h
  ·exact Du n r o.1 w h
  ·exact cK n rs o.2 w h
end
section
variable {W:Wd} {fl:List Int} {odd:Int} {P:Prog} {m:Nat} (ok:rn W fl odd) (o:IL W m P)
include ok o
theorem oo:∀d∈P.ao,∀w∈dB d.2.2,w∈P.ao.map (·.1):=fun d hd w hw=>by
 obtain⟨j,hj⟩:=TJ hd;rw[ia o];exact cK 1 d.2.2 (o.dd j d hj).2.2.1 w hw
theorem A9:P.ao.length≤6:=by rw[o.dl];exact ok.d2
theorem ND(hm:m≤60):(Bc P).length=P.ao.length∧∀l∈Bc P,l.Nodup∧l.length≤100∧∀x∈l,x < (Bc P).length:=by
 have h6:=A9 ok o;have e:(Bc P).length=P.ao.length:=by unfold Bc;rw[Qk]
 refine⟨e,fun l hl=>?_⟩;rw[e];unfold Bc at hl;obtain⟨d,hd,rfl⟩:=Qz.mp hl;have hc:=oo ok o d hd;have hcn:bc d.2.2≤60:=QB (wA hd) (QB o.ct hm);have hll:=Bi d.2.2;have key:=si (m:=eK (.lv (((dB d.2.2).map (rf P)).map nD))) (δ:=[]) (h:=[]) (ns:=(dB d.2.2).map (rf P)) rfl rfl (by rw[Qk];lia) (fun x hx=>by
  obtain⟨w,hw,rfl⟩:=Qz.mp hx;have:=(xr (hc w hw)).1
  lia)
 have lt:∀x∈nr ((dB d.2.2).map (rf P)),x < P.ao.length:=fun x hx=>by
  obtain⟨w,hw,rfl⟩:=Qz.mp ((key.2.1 x).mp hx);exact(xr (hc w hw)).1
 exact⟨key.1,QB (kF key.1 lt) (by lia),lt⟩
end
end Mi
namespace Pg
open PySem Sm L2
theorem Fs(φ:Str->Str)(l:List Row):dg (dG φ l)=(dg l).map (mapR φ):=by
 rw[←cm [] 0 (dG φ l),dA,←cm [] 0 l,QN,QN];rfl
end Pg
namespace Mi
open PySem Sm L2 Rc Pg
theorem Bm(φ:Str->Str)(r:Row):cW (mapR φ r)=(cW r).map φ:=by cases r <;> simp[mapR,cW]
theorem Bh(φ:Str->Str)(l:List Row):dB (dG φ l)=(dB l).map φ:=by
 unfold dB;rw[Fs,Tj,VY];congr 1
 funext r
 exact Bm φ r
theorem idx_map{φ:Str->Str}{w:Str}:∀ws:List Str,(∀v∈ws,φ v=φ w->v=w)->(ws.map φ).idxOf (φ w)=ws.idxOf w
 | [],_=>rfl
 | v::r,h=>by
  rw[Qt,List.idxOf_cons,List.idxOf_cons,idx_map r fun x hx=>h x (Qs _ hx)]
  by_cases z:v=w
  ·subst z;simp
  ·have z2:φ v≠φ w:=fun q=>z (h v Qv q);rw[S9.mpr z,S9.mpr z2]
theorem HI{Z:D}{h:MH}{α:Type}{F:Fn}(f k:α->D)(xs:List α){ei:EM}{δ:DS}(hi:ei δ h=some (.tup (xs.map f),h))(hc:gF [none,some 0] δ=[none,some Z])(hl:xs.length≤1000)(hx:∀x∈xs,F [Z,f x] h=some (k x,h)):
  fT (bq [none,some 0] (cG ei) (gN 0) bC (ay F (ab (ae 1) (ab (ae 0) ai)))) δ h=some (.lv (xs.map k),h):=by
 unfold fT bq cG;rw[hi];show(((bU [] (gN 0) bC _ (xs.map f) (gF [none,some 0] δ) h).bind _).map _)=_;rw[hc,jF (h:=h) rfl f k (fun δ=>∃v,δ=[v,some Z]) xs ⟨_,rfl⟩ (by
  rintro x hm δ ⟨v,rfl⟩;refine⟨_,rfl,rfl,⟨_,rfl⟩,?_⟩;exact⟨_,hx x hm,rfl⟩)]
 show((if _≤sizeLine then _ else _):Option _).map _=_;rw[Qp (by rw[Qk,Q4];lia)];rfl
section
variable {φ:Str->Str} {Z:D} (hby:∀(w:Str)(h:MH),low w->w.length≤100->cg [Z,.str w] h=some (.str (φ w),h)) {W:Wd} {fl:List Int} {odd:Int} {P:Prog} {m:Nat} (ok:rn W fl odd) (o:IL W m P)
include ok
theorem rW:∀w∈W.names++W.ao,low w∧w.length≤100:=fun w hw=>by
 rcases QS.mp hw with q | q
 ·have:=ok.sn w q;exact⟨this.2.2,by lia⟩
 ·have:=ok.sd w q;exact⟨this.2.2,by lia⟩
theorem BK{ps:List Str}(hp:ps∈W.params):∀w∈ps,low w∧w.length≤100:=fun w hw=>by have:=ok.sp ps hp w hw;exact⟨this.2.2,by lia⟩
include o hby
theorem Am{h:MH}:dW [Z,eY P] h=some (eY (lH φ P),h):=by
 have d2:=ok.d2;have dl:=o.dl;have nl:=(bD W.names).length_eq;have n2:=ok.n2;refine cX (nF ?_);unfold eY;nofun;refine eu ?_;nofun;refine⟨_,_,rfl,?_⟩;refine fu (fun i δ h'=>∃(v3 v4 v5 v6:Option D),δ=[some Z,some (.tup [.tup (P.names.map D.str),.tup (P.ao.map cA)]),some (.ob h.length),v3,v4,v5,v6]∧h'=h++[.lst ((P.ao.take i).map fun d=>cA (gu φ d))])
  ⟨_,_,_,_,rfl,by rw[Sq];rfl⟩ (fun _ _ _ _ _=>rfl) ?_ ?_
 ·rintro i x δ h' hx ⟨v3,v4,v5,v6,rfl,rfl⟩;rw[Qy] at hx;obtain⟨d,hd,rfl⟩:=QL.mp hx;obtain⟨a1,a2,a3,a4⟩:=o.dd i d hd;have hpm:=Qn a2;have hp:=BK ok hpm;have h3:=ok.p3 _ hpm;have hw:=rW ok d.1 (QH _ (Qn a1));have hnd:=bZ 1 d.2.2 a3 (by decide);have hi:i < P.ao.length:=(Qo.mp hd).1;have e1:=oa (Z:=Z) (h:=h++[MO.lst ((P.ao.take i).map fun d=>cA (gu φ d))]) (F:=cg) D.str (fun w=>D.str (φ w)) d.2.1 (ei:=ae 4) (δ:=[some Z,some (.tup [.tup (P.names.map D.str),.tup (P.ao.map cA)]),some (.ob h.length),some (.str d.1),some (.tup (d.2.1.map D.str)),some (.tup (cD d.2.2)),v6]) rfl rfl (by lia) fun w hw=>hby w _ (hp w hw).1 (hp w hw).2;have e2:=(wD (h:=h++[MO.lst ((P.ao.take i).map fun d=>cA (gu φ d))]) hby (rW ok) hp ok.p3 20).1 1 d.2.2 a3 a4 (by lia);have e3:=hby d.1 (h++[MO.lst ((P.ao.take i).map fun d=>cA (gu φ d))]) hw.1 hw.2;unfold cA;refine rv (a:=(_,_)) rfl ?_;refine kh (yE (rv e1 (rZ ?_)));nofun;refine nI ?_;nofun;refine⟨dH (getL _ _),?_⟩;nofun;refine rv e3 ?_;nofun;refine rv e2 ?_;nofun;refine rv (eB (getL _ _) (by rw[Qk,QP,Q4];lia)) ?_;rw[OB];nofun;refine⟨_,_,_,_,rfl,?_⟩;rw[take_snoc hd,QG];show _=h++[MO.lst (_++[D.tup [.str (φ d.1),.tup ((d.2.1.map φ).map D.str),.tup (cD (dG φ d.2.2))]])];rw[QN];rfl
 ·rintro δ h' ⟨v3,v4,v5,v6,rfl,rfl⟩;rw[Qk,QZ];have e1:=HI (Z:=Z) (h:=h++[MO.lst (P.ao.map fun d=>cA (gu φ d))]) (F:=cg) D.str (fun w=>D.str (φ w)) P.names (ei:=az ba (ae 1) (eK (.int 0))) (δ:=[some Z,some (.tup [.tup (P.names.map D.str),.tup (P.ao.map cA)]),some (.ob h.length),v3,v4,v5,v6]) rfl rfl (by rw[o.nm];lia) fun w hw=>by
   have hw:=rW ok w (RF _ ((bD _).mem_iff.mp (o.nm ▸ hw)));exact hby w _ hw.1 hw.2
  refine lM (qX (fv (qX (fv (qX (fv (rv e1 (nE ?_))))))));refine rv (a:=(.lv ((cH (P.names.map φ)).map D.str),_)) (by
   show(jV (P.names.map fun w=>D.str (φ w))).bind _=_;rw[show(P.names.map fun w=>D.str (φ w))=(P.names.map φ).map D.str by rw[QN];rfl,iV];show(if(P.names.map φ).length < 64 then _ else _)=_;rw[Qp (by rw[Qk,o.nm];lia)]) ?_
  refine nE (rv (a:=(.tup ((cH (P.names.map φ)).map D.str),_)) rfl ?_);nofun;refine rv (a:=(.tup (P.ao.map fun d=>cA (gu φ d)),h++[MO.lst (P.ao.map fun d=>cA (gu φ d))])) (by simp only[bV,dq,getL,QT]) ?_;nofun;have ep:D.tup [.tup ((cH (P.names.map φ)).map D.str),.tup (P.ao.map fun d=>cA (gu φ d))]=eY (lH φ P):=by
   unfold eY lH;rw[QN];rfl
  rw[ep];exact rv (vL (fun n z=>(nomatch z)) (B7 _ _)) rfl
end
theorem BY{W:Wd}{ps:List Str}:∀(k n:Nat)(l:List Row),cF l≤k->bu W ps n l->n≤5->∀r∈dg l,∃m,aM W ps m r∧m≤5
 | 0,n,l,hk,_,_=>by
  exfalso;cases l with
  | nil=>simp[cF] at hk
  | cons r rs=>rw[cF] at hk;lia
 | k+1,n,l,hk,o,hn=>fun r hr=>by
  rw[mT] at hr;obtain⟨r0,h0,hr⟩:=List.mem_flatMap.mp hr;have o0:=k7 o r0 h0;rcases QK.mp hr with rfl | hr
  ·exact⟨n,o0,hn⟩
  ·rw[tO] at hr;obtain⟨l',hl',hr⟩:=List.mem_flatMap.mp hr;obtain⟨h5,_,ol⟩:=z6 o0 l' hl';have h1:=pR h0;have h2:=pQ hl';exact BY k (n+1) l' (by lia) ol (by lia) r hr
section
variable {W:Wd} {fl:List Int} {odd:Int} {P:Prog} {m:Nat} (ok:rn W fl odd) (o:IL W m P)
include ok o
theorem yJ:∀x∈placesFrom 0 P.ao,∃ps n,ps∈W.params∧aM W ps n x.2.2∧n≤5:=fun x hx=>by
 obtain⟨_,d,hd,hr⟩:=jq (x:=(x.1,x.2.2)) (Qz.mpr ⟨x,hx,rfl⟩);obtain⟨j,hj⟩:=TJ hd;obtain⟨_,a2,a3,_⟩:=o.dd j d hj;obtain⟨n,h1,h2⟩:=BY _ 1 d.2.2 (Qq _) a3 (by decide) _ hr;exact⟨_,n,Qn a2,h1,h2⟩
theorem zZ(hm:m≤60):plain 20 (.tup ((placesFrom 0 P.ao).map rowAt)):=by
 refine iX (n:=19) (by rw[dc];exact QB o.ct (by lia)) fun x hx=>?_;obtain⟨ps,n,_,h1,h2⟩:=yJ ok o x hx;have sh:=qt ok.p3 n _ h1;have nd:=mP n _ h1 h2;exact aW (n:=18) trivial (aW (bW (vz _ sh) (by lia)) gj (by simp)) (by simp)
theorem LK{φ:Str->Str}(C:N5 φ):Bc (lH φ P)=Bc P:=by
 unfold Bc;show(P.ao.map (gu φ)).map _=_;rw[QN];refine Ta fun d hd=>?_;show nr ((dB (dG φ d.2.2)).map (rf (lH φ P)))=_;rw[Bh,QN];congr 1;refine Ta fun w hw=>?_;show((P.ao.map (gu φ)).map (·.1)).idxOf (φ w)=(P.ao.map (·.1)).idxOf w;rw[QN,show(P.ao.map ((·.1)∘gu φ))=(P.ao.map (·.1)).map φ by rw[QN];rfl];have hlow:∀v∈P.ao.map (·.1),low v:=fun v hv=>(ok.sd v (ia o ▸ hv)).2.2;exact idx_map _ fun v hv e=>C.inj v w (hlow v hv) (hlow w (oo ok o d hd w hw)) e
end
theorem cw_cip{a b:Int}(ha:a∈([1,3,5,7,9,11,15,17,19,21,23,25]:List Int)):N5 (cw a b) where
 nil:=rfl
 len:=cw_len a b
 lw:=cw_low a b
 inj:=fun _ _=>cw_inj ha
theorem Qi(cs:List Int):Cl [.lst (cs.map D.int),.lst [.int 0,.ob 0,.int 0]]:=by
 intro o ho;rcases QK.mp ho with rfl | ho
 ·exact gd _ D.int (fun _=>rfl) _
 ·rw[QC.mp ho];rfl
theorem law_true(ns:List Int)(hn:ns.length≤63):∃h',Cg [.ro (ns.map D.int)] []=some (.bl true,h'):=by
 have e:Rn (Cg [.ro (ns.map D.int)] []) fun p=>p.1=.bl true:=by
  obtain⟨cs,ed,S0⟩:=AY ns hn 90000 (by decide);refine ck ?_;nofun;refine rv ed ?_;nofun;refine jw ?_;nofun;refine⟨6,rfl,by decide,by decide,?_⟩;refine fu (fun i δ h=>∃(v2 v3 v4 v5 v6:Option D),δ=[some (.ro (ns.map D.int)),some (.ob 1),v2,v3,v4,v5,v6]∧St 1 0 cs (90000-10000*i) h∧Cl h)
   ⟨_,_,_,_,_,rfl,S0,Qi cs⟩ (fun _ _ _ _ _=>rfl) ?_ ?_
  ·rintro i x δ h hx ⟨v2,v3,v4,v5,v6,rfl,S,C⟩;have hi:i < 6:=by
    have:=(Qo.mp hx).1
    simpa using this
   nofun;refine kO (is:=[8,14,60]) (fun i=>0≤i∧i≤60) (by decide) ((S.le (R':=90000-10000*(i+1)+9999+1) (by lia)).sb) fun most h1 hm _ A1=>?_;nofun;refine kO (is:=[0,12,4]) (fun i=>0≤i∧i≤12) (by decide) A1 fun odd h2 ho _ A2=>?_;nofun;obtain⟨most,rfl⟩:=RS hm.1;have hmm:most≤60:=by lia
   refine DB (R:=90000-10000*(i+1)+2) (A2.le (by lia)) (C.but A2.S A2.b) ho.1 (by lia) fun W fl P h3 ok okp A3 C3=>?_;nofun;refine kO (is:=[1,3,5,7,9,11,15,17,19,21,23,25]) (fun a=>a∈([1,3,5,7,9,11,15,17,19,21,23,25]:List Int)) (fun _ h=>h) A3 fun a h4 ha _ A4=>?_;nofun;refine gf A4 (by decide) (by decide) fun b h5 _ _ A5=>?_;have CP:=cw_cip (b:=b) ha;have hby:∀(w:Str)(h:MH),low w->w.length≤100->cg [.tup [.int a,.int b],.str w] h=some (.str (cw a b w),h):=fun w h h1 h2=>IB h1 h2;generalize cw a b=φ at CP hby;have ok':=Js CP ok;have okp':=EJ CP ok okp;have fit:=okp.fit (by lia) ok.d2;have fit':=okp'.fit (by lia) ok'.d2;obtain⟨ecs,hcs⟩:=ND ok okp hmm;have h6:=A9 ok okp;have ecalls:dC [eY P] h5=some (B3 (Bc P),h5):=lT fit (by rw[ia okp];exact ok.nd) h6 (oo ok okp) h5;have ecalls':dC [eY (lH φ P)] h5=some (B3 (Bc P),h5):=by
    rw[←LK ok okp CP];exact lT fit' (by rw[ia okp'];exact ok'.nd) (A9 ok' okp') (oo ok' okp') h5
   have erows:=pj fit h5;have erows':=pj fit' h5;have edue:(placesFrom 0 (lH φ P).ao).map rowAt=(placesFrom 0 P.ao).map fun x=>D.tup [xt x.1,aZ (mapR φ x.2.2)]:=by
    show(placesFrom 0 (P.ao.map (gu φ))).map rowAt=_;rw[ki,QN];rfl
   have e6:bq [none,none,some 4] (cG (ay eQ (ab (ae 3) ai))) (gT 2 (aC (gN 0) (aC (gN 1) cP))) bC (ay bJ (ab (ae 0) (ab (ay (cC 20) (ab (ae 2) (ab (ae 1) ai))) ai))) [some (.ro (ns.map D.int)),some (.ob 1),some x,some (eY P),some (.tup [.int a,.int b]),some (eY (lH φ P)),v6] h5=some ((placesFrom 0 (lH φ P).ao).map rowAt,h5):=by
    rw[edue];have ei:ay eQ (ab (ae 3) ai) [some (.ro (ns.map D.int)),some (.ob 1),some x,some (eY P),some (.tup [.int a,.int b]),some (eY (lH φ P)),v6] h5=some (.tup ((placesFrom 0 P.ao).map rowAt),h5):=erows;unfold bq cG;rw[ei];show((bU [] (gT 2 (aC (gN 0) (aC (gN 1) cP))) bC _ ((placesFrom 0 P.ao).map rowAt) [none,none,some (.tup [.int a,.int b])] h5).bind _)=_;rw[jF (h:=h5) rfl rowAt (fun x=>D.tup [xt x.1,aZ (mapR φ x.2.2)]) (fun δ=>∃u v,δ=[u,v,some (.tup [.int a,.int b])]) (placesFrom 0 P.ao) ⟨_,_,rfl⟩ (by
     rintro y hy δ ⟨u,v,rfl⟩;obtain⟨ps,n,hp,h1,h2⟩:=yJ ok okp y hy;have nd:=mP n _ h1 h2;have er:=(wD (h:=h5) hby (rW ok) (BK ok hp) ok.p3 20).2 n y.2.2 h1 (by lia);refine⟨_,rfl,rfl,⟨_,_,rfl⟩,?_⟩;show Rn _ _;nofun;refine rv er ?_;nofun)]
    show(if _≤sizeLine then _ else _)=_;rw[Qp (by rw[Qk,dc,Q4];have:=fit.ct;lia)]
   nofun;refine rv (Am hby ok okp) ?_;nofun;refine rv (CG ok' okp' hmm) ?_;nofun;refine rv (a:=(.bl false,h5)) rfl ⟨false,rfl,ff ?_⟩;refine jv (rZ (kh (yE (qX (fv (CF (rv e6 (nE ?_))))))));refine rv (a:=(.tup ((placesFrom 0 (lH φ P).ao).map rowAt),h5)) rfl (rZ ?_);nofun;refine rv erows' ?_;nofun;refine rv (same_refl 20 _ h5 (zZ ok' okp' hmm)) ⟨true,rfl,ff ?_⟩;nofun;refine rv ecalls' ?_;nofun;refine rv ecalls ?_;nofun;refine rv (same_refl 20 (B3 (Bc P)) h5 (EL (by lia) fun l hl=>(hcs l hl).2.1)) ⟨true,rfl,ff ?_⟩;obtain⟨c,hc,ec⟩:=tW ecalls (by lia) (fun l hl=>(hcs l hl).2);obtain⟨c',hc',ec'⟩:=tW ecalls' (by lia) (fun l hl=>(hcs l hl).2);obtain rfl:c'=c:=by rw[Se,hc,hc']
   nofun;refine rv ec' ?_;nofun;refine rv ec ?_;refine rv (a:=(.bl false,h5)) (by cases c' <;> rfl) ⟨false,rfl,ff ?_⟩;nofun;exact⟨_,_,_,_,_,rfl,A5.S.le (by lia),C.but A5.S A5.b⟩
  ·rintro δ h ⟨v2,v3,v4,v5,v6,rfl,S,C⟩;nofun
 obtain⟨⟨d,h'⟩,e1,rfl⟩:=e;exact⟨h',e1⟩
end Mi
open PySem PySem.W PyProof.Rows
theorem Mi.Pa:defOf Mi.view "law"=some (Hd.vp "law" Mi.qk,[]):=by ac_nf
theorem Mi.hp:PySem.Program.theDef Mi.pw "law"=some (L2.nZ Mi.qk,L2.jE Mi.qk,L2.au Mi.qk):=by ac_nf
theorem PySem.Challenge.cw_neverstuck_k07_whole_other_words_holds : PySem.Challenge.rw_neverstuck_k07_whole_other_words.Holds := by
 refine holds_law Mi.JT fun JT=>?_;refine PySem.W.holds_open (q:=Mi.view) (loose:=["SHAPES"]) (Xt:=Mi.Xt) (XP:=XL Mi.view []) (Yf:=Mi.Yf) (Ya:=Mi.ya) (YP:=fun w h=>Hd.tabAt h "SHAPES"=Mi.ya w) (N:=20000) (d:=Hd.vp "law" Mi.qk) (kwd:=[]) Mi.left (fun _ _ e=>e) (fun _ _ _ y k=>Hd.zN k y) (fun s e=>xl_of s (Q1.mp e).1) XL.keeps Mi.Pa Mi.hp (by ac_nf) (fun s e=>recFacts_of (Q1.mp e).2) (by ac_nf) JT (by decide+kernel) ⟨rfl,rfl,rfl,rfl,rfl,by decide+kernel⟩ (by w_witness2) ?_;exact Hd.Lv (k:=28) (by ac_nf) (by ac_nf) ⟨rfl,by decide,by decide⟩ fun w s₀ mg mb h G Y=>Mi.all_mk G.T Y Mi.law_true
