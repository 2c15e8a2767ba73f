import PyProof.Rows.All
import Wide.All
import OpenK.AllK
import Wide.FinOn
import Lean
import PyProof.EqAt
import PyProof.EqKinds
import PyProof.TupleCall
import PyProof.AttrMissHeap
import KE.KDictOf
import PyProof.ConsumeWalk
import PyProof.ZipIter
import PyProof.EnumMake
import KE.KEqDict
import KE.KDictSum
import KE.KItemsList
import PyProof.CallStr
import PyProof.CollectIter
import PyProof.FString
import PyProof.FString5
import PyProof.FactsAll.tuple_2
import PyProof.FactsAll.zip_1
import PyProof.ListMulRoad
import PyProof.ListRange
import PyProof.MeetsStr
import PyProof.NeKinds
import PyProof.Rows.ReprOcc
import PyProof.Rows.RuleDivmod
import PyProof.Rows.SortShell
import PyProof.Rows.StrWeight2
import PyProof.StrCalls2
import PyProof.StrCalls5
import PyProof.StrWalks
import PyProof.WalksMore
import PySem.Challenge.RW_neverstuck_k05_calls
set_option Elab.async false
set_option linter.all false
set_option maxRecDepth 100000
set_option maxHeartbeats 4000000
set_option compiler.small 0
set_option compiler.extract_closed false
set_option compiler.reuse false
noncomputable section
local macro_rules | `(tactic| ac_nf) => `(tactic| kernel_rfl)
abbrev PZ:=@PySem.wpAny_bind
abbrev P1:=@List.length_map
abbrev P2:=@PySem.Heap.get?_push_of_some
abbrev P4:=@List.getElem?_eq_some_iff
abbrev P5:=@PySem.wpAny_pure
abbrev P6:=@List.mem_of_getElem?
abbrev P7:=@if_pos
abbrev P8:=@Nat.le_refl
abbrev P9:=@List.getElem?_eq_getElem
abbrev Qa:=@if_neg
abbrev Qb:=@List.length_append
abbrev Qc:=@List.mem_cons_of_mem
abbrev Qd:=@List.map_cons
abbrev Qe:=@List.mem_cons_self
abbrev Qf:=@PySem.Heap.lt_size
abbrev Qg:=@PySem.Heap.get?_push_size
abbrev Qh:=@List.size_toArray
abbrev Qi:=@List.getElem?_map
abbrev Qj:=@List.mem_singleton
abbrev Qk:=@List.getElem?_append_left
abbrev Ql:=@List.mem_map
abbrev Qm:=@Nat.le_trans
abbrev Qn:=@List.mem_cons
abbrev Qo:=@Nat.ne_of_lt
abbrev Qp:=@Int.toNat_natCast
abbrev Qq:=@Bool.and_eq_true
abbrev Qr:=@List.map_append
abbrev Qs:=@Option.map_eq_some_iff
abbrev Qt:=@List.length_range
abbrev Qu:=@List.mem_append_right
abbrev Qv:=@List.length_cons
abbrev Qw:=@List.getElem?_append_right
abbrev Qx:=@List.mem_append
abbrev Qy:=@List.length_take
abbrev Qz:=@Bool.false_eq_true
abbrev QA:=@Option.map_some
abbrev QB:=@Option.bind_some
abbrev QC:=@PySem.F.plainAttrs_list
abbrev QD:=@Nat.le_add_right
abbrev QE:=@Array.getElem?_eq_getElem
abbrev QF:=@Nat.lt_of_lt_of_le
abbrev QG:=@List.filterMap_cons
abbrev QH:=@List.getElem?_take_of_lt
abbrev QI:=@List.map_map
abbrev QJ:=@PySem.Heap.size_push
abbrev QK:=@of_decide_eq_true
abbrev QL:=@PySem.sizeLine_eq
abbrev QM:=@List.take_length
abbrev QN:=@PySem.PassesOwn.never
abbrev QO:=@decide_eq_true
abbrev QP:=@Bool.and_eq_true_iff
abbrev QQ:=@List.length_singleton
abbrev QR:=@List.getElem?_eq_none
abbrev QS:=@decide_eq_false
abbrev QT:=@decide_eq_true_eq
abbrev QU:=@PySem.Around.under_plainId
abbrev QV:=@List.append_assoc
abbrev QW:=@PySem.wpAny_holding
abbrev QX:=@List.lookup_cons
abbrev QY:=@PySem.F.slot_list_append
abbrev QZ:=@Bool.false_ne_true
abbrev Q0:=@PySem.wpAny_call_entry
abbrev Q1:=@PySem.wpAny_newObj_type
abbrev Q2:=@PySem.wpAny_callSpecial?_slot
abbrev Q3:=@List.mem_range
abbrev Q4:=@List.getElem?_set_ne
abbrev Q5:=@PySem.wpAny_mono
abbrev Q6:=@PySem.codeAny_builtin
abbrev Q7:=@PySem.F.type_list_append
abbrev Q8:=@PySem.wpAny_field
abbrev Q9:=@Nat.zero_le
abbrev Ra:=@List.append_nil
abbrev Rb:=@List.any_eq_true
abbrev Rf:=@Int.eq_ofNat_of_zero_le
abbrev Rg:=@PyProof.Rows.slot_tuple_getitem
abbrev Rh:=@List.getElem?_set_self
abbrev Ri:=@List.take_append_drop
abbrev Rj:=@Array.getElem?_toList
abbrev Rk:=@PySem.wpAny_truthy_bool
abbrev Rl:=@PySem.F.called_set
abbrev Rm:=@List.getD_eq_getElem?_getD
abbrev Ro:=@Array.mem_toList_iff
abbrev Rp:=@PySem.W.kia_one
abbrev Rq:=@List.all_eq_true
abbrev Rr:=@PySem.wpAny_seqItems
abbrev Rt:=@List.nodup_append
abbrev Ru:=@Ne.symm
abbrev Rv:=@Int.emod_nonneg
abbrev Rw:=@PySem.wpAny_setState_of
abbrev Rx:=@PySem.Heap.get?_update_self
abbrev Ry:=@List.getElem?_cons_succ
abbrev Rz:=@PyProof.Rows.callWith_type1
abbrev RA:=@PySem.wpAny_rule
abbrev RB:=@Bool.not_true
abbrev RC:=@PySem.mem_of_lookup
abbrev RD:=@List.replicate_succ
abbrev RE:=@Array.length_toList
abbrev RF:=@List.length_set
abbrev RG:=@List.length_nil
abbrev RH:=@Classical.byContradiction
abbrev RI:=@List.mem_iff_getElem?
abbrev RJ:=@Int.emod_lt_of_pos
abbrev RK:=@List.length_filterMap_le
abbrev RL:=@List.mem_append_left
abbrev RM:=@PySem.wpAny_standAt
abbrev RN:=@Bool.eq_iff_iff
abbrev RO:=@if_false
abbrev RP:=@beq_self_eq_true
abbrev RQ:=@PySem.F.slot_list_extend
abbrev RS:=@PySem.Heap.get?_update_other
abbrev RT:=@PySem.plainId_quiet
abbrev RU:=@PyProof.Rows.F.plain_set_update_loop
abbrev RV:=@Nat.not_lt_zero
abbrev RW:=@List.nodup_cons
abbrev RX:=@List.nil_append
abbrev RY:=@List.foldl_cons
abbrev RZ:=@bne_self_eq_false
abbrev R3:=@Array.all_eq_true_iff_forall_mem
abbrev R6:=@List.any_cons
abbrev R8:=@List.getElem?_range
abbrev R9:=@Nat.add_sub_cancel_left
abbrev Sa:=@List.take_zero
abbrev Sd:=@List.getElem?_replicate
abbrev Se:=@List.take_append_of_le_length
abbrev Sf:=@Nat.lt_or_ge
abbrev Sg:=@List.mem_filterMap
abbrev Sh:=@List.map_nil
abbrev Si:=@PySem.wpAny_isInstance
abbrev Sj:=@PySem.wpAny_askSetting
abbrev Sk:=@Nat.min_le_left
abbrev Sl:=@List.sum_append
abbrev Sn:=@List.find?_cons
abbrev So:=@Bool.or_eq_true
abbrev Sq:=@Nat.lt_succ_of_lt
abbrev Sr:=@List.flatten_cons
abbrev Ss:=@PySem.wpAny_pyIter_tuple
abbrev Su:=@PySem.wpAny_passesOwn
abbrev Sv:=@List.take_succ
abbrev Sw:=@Array.getElem?_eq_some_iff
abbrev Sx:=@PySem.hashByValue_scannable
abbrev Sy:=@PySem.F.slot_enumerate_next
abbrev Sz:=@Nat.zero_add
abbrev SD:=@Nat.lt_succ_self
abbrev SF:=@PySem.F.type_list_extend
abbrev SH:=@PySem.F.slot_tuple_iterator_next
abbrev SJ:=@Nat.lt_irrefl
abbrev SK:=@beq_iff_eq
abbrev SN:=@PySem.codeAny_mono
abbrev SO:=@PySem.Str.length_append
abbrev SR:=@if_true
abbrev SU:=@PySem.wpAny_comprehension_free
abbrev SV:=@PySem.wpAny_specialOf
abbrev SX:=@PySem.wpAny_Call_Name_kw
abbrev SY:=@PySem.wpAny_getItem_str_slice
abbrev S8:=@List.set_append_right
abbrev S9:=@List.not_mem_nil
abbrev Ta:=@List.length_drop
abbrev Tb:=@List.all_cons
abbrev Tc:=@PySem.wpAny_pyIter_list
abbrev Td:=@PySem.SetTable.insertAt_perm
abbrev Te:=@PySem.F.slot_tuple_hash
abbrev Tf:=@Nat.le_succ
abbrev Tg:=@List.mem_of_mem_take
abbrev Th:=@beq_eq_false_iff_ne
abbrev Ti:=@List.flatMap_append
abbrev Tj:=@PySem.wpAny_forIn_list
abbrev To:=@PyProof.Rows.F.entry_set_update_loop
abbrev Tr:=@Nat.ne_of_gt
abbrev Ts:=@Nat.lt_trans
abbrev Tt:=@PySem.wpAny_attempt
abbrev Tu:=@List.mem_replicate
abbrev Tv:=@List.filterMap_map
abbrev Tw:=@Array.forIn_toList
abbrev Tx:=@PySem.Heap.SameBut.update
abbrev TB:=@PySem.F.plain_extend_loop
abbrev TC:=@List.take_sublist
abbrev TF:=@List.flatMap_cons
abbrev TH:=@List.ext_getElem?
abbrev TJ:=@List.any_eq_false
abbrev TL:=@Bool.not_eq_true'
abbrev TN:=@PySem.wpAny_typeOf
abbrev TQ:=@PySem.F.args_tuple_add_2
abbrev TR:=@List.Perm.eq_of_pairwise
abbrev TV:=@PySem.tupleKind_room_in1
abbrev TX:=@PySem.isSubtype_stop
abbrev TY:=@PySem.call_meets
abbrev TZ:=@PySem.Obj.data_mapFields
abbrev T8:=@PySem.F.entry_tuple_add
abbrev T9:=@Option.join_eq_some_iff
abbrev Ua:=@Option.bind_eq_some_iff
abbrev Ub:=@Nat.succ_le_succ
abbrev Uc:=@List.getElem_mem
abbrev Ud:=@List.flatMap_map
abbrev Ue:=@List.cons_append
abbrev Ug:=@PySem.SeqAt.eqAt_reads
abbrev Uh:=@PySem.F.slot_tuple_add
abbrev Ui:=@List.take_of_length_le
abbrev Uj:=@List.find?_cons_of_neg
abbrev Uk:=@Array.getElem?_eq_none
abbrev Ul:=@PySem.wpAny_letGo
abbrev Um:=@PySem.fits_of_scanBound
abbrev Uo:=@Nat.min_eq_left
abbrev Ur:=@List.mem_filter
abbrev Us:=@Array.mem_of_getElem?
abbrev Ut:=@List.getElem?_of_mem
abbrev Uu:=@PySem.wpAny_pyNext_list_item
abbrev Uv:=@List.map_congr_left
abbrev Uw:=@PySem.wpAny_updateSeq
abbrev Ux:=@PySem.wpAny_execs_nil
abbrev Uy:=@PySem.post_val_or_str
abbrev UA:=@PySem.codeAny_of_tree
abbrev UB:=@PySem.F.slot_zip_next
abbrev UC:=@Nat.add_assoc
abbrev UD:=@List.sum_cons
abbrev UE:=@PySem.wpAny_pyNext_list_end
abbrev UG:=@List.getElem?_take
abbrev UH:=@List.getElem?_drop
abbrev UI:=@List.findIdx?_cons
abbrev UJ:=@List.findIdx?_eq_some_iff_getElem
abbrev UK:=@or_false
abbrev UL:=@PySem.wpAny_updateSeq_pair
abbrev UM:=@PySem.isSubtype_type
abbrev UN:=@Option.isSome_map
abbrev UO:=@Nat.lt_trichotomy
abbrev UP:=@Nat.le_of_lt
abbrev UQ:=@Nat.add_left_comm
abbrev UR:=@Nat.add_comm
abbrev US:=@List.foldl_append
abbrev UT:=@PySem.wpAny_setEntries_of
abbrev UU:=@List.isEmpty_nil
abbrev UW:=@PySem.wpAny_onRaise
abbrev UX:=@List.eq_nil_of_length_eq_zero
abbrev UY:=@List.of_mem_zip
abbrev UZ:=@List.forIn_cons
abbrev U0:=@Array.getD_eq_getD_getElem?
abbrev U1:=@PySem.wpAny_assign_Name
abbrev U2:=@PySem.eqIsQuiet_byValue
abbrev U3:=@Nat.not_lt
abbrev U4:=@Nat.mod_lt
abbrev U5:=@List.nodup_nil
abbrev U6:=@List.length_eraseIdx_of_lt
abbrev U7:=@Bool.and_false
abbrev U8:=@PySem.F.slot_dict_getitem
abbrev U9:=@List.pairwise_iff_getElem
abbrev Va:=@List.drop_eq_getElem_cons
abbrev Vb:=@PySem.noFill_tuple_add
abbrev Vc:=@PySem.Around.in1_units
abbrev Vd:=@Option.isSome_iff_exists
abbrev Ve:=@List.length_erase_of_mem
abbrev Vf:=@Bool.true_and
abbrev Vg:=@Bool.or_false
abbrev Vh:=@decide_eq_false_iff_not
abbrev Vi:=@PySem.F.slot_list_index
abbrev Vj:=@List.pairwise_mergeSort
abbrev Vk:=@List.getElem?_cons_zero
abbrev Vl:=@PySem.W.cellsFrom_some
abbrev Vm:=@PySem.F.args_tuple_iterator_next_1
abbrev Vn:=@Nat.sub_self
abbrev Vo:=@Nat.add_zero
abbrev Vp:=@List.range_succ_eq_map
abbrev Vq:=@List.length_pos_of_mem
abbrev Vr:=@List.find?_cons_of_pos
abbrev Vs:=@List.filterMap_flatMap
abbrev Vt:=@Int.ediv_one
abbrev Vu:=@PySem.F.entry_tuple_iterator_next
abbrev Vv:=@PyProof.Rows.assignInOrder_cons
abbrev Vw:=@List.singleton_append
abbrev Vx:=@List.length_replicate
abbrev Vy:=@List.getElem?_toArray
abbrev Vz:=@List.filterMap_eq_map
abbrev VA:=@List.filterMap_append
abbrev VB:=@PySem.wpAny_setField
abbrev VC:=@PySem.wpAny_runValue
abbrev VD:=@PySem.wpAny_newTuple
abbrev VE:=@PySem.Calls.Name_function_global
abbrev VF:=@Nat.pow_le_pow_right
abbrev VG:=@List.Pairwise.of_map
abbrev VH:=@Array.getElem_of_mem
abbrev VI:=@PySem.Calls.call_function_entry
abbrev VJ:=@List.mergeSort_perm
abbrev VL:=@Int.toNat_of_nonneg
abbrev VM:=@PySem.seq_tuple_add
abbrev VN:=@PySem.W.kitx_tuple
abbrev VO:=@Nat.eq_or_lt_of_le
abbrev VP:=@Nat.add_sub_cancel
abbrev VQ:=@List.pairwise_cons
abbrev VR:=@PySem.putSet_of
abbrev VS:=@PySem.W.kitx_list
abbrev VT:=@PySem.W.kitx_dict
abbrev VU:=@PySem.F.args_enumerate_next_1
abbrev VW:=@Nat.le_succ_of_le
abbrev VX:=@List.getElem?_set
abbrev VY:=@List.getElem?_inj
abbrev VZ:=@Array.toList_push
set_option hygiene false
set_option hygiene true
abbrev FR:=PySem.W.Frag
namespace Hd
open PySem PySem.W PySem.Spec PyProof.Rows
noncomputable def Be:List Value->Option (List Int)
 | []=>some []
 | .int i _::r=>(Be r).map fun is=>i::is
 | _=>none
noncomputable def Bq(v:Value)(t:String):Bool:=match v with
 | .type s=>decide (s=t)
 | _=>false
noncomputable def rowAt(h:Heap)(e:DictEntry):Option (Str×Int×List Int):=match e.key with
 | .str x _=>match e.val with
  | .ref t=>match h.get? t with
   | some u=>if Bq u.cls "tuple"&&u.dict.isNone then(match u.data with
     | .seq its _=>if its.size≤100 then(Be its.toList).map fun is=>(x,e.hash,is) else none
     | _=>none) else none
   | none=>none
  | _=>none
 | _=>none
noncomputable def lJ(h:Heap):List DictEntry->Option (List (Str×Int×List Int))
 | []=>some []
 | e::r=>(rowAt h e).bind fun x=>(lJ h r).map fun xs=>x::xs
noncomputable def tabAt(h:Heap)(nm:Str):Option (List (Str×Int×List Int)):=match h.nsMap mainGlobals nm with
 | some (.ref a)=>if a==sysModules then none else(match h.get? a with
  | some o=>if Bq o.cls "dict"&&o.dict.isNone&&decide (o.slots=#[]) then(match o.data with
    | .dict es _=>lJ h es.toList
    | _=>none) else none
  | none=>none)
 | _=>none
theorem Ho(row:String)(h0:∀w:World,(fencedOpening treeTable p w N).map (fun s₀=>(topFrom treeTable p (w.withFollow row false) N s₀).map (fun s=>(openSeen q loose (importedModules p.main.body) Xt true s,Yf s)))=some (some (openGood q loose,Ya (w.withFollow row false))))(h1:∀w:World,(fencedOpening treeTable p w N).map (fun s₀=>(topFrom treeTable p (w.withFollow row true) N s₀).map (fun s=>(openSeen q loose (importedModules p.main.body) Xt true s,Yf s)))=some (some (openGood q loose,Ya (w.withFollow row true)))):LeftO p q loose Xt Yf Ya N true:=fun w=>by
 obtain⟨s₀,a,b0⟩:=Qs.mp (h0 w);obtain⟨s₁,a1,b1⟩:=Qs.mp (h1 w);have e:=World.withFollow_self w row;unfold openEnds;cases hb:w.params.followText row <;> rw[hb] at e
 ·rw[a];rw[e] at b0;exact b0
 ·rw[a1];rw[e] at b1;exact b1
end Hd
namespace Mi
open PySem
abbrev pw:Program:=PySem.Challenge.pw_neverstuck_k05_calls
noncomputable def top(i:Nat):Stmt:=pw.main.body.getD i (.Pass ⟨0,0,0,0⟩)
noncomputable def gD:List (Str×List Int):=[("say",[2,0]),("call",[3,0]),("within",[2,1]),("all",[2,1]),("ask",[2,2]),("by",[3,3]),("either",[1,2]),("again",[1,1])]
noncomputable def view:Program:={pw with main:={pw.main with body:=[top 1,top 2,top 3,top 4,top 5,top 6,top 7,top 8,top 10,top 11,top 12,top 13,top 14,top 15,top 16,top 17,top 18,top 19,top 20,top 21,top 22,top 23,top 24,top 25,top 26,top 27,top 28,top 29,top 30,top 31,top 32,top 33,top 34,top 35,top 36,top 38,top 39,top 40,top 41,top 42,top 43,top 44,top 45,top 46,top 47,top 48,top 49,top 50,top 51,top 52,top 53,top 54,top 55,top 56]}}
end Mi
local macro_rules | `(tactic| walk_at "s") => `(tactic| exact⟨rfl, rfl, rfl, by decide +kernel, rfl, by decide +kernel, by decide +kernel⟩)
namespace Mi
open PySem PySem.W PyProof.Rows
abbrev ya(w:World):=some (gD.map fun x:Str×List Int=>(x.1,hashStr w x.1,x.2))
abbrev Xt:Shared->Bool:=fun s=>xlAt view [] s&&recOk (RowW.records (OpenRow.toRowW PySem.Challenge.rw_neverstuck_k05_calls.row)) s
abbrev Yf:Shared->Option (List (Str×Int×List Int)):=fun s=>Hd.tabAt s.heap "SHAPES"
theorem M5(w:World):(fencedOpening treeTable pw w 20000).map (fun s₀=>(topFrom treeTable pw (w.withFollow "special-get-raises" false) 20000 s₀).map (fun s=>(openSeen view (["SHAPES"]:List Str) (importedModules pw.main.body) Xt true s,Yf s)))=some (some (openGood view (["SHAPES"]:List Str),(ya) (w.withFollow "special-get-raises" false))):=by ac_nf
theorem M4(w:World):(fencedOpening treeTable pw w 20000).map (fun s₀=>(topFrom treeTable pw (w.withFollow "special-get-raises" true) 20000 s₀).map (fun s=>(openSeen view (["SHAPES"]:List Str) (importedModules pw.main.body) Xt true s,Yf s)))=some (some (openGood view (["SHAPES"]:List Str),(ya) (w.withFollow "special-get-raises" true))):=by ac_nf
theorem left:LeftO pw view (["SHAPES"]:List Str) Xt Yf (ya) 20000:=Hd.Ho "special-get-raises" M5 M4
theorem Jv:PySem.Challenge.rw_neverstuck_k05_calls.wellSaid=true:=by
 unfold OpenLaw.wellSaid
 repeat(with_reducible refine look_both ?_ (by decide+kernel))
 unfold OpenRow.wellSaid
 repeat(with_reducible refine look_both ?_ (by decide+kernel))
 unfold OpenRow.partSaid
 repeat(with_reducible refine look_both ?_ (by decide+kernel))
 unfold looksOpen
 repeat(with_reducible refine look_both ?_ (by decide+kernel))
 decide+kernel
end Mi
namespace L2
open PySem PySem.Spec PyProof.Rows
abbrev Key:=Sum Int Str
noncomputable def uZ:Key->Value->Bool
 | .inl k,v=>Value.isInt k v
 | .inr x,v=>Value.isStrOf x v
noncomputable def KZ(w:World):Key->Int
 | .inl k=>hashInt k
 | .inr x=>hashStr w x
theorem cH:∀{k:Key} {v:Value},uZ k v=true->(∃i t,k=Sum.inl i∧v=Value.int i t)∨(∃x t,k=Sum.inr x∧v=Value.str x t)
 | .inl i,v,h=>by
  obtain⟨t,e⟩:=Value.isInt_shape (k:=i) (v:=v) h;exact .inl ⟨i,t,rfl,e⟩
 | .inr x,v,h=>by
  obtain⟨t,e⟩:=Value.isStrOf_shape (x:=x) (v:=v) h;exact .inr ⟨x,t,rfl,e⟩
theorem Cw(i:Int)(t:Tok):uZ (.inl i) (.int i t)=true:=by simp[uZ,Value.isInt]
theorem Cv(x:Str)(t:Tok):uZ (.inr x) (.str x t)=true:=by simp[uZ,Value.isStrOf]
theorem KY(a b:Int):decide ((Sum.inl a:Key)=Sum.inl b)=(a==b):=by
 by_cases e:a=b
 ·subst e;simp
 ·have h:¬(Sum.inl a:Key)=Sum.inl b:=fun q=>e (Sum.inl.inj q);rw[QS h];exact(Th.mpr e).symm
theorem KS(a b:Str):decide ((Sum.inr a:Key)=Sum.inr b)=decide (a=b):=by
 by_cases e:a=b
 ·subst e;simp
 ·have h:¬(Sum.inr a:Key)=Sum.inr b:=fun q=>e (Sum.inr.inj q);rw[QS h,QS e]
theorem KW(a:Int)(b:Str):decide ((Sum.inl a:Key)=Sum.inr b)=false:=QS (fun q=>nomatch q)
theorem KU(a:Str)(b:Int):decide ((Sum.inr a:Key)=Sum.inl b)=false:=QS (fun q=>nomatch q)
noncomputable def aQ(prog:Program)(w:World):PySem.KeyKind prog w Key where
 is:=uZ
 hash:=KZ w
 inj:=fun v a b ha hb=>by
  rcases cH ha with⟨i,t,rfl,rfl⟩ |⟨x,t,rfl,rfl⟩
  ·rcases cH hb with⟨j,u,rfl,e⟩ |⟨y,u,rfl,e⟩
   ·injection e with e1 _;rw[e1]
   ·exact nomatch e
  ·rcases cH hb with⟨j,u,rfl,e⟩ |⟨y,u,rfl,e⟩
   ·exact nomatch e
   ·injection e with e1 _;rw[e1]
 byValue:=fun k v h=>by
  rcases cH h with⟨i,t,rfl,rfl⟩ |⟨x,t,rfl,rfl⟩ <;> rfl
 pyHash:=fun hv h=>by
  rcases cH hv with⟨i,t,rfl,rfl⟩ |⟨x,t,rfl,rfl⟩
  ·exact wpAny_pyHash_int h
  ·exact wpAny_pyHash_str h
 eqBool:=fun hu hv h=>by
  rcases cH hu with⟨i,t,rfl,rfl⟩ |⟨x,t,rfl,rfl⟩
  ·rcases cH hv with⟨j,u,rfl,rfl⟩ |⟨y,u,rfl,rfl⟩
   ·rw[KY] at h;exact wpAny_eqBool_int h
   ·rw[KW] at h;exact SeqAt.EqAt.int_str i t y u _ _ _ _ h
  ·rcases cH hv with⟨j,u,rfl,rfl⟩ |⟨y,u,rfl,rfl⟩
   ·rw[KU] at h;exact SeqAt.EqAt.str_int x t j u _ _ _ _ h
   ·rw[KS] at h;exact wpAny_eqBool_str h
 «strs»:=fun k x t v h=>by
  rcases cH h with⟨i,u,rfl,e⟩ |⟨y,u,rfl,e⟩
  ·exact nomatch e
  ·injection e with e1 _
   subst e1;cases v <;> rfl
theorem pR(prog:Program)(w:World)(i:Int)(t:Tok):(aQ prog w).is (.inl i) (.int i t)=true:=Cw i t
theorem pQ(prog:Program)(w:World)(x:Str)(t:Tok):(aQ prog w).is (.inr x) (.str x t)=true:=Cv x t
inductive V where
 | cC | bl (b:Bool) | int (i:Int) | str (x:Str) | byt (b:Array UInt8) | LS (b:UInt64) | ref (a:Addr) | ty (n:String)
 deriving DecidableEq
def RelV:V->Value->Prop
 | .cC,u=>u=Value.none
 | .bl b,u=>u=Value.bool b
 | .int i,u=>∃t,u=Value.int i t
 | .str x,u=>∃t,u=Value.str x t
 | .byt b,u=>∃t,u=Value.bytes b t
 | .LS b,u=>∃t,u=Value.float b t
 | .ref a,u=>u=Value.ref a
 | .ty n,u=>u=Value.type n
abbrev Vals:List V->List Value->Prop:=Paired RelV
theorem Vals.length(r:Vals xs us):xs.length=us.length:=Paired.length r
theorem Vals.get:∀{xs:List V} {us:List Value} {i:Nat} {x:V},Vals xs us->xs[i]?=some x->∃u,us[i]?=some u∧RelV x u
 | _,_,_,_,.nil,e=>by simp at e
 | _,_,0,_,.cons r _,e=>by simp at e;subst e;exact⟨_,rfl,r⟩
 | _,_,i+1,x,.cons _ t,e=>by
  obtain⟨u,h1,h2⟩:=Vals.get (i:=i) (x:=x) t (by simpa using e);exact⟨u,by simpa using h1,h2⟩
theorem Vals.set(r:RelV x u):∀{xs:List V} {us:List Value} (i:Nat),Vals xs us->Vals (xs.set i x) (us.set i u)
 | _,_,_,.nil=>.nil
 | _,_,0,.cons _ t=>.cons r t
 | _,_,i+1,.cons q t=>.cons q (Vals.set r i t)
theorem Vals.append:∀{xs ys:List V} {us ws:List Value},Vals xs us->Vals ys ws->Vals (xs++ys) (us++ws)
 | _,_,_,_,.nil,s=>s
 | _,_,_,_,.cons r t,s=>.cons r (Vals.append t s)
theorem Vals.take:∀{xs:List V} {us:List Value} (n:Nat),Vals xs us->Vals (xs.take n) (us.take n)
 | _,_,0,_=>.nil
 | _,_,_+1,.nil=>.nil
 | _,_,n+1,.cons r t=>.cons r (Vals.take n t)
theorem Vals.drop:∀{xs:List V} {us:List Value} (n:Nat),Vals xs us->Vals (xs.drop n) (us.drop n)
 | _,_,0,r=>r
 | _,_,_+1,.nil=>.nil
 | _,_,n+1,.cons _ t=>Vals.drop n t
def tD:Option V->Option Value->Prop
 | some v,some u=>RelV v u
 | none,none=>True
 | _,_=>False
def KV{κ:Type}:List (κ×V)->List (κ×Value)->Prop:=Paired fun(p:κ×V)(q:κ×Value)=>p.1=q.1∧RelV p.2 q.2
noncomputable def kV:Key->V
 | .inl i=>.int i
 | .inr x=>.str x
inductive HO where
 | lst (xs:List V)
 | tup (xs:List V)
 | dK (kvs:List (Key×V)) | dT (kvs:List (List Key×V))
 | set (S:Int->Bool) (n:Nat)
 | ins (C dx:Addr) (fs:List (Str×V))
 | own (x:Addr)
 | xd (fs:List (Str×V))
 | met (f x:Addr)
 | Oh (lo hi:Int)
 | Bk (o:Obj) (u:HO)
 | Je (ps:Array Value)
 | ext (φ:Heap->Prop)
abbrev Hp:=Addr->Option HO
noncomputable def upd(H:Hp)(a:Addr)(o:HO):Hp:=fun b=>if b=a then some o else H b
theorem bh:upd H a o a=some o:=by unfold upd;rw[P7 rfl]
theorem aT(h:b≠a):upd H a o b=H b:=by unfold upd;rw[Qa h]
theorem MZ{H:Hp}{a b:Addr}{o u:HO}(h:H a=some o)(h':H b=some u)(d:o≠u):a≠b:=by
 intro e;subst e;rw[h] at h';exact d (Option.some.inj h')
theorem bt{H:Hp}{a b:Addr}{o:HO}(h:H a=some o)(h':H b=none):a≠b:=by
 intro e;subst e;rw[h] at h';cases h'
def xA(h:Heap)(a:Addr)(items:Array Value):Prop:=∃o,h.get? a=some o∧o.cls=.type "tuple"∧(∃n,o.data=.seq items n)∧o.dict=none
theorem xA.tup(x:xA h a items):IsTup h a items:=let⟨o,e,c,d,_⟩:=x;⟨o,e,c,d⟩
theorem xA.new(h:Heap)(items:Array Value):xA (h.push {cls:=.type "tuple",data:=.seq items}) h.objs.size items:=⟨_,Qg _ rfl,rfl,⟨_,rfl⟩,rfl⟩
section
variable (P:Program) (w:World)
def cL(H:Hp)(h:Heap)(a:Addr):HO->Prop
 | .lst xs=>xs.length≤sizeLine∧∃(its:List Value)(n:Nat),Vals xs its∧h.get? a=some {cls:=.type "list",data:=.seq its.toArray n}
 | .tup xs=>xs.length≤sizeLine∧∃its:List Value,Vals xs its∧xA h a its.toArray
 | .dK kvs=>kvs.length≤sizeLine∧(a==sysModules)=false∧∃vs,KV kvs vs∧h.DictOf (aQ P w) a vs
 | .dT kvs=>kvs.length≤sizeLine∧(a==sysModules)=false∧∃xs:List (List Key×Addr×Value),
   Paired (fun(p:List Key×V)(q:List Key×Addr×Value)=>p.1=q.1∧H q.2.1=some (.tup (p.1.map kV))∧RelV p.2 q.2.2) kvs xs∧
   ∃o es ep,h.get? a=some o∧o.ExactDict∧o.data=.dict es ep∧es.toList=xs.map (entryOfKey (tupleKind (aQ P w)))∧(xs.map (·.1)).Nodup
 | .set S n=>h.SetOf (intKind P w) a S n
 | .ins C dx fs=>H dx=some (.own a)∧fs.length≤1000∧dx≠a∧h.get? a=some (PySem.W.instObj C dx)∧
   ∃mA,h.Ns1 dx mA∧(∀f,tD (fs.lookup f) (mA f))∧PySem.Within mA (fs.map (·.1))
 | .own _=>∃o,h.get? a=some o
 | .xd fs=>∃mA,h.Ns1 a mA∧∀f,tD (fs.lookup f) (mA f)
 | .Oh lo hi=>∃t u v,h.get? a=some {cls:=.type "range",data:=.fields #[.int lo t,.int hi u,.int 1 v]}
 | .Bk o u=>h.get? a=some o∧cL H h a u
 | .Je ps=>h.get? a=some {cls:=.none,data:=.fields ps}
 | .met f x=>h.get? a=some (PySem.W.methodObj (.ref f) (.ref x))
 | .ext φ=>φ h∧(∃o,h.get? a=some o)∧∀h1 h2:Heap,φ h1->(∀o,h1.get? a=some o->h2.get? a=some o)->φ h2
def kS(H:Hp)(h:Heap):Prop:=∀a o,H a=some o->cL P w H h a o
end
theorem cL.lt(x:cL P w H h a o):a < h.objs.size:=by
 cases o with
 | lst xs=>obtain⟨_,_,_,_,e⟩:=x;exact Qf e
 | tup xs=>obtain⟨_,_,_,p⟩:=x;exact p.tup.lt
 | dK kvs=>obtain⟨_,_,_,_,o,_,_,e,_⟩:=x;exact Qf e
 | dT kvs=>obtain⟨_,_,_,_,o,_,_,e,_⟩:=x;exact Qf e
 | set S n=>obtain⟨o,_,_,_,e,_⟩:=x;exact Qf e
 | ins C dx fs=>obtain⟨_,_,_,e,_⟩:=x;exact Qf e
 | own y=>obtain⟨_,e⟩:=x;exact Qf e
 | xd fs=>obtain⟨_,⟨_,_,_,e,_⟩,_⟩:=x;exact Qf e
 | Oh lo hi=>obtain⟨_,_,_,e⟩:=x;exact Qf e
 | Bk ob u=>obtain⟨e,_⟩:=x;exact Qf e
 | Je ps=>exact Qf (show h.get? a=some _ from x)
 | met f y=>exact Qf (show h.get? a=some _ from x)
 | ext φ=>obtain⟨_,⟨_,e⟩,_⟩:=x;exact Qf e
theorem Paired.KI:∀{l₁:List α} {l₂:List β},Paired F l₁ l₂->(∀a b,F a b->G a b)->Paired G l₁ l₂
 | _,_,.nil,_=>.nil
 | _,_,.cons r t,f=>.cons (f _ _ r) (Paired.KI t f)
theorem cL.xK(x:cL P w H h a o)(k:∀b u,(b=a∨H b=some (.own a))->h.get? b=some u->h'.get? b=some u)
  (ho:∀b,H b=some (.own a)->H' b=some (.own a)) (ht:∀b xs,H b=some (.tup xs)->H' b=some (.tup xs)):cL P w H' h' a o:=by
 induction o with
 | lst xs=>obtain⟨z,its,n,r,e⟩:=x;exact⟨z,its,n,r,k _ _ (.inl rfl) e⟩
 | tup xs=>obtain⟨z,its,r,ob,e,c⟩:=x;exact⟨z,its,r,ob,k _ _ (.inl rfl) e,c⟩
 | dK kvs=>obtain⟨z,y,vs,r,ob,es,ep,e,c⟩:=x;exact⟨z,y,vs,r,ob,es,ep,k _ _ (.inl rfl) e,c⟩
 | dT kvs=>
  obtain⟨z,y,xs,r,ob,es,ep,e,c⟩:=x;exact⟨z,y,xs,Paired.KI r fun p q z=>⟨z.1,ht _ _ z.2.1,z.2.2⟩,ob,es,ep,k _ _ (.inl rfl) e,c⟩
 | set S n=>obtain⟨ob,es,ep,t,e,c⟩:=x;exact⟨ob,es,ep,t,k _ _ (.inl rfl) e,c⟩
 | ins C dx fs=>
  obtain⟨d,z,ne,e,mA,⟨od,es,ep,e2,c⟩,r⟩:=x;exact⟨ho _ d,z,ne,k _ _ (.inl rfl) e,mA,⟨od,es,ep,k _ _ (.inr d) e2,c⟩,r⟩
 | own y=>obtain⟨ob,e⟩:=x;exact⟨ob,k _ _ (.inl rfl) e⟩
 | xd fs=>obtain⟨mA,⟨od,es,ep,e,c⟩,r⟩:=x;exact⟨mA,⟨od,es,ep,k _ _ (.inl rfl) e,c⟩,r⟩
 | Oh lo hi=>obtain⟨t,u,v,e⟩:=x;exact⟨t,u,v,k _ _ (.inl rfl) e⟩
 | Bk ob u ih=>obtain⟨e,q⟩:=x;exact⟨k _ _ (.inl rfl) e,ih q⟩
 | Je ps=>
  have e:h.get? a=some {cls:=.none,data:=.fields ps}:=x;show h'.get? a=some {cls:=.none,data:=.fields ps};exact k a _ (.inl rfl) e
 | met f y=>
  have e:h.get? a=some (PySem.W.methodObj (.ref f) (.ref y)):=x;show h'.get? a=some (PySem.W.methodObj (.ref f) (.ref y));exact k a _ (.inl rfl) e
 | ext φ=>obtain⟨p,⟨o,e⟩,st⟩:=x;exact⟨st _ _ p fun o q=>k _ _ (.inl rfl) q,⟨o,k _ _ (.inl rfl) e⟩,st⟩
theorem kS.lt(x:kS P w H h)(e:H a=some o):a < h.objs.size:=(x a o e).lt
theorem kS.fresh(x:kS P w H h)(e:h.objs.size≤a):H a=none:=by
 cases q:H a with
 | none=>rfl
 | some u=>exact absurd (QF (x.lt q) e) (SJ _)
theorem kS.kept(x:kS P w H h)(k:∀b u,h.get? b=some u->h'.get? b=some u):kS P w H h':=fun a o e=>
 (x a o e).xK (fun b u _ q=>k b u q) (fun _ q=>q) fun _ _ q=>q
theorem kS.laid(x:kS P w H h)(k:∀b u,h.get? b=some u->h'.get? b=some u)(hp:h.objs.size≤a)(new:cL P w (upd H a o) h' a o):kS P w (upd H a o) h':=fun b u e=>by
 have hn:=x.fresh hp
 by_cases hb:b=a
 ·subst hb;rw[bh] at e;cases e;exact new
 ·rw[aT hb] at e;exact(x b u e).xK (fun c v _ q=>k c v q) (fun c q=>by rw[aT (bt q hn)];exact q) fun c xs q=>by rw[aT (bt q hn)];exact q
def Rd(H:Hp)(a:Addr)(u:HO):Prop:=H a=some u∨∃o,H a=some (.Bk o u)
theorem Rd.ok(r:Rd H a u)(x:kS P w H h):cL P w H h a u:=by
 rcases r with r |⟨o,r⟩
 ·exact x a u r
 ·obtain⟨_,q⟩:=x a _ r;exact q
def NG:Option HO->Prop
 | some (.lst _)=>True
 | some (.dK _)=>True
 | some (.dT _)=>True
 | some (.set _ _)=>True
 | some (.ins _ _ _)=>True
 | some (.ext _)=>True
 | _=>False
theorem kS.write(ok:kS P w H h)(mu:NG (H x))(he:e=x∨H e=some (.own x))(k:∀b u,b≠e->h.get? b=some u->h'.get? b=some u)(heo:∃u,h'.get? e=some u)
  (new:cL P w (upd H x o') h' x o'):kS P w (upd H x o') h':=fun b u q=>by
 have nown:∀c y,H c=some (.own y)->c≠x:=fun c y r z=>by subst z;rw[r] at mu;exact mu
 have ntup:∀c xs,H c=some (.tup xs)->c≠x:=fun c xs r z=>by subst z;rw[r] at mu;exact mu
 by_cases hb:b=x
 ·subst hb;rw[bh] at q;cases q;exact new
 ·rw[aT hb] at q
  by_cases hbe:b=e
  ·have q':H b=some (.own x):=by
    rcases he with z | z
    ·exact absurd (hbe.trans z) hb
    ·rw[hbe];exact z
   rw[q] at q';cases q';obtain⟨v,hv⟩:=heo;exact⟨v,by rw[hbe];exact hv⟩
  ·refine(ok b u q).xK (fun c v hc r=>k c v ?_ r) (fun c r=>by rw[aT (nown c b r)];exact r) fun c xs r=>by rw[aT (ntup c xs r)];exact r
   rcases hc with rfl | hc
   ·exact hbe
   ·rintro rfl;rcases he with z | z
    ·exact nown c b hc z
    ·rw[hc] at z;cases z;exact hb rfl
structure Un(fs ex:List Addr)(H H':Hp)(h h':Heap):Prop where
 keep:∀b o,h.get? b=some o->H b=none->b∉fs->b∉ex->h'.get? b=some o
 slot:∀b o,h.get? b=some o->H b=none->b∈fs->b∉ex->∃sl,h'.get? b=some {o with slots:=sl}
 free:∀b o,h.get? b=some o->H b=none->b∉ex->H' b=none
 there:∀b o,h.get? b=some o->b∉ex->∃o',h'.get? b=some o'
 vJ:∀b xs,H b=some (.tup xs)->H' b=some (.tup xs)
 ub:∀b o u,H b=some (.Bk o u)->H' b=some (.Bk o u)
 vL:∀b ps,H b=some (.Je ps)->∃more,H' b=some (.Je (ps++more))
theorem Un.any(u:Un fs ex H H1 h h1)(q:h.get? b=some ob)(n:H b=none)(hx:b∉ex):∃sl,h1.get? b=some {ob with slots:=sl}:=by
 by_cases hb:b∈fs
 ·exact u.slot b ob q n hb hx
 ·exact⟨ob.slots,u.keep b ob q n hb hx⟩
theorem Un.kept(k:∀b u,h.get? b=some u->h'.get? b=some u):Un fs ex H H h h':=
 ⟨fun b ob q _ _ _=>k b ob q,fun b ob q _ _ _=>⟨ob.slots,k b ob q⟩,fun _ _ _ n _=>n,fun b ob q _=>⟨ob,k b ob q⟩,fun _ _ q=>q,fun _ _ _ q=>q,fun _ ps q=>⟨#[],by rw[q];simp⟩⟩
theorem Un.refl:Un fs ex H H h h:=Un.kept fun _ _ q=>q
theorem Un.laid(k:∀b u,h.get? b=some u->h'.get? b=some u)(hp:h.objs.size≤a)(hn:H a=none):Un fs ex H (upd H a o) h h' where
 keep:=fun b u q _ _ _=>k b u q
 slot:=fun b u q _ _ _=>⟨u.slots,k b u q⟩
 free:=fun b u q n _=>by rw[aT (Qo (QF (Qf q) hp))];exact n
 there:=fun b u q _=>⟨u,k b u q⟩
 vJ:=fun b xs q=>by rw[aT (bt q hn)];exact q
 ub:=fun b u xs q=>by rw[aT (bt q hn)];exact q
 vL:=fun b ps q=>⟨#[],by rw[aT (bt q hn),q];simp⟩
theorem Un.write(mu:NG (H x))(he:e=x∨H e=some (.own x))(k:∀b u,b≠e->h.get? b=some u->h'.get? b=some u)(heo:∃u,h'.get? e=some u):Un fs ex H (upd H x o) h h':=by
 have hx:∀b,H b=none->b≠x:=fun b n z=>by subst z;rw[n] at mu;exact mu
 have hb:∀b,H b=none->b≠e:=fun b n z=>by
  subst z;rcases he with r | r
  ·exact hx b n r
  ·rw[n] at r;cases r
 have hm:∀b u,H b=some u->¬NG (some u)->b≠x:=fun b u q nm z=>by subst z;rw[q] at mu;exact nm mu
 refine⟨fun b u q n _ _=>k b u (hb b n) q,fun b u q n _ _=>⟨u.slots,k b u (hb b n) q⟩,fun b u q n _=>by rw[aT (hx b n)];exact n,fun b u q _=>?_,
  fun b xs q=>by rw[aT (hm b _ q fun z=>z)];exact q,fun b u xs q=>by rw[aT (hm b _ q fun z=>z)];exact q,fun b ps q=>⟨#[],by rw[aT (hm b _ q fun z=>z),q];simp⟩⟩
 by_cases hbe:b=e
 ·subst hbe;exact heo
 ·exact⟨u,k b u hbe q⟩
noncomputable def NK(h:Heap)(H:Hp):List Addr:=(List.range h.objs.size).filter fun a=>(H a).isSome
noncomputable def wU(h:Heap)(H:Hp):Heap:=PySem.W.hideAll h (NK h H)
theorem CB(h:Heap)(H:Hp):(wU h H).objs.size=h.objs.size:=PySem.W.hideAll_size _ _
theorem EV(e:h.get? b=some o)(n:H b=none):(wU h H).get? b=some o:=
 PySem.W.hideAll_get _ e fun hm=>by
  have q:(H b).isSome=true:=(Ur.mp hm).2;rw[n] at q;simp at q
theorem Hj(e:(wU h H).get? b=some o):h.get? b=some o∧H b=none:=by
 have e':h.get? b=some o:=PySem.W.of_hideAll (NK h H) e;refine⟨e',?_⟩;cases q:H b with
 | none=>rfl
 | some x=>
  have hm:b∈NK h H:=Ur.mpr ⟨Q3.mpr (Qf e'),by simp[q]⟩;have z:(wU h H).get? b=none:=PySem.W.hideAll_none (NK h H) hm;rw[z] at e;cases e
structure Mod(K:FR)(mg:Str->Option Value)(base:Heap):Prop where
 OP:K.In base
 glob:base.Ns mainGlobals mg
 blt:∃mb,base.Ns builtinsNs mb∧∀x:Str,x≠"__name__"->mb x=bootBuiltins x
 nolimit:base.NoLimit
structure Cx where
 prog:Program
 w:World
 K:FR
 mg:Str->Option Value
 base:Heap
 A:Around
 N:List Str
 s₀:Shared
 H₀:Hp
 env:Env
 outer:List Env
 stack:List Env
 ex:List Addr
 fn:Str->Bool
 calm:Bool
 pn:List (Addr×Obj)
 xe:Value->Shared->Prop
noncomputable def Dn(l:List Env):List Addr:=l.filterMap (·.frame)
abbrev Cx.fs(X:Cx):List Addr:=Dn X.outer
def LU(sc:Scope)(x:Str):Prop:=sc.names.lookup x=some .local∨sc.names.lookup x=some .cell∨sc.names.lookup x=some .free
def Loc(sc:Scope)(x:Str):Prop:=sc.names.lookup x=some .local∨sc.names.lookup x=some .cell
def Look(env:Env)(h:Heap)(m:Str->Option Value)(x:Str)(u:Value):Prop:=
 (env.kindOf x=some .local∧m x=some u)∨((env.kindOf x=some .cell∨env.kindOf x=some .free)∧∃c,env.cells.lookup x=some c∧h.IsCell c (some u))
structure Cx.Ok(X:Cx):Prop where
 mod:Mod X.K X.mg X.base
 kind:X.env.scope.kind=.function
 glob:X.env.globals=mainGlobals
 blt:X.env.builtins=builtinsNs
 above:X.s₀.heap.objs.size≤X.env.locals
 inj:∀x y c,X.env.cells.lookup x=some c->X.env.cells.lookup y=some c->x=y
 has:∀x,(X.env.kindOf x=some .cell∨X.env.kindOf x=some .free)->∃c,X.env.cells.lookup x=some c
 Ng:∀x c,X.fn x=true->X.env.cells.lookup x=some c->X.s₀.heap.objs.size≤c
 hd:X.calm=true->X.A.handled=none
 frames:X.A.frames=some X.stack
 NL:X.stack=X.outer∨(X.stack=X.env::X.outer∧X.env.frame=some X.env.locals)
 Pd:∀b∈X.ex,b≠X.env.locals∧∀x c,X.env.cells.lookup x=some c->c≠b
 bs:∀b o,X.base.get? b=some o->X.s₀.heap.get? b=some o∧X.H₀ b=none
 IP:X.base.objs.size≤X.s₀.heap.objs.size
 EA:∀b o,X.base.get? b=some o->b∉X.ex
 HM:∀b∈X.ex,b∉X.fs
 sx:X.s₀.heap.FunFrames X.base X.outer
 LR:∀b∈X.fs,X.H₀ b=none
structure Inv(X:Cx)(pins:List (Addr×Obj))(σ:List (Option V))(H:Hp)(s:Shared):Prop where
 ok:X.Ok
 os:s.os=X.s₀.os
 bare:AllBare s.gens
 base:Un X.fs X.ex X.H₀ H X.s₀.heap s.heap
 loc:∃m,s.heap.Ns X.env.locals m∧∀(i:Nat)(x:Str)(v:V),X.N[i]?=some x->σ[i]?=some (some v)->LU X.env.scope x->∃u,RelV v u∧Look X.env s.heap m x u
 cell:∀x c,X.env.cells.lookup x=some c->∃v,s.heap.IsCell c v
 free:H X.env.locals=none
 j6:∀x c,X.env.cells.lookup x=some c->H c=none
 pin:∀p∈X.pn++pins,s.heap.get? p.1=some p.2∧H p.1=none∧p.1≠X.env.locals∧p.1∉X.fs∧∀v,p.2.data≠.cell v
 bC:kS X.prog X.w H s.heap
 len:σ.length=X.N.length
section
variable {X:Cx} {pins:List (Addr×Obj)} {σ:List (Option V)} {H H':Hp} {s:Shared} {h':Heap}
theorem Cx.Ok.OK(ok:X.Ok)(e:X.base.get? b=some o):b∉X.fs:=fun hb=>by
 have:=(ok.sx.mem hb).1;rw[e] at this;cases this
theorem Inv.bs(I:Inv X pins σ H s):∀b o,X.base.get? b=some o->s.heap.get? b=some o∧H b=none:=fun b o e=>
 ⟨I.base.keep b o (I.ok.bs b o e).1 (I.ok.bs b o e).2 (I.ok.OK e) (I.ok.EA b o e),I.base.free b o (I.ok.bs b o e).1 (I.ok.bs b o e).2 (I.ok.EA b o e)⟩
theorem Inv.bk(I:Inv X pins σ H s):∀b o,X.base.get? b=some o->s.heap.get? b=some o:=fun b o e=>(I.bs b o e).1
theorem Inv.mod(I:Inv X pins σ H s):Mod X.K X.mg X.base:=I.ok.mod
theorem Inv.va(I:Inv X pins σ H s):X.K.In s.heap:=I.ok.mod.OP.keeps I.bk
theorem Inv.lt(I:Inv X pins σ H s):X.env.locals < s.heap.objs.size:=let⟨_,hn,_⟩:=I.loc;hn.lt
theorem Inv.sz(I:Inv X pins σ H s):X.s₀.heap.objs.size≤s.heap.objs.size:=Qm I.ok.above (UP I.lt)
theorem Inv.OJ(I:Inv X pins σ H s)(h:s.heap.objs.size≤a):a∉X.fs:=fun hb=>by
 obtain⟨_,o,ho,_⟩:=I.ok.sx.mem hb;exact absurd (QF (Qf ho) (Qm I.sz h)) (SJ _)
theorem Inv.Lp(I:Inv X pins σ H s):∀x c,X.env.cells.lookup x=some c->c≠X.env.locals:=fun x c e z=>by
 obtain⟨v,o,ho,hd⟩:=I.cell x c e;obtain⟨m,⟨o',es,ep,ho',hd',_⟩,_⟩:=I.loc;rw[z,ho'] at ho;cases ho;rw[hd'] at hd;cases hd
theorem Inv.sx(I:Inv X pins σ H s):s.heap.FunFrames X.base X.outer:=by
 have all:∀(l:List Env),(∀b∈Dn l,b∈X.fs)->X.s₀.heap.FunFrames X.base l->s.heap.FunFrames X.base l:=by
  intro l
  induction l with
  | nil=>intro _ _;trivial
  | cons env r ih=>
   intro hs hl;obtain⟨hk,⟨L,o,hf,hn,ho,hd⟩,hr⟩:=hl;have hL:L∈X.fs:=hs L (by unfold Dn;rw[QG,hf];exact Qe);obtain⟨sl,e⟩:=I.base.slot L o ho (I.ok.LR L hL) hL fun z=>I.ok.HM L z hL;exact⟨hk,⟨L,_,hf,hn,e,hd⟩,ih (fun b hb=>hs b (by unfold Dn;rw[QG,hf];exact Qc _ hb)) hr⟩
 exact all X.outer (fun _ hb=>hb) I.ok.sx
theorem Inv.stack(I:Inv X pins σ H s):s.heap.FunFrames X.base X.stack:=by
 rcases I.ok.NL with e |⟨e,hf⟩
 ·rw[e];exact I.sx
 ·rw[e];obtain⟨m,hn,_⟩:=I.loc;refine .cons (by rw[I.ok.kind];decide) hf hn ?_ I.sx;exact Heap.get?_none_of_le (Qm I.ok.IP I.ok.above)
theorem Inv.oo(I:Inv X pins σ H s):∀b∈Dn X.stack,b∈X.env.locals::X.fs:=fun b hb=>by
 rcases I.ok.NL with e |⟨e,hf⟩
 ·rw[e] at hb;exact Qc _ hb
 ·rw[e] at hb;unfold Dn at hb;rw[QG,hf] at hb;exact hb
theorem Inv.AN(I:Inv X pins σ H s):∀b∈Dn X.stack,H b=none:=fun b hb=>by
 rcases Qn.mp (I.oo b hb) with e | hb
 ·rw[e];exact I.free
 ·obtain⟨_,o,ho,_⟩:=I.ok.sx.mem hb;exact I.base.free b o ho (I.ok.LR b hb) fun z=>I.ok.HM b z hb
theorem Inv.step{g':Array GenState}{t':Nat}{d':Drawn}{ch:List Addr}(I:Inv X pins σ H s)
  (hch:∀b∈ch,(b∈X.ex∨X.s₀.heap.objs.size≤b)∧b≠X.env.locals∧(∀x c,X.env.cells.lookup x=some c->c≠b)∧∀p∈X.pn++pins,p.1≠b)
  (keep:∀b o,b≠X.env.locals->b∉X.fs->b∉ch->s.heap.get? b=some o->H b=none->h'.get? b=some o)
  (slot:∀b o,b≠X.env.locals->b∈X.fs->b∉ch->s.heap.get? b=some o->H b=none->∃sl,h'.get? b=some {o with slots:=sl}) (free:∀b o,b∉ch->s.heap.get? b=some o->H b=none->H' b=none)
  (there:∀b o,b∉ch->s.heap.get? b=some o->∃o',h'.get? b=some o')
  (vJ:∀b xs,H b=some (.tup xs)->H' b=some (.tup xs)) (ub:∀b o u,H b=some (.Bk o u)->H' b=some (.Bk o u)) (vL:∀b ps,H b=some (.Je ps)->∃more,H' b=some (.Je (ps++more)))
  (ns:∀m,s.heap.Ns X.env.locals m->h'.Ns X.env.locals m) (bC:kS X.prog X.w H' h') (hg:AllBare g'):
  Inv X pins σ H' {s with heap:=h',gens:=g',drawn:=d',toks:=t'}:=by
 have neL:∀b o,X.s₀.heap.get? b=some o->b≠X.env.locals:=fun b o e=>Qo (QF (Qf e) I.ok.above);have neC:∀b o,X.s₀.heap.get? b=some o->b∉X.ex->b∉ch:=fun b o e hx hb=>by
  rcases(hch b hb).1 with z | z
  ·exact hx z
  ·exact absurd (QF (Qf e) z) (SJ _)
 have cellK:∀x c,X.env.cells.lookup x=some c->∀v,s.heap.IsCell c v->h'.IsCell c v:=fun x c e v ⟨o,ho,hd⟩=>by
  have nch:c∉ch:=fun z=>(hch c z).2.2.1 x c e rfl
  by_cases hc:c∈X.fs
  ·obtain⟨sl,q⟩:=slot c o (I.Lp x c e) hc nch ho (I.j6 x c e);exact⟨_,q,hd⟩
  ·exact⟨o,keep c o (I.Lp x c e) hc nch ho (I.j6 x c e),hd⟩
 refine⟨I.ok,I.os,hg,⟨fun b o e n hb hx=>?_,fun b o e n hb hx=>?_,fun b o e n hx=>?_,fun b o e hx=>?_,fun b xs e=>vJ b xs (I.base.vJ b xs e),fun b o xs e=>ub b o xs (I.base.ub b o xs e),fun b ps e=>?_⟩,?_,fun x c e=>?_,?_,fun x c e=>?_,fun p hp=>?_,bC,I.len⟩
 ·exact keep b o (neL b o e) hb (neC b o e hx) (I.base.keep b o e n hb hx) (I.base.free b o e n hx)
 ·obtain⟨sl,e1⟩:=I.base.slot b o e n hb hx;obtain⟨sl',e2⟩:=slot b _ (neL b o e) hb (neC b o e hx) e1 (I.base.free b o e n hx);exact⟨sl',e2⟩
 ·obtain⟨o',e1⟩:=I.base.there b o e hx;exact free b o' (neC b o e hx) e1 (I.base.free b o e n hx)
 ·obtain⟨o',e1⟩:=I.base.there b o e hx;exact there b o' (neC b o e hx) e1
 ·obtain⟨m1,e1⟩:=I.base.vL b ps e;obtain⟨m2,e2⟩:=vL b _ e1;exact⟨m1++m2,by rw[e2,Array.append_assoc]⟩
 ·obtain⟨m,hn,hl⟩:=I.loc;refine⟨m,ns m hn,fun i x v e1 e2 e3=>?_⟩;obtain⟨u,r,l⟩:=hl i x v e1 e2 e3;refine⟨u,r,?_⟩;rcases l with l |⟨k,c,e,z⟩
  ·exact .inl l
  ·exact .inr ⟨k,c,e,cellK x c e _ z⟩
 ·obtain⟨v,z⟩:=I.cell x c e;exact⟨v,cellK x c e v z⟩
 ·obtain⟨m,⟨o,_,_,ho,_⟩,_⟩:=I.loc;exact free _ o (fun z=>(hch _ z).2.1 rfl) ho I.free
 ·obtain⟨v,o,ho,hd⟩:=I.cell x c e;exact free c o (fun z=>(hch c z).2.2.1 x c e rfl) ho (I.j6 x c e)
 ·obtain⟨e,n,ne,nf,d⟩:=I.pin p hp;have nch:p.1∉ch:=fun z=>(hch p.1 z).2.2.2 p hp rfl;exact⟨keep p.1 p.2 ne nf nch e n,free p.1 p.2 nch e n,ne,nf,d⟩
theorem Inv.un{t':Nat}(I:Inv X pins σ H s)(u:Un X.fs [] H H' s.heap h')(bC:kS X.prog X.w H' h'):Inv X pins σ H' {s with heap:=h',toks:=t'}:=by
 obtain⟨m,⟨o,es,ep,ho,r⟩,_⟩:=id I.loc;obtain⟨sl,hL⟩:=u.any ho I.free (by simp);exact I.step (g':=s.gens) (d':=s.drawn) (ch:=[]) (fun _ z=>nomatch z) (fun b o _ hb _ e n=>u.keep b o e n hb (by simp)) (fun b o _ hb _ e n=>u.slot b o e n hb (by simp)) (fun b o _ e n=>u.free b o e n (by simp)) (fun b o _ e=>u.there b o e (by simp)) u.vJ u.ub u.vL (fun m' hm=>by
  obtain⟨o',es',ep',ho',r'⟩:=hm;rw[ho] at ho';cases ho';exact⟨_,es',ep',hL,r'⟩) bC I.bare
theorem Inv.call{g':Array GenState}{t':Nat}{d':Drawn}{ch:List Addr}(I:Inv X pins σ H s)(u:Un (Dn X.stack) ch H H' s.heap h')(bC:kS X.prog X.w H' h')(hg:AllBare g')
  (hch:∀b∈ch,(b∈X.ex∨X.s₀.heap.objs.size≤b)∧b≠X.env.locals∧(∀x c,X.env.cells.lookup x=some c->c≠b)∧∀p∈X.pn++pins,p.1≠b):
  Inv X pins σ H' {s with heap:=h',gens:=g',drawn:=d',toks:=t'}:=by
 obtain⟨m,⟨o,es,ep,ho,r⟩,_⟩:=id I.loc;obtain⟨sl,hL⟩:=u.any ho I.free fun z=>(hch _ z).2.1 rfl;exact I.step (ch:=ch) hch (fun b o hL hb hc e n=>u.keep b o e n (fun z=>(Qn.mp (I.oo b z)).elim hL hb) hc) (fun b o _ _ hc e n=>u.any e n hc) (fun b o hc e n=>u.free b o e n hc) (fun b o hc e=>u.there b o e hc) u.vJ u.ub u.vL (fun m' hm=>by
  obtain⟨o',es',ep',ho',r'⟩:=hm;rw[ho] at ho';cases ho';exact⟨_,es',ep',hL,r'⟩) bC hg
theorem Inv.turned{t':Nat}{it:Addr}(I:Inv X pins σ H s)(k:∀b o,b≠it->s.heap.get? b=some o->h'.get? b=some o)(hn:H it=none)(hL:it≠X.env.locals)
  (h1:it∈X.ex∨X.s₀.heap.objs.size≤it) (h2:∀x c,X.env.cells.lookup x=some c->c≠it) (h3:∀p∈X.pn++pins,p.1≠it):Inv X pins σ H {s with heap:=h',toks:=t'}:=by
 have nit:∀b u,H b=some u->b≠it:=fun b u e z=>by rw[z,hn] at e;cases e
 refine I.step (g':=s.gens) (d':=s.drawn) (ch:=[it]) (fun b hb=>?_) (fun b o _ _ hc e _=>k b o (fun z=>hc (by simp[z])) e) (fun b o _ _ hc e _=>⟨o.slots,k b o (fun z=>hc (by simp[z])) e⟩) (fun _ _ _ _ n=>n)
  (fun b o hc e=>⟨o,k b o (fun z=>hc (by simp[z])) e⟩) (fun _ _ e=>e) (fun _ _ _ e=>e) (fun b ps e=>⟨#[],by rw[e];simp⟩) (fun m hm=>?_) (fun b u e=>?_) I.bare
 ·have e:b=it:=by simpa using hb
  subst e;exact⟨h1,hL,h2,h3⟩
 ·obtain⟨o,es,ep,ho,r⟩:=hm;exact⟨o,es,ep,k _ o (Ru hL) ho,r⟩
 ·refine(I.bC b u e).xK (fun c v hc q=>k c v ?_ q) (fun _ q=>q) fun _ _ q=>q;rcases hc with z | z
  ·rw[z];exact nit b u e
  ·exact nit c _ z
theorem Inv.tok(I:Inv X pins σ H s)(t:Nat):Inv X pins σ H {s with toks:=t}:=I.un (h':=s.heap) (t':=t) Un.refl I.bC
theorem Inv.kept(I:Inv X pins σ H s)(k:∀b u,s.heap.get? b=some u->h'.get? b=some u):Inv X pins σ H {s with heap:=h',toks:=t'}:=I.un (Un.kept k) (I.bC.kept k)
theorem Inv.laid(I:Inv X pins σ H s)(k:∀b u,s.heap.get? b=some u->h'.get? b=some u)(hp:s.heap.objs.size≤a)(new:cL X.prog X.w (upd H a o) h' a o):
  Inv X pins σ (upd H a o) {s with heap:=h',toks:=t'}:=I.un (Un.laid k hp (I.bC.fresh hp)) (I.bC.laid k hp new)
theorem Inv.write(I:Inv X pins σ H s)(mu:NG (H x))(he:e=x∨H e=some (.own x))(k:∀b u,b≠e->s.heap.get? b=some u->h'.get? b=some u)(heo:∃u,h'.get? e=some u)(new:cL X.prog X.w (upd H x o) h' x o):Inv X pins σ (upd H x o) {s with heap:=h',toks:=t'}:=I.un (Un.write mu he k heo) (I.bC.write mu he k heo new)
theorem Inv.AY(I:Inv X pins σ H s)(h:∀p∈pins',s.heap.get? p.1=some p.2∧H p.1=none∧p.1≠X.env.locals∧p.1∉X.fs∧∀v,p.2.data≠.cell v):Inv X pins' σ H s:=
 ⟨I.ok,I.os,I.bare,I.base,I.loc,I.cell,I.free,I.j6,fun p hp=>(Qx.mp hp).elim (fun z=>I.pin p (RL _ z)) (h p),I.bC,I.len⟩
theorem yn{N:List Str}(hN:N.Nodup){i j:Nat}{x:Str}(a:N[i]?=some x)(b:N[j]?=some x):i=j:=by
 obtain⟨h1,e1⟩:=P4.mp a;obtain⟨h2,e2⟩:=P4.mp b;exact(List.getElem_inj hN).mp (e1.trans e2.symm)
theorem om{M:Model}{A:Around}{E:Value->Shared->Prop}{i:Nat}{x:Str}{v:V}{u:Value}{Q:Unit->Shared->Prop}(I:Inv X pins σ H s)(hN:X.N.Nodup)(hi:X.N[i]?=some x)(hx:Loc X.env.scope x)(r:RelV v u)
  (h:∀s',Inv X pins (σ.set i (some v)) H s'->(∃a,Heap.SameBut a s.heap s'.heap∧(a=X.env.locals∨X.env.cells.lookup x=some a))->Q () s') (hf:X.fn x=true∨X.env.scope.names.lookup x=some .local:=by first | exact .inl rfl | exact .inr rfl | assumption):wpAny M A (storeName X.env x u) Q E s:=by
 obtain⟨m,hn,hl⟩:=id I.loc;have hcls:(X.env.scope.kind==.class||(X.env.scope.kind==.module&&X.env.locals !=X.env.globals))=false:=by rw[I.ok.kind];rfl
 have hiσ:i < σ.length:=by rw[I.len];exact(P4.mp hi).1
 have Lp:=I.Lp;have tracked:∀{a:Addr} {h':Heap},(∃o,s.heap.get? a=some o∧H a=none)->Heap.SameBut a s.heap h'->kS X.prog X.w H h':=fun {a h'} ha hs b ob e=>by
  obtain⟨_,_,hfree⟩:=ha;refine(I.bC b ob e).xK (fun c w' hc q=>(hs.2 c ?_).trans q) (fun _ q=>q) fun _ _ q=>q;rintro rfl;rcases hc with rfl | hc
  ·rw[hfree] at e;cases e
  ·rw[hfree] at hc;cases hc
 rcases hx with hk | hk
 ·refine wpAny_storeName_local hk hn (fun h' hn' hs=>?_) hcls;obtain⟨oL,_,_,hoL,_⟩:=id hn;refine h _ ⟨I.ok,I.os,I.bare,⟨fun b o e n hb hx=>?_,fun b o e n hb hx=>?_,I.base.free,fun b o e hx=>?_,I.base.vJ,I.base.ub,I.base.vL⟩,⟨_,hn',fun j y v' e1 e2 e3=>?_⟩,fun y c e=>?_,I.free,I.j6,fun p hp=>?_,tracked ⟨oL,hoL,I.free⟩ hs,by simpa using I.len⟩ ⟨_,hs,.inl rfl⟩
  ·exact(hs.2 b (Qo (QF (Qf e) I.ok.above))).trans (I.base.keep b o e n hb hx)
  ·obtain⟨sl,e1⟩:=I.base.slot b o e n hb hx;exact⟨sl,(hs.2 b (Qo (QF (Qf e) I.ok.above))).trans e1⟩
  ·obtain⟨o',e1⟩:=I.base.there b o e hx;exact⟨o',(hs.2 b (Qo (QF (Qf e) I.ok.above))).trans e1⟩
  ·by_cases hj:j=i
   ·subst hj;rw[hi] at e1;cases e1;rw[Rh hiσ] at e2;cases e2;exact⟨u,r,.inl ⟨hk,by simp⟩⟩
   ·rw[Q4 (Ru hj)] at e2;obtain⟨u',r',q⟩:=hl j y v' e1 e2 e3;refine⟨u',r',?_⟩;rcases q with⟨k,e⟩ |⟨k,c,e,z⟩
    ·refine .inl ⟨k,?_⟩;have:y≠x:=fun e=>hj (yn hN e1 (e ▸ hi));simp[this,e]
    ·exact .inr ⟨k,c,e,z.sameBut hs (Lp y c e)⟩
  ·obtain⟨w',z⟩:=I.cell y c e;exact⟨w',z.sameBut hs (Lp y c e)⟩
  ·obtain⟨e,n,ne,nf,d⟩:=I.pin p hp;exact⟨(hs.2 p.1 ne).trans e,n,ne,nf,d⟩
 ·have hfn:X.fn x=true:=by
   rcases hf with z | z
   ·exact z
   ·rw[z] at hk;cases hk
  obtain⟨c,hc⟩:=I.ok.has x (.inl hk);obtain⟨w',z⟩:=I.cell x c hc;refine wpAny_storeName_cell I.ok.kind hk hc z (fun h' hc' hs=>?_);obtain⟨oc,hoc,hocd⟩:=id z;refine h {s with heap:=h'} ⟨I.ok,I.os,I.bare,⟨fun b o e n hb hx=>?_,fun b o e n hb hx=>?_,I.base.free,fun b o e hx=>?_,I.base.vJ,I.base.ub,I.base.vL⟩,⟨m,hn.sameBut hs (Ru (Lp x c hc)),fun j y v' e1 e2 e3=>?_⟩,fun y c' e=>?_,I.free,I.j6,fun p hp=>?_,tracked ⟨oc,hoc,I.j6 x c hc⟩ hs,by simpa using I.len⟩ ⟨c,hs,.inr hc⟩
  ·exact(hs.2 b (Qo (QF (Qf e) (I.ok.Ng x c hfn hc)))).trans (I.base.keep b o e n hb hx)
  ·obtain⟨sl,e1⟩:=I.base.slot b o e n hb hx;exact⟨sl,(hs.2 b (Qo (QF (Qf e) (I.ok.Ng x c hfn hc)))).trans e1⟩
  ·obtain⟨o',e1⟩:=I.base.there b o e hx;exact⟨o',(hs.2 b (Qo (QF (Qf e) (I.ok.Ng x c hfn hc)))).trans e1⟩
  ·by_cases hj:j=i
   ·subst hj;rw[hi] at e1;cases e1;rw[Rh hiσ] at e2;cases e2;exact⟨u,r,.inr ⟨.inl hk,c,hc,hc'⟩⟩
   ·rw[Q4 (Ru hj)] at e2;obtain⟨u',r',q⟩:=hl j y v' e1 e2 e3;refine⟨u',r',?_⟩;rcases q with q |⟨k,c',e,z'⟩
    ·exact .inl q
    ·refine .inr ⟨k,c',e,z'.sameBut hs ?_⟩;rintro rfl;exact hj (yn hN e1 (I.ok.inj _ _ _ e hc ▸ hi))
  ·by_cases hcc:c'=c
   ·subst hcc;exact⟨_,hc'⟩
   ·obtain⟨w2,z2⟩:=I.cell y c' e;exact⟨w2,z2.sameBut hs hcc⟩
  ·obtain⟨e,n,ne,nf,d⟩:=I.pin p hp;refine⟨(hs.2 p.1 ?_).trans e,n,ne,nf,d⟩;intro q;rw[q,hoc] at e;have q':oc=p.2:=Option.some.inj e;exact d w' (by rw[←q'];exact hocd)
theorem jx(I:Inv X pins σ H s)(hN:X.N.Nodup)(hi:X.N[i]?=some x)(hx:Loc X.env.scope x)(r:RelV v u)(h:∀s',Inv X pins (σ.set i (some v)) H s'->Q () s')(hf:X.fn x=true∨X.env.scope.names.lookup x=some .local:=by first | exact .inl rfl | exact .inr rfl | assumption):wpAny M A (storeName X.env x u) Q E s:=
 om I hN hi hx r (fun s' I' _=>h s' I') hf
theorem Inv.call'(I:Inv X pins σ H s)(ho:s'.os=s.os)(u:Un (Dn X.stack) ch H H' s.heap s'.heap)(bC:kS X.prog X.w H' s'.heap)(hg:AllBare s'.gens)(hch:∀b∈ch,(b∈X.ex∨X.s₀.heap.objs.size≤b)∧b≠X.env.locals∧(∀x c,X.env.cells.lookup x=some c->c≠b)∧∀p∈X.pn++pins,p.1≠b):Inv X pins σ H' s':=by
 obtain⟨h',g',d',t',o'⟩:=s';have e:o'=s.os:=ho;subst e;exact I.call (g':=g') (t':=t') (d':=d') u bC hg hch
end
abbrev XK:=Value->Option Addr->Hp->Prop
abbrev St:=List (Option V)
abbrev VK:=V->Hp->Prop
abbrev TE:=St->Hp->VK->Prop
abbrev TT:=St->Hp->(Bool->Hp->Prop)->Prop
abbrev TA:=St->Hp->(List V->Hp->Prop)->Prop
structure Ends where
 nx:St->Hp->Prop
 rt:VK
 bk:St->Hp->Prop:=fun _ _=>False
 ct:St->Hp->Prop:=fun _ _=>False
abbrev TS:=Ends->St->Hp->Prop
inductive Pr(X:Cx)(pins:List (Addr×Obj))(σ:St)(Q:VK)(u:Value)(s':Shared):Prop where
 | mk (v H'):Inv X pins σ H' s'->RelV v u->Q v H'->Pr X pins σ Q u s'
def EP(X:Cx)(pins:List (Addr×Obj))(σ:St)(Q:VK)(u:Value)(s':Shared):Prop:=Pr X pins σ Q u s'
def TP(X:Cx)(pins:List (Addr×Obj))(σ:St)(Q:Bool->Hp->Prop)(b:Bool)(s':Shared):Prop:=∃H',Inv X pins σ H' s'∧Q b H'
inductive Pt(X:Cx)(pins:List (Addr×Obj))(σ:St)(Q:List V->Hp->Prop)(us:List Value)(s':Shared):Prop where
 | mk (vs H'):Inv X pins σ H' s'->Vals vs us->Q vs H'->Pt X pins σ Q us s'
def AP(X:Cx)(pins:List (Addr×Obj))(σ:St)(Q:List V->Hp->Prop)(us:List Value)(s':Shared):Prop:=Pt X pins σ Q us s'
def SP(X:Cx)(pins:List (Addr×Obj))(D:Ends)(f:Flow)(s':Shared):Prop:=
 match f with
 | .next=>∃σ' H',Inv X pins σ' H' s'∧D.nx σ' H'
 | .brk=>∃σ' H',Inv X pins σ' H' s'∧D.bk σ' H'
 | .cont=>∃σ' H',Inv X pins σ' H' s'∧D.ct σ' H'
 | .ret u=>∃v σ' H',Inv X pins σ' H' s'∧RelV v u∧D.rt v H'
def PE(X:Cx)(e:Expr)(t:TE):Prop:=
 ∀(pins:List (Addr×Obj)) (s:Shared) (σ:St) (H:Hp) (Q:VK),Inv X pins σ H s->t σ H Q->wpAny (model X.prog X.w) X.A (eval e X.env) (EP X pins σ Q) X.xe s
def PT(X:Cx)(e:Expr)(t:TT):Prop:=
 ∀(pins:List (Addr×Obj)) (s:Shared) (σ:St) (H:Hp) (Q:Bool->Hp->Prop),Inv X pins σ H s->t σ H Q->wpAny (model X.prog X.w) X.A (isTrue e X.env (eval e X.env)) (TP X pins σ Q) X.xe s
def PW(X:Cx)(e:Expr)(t:TT):Prop:=
 ∀(whole:Sem Value)(pins:List (Addr×Obj)) (s:Shared) (σ:St) (H:Hp) (Q:Bool->Hp->Prop),Inv X pins σ H s->t σ H Q->wpAny (model X.prog X.w) X.A (isTrue e X.env whole) (TP X pins σ Q) X.xe s
theorem PW.pt(h:PW X e t):PT X e t:=h _
def PA(X:Cx)(es:List Expr)(t:TA):Prop:=
 ∀(pos:Pos)(pins:List (Addr×Obj)) (s:Shared) (σ:St) (H:Hp) (Q:List V->Hp->Prop),Inv X pins σ H s->t σ H Q->wpAny (model X.prog X.w) X.A (spliced (backTo pos (starEach es X.env))) (AP X pins σ Q) X.xe s
def PS(X:Cx)(st:Stmt)(t:TS):Prop:=
 ∀(pins:List (Addr×Obj)) (s:Shared) (σ:St) (H:Hp) (D:Ends),Inv X pins σ H s->t D σ H->wpAny (model X.prog X.w) X.A (exec st X.env) (SP X pins D) X.xe s
def y7(X:Cx)(st:List Stmt)(t:TS):Prop:=
 ∀(pins:List (Addr×Obj)) (s:Shared) (σ:St) (H:Hp) (D:Ends),Inv X pins σ H s->t D σ H->wpAny (model X.prog X.w) X.A (execs st X.env) (SP X pins D) X.xe s
theorem cN(h:wpAny M A t Q E s)(hQ:∀a s,Q a s->Q' a s):wpAny M A t Q' E s:=Q5 h hQ fun _ _ x=>x
section
variable {X:Cx}
def N0(i:Nat):TE:=fun σ H Q=>∃v,σ[i]?=some (some v)∧Q v H
def tC(v:V):TE:=fun _ H Q=>Q v H
theorem Ke(hN:X.N[i]?=some x)(hv:LU X.env.scope x)(hd:(x==("__debug__":Str))=false:=by decide)(hcd:(x==("__classdict__":Str))=false:=by decide):PE X (.Name x pos) (N0 i):=by
 intro pins s σ H Q I h;obtain⟨v,e,h⟩:=h;obtain⟨m,hn,hl⟩:=I.loc;obtain⟨u,r,l⟩:=hl i x v hN e hv;have fin:EP X pins σ Q u s:=⟨v,H,I,r,h⟩;rcases l with⟨hk,hm⟩ |⟨hk,c,hc,hcell⟩
 ·exact wpAny_Name (wpAny_loadName_local I.ok.kind hk hn hm fin) hd
 ·rcases hk with hk | hk
  ·exact wpAny_Name (wpAny_loadName_cell I.ok.kind hk hc hcell fin) hd
  ·exact wpAny_Name (wpAny_loadName_free I.ok.kind hk hc hcell fin hcd) hd
theorem Km{i j pos}:PE X (.Constant (.int i) j pos) (tC (.int i)):=fun _ _ _ H _ I h=>wpAny_Constant_int ⟨.int i,H,I.tok _,⟨_,rfl⟩,h⟩
theorem MS{b j pos}:PE X (.Constant (.bool b) j pos) (tC (.bl b)):=fun _ _ _ H _ I h=>Constant_bool ⟨.bl b,H,I,rfl,h⟩
theorem Kk{j pos}:PE X (.Constant .none j pos) (tC .cC):=fun _ _ _ H _ I h=>Constant_none ⟨.cC,H,I,rfl,h⟩
theorem Kh{x j pos}:PE X (.Constant (.str x) j pos) (tC (.str x)):=fun _ _ _ H _ I h=>Calls.Constant_str ⟨.str x,H,I.tok _,⟨_,rfl⟩,h⟩
def Gl(X:Cx)(x:Str):Prop:=X.env.kindOf x=some .globalImplicit
theorem qJ(I:Inv X pins σ H s)(hg:Gl X x)(hm:X.mg x=some u)(h:Q u s)(hd:(x==("__debug__":Str))=false:=by decide):wpAny (model X.prog X.w) X.A (eval (.Name x pos) X.env) Q E s:=
 VE I.ok.kind hg (Calls.loadGlobal_global (by rw[I.ok.glob];exact I.mod.glob.keeps I.bk) hm h) hd
theorem j5(I:Inv X pins σ H s)(hg:Gl X x)(hm:X.mg x=none)(hv:bootBuiltins x=some u)(h:Q u s)(hn:x≠"__name__":=by decide)(hd:(x==("__debug__":Str))=false:=by decide):wpAny (model X.prog X.w) X.A (eval (.Name x pos) X.env) Q E s:=by
 obtain⟨mb,h1,h2⟩:=I.mod.blt;exact VE I.ok.kind hg (Calls.loadGlobal_builtin (by rw[I.ok.glob];exact I.mod.glob.keeps I.bk) hm (by rw[I.ok.blt];exact h1.keeps I.bk) ((h2 x hn).trans hv) h) hd
theorem G7(hg:Gl X x)(hm:X.mg x=some u)(r:RelV v u)(hd:(x==("__debug__":Str))=false:=by decide):PE X (.Name x pos) (tC v):=
 fun _ _ _ H _ I h=>qJ I hg hm ⟨v,H,I,r,h⟩ hd
theorem Hb(hg:Gl X x)(hm:X.mg x=none)(hv:bootBuiltins x=some u)(r:RelV v u)(hn:x≠"__name__":=by decide)(hd:(x==("__debug__":Str))=false:=by decide):PE X (.Name x pos) (tC v):=
 fun _ _ _ H _ I h=>j5 I hg hm hv ⟨v,H,I,r,h⟩ hn hd
variable {a b:Expr} {ta tb:TE} {pos:Pos}
def PC(X:Cx)(op:CmpOp)(a b:Expr)(t:TE):Prop:=
 ∀(pins:List (Addr×Obj)) (s:Shared) (σ:St) (H:Hp) (Q:VK),Inv X pins σ H s->t σ H Q->
  wpAny (model X.prog X.w) X.A (eval a X.env) (fun v s₁=>wpAny (model X.prog X.w) X.A (eval b X.env) (fun u s₂=>wpAny (model X.prog X.w) X.A (compareOp op v u) (EP X pins σ Q) X.xe s₂) X.xe s₁) X.xe s
def tB(t:TE):TT:=fun σ H Q=>t σ H fun x H1=>∃c,x=.bl c∧Q c H1
theorem JU(h:PC X op a b t)(h1:behindInMarks op b=false:=by first | exact nobehind _ (by decide) (by decide) | rfl):PT X (.Compare a [op] [b] pos) (tB t):=by
 intro pins s σ H Q I hw;refine wpAny_isTrue_Compare1 (cN (h pins s σ H _ I hw) fun v s1 h1=>cN h1 fun u s2 h2=>cN h2 fun c s3 ⟨x,H1,I1,r1,q1⟩=>?_) h1;obtain⟨d,rfl,q⟩:=q1;cases r1;exact Rk ⟨H1,I1,q⟩
variable {tA tB':TT} {rest:List Expr}
def mE(t u:TT):TT:=fun σ H Q=>t σ H fun c H1=>if c=true then u σ H1 Q else Q false H1
def qv(t u:TT):TT:=fun σ H Q=>t σ H fun c H1=>if c=true then Q true H1 else u σ H1 Q
def eI(t:TT):TT:=fun σ H Q=>t σ H fun c H1=>Q (!c) H1
theorem GR(ha:PT X a tA):PW X (.BoolOp .And [a] pos) tA:=by
 intro wh pins s σ H Q I h;refine isTrue_and (cN (ha pins s σ H Q I h) fun c s1 e=>?_);cases c with
 | true=>exact isTrue_and_nil e
 | false=>exact e
theorem JR(ha:PT X a tA):PW X (.BoolOp .Or [a] pos) tA:=by
 intro wh pins s σ H Q I h;refine isTrue_or (cN (ha pins s σ H Q I h) fun c s1 e=>?_);cases c with
 | false=>exact isTrue_or_nil e
 | true=>exact e
theorem JS(ha:PT X a tA)(hb:PW X (.BoolOp .And (b::rest) pos) tB'):PW X (.BoolOp .And (a::b::rest) pos) (mE tA tB'):=by
 intro wh pins s σ H Q I h;refine isTrue_and (cN (ha pins s σ H _ I h) fun c s1 ⟨H1,I1,q1⟩=>?_);cases c with
 | true=>exact hb wh pins s1 σ H1 Q I1 q1
 | false=>exact⟨H1,I1,q1⟩
theorem ML(ha:PT X a tA)(hb:PW X (.BoolOp .Or (b::rest) pos) tB'):PW X (.BoolOp .Or (a::b::rest) pos) (qv tA tB'):=by
 intro wh pins s σ H Q I h;refine isTrue_or (cN (ha pins s σ H _ I h) fun c s1 ⟨H1,I1,q1⟩=>?_);cases c with
 | true=>exact⟨H1,I1,q1⟩
 | false=>exact hb wh pins s1 σ H1 Q I1 q1
theorem JT(ha:PT X a tA):PT X (.UnaryOp .Not a pos) (eI tA):=by
 intro pins s σ H Q I h;exact isTrue_not (ha pins s σ H (fun c H1=>Q (!c) H1) I h)
def Mo(ta tb:TE):TE:=fun σ H Q=>ta σ H fun x H1=>∃c,x=.bl c∧if c=true then tb σ H1 Q else Q (.bl false) H1
def N6(ta tb:TE):TE:=fun σ H Q=>ta σ H fun x H1=>∃c,x=.bl c∧if c=true then Q (.bl true) H1 else tb σ H1 Q
def Mh(ta:TE):TE:=fun σ H Q=>ta σ H fun x H1=>∃c,x=.bl c∧Q (.bl (!c)) H1
theorem Ki{op}(h:PE X a t):PE X (.BoolOp op [a] pos) t:=fun pins s σ H Q I hw=>BoolOp_one (h pins s σ H Q I hw)
theorem Ko(ha:PE X a ta)(hb:PE X (.BoolOp .And (b::rest) pos) tb):PE X (.BoolOp .And (a::b::rest) pos) (Mo ta tb):=by
 intro pins s σ H Q I h;refine BoolOp_and (cN (ha pins s σ H _ I h) fun v s1 ⟨x,H1,I1,r1,q1⟩=>?_);obtain⟨c,rfl,q1⟩:=q1;cases r1;refine Rk ?_;cases c with
 | true=>exact hb pins s1 σ H1 Q I1 q1
 | false=>exact⟨.bl false,H1,I1,rfl,q1⟩
theorem MP(ha:PE X a ta)(hb:PE X (.BoolOp .Or (b::rest) pos) tb):PE X (.BoolOp .Or (a::b::rest) pos) (N6 ta tb):=by
 intro pins s σ H Q I h;refine BoolOp_or (cN (ha pins s σ H _ I h) fun v s1 ⟨x,H1,I1,r1,q1⟩=>?_);obtain⟨c,rfl,q1⟩:=q1;cases r1;refine Rk ?_;cases c with
 | false=>exact hb pins s1 σ H1 Q I1 q1
 | true=>exact⟨.bl true,H1,I1,rfl,q1⟩
theorem Kj(ha:PE X a ta):PE X (.UnaryOp .Not a pos) (Mh ta):=by
 intro pins s σ H Q I h;refine UnaryOp_ (cN (ha pins s σ H _ I h) fun v s1 ⟨x,H1,I1,r1,q1⟩=>?_);obtain⟨c,rfl,q1⟩:=q1;cases r1;exact not_of (Rk ⟨.bl (!c),H1,I1,rfl,q1⟩)
end
def gA(K:FR)(H:Hp)(a:Addr)(xs:List V):Prop:=
 Rd H a (.lst xs)∨
  ∃(o:Obj)(its:Array Value)(n:Nat),K.lookup a=some o∧o.cls=.type "list"∧o.dict=none∧o.data=.seq its n∧its.size≤sizeLine∧Vals xs its.toList
def ko(K:FR)(H:Hp)(a:Addr)(xs:List V):Prop:=
 Rd H a (.tup xs)∨
  ∃(o:Obj)(its:Array Value)(n:Nat),K.lookup a=some o∧o.cls=.type "tuple"∧o.data=.seq its n∧its.size≤sizeLine∧Vals xs its.toList∧o.dict=none
noncomputable def OX:Value->Option V
 | .none=>some .cC
 | .bool b=>some (.bl b)
 | .int i _=>some (.int i)
 | .str x _=>some (.str x)
 | .bytes b _=>some (.byt b)
 | .float b _=>some (.LS b)
 | .ref a=>some (.ref a)
 | .type n=>some (.ty n)
 | _=>none
theorem RelV.abs(r:RelV x u):OX u=some x:=by
 cases x with
 | cC=>cases r;rfl
 | bl _=>cases r;rfl
 | int _=>obtain⟨t,rfl⟩:=r;rfl
 | str _=>obtain⟨t,rfl⟩:=r;rfl
 | byt _=>obtain⟨t,rfl⟩:=r;rfl
 | LS _=>obtain⟨t,rfl⟩:=r;rfl
 | ref _=>cases r;rfl
 | ty _=>cases r;rfl
theorem RelV.inj(r:RelV x u)(q:RelV y u):x=y:=Option.some.inj (r.abs.symm.trans q.abs)
theorem Vals.inj:∀{xs ys:List V} {us:List Value},Vals xs us->Vals ys us->xs=ys
 | _,_,_,.nil,.nil=>rfl
 | _,_,_,.cons r t,.cons r' t'=>by rw[r.inj r',Vals.inj t t']
theorem gA.of{K:FR}(h:H a=some (.lst xs)):gA K H a xs:=.inl (.inl h)
theorem Inv.list(I:Inv X pins σ H s)(h:gA X.K H a xs):∃its:List Value,Vals xs its∧PlainL s.heap a its.toArray∧xs.length≤sizeLine:=by
 rcases h with h |⟨o,its,n,hk,hc,hd,hs,hz,r⟩
 ·obtain⟨z,its,n,r,e⟩:=h.ok I.bC;exact⟨its,r,⟨_,n,e,rfl,rfl,rfl⟩,z⟩
 ·refine⟨its.toList,r,⟨o,n,I.va a o hk,hc,hd,by simpa using hs⟩,?_⟩;have e:=r.length;simp only[RE] at e
  lia
theorem Inv.tuple(I:Inv X pins σ H s)(h:ko X.K H a xs):∃its:List Value,Vals xs its∧IsTup s.heap a its.toArray∧xs.length≤sizeLine:=by
 rcases h with h |⟨o,its,n,hk,hc,hs,hz,r,_⟩
 ·obtain⟨z,its,r,p⟩:=h.ok I.bC;exact⟨its,r,p.tup,z⟩
 ·refine⟨its.toList,r,⟨o,I.va a o hk,hc,n,by simpa using hs⟩,?_⟩;have e:=r.length;simp only[RE] at e
  lia
theorem Inv.Jb(I:Inv X pins σ H s)(h:ko X.K H a xs):∃its:List Value,Vals xs its∧xA s.heap a its.toArray∧xs.length≤sizeLine:=by
 rcases h with h |⟨o,its,n,hk,hc,hs,hz,r,hd⟩
 ·obtain⟨z,its,r,p⟩:=h.ok I.bC;exact⟨its,r,p,z⟩
 ·refine⟨its.toList,r,⟨o,I.va a o hk,hc,⟨n,by simpa using hs⟩,hd⟩,?_⟩;have e:=r.length;simp only[RE] at e
  lia
theorem Inv.yt(I:Inv X pins σ H s)(h:gA X.K H a xs)(h':gA X.K H a ys):xs=ys:=by
 obtain⟨its,r,⟨o,n,e,_,_,d⟩,_⟩:=I.list h;obtain⟨its',r',⟨o',n',e',_,_,d'⟩,_⟩:=I.list h';rw[e] at e';cases e';rw[d] at d';injection d' with d1 _
 have:its=its':=by simpa using congrArg Array.toList d1
 subst this;exact r.inj r'
theorem Inv.uy(I:Inv X pins σ H s)(h:ko X.K H a xs)(h':ko X.K H a ys):xs=ys:=by
 obtain⟨its,r,⟨o,e,_,n,d⟩,_⟩:=I.tuple h;obtain⟨its',r',⟨o',e',_,n',d'⟩,_⟩:=I.tuple h';rw[e] at e';cases e';rw[d] at d';injection d' with d1 _
 have:its=its':=by simpa using congrArg Array.toList d1
 subst this;exact r.inj r'
abbrev Cx.tF(X:Cx)(E:Value->Shared->Prop):Cx:={X with xe:=E}
abbrev Cx.MY(X:Cx):Cx:=X.tF fun _ _=>False
theorem Cx.Ok.tF{X:Cx}(ok:X.Ok)(E:Value->Shared->Prop):(X.tF E).Ok:=
 ⟨ok.mod,ok.kind,ok.glob,ok.blt,ok.above,ok.inj,ok.has,ok.Ng,ok.hd,ok.frames,ok.NL,ok.Pd,ok.bs,ok.IP,ok.EA,ok.HM,ok.sx,ok.LR⟩
theorem Cx.Ok.jv{X:Cx}{E:Value->Shared->Prop}(ok:(X.tF E).Ok):X.Ok:=
 ⟨ok.mod,ok.kind,ok.glob,ok.blt,ok.above,ok.inj,ok.has,ok.Ng,ok.hd,ok.frames,ok.NL,ok.Pd,ok.bs,ok.IP,ok.EA,ok.HM,ok.sx,ok.LR⟩
theorem Inv.tF(I:Inv X pins σ H s)(E:Value->Shared->Prop):Inv (X.tF E) pins σ H s:=⟨I.ok.tF E,I.os,I.bare,I.base,I.loc,I.cell,I.free,I.j6,I.pin,I.bC,I.len⟩
theorem Inv.jv(I:Inv (X.tF E) pins σ H s):Inv X pins σ H s:=⟨I.ok.jv,I.os,I.bare,I.base,I.loc,I.cell,I.free,I.j6,I.pin,I.bC,I.len⟩
theorem SP.jv(h:SP (X.tF E) pins D f s'):SP X pins D f s':=by
 cases f with
 | next=>obtain⟨σ',H',I,q⟩:=h;exact⟨σ',H',I.jv,q⟩
 | brk=>obtain⟨σ',H',I,q⟩:=h;exact⟨σ',H',I.jv,q⟩
 | cont=>obtain⟨σ',H',I,q⟩:=h;exact⟨σ',H',I.jv,q⟩
 | ret u=>obtain⟨v,σ',H',I,r,q⟩:=h;exact⟨v,σ',H',I.jv,r,q⟩
theorem y7.MY{st:List Stmt}{t:TS}(h:y7 X.MY st t):y7 X st t:=fun pins s σ H D I hw=>
 Q5 (h pins s σ H D (I.tF _) hw) (fun _ _ q=>q.jv) fun _ _ z=>False.elim z
section
variable {X:Cx} {st:Stmt} {rest:List Stmt} {t u:TS} {e:Expr} {te:TE} {pos:Pos}
def Mj:TS:=fun D σ H=>D.nx σ H
def Md(t u:TS):TS:=fun D σ H=>t {D with nx:=u D} σ H
theorem GV:y7 X [] Mj:=fun _ _ σ H _ I h=>Ux ⟨σ,H,I,h⟩
theorem Ef(h1:PS X st t)(h2:y7 X rest u):y7 X (st::rest) (Md t u):=by
 intro pins s σ H D I h;refine wpAny_execs_cons (cN (h1 pins s σ H {D with nx:=u D} I h) fun f s1 q=>?_);cases f with
 | next=>
  obtain⟨σ',H',I',q⟩:=q;exact h2 pins s1 σ' H' D I' q
 | ret v=>exact q
 | brk=>exact q
 | cont=>exact q
theorem GU(h1:PS X st t):y7 X [st] t:=by
 intro pins s σ H D I h;refine wpAny_execs_cons (cN (h1 pins s σ H D I h) fun f s1 q=>?_);cases f with
 | next=>exact Ux q
 | ret v=>exact q
 | brk=>exact q
 | cont=>exact q
theorem Inv.quiet(I:Inv X pins σ H s):interactive X.env=false:=by simp[interactive,I.ok.kind]
def Ml(te:TE):TS:=fun D σ H=>te σ H fun _ H1=>D.nx σ H1
theorem GX(he:PE X e te)(hs:swapsWith e none pos.line X.env=pure false:=by rfl):PS X (.Expr e pos) (Ml te):=by
 intro pins s σ H D I h;exact wpAny_Expr_any (cN (he pins s σ H _ I h) fun v s1 ⟨x,H1,I1,r1,q1⟩=>⟨σ,H1,I1,q1⟩) I.quiet hs
def N5(te:TE):TS:=fun D σ H=>te σ H D.rt
theorem JW(he:PE X e te):PS X (.Return (some e) pos) (N5 te):=by
 intro pins s σ H D I h;exact wpAny_Return_some (cN (he pins s σ H _ I h) fun v s1 ⟨x,H1,I1,r1,q1⟩=>⟨x,σ,H1,I1,r1,q1⟩)
def Oa(c:TT)(t u:TS):TS:=fun D σ H=>c σ H fun b H1=>if b=true then t D σ H1 else u D σ H1
theorem MM(hc:PT X c tc)(ha:y7 X a t)(hb:y7 X b u):PS X (.If c a b pos) (Oa tc t u):=by
 intro pins s σ H D I h;refine wpAny_If (cN (hc pins s σ H _ I h) fun d s1 ⟨H1,I1,q1⟩=>?_);cases d with
 | true=>exact ha pins s1 σ H1 D I1 q1
 | false=>exact hb pins s1 σ H1 D I1 q1
end
abbrev TG:=V->St->Hp->(St->Hp->Prop)->Prop
abbrev LD:=List V->St->Hp->(St->Hp->Prop)->Prop
def PG(X:Cx)(target:Expr)(t:TG):Prop:=
 ∀(pins:List (Addr×Obj)) (s:Shared) (σ:St) (H:Hp) (v:V) (u:Value) (Q:St->Hp->Prop),Inv X pins σ H s->RelV v u->t v σ H Q->
  wpAny (model X.prog X.w) X.A (assign target X.env u) (fun _ s'=>∃σ' H',Inv X pins σ' H' s'∧Q σ' H') X.xe s
def IW(X:Cx)(ts:List Expr)(t:LD):Prop:=
 ∀(pins:List (Addr×Obj)) (s:Shared) (σ:St) (H:Hp) (vs:List V) (us:List Value) (Q:St->Hp->Prop),Inv X pins σ H s->Vals vs us->t vs σ H Q->
  wpAny (model X.prog X.w) X.A (assignInOrder ((assignEach ts X.env).map (·.2)) us) (fun _ s'=>∃σ' H',Inv X pins σ' H' s'∧Q σ' H') X.xe s
abbrev Nq:=V->V->V->Hp->(Hp->Prop)->Prop
def LJ(X:Cx)(t:Nq):Prop:=
 ∀(pins:List (Addr×Obj)) (s:Shared) (σ:St) (H:Hp) (o i v:V) (ov iv u:Value) (Q:Hp->Prop),Inv X pins σ H s->RelV o ov->RelV i iv->RelV v u->t o i v H Q->
  wpAny (model X.prog X.w) X.A (setItem ov iv u) (fun _ s'=>∃H',Inv X pins σ H' s'∧Q H') X.xe s
abbrev Ph:=V->V->Hp->VK->Prop
def ND(X:Cx)(op:Operator)(t:Ph):Prop:=
 ∀(pins:List (Addr×Obj)) (s:Shared) (σ:St) (H:Hp) (x y:V) (v u:Value) (Q:VK),Inv X pins σ H s->RelV x v->RelV y u->t x y H Q->
  wpAny (model X.prog X.w) X.A (inplaceOp op v u) (EP X pins σ Q) X.xe s
def pS(i:Nat):TG:=fun v σ H Q=>Q (σ.set i (some v)) H
theorem G6(hN:X.N.Nodup)(hi:X.N[i]?=some x)(hx:Loc X.env.scope x)(hf:X.fn x=true∨X.env.scope.names.lookup x=some .local:=by first | exact .inl rfl | exact .inr rfl | assumption):PG X (.Name x pos) (pS i):=by
 intro pins s σ H v u Q I r h;exact U1 (jx I hN hi hx r (fun s' I'=>⟨_,H,I',h⟩) hf)
noncomputable def OS:LD:=fun vs σ H Q=>vs=[]∧Q σ H
def M6(t:TG)(u:LD):LD:=fun vs σ H Q=>∃v r,vs=v::r∧t v σ H fun σ' H'=>u r σ' H' Q
theorem G5:IW X [] OS:=by
 intro pins s σ H vs us Q I r h;obtain⟨e,h⟩:=h;subst e;cases r;exact assignInOrder_nil ⟨σ,H,I,h⟩
theorem Em(h1:PG X e t)(h2:IW X es u)(hs:(assignEach (e::es) X.env).map (·.2)=assign e X.env::(assignEach es X.env).map (·.2):=by rfl):IW X (e::es) (M6 t u):=by
 intro pins s σ H vs us Q I r h;obtain⟨v,vr,e1,h⟩:=h;subst e1;cases r with
 | cons r rr=>
  rw[hs];refine Vv (cN (h1 pins s σ H _ _ _ I r h) fun _ s1 ⟨σ1,H1,I1,q1⟩=>?_);exact h2 pins s1 σ1 H1 _ _ Q I1 rr q1
def OR(K:FR)(n:Nat)(t:LD):TG:=fun v σ H Q=>∃a xs,v=.ref a∧ko K H a xs∧xs.length=n∧t xs σ H Q
theorem Kc(hc:X.calm=true)(h:IW X es t)(hn:(assignEach es X.env).length=n:=by rfl)(hst:(assignEach es X.env).findIdx? (·.1)=none:=by rfl):PG X (.Tuple es k pos) (OR X.K n t):=by
 intro pins s σ H v u Q I r hw;obtain⟨a,xs,e1,hq,hl,hw⟩:=hw;subst e1;cases r;obtain⟨its,rv,ht,hz⟩:=I.tuple hq;refine assign_Tuple_tuple (I.ok.hd hc) ht (by simp[hn,←hl,rv.length]) hst fun h' hx=>?_;have I1:Inv X pins σ H {s with heap:=h'}:=I.kept (t':=s.toks) fun b o e=>hx b o (Qo (Qf e)) e;exact h pins _ σ H xs _ Q I1 (by simpa using rv) hw
def ua(to ti:TE)(t:Nq):TG:=fun v σ H Q=>to σ H fun o H1=>ti σ H1 fun i H2=>t o i v H2 fun H3=>Q σ H3
theorem Kd (ho:PE X o to) (hi:PE X i ti) (hs:LJ X t) (ha:∀v,assign (.Subscript o i pos) X.env v=(do
   let ov←holding [v] (eval o X.env);let iv←holding [v,ov] (eval i X.env)
   standAt pos
   holding [v,ov,iv] (setItem ov iv v)
   release [v,ov,iv] []):=by intro _;rfl):PG X (.Subscript o i pos) (ua to ti t):=by
 intro pins s σ H v u Q I r h;rw[ha];refine PZ (QW (cN (ho pins s σ H _ I h) fun ov s1 ⟨x,H1,I1,r1,q1⟩=>?_));refine PZ (QW (cN (hi pins s1 σ H1 _ I1 q1) fun iv s2 ⟨y,H2,I2,r2,q2⟩=>?_));refine PZ (RM (PZ (QW (cN (hs pins s2 σ H2 x y v ov iv u _ I2 r1 r2 r q2) fun _ s3 ⟨H3,I3,q3⟩=>?_))));exact wpAny_release ⟨σ,H3,I3,q3⟩
def BM(te:TE)(g:TG):TS:=fun D σ H=>te σ H fun x H1=>g x σ H1 D.nx
theorem JZ(he:PE X e te)(hg:PG X tg g)(hs:swapsWithSole [tg] e pos.line X.env=pure false:=by rfl)(hw:swappedStores [tg] e X.env=pure none:=by rfl)(h1:(assignEach [tg] X.env).map (·.2)=[assign tg X.env]:=by rfl):PS X (.Assign [tg] e pos) (BM te g):=by
 intro pins s σ H D I h;refine wpAny_Assign_stores (cN (he pins s σ H _ I h) fun v s1 ⟨x,H1,I1,r1,q1⟩=>?_) hs hw;rw[h1];exact cN (hg pins s1 σ H1 x v _ I1 r1 q1) fun _ s2 q=>q
theorem JV(hN:X.N.Nodup)(hi:X.N[i]?=some x)(hx:Loc X.env.scope x)(he:PE X e te)(hs:swapsWith e (some (.Name x pos')) pos.line X.env=pure false:=by rfl)(hf:X.fn x=true∨X.env.scope.names.lookup x=some .local:=by first | exact .inl rfl | exact .inr rfl | assumption):
  PS X (.Assign [.Name x pos'] e pos) (BM te (pS i)):=by
 intro pins s σ H D I h;refine wpAny_Assign_Name (cN (he pins s σ H _ I h) fun v s1 ⟨y,H1,I1,r1,q1⟩=>?_) hs;exact jx I1 hN hi hx r1 (fun s2 I2=>⟨_,H1,I2,q1⟩) hf
def Mf(i j:Nat)(ta:TA):TS:=fun D σ H=>ta σ H fun vs H1=>∃v w,vs=[v,w]∧D.nx ((σ.set i (some v)).set j (some w)) H1
theorem zD{kt k2 pt2}(hc:X.calm=true)(hN:X.N.Nodup)(hi:X.N[i]?=some x)(hj:X.N[j]?=some y)(hij:i≠j)(hx:X.env.scope.names.lookup x=some .local)(hy:X.env.scope.names.lookup y=some .local)(ha:PA X [a,b] ta)(hw:swappedStores [.Tuple [.Name x px,.Name y py] kt pt] (.Tuple [a,b] k2 pt2) X.env=pure (some [x,y]))(hs:swapsWithSole [.Tuple [.Name x px,.Name y py] kt pt] (.Tuple [a,b] k2 pt2) pos.line X.env=pure false:=by rfl):
  PS X (.Assign [.Tuple [.Name x px,.Name y py] kt pt] (.Tuple [a,b] k2 pt2) pos) (Mf i j ta):=by
 intro pins s σ H D I h;rw[exec_Assign_arm];refine PZ (RM ?_);rw[hs];refine PZ (P5 ?_);rw[Qa (by decide)];refine PZ (Tuple_ (cN (ha _ pins s σ H _ I h) fun us s1 ⟨vs,H1,I1,r1,q1⟩=>?_));obtain⟨v,w,e1,q1⟩:=q1;subst e1;obtain⟨u1,u2,rfl,rv,rw'⟩:∃u1 u2,us=[u1,u2]∧RelV v u1∧RelV w u2:=by
  cases r1 with
  | cons p q=>
   cases q with
   | cons p' q'=>
    cases q';exact⟨_,_,rfl,p,p'⟩
 refine Q1 ?_ (by show 2≤sizeLine;decide);have I2:Inv X pins σ H1 {s1 with heap:=s1.heap.push {cls:=.type "tuple",data:=.seq [u1,u2].toArray}}:=I1.kept (t':=s1.toks) fun b o e=>P2 _ e;rw[hw];refine PZ (P5 ?_);show wpAny (model X.prog X.w) X.A (do rule "assign.swapped-stores";let items←unpackItems (.ref s1.heap.objs.size) 2 none;assignInOrder [fun v=>bindName X.env y v,fun v=>bindName X.env x v] items.reverse;pure Flow.next) _ _ _;refine PZ (RA (PZ (unpackItems_tuple (items:=#[u1,u2]) (I.ok.hd hc) (IsTup.new s1.heap _) fun h' hx'=>?_)));have I3:=I2.kept (h':=h') (t':=s1.toks) fun b o e=>hx' b o (Qo (Qf e)) e;show wpAny _ _ (assignInOrder [fun v=>bindName X.env y v,fun v=>bindName X.env x v] [u2,u1] >>=fun _=>pure Flow.next) _ _ _;refine PZ (Vv (wpAny_bindName (jx I3 hN hj (.inl hy) rw' (fun s2 I4=>?_) (.inr hy))));refine Vv (wpAny_bindName (jx I4 hN hi (.inl hx) rv (fun s3 I5=>assignInOrder_nil (P5 ?_)) (.inr hx)));rw[List.set_comm _ _ (Ru hij)] at I5;exact⟨_,H1,I5,q1⟩
def Oc(i:Nat)(te:TE)(ti:Ph):TS:=fun D σ H=>∃x,σ[i]?=some (some x)∧te σ H fun y H1=>ti x y H1 fun z H2=>D.nx (σ.set i (some z)) H2
theorem JY(hN:X.N.Nodup)(hi:X.N[i]?=some x)(hx:Loc X.env.scope x)(he:PE X e te)(ho:ND X op ti)(hf:X.fn x=true∨X.env.scope.names.lookup x=some .local:=by first | exact .inl rfl | exact .inr rfl | assumption):
  PS X (.AugAssign (.Name x pos') op e pos) (Oc i te ti):=by
 intro pins s σ H D I h;obtain⟨v,e1,h⟩:=h;obtain⟨m,hn,hl⟩:=I.loc;have vis:LU X.env.scope x:=by rcases hx with k | k;exact .inl k;exact .inr (.inl k)
 obtain⟨u,r,l⟩:=hl i x v hi e1 vis;refine wpAny_AugAssign_Name ?_;have go:wpAny (model X.prog X.w) X.A (eval e X.env) (fun w s₂=>wpAny (model X.prog X.w) X.A (inplaceOp op u w) (fun r s₃=>wpAny (model X.prog X.w) X.A (storeName X.env x r) (fun _=>SP X pins D .next) X.xe s₃) X.xe s₂) X.xe s:=by
  refine cN (he pins s σ H _ I h) fun w s1 ⟨y,H1,I1,r1,q1⟩=>?_;refine cN (ho pins s1 σ H1 v y u w _ I1 r r1 q1) fun z s2 ⟨zv,H2,I2,r2,q2⟩=>?_;exact jx I2 hN hi hx r2 (fun s3 I3=>⟨_,H2,I3,q2⟩) hf
 rcases l with⟨hk,hm⟩ |⟨hk,c,hc,hcell⟩
 ·exact wpAny_loadName_local I.ok.kind hk hn hm go
 ·rcases hk with hk | hk
  ·exact wpAny_loadName_cell I.ok.kind hk hc hcell go
  ·rcases hx with k | k
   ·have:X.env.scope.names.lookup x=some .free:=hk;rw[k] at this;cases this
   ·have:X.env.scope.names.lookup x=some .free:=hk;rw[k] at this;cases this
def DA(c:TT)(tb:TS):TS:=fun D σ H=>∃W:Nat->St->Hp->Prop,(∃m,W m σ H)∧∀m σ H,W m σ H->
 c σ H fun b H1=>if b=true then ∃N:St->Hp->Prop,(∀σ' H',N σ' H'->∃m',m' < m∧W m' σ' H')∧tb {D with nx:=N,ct:=N,bk:=D.nx} σ H1 else D.nx σ H1
theorem Eg(hp:PassesOwn (model X.prog X.w) X.A X.env X.xe)(hc:PT X c tc)(hb:y7 X body tb):PS X (.While c body [] pos) (DA tc tb):=by
 intro pins s σ H D I h;obtain⟨W,⟨m0,w0⟩,turn⟩:=h;refine wpAny_While (codeAny_whileLoop (fun n s'=>∃σ' H',Inv X pins σ' H' s'∧W n σ' H') ?_ m0 ⟨σ,H,I,w0⟩);rintro n s1 ⟨σ1,H1,I1,w1⟩;refine Su hp (cN (hc pins s1 σ1 H1 _ I1 (turn n σ1 H1 w1)) fun b s2 ⟨H2,I2,q2⟩=>?_);cases b with
 | true=>
  obtain⟨N,hN,q2⟩:=q2;rw[P7 rfl];refine Su hp (cN (hb pins s2 σ1 H2 _ I2 q2) fun f s3 q3=>?_);cases f with
  | next=>
   obtain⟨σ3,H3,I3,n3⟩:=q3;obtain⟨m',hm,w3⟩:=hN σ3 H3 n3;exact⟨m',hm,σ3,H3,I3,w3⟩
  | cont=>
   obtain⟨σ3,H3,I3,n3⟩:=q3;obtain⟨m',hm,w3⟩:=hN σ3 H3 n3;exact⟨m',hm,σ3,H3,I3,w3⟩
  | brk=>exact q3
  | ret v=>exact q3
 | false=>
  rw[Qa QZ];exact Ux ⟨σ1,H2,I2,q2⟩
structure It where
 go:Nat->Hp->Prop
 Iq:Nat->Hp->V->Hp->Prop
 stop:Nat->Hp->Prop
def gV(X:Cx)(pins:List (Addr×Obj))(H:Hp)(b:Addr):Prop:=
 H b=none∧b≠X.env.locals∧b∉X.fs∧(b∈X.ex∨X.s₀.heap.objs.size≤b)∧(∀x c,X.env.cells.lookup x=some c->c≠b)∧∀p∈X.pn++pins,p.1≠b
theorem Inv.wX(I:Inv X pins σ H s)(hb:s.heap.objs.size≤b)(hn:H' b=none):gV X pins H' b:=by
 refine⟨hn,Tr (QF I.lt hb),I.OJ hb,.inr (Qm I.sz hb),fun x c e z=>?_,fun p hp z=>?_⟩
 ·obtain⟨v,q⟩:=I.cell x c e;exact absurd (QF q.lt (by rw[z];exact hb)) (SJ _)
 ·exact absurd (QF (Qf (I.pin p hp).1) (by rw[z];exact hb)) (SJ _)
structure Turn(P:Program)(w:World)(K:FR)(tg:Expr)(J:It)(fp:List Addr)(it:Addr)(tn:Nat->Heap->Prop):Prop where
 mem:it∈fp
 obj:∀i h,tn i h->∀b∈fp,∃o,h.get? b=some o∧∀v,o.data≠.cell v
 keep:∀i h h',tn i h->(∀b∈fp,∀o,h.get? b=some o->h'.get? b=some o)->tn i h'
 item:∀(X:Cx),X.prog=P->X.w=w->X.K=K->X.calm=true->∀(i:Nat)(pins:List (Addr×Obj)) (s:Shared) (σ:St) (H:Hp) (E:Value->Shared->Prop),Inv X pins σ H s->(∀b∈fp,gV X pins H b)->tn i s.heap->J.go i H->
  wpAny (model P w) X.A (pyNext (.ref it)) (fun r s1=>∃u,r=some u∧
   wpAny (model P w) X.A (letOwnedTupleGo tg (.ref it) u) (fun _ s2=>∃x H',Inv X pins σ H' s2∧RelV x u∧J.Iq i H x H'∧tn (i+1) s2.heap∧∀b∈fp,H' b=none) E s1) E s
 done:∀(X:Cx),X.prog=P->X.w=w->X.K=K->X.calm=true->∀(i:Nat)(pins:List (Addr×Obj)) (s:Shared) (σ:St) (H:Hp) (E:Value->Shared->Prop),Inv X pins σ H s->(∀b∈fp,gV X pins H b)->tn i s.heap->J.stop i H->
  wpAny (model P w) X.A (pyNext (.ref it)) (fun r s1=>r=none∧Inv X pins σ H s1) E s
 self:∀(A:Around)(i:Nat)(s:Shared)(Q:Value->Shared->Prop)(E:Value->Shared->Prop),tn i s.heap->Q (.ref it) s->wpAny (model P w) A (pyIter (.ref it)) Q E s
abbrev TI:=St->Hp->(It->Hp->Prop)->Prop
def Pn(X:Cx)(pins:List (Addr×Obj))(σ:St)(tg:Expr)(R:It->Hp->Prop)(itv:Value)(s2:Shared):Prop:=
 ∃(it:Addr)(fp:List Addr)(tn:Nat->Heap->Prop)(J:It)(H':Hp),itv=.ref it∧Inv X pins σ H' s2∧Turn X.prog X.w X.K tg J fp it tn∧tn 0 s2.heap∧(∀b∈fp,gV X pins H' b)∧R J H'
def PI(X:Cx)(tg iter:Expr)(wi:TI):Prop:=
 ∀(pins:List (Addr×Obj)) (s:Shared) (σ:St) (H:Hp) (R:It->Hp->Prop),Inv X pins σ H s->wi σ H R->
  wpAny (model X.prog X.w) X.A (eval iter X.env) (fun v s1=>wpAny (model X.prog X.w) X.A (pyIter v) (Pn X pins σ tg R) X.xe s1) X.xe s
theorem Bi(ho:s.heap.get? it=some o)(hc:o.cls=.type n)(hd:o.data=.fields vs)(hn:["enumerate","zip","dict_itemiterator","dict_reverseitemiterator","odict_iterator","itertools.zip_longest","itertools.pairwise"].contains n=false)(hQ:Q () s):wpAny M A (letOwnedTupleGo tg (.ref it) u) Q E s:=by
 unfold letOwnedTupleGo;cases tg <;> first
  | exact P5 hQ
  |(cases u <;> first
    | exact P5 hQ
    |(refine PZ (wpAny_load ho ?_);rw[hc,hd];show wpAny M A (if(["enumerate","zip","dict_itemiterator","dict_reverseitemiterator","odict_iterator","itertools.zip_longest","itertools.pairwise"].contains n&&vs[0]?==some (rawInt _))=true then _ else _) Q E s;rw[Qa (by intro h;rw[hn,Bool.false_and] at h;cases h)];exact P5 hQ))
noncomputable def O3(K:FR)(a:Addr):It:=
 ⟨fun i H=>∃xs x,gA K H a xs∧xs[i]?=some x,fun i H x H'=>H'=H∧∀xs,gA K H a xs->xs[i]?=some x,fun i H=>∃xs,gA K H a xs∧xs.length≤i⟩
noncomputable def O2(K:FR)(a:Addr):It:=
 ⟨fun i H=>∃xs x,ko K H a xs∧xs[i]?=some x,fun i H x H'=>H'=H∧∀xs,ko K H a xs->xs[i]?=some x,fun i H=>∃xs,ko K H a xs∧xs.length≤i⟩
noncomputable def NR(lo:Int)(n:Nat):It:=⟨fun i _=>i < n,fun i H x H'=>H'=H∧x=.int (lo+i),fun i _=>n≤i⟩
theorem BI{P:Program}{w:World}{K:FR}{tg:Expr}(a it:Addr):Turn P w K tg (O3 K a) [it] it (fun i h=>h.IsListIter it a i) where
 mem:=by simp
 obj:=fun i h st b hb=>by
  have e:b=it:=by simpa using hb
  subst e;obtain⟨o,e,c,d⟩:=st;exact⟨o,e,fun v z=>by rw[d] at z;cases z⟩
 keep:=fun i h h' st k=>st.at fun o e=>k it (by simp) o e
 item:=by
  intro X hP hw hK hc i pins s σ H E I hf st hg;subst hP hw hK;obtain⟨xs,x,hq,hx⟩:=hg;obtain⟨its,rv,p,hz⟩:=I.list hq;obtain⟨u,hu,ru⟩:=rv.get hx;obtain⟨f0,f1,f2,f3,f4,f5⟩:=hf it (by simp);refine Uu st p.isList (x:=u) (by simpa using hu) fun h' st' sb=>?_;have I1:Inv X pins σ H {s with heap:=h'}:=I.turned (t':=s.toks) (fun b o hb e=>(sb.2 b hb).trans e) f0 f1 f3 f4 f5;obtain⟨o,e,c,d⟩:=id st';exact⟨u,rfl,Bi (s:={s with heap:=h'}) e c d (by decide) ⟨x,H,I1,ru,⟨rfl,fun ys hy=>by rw[I.yt hy hq];exact hx⟩,st',fun b hb=>(hf b hb).1⟩⟩
 done:=by
  intro X hP hw hK hc i pins s σ H E I hf st hg;subst hP hw hK;obtain⟨xs,hq,hx⟩:=hg;obtain⟨its,rv,p,hz⟩:=I.list hq;obtain⟨f0,f1,f2,f3,f4,f5⟩:=hf it (by simp);have hl:=rv.length;exact UE (I.ok.hd hc) st p.isList (by simp;lia) fun h' eb=>⟨rfl,I.turned (t':=s.toks) (fun b o hb e=>eb b o hb e) f0 f1 f3 f4 f5⟩
 self:=fun _ _ _ _ _ st h=>wpAny_pyIter_listiter st h
theorem ze{P:Program}{w:World}{K:FR}{tg:Expr}(a it:Addr):Turn P w K tg (O2 K a) [it] it (fun i h=>h.IsTupleIter it a i) where
 mem:=by simp
 obj:=fun i h st b hb=>by
  have e:b=it:=by simpa using hb
  subst e;obtain⟨o,e,c,d⟩:=st;exact⟨o,e,fun v z=>by rw[d] at z;cases z⟩
 keep:=fun i h h' st k=>st.at fun o e=>k it (by simp) o e
 item:=by
  intro X hP hw hK hc i pins s σ H E I hf st hg;subst hP hw hK;obtain⟨xs,x,hq,hx⟩:=hg;obtain⟨its,rv,p,hz⟩:=I.tuple hq;obtain⟨u,hu,ru⟩:=rv.get hx;obtain⟨f0,f1,f2,f3,f4,f5⟩:=hf it (by simp);refine wpAny_pyNext_tuple_item st (show s.heap.IsTuple a its.toArray from p) (x:=u) (by simpa using hu) fun h' st' sb=>?_;have I1:Inv X pins σ H {s with heap:=h'}:=I.turned (t':=s.toks) (fun b o hb e=>(sb.2 b hb).trans e) f0 f1 f3 f4 f5;obtain⟨o,e,c,d⟩:=id st';exact⟨u,rfl,Bi (s:={s with heap:=h'}) e c d (by decide) ⟨x,H,I1,ru,⟨rfl,fun ys hy=>by rw[I.uy hy hq];exact hx⟩,st',fun b hb=>(hf b hb).1⟩⟩
 done:=by
  intro X hP hw hK hc i pins s σ H E I hf st hg;subst hP hw hK;obtain⟨xs,hq,hx⟩:=hg;obtain⟨its,rv,p,hz⟩:=I.tuple hq;obtain⟨f0,f1,f2,f3,f4,f5⟩:=hf it (by simp);have hl:=rv.length;exact wpAny_pyNext_tuple_end (I.ok.hd hc) st (show s.heap.IsTuple a its.toArray from p) (by simp;lia) fun h' eb=>⟨rfl,I.turned (t':=s.toks) (fun b o hb e=>eb b o hb e) f0 f1 f3 f4 f5⟩
 self:=fun _ _ _ _ _ st h=>wpAny_pyIter_tupleiter st h
theorem zf{P:Program}{w:World}{K:FR}{tg:Expr}(it:Addr)(lo:Int)(n:Nat):Turn P w K tg (NR lo n) [it] it (fun i h=>IsRangeIter h it (lo+(i:Nat)*1) ((n:Int)-(i:Nat)) 1) where
 mem:=by simp
 obj:=fun i h st b hb=>by
  have e:b=it:=by simpa using hb
  subst e;exact⟨_,st,fun v z=>by
   have z':Data.fields _=Data.cell v:=z;cases z'⟩
 keep:=fun i h h' st k=>k it (by simp) _ st
 item:=by
  intro X hP hw hK hc i pins s σ H E I hf st hg;subst hP hw hK;obtain⟨f0,f1,f2,f3,f4,f5⟩:=hf it (by simp);have W:=Walks.range (prog:=X.prog) (w:=X.w) (I.ok.hd hc) it lo 1 n;refine W.item i s _ _ hg st fun v h' tk hv st' kk=>?_;obtain⟨t,rfl⟩:=hv;have I1:Inv X pins σ H {s with heap:=h',toks:=tk}:=I.turned (fun b o hb e=>kk b o (by simpa using hb) e) f0 f1 f3 f4 f5;refine⟨_,rfl,Bi (s:={s with heap:=h',toks:=tk}) (n:="range_iterator") st' rfl rfl (by decide) ⟨.int (lo+i),H,I1,⟨t,?_⟩,⟨rfl,rfl⟩,st',fun b hb=>(hf b hb).1⟩⟩;rw[Int.mul_one]
 done:=by
  intro X hP hw hK hc i pins s σ H E I hf st hg;subst hP hw hK;obtain⟨f0,f1,f2,f3,f4,f5⟩:=hf it (by simp);exact wpAny_pyNext_range_end (I.ok.hd hc) st (by have:n≤i:=hg;lia) fun h' eb=>⟨rfl,I.turned (t':=s.toks) (fun b o hb e=>eb b o hb e) f0 f1 f3 f4 f5⟩
 self:=fun _ _ _ _ _ st h=>wpAny_pyIter_rangeiter st h
theorem D0{pins:List (Addr×Obj)}{σ:St}{H:Hp}{s:Shared}{R:It->Hp->Prop}{E:Value->Shared->Prop}{lo hi:Int}{t u v:Tok}{tk:Nat}(I:Inv X pins σ H s)(h1:-(2^62)≤lo)(h2:lo < 2^62)(h3:-(2^62)≤hi)(h4:hi < 2^62)
  (q:R (NR lo (hi-lo).toNat) H):wpAny (model X.prog X.w) X.A (pyIter (.ref s.heap.objs.size)) (Pn X pins σ tg R) E {s with heap:=s.heap.push {cls:=.type "range",data:=.fields #[.int lo t,.int hi u,.int 1 v]},toks:=tk}:=by
 refine wpAny_pyIter_range (IsRange.new ..) (small_one h1 h2 h3 h4) ?_;have I1:Inv X pins σ H {s with heap:=s.heap.push {cls:=.type "range",data:=.fields #[.int lo t,.int hi u,.int 1 v]},toks:=tk}:=I.kept fun b o e=>P2 _ e;refine⟨(s.heap.push {cls:=.type "range",data:=.fields #[.int lo t,.int hi u,.int 1 v]}).objs.size,[(s.heap.push {cls:=.type "range",data:=.fields #[.int lo t,.int hi u,.int 1 v]}).objs.size],_,_,H,rfl,
  I1.kept (t':=tk) fun b o e=>P2 _ e,zf _ lo (hi-lo).toNat,?_,fun b hb=>?_,q⟩
 ·have e1:lo+((0:Nat):Int)*1=lo:=by simp
  have e2:(((hi-lo).toNat:Nat):Int)-((0:Nat):Int)=Builtin.Range.rangeSize lo hi 1:=by rw[rangeSize_one];split <;> lia
  show IsRangeIter _ _ (lo+((0:Nat):Int)*1) ((((hi-lo).toNat:Nat):Int)-((0:Nat):Int)) 1;rw[e1,e2];exact Qg _ rfl
 ·have e:b=(s.heap.push {cls:=.type "range",data:=.fields #[.int lo t,.int hi u,.int 1 v]}).objs.size:=by simpa using hb
  subst e;exact I1.wX (P8 _) (I1.bC.fresh (P8 _))
def M3(ta:TA):TI:=fun σ H R=>ta σ H fun vs H1=>∃j:Int,vs=[.int j]∧-(2^62)≤j∧j < 2^62∧R (NR 0 j.toNat) H1
theorem Cc{a:Expr}{ta:TA}{p pos:Pos}(hg:Gl X "range")(hm:X.mg "range"=none)(ha:PA X [a] ta)(hs:starEach [a] X.env=[(false,eval a X.env)]:=by rfl):PI X tg (.Call (.Name "range" p) [a] [] pos) (M3 ta):=by
 intro pins s σ H R I h;refine Call_ (j5 I hg hm boot_range (Rz (cN (ha pos pins s σ H _ I h) fun us s1 ⟨vs,H1,I1,r1,q1⟩=>?_) hs rfl));obtain⟨j,e,q1,q2,q⟩:=q1;subst e;cases r1 with
 | cons r rr=>
  cases rr;obtain⟨t,rfl⟩:=r;exact call_range_1 (D0 I1 (by lia) (by lia) q1 q2 (by simpa using q))
def Mk(wi:TI)(g:TG)(tb:TS):TS:=fun D σ H=>wi σ H fun J H1=>∃W:Nat->Nat->St->Hp->Prop,(∃m,W 0 m σ H1)∧∀i m σ H,W i m σ H->
 (J.stop i H∧D.nx σ H)∨(J.go i H∧∃N:St->Hp->Prop,(∀σ' H',N σ' H'->∃m',m' < m∧W (i+1) m' σ' H')∧∀x H',J.Iq i H x H'->g x σ H' fun σ2 H2=>tb {D with nx:=N,ct:=N,bk:=D.nx} σ2 H2)
noncomputable def oK(fp:List Addr)(h:Heap):List (Addr×Obj):=fp.filterMap fun b=>(h.get? b).map fun o=>(b,o)
theorem fQ(hb:b∈fp)(e:h.get? b=some o):(b,o)∈oK fp h:=Sg.mpr ⟨b,hb,by rw[e];rfl⟩
theorem Cg(hp:p∈oK fp h):p.1∈fp∧h.get? p.1=some p.2:=by
 obtain⟨b,hb,e⟩:=Sg.mp hp;cases q:h.get? b with
 | none=>rw[q] at e;cases e
 | some o=>
  rw[q] at e;have e':(b,o)=p:=Option.some.inj e;subst e';exact⟨hb,q⟩
theorem Inv.pinned(I:Inv X pins σ H s)(hf:∀b∈fp,gV X pins H b)(ho:∀b∈fp,∃o,s.heap.get? b=some o∧∀v,o.data≠.cell v):Inv X (pins++oK fp s.heap) σ H s:=
 I.AY fun p hp=>(Qx.mp hp).elim (fun z=>I.pin p (Qu _ z)) fun z=>by
  obtain⟨hb,e⟩:=Cg z;obtain⟨f0,f1,f2,_⟩:=hf p.1 hb;obtain⟨o,e',d⟩:=ho p.1 hb;rw[e] at e';cases e';exact⟨e,f0,f1,f2,d⟩
theorem Inv.jw(I:Inv X (pins++pl) σ H s):Inv X pins σ H s:=I.AY fun p hp=>I.pin p (Qu _ (RL _ hp))
theorem JX(hp:PassesOwn (model X.prog X.w) X.A X.env X.xe)(hc:X.calm=true)(hi:PI X tg iter wi)(hg:PG X tg g)(hb:y7 X body tb)(hs:∀x,foldedSetIterable iter X.env x=pure x:=by intro _;rfl):PS X (.For tg iter body [] pos) (Mk wi g tb):=by
 intro pins s σ H D I h;refine wpAny_For (cN (hi pins s σ H _ I h) fun v s1 h1=>cN h1 fun itv s2 h2=>?_) hs;obtain⟨it,fp,tn,J,H2,e,I2,T,st2,f2,W,⟨m0,w0⟩,turn⟩:=h2;subst e;have stat:∀{H':Hp},(∀b∈fp,H' b=none)->∀b∈fp,gV X pins H' b:=fun hn b hb=>⟨hn b hb,(f2 b hb).2⟩;refine codeAny_forLoop_any (fun n s'=>∃i σ' H',Inv X pins σ' H' s'∧tn i s'.heap∧(∀b∈fp,H' b=none)∧W i n σ' H') ?_ m0 ⟨0,σ,H2,I2,st2,fun b hb=>(f2 b hb).1,w0⟩;rintro n s3 ⟨i,σ3,H3,I3,st3,fr3,w3⟩;rcases turn i n σ3 H3 w3 with⟨stop,qn⟩ |⟨go,N,hN,step⟩
 ·refine Su hp (cN (T.done X rfl rfl rfl hc i pins s3 σ3 H3 X.xe I3 (stat fr3) st3 stop) fun r s4 ⟨hr,I4⟩=>?_);subst hr;exact Ux ⟨σ3,H3,I4,qn⟩
 ·refine Su hp (cN (T.item X rfl rfl rfl hc i pins s3 σ3 H3 X.xe I3 (stat fr3) st3 go) fun r s4 ⟨u,hr,h4⟩=>?_);subst hr;refine Su hp (cN h4 fun _ s5 ⟨x,H5,I5,r5,y5,st5,fr5⟩=>?_);have I5':=I5.pinned (stat fr5) (T.obj _ _ st5);refine Su hp (cN (hg _ s5 σ3 H5 x u _ I5' r5 (step x H5 y5)) fun _ s6 ⟨σ6,H6,I6,q6⟩=>?_);refine Su hp (cN (hb _ s6 σ6 H6 _ I6 q6) fun f s7 q7=>?_);have again:∀{σ7:St} {H7:Hp},Inv X (pins++oK fp s5.heap) σ7 H7 s7->N σ7 H7->∃m,m < n∧∃i σ' H',Inv X pins σ' H' s7∧tn i s7.heap∧(∀b∈fp,H' b=none)∧W i m σ' H':=fun {σ7 H7} I7 n7=>by
   obtain⟨m',hm,w7⟩:=hN σ7 H7 n7;refine⟨m',hm,i+1,σ7,H7,I7.jw,T.keep _ _ _ st5 fun b hb o e=>(I7.pin (b,o) (Qu _ (Qu _ (fQ hb e)))).1,fun b hb=>?_,w7⟩;obtain⟨o,e,d⟩:=T.obj _ _ st5 b hb;exact(I7.pin (b,o) (Qu _ (Qu _ (fQ hb e)))).2.1
  cases f with
  | next=>obtain⟨σ7,H7,I7,n7⟩:=q7;exact again I7 n7
  | cont=>obtain⟨σ7,H7,I7,n7⟩:=q7;exact again I7 n7
  | brk=>obtain⟨σ7,H7,I7,q7⟩:=q7;exact⟨σ7,H7,I7.jw,q7⟩
  | ret v=>obtain⟨x7,σ7,H7,I7,r7,q7⟩:=q7;exact⟨x7,σ7,H7,I7.jw,r7,q7⟩
abbrev R2:=V->V->Hp->VK->Prop
def k8(X:Cx)(f:Value->Value->Sem Value)(r:R2):Prop:=
 ∀(pins:List (Addr×Obj)) (s:Shared) (σ:St) (H:Hp) (x y:V) (v u:Value) (Q:VK),Inv X pins σ H s->RelV x v->RelV y u->r x y H Q->
  wpAny (model X.prog X.w) X.A (f v u) (EP X pins σ Q) X.xe s
def Np(X:Cx)(f:Value->Sem Value)(r:V->Hp->VK->Prop):Prop:=
 ∀(pins:List (Addr×Obj)) (s:Shared) (σ:St) (H:Hp) (x:V) (v:Value) (Q:VK),Inv X pins σ H s->RelV x v->r x H Q->
  wpAny (model X.prog X.w) X.A (f v) (EP X pins σ Q) X.xe s
def eN(X:Cx)(f:Value)(r:List V->Hp->VK->Prop):Prop:=
 ∀(pins:List (Addr×Obj)) (s:Shared) (σ:St) (H:Hp) (xs:List V) (us:List Value) (Q:VK),Inv X pins σ H s->Vals xs us->r xs H Q->
  wpAny (model X.prog X.w) X.A (call f us) (EP X pins σ Q) X.xe s
def OY(X:Cx)(r:V->Hp->(Bool->Hp->Prop)->Prop):Prop:=
 ∀(pins:List (Addr×Obj)) (s:Shared) (σ:St) (H:Hp) (x:V) (v:Value) (Q:Bool->Hp->Prop),Inv X pins σ H s->RelV x v->r x H Q->
  wpAny (model X.prog X.w) X.A (truthy v) (TP X pins σ Q) X.xe s
def Mg(r:R2)(ta tb:TE):TE:=fun σ H Q=>ta σ H fun x H1=>tb σ H1 fun y H2=>r x y H2 Q
def Pw(r:V->Hp->VK->Prop)(ta:TE):TE:=fun σ H Q=>ta σ H fun x H1=>r x H1 Q
def rI(C:Int->Int->Prop)(g:Int->Int->V):R2:=fun x y H Q=>∃i j,x=.int i∧y=.int j∧C i j∧Q (g i j) H
def D7(g:Int->Int->V):R2:=fun x y H Q=>∃i j,x=.int i∧y=.int j∧Q (g i j) H
def rU(g:Int->V):V->Hp->VK->Prop:=fun x H Q=>∃i,x=.int i∧Q (g i) H
theorem Lx(ha:PE X a ta)(hb:PE X b tb){pins:List (Addr×Obj)}{s:Shared}{σ:St}{H:Hp}{R:V->V->Hp->Prop}(I:Inv X pins σ H s)
  (h:ta σ H fun x H1=>tb σ H1 fun y H2=>R x y H2) {Q:Value->Shared->Prop} {f:Value->Value->Sem Value}
  (hf:∀v u s2 x y H2,Inv X pins σ H2 s2->RelV x v->RelV y u->R x y H2->wpAny (model X.prog X.w) X.A (f v u) Q X.xe s2):
  wpAny (model X.prog X.w) X.A (eval a X.env) (fun v s₁=>wpAny (model X.prog X.w) X.A (eval b X.env) (fun u s₂=>wpAny (model X.prog X.w) X.A (f v u) Q X.xe s₂) X.xe s₁) X.xe s:=by
 refine cN (ha pins s σ H _ I h) fun v s1 ⟨x,H1,I1,r1,q1⟩=>?_;refine cN (hb pins s1 σ H1 _ I1 q1) fun u s2 ⟨y,H2,I2,r2,q2⟩=>?_;exact hf v u s2 x y H2 I2 r1 r2 q2
theorem ID{op:Operator}{r:R2}(ho:k8 X (binaryOp op) r)(ha:PE X a ta)(hb:PE X b tb):PE X (.BinOp a op b pos) (Mg r ta tb):=by
 intro pins s σ H Q I h;exact wpAny_BinOp (Lx ha hb I h fun v u s2 x y H2 I2 rx ry q=>ho pins s2 σ H2 x y v u Q I2 rx ry q)
theorem MN(ho:Np X (unaryOp op) r)(ha:PE X a ta):PE X (.UnaryOp op a pos) (Pw r ta):=by
 intro pins s σ H Q I h;exact UnaryOp_ (cN (ha pins s σ H _ I h) fun v s1 ⟨x,H1,I1,r1,q1⟩=>ho pins s1 σ H1 x v Q I1 r1 q1)
theorem NM{f:Value->Value->Sem Value}{C:Int->Int->Prop}{g:Int->Int->Int}
  (rule:∀(i j:Int)(t u:Tok)(s:Shared)(Q:Value->Shared->Prop)(E:Value->Shared->Prop),C i j->Q (.int (g i j) s.toks) {s with toks:=s.toks+1}->wpAny (model X.prog X.w) X.A (f (.int i t) (.int j u)) Q E s):
  k8 X f (rI C fun i j=>.int (g i j)):=by
 intro pins s σ H x y v u Q I rx ry h;obtain⟨i,j,rfl,rfl,hc,q⟩:=h;obtain⟨t,rfl⟩:=rx;obtain⟨t',rfl⟩:=ry;exact rule i j t t' s _ _ hc ⟨.int (g i j),H,I.tok _,⟨_,rfl⟩,q⟩
theorem KA{f:Value->Value->Sem Value}{g:Int->Int->Int}
  (rule:∀(i j:Int)(t u:Tok)(s:Shared)(Q:Value->Shared->Prop)(E:Value->Shared->Prop),Q (.int (g i j) s.toks) {s with toks:=s.toks+1}->wpAny (model X.prog X.w) X.A (f (.int i t) (.int j u)) Q E s):
  k8 X f (D7 fun i j=>.int (g i j)):=by
 intro pins s σ H x y v u Q I rx ry h;obtain⟨i,j,rfl,rfl,q⟩:=h;obtain⟨t,rfl⟩:=rx;obtain⟨t',rfl⟩:=ry;exact rule i j t t' s _ _ ⟨.int (g i j),H,I.tok _,⟨_,rfl⟩,q⟩
theorem Hi{f:Value->Value->Sem Value}{g:Int->Int->Bool}
  (rule:∀(i j:Int)(t u:Tok)(s:Shared)(Q:Value->Shared->Prop)(E:Value->Shared->Prop),Q (.bool (g i j)) s->wpAny (model X.prog X.w) X.A (f (.int i t) (.int j u)) Q E s):
  k8 X f (D7 fun i j=>.bl (g i j)):=by
 intro pins s σ H x y v u Q I rx ry h;obtain⟨i,j,rfl,rfl,q⟩:=h;obtain⟨t,rfl⟩:=rx;obtain⟨t',rfl⟩:=ry;exact rule i j t t' s _ _ ⟨.bl (g i j),H,I,rfl,q⟩
def O5(i j:Int):Prop:=0≤j∧j≤1000000∧i.natAbs < 2^64
def LM(i j:Int):Prop:=(-(2^64) < i∧i < 2^64)∨(-(2^64) < j∧j < 2^64)
theorem LM.ok(h:LM i j):IntMulOk i j:=by
 rcases h with⟨h1,h2⟩ |⟨h1,h2⟩
 ·exact .of_left (intBits_le_64 h1 h2)
 ·exact .of_right (intBits_le_64 h1 h2)
theorem Kz:k8 X (binaryOp .Add) (D7 fun i j=>.int (i+j)):=KA fun _ _ _ _ _ _ _ q=>add_int q
theorem Kt:k8 X (binaryOp .Sub) (D7 fun i j=>.int (i-j)):=KA fun _ _ _ _ _ _ _ q=>sub_int q
theorem Kw:k8 X (binaryOp .Mult) (rI LM fun i j=>.int (i*j)):=NM fun _ _ _ _ _ _ _ hc q=>mul_int q hc.ok
theorem Kx:k8 X (binaryOp .Mod) (rI (fun _ j=>0 < j) fun i j=>.int (i % j)):=NM fun i j _ _ _ _ _ hc q=>by
 have h1:(0:Int) < j:=hc;exact mod_int' (by lia) (by rw[Int.fmod_eq_emod_of_nonneg i (by lia)];exact q)
theorem Kv:k8 X (binaryOp .Pow) (rI O5 fun i j=>.int (i^j.toNat)):=NM fun _ _ _ _ _ _ _ hc q=>pow_int_small hc.1 hc.2.1 hc.2.2 q
theorem HA:k8 X (inplaceOp .Sub) (D7 fun i j=>.int (i-j)):=KA fun _ _ _ _ _ _ _ q=>isub_int q
theorem Pu{f:Value->Sem Value}{g:Int->Int}
  (rule:∀(i:Int)(t:Tok)(s:Shared)(Q:Value->Shared->Prop)(E:Value->Shared->Prop),Q (.int (g i) s.toks) {s with toks:=s.toks+1}->wpAny (model X.prog X.w) X.A (f (.int i t)) Q E s):
  Np X f (rU fun i=>.int (g i)):=by
 intro pins s σ H x v Q I rx h;obtain⟨i,rfl,q⟩:=h;obtain⟨t,rfl⟩:=rx;exact rule i t s _ _ ⟨.int (g i),H,I.tok _,⟨_,rfl⟩,q⟩
theorem I9:Np X (unaryOp .USub) (rU fun i=>.int (-i)):=Pu fun _ _ _ _ _ q=>neg_int q
theorem Lb(I:Inv X pins σ H s)(q:Q (.bl k) H)(e:k=k'):EP X pins σ Q (.bool k') s:=by
 subst e;exact⟨.bl k,H,I,rfl,q⟩
theorem MU:k8 X (compareOp .Lt) (D7 fun i j=>.bl (decide (i < j))):=Hi fun _ _ _ _ _ _ _ q=>lt_int q
theorem MV:k8 X (compareOp .LtE) (D7 fun i j=>.bl (decide (i≤j))):=Hi fun _ _ _ _ _ _ _ q=>le_int q
theorem MW:k8 X (compareOp .Gt) (D7 fun i j=>.bl (decide (j < i))):=Hi fun _ _ _ _ _ _ _ q=>gt_int q
theorem MX:k8 X (compareOp .GtE) (D7 fun i j=>.bl (decide (j≤i))):=Hi fun _ _ _ _ _ _ _ q=>ge_int q
theorem Ky:k8 X (compareOp .Is) (fun x y H Q=>y=.cC∧Q (.bl (decide (x=.cC))) H):=by
 intro pins s σ H x y v u Q I rx ry h;obtain⟨rfl,q⟩:=h;cases ry;refine is_none_gen (Lb I q ?_);cases x <;> first
  |(cases rx;rfl)
  |(obtain⟨t,rfl⟩:=rx;rfl)
theorem aC(b:Expr)(h:op≠.In:=by decide)(h2:op≠.NotIn:=by decide):behindInMarks op b=false:=by
 have e1:(op==CmpOp.In)=false:=by cases op <;> first | rfl | exact absurd rfl h
 have e2:(op==CmpOp.NotIn)=false:=by cases op <;> first | rfl | exact absurd rfl h2
 cases b <;> simp[behindInMarks,e1,e2]
theorem G9{op:CmpOp}{r:R2}(ho:k8 X (compareOp op) r)(ha:PE X a ta)(hb:PE X b tb)(hm:behindInMarks op b=false):PE X (.Compare a [op] [b] pos) (Mg r ta tb):=by
 intro pins s σ H Q I h;exact wpAny_Compare1 (Lx ha hb I h fun v u s2 x y H2 I2 rx ry q=>ho pins s2 σ H2 x y v u Q I2 rx ry q) hm
def Iu(t:TE):TT:=fun σ H Q=>t σ H fun x H'=>∃k,x=.bl k∧Q k H'
theorem GS(ho:k8 X (compareOp op) r)(ha:PE X a ta)(hb:PE X b tb)(hm:behindInMarks op b=false):PT X (.Compare a [op] [b] pos) (Iu (Mg r ta tb)):=by
 intro pins s σ H Q I h;refine wpAny_isTrue_Compare1 (cN (ha pins s σ H _ I h) fun v s1 ⟨x,H1,I1,r1,q1⟩=>cN (hb pins s1 σ H1 _ I1 q1) fun u s2 ⟨y,H2,I2,r2,q2⟩=>
  cN (ho pins s2 σ H2 x y v u _ I2 r1 r2 q2) fun c s3 ⟨z,H3,I3,r3,k,e,q3⟩=>?_) hm
 subst e;cases r3;exact Rk ⟨H3,I3,q3⟩
def zh(r r':R2)(ta tb tc:TE):TE:=fun σ H Q=>ta σ H fun x H1=>tb σ H1 fun y H2=>r x y H2 fun z H3=>∃k,z=.bl k∧
 (if k=true then tc σ H3 fun w' H4=>r' y w' H4 Q else Q (.bl false) H3)
theorem Et(ho:k8 X (compareOp op) r)(ho':k8 X (compareOp op') r')(ha:PE X a ta)(hb:PE X b tb)(hc:PE X c tc)(hm:lastMarks [op,op'] [b,c]=false:=by with_unfolding_all rfl):PE X (.Compare a [op,op'] [b,c] pos) (zh r r' ta tb tc):=by
 intro pins s σ H Q I h;refine Compare_chain (cN (ha pins s σ H _ I h) fun v s1 ⟨x,H1,I1,r1,q1⟩=>chain_link (cN (hb pins s1 σ H1 _ I1 q1) fun u s2 ⟨y,H2,I2,r2,q2⟩=>
  cN (ho pins s2 σ H2 x y v u _ I2 r1 r2 q2) fun d s3 ⟨z,H3,I3,r3,k,e,q3⟩=>?_)) hm
 subst e;cases r3;refine Rk ?_;cases k with
 | false=>exact ite_ff ⟨.bl false,H3,I3,rfl,q3⟩
 | true=>exact ite_tt (chain_last (cN (hc pins s3 σ H3 _ I3 q3) fun w' s4 ⟨z',H4,I4,r4,q4⟩=>ho' pins s4 σ H4 y z' u w' Q I4 r2 r4 q4))
theorem Ee(ho:k8 X (compareOp op) r)(ho':k8 X (compareOp op') r')(ha:PE X a ta)(hb:PE X b tb)(hc:PE X c tc)(hm:lastMarks [op,op'] [b,c]=false:=by with_unfolding_all rfl):PT X (.Compare a [op,op'] [b,c] pos) (Iu (zh r r' ta tb tc)):=by
 intro pins s σ H Q I h;refine isTrue_chain (cN (ha pins s σ H _ I h) fun v s1 ⟨x,H1,I1,r1,q1⟩=>test_link (cN (hb pins s1 σ H1 _ I1 q1) fun u s2 ⟨y,H2,I2,r2,q2⟩=>
  cN (ho pins s2 σ H2 x y v u _ I2 r1 r2 q2) fun d s3 ⟨z,H3,I3,r3,k,e,q3⟩=>?_)) hm
 subst e;cases r3;refine Rk ?_;cases k with
 | false=>
  obtain⟨k',e',q'⟩:=q3;cases e';exact ite_ff ⟨H3,I3,q'⟩
 | true=>
  refine ite_tt (test_last (cN (hc pins s3 σ H3 _ I3 q3) fun w' s4 ⟨z',H4,I4,r4,q4⟩=>cN (ho' pins s4 σ H4 y z' u w' _ I4 r2 r4 q4) fun d' s5 ⟨z2,H5,I5,r5,k2,e2,q5⟩=>?_));subst e2;cases r5;exact Rk ⟨H5,I5,q5⟩
def LC(K:FR)(x:V)(H:Hp)(k:Bool):Prop:=
 match x with
 | .cC=>k=false
 | .bl b=>k=b
 | .int i=>k=(i !=0)
 | .str y=>y.length≤sizeLine∧k=((y.length:Int) !=0)
 | .byt y=>y.size≤sizeLine∧k=((y.size:Int) !=0)
 | .ref p=>(∃xs,gA K H p xs∧k=!xs.isEmpty)∨(∃xs,ko K H p xs∧k=!xs.isEmpty)∨∃kvs,H p=some (.dK kvs)∧k=!kvs.isEmpty
 | _=>False
theorem z6(r:KV kvs vs):(!vs.isEmpty)=!kvs.isEmpty:=by
 cases r <;> rfl
theorem sm(r:Vals xs its):(!its.toArray.isEmpty)=!xs.isEmpty:=by
 cases r <;> simp
theorem l9:(sizeLine:Nat) < 2^63:=by rw[QL];decide
theorem Jd:OY X (fun x H Q=>∃k,LC X.K x H k∧Q k H):=by
 intro pins s σ H x v Q I rx h;obtain⟨k,e,q⟩:=h;have hl:=l9;have hs:sizeLine=16777216:=QL;cases x with
 | cC=>
  cases rx;have e':k=false:=e;subst e';exact truthy_none ⟨H,I,q⟩
 | bl b=>
  cases rx;have e':k=b:=e;subst e';exact Rk ⟨H,I,q⟩
 | int i=>
  obtain⟨t,rfl⟩:=rx;have e':k=(i !=0):=e;subst e';exact PySem.P.truthy_int ⟨H,I,q⟩
 | str y=>
  obtain⟨t,rfl⟩:=rx;obtain⟨hy,e'⟩:y.length≤sizeLine∧k=((y.length:Int) !=0):=e;subst e';exact PySem.P.truthy_str (by lia) ⟨H,I.tok _,q⟩
 | byt y=>
  obtain⟨t,rfl⟩:=rx;obtain⟨hy,e'⟩:y.size≤sizeLine∧k=((y.size:Int) !=0):=e;subst e';exact PySem.W.truthy_bytes (by lia) ⟨H,I.tok _,q⟩
 | ref p=>
  cases rx;have e':(∃xs,gA X.K H p xs∧k=!xs.isEmpty)∨(∃xs,ko X.K H p xs∧k=!xs.isEmpty)∨∃kvs,H p=some (.dK kvs)∧k=!kvs.isEmpty:=e;rcases e' with⟨xs,hx,e'⟩ |⟨xs,hx,e'⟩ |⟨kvs,hx,e'⟩
  ·subst e';obtain⟨its,r,pl,hz⟩:=I.list hx;have hlen:=r.length;exact wpAny_truthy_list pl.isList (by simp only[Qh];lia) ⟨H,I.tok _,by rw[sm r];exact q⟩
  ·subst e';obtain⟨its,r,pl,hz⟩:=I.tuple hx;have hlen:=r.length;exact truthy_tuple pl (by simp only[Qh];lia) ⟨H,I.tok _,by rw[sm r];exact q⟩
  ·subst e';obtain⟨hz,hS,vs,r,m⟩:kvs.length≤sizeLine∧(p==sysModules)=false∧∃vs,KV kvs vs∧s.heap.DictOf (aQ X.prog X.w) p vs:=I.bC p _ hx;have hlen:kvs.length=vs.length:=Paired.length r;exact wpAny_truthy_dict hS m (by lia) ⟨H,I.tok _,by rw[z6 r];exact q⟩
 | _=>exact(show False from e).elim
theorem Ed(ha:PE X a ta)(he:∀whole,isTrue a X.env whole=(do let v←whole;standAt a.pos;holding [v] (truthy v))):
  PT X a (fun σ H Q=>ta σ H fun x H'=>∃k,LC X.K x H' k∧Q k H'):=by
 intro pins s σ H Q I h;exact isTrue_plain (cN (ha pins s σ H _ I h) fun v s1 ⟨x,H1,I1,r1,q1⟩=>Jd pins s1 σ H1 x v Q I1 r1 q1) (he _)
theorem zG:k8 X (binaryOp .Add) (fun x y H Q=>∃i j,x=.str i∧y=.str j∧i.length+j.length≤sizeLine∧Q (.str (i++j)) H):=by
 intro pins s σ H x y v u Q I rx ry h;obtain⟨i,j,rfl,rfl,hz,q⟩:=h;obtain⟨t,rfl⟩:=rx;obtain⟨t',rfl⟩:=ry;exact add_str (fun t' tk=>⟨.str (i++j),H,I.tok _,⟨_,rfl⟩,q⟩) hz
theorem vals1(r:Vals [x] us):∃u,us=[u]∧RelV x u:=by
 cases r with
 | cons r1 r2=>cases r2;exact⟨_,rfl,r1⟩
theorem vals2(r:Vals [x,y] us):∃u w',us=[u,w']∧RelV x u∧RelV y w':=by
 cases r with
 | cons r1 r2=>
  cases r2 with
  | cons r3 r4=>cases r4;exact⟨_,_,rfl,r1,r3⟩
theorem FF:eN X (.builtin "abs") (fun xs H Q=>∃i,xs=[.int i]∧Q (.int (if i < 0 then -i else i)) H):=by
 intro pins s σ H xs us Q I r h;obtain⟨i,rfl,q⟩:=h;obtain⟨u,rfl,t,rfl⟩:=vals1 r;exact call_abs_int fun u tk=>⟨.int (if i < 0 then -i else i),H,I.tok _,⟨_,rfl⟩,q⟩
theorem C5(hc:X.calm=true):eN X (.builtin "max") (fun xs H Q=>∃i j,xs=[.int i,.int j]∧Q (.int (if j > i then j else i)) H):=by
 intro pins s σ H xs us Q I r h;obtain⟨i,j,rfl,q⟩:=h;obtain⟨u,w',rfl,⟨t,rfl⟩,⟨t',rfl⟩⟩:=vals2 r;refine max_two_ints (I.ok.hd hc) fun h' tk k=>⟨_,H,I.kept k,?_,q⟩
 by_cases hj:j > i
 ·rw[P7 hj,P7 hj];exact⟨_,rfl⟩
 ·rw[Qa hj,Qa hj];exact⟨_,rfl⟩
theorem C0(hc:X.calm=true):eN X (.builtin "min") (fun xs H Q=>∃i j,xs=[.int i,.int j]∧Q (.int (if j < i then j else i)) H):=by
 intro pins s σ H xs us Q I r h;obtain⟨i,j,rfl,q⟩:=h;obtain⟨u,w',rfl,⟨t,rfl⟩,⟨t',rfl⟩⟩:=vals2 r;refine min_two_ints (I.ok.hd hc) fun h' tk k=>⟨_,H,I.kept k,?_,q⟩
 by_cases hj:j < i
 ·rw[P7 hj,P7 hj];exact⟨_,rfl⟩
 ·rw[Qa hj,Qa hj];exact⟨_,rfl⟩
structure LL(h:Heap)(x dx C:Addr)(mA:Str->Option Value):Prop where
 obj:h.get? x=some (PySem.W.instObj C dx)
 ns:h.Ns1 dx mA
 ne:dx≠x
theorem Cn{h:Heap}{dx:Addr}{mA:Str->Option Value}(n:h.Ns1 dx mA):∃od,h.get? dx=some od∧∀name,PySem.W.lookIn name od=some (mA name):=by
 obtain⟨o,es,ep,ho,hd,hk,_,hm⟩:=n;refine⟨o,ho,fun name=>?_⟩;have e:=hm name;unfold nsFind findBy at e;rw[←Array.find?_toList] at e;unfold PySem.W.lookIn;rw[hd];dsimp only
 split
 ·rename_i y q;rw[q] at e;exact congrArg some e
 ·rename_i q;rw[q] at e;have a:es.toList.any (·.refKey)=false:=by
   rw[TJ];intro y hy;obtain⟨z,t,hkey⟩:=hk y (Ro.mp hy);simp[DictEntry.refKey,hkey]
  have a':¬es.toList.any (·.refKey)=true:=by rw[a];exact QZ
  rw[Qa a'];exact congrArg some e
theorem LL.look(I:LL h x dx C mA):∃od,PySem.W.InstAt h x (PySem.W.instObj C dx) C (some od)∧∀name,PySem.W.lookIn name od=some (mA name):=
 let⟨od,ho,hl⟩:=Cn I.ns
 ⟨od,⟨I.obj,rfl,rfl,ho⟩,hl⟩
section
variable {prog:Program} {w:World} {A:Around} {E:Value->Shared->Prop} {s:Shared} {K:FR} {x dx C f:Addr} {mA:Str->Option Value} {name:Str} {v:Value}
end
theorem tD.some_of(r:tD (some v) o):∃u,o=some u∧RelV v u:=by
 cases o with
 | none=>exact(show False from r).elim
 | some u=>exact⟨u,rfl,r⟩
theorem HC(bC:kS P w H h)(e:H a=some (.ins C dx fs)):∃mA,LL h a dx C mA∧(∀f,tD (fs.lookup f) (mA f))∧PySem.Within mA (fs.map (·.1))∧fs.length≤1000∧H dx=some (.own a):=by
 obtain⟨d,z,ne,ob,mA,n,r,q⟩:=(show cL P w H h a (.ins C dx fs) from bC a _ e);exact⟨mA,⟨ob,n,ne⟩,r,q,z,d⟩
structure O4(K:FR)(C:Addr):Prop where
 pg:PySem.W.plainGet K C Str.empty=true
 hd:PySem.W.hasDictIn K C=true
 po:PySem.W.plainOver K C=true
 sa:PySem.W.findIn K (.ref C) "__setattr__"=some (some (.builtin "object.__setattr__"))
theorem O4.get{K:FR}{C:Addr}(c:O4 K C)(f:Str):PySem.W.plainGet K C f=true:=c.pg
inductive nN(K:FR)(H:Hp):V->Value->Prop where
 | cC:nN K H .cC (.type "NoneType")
 | bl (x:Bool):nN K H (.bl x) (.type "bool")
 | int (i:Int):nN K H (.int i) (.type "int")
 | str (x:Str):nN K H (.str x) (.type "str")
 | LS (x:UInt64):nN K H (.LS x) (.type "float")
 | lst {a:Addr} {xs:List V} (e:H a=some (.lst xs)):nN K H (.ref a) (.type "list")
 | Bk {a:Addr} {o:Obj} {xs:List V} (e:H a=some (.Bk o (.lst xs))):nN K H (.ref a) (.type "list")
 | tup {a:Addr} {xs:List V} (e:H a=some (.tup xs)):nN K H (.ref a) (.type "tuple")
 | dK {a:Addr} {kvs:List (Key×V)} (e:H a=some (.dK kvs)):nN K H (.ref a) (.type "dict")
 | dT {a:Addr} {kvs:List (List Key×V)} (e:H a=some (.dT kvs)):nN K H (.ref a) (.type "dict")
 | ins {a C dx:Addr} {fs:List (Str×V)} (e:H a=some (.ins C dx fs)) (cl:O4 K C) (ha:PySem.W.findIn K (.ref C) "__class__"=some (some (.builtin "object.__class__")))
   (hn:PySem.W.specialIn K (.builtin "object.__class__") "__get__"=some (some (.builtin "getset_descriptor.__get__"))) (htk:PySem.W.takesIn K (.builtin "object.__class__")=some true)
   (hm:PySem.W.mroIn K C (.type "object")=some true):nN K H (.ref a) (.ref C)
theorem Cy(I:Inv X pins σ H s)(rx:RelV x u)(ty:nN X.K H x t)(e:PySem.W.kitOne X.K t c=some b)(h:∀tk,Q (.bool b) {s with toks:=tk}):
  wpAny (model X.prog X.w) A (call (.builtin "isinstance") [u,c]) Q E s:=by
 cases ty with
 | cC=>cases(show u=Value.none from rx);exact Rp PySem.W.kitx_none I.va True.intro e (fun z=>nomatch z) h
 | bl y=>cases(show u=Value.bool y from rx);exact Rp PySem.W.kitx_bool I.va True.intro e (fun z=>nomatch z) h
 | int i=>obtain⟨t,q⟩:=(show ∃t,u=Value.int i t from rx);cases q;exact Rp PySem.W.kitx_int I.va True.intro e (fun z=>nomatch z) h
 | str y=>obtain⟨t,q⟩:=(show ∃t,u=Value.str y t from rx);cases q;exact Rp PySem.W.kitx_str I.va True.intro e (fun z=>nomatch z) h
 | LS y=>obtain⟨t,q⟩:=(show ∃t,u=Value.float y t from rx);cases q;exact Rp PySem.W.kitx_float I.va True.intro e (fun z=>nomatch z) h
 | @lst a xs ea=>
  cases(show u=Value.ref a from rx);obtain⟨_,_,n,_,h1⟩:=(show cL X.prog X.w H s.heap a (.lst xs) from I.bC a _ ea);exact Rp VS I.va ⟨_,h1,rfl⟩ e (fun z=>nomatch z) h
 | @Bk a ob xs ea=>
  cases(show u=Value.ref a from rx);obtain⟨_,_,_,n,_,h1⟩:=(show cL X.prog X.w H s.heap a (.Bk ob (.lst xs)) from I.bC a _ ea);exact Rp VS I.va ⟨_,h1,rfl⟩ e (fun z=>nomatch z) h
 | @tup a xs ea=>
  cases(show u=Value.ref a from rx);obtain⟨_,_,_,p⟩:=(show cL X.prog X.w H s.heap a (.tup xs) from I.bC a _ ea);obtain⟨o,h1,h2,_⟩:=p;exact Rp VN I.va ⟨o,h1,h2⟩ e (fun z=>nomatch z) h
 | @dK a kvs ea=>
  cases(show u=Value.ref a from rx);obtain⟨_,_,vs,_,p⟩:=(show cL X.prog X.w H s.heap a (.dK kvs) from I.bC a _ ea);obtain⟨o,es,ep,h1,h2,_⟩:=p;exact Rp VT I.va ⟨o,h1,h2.1⟩ e (fun z=>nomatch z) h
 | @dT a kvs ea=>
  cases(show u=Value.ref a from rx);obtain⟨_,_,xs,_,o,es,ep,h1,h2,_⟩:=(show cL X.prog X.w H s.heap a (.dT kvs) from I.bC a _ ea);exact Rp VT I.va ⟨o,h1,h2.1⟩ e (fun z=>nomatch z) h
 | @ins a C dx fs ea cl ha hn htk hm=>
  cases(show u=Value.ref a from rx);obtain⟨mA,O,_⟩:=HC I.bC ea;obtain⟨od,J,_⟩:=O.look;exact Rp (PySem.W.kitx_own (cl.get _) cl.hd ha hn htk hm) I.va J e (fun z=>nomatch z) h
structure gZ(k:Nat)(A:Around):Prop where
 hd:A.handled=none
 dp:A.depth+3*k+5 < recursionLimit
 un:A.units+16*k+200 < cLine
theorem gZ.mono(r:gZ k A)(h:j≤k):gZ j A:=⟨r.hd,by have:=r.dp;lia,by have:=r.un;lia⟩
theorem gZ.deeper(r:gZ (k+1) A)(env:Env):gZ k (A.deeper env):=
 ⟨r.hd,by have:=r.dp;show A.depth+1+3*k+5 < _;lia,by have:=r.un;show A.units+3+16*k+200 < _;lia⟩
theorem gZ.depth(r:gZ k A):A.depth < recursionLimit:=by have:=r.dp;lia
theorem gZ.units(r:gZ k A):A.units+64 < cLine:=by have:=r.un;lia
def N7:TA:=fun _ H Q=>Q [] H
def Mm(ta:TE)(tr:TA):TA:=fun σ H Q=>ta σ H fun x H1=>tr σ H1 fun xs H2=>Q (x::xs) H2
theorem rT:PA X [] N7:=fun _ _ _ _ H Q I h=>Calls.spliced_nil ⟨[],H,I,.nil,h⟩
theorem mT(ha:PE X e te)(hr:PA X es t)(hs:starEach (e::es) X.env=(false,eval e X.env)::starEach es X.env:=by rfl):PA X (e::es) (Mm te t):=by
 intro pos pins s σ H Q I h;rw[hs];show wpAny _ _ (spliced ((false,eval e X.env)::backTo pos (starEach es X.env))) _ _ s;refine Calls.spliced_cons (cN (ha pins s σ H _ I h) fun u s1 ⟨x,H1,I1,r1,q1⟩=>?_);exact cN (hr pos pins s1 σ H1 _ I1 q1) fun us s2 ⟨xs,H2,I2,r2,q2⟩=>⟨x::xs,H2,I2,.cons r1 r2,q2⟩
def N4(t:TA):TE:=fun σ H Q=>t σ H fun xs H1=>xs.length≤sizeLine∧∀p,H1 p=none->Q (.ref p) (upd H1 p (.tup xs))
def N9(t:TA):TE:=fun σ H Q=>t σ H fun xs H1=>xs.length≤sizeLine∧∀p,H1 p=none->Q (.ref p) (upd H1 p (.lst xs))
theorem Kf{x1}(h:PA X es t):PE X (.Tuple es x1 pos) (N4 t):=by
 intro pins s σ H Q I hq;refine wpAny_Tuple_spliced (cN (h pos pins s σ H _ I hq) fun us s1 ⟨xs,H1,I1,r,z,q⟩=>⟨by rw[←r.length];exact z,?_⟩);have hf:H1 s1.heap.objs.size=none:=I1.bC.fresh (P8 _);refine⟨.ref s1.heap.objs.size,upd H1 s1.heap.objs.size (.tup xs),I1.laid (t':=s1.toks) (fun b u e=>P2 _ e) (P8 _) ?_,rfl,q _ hf⟩;exact⟨z,us,r,⟨_,Qg _ rfl,rfl,⟨_,rfl⟩,rfl⟩⟩
theorem Kl(h:PA X es t):PE X (.List es pos) (N9 t):=by
 intro pins s σ H Q I hq;refine wpAny_List_spliced (cN (h pos pins s σ H _ I hq) fun us s1 ⟨xs,H1,I1,r,z,q⟩=>⟨by rw[←r.length];exact z,?_⟩);have hf:H1 s1.heap.objs.size=none:=I1.bC.fresh (P8 _);refine⟨.ref s1.heap.objs.size,upd H1 s1.heap.objs.size (.lst xs),I1.laid (t':=s1.toks) (fun b u e=>P2 _ e) (P8 _) ?_,rfl,q _ hf⟩;exact⟨z,us,0,r,Qg _ rfl⟩
abbrev Sp:=List V->Hp->VK->XK->Prop
abbrev Io:=List Env->Hp->Shared->XK->Value->Shared->Prop
structure Il(P:Program)(w:World)(K:FR)(mg:Str->Option Value)(base:Heap)(A:Around)(outer:List Env)(s:Shared)(H:Hp):Prop where
 frames:A.frames=some outer
 mod:Mod K mg base
 bs:∀b o,base.get? b=some o->s.heap.get? b=some o∧H b=none
 IP:base.objs.size≤s.heap.objs.size
 sx:s.heap.FunFrames base outer
 LR:∀b∈Dn outer,H b=none
 bC:kS P w H s.heap
 bare:AllBare s.gens
def CE(outer:List Env)(P:Program)(w:World)(H:Hp)(s:Shared)(Q:VK)(u:Value)(s':Shared):Prop:=
 ∃v H',s'.os=s.os∧AllBare s'.gens∧Un (Dn outer) [] H H' s.heap s'.heap∧kS P w H' s'.heap∧RelV v u∧Q v H'
def CR(CX:Io)(outer:List Env)(P:Program)(w:World)(H:Hp)(s:Shared)(Q:VK)(E:XK)(r:Result)(s':Shared):Prop:=
 match r with
 | .ok (.ret u)=>CE outer P w H s Q u s'
 | .ok _=>False
 | .error e=>CX outer H s E e s'
structure bK(P:Program)(w:World)(K:FR)(mg:Str->Option Value)(base:Heap)(CX:Io)(k:Nat)(f:Addr)(fd:FuncData)(ps:List Str)(sp:Sp):Prop where
 len:∀vs H Q E,sp vs H Q E->vs.length=ps.length
 run:∀(A:Around)(outer:List Env)(s:Shared)(H:Hp)(args:Args)(us:List Value)(vs:List V)(Q:VK)(E:XK),gZ k A->Il P w K mg base A outer s H->BindsTo s fd args (ps.zip us)->Vals vs us->sp vs H Q E->
  codeAny (model P w) A (.call (.ref f) args) (CR CX outer P w H s Q E) s
theorem bK.imp{P:Program}{w:World}{K:FR}{mg:Str->Option Value}{base:Heap}{CX:Io}{k:Nat}{f:Addr}{fd:FuncData}{ps:List Str}{sp sp':Sp}(F:bK P w K mg base CX k f fd ps sp)
  (h:∀vs H Q E,sp' vs H Q E->sp vs H Q E):bK P w K mg base CX k f fd ps sp':=
 ⟨fun vs H Q E q=>F.len vs H Q E (h _ _ _ _ q),fun A outer s H args us vs Q E hr he hb hv hs=>F.run A outer s H args us vs Q E hr he hb hv (h _ _ _ _ hs)⟩
theorem Inv.OT(I:Inv X pins σ H s):Il X.prog X.w X.K X.mg X.base X.A X.stack s H:=
 ⟨I.ok.frames,I.ok.mod,I.bs,Qm I.ok.IP I.sz,I.stack,I.AN,I.bC,I.bare⟩
theorem Inv.after(I:Inv X pins σ H s)(h:CE X.stack X.prog X.w H s Q u s'):EP X pins σ Q u s':=by
 obtain⟨v,H',os,bare,un,bC,r,q⟩:=h;obtain⟨hh,g,d,t,os'⟩:=s';obtain rfl:os'=s.os:=os;exact⟨v,H',I.call (h':=hh) (g':=g) (d':=d) (t':=t) (ch:=[]) un bC bare (fun b z=>absurd z (by simp)),r,q⟩
def Mn(sp:Sp)(dvs:List V)(E:XK)(t:TA):TE:=fun σ H Q=>t σ H fun vs H1=>sp (vs++dvs) H1 Q E
def Binds(K:FR)(fd:FuncData)(ps:List Str)(ds:List Value):Prop:=
 ∀(s:Shared)(us:List Value),K.In s.heap->(us++ds).length=ps.length->BindsTo s fd ⟨us,[]⟩ (ps.zip (us++ds))
theorem Binds.all{K:FR}{fd:FuncData}{ps:List Str}(h:∀us:List Value,us.length=ps.length->bindArgs fd ⟨us,[]⟩=pure (ps.zip us)):Binds K fd ps []:=fun s us _ hl=>by
 rw[Ra] at hl ⊢;exact .of_eq (h us hl)
def Passes(CX:Io)(X:Cx)(E:XK):Prop:=∀(pins:List (Addr×Obj)) (σ:St) (H:Hp) (s:Shared) (e:Value) (s':Shared),Inv X pins σ H s->CX X.stack H s E e s'->X.xe e s'
theorem Jx(F:bK X.prog X.w X.K X.mg X.base CX k f fd ps sp)(hr:gZ k X.A)(hb:Binds X.K fd ps ds)(hd:Vals dvs ds)(hx:Passes CX X E)(I:Inv X pins σ H s)(r:Vals vs us)(h:sp (vs++dvs) H Q E):wpAny (model X.prog X.w) X.A (call (.ref f) us) (EP X pins σ Q) X.xe s:=by
 have r2:Vals (vs++dvs) (us++ds):=r.append hd;have hl:(us++ds).length=ps.length:=by rw[←r2.length];exact F.len _ _ _ _ h
 refine wpAny_call (SN (F.run X.A X.stack s H ⟨us,[]⟩ (us++ds) (vs++dvs) Q E hr I.OT (hb s us I.va hl) r2 h) fun r s' hq=>?_);cases r with
 | error e=>exact hx pins σ H s e s' I hq
 | ok fl=>
  cases fl with
  | ret u=>exact I.after hq
  | next=>exact False.elim hq
  | brk=>exact False.elim hq
  | cont=>exact False.elim hq
theorem Ha(F:bK X.prog X.w X.K X.mg X.base CX k f fd ps sp)(hr:gZ k X.A)(hg:Gl X x)(hm:X.mg x=some (.ref f))(hk:PySem.W.keepIn X.K (.ref f)=true)(hb:Binds X.K fd ps ds)(hd:Vals dvs ds)(hx:Passes CX X E)
  (ha:PA X (e::es) t) (hdb:(x==("__debug__":Str))=false:=by decide) (he:starEach (e::es) X.env=(false,eval e X.env)::starEach es X.env:=by rfl) (hpl:(backTo pos (starEach es X.env)).any (·.1)=false:=by rfl):
  PE X (.Call (.Name x p) (e::es) [] pos) (Mn sp dvs E t):=by
 intro pins s σ H Q I h;refine SX (qJ I hg hm ?_ hdb);refine PySem.W.callWith_K (h₀:=X.base) I.ok.mod.OP hk (cN (ha pos pins s σ H _ I h) fun us s1 ⟨vs,H1,I1,r,q⟩=>⟨I1.va,?_⟩) he hpl;exact Jx F hr hb hd hx I1 r q
structure aD(N P:List Str)(sc:Scope):Prop where
 kind:sc.kind=.function
 co:sc.isCoroutine=false
 gen:sc.isGenerator=false
 nd:N.Nodup
 pre:N.take P.length=P
 par:∀x∈P,sc.names.lookup x=some .local∨sc.names.lookup x=some .cell
 KG:∀y∈sc.names,y.2≠.free
theorem vo{kindOf:Str->Option NameKind}{x:Str}:∀{binds:List (Str×Value)} {m:Str->Option Value},(∀v,(x,v)∉binds)->bindL kindOf binds m x=m x
 | [],_,_=>rfl
 |(n,v)::r,m,h=>by
  unfold bindL;rw[vo fun w hw=>h w (Qc _ hw)]
  split
  ·have:x≠n:=by rintro rfl;exact h v Qe
   simp[this]
  ·rfl
theorem vq{kindOf:Str->Option NameKind}{x:Str}:∀{binds:List (Str×Value)} {m:Str->Option Value},(∀v,(x,v)∉binds)->bindC kindOf binds m x=m x
 | [],_,_=>rfl
 |(n,v)::r,m,h=>by
  unfold bindC;rw[vq fun w hw=>h w (Qc _ hw)]
  split
  ·rfl
  ·have:x≠n:=by rintro rfl;exact h v Qe
   simp[this]
theorem vp{kindOf:Str->Option NameKind}{x:Str}{v:Value}:∀{P:List Str} {vs:List Value} {i:Nat} {m:Str->Option Value},P.Nodup->P[i]?=some x->vs[i]?=some v->kindOf x=some .local->
  bindL kindOf (P.zip vs) m x=some v
 | [],_,_,_,_,h,_,_=>by simp at h
 | _::_,[],_,_,_,_,h,_=>by simp at h
 | p::P,w::vs,0,m,nd,h1,h2,hk=>by
  simp at h1 h2;subst h1;subst h2;show bindL kindOf ((p,w)::P.zip vs) m p=_;unfold bindL;rw[vo fun v hv=>(RW.mp nd).1 (UY hv).1,P7 hk];simp
 | p::P,w::vs,i+1,m,nd,h1,h2,hk=>by
  show bindL kindOf ((p,w)::P.zip vs) m x=_;unfold bindL;exact vp (i:=i) (RW.mp nd).2 (by simpa using h1) (by simpa using h2) hk
theorem vt{kindOf:Str->Option NameKind}{x:Str}{v:Value}:∀{P:List Str} {vs:List Value} {i:Nat} {m:Str->Option Value},P.Nodup->P[i]?=some x->vs[i]?=some v->kindOf x≠some .local->
  bindC kindOf (P.zip vs) m x=some v
 | [],_,_,_,_,h,_,_=>by simp at h
 | _::_,[],_,_,_,_,h,_=>by simp at h
 | p::P,w::vs,0,m,nd,h1,h2,hk=>by
  simp at h1 h2;subst h1;subst h2;show bindC kindOf ((p,w)::P.zip vs) m p=_;unfold bindC;rw[vq fun v hv=>(RW.mp nd).1 (UY hv).1,Qa hk];simp
 | p::P,w::vs,i+1,m,nd,h1,h2,hk=>by
  show bindC kindOf ((p,w)::P.zip vs) m x=_;unfold bindC;exact vt (i:=i) (RW.mp nd).2 (by simpa using h1) (by simpa using h2) hk
noncomputable def start(N:List Str)(vs:List V):St:=vs.map some++List.replicate (N.length-vs.length) none
abbrev An(CX:Io)(P:Program)(w:World)(K:FR)(mg:Str->Option Value)(base:Heap)(N:List Str)(qual:Str)(scope:Scope)(f:Addr)(cd:Value)(A:Around)(outer:List Env)(s:Shared)(H:Hp)(E:XK):Cx where
 prog:=P
 w:=w
 K:=K
 mg:=mg
 base:=base
 A:=A.deeper (envOfC qual scope s.heap.objs.size f cd)
 N:=N
 s₀:=s
 H₀:=H
 env:=envOfC qual scope s.heap.objs.size f cd
 outer:=outer
 stack:=envOfC qual scope s.heap.objs.size f cd::outer
 ex:=[]
 calm:=true
 fn:=fun _=>true
 pn:=[]
 xe:=fun e s'=>wpAny (model P w) (A.deeper (envOfC qual scope s.heap.objs.size f cd)) (leaving (envOfC qual scope s.heap.objs.size f cd) e) (fun _ s''=>CX outer H s E e s'') (fun e' s''=>CX outer H s E e' s'') s'
theorem yQ{sc:Scope}{n:Nat}{x:Str}(h:sc.names.lookup x=some .cell):∃c,(cellsFrom n sc.names []).lookup x=some c:=by
 have q:=Vl sc.names n [] (.inl h);exact Vd.mp q
theorem Cz{CX:Io}{P:Program}{w:World}{K:FR}{mg:Str->Option Value}{base:Heap}{N ps:List Str}{qual:Str}{scope:Scope}{f:Addr}{cd:Value}{A:Around}{outer:List Env}{s s1:Shared}{H:Hp}{E:XK}{us:List Value}{vs:List V}
  (S:aD N ps scope) (hd:A.handled=none) (e0:Il P w K mg base A outer s H) (hl:vs.length=ps.length) (r:Vals vs us)
  (x:InCallC s s.heap.objs.size (bindL (envOfC qual scope s.heap.objs.size f cd).kindOf (ps.zip us) fun _=>none) (cellsFrom (s.heap.objs.size+1) scope.names []) (bindC (envOfC qual scope s.heap.objs.size f cd).kindOf (ps.zip us) fun _=>none) s1):
  Inv (An CX P w K mg base N qual scope f cd A outer s H E) [] (start N vs) H s1:=by
 have hpl:ps.length≤N.length:=by have:=congrArg List.length S.pre;rw[Qy] at this;lia
 obtain⟨h1,tk,rfl,hk⟩:=x.done;have noA:∀b:Addr,b∉(An CX P w K mg base N qual scope f cd A outer s H E).ex:=fun b z=>absurd (show b∈([]:List Addr) from z) (by simp);refine⟨⟨e0.mod,S.kind,rfl,rfl,P8 _,fun y z c h1 h2=>?_,fun y hy=>?_,fun y c _ h=>?_,fun _=>hd,Around.frames_deeper e0.frames,.inr ⟨rfl,rfl⟩,fun b z=>absurd z (noA b),e0.bs,e0.IP,fun b _ _=>noA b,fun b z=>absurd z (noA b),e0.sx,e0.LR⟩,
  rfl,e0.bare,Un.kept hk,⟨_,x.toInCall.ns,fun i y v h1 h2 h3=>?_⟩,fun y c h=>⟨_,x.cell y c h⟩,e0.bC.fresh (P8 _),fun y c h=>?_,fun p hp=>absurd (show p∈([]:List (Addr×Obj)) from hp) (by simp),e0.bC.kept hk,?_⟩
 ·exact name_of_addr x.apart (RC h1) (RC h2)
 ·have hy:scope.names.lookup y=some .cell∨scope.names.lookup y=some .free:=hy;rcases hy with hy | hy
  ·exact yQ hy
  ·exact absurd rfl (S.KG _ (RC hy))
 ·exact UP (x.above y c (RC h))
 ·have hi:i < vs.length:=by
   unfold start at h2
   by_cases hi:i < vs.length
   ·exact hi
   ·rw[Qw (by simpa using hi)] at h2;rw[Sd] at h2
    split at h2 <;> cases h2
  have ha:vs[i]?=some v:=by
   unfold start at h2;rw[Qk (by simpa using hi),Qi] at h2;cases e:vs[i]? with
   | none=>rw[e] at h2;cases h2
   | some a=>rw[e] at h2;cases h2;rfl
  obtain⟨u,hu,rv⟩:=r.get ha;have hp:ps[i]?=some y:=by
   rw[←S.pre,QH (by lia)];exact h1
  have ndP:ps.Nodup:=by rw[←S.pre];exact S.nd.sublist (TC _ _)
  refine⟨u,rv,?_⟩;rcases S.par y (P6 hp) with k | k
  ·exact .inl ⟨k,vp ndP hp hu k⟩
  ·obtain⟨c,e⟩:=yQ (n:=s.heap.objs.size+1) k;refine .inr ⟨.inl k,c,e,?_⟩;have q:=x.cell y c e;rw[vt ndP hp hu (by show scope.names.lookup y≠_;rw[k];decide)] at q;exact q
 ·exact e0.bC.fresh (UP (x.above y c (RC h)))
 ·unfold start;show _=N.length;rw[Qb,P1,Vx]
  lia
theorem M7{CX:Io}{P:Program}{w:World}{K:FR}{mg:Str->Option Value}{base:Heap}{k:Nat}{f:Addr}{name qual:Str}{params:Arguments}{body:List Stmt}{scope:Scope}{dV kV doc pm cdv ct oc:Value}{an od:Option Addr}
  {osl:Array (Option Value)} {N ps:List Str} {sp:Sp} (lk:K.lookup f=some ⟨oc,od,.func (PySem.W.fnOf name qual params body scope dV kV doc pm an cdv ct),osl⟩) (hcd:PySem.W.codeIn K cdv qual=true) (S:aD N ps scope)
  (len:∀vs H Q E,sp vs H Q E->vs.length=ps.length)
  (hbody:∀(A:Around)(outer:List Env)(s:Shared)(H:Hp)(vs:List V)(Q:VK)(E:XK),gZ k (A.deeper (envOfC qual scope s.heap.objs.size f cdv))->sp vs H Q E->
   ∃t,y7 (An CX P w K mg base N qual scope f cdv A outer s H E) body t∧t {nx:=fun _ H'=>Q .cC H',rt:=Q} (start N vs) H):
  bK P w K mg base CX (k+1) f (PySem.W.fnOf name qual params body scope dV kV doc pm an cdv ct) ps sp:=by
 refine⟨len,fun A outer s H args us vs Q E hr e0 hb r hsp=>?_⟩;have hl:=len _ _ _ _ hsp;have KX:K.In s.heap:=e0.mod.OP.keeps fun b o e=>(e0.bs b o e).1;have lim:s.heap.NoLimit:=e0.mod.nolimit.keeps fun b o e=>(e0.bs b o e).1;have hkind:∀y∈ps.zip us,scope.names.lookup y.1=some .local∨(scope.names.lookup y.1=some .cell∧((cellsFrom (s.heap.objs.size+1) scope.names []).lookup y.1).isSome=true):=fun⟨n,v⟩ hy=>by
  rcases S.par n (UY hy).1 with q | q
  ·exact .inl q
  ·exact .inr ⟨q,Vl _ _ _ (.inl q)⟩
 refine codeAny_call_function hr.depth (KX _ _ lk) rfl S.co S.gen rfl (PySem.W.codeRec_of KX hcd) (hb _ _ _ _ ?_);refine wpAny_newFunctionEnv_cells S.kind hkind fun env he s1 x=>?_;subst he;refine⟨lim.keeps x.toInCall.keep,codeAny_func ?_⟩;obtain⟨t,ht,hq⟩:=hbody A outer s H vs Q E (hr.deeper _) hsp;have I:Inv (An CX P w K mg base N qual scope f cdv A outer s H E) [] (start N vs) H s1:=Cz S hr.hd e0 hl r x;refine Q5 (ht [] s1 (start N vs) H _ I hq) (fun fl s' hs=>?_) fun e s' hs=>hs;have fin:∀{σ':St} {H':Hp} {v:V} {u:Value},Inv (An CX P w K mg base N qual scope f cdv A outer s H E) [] σ' H' s'->RelV v u->Q v H'->CE outer P w H s Q u s':=
  fun {σ' H' v u} J rv q=>⟨v,H',J.os,J.bare,J.base,J.bC,rv,q⟩
 cases fl with
 | ret u=>
  obtain⟨v,σ',H',J,rv,q⟩:=hs;exact fin J rv q
 | next=>
  obtain⟨σ',H',J,q⟩:=hs;exact fin (v:=V.cC) (u:=Value.none) J rfl q
 | brk=>
  obtain⟨_,_,_,q⟩:=hs;exact False.elim q
 | cont=>
  obtain⟨_,_,_,q⟩:=hs;exact False.elim q
section
variable {X:Cx} {x:Str} {p pos:Pos} {e:Expr} {es:List Expr} {t:TA} {id T:String} {r:List V->Hp->VK->Prop}
def O9(r:List V->Hp->VK->Prop)(t:TA):TE:=fun σ H Q=>t σ H fun vs H1=>r vs H1 Q
theorem rQ(hc:eN X (.builtin id) r)(hg:Gl X x)(hm:X.mg x=none)(hv:bootBuiltins x=some (.builtin id))(ha:PA X (e::es) t)(hn:x≠"__name__":=by decide)(hdb:(x==("__debug__":Str))=false:=by decide)
  (he:starEach (e::es) X.env=(false,eval e X.env)::starEach es X.env:=by rfl) (hpl:(backTo pos (starEach es X.env)).any (·.1)=false:=by rfl):PE X (.Call (.Name x p) (e::es) [] pos) (O9 r t):=by
 intro pins s σ H Q I h;refine SX (j5 I hg hm hv ?_ hn hdb);exact PyProof.Rows.callWith_builtin1 (cN (ha pos pins s σ H _ I h) fun us s1 ⟨vs,H1,I1,r1,q1⟩=>hc pins s1 σ H1 vs us Q I1 r1 q1) he hpl
theorem kB(hc:eN X (.type T) r)(hg:Gl X x)(hm:X.mg x=none)(hv:bootBuiltins x=some (.type T))(ha:PA X (e::es) t)(hn:x≠"__name__":=by decide)(hdb:(x==("__debug__":Str))=false:=by decide)
  (he:starEach (e::es) X.env=(false,eval e X.env)::starEach es X.env:=by rfl) (hpl:(backTo pos (starEach es X.env)).any (·.1)=false:=by rfl):PE X (.Call (.Name x p) (e::es) [] pos) (O9 r t):=by
 intro pins s σ H Q I h;refine SX (j5 I hg hm hv ?_ hn hdb);exact Rz (cN (ha pos pins s σ H _ I h) fun us s1 ⟨vs,H1,I1,r1,q1⟩=>hc pins s1 σ H1 vs us Q I1 r1 q1) he hpl
end
end L2
namespace HT
open PySem PyProof.Rows
section
open PySem.SeqAt
open PySem.AutoSeq1 (wpAny_loadPart')
open PySem.MeetsSeq PySem.MeetsSeq2 PySem.MeetsSeq3
end
theorem HX(ht:IsTup s.heap t vs.toArray)(hb:IsTup s.heap b ws.toArray)(hv:vs≠[])(h1:ws=[]->Q (.ref t) s)(h2:ws≠[]->Q (.ref s.heap.objs.size) {s with heap:=s.heap.push {cls:=.type "tuple",data:=.seq (vs++ws).toArray}})(hsz:vs.length+ws.length≤sizeLine):wpAny (model prog w) A (binaryOp .Add (.ref t) (.ref b)) Q E s:=by
 obtain⟨⟨cls,dd,data,sl⟩,ho,hc,n,hd⟩:=id ht;obtain⟨⟨cls2,dd2,data2,sl2⟩,ho2,hc2,n2,hd2⟩:=id hb;simp only at hc hd hc2 hd2;subst hc hd hc2 hd2;have e:vs.toArray++ws.toArray=(vs++ws).toArray:=by simp
 by_cases hw:ws=[]
 ·exact concat_meets ⟨_,ho,rfl⟩ ⟨_,ho2,rfl⟩ Vb VM Uh T8 (TQ _ _)
   (tuple_addW1 t b vs.toArray ws.toArray n n2 dd dd2 sl sl2 (by simpa using hv) (by simp[hw])) ⟨ho,ho2,h1 hw⟩
 ·refine concat_meets ⟨_,ho,rfl⟩ ⟨_,ho2,rfl⟩ Vb VM Uh T8 (TQ _ _)
   (tuple_addW2 t b vs.toArray ws.toArray n n2 dd dd2 sl sl2 (by simpa using hv) (by simpa using hw) (by rw[Qh,Qh];exact hsz)) ⟨ho,ho2,?_⟩
  rw[e];exact h2 hw
noncomputable def dm(n d:Nat):Option Int->Nat
 | none=>d
 | some v=>if v < 0 then(v+(n:Int)).toNat else min v.toNat n
theorem DV(n d:Nat):dm n d none=d:=rfl
theorem Gw(n d k:Nat):dm n d (some (k:Int))=min k n:=by
 show(if(k:Int) < 0 then((k:Int)+(n:Int)).toNat else min (k:Int).toNat n)=min k n;rw[Qa (by lia),Qp]
theorem Jw(n d:Nat)(hd:d≤n)(o:Option Int):dm n d o≤n:=by
 cases o with
 | none=>exact hd
 | some v=>
  show(if v < 0 then(v+(n:Int)).toNat else min v.toNat n)≤n
  by_cases hv:v < 0
  ·rw[P7 hv];lia
  ·rw[Qa hv];exact Nat.min_le_right _ _
theorem Br(v:Int)(n d:Nat):(if v < 0 then max (v+(n:Int)) 0 else min v (n:Int))=((dm n d (some v):Nat):Int):=by
 show(if v < 0 then max (v+(n:Int)) 0 else min v (n:Int))=(((if v < 0 then(v+(n:Int)).toNat else min v.toNat n):Nat):Int)
 by_cases hv:v < 0
 ·simp only[P7 hv];lia
 ·simp only[Qa hv];lia
theorem AD(lo hi:Option Int)(n:Nat):Builtin.Slice.sliceAdjust lo hi 1 (n:Int)=(((dm n 0 lo:Nat):Int),((dm n n hi:Nat):Int)):=by
 have h1:¬((1:Int) < 0):=by lia
 unfold Builtin.Slice.sliceAdjust;simp only[h1,RO];refine Prod.ext ?_ ?_
 ·cases lo with
  | none=>rfl
  | some v=>exact Br v n 0
 ·cases hi with
  | none=>rfl
  | some v=>exact Br v n n
theorem zE(i j:Nat):Builtin.Slice.slicePlaces (i:Int) (j:Int) 1=j-i:=by
 unfold Builtin.Slice.slicePlaces;have h1:(1:Int) > 0:=by lia
 simp only[h1,SR,Vt]
 split <;> lia
theorem qY(p:IsPart v o)(h:Q o s):wpAny (model prog w) A (Builtin.Slice.slicePartIndex v) Q E s:=by
 cases p with
 | none=>exact slicePart_none h
 | int i t=>exact slicePart_int h
theorem iD{sl:Addr}{vl vu:Value}{lo hi:Option Int}{n:Nat}{Q:Int×Int×Nat->Shared->Prop}(hs:s.heap.IsSliceOf sl vl vu .none)(pl:IsPart vl lo)(pu:IsPart vu hi)
  (h:Q (((dm n 0 lo:Nat):Int),1,dm n n hi-dm n 0 lo) s):wpAny (model prog w) A (Builtin.Slice.sliceApplied (.ref sl) (pure (n:Int))) Q E s:=by
 obtain⟨os,hos,hcs,hds⟩:=id hs;unfold Builtin.Slice.sliceApplied Builtin.Slice.sliceFields;refine PZ (PZ (Q8 hos hds (x:=vl) rfl (PZ (Q8 hos hds (x:=vu) rfl (PZ (Q8 hos hds (x:=.none) rfl (P5 ?_)))))));refine PZ (slicePart_none ?_);show wpAny _ _ (if((1:Int)==0)=true then _ else _) _ _ s;rw[Qa (by decide)];refine PZ (qY pl (PZ (qY pu (PZ (P5 ?_)))));show wpAny _ _ (match Builtin.Slice.sliceAdjust lo hi 1 (n:Int) with |(lo,hi)=>pure (lo,(1:Int),Builtin.Slice.slicePlaces lo hi 1)) _ _ s;rw[AD lo hi n];show wpAny _ _ (pure (((dm n 0 lo:Nat):Int),(1:Int),Builtin.Slice.slicePlaces ((dm n 0 lo:Nat):Int) ((dm n n hi:Nat):Int) 1)) _ _ s;rw[zE];exact P5 h
theorem El(xs:Array Value)(i k:Nat):((List.range k).filterMap fun(m:Nat)=>xs[((i:Int)+(m:Int)*1).toNat]?).toArray=((xs.toList.drop i).take k).toArray:=by
 have e:(fun(m:Nat)=>xs[((i:Int)+(m:Int)*1).toNat]?)=fun m=>xs[i+m]?:=by
  funext m
  have:((i:Int)+(m:Int)*1).toNat=i+m:=by lia
  rw[this]
 rw[e];have:=pick_run xs i k;rw[Tv] at this;have e2:((fun x=>xs[x]?)∘fun x=>i+x)=fun m=>xs[i+m]?:=rfl;rw[e2] at this;rw[this]
theorem ni{t sl:Addr}{items:Array Value}{vl vu:Value}{lo hi:Option Int}{Q:Value->Shared->Prop}(ht:IsTup s.heap t items)(hs:s.heap.IsSliceOf sl vl vu .none)(pl:IsPart vl lo)(pu:IsPart vu hi)
  (hw:¬(dm items.size 0 lo=0∧dm items.size items.size hi=items.size))
  (h:Q (.ref s.heap.objs.size) {s with heap:=s.heap.push {cls:=.type "tuple",data:=.seq ((items.toList.drop (dm items.size 0 lo)).take (dm items.size items.size hi-dm items.size 0 lo)).toArray}})
  (hsz:items.size≤sizeLine):wpAny (model prog w) A (getItem (.ref t) (.ref sl)) Q E s:=by
 have htake:sizeOk (.seq ((items.toList.drop (dm items.size 0 lo)).take (dm items.size items.size hi-dm items.size 0 lo)).toArray):=by
  show((items.toList.drop (dm items.size 0 lo)).take (dm items.size items.size hi-dm items.size 0 lo)).toArray.size≤sizeLine;rw[Qh,Qy,Ta,RE]
  lia
 have hj:dm items.size items.size hi≤items.size:=Jw _ _ (P8 _) hi;obtain⟨os,hos,hcs,hds⟩:=id hs;have hTs:s.TypeIs (.ref sl) "slice":=⟨os,hos,hcs⟩;unfold getItem
 try with_reducible refine QW ?_
 first | refine PZ (P5 ?_) | skip
 refine PZ (wpAny_sequenceKey ht.typeIs (by decide) ?_);refine PZ (Q2 (name:=Str.ofString "__getitem__") ht.typeIs Rg
  (Q0 Rg ht.typeIs entry_tuple_getitem ?_ (args_tuple_getitem _ _)))
 show wpAny _ _ (Builtin.Tuple.tupleItemsOf (.ref t) >>=_) _ _ s;refine PZ (tupleItemsOf_ ht ?_);refine PZ (TN hTs ?_);rw[P7 (by decide)];refine PZ (iD hs pl pu ?_);have hno:¬((((dm items.size 0 lo:Nat):Int)==0&&(1:Int)==1&&(dm items.size items.size hi-dm items.size 0 lo)==items.size)=true):=by
  intro q;rw[Qq,Qq] at q;have q1:((dm items.size 0 lo:Nat):Int)=0:=eq_of_beq q.1.1;have q2:dm items.size items.size hi-dm items.size 0 lo=items.size:=eq_of_beq q.2;exact hw ⟨by lia,by lia⟩
 show wpAny _ _ (if(((dm items.size 0 lo:Nat):Int)==0&&(1:Int)==1&&(dm items.size items.size hi-dm items.size 0 lo)==items.size)=true then _ else _) _ _ s;rw[Qa hno,El]
 first
  | exact PZ (m:=Builtin.Tuple.tupleExact _) (Q1 (P5 ⟨_,rfl,P5 h⟩) htake)
  | exact PZ (m:=Builtin.Tuple.tupleExact _) (Q1 (PZ (P5 (P5 ⟨_,rfl,P5 h⟩))) htake)
  | exact PZ (PZ (m:=Builtin.Tuple.tupleExact _) (Q1 (P5 (P5 ⟨_,rfl,P5 h⟩)) htake))
  | exact PZ (PZ (m:=Builtin.Tuple.tupleExact _) (Q1 (P5 ⟨_,rfl,P5 h⟩) htake))
end HT
namespace L2
open PySem PySem.Spec PyProof.Rows
abbrev TO:=St->Hp->(Option Int->Hp->Prop)->Prop
def PO(X:Cx)(e:Option Expr)(t:TO):Prop:=
 ∀(pins:List (Addr×Obj)) (s:Shared) (σ:St) (H:Hp) (Q:Option Int->Hp->Prop),Inv X pins σ H s->t σ H Q->
  wpAny (model X.prog X.w) X.A (evalPart e X.env) (fun u s'=>∃o H',Inv X pins σ H' s'∧IsPart u o∧Q o H') X.xe s
noncomputable def Gn:TO:=fun _ H Q=>Q none H
def Me(t:TE):TO:=fun σ H Q=>t σ H fun x H1=>∃i,x=.int i∧Q (some i) H1
theorem intsAre_of:∀{us:List Value},Vals (ns.map V.int) us->IntsAre us ns:=by
 induction ns with
 | nil=>intro us r;rw[Sh] at r;cases r;exact .nil
 | cons n ns ih=>
  intro us r;rw[Qd] at r;cases r with
  | cons r1 r2=>
   obtain⟨t,e⟩:=r1;subst e;exact .cons n t (ih r2)
section
variable {X:Cx} {e:Expr} {te:TE} {lo hi:Option Expr} {tl th:TO} {pos p2:Pos}
theorem G0:PO X none Gn:=by
 intro pins s σ H Q I h;rw[evalPart_none];exact P5 ⟨none,H,I,.none,h⟩
theorem GZ(h:PE X e te):PO X (some e) (Me te):=by
 intro pins s σ H Q I hw;rw[evalPart_some];refine cN (h pins s σ H _ I hw) fun u s1 ⟨x,H1,I1,r1,q1⟩=>?_;obtain⟨i,rfl,q⟩:=q1;obtain⟨t,rfl⟩:=r1;exact⟨some i,H1,I1,.int i t,q⟩
def LF(X:Cx)(r:V->Option Int->Option Int->Hp->VK->Prop):Prop:=
 ∀(pins:List (Addr×Obj)) (s:Shared) (σ:St) (H:Hp) (x:V) (v vl vu:Value) (lo hi:Option Int) (sl:Addr) (Q:VK),Inv X pins σ H s->RelV x v->s.heap.IsSliceOf sl vl vu .none->IsPart vl lo->IsPart vu hi->r x lo hi H Q->
  ∃T id,typeLookup (.type T) "__getitem__"=pure (some (.builtin id))∧s.TypeIs v T∧wpAny (model X.prog X.w) X.A (getItem v (.ref sl)) (EP X pins σ Q) X.xe s
def Px(r:V->Option Int->Option Int->Hp->VK->Prop)(te:TE)(tl th:TO):TE:=fun σ H Q=>te σ H fun x H1=>tl σ H1 fun l H2=>th σ H2 fun u H3=>r x l u H3 Q
theorem Eo(hr:LF X r)(he:PE X e te)(hl:PO X lo tl)(hu:PO X hi th):PE X (.Subscript e (.Slice lo hi none p2) pos) (Px r te tl th):=by
 intro pins s σ H Q I h;refine Subscript_ (cN (he pins s σ H _ I h) fun v s1 ⟨x,H1,I1,r1,q1⟩=>?_);refine wpAny_Slice (cN (hl pins s1 σ H1 _ I1 q1) fun vl s2 ⟨l,H2,I2,pl,q2⟩=>cN (hu pins s2 σ H2 _ I2 q2) fun vu s3 ⟨u,H3,I3,pu,q3⟩=>?_);rw[evalPart_none];refine P5 ?_;have I4:Inv X pins σ H3 {s3 with heap:=s3.heap.push {cls:=.type "slice",data:=.fields #[vl,vu,.none]}}:=I3.kept (t':=s3.toks) fun b ob q=>P2 _ q;obtain⟨T,id,hT,ht,hg⟩:=hr pins {s3 with heap:=s3.heap.push {cls:=.type "slice",data:=.fields #[vl,vu,.none]}} σ H3 x v vl vu l u s3.heap.objs.size Q I4 r1 (Heap.IsSliceOf.new ..) pl pu q3;show wpAny (model X.prog X.w) X.A (subscriptTail e (.Slice lo hi none p2) v (.ref s3.heap.objs.size)) (EP X pins σ Q) X.xe {s3 with heap:=s3.heap.push {cls:=.type "slice",data:=.fields #[vl,vu,.none]}};exact tail_any (ops:=[.ref s3.heap.objs.size,v]) ht hT hg (by with_unfolding_all rfl)
noncomputable def sG(xs:List V)(lo hi:Option Int):List V:=(xs.drop (HT.dm xs.length 0 lo)).take (HT.dm xs.length xs.length hi-HT.dm xs.length 0 lo)
theorem pU(xs:List V)(lo hi:Option Int):(sG xs lo hi).length≤xs.length:=by
 unfold sG;rw[Qy,Ta]
 lia
def Ow(K:FR):V->Option Int->Option Int->Hp->VK->Prop:=fun x lo hi H Q=>∃a xs,x=.ref a∧ko K H a xs∧
 ¬(HT.dm xs.length 0 lo=0∧HT.dm xs.length xs.length hi=xs.length)∧∀p,H p=none->Q (.ref p) (upd H p (.tup (sG xs lo hi)))
theorem Jn:LF X (Ow X.K):=by
 intro pins s σ H x v vl vu lo hi sl Q I rx hs pl pu h;obtain⟨a,xs,rfl,hx,hw,q⟩:=h;cases rx;obtain⟨its,r,ht,hz⟩:=I.tuple hx;have hlen:its.toArray.size=xs.length:=by rw[Qh];exact r.length.symm
 refine⟨"tuple",_,Rg.lookup,ht.typeIs,?_⟩;refine HT.ni ht hs pl pu (by rw[hlen];exact hw) ?_ (by rw[hlen];exact hz);rw[hlen];refine⟨.ref s.heap.objs.size,_,I.laid (t':=s.toks) (o:=.tup (sG xs lo hi)) (fun b ob q=>P2 _ q) (P8 _) ?_,rfl,q _ (I.bC.fresh (P8 _))⟩;exact⟨Qm (pU xs lo hi) hz,_,(r.drop (HT.dm xs.length 0 lo)).take (HT.dm xs.length xs.length hi-HT.dm xs.length 0 lo),xA.new _ _⟩
def MJ(K:FR):R2:=fun x y H Q=>∃a b xs ys,x=.ref a∧y=.ref b∧ko K H a xs∧ko K H b ys∧xs≠[]∧xs.length+ys.length≤sizeLine∧
 (ys=[]->Q (.ref a) H)∧(ys≠[]->∀p,H p=none->Q (.ref p) (upd H p (.tup (xs++ys))))
theorem Vals.qH(r:Vals xs us):us=[]↔xs=[]:=by
 cases r with
 | nil=>simp
 | cons _ _=>simp
theorem Hh:k8 X (binaryOp .Add) (MJ X.K):=by
 intro pins s σ H x y v u Q I rx ry h;obtain⟨a,b,xs,ys,rfl,rfl,ha,hb,hx,hz,q1,q2⟩:=h;cases rx;cases ry;obtain⟨its,r1,p1,_⟩:=I.tuple ha;obtain⟨its2,r2,p2,_⟩:=I.tuple hb;refine HT.HX p1 p2 (fun z=>hx (r1.qH.mp z)) (fun z=>⟨.ref a,H,I,rfl,q1 (r2.qH.mp z)⟩) (fun z=>?_) (by rw[←r1.length,←r2.length];exact hz);refine⟨.ref s.heap.objs.size,_,I.laid (t':=s.toks) (o:=.tup (xs++ys)) (fun b ob q=>P2 _ q) (P8 _) ?_,rfl,q2 (fun w=>z (r2.qH.mpr w)) _ (I.bC.fresh (P8 _))⟩;exact⟨by rw[Qb];exact hz,_,r1.append r2,xA.new _ _⟩
end
noncomputable def wN(n:Nat)(i:Int):Option Nat:=if 0≤i then(if i < n then some i.toNat else none) else if -(n:Int)≤i then some (i+n).toNat else none
noncomputable def iz{α:Type}(xs:List α)(i:Int):Option α:=(wN xs.length i).bind fun j=>xs[j]?
theorem Bd(h:wN n i=some j):seqIndex? i n=some j∧j < n∧-(n:Int)≤i∧i < n:=by
 unfold wN at h
 by_cases h0:0≤i
 ·rw[P7 h0] at h
  by_cases h1:i < n
  ·rw[P7 h1] at h;have e:i.toNat=j:=Option.some.inj h;exact⟨by rw[seqIndex_of h0 h1,e],by lia,by lia,h1⟩
  ·rw[Qa h1] at h;cases h
 ·rw[Qa h0] at h
  by_cases h1:-(n:Int)≤i
  ·rw[P7 h1] at h;have e:(i+n).toNat=j:=Option.some.inj h;exact⟨by rw[seqIndex_neg (by lia) h1,e],by lia,h1,by lia⟩
  ·rw[Qa h1] at h;cases h
theorem qQ(h:iz xs i=some v):∃j,seqIndex? i xs.length=some j∧xs[j]?=some v∧j < xs.length∧-(xs.length:Int)≤i∧i < xs.length:=by
 unfold iz at h;cases e:wN xs.length i with
 | none=>rw[e] at h;cases h
 | some j=>
  rw[e] at h;obtain⟨h1,h2,h3,h4⟩:=Bd e;exact⟨j,h1,h,h2,h3,h4⟩
theorem nK{α:Type}{xs:List α}{j:Nat}{v:α}(h:xs[j]?=some v):iz xs (j:Int)=some v:=by
 have hj:j < xs.length:=(P4.mp h).1;have e:wN xs.length (j:Int)=some j:=by
  unfold wN;rw[P7 (by lia),P7 (by lia)];simp
 unfold iz;rw[e];exact h
theorem FN(xs:List α)(v:α):iz (xs++[v]) (-1)=some v:=by
 have hl:(xs++[v]).length=xs.length+1:=by simp
 have e:wN (xs++[v]).length (-1)=some xs.length:=by
  unfold wN;rw[hl,Qa (by decide),P7 (by lia)];congr 1
  lia
 unfold iz;rw[e];show(xs++[v])[xs.length]?=some v;simp
def nW(b:Expr):Prop:=∀o i,subscripted b false o i=operate [o,i] (getItem o i)
def NH(X:Cx)(r:R2):Prop:=
 ∀(value slice:Expr)(pins:List (Addr×Obj)) (s:Shared) (σ:St) (H:Hp) (x y:V) (v u:Value) (Q:VK),Inv X pins σ H s->RelV x v->RelV y u->r x y H Q->
  subscripted slice false v u=operate [v,u] (getItem v u)->wpAny (model X.prog X.w) X.A (subscriptTail value slice v u) (EP X pins σ Q) X.xe s
def Gh(X:Cx)(id:String)(r:V->List V->Hp->VK->Prop):Prop:=
 ∀(pins:List (Addr×Obj)) (s:Shared) (σ:St) (H:Hp) (x:V) (xs:List V) (v:Value) (us:List Value) (Q:VK),Inv X pins σ H s->RelV x v->Vals xs us->r x xs H Q->
  wpAny (model X.prog X.w) X.A (call (.builtin id) (v::us)) (EP X pins σ Q) X.xe s
section
variable {X:Cx} {a b:Expr} {ta tb:TE} {pos:Pos}
theorem MQ(hr:NH X r)(ha:PE X a ta)(hb:PE X b tb)(hs:nW b):PE X (.Subscript a b pos) (Mg r ta tb):=by
 intro pins s σ H Q I h;exact Subscript_ (Lx ha hb I h fun v u s2 x y H2 I2 rx ry q=>hr a b pins s2 σ H2 x y v u Q I2 rx ry q (hs _ _))
def OF(K:FR):R2:=fun x y H Q=>∃p xs i v,x=.ref p∧y=.int i∧gA K H p xs∧iz xs i=some v∧Q v H
def OD(K:FR):R2:=fun x y H Q=>∃p xs i v,x=.ref p∧y=.int i∧ko K H p xs∧iz xs i=some v∧Q v H
def OE:R2:=fun x y H Q=>∃z i c,x=.str z∧y=.int i∧z.length≤sizeLine∧iz z.cps.toList i=some c∧Q (.str ⟨#[c]⟩) H
theorem Hw:NH X (OF X.K):=by
 intro value slice pins s σ H x y v u Q I rx ry h hs;obtain⟨p,xs,i,z,rfl,rfl,hq,he,q⟩:=h;cases rx;obtain⟨t,rfl⟩:=ry;obtain⟨its,r,pl,hz⟩:=I.list hq;obtain⟨j,h1,h2,h3,h4,h5⟩:=qQ he;obtain⟨w,ew,rw'⟩:=r.get h2;have hl:=r.length;have hn:=l9;have fin:EP X pins σ Q w s:=⟨z,H,I,rw',q⟩
 by_cases h0:0≤i
 ·have hj:i.toNat=j:=by
   rw[seqIndex_of h0 h5] at h1;exact Option.some.inj h1
  exact item_listR pl.isList h0 (by lia) (by rw[hj];simpa using ew) fin hs
 ·have hj:(i+(its.toArray.size:Int)).toNat=j:=by
   rw[seqIndex_neg (by lia) h4] at h1;rw[Qh,←hl];exact Option.some.inj h1
  exact subscriptTail_builtinR (x:=w) pl.isList.typeIs slot_list_getitem.lookup
   (wpAny_getItem_list_neg (Q:=fun r s'=>r=w∧EP X pins σ Q r s') pl.isList (by lia) (by rw[Qh] <;> lia) (by lia) (by rw[hj];simpa using ew) ⟨rfl,fin⟩) hs
theorem K0:NH X (OD X.K):=by
 intro value slice pins s σ H x y v u Q I rx ry h hs;obtain⟨p,xs,i,z,rfl,rfl,hq,he,q⟩:=h;cases rx;obtain⟨t,rfl⟩:=ry;obtain⟨its,r,pl,hz⟩:=I.tuple hq;obtain⟨j,h1,h2,h3,h4,h5⟩:=qQ he;obtain⟨w,ew,rw'⟩:=r.get h2;have hl:=r.length;have hn:=l9;have fin:EP X pins σ Q w s:=⟨z,H,I,rw',q⟩;exact subscriptTail_builtinR (x:=w) pl.typeIs Rg.lookup
  (getItem_tuple (j:=j) (Q:=fun r s'=>r=w∧EP X pins σ Q r s') pl (by lia) (by lia) (by rw[Qh,←hl];exact h1) (by simpa using ew) ⟨rfl,fin⟩) hs
theorem K1:NH X OE:=by
 intro value slice pins s σ H x y v u Q I rx ry h hs;obtain⟨z,i,c,rfl,rfl,hz,he,q⟩:=h;obtain⟨t,rfl⟩:=rx;obtain⟨t',rfl⟩:=ry;obtain⟨j,h1,h2,h3,h4,h5⟩:=qQ he;have hl:z.cps.toList.length=z.length:=by simp[Str.length]
 rw[hl] at h1 h4 h5;have hn:=l9;exact tail_any (typeIs_str s z t) slot_str_getitem.lookup (getItem_str (c:=c) (by
  have e1:decide (i < -(2^63:Int))=false:=QS (by lia);have e2:decide (i≥2^63)=false:=QS (by lia);rw[e1,e2,Vg]) (by rw[h1];simpa using h2) ⟨.str ⟨#[c]⟩,H,I.tok _,⟨_,rfl⟩,q⟩) hs
theorem zT(its:List Value)(n j:Nat)(u:Value):Obj.mapSeq (·.setIfInBounds j u) {cls:=.type "list",data:=.seq its.toArray n}={cls:=.type "list",data:=.seq (its.set j u).toArray n}:=by
 simp[Obj.mapSeq]
theorem Inv.lst(I:Inv X pins σ H s)(h:H p=some (.lst xs)):
  ∃(its:List Value)(n:Nat),Vals xs its∧s.heap.get? p=some {cls:=.type "list",data:=.seq its.toArray n}∧xs.length≤sizeLine:=by
 obtain⟨z,its,n,r,e⟩:=I.bC p _ h;exact⟨its,n,r,e,z⟩
theorem Inv.KL{pins:List (Addr×Obj)}{σ:St}{H:Hp}{s:Shared}{p:Addr}{xs ys:List V}{its its':List Value}{n n':Nat}{f:Obj->Obj}(I:Inv X pins σ H s)(h:H p=some (.lst xs))
  (ho:s.heap.get? p=some {cls:=.type "list",data:=.seq its.toArray n}) (hf:f {cls:=.type "list",data:=.seq its.toArray n}={cls:=.type "list",data:=.seq its'.toArray n'}) (r:Vals ys its') (hz:ys.length≤sizeLine) (t:Nat):
  Inv X pins σ (upd H p (.lst ys)) {s with heap:=s.heap.update p f,toks:=t}:=by
 have e:(s.heap.update p f).get? p=some {cls:=.type "list",data:=.seq its'.toArray n'}:=by
  rw[Rx f ho (by rw[hf] <;> rfl),hf]
 refine I.write (x:=p) (e:=p) (by rw[h];trivial) (.inl rfl) (fun b u hb q=>(RS _ _ (Ru hb)).trans q) ⟨_,e⟩ ?_;exact⟨hz,its',n',r,e⟩
def MI:V->V->V->Hp->(Hp->Prop)->Prop:=fun o i v H Q=>∃p xs k j,o=.ref p∧i=.int k∧H p=some (.lst xs)∧wN xs.length k=some j∧Q (upd H p (.lst (xs.set j v)))
theorem set_list:LJ X MI:=by
 intro pins s σ H o i v ov iv u Q I ro ri rv h;obtain⟨p,xs,k,j,rfl,rfl,hp,hj,q⟩:=h;cases ro;obtain⟨t,rfl⟩:=ri;obtain⟨its,n,r,ho,hz⟩:=I.lst hp;obtain⟨h1,h2,h3,h4⟩:=Bd hj;have hl:=r.length;have hn:=l9;have I':Inv X pins σ (upd H p (.lst (xs.set j v))) {s with heap:=s.heap.update p (Obj.mapSeq (·.setIfInBounds j u))}:=
  I.KL hp ho (zT its n j u) (r.set rv j) (by rw[RF];exact hz) s.toks
 by_cases h0:0≤k
 ·have hk:k.toNat=j:=by
   rw[seqIndex_of h0 h4] at h1;exact Option.some.inj h1
  exact PySem.W.ki_setAt ho h0 (by lia) (by rw[Qh,←hl];exact h4) (by rw[hk];exact⟨_,I',q⟩)
 ·have hk:(k+(its.toArray.size:Int)).toNat=j:=by
   rw[seqIndex_neg (by lia) h3] at h1;rw[Qh,←hl];exact Option.some.inj h1
  exact PySem.W.ki_setBack ho (by lia) (by rw[Qh,←hl];exact h3) (by lia) (by rw[hk];exact⟨_,I',q⟩)
theorem vO(lo hi:Option Int)(n:Nat):(sliceBounds lo hi none n).1=((HT.dm n 0 lo:Nat):Int)∧(sliceBounds lo hi none n).2.1=((HT.dm n n hi:Nat):Int)∧(sliceBounds lo hi none n).2.2=1:=by
 refine⟨?_,?_,rfl⟩
 ·cases lo with
  | none=>simp[sliceBounds,HT.dm]
  | some i=>
   simp only[sliceBounds,HT.dm,Option.getD_none,show(1:Int) > 0 by decide,SR]
   by_cases h:i < 0
   ·simp only[h,SR] <;> lia
   ·simp only[h,RO] <;> lia
 ·cases hi with
  | none=>simp[sliceBounds,HT.dm]
  | some i=>
   simp only[sliceBounds,HT.dm,Option.getD_none,show(1:Int) > 0 by decide,SR]
   by_cases h:i < 0
   ·simp only[h,SR] <;> lia
   ·simp only[h,RO] <;> lia
theorem tJ(its:List Value)(lo hi:Option Int):slicePick its.toArray lo hi none=((its.drop (HT.dm its.length 0 lo)).take (HT.dm its.length its.length hi-HT.dm its.length 0 lo)).toArray:=by
 obtain⟨h1,h2,h3⟩:=vO lo hi its.toArray.size;unfold slicePick;rw[h1,h2,h3];simp only[sliceRange_one,pick_run,Qh] <;> rfl
def Oy(K:FR):V->Option Int->Option Int->Hp->VK->Prop:=fun x lo hi H Q=>∃a xs,x=.ref a∧gA K H a xs∧∀p,H p=none->Q (.ref p) (upd H p (.lst (sG xs lo hi)))
theorem Gr:LF X (Oy X.K):=by
 intro pins s σ H x v vl vu lo hi sl Q I rx hs pl pu h;obtain⟨a,xs,rfl,hx,q⟩:=h;cases rx;obtain⟨its,r,ht,hz⟩:=I.list hx;have hlen:=r.length;refine⟨"list",_,slot_list_getitem.lookup,ht.isList.typeIs,?_⟩;refine wpAny_getItem_list_slice ht.isList hs pl pu .none (by simp) ?_ (by rw[Qh] <;> lia);rw[tJ,←hlen];refine⟨.ref s.heap.objs.size,_,I.laid (t':=s.toks) (o:=.lst (sG xs lo hi)) (fun b ob q=>P2 _ q) (P8 _) ?_,rfl,q _ (I.bC.fresh (P8 _))⟩;exact⟨Qm (pU xs lo hi) hz,_,0,(r.drop (HT.dm xs.length 0 lo)).take (HT.dm xs.length xs.length hi-HT.dm xs.length 0 lo),Qg _ rfl⟩
theorem xp:eN X (.builtin "len") (fun xs H Q=>∃p ys,xs=[.ref p]∧(gA X.K H p ys∨ko X.K H p ys)∧Q (.int ys.length) H):=by
 intro pins s σ H xs us Q I r h;obtain⟨p,ys,rfl,hq,q⟩:=h;obtain⟨u,rfl,rx⟩:=vals1 r;cases rx;have hn:=l9;rcases hq with hq | hq
 ·obtain⟨its,r',pl,hz⟩:=I.list hq;have hlen:=r'.length;exact Calls.call_len_list pl.isList (by simp only[Qh] <;> lia) ⟨.int ys.length,H,I.tok _,⟨s.toks+1,by rw[Qh,hlen]⟩,q⟩
 ·obtain⟨its,r',pl,hz⟩:=I.tuple hq;have hlen:=r'.length;exact len_tuple pl (by simp only[Qh] <;> lia) ⟨.int ys.length,H,I.tok _,⟨s.toks+1,by rw[Qh,hlen]⟩,q⟩
theorem xo:eN X (.builtin "len") (fun xs H Q=>∃z,xs=[.str z]∧z.length≤sizeLine∧Q (.int z.length) H):=by
 intro pins s σ H xs us Q I r h;obtain⟨z,rfl,hz,q⟩:=h;obtain⟨u,rfl,t,rfl⟩:=vals1 r;have hn:=l9;exact len_str (by lia) ⟨.int z.length,H,I.tok _,⟨_,rfl⟩,q⟩
theorem xn:eN X (.type "list") (fun xs H Q=>∃p ys,xs=[.ref p]∧(gA X.K H p ys∨ko X.K H p ys)∧∀l,H l=none->Q (.ref l) (upd H l (.lst ys))):=by
 intro pins s σ H xs us Q I r h;obtain⟨p,ys,rfl,hq,q⟩:=h;obtain⟨u,rfl,rx⟩:=vals1 r;cases rx;have fin:∀(its:List Value),Vals ys its->ys.length≤sizeLine->∀(h':Heap)(c':Nat),(∀b o',s.heap.get? b=some o'->h'.get? b=some o')->
   h'.get? s.heap.objs.size=some {cls:=.type "list",dict:=none,data:=.seq its.toArray c',slots:=#[]}->EP X pins σ Q (.ref s.heap.objs.size) {s with heap:=h'}:=fun its r' hz h' c' kp e=>
  ⟨.ref s.heap.objs.size,_,I.laid (t':=s.toks) kp (P8 _) (show cL X.prog X.w _ h' _ (.lst ys) from⟨hz,its,c',r',e⟩),rfl,q _ (I.bC.fresh (P8 _))⟩
 rcases hq with hq | hq
 ·obtain⟨its,r',pl,hz⟩:=I.list hq;have hlen:=r'.length;obtain⟨o,ho,hc,n,hd⟩:=pl.isList;exact call_list_seq p (.inl rfl) ho hc hd (fun h' c' kp e=>fin its r' hz h' c' kp e) (by simp only[Qh] <;> lia)
 ·obtain⟨its,r',pl,hz⟩:=I.tuple hq;have hlen:=r'.length;obtain⟨o,ho,hc,n,hd⟩:=pl;exact call_list_seq p (.inr rfl) ho hc hd (fun h' c' kp e=>fin its r' hz h' c' kp e) (by simp only[Qh] <;> lia)
theorem ug:eN X (.type "tuple") (fun xs H Q=>∃p ys,xs=[.ref p]∧((gA X.K H p ys∧∀l,H l=none->Q (.ref l) (upd H l (.tup ys)))∨(ko X.K H p ys∧Q (.ref p) H))):=by
 intro pins s σ H xs us Q I r h;obtain⟨p,ys,rfl,h⟩:=h;obtain⟨u,rfl,rx⟩:=vals1 r;cases rx;rcases h with⟨hq,q⟩ |⟨hq,q⟩
 ·obtain⟨its,r',pl,hz⟩:=I.list hq;have hlen:=r'.length;refine call_tuple_list pl.isList (fun h' kp=>?_) (by simp only[Qh] <;> lia);have I1:Inv X pins σ H {s with heap:=h'}:=I.kept (t':=s.toks) kp;have I2:Inv X pins σ (upd H h'.objs.size (.tup ys)) {s with heap:=h'.push {cls:=.type "tuple",data:=.seq its.toArray}}:=
   I1.laid (t':=s.toks) (fun b o e=>P2 _ e) (P8 _) (show cL X.prog X.w _ _ _ (.tup ys) from⟨hz,its,r',xA.new _ _⟩)
  exact⟨.ref h'.objs.size,_,I2,rfl,q _ (I1.bC.fresh (P8 _))⟩
 ·obtain⟨its,r',pl,hz⟩:=I.tuple hq;exact call_tuple_same pl ⟨.ref p,H,I,rfl,q⟩
def LO(K:FR)(T:String)(x:V)(H:Hp):Prop:=match x with
 | .str _=>T="str"
 | .int _=>T="int"
 | .ref p=>(T="list"∧∃xs,gA K H p xs)∨(T="tuple"∧∃o,K.lookup p=some o∧o.cls=.type "tuple"∧o.dict=none)∨
   (T="dict"∧((∃kvs,H p=some (.dK kvs))∨∃kvs,H p=some (.dT kvs)))∨(T="set"∧∃S n,H p=some (.set S n))
 | _=>False
theorem Dw(I:Inv X pins σ H s)(r:RelV x v)(ty:LO X.K T x H):
  s.TypeIs v T∧∀a,v=.ref a->∃ob,s.heap.get? a=some ob∧ob.dict=none:=by
 cases x with
 | str z=>
  obtain⟨t,rfl⟩:=r;cases(show T="str" from ty);exact⟨typeIs_str s z t,fun _ e=>nomatch e⟩
 | int i=>
  obtain⟨t,rfl⟩:=r;cases(show T="int" from ty);exact⟨typeIs_int s i t,fun _ e=>nomatch e⟩
 | ref p=>
  cases r;rcases ty with⟨rfl,xs,hq⟩ |⟨rfl,o,hk,hc,hd⟩ |⟨rfl,hk⟩ |⟨rfl,S,n,hk⟩
  ·obtain⟨its,_,pl,_⟩:=I.list hq;refine⟨pl.isList.typeIs,fun a e=>?_⟩;cases e;obtain⟨o,n,e,c,hd,_⟩:=pl;exact⟨o,e,hd⟩
  ·refine⟨⟨o,I.va p o hk,hc⟩,fun a e=>?_⟩;cases e;exact⟨o,I.va _ o hk,hd⟩
  ·have z:∃o,s.heap.get? p=some o∧o.ExactDict:=by
    rcases hk with⟨kvs,hk⟩ |⟨kvs,hk⟩
    ·obtain⟨_,_,_,_,o,_,_,e,ex,_⟩:=I.bC p _ hk;exact⟨o,e,ex⟩
    ·obtain⟨_,_,_,_,o,_,_,e,ex,_⟩:=I.bC p _ hk;exact⟨o,e,ex⟩
   obtain⟨o,e,ex⟩:=z;refine⟨⟨o,e,ex.1⟩,fun a e2=>?_⟩;cases e2;exact⟨o,e,ex.2.1⟩
  ·obtain⟨o,_,_,_,e,ex,_⟩:=I.bC p _ hk;refine⟨⟨o,e,ex.1⟩,fun a e2=>?_⟩;cases e2;exact⟨o,e,ex.2.1⟩
 | _=>exact False.elim ty
def Ob(K:FR)(T:String)(r:V->List V->Hp->VK->Prop)(to:TE):TE:=fun σ H Q=>to σ H fun x H1=>LO K T x H1∧r x [] H1 Q
def PF(K:FR)(T:String)(r:V->List V->Hp->VK->Prop)(to:TE)(t:TA):TE:=fun σ H Q=>to σ H fun x H1=>LO K T x H1∧t σ H1 fun xs H2=>r x xs H2 Q
variable {o e:Expr} {es:List Expr} {to:TE} {t:TA} {name:Str} {apos cpos:Pos} {T id:String} {r:V->List V->Hp->VK->Prop}
theorem Kn(pa:PlainAttrs T)(slot:Slot T name id)(hty:typeOf (.builtin id)=pure (.type "method_descriptor"))(hm:Gh X id r)(ho:PE X o to)
  (hbase:attributeBase o name X.env (eval o X.env)=eval o X.env:=by rfl) (hline:(apos.endLine==cpos.line)=true:=by rfl):PE X (.Call (.Attribute o name apos) [] [] cpos) (Ob X.K T r to):=by
 intro pins s σ H Q I h;refine wpAny_Call_method0_late hbase hline (cN (ho pins s σ H _ I h) fun v s1 ⟨x,H1,I1,r1,ty,q1⟩=>?_);obtain⟨h1,h2⟩:=Dw I1 r1 ty;exact⟨T,id,pa,slot,hty,h1,h2,Calls.callWith_builtin rfl (PySem.evalArgs_none (hm pins s1 σ H1 x [] v [] Q I1 r1 .nil q1))⟩
theorem MR(pa:PlainAttrs T)(slot:Slot T name id)(hty:typeOf (.builtin id)=pure (.type "method_descriptor"))(hm:Gh X id r)(ho:PE X o to)(ha:PA X (e::es) t)
  (hbase:attributeBase o name X.env (eval o X.env)=eval o X.env:=by rfl)
  (hfew:((backTo cpos (starEach (e::es) X.env)).all (fun x=>!x.1)&&(backToKw cpos (keywordEach [] X.env)).all (fun x=>x.1.isSome)
   &&decide ((e::es).length+([]:List Keyword).length+(if([]:List Keyword).isEmpty then 0 else 1) < 30))=true:=by rfl)
  (hline:(apos.endLine==cpos.line)=true:=by rfl) (hs:starEach (e::es) X.env=(false,eval e X.env)::starEach es X.env:=by rfl) (hplain:(backTo cpos (starEach es X.env)).any (·.1)=false:=by rfl):
  PE X (.Call (.Attribute o name apos) (e::es) [] cpos) (PF X.K T r to t):=by
 intro pins s σ H Q I h;refine wpAny_Call_method_late hbase hfew hline rfl (cN (ho pins s σ H _ I h) fun v s1 ⟨x,H1,I1,r1,ty,q1⟩=>?_);obtain⟨h1,h2⟩:=Dw I1 r1 ty;refine⟨T,id,pa,slot,hty,h1,h2,?_⟩;have hA:=ha cpos pins s1 σ H1 _ I1 q1;rw[hs] at hA ⊢;refine Calls.callWith_builtin (by show(false||(backTo cpos (starEach es X.env)).any (·.1))=false;rw[hplain] <;> rfl) (Calls.evalArgs_plain ?_);exact cN hA fun us s2 ⟨vs,H2,I2,r2,q2⟩=>hm pins s2 σ H2 x vs v us Q I2 r1 r2 q2
end
def O0(X:Cx)(id:String)(r:V->List V->Hp->VK->Prop):Prop:=
 ∀(pins:List (Addr×Obj)) (s:Shared) (σ:St) (H:Hp) (x:V) (xs:List V) (v:Value) (us:List Value) (Q:VK),Inv X pins σ H s->RelV x v->Vals xs us->r x xs H Q->
  wpAny (model X.prog X.w) X.A (call (.builtin id) (v::us)) (EP X pins σ Q) X.xe s
theorem Vals.one{x:V}{us:List Value}(h:Vals [x] us):∃u,us=[u]∧RelV x u:=by
 cases h with
 | cons r t=>cases t;exact⟨_,rfl,r⟩
theorem Vals.two{x y:V}{us:List Value}(h:Vals [x,y] us):∃u v,us=[u,v]∧RelV x u∧RelV y v:=by
 cases h with
 | cons r t=>cases t with
  | cons q z=>cases z;exact⟨_,_,rfl,r,q⟩
theorem Vals.zero:∀{us:List Value},Vals [] us->us=[]
 | _,.nil=>rfl
theorem Vals.dropLast(h:Vals xs us):Vals xs.dropLast us.dropLast:=by
 induction h with
 | nil=>exact .nil
 | cons r t ih=>
  cases t with
  | nil=>exact .nil
  | cons q t'=>exact .cons r ih
theorem Vals.rep(h:Vals xs us):∀k:Nat,Vals (List.replicate k xs).flatten (List.replicate k us).flatten
 | 0=>.nil
 | k+1=>by
  rw[RD,RD,Sr,Sr];exact Vals.append h (Vals.rep h k)
theorem Ag(l:List α):l.eraseIdx (l.length-1)=l.dropLast:=by
 induction l with
 | nil=>rfl
 | cons a r ih=>
  cases r with
  | nil=>rfl
  | cons b r=>
   have e:(a::b::r).length-1=((b::r).length-1)+1:=by
    have h1:(a::b::r).length=r.length+2:=rfl;have h2:(b::r).length=r.length+1:=rfl
    lia
   rw[e,List.eraseIdx_cons_succ,ih]
   all_goals rfl
theorem foldl_rep(its:List Value):∀(k:Nat)(acc:List Value),
  List.foldl (fun x1 x2=>x1++x2) acc.toArray (List.replicate k its.toArray)=(acc++(List.replicate k its).flatten).toArray
 | 0,acc=>by simp
 | k+1,acc=>by
  have e:acc.toArray++its.toArray=(acc++its).toArray:=by simp
  have e2:(acc++its)++(List.replicate k its).flatten=acc++(List.replicate (k+1) its).flatten:=by
   rw[RD,Sr,QV]
  rw[←e2,←foldl_rep its k (acc++its),←e,RD,RY]
theorem Inv.Hl{its its':List Value}{n:Nat}{f:Array Value->Array Value}{t':Nat}(I:Inv X pins σ H s)(hH:H l=some (.lst xs))
  (e:s.heap.get? l=some {cls:=.type "list",data:=.seq its.toArray n}) (hf:f its.toArray=its'.toArray) (hv:Vals ys its') (hz:ys.length≤sizeLine):
  Inv X pins σ (upd H l (.lst ys)) {s with heap:=s.heap.update l (Obj.mapSeq f),toks:=t'}:=by
 have q:=PySem.IsL.update e f;rw[hf] at q;refine I.write (x:=l) (e:=l) (by rw[hH];exact trivial) (.inl rfl) (fun b' u hb hu=>(RS s.heap (Obj.mapSeq f) (Ru hb)).trans hu) ⟨_,q⟩ ?_;exact⟨hz,its',_,hv,q⟩
theorem Inv.KP(I:Inv X pins σ H s)(hv:Vals ys its)(hz:ys.length≤sizeLine):
  Inv X pins σ (upd H s.heap.objs.size (.lst ys)) {s with heap:=s.heap.push {cls:=.type "list",data:=.seq its.toArray},toks:=t'}:=
 I.laid (fun _ _ q=>P2 _ q) (P8 _) ⟨hz,its,0,hv,Qg _ rfl⟩
theorem Inv.fresh(I:Inv X pins σ H s):H s.heap.objs.size=none:=I.bC.fresh (P8 _)
theorem Inv.yq(I:Inv X pins σ H s)(hH:H l=some (.lst xs)):xs.length≤sizeLine∧∃(its:List Value)(n:Nat),Vals xs its∧xs.length=its.length∧s.heap.get? l=some {cls:=.type "list",data:=.seq its.toArray n}:=by
 obtain⟨z,its,n,r,e⟩:=I.bC l _ hH;exact⟨z,its,n,r,r.length,e⟩
theorem r8(h:n≤sizeLine):Builtin.List.listTooLong n=false:=by
 unfold Builtin.List.listTooLong;exact QS (by lia)
def GK:V->List V->Hp->VK->Prop:=fun x vs H Q=>∃l xs y,x=.ref l∧vs=[y]∧H l=some (.lst xs)∧xs.length < sizeLine∧Q .cC (upd H l (.lst (xs++[y])))
theorem uT:O0 X "list.append" GK:=by
 intro pins s σ H x vs v us Q I rx rv h;obtain⟨l,xs,y,rfl,rfl,hH,hz,q⟩:=h;cases rx;obtain⟨u,rfl,ru⟩:=rv.one;obtain⟨z,its,n,r,hl,e⟩:=I.yq hH;refine TY QY ⟨_,e,rfl⟩ F.entry_list_append (F.args_list_append_2 _ _) (PySem.list_append l its.toArray n u (by rw[Qh];lia)) ⟨e,?_⟩;refine⟨.cC,_,I.Hl (its':=its++[u]) hH e (by simp) (r.append (.cons ru .nil)) ?_,rfl,q⟩;rw[Qb,QQ]
 lia
def GJ:V->List V->Hp->VK->Prop:=fun x vs H Q=>∃l b xs zs,x=.ref l∧vs=[.ref b]∧H l=some (.lst xs)∧H b=some (.lst zs)∧xs.length+zs.length≤sizeLine∧Q .cC (upd H l (.lst (xs++zs)))
theorem Ci:O0 X "list.extend" GJ:=by
 intro pins s σ H x vs v us Q I rx rv h;obtain⟨l,b,xs,zs,rfl,rfl,hH,hB,hz,q⟩:=h;cases rx;obtain⟨u,rfl,ru⟩:=rv.one;cases ru;obtain⟨z,its,n,r,hl,e⟩:=I.yq hH;obtain⟨z2,its2,n2,r2,hl2,e2⟩:=I.yq hB;have hsz:its.toArray.size+its2.toArray.size≤sizeLine:=by rw[Qh,Qh];lia
 have hlong:¬(!its.toArray.isEmpty&&Builtin.List.listTooLong (its.toArray.size+its2.toArray.size))=true:=by
  rw[r8 hsz,U7];exact QZ
 refine TY RQ ⟨_,e,rfl⟩ F.entry_list_extend (F.args_list_extend_2 _ _)
  (AutoSeq1.list_extend_list_list_0 l its.toArray n b its2.toArray n2 hlong (by rw[Qh];lia) (by lia)) ⟨e,e2,?_⟩
 refine⟨.cC,_,I.Hl (its':=its++its2) hH e (by simp) (r.append r2) ?_,rfl,q⟩;rw[Qb]
 lia
def OC:V->List V->Hp->VK->Prop:=fun x vs H Q=>∃l xs y,x=.ref l∧vs=[]∧H l=some (.lst xs)∧xs[xs.length-1]?=some y∧Q y (upd H l (.lst xs.dropLast))
theorem KH:O0 X "list.pop" OC:=by
 intro pins s σ H x vs v us Q I rx rv h;obtain⟨l,xs,y,rfl,rfl,hH,hy,q⟩:=h;cases rx;have hus:=rv.zero;subst hus;obtain⟨z,its,n,r,hl,e⟩:=I.yq hH;obtain⟨u,hu,ru⟩:=r.get hy;have hy':its.toArray[its.toArray.size-1]?=some u:=by
  show its.toArray[its.length-1]?=some u;rw[←Rj,←hl];exact hu
 refine TY F.slot_list_pop ⟨_,e,rfl⟩ F.entry_list_pop (F.args_list_pop_1 _) (MeetsSeq.list_pop_last l its.toArray n u hy' (by rw[Qh];lia)) ⟨e,?_⟩;refine⟨y,_,I.Hl (its':=its.dropLast) hH e ?_ r.dropLast ?_,ru,q⟩
 ·show its.toArray.eraseIdxIfInBounds (its.toArray.size-1)=its.dropLast.toArray;rw[Qh,List.eraseIdxIfInBounds_toArray,Ag]
 ·rw[List.length_dropLast]
  lia
def OG:R2:=fun x y H Q=>∃l b xs zs,x=.ref l∧y=.ref b∧H l=some (.lst xs)∧H b=some (.lst zs)∧xs.length+zs.length≤sizeLine∧∀p,H p=none->Q (.ref p) (upd H p (.lst (xs++zs)))
theorem Ez:k8 X (binaryOp .Add) OG:=by
 intro pins s σ H x y v u Q I rx ry h;obtain⟨l,b,xs,zs,rfl,rfl,hH,hB,hz,q⟩:=h;cases rx;cases ry;obtain⟨z,its,n,r,hl,e⟩:=I.yq hH;obtain⟨z2,its2,n2,r2,hl2,e2⟩:=I.yq hB;refine PySem.P.add_list e e2 ?_ (by rw[Qh,Qh];lia);have ea:its.toArray++its2.toArray=(its++its2).toArray:=by simp
 rw[ea];exact⟨.ref _,_,I.KP (t':=s.toks) (r.append r2) (by rw[Qb];lia),rfl,q _ I.fresh⟩
def OB:R2:=fun x y H Q=>∃l k xs,x=.ref l∧y=.int k∧H l=some (.lst xs)∧-(2^63)≤k∧k < 2^63∧xs.length*k.toNat≤sizeLine∧
 ∀p,H p=none->Q (.ref p) (upd H p (.lst (List.replicate k.toNat xs).flatten))
theorem len_rep(xs:List α)(k:Nat):(List.replicate k xs).flatten.length=k*xs.length:=by
 induction k with
 | zero=>simp
 | succ k ih=>rw[RD,Sr,Qb,ih,Nat.succ_mul,UR]
theorem Ku:k8 X (binaryOp .Mult) OB:=by
 intro pins s σ H x y v u Q I rx ry h;obtain⟨l,k,xs,rfl,rfl,hH,h1,h2,hz,q⟩:=h;cases rx;obtain⟨t,rfl⟩:=ry;obtain⟨z,its,n,r,hl,e⟩:=I.yq hH;have hlen:its.toArray.size*k.toNat≤sizeLine:=by rw[Qh,←hl];exact hz
 have hcap:¬its.toArray.size*k.toNat > (2^63-1) / 8:=by
  have:(sizeLine:Nat)≤(2^63-1) / 8:=by decide
  lia
 have hfit:¬(!Builtin.List.listFitsIndex k)=true:=by
  rw[fitsIndex_both h1 h2];exact QZ
 have hlong:¬Builtin.List.listTooLong (its.toArray.size*k.toNat)=true:=by
  rw[r8 hlen];exact QZ
 have hnew:List.foldl (fun x1 x2=>x1++x2) #[] (List.replicate (if its.toArray.isEmpty=true then 0 else k.toNat) its.toArray)=(List.replicate k.toNat its).flatten.toArray:=by
  have f0:∀m:Nat,List.foldl (fun x1 x2=>x1++x2) #[] (List.replicate m its.toArray)=(List.replicate m its).flatten.toArray:=fun m=>by
   have:=foldl_rep its m [];rw[RX] at this;exact this
  rw[f0];cases its with
  | nil=>simp
  | cons a r'=>rw[Qa (by simp)]
 refine wpAny_binaryOp_repeat_ref (T:="list") (U:="int") (by decide) ⟨_,e,rfl⟩ (fun s'=>typeIs_int s' k t) noFill_list_mul F.fills_int_mul F.slot_int_rmul repeat_list F.slot_int_index.lookup
  (TY F.slot_int_rmul (typeIs_int s k t) F.entry_int_rmul (F.args_int_rmul_2 _ _) (int___rmul___int_list k t l its.toArray n)
   ⟨e,rfl,⟨_,e,rfl⟩,TY F.slot_list_mul ⟨_,e,rfl⟩ F.entry_list_mul (F.args_list_mul_2 _ _) (AutoListH.list___mul___list_int_3 l its.toArray n k t hfit hcap hlong) ⟨e,?_⟩⟩)
 rw[hnew];exact⟨.ref _,_,I.KP (t':=s.toks) (r.rep k.toNat) (by rw[len_rep,Nat.mul_comm];exact hz),rfl,q _ I.fresh⟩
section
variable {κ:Type} [DecidableEq κ]
noncomputable def jt(kvs:List (κ×V))(k:κ):Option V:=(kvs.find? fun kv=>decide (kv.1=k)).map (·.2)
noncomputable def putK(kvs:List (κ×V))(k:κ)(v:V):List (κ×V):=
 if(kvs.any fun kv=>decide (kv.1=k))=true then kvs.map (fun kv=>if kv.1=k then(kv.1,v) else kv) else kvs++[(k,v)]
theorem qR{p:κ×V}{r:List (κ×V)}{k:κ}(e:p.1=k):jt (p::r) k=some p.2:=by simp[jt,Sn,e]
theorem mB{p:κ×V}{r:List (κ×V)}{k:κ}(e:¬p.1=k):jt (p::r) k=jt r k:=by simp[jt,Sn,e]
theorem xH(k:κ):∀kvs:List (κ×V),(kvs.any fun kv=>decide (kv.1=k))=(jt kvs k).isSome
 | []=>rfl
 | p::r=>by
  rw[R6]
  by_cases e:p.1=k
  ·simp only[qR e,QO e,Bool.true_or,Option.isSome_some]
  ·rw[mB e,QS e,Bool.false_or];exact xH k r
theorem hG(kvs:List (κ×V))(k:κ)(v:V):(putK kvs k v).length≤kvs.length+1:=by
 unfold putK
 split
 ·rw[P1];lia
 ·rw[Qb,Qv,RG];lia
theorem tD.iG(r:tD o u):o.isSome=u.isSome:=by
 cases o with
 | none=>cases u with
  | none=>rfl
  | some _=>exact(show False from r).elim
 | some _=>cases u with
  | none=>exact(show False from r).elim
  | some _=>rfl
theorem KV.val{kvs:List (κ×V)}{vs:List (κ×Value)}(r:KV kvs vs)(k:κ):tD (jt kvs k) (valueAt vs k):=by
 unfold KV at r
 induction r with
 | nil=>exact True.intro
 | @cons p q ps qs h t ih=>
  obtain⟨h1,h2⟩:=h
  by_cases e:p.1=k
  ·have e':q.1=k:=h1.symm.trans e;have b:valueAt (q::qs) k=some q.2:=by simp[valueAt,Sn,e']
   rw[qR e,b];exact h2
  ·have e':¬q.1=k:=fun z=>e (h1.trans z);have b:valueAt (q::qs) k=valueAt qs k:=by simp[valueAt,Sn,e']
   rw[mB e,b];exact ih
theorem KV.any(r:KV kvs vs)(k:κ):(kvs.any fun kv=>decide (kv.1=k))=vs.any fun kv=>decide (kv.1=k):=by
 unfold KV at r
 induction r with
 | nil=>rfl
 | cons h t ih=>rw[R6,R6,ih,h.1]
theorem KV.JC(r:KV kvs vs)(k:κ)(ry:RelV y u):
  KV (kvs.map fun kv=>if kv.1=k then(kv.1,y) else kv) (vs.map fun kv=>if kv.1=k then(kv.1,u) else kv):=by
 unfold KV at r ⊢
 induction r with
 | nil=>exact .nil
 | @cons p q ps qs h t ih=>
  rw[Qd,Qd];refine .cons ?_ ih;obtain⟨h1,h2⟩:=h
  by_cases e:p.1=k
  ·rw[P7 e,P7 (h1.symm.trans e)];exact⟨h1,ry⟩
  ·rw[Qa e,Qa (fun z=>e (h1.trans z))];exact⟨h1,h2⟩
theorem KV.put(r:KV kvs vs)(k:κ)(ry:RelV y u):KV (putK kvs k y) (stored vs k u):=by
 unfold putK stored;rw[r.any k]
 by_cases e:(vs.any fun kv=>decide (kv.1=k))=true
 ·rw[P7 e,P7 e];exact r.JC k ry
 ·rw[Qa e,Qa e];exact Paired.snoc r ⟨rfl,ry⟩
theorem KV.length(r:KV kvs vs):kvs.length=vs.length:=Paired.length r
end
theorem kY(r:RelV (kV k) u):(aQ P w).is k u=true:=by
 cases k with
 | inl i=>obtain⟨t,e⟩:=(show ∃t,u=Value.int i t from r);subst e;exact pR P w i t
 | inr x=>obtain⟨t,e⟩:=(show ∃t,u=Value.str x t from r);subst e;exact pQ P w x t
theorem vb:∀{ks:List Key} {us:List Value},Vals (ks.map kV) us->ItemsAre (aQ P w) ks us
 | [],_,r=>by rw[Sh] at r;cases r;exact .nil
 | k::ks,_,r=>by
  rw[Qd] at r;cases r with
  | cons h t=>exact .cons (kY h) (vb t)
abbrev KT(H:Hp):List (List Key×V)->List (List Key×Addr×Value)->Prop:=Paired fun p q=>p.1=q.1∧H q.2.1=some (.tup (p.1.map kV))∧RelV p.2 q.2.2
theorem KT.val{H:Hp}{kvs:List (List Key×V)}{xs:List (List Key×Addr×Value)}(r:KT H kvs xs)(k:List Key):tD (jt kvs k) ((atKey xs k).map (·.2)):=by
 induction r with
 | nil=>exact True.intro
 | @cons p q ps qs h t ih=>
  obtain⟨h1,_,h2⟩:=h
  by_cases e:p.1=k
  ·have e':q.1=k:=h1.symm.trans e;have b:atKey (q::qs) k=some q.2:=by simp[atKey,Sn,e']
   rw[qR e,b];exact h2
  ·have e':¬q.1=k:=fun z=>e (h1.trans z);have b:atKey (q::qs) k=atKey qs k:=by simp[atKey,Sn,e']
   rw[mB e,b];exact ih
theorem KT.JC(r:KT H kvs xs)(k:List Key)(ry:RelV y u):
  KT H (kvs.map fun kv=>if kv.1=k then(kv.1,y) else kv) (xs.map (putAt k u)):=by
 induction r with
 | nil=>exact .nil
 | @cons p q ps qs h t ih=>
  rw[Qd,Qd];refine .cons ?_ ih;obtain⟨h1,h2,h3⟩:=h;unfold putAt
  by_cases e:p.1=k
  ·rw[P7 e,P7 (h1.symm.trans e)];exact⟨h1,h2,ry⟩
  ·rw[Qa e,Qa (fun z=>e (h1.trans z))];exact⟨h1,h2,h3⟩
theorem KT.put(r:KT H kvs xs)(k:List Key)(hb:H b=some (.tup (k.map kV)))(ry:RelV y u):
  KT H (putK kvs k y) (storedH xs k b u):=by
 have e:(kvs.any fun kv=>decide (kv.1=k))=(atKey xs k).isSome:=by
  rw[xH,(r.val k).iG,UN]
 unfold putK storedH;rw[e]
 by_cases q:(atKey xs k).isSome=true
 ·rw[P7 q,P7 q];exact r.JC k ry
 ·rw[Qa q,Qa q];exact Paired.snoc r ⟨rfl,hb,ry⟩
theorem KT.keeps(r:KT H kvs xs)(ht:∀b ys,H b=some (.tup ys)->H' b=some (.tup ys)):KT H' kvs xs:=
 Paired.KI r fun _ _ z=>⟨z.1,ht _ _ z.2.1,z.2.2⟩
theorem Iz(ok:kS P w H h)(e:Rd H a u):cL P w H h a u:=e.ok ok
theorem vj(ok:kS P w H h)(e:Rd H a (.dK kvs)):kvs.length≤sizeLine∧(a==sysModules)=false∧∃vs,KV kvs vs∧h.DictOf (aQ P w) a vs:=
 show cL P w H h a (.dK kvs) from Iz ok e
theorem yK(ok:kS P w H h)(e:H a=some (.dK kvs)):kvs.length≤sizeLine∧(a==sysModules)=false∧∃vs,KV kvs vs∧h.DictOf (aQ P w) a vs:=vj ok (.inl e)
theorem sj(ok:kS P w H h)(e:H a=some (.tup (ks.map kV))):(tupleKind (aQ P w)).is h ks a:=by
 obtain⟨_,its,r,o,h1,h2,⟨n,h3⟩,_⟩:=(show cL P w H h a (.tup (ks.map kV)) from ok a _ e);exact⟨o,its.toArray,n,h1,h2,h3,by simpa using vb r⟩
theorem yJ(ok:kS P w H h)(e:Rd H a (.dT kvs)):kvs.length≤sizeLine∧(a==sysModules)=false∧
  ∃xs,KT H kvs xs∧h.DictOfH (tupleKind (aQ P w)) a xs:=by
 obtain⟨z,y,xs,r,o,es,ep,h1,h2,h3,h4,h5⟩:=(show cL P w H h a (.dT kvs) from Iz ok e);refine⟨z,y,xs,r,o,es,ep,h1,h2,h3,h4,fun x hx=>?_,h5⟩;have all:∀{l:List (List Key×V)} {m:List (List Key×Addr×Value)},KT H l m->∀x∈m,(tupleKind (aQ P w)).is h x.1 x.2.1:=by
  intro l m q
  induction q with
  | nil=>intro x hx;exact nomatch hx
  | @cons p q ps qs hq t ih=>
   intro x hx;rcases Qn.mp hx with e | hx
   ·subst e;exact sj ok (by rw[←hq.1];exact hq.2.1)
   ·exact ih x hx
 exact all r x hx
theorem Nb(ok:kS P w H h)(e:H a=some (.dT kvs)):kvs.length≤sizeLine∧(a==sysModules)=false∧
  ∃xs,KT H kvs xs∧h.DictOfH (tupleKind (aQ P w)) a xs:=yJ ok (.inl e)
def uq(H:Hp)(a:Addr)(y:V)(r:Option V):Prop:=
 (∃kvs k,Rd H a (.dK kvs)∧y=kV k∧r=jt kvs k)∨∃kvs k b,Rd H a (.dT kvs)∧y=.ref b∧H b=some (.tup (k.map kV))∧r=jt kvs k
def Im(H:Hp)(a:Addr)(y v:V)(H':Hp):Prop:=
 (∃kvs k,H a=some (.dK kvs)∧y=kV k∧kvs.length < sizeLine∧H'=upd H a (.dK (putK kvs k v)))∨
 ∃kvs k b,H a=some (.dT kvs)∧y=.ref b∧H b=some (.tup (k.map kV))∧kvs.length < sizeLine∧H'=upd H a (.dT (putK kvs k v))
theorem uq.k{H:Hp}{a:Addr}{kvs:List (Key×V)}{k:Key}(e:H a=some (.dK kvs)):uq H a (kV k) (jt kvs k):=.inl ⟨kvs,k,.inl e,rfl,rfl⟩
theorem Im.k{H:Hp}{a:Addr}{kvs:List (Key×V)}{k:Key}{v:V}(e:H a=some (.dK kvs))(hl:kvs.length < sizeLine):Im H a (kV k) v (upd H a (.dK (putK kvs k v))):=.inl ⟨kvs,k,e,rfl,hl,rfl⟩
theorem Inv.big(I:Inv X pins σ H s):sysModules < s.heap.objs.size:=by
 have h:mainGlobals < s.heap.objs.size:=(I.mod.glob.keeps I.bk).lt;exact Ts (by decide) h
theorem CS(hu:A.units+1 < cLine)(I:Inv X pins σ H s)(g:uq H a y (some v))(ry:RelV y u)(h:∀w' s',Inv X pins σ H s'->RelV v w'->Q w' s'):
  wpAny (model X.prog X.w) A (getItem (.ref a) u) Q E s:=by
 rcases g with⟨kvs,k,e,ey,l⟩ |⟨kvs,k,b,e,ey,eb,l⟩
 ·subst ey;obtain⟨z,hd,vs,rel,dd⟩:=vj I.bC e;obtain⟨w',hw,rw'⟩:=tD.some_of (v:=v) (o:=valueAt vs k) (by rw[l];exact rel.val k);exact wpAny_getItem_of (kY ry) dd.mapOf hw (h w' _ (I.tok _) rw')
 ·subst ey;cases(show u=Value.ref b from ry);obtain⟨z,hd,xs,rel,dd⟩:=yJ I.bC e;obtain⟨w',hw,rw'⟩:=tD.some_of (v:=v) (o:=(atKey xs k).map (·.2)) (by rw[l];exact rel.val k);obtain⟨p,hp,hp2⟩:=Qs.mp hw;refine wpAny_getItem_heap (TV hu) (sj I.bC eb) dd hp ?_;rw[hp2];exact h w' _ (I.tok _) rw'
theorem OV(hu:A.units+1 < cLine)(I:Inv X pins σ H s)(g:uq H a y o)(ry:RelV y u)(h:∀s',Inv X pins σ H s'->Q (.bool o.isSome) s'):
  wpAny (model X.prog X.w) A (compareOp .In u (.ref a)) Q E s:=by
 rcases g with⟨kvs,k,e,ey,l⟩ |⟨kvs,k,b,e,ey,eb,l⟩
 ·subst ey;obtain⟨z,hd,vs,rel,dd⟩:=vj I.bC e;refine wpAny_in_of (kY ry) hd dd.mapOf ?_;rw[←(rel.val k).iG,←l];exact h _ (I.tok _)
 ·subst ey;cases(show u=Value.ref b from ry);obtain⟨z,hd,xs,rel,dd⟩:=yJ I.bC e;refine wpAny_in_heap (TV hu) (sj I.bC eb) hd dd ?_;have q:=(rel.val k).iG;rw[UN] at q;rw[←q,←l];exact h _ (I.tok _)
theorem HQ(hu:A.units+1 < cLine)(I:Inv X pins σ H s)(g:uq H a y o)(ry:RelV y u)(h:∀s',Inv X pins σ H s'->Q (.bool (!o.isSome)) s'):
  wpAny (model X.prog X.w) A (compareOp .NotIn u (.ref a)) Q E s:=by
 rcases g with⟨kvs,k,e,ey,l⟩ |⟨kvs,k,b,e,ey,eb,l⟩
 ·subst ey;obtain⟨z,hd,vs,rel,dd⟩:=vj I.bC e;refine wpAny_notIn_of (kY ry) hd dd.mapOf ?_;rw[←(rel.val k).iG,←l];exact h _ (I.tok _)
 ·subst ey;cases(show u=Value.ref b from ry);obtain⟨z,hd,xs,rel,dd⟩:=yJ I.bC e;refine wpAny_notIn_heap (TV hu) (sj I.bC eb) hd dd ?_;have q:=(rel.val k).iG;rw[UN] at q;rw[←q,←l];exact h _ (I.tok _)
theorem qL(I:Inv X pins σ H s)(mu:NG (H a))(hs:Heap.SameBut a s.heap h')(he:∃q,h'.get? a=some q)(new:cL X.prog X.w (upd H a ob) h' a ob):
  Inv X pins σ (upd H a ob) {s with heap:=h',toks:=t'}:=
 I.write (x:=a) (e:=a) mu (.inl rfl) (fun b q hb z=>(hs.2 b hb).trans z) he new
theorem Al(z:kvs.length≤sizeLine)(hd:(a==sysModules)=false)(rel:KV kvs vs)(dd:h'.DictOf (aQ P w) a vs):
  cL P w H' h' a (.dK kvs):=⟨z,hd,vs,rel,dd⟩
theorem CQ(hu:A.units+1 < cLine)(I:Inv X pins σ H s)(g:Im H a y v H')(ry:RelV y u)(rv:RelV v r)(h:∀s',Inv X pins σ H' s'->Q () s'):
  wpAny (model X.prog X.w) A (setItem (.ref a) u r) Q E s:=by
 rcases g with⟨kvs,k,e,ey,l,eH⟩ |⟨kvs,k,b,e,ey,eb,l,eH⟩
 ·subst ey eH;obtain⟨z,hd,vs,rel,dd⟩:=yK I.bC e;have hz:vs.length≤sizeLine:=by rw[←rel.length];exact z
  have hl:(putK kvs k v).length≤sizeLine:=by have:=hG kvs k v;lia
  refine wpAny_setItem_pairs (hsz:=hz) (kY ry) dd fun h' dd' hs=>h _ ?_;have he:∃q,h'.get? a=some q:=let⟨q,_,_,hq,_⟩:=dd';⟨q,hq⟩;exact qL I (by rw[e];exact True.intro) hs he (Al hl hd (rel.put k rv) dd')
 ·subst ey eH;cases(show u=Value.ref b from ry);obtain⟨z,hd,xs,rel,dd⟩:=Nb I.bC e;have hz:xs.length≤sizeLine:=by rw[←Paired.length rel];exact z
  have hl:(putK kvs k v).length≤sizeLine:=by have:=hG kvs k v;lia
  refine wpAny_setItem_heap (hsz:=hz) (TV hu) (sj I.bC eb) dd fun h' dd' hs=>h _ ?_;obtain⟨q,es,ep,hq,h2,h3,h4,_,h5⟩:=dd';refine qL I (by rw[e];exact True.intro) hs ⟨q,hq⟩ ⟨hl,hd,_,(rel.put k eb rv).keeps fun c ys ec=>?_,q,es,ep,hq,h2,h3,h4,h5⟩;rw[aT (MZ ec e (fun z=>nomatch z))];exact ec
theorem Nc(I:Inv X pins σ H s)(e:Rd H a (.dK kvs))(h:∀t s',Inv X pins σ H s'->Q (.int kvs.length t) s'):wpAny (model X.prog X.w) A (call (.builtin "len") [.ref a]) Q E s:=by
 obtain⟨z,hd,vs,rel,dd⟩:=vj I.bC e;refine call_len_dict hd dd (by rw[←rel.length];rw[QL] at z;lia) ?_;rw[←rel.length];exact h _ _ (I.tok _)
def Ik(i:Expr):Prop:=∀ov iv,subscripted i false ov iv=operate [ov,iv] (getItem ov iv)
theorem Gp{prog:Program}{w:World}{A:Around}{E:Value->Shared->Prop}{s:Shared}{env:Env}{value slice:Expr}{pos:Pos}{T id:String}{Q:Value->Shared->Prop}
  (hl:typeLookup (.type T) "__getitem__"=pure (some (.builtin id))) (hs:Ik slice)
  (h:wpAny (model prog w) A (eval value env) (fun o s₁=>wpAny (model prog w) A (eval slice env) (fun i s₂=>s₂.TypeIs o T∧wpAny (model prog w) A (getItem o i) Q E s₂) E s₁) E s):
  wpAny (model prog w) A (eval (.Subscript value slice pos) env) Q E s:=by
 refine Subscript_ (Q5 h (fun o s₁ h₁=>Q5 h₁ (fun i s₂ h₂=>?_) fun _ _ x=>x) fun _ _ x=>x);obtain⟨hT,h₂⟩:=h₂;unfold subscriptTail;refine PZ ?_;rw[getitemInPython_of_ne hT.not_modules];refine PZ (SV hT hl ?_);have fin:wpAny (model prog w) A (subscripted slice false o i) (fun r s₃=>wpAny (model prog w) A (letTemporaryGo value o r >>=fun _=>pure r) Q E s₃) E s₂:=by
  rw[hs o i];exact wpAny_operating (Q5 h₂ (fun r s₃ h₃=>PZ (wpAny_letTemporaryGo (P5 h₃))) fun _ _ x=>x)
 first
  | exact P5 (PZ fin)
  | exact PZ (P5 (PZ fin))
  | exact PZ fin
theorem yL(I:Inv X pins σ H s)(g:uq H a y o):s.TypeIs (.ref a) "dict":=by
 rcases g with⟨kvs,k,e,_,_⟩ |⟨kvs,k,b,e,_,_,_⟩
 ·obtain⟨_,_,vs,_,dd⟩:=vj I.bC e;exact dd.typeIs
 ·obtain⟨_,_,xs,_,dd⟩:=yJ I.bC e;exact dd.typeIs
theorem sF(h:Heap)(hb:sysModules < h.objs.size):cL P w H (h.push {cls:=.type "dict",data:=.dict #[]}) h.objs.size (.dK []):=
 ⟨Q9 _,Th.mpr (Ru (Qo hb)),[],.nil,Heap.DictOf.new h⟩
def Jh:TE:=fun _ H Q=>∀p,H p=none->Q (.ref p) (upd H p (.dK []))
theorem Er:PE X (.Dict [] [] pos) Jh:=fun pins s σ H Q I h=>
 wpAny_Dict_empty ⟨.ref s.heap.objs.size,_,I.laid (a:=s.heap.objs.size) (o:=.dK []) (t':=s.toks) (fun _ _ q=>P2 _ q) (P8 _) (sF s.heap I.big),rfl,h _ (I.bC.fresh (P8 _))⟩
def vM:List (TE×TE)->St->Hp->(List (V×V)->Hp->Prop)->Prop
 | [],_,H,Q=>Q [] H
 |(tk,tv)::r,σ,H,Q=>tk σ H fun x H1=>tv σ H1 fun y H2=>vM r σ H2 fun ps H3=>Q ((x,y)::ps) H3
abbrev VV:List (V×V)->List (Value×Value)->Prop:=Paired fun p q=>RelV p.1 q.1∧RelV p.2 q.2
def LW(X:Cx)(pos:Pos)(keys:List (Option Expr))(values:List Expr)(trs:List (TE×TE)):Prop:=
 ∀(pins:List (Addr×Obj)) (s:Shared) (σ:St) (H:Hp) (Q:List (V×V)->Hp->Prop),Inv X pins σ H s->vM trs σ H Q->
  wpAny (model X.prog X.w) X.A (evalPairs (pairTrees keys values X.env pos)) (fun vs s'=>∃ps H',Inv X pins σ H' s'∧VV ps vs∧Q ps H') X.xe s
theorem GY:LW X pos [] [] []:=fun pins s σ H Q I h=>pairTrees_nil_walk ⟨[],H,I,.nil,h⟩
theorem Ej(hk:PE X k tk)(hv:PE X v tv)(hr:LW X pos ks vs trs):
  LW X pos (some k::ks) (v::vs) ((tk,tv)::trs):=fun pins s σ H Q I h=>
 pairTrees_cons_walk (cN (hk pins s σ H _ I h) fun u s1 ⟨x,H1,I1,rx,q1⟩=>cN (hv pins s1 σ H1 _ I1 q1) fun w2 s2 ⟨y,H2,I2,ry,q2⟩=>
  cN (hr pins s2 σ H2 _ I2 q2) fun ws s3 ⟨ps,H3,I3,rel,q3⟩=>⟨(x,y)::ps,H3,I3,.cons ⟨rx,ry⟩ rel,q3⟩)
noncomputable def jY(kvs more:List (Key×V)):List (Key×V):=more.foldl (fun acc kv=>putK acc kv.1 kv.2) kvs
theorem KV.merge:∀{more:List (Key×V)} {rs:List (Key×Value)} {kvs:List (Key×V)} {vs:List (Key×Value)},KV more rs->KV kvs vs->KV (jY kvs more) (merged vs rs):=by
 intro more rs kvs vs r;unfold KV at r
 induction r generalizing kvs vs with
 | nil=>intro q;exact q
 | @cons p q ps qs h t ih=>
  intro r0;have e:KV (putK kvs p.1 p.2) (stored vs q.1 q.2):=by
   have:=r0.put p.1 h.2;rw[←h.1];exact this
  exact ih e
theorem kX:∀(more kvs:List (Key×V)),(jY kvs more).length≤kvs.length+more.length
 | [],kvs=>by show kvs.length≤kvs.length+0;lia
 | p::r,kvs=>by
  have h1:=kX r (putK kvs p.1 p.2);have h2:=hG kvs p.1 p.2;show(jY (putK kvs p.1 p.2) r).length≤_;rw[Qv];lia
theorem sO:∀{kvs:List (Key×V)} {ws:List (Value×Value)},VV (kvs.map fun kv=>(kV kv.1,kv.2)) ws->∃rs,Carries (aQ P w) ws rs∧KV kvs rs
 | [],_,r=>by rw[Sh] at r;cases r;exact⟨[],True.intro,.nil⟩
 | p::kvs,_,r=>by
  rw[Qd] at r;cases r with
  | @cons a b as bs h t=>
   obtain⟨rs,c,q⟩:=sO (P:=P) (w:=w) t;obtain⟨b1,b2⟩:=b;exact⟨(p.1,b2)::rs,⟨kY h.1,rfl,c⟩,.cons ⟨rfl,h.2⟩ q⟩
def Iv(trs:List (TE×TE)):TE:=fun σ H Q=>∀p,H p=none->vM trs σ (upd H p (.dK [])) fun ps H2=>H2 p=some (.dK [])∧∃kvs:List (Key×V),ps=kvs.map (fun kv=>(kV kv.1,kv.2))∧kvs.length≤15∧Q (.ref p) (upd H2 p (.dK (jY [] kvs)))
theorem G8(h:LW X pos keys values trs)(hall:keys.all (·.isSome)=true)(hl:keys.length=values.length)(h0:keys≠[])(h15:keys.length≤15):PE X (.Dict keys values pos) (Iv trs):=by
 intro pins s σ H Q I q;have hn:=I.bC.fresh (P8 s.heap.objs.size);have I1:=I.laid (a:=s.heap.objs.size) (o:=.dK []) (h':=s.heap.push {cls:=.type "dict",data:=.dict #[]}) (t':=s.toks) (fun _ _ q=>P2 _ q) (P8 _) (sF s.heap I.big);refine wpAny_Dict_walk (knd:=aQ X.prog X.w) hall hl h0 h15 (cN (h pins _ σ _ _ I1 (q _ hn)) fun ws s2 ⟨ps,H2,I2,rel,e,kvs,ep,lk,q2⟩=>?_);subst ep;obtain⟨rs,c,rk⟩:=sO (P:=X.prog) (w:=X.w) rel;obtain⟨z,hd,vs0,r0,dd⟩:=yK I2.bC e;cases r0;refine⟨rs,c,dd,fun h' dd' hs=>⟨.ref s.heap.objs.size,_,?_,rfl,q2⟩⟩;have hz:(jY [] kvs).length≤sizeLine:=by
  have h1:=kX kvs [];rw[RG] at h1;rw[QL];lia
 have he:∃q,h'.get? s.heap.objs.size=some q:=let⟨q,_,_,hq,_⟩:=dd';⟨q,hq⟩;exact qL I2 (by rw[e];exact True.intro) hs he (Al hz hd (rk.merge .nil) dd')
end L2
namespace Att
open PySem PySem.W PySem.Calls PyProof.Rows
theorem qm:∀(ns:List Int)(vs:List Value),WellAll P h vs (ns.map WData.int)->IntsAre vs ns:=by
 intro ns
 induction ns with
 | nil=>
  intro vs w;rw[Sh] at w;cases w;exact .nil
 | cons n ns ih=>
  intro vs w;rw[Qd] at w;cases w with
  | cons a b=>
   cases a;exact .cons _ _ (ih _ b)
theorem BX{l:OpenLaw}{n:Nat}(hn:l.most=some n){P:Params}{h:Heap}{args:List WData}{vals:List Value}
  (hpre:l.row.toRowW.claim.pre args=true) (hwl:WellAll P h vals args):
  ∃a vs ns,vals=[Value.ref a]∧args=[WData.list (ns.map WData.int)]∧h.get? a=some {cls:=.type "list",data:=.seq vs.toArray}∧IntsAre vs ns∧ns.length≤n:=by
 have hsh:WShape.hasAll [] args [.list .int]=true:=(pre_splitW hpre).1;have hc:l.pre.holds [] {args:=args}=true:=(pre_splitW hpre).2;obtain⟨d,r,rfl,h1,h2⟩:=hasAllW_cons hsh;obtain rfl:=hasAllW_nil h2;obtain⟨xs,rfl,h3⟩:=hasW_list h1;obtain⟨ns,rfl⟩:=items_int h3;have hlen:ns.length≤n:=by
  unfold OpenLaw.pre at hc;have h4:(WTm.not (.lt (.lit (.int (n:Int))) (.len (.arg 0)))).holds [] {args:=[.list (ns.map .int)]}=true:=by
   have h4:=(holds_andW hc).1;rw[hn] at h4;exact h4
  have h5:=condW_of h4 (w_not (w_lt w_lit (w_len_list (w_arg rfl))));rw[P1] at h5;refine Nat.le_of_not_lt fun q=>?_;have q':(n:Int) < ((ns.length:Nat):Int):=by lia
  first
   |(rw[QO q'] at h5;exact absurd h5 (by decide))
   |(simp at h5;lia)
 cases hwl with
 | cons w1 w2=>
  cases w2;cases w1 with
  | list ho hall=>exact⟨_,_,ns,rfl,rfl,ho,qm ns _ hall,hlen⟩
theorem Ca(l:OpenLaw)(args:List WData):l.row.toRowW.claim.post args (.bool true) args=true:=
 postW_of (r:=l.row.toRowW) (X:=(true==true))
  (show WShape.has [] (.bool true) .bool=true by first | rfl | decide | simp[WShape.has,WShape.arms,WShape.armsAll])
  (show(WTm.eq .res (.lit (.bool true))).value [] {args:=args,res:=some (.bool true),after:=args}=some (.bool (true==true)) from w_eq_bool (w_res rfl) w_lit) rfl
theorem yX{l:OpenLaw}{n:Nat}{q:Program}{loose:List Str}{XP:(Str->Option Value)->Heap->Prop}{YP:World->Heap->Prop}{d:DefRec}
  (hn:l.most=some n) (hdf:d.params.defaults=[])
  (call:∀(w:World)(s₀ s₁:Shared)(mg mb:Str->Option Value)(fa:Addr)(o:Obj)(pm cd doc:Value)(a:Addr)(vs:List Value)(ns:List Int),
   Ground q loose [] XP w s₀ mg mb s₁.heap->YP w s₁.heap->
   s₁.heap.get? fa=some o->o.data=.func (docDef d.name d.params d.body d.scope pm cd doc)->s₁.heap.CodeRec cd d.name->mg d.name=some (.ref fa)->
   s₁.heap.get? a=some {cls:=.type "list",data:=.seq vs.toArray}->IntsAre vs ns->ns.length≤n->s₁.gens=#[]->
   codeAny (model l.prog w) callerA (.call (.ref fa) ⟨[.ref a],[]⟩) (fun r s'=>r=.ok (.ret (.bool true))∧OldK s₁.heap s'.heap∧s'.os=s₁.os∧AllBare s'.gens) s₁):
  WalkO q loose XP YP l.row.toRowW d [] (fun f vs=>PySem.call f vs):=by
 intro w s₀ s₁ mg mb G Y fa o pm cd doc dV kV ho hd hcd hD hmg hg args vals as hpre hlay hrd hwl hlo;obtain rfl:dV=.none:=Dflts.none hD hdf;obtain rfl:kV=.none:=Dflts.noKw hD;obtain⟨a,vs,ns,rfl,rfl,hobj,hints,hlen⟩:=BX hn hpre hwl;refine enter_call (SN (call w s₀ s₁ mg mb fa o pm cd doc a vs ns G Y ho (fd_plain hd) hcd hmg hobj hints hlen hg) fun r s' hq=>?_);obtain⟨rfl,h2,h3,h4⟩:=hq;exact⟨.inl ⟨.bool true,.bool true,[],rfl,fun _=>rfl,.bool true,Ca l _,fun _=>⟨List.Pairwise.nil,fun _ hm=>(nomatch hm)⟩⟩,h2,h3,h4⟩
section
variable {prog:Program} {w:World} {A:Around} {E:Value->Shared->Prop} {s:Shared} {K:Frag}
end
end Att
namespace L2
open PySem PySem.Spec PyProof.Rows
theorem iC:∀{vs:List Value} {ns:List Int},IntsAre vs ns->Vals (ns.map V.int) vs
 | _,_,.nil=>.nil
 | _,_,.cons n t h=>.cons ⟨t,rfl⟩ (iC h)
def NF(H:Hp):Prop:=∀b,H b=none∨∃o xs,H b=some (.Bk o (.lst xs))
theorem EK{P:Program}{w:World}{K:FR}{mg mb:Str->Option Value}{CX:Io}{k:Nat}{fa a:Addr}{fd:FuncData}{x:Str}{sp:Sp}{s₁:Shared}{vs:List Value}{ns:List Int}
  (KX:K.In s₁.heap) (hns:s₁.heap.Ns mainGlobals mg) (hb:s₁.heap.Ns builtinsNs mb) (hbb:∀x:Str,x≠"__name__"->mb x=bootBuiltins x) (hlim:s₁.heap.NoLimit) (hg:s₁.gens=#[])
  (ha:s₁.heap.get? a=some {cls:=.type "list",data:=.seq vs.toArray}) (hi:IntsAre vs ns) (hl:ns.length≤sizeLine) (hr:gZ k callerA)
  (F:∀base:Heap,K.In base->base.Ns mainGlobals mg->bK P w K mg base CX k fa fd [x] sp) (hbind:∀(s:Shared)(u:Value),BindsTo s fd ⟨[u],[]⟩ [(x,u)])
  (hsp:∀H:Hp,NF H->gA K H a (ns.map V.int)->sp [.ref a] H (fun v _=>v=.bl true) fun _ _ _=>False)
  (hCX:∀H e s',CX [] H s₁ (fun _ _ _=>False) e s'->False):
  codeAny (model P w) callerA (.call (.ref fa) ⟨[.ref a],[]⟩) (fun r s'=>r=.ok (.ret (.bool true))∧OldK s₁.heap s'.heap∧s'.os=s₁.os∧AllBare s'.gens) s₁:=by
 have rv:=iC hi;have lenV:=hi.length;have core:∀H:Hp,NF H->gA K H a (ns.map V.int)->kS P w H s₁.heap->(∀b,H b≠none->b=a)->(H a≠none->K.lookup a=none)->
   codeAny (model P w) callerA (.call (.ref fa) ⟨[.ref a],[]⟩) (fun r s'=>r=.ok (.ret (.bool true))∧OldK s₁.heap s'.heap∧s'.os=s₁.os∧AllBare s'.gens) s₁:=by
  intro H hO hS bC hA hK;have base_of:∀{b:Addr} {o:Obj},s₁.heap.get? b=some o->H b=none->(wU s₁.heap H).get? b=some o:=fun e n=>EV e n;have noA:∀{b:Addr} {o:Obj} {es:Array DictEntry} {ep:Nat},s₁.heap.get? b=some o->o.data=.dict es ep->H b=none:=fun {b o es ep} e d=>by
   cases q:H b with
   | none=>rfl
   | some u=>
    have e':b=a:=hA b (by rw[q];simp);subst e';rw[ha] at e;cases e;have d':Data.seq vs.toArray _=Data.dict es ep:=d;cases d'
  have nsK:∀{b:Addr} {m:Str->Option Value},s₁.heap.Ns b m->(wU s₁.heap H).Ns b m:=fun {b m} ⟨o,es,ep,e,d,r⟩=>⟨o,es,ep,base_of e (noA e d),d,r⟩;have hKb:K.In (wU s₁.heap H):=fun b o e=>base_of (KX b o e) (by
   cases q:H b with
   | none=>rfl
   | some u=>
    have e':b=a:=hA b (by rw[q];simp);subst e';rw[hK (by rw[q];simp)] at e;cases e)
  have hM:Mod K mg (wU s₁.heap H):=⟨hKb,nsK hns,⟨mb,nsK hb,hbb⟩,let⟨mc,h1,h2⟩:=hlim;⟨mc,nsK h1,h2⟩⟩;have e0:Il P w K mg (wU s₁.heap H) callerA [] s₁ H:=⟨rfl,hM,fun b o e=>Hj e,Nat.le_of_eq (CB _ _),trivial,fun b hb=>absurd (show b∈([]:List Addr) from hb) (by simp),bC,.of_eq hg⟩;refine SN ((F _ hKb (nsK hns)).run callerA [] s₁ H ⟨[.ref a],[]⟩ [.ref a] [.ref a] _ _ hr e0 (hbind s₁ (.ref a)) (.cons rfl .nil) (hsp H hO hS)) fun r s' h=>?_;cases r with
  | error e=>exact(hCX H e s' h).elim
  | ok fl=>
   cases fl with
   | next=>exact False.elim h
   | brk=>exact False.elim h
   | cont=>exact False.elim h
   | ret u=>
    obtain⟨v,H',os,bare,un,hok',r',q⟩:=h;have q':v=.bl true:=q;subst q';obtain rfl:u=Value.bool true:=r';refine⟨rfl,OldK.of_keep fun b o e=>?_,os,bare⟩;cases q:H b with
    | none=>exact un.keep b o e q (by intro z;exact absurd (show b∈([]:List Addr) from z) (by simp)) (by simp)
    | some u=>
     rcases hO b with z |⟨ob,xs,z⟩
     ·rw[q] at z;cases z
     ·have z2:=un.ub b ob _ z;obtain⟨e1,_⟩:=bC b _ z;obtain⟨e2,_⟩:=hok' b _ z2;rw[e] at e1;cases e1;exact e2
 cases hk:K.lookup a with
 | some o=>
  have e:=KX a o hk;rw[ha] at e;cases e;refine core (fun _=>none) (fun _=>.inl rfl) (.inr ⟨_,vs.toArray,_,hk,rfl,rfl,rfl,by rw[Qh,lenV];exact hl,by simpa using rv⟩) (fun b u z=>by have z':(none:Option HO)=some u:=z;cases z') (fun b z=>absurd rfl z) fun z=>absurd rfl z
 | none=>
  refine core (fun b=>if b=a then some (.Bk {cls:=.type "list",data:=.seq vs.toArray} (.lst (ns.map V.int))) else none) (fun b=>?_) (.inl (.inr ⟨{cls:=.type "list",data:=.seq vs.toArray},P7 rfl⟩)) (fun b u z=>?_) (fun b z=>?_) fun _=>hk
  ·by_cases hb:b=a
   ·exact .inr ⟨_,_,P7 hb⟩
   ·exact .inl (Qa hb)
  ·by_cases hb:b=a
   ·have z':=(P7 hb).symm.trans z;cases z';subst hb;exact⟨ha,by rw[P1];exact hl,vs,_,rv,ha⟩
   ·have z':=(Qa hb).symm.trans z;cases z'
  ·by_cases hb:b=a
   ·exact hb
   ·exact absurd (Qa hb) z
noncomputable def nA(s:Stmt):Arguments:=match s with
 | .FunctionDef _ a _ _ _ _ _ _ _ _=>a
 | _=>{posonlyargs:=[],args:=[],vararg:=none,kwonlyargs:=[],kw_defaults:=[],kwarg:=none,defaults:=[]}
noncomputable def jh(s:Stmt):List Stmt:=match s with
 | .FunctionDef _ _ b _ _ _ _ _ _ _=>b
 | _=>[]
noncomputable def ax(s:Stmt):Scope:=match s with
 | .FunctionDef _ _ _ _ _ _ sc _ _ _=>sc
 | _=>{kind:=.function,names:=[],isGenerator:=false,isCoroutine:=false}
abbrev fH:Io:=fun _ _ _ _ _ _=>False
abbrev E0:XK:=fun _ _ _=>False
theorem MT:Passes fH X E0:=fun _ _ _ _ _ _ _ h=>h.elim
structure gg(K:FR)(x qual:Str)(st:Stmt)(f:Addr)(fd:FuncData):Prop where
 ex:∃(oc:Value)(od:Option Addr)(kV doc pm:Value)(an:Option Addr)(cdv ct:Value)(osl:Array (Option Value)),
  fd=PySem.W.fnOf x qual (nA st) (jh st) (ax st) .none kV doc pm an cdv ct∧K.lookup f=some ⟨oc,od,.func fd,osl⟩∧PySem.W.codeIn K cdv qual=true
 kp:PySem.W.keepIn K (.ref f)=true
section
variable {P:Program} {w:World} {K:FR} {mg:Str->Option Value} {base:Heap}
theorem gg.ok{x qual:Str}{st:Stmt}{f:Addr}{fd:FuncData}{N ps:List Str}{k:Nat}{sp:Sp}(F:gg K x qual st f fd)(S:aD N ps (ax st))(len:∀vs H Q E,sp vs H Q E->vs.length=ps.length)
  (hbody:∀(cdv:Value)(A:Around)(outer:List Env)(s:Shared)(H:Hp)(vs:List V)(Q:VK)(E:XK),gZ k (A.deeper (envOfC qual (ax st) s.heap.objs.size f cdv))->sp vs H Q E->
   ∃t,y7 (An fH P w K mg base N qual (ax st) f cdv A outer s H E).MY (jh st) t∧t {nx:=fun _ H'=>Q .cC H',rt:=Q} (start N vs) H):bK P w K mg base fH (k+1) f fd ps sp:=by
 obtain⟨oc,od,kV,doc,pm,an,cdv,ct,osl,rfl,lk,hcd⟩:=F.ex;refine M7 lk hcd S len fun A outer s H vs Q E hr hsp=>?_;obtain⟨t,h,q⟩:=hbody cdv A outer s H vs Q E hr hsp;exact⟨t,h.MY,q⟩
theorem gg.binds{x qual:Str}{st:Stmt}{f:Addr}{fd:FuncData}{ps:List Str}(F:gg K x qual st f fd)
  (h:∀(kV doc pm:Value)(an:Option Addr)(cdv ct:Value)(us:List Value),us.length=ps.length->bindArgs (PySem.W.fnOf x qual (nA st) (jh st) (ax st) .none kV doc pm an cdv ct) ⟨us,[]⟩=pure (ps.zip us)):Binds K fd ps []:=by
 obtain⟨oc,od,kV,doc,pm,an,cdv,ct,osl,rfl,lk,hcd⟩:=F.ex;exact .all (h kV doc pm an cdv ct)
end
theorem C8:eN X (.builtin "len") (fun xs H Q=>∃a kvs,xs=[V.ref a]∧H a=some (.dK kvs)∧Q (.int kvs.length) H):=by
 intro pins s σ H xs us Q I r h;obtain⟨a,kvs,rfl,ha,q⟩:=h;obtain⟨u,rfl,ru⟩:=vals1 r;cases ru;exact Nc I (.inl ha) fun t s' I'=>⟨.int kvs.length,H,I',⟨t,rfl⟩,q⟩
theorem K6{A B:Prop}(h:B):if false=true then A else B:=by
 rw[Qa QZ];exact h
theorem K5{A B:Prop}(h:A):if true=true then A else B:=by
 rw[P7 rfl];exact h
section
variable {κ:Type} [DecidableEq κ]
end
theorem kS.off(ok:kS P w H h)(hC:H C=none)(k:∀b u,b≠C->h.get? b=some u->h'.get? b=some u):kS P w H h':=by
 intro a o e;have ne:a≠C:=by rintro rfl;rw[hC] at e;cases e
 refine(ok a o e).xK (fun b u hb q=>k b u ?_ q) (fun _ x=>x) (fun _ _ x=>x);rcases hb with rfl | hb
 ·exact ne
 ·rintro rfl;rw[hC] at hb;cases hb
noncomputable def iy(env:Env):List (Str×NameKind)->List (Str×Addr)->List (Str×Addr)
 | [],acc=>acc
 |(n,k)::r,acc=>if(k==NameKind.free)=true then iy env r ((n,(env.cells.lookup n).getD 0)::acc) else iy env r acc
theorem ji(h:∀y∈scope.names,y.2=.free->∃c,env.cells.lookup y.1=some c):closureFor scope env=pure (iy env scope.names []):=by
 have key:∀(names:List (Str×NameKind)) (acc:List (Str×Addr)),(∀y∈names,y.2=.free->∃c,env.cells.lookup y.1=some c)->
   (forIn names acc (fun(x:Str×NameKind)(r:List (Str×Addr))=>match x with
    |(name,kind)=>if(kind==NameKind.free)=true then do let a←cellOf env name;pure (ForInStep.yield ((name,a)::r)) else pure (ForInStep.yield r)):Sem (List (Str×Addr)))=pure (iy env names acc):=by
  intro names
  induction names with
  | nil=>intro acc _;rfl
  | cons y r ih=>
   intro acc hy;obtain⟨n,k⟩:=y;have hr:=fun a=>ih a fun z hz=>hy z (Qc _ hz);rw[UZ];unfold iy
   by_cases hk:(k==NameKind.free)=true
   ·have hk':k=.free:=by simpa using hk
    obtain⟨c,hc⟩:=hy (n,k) Qe hk';have e:cellOf env n=pure c:=by unfold cellOf;rw[hc]
    simp only[hk,SR,e,hc,Option.getD_some];exact hr _
   ·simp only[hk,RO];exact hr _
 have k:=key scope.names [] h;unfold closureFor;dsimp only;rw[k];rfl
theorem pb:∀(names:List (Str×NameKind)) (acc:List (Str×Addr)),(∀y∈names,y.2=.free->∃c,env.cells.lookup y.1=some c)->
  (∀d,acc.lookup x=some d->env.cells.lookup x=some d)->(iy env names acc).lookup x=some c->env.cells.lookup x=some c
 | [],acc,_,ha,h=>ha c h
 |(n,k)::r,acc,hy,ha,h=>by
  unfold iy at h;have hr:=fun z hz=>hy z (Qc _ hz)
  by_cases hk:(k==NameKind.free)=true
  ·rw[P7 hk] at h;refine pb r _ hr (fun d hd=>?_) h;have hk':k=.free:=by simpa using hk
   obtain⟨c',hc⟩:=hy (n,k) Qe hk';rw[QX] at hd;cases hx:x==n with
   | true=>
    rw[hx] at hd;have e:x=n:=by simpa using hx
    rw[e,hc];rw[hc] at hd;exact hd
   | false=>
    rw[hx] at hd;exact ha d hd
  ·rw[Qa hk] at h;exact pb r _ hr ha h
theorem sL:∀(names:List (Str×NameKind)) (acc:List (Str×Addr)),(∃c,acc.lookup x=some c)->∃c,(iy env names acc).lookup x=some c
 | [],_,h=>h
 |(n,k)::r,acc,h=>by
  unfold iy
  by_cases hk:(k==NameKind.free)=true
  ·rw[P7 hk];refine sL r _ ?_;rw[QX];cases hx:x==n with
   | true=>exact⟨_,rfl⟩
   | false=>exact h
  ·rw[Qa hk];exact sL r _ h
theorem nF:∀(names:List (Str×NameKind)) (acc:List (Str×Addr)),(x,NameKind.free)∈names->∃c,(iy env names acc).lookup x=some c
 | [],_,h=>by cases h
 |(n,k)::r,acc,h=>by
  unfold iy;rcases Qn.mp h with e | h'
  ·injection e with e1 e2
   subst e1 e2;rw[P7 (by rfl)];refine sL r _ ⟨(env.cells.lookup x).getD 0,?_⟩;rw[QX,RP]
  ·by_cases hk:(k==NameKind.free)=true
   ·rw[P7 hk];exact nF r _ h'
   ·rw[Qa hk];exact nF r _ h'
theorem i7{env:Env}:∀{names:List (Str×NameKind)} {x:Str} {j:NameKind},
  (names.map fun(n,k)=>if(k==NameKind.free&&env.scope.kind==.function&&env.kindOf n==some .cell) then(n,NameKind.cell) else(n,k)).lookup x=some j->
  ∃k,names.lookup x=some k∧(j=k∨(k=.free∧j=.cell))
 | [],_,_,h=>by simp at h
 |(n,k)::r,x,j,h=>by
  have h':List.lookup x ((if(k==NameKind.free&&env.scope.kind==.function&&env.kindOf n==some .cell)=true then(n,NameKind.cell) else(n,k))::_)=some j:=h;rw[QX];cases hx:x==n with
  | true=>
   refine⟨k,rfl,?_⟩
   by_cases hc:(k==NameKind.free&&env.scope.kind==.function&&env.kindOf n==some .cell)=true
   ·rw[P7 hc,QX,hx] at h';simp only[Qq,SK] at hc;exact .inr ⟨hc.1.1,(Option.some.inj h').symm⟩
   ·rw[Qa hc,QX,hx] at h';exact .inl (Option.some.inj h').symm
  | false=>
   by_cases hc:(k==NameKind.free&&env.scope.kind==.function&&env.kindOf n==some .cell)=true
   ·rw[P7 hc,QX,hx] at h';exact i7 h'
   ·rw[Qa hc,QX,hx] at h';exact i7 h'
theorem i8{env:Env}:∀{names:List (Str×NameKind)} {x:Str},names.lookup x=some .free->
  (names.map fun(n,k)=>if(k==NameKind.free&&env.scope.kind==.function&&env.kindOf n==some .cell) then(n,NameKind.cell) else(n,k)).lookup x=some .cell∨
  (names.map fun(n,k)=>if(k==NameKind.free&&env.scope.kind==.function&&env.kindOf n==some .cell) then(n,NameKind.cell) else(n,k)).lookup x=some .free
 | [],_,h=>by simp at h
 |(n,k)::r,x,h=>by
  rw[Qd];show List.lookup x ((if(k==NameKind.free&&env.scope.kind==.function&&env.kindOf n==some .cell)=true then(n,NameKind.cell) else(n,k))::_)=_∨List.lookup x ((if(k==NameKind.free&&env.scope.kind==.function&&env.kindOf n==some .cell)=true then(n,NameKind.cell) else(n,k))::_)=_;rw[QX] at h;cases hx:x==n with
  | true=>
   rw[hx] at h;have hk:k=.free:=Option.some.inj h
   by_cases hc:(k==NameKind.free&&env.scope.kind==.function&&env.kindOf n==some .cell)=true
   ·rw[P7 hc,QX,hx];exact .inl rfl
   ·rw[Qa hc,QX,hx,hk];exact .inr rfl
  | false=>
   rw[hx] at h
   by_cases hc:(k==NameKind.free&&env.scope.kind==.function&&env.kindOf n==some .cell)=true
   ·rw[P7 hc,QX,hx];exact i8 h
   ·rw[Qa hc,QX,hx];exact i8 h
abbrev gx(X:Cx)(N':List Str)(scope:Scope)(C:Addr)(s₃:Shared)(H₃:Hp)(fp:List Addr)(pl:List (Addr×Obj)):Cx:=
 {X with N:=N',s₀:=s₃,H₀:=H₃,env:=compEnvC scope (iy X.env scope.names []) C X.env,outer:=X.stack,ex:=fp,fn:=fun _=>false,calm:=true,pn:=X.pn++pl,xe:=fun _ _=>False}
structure bz(X:Cx)(N':List Str)(caps:List (Option Nat))(scope:Scope):Prop where
 kind:scope.kind=.function
 zQ:∀y∈scope.names,y.2≠.cell
 names:∀y∈scope.names,y.2=.local->scope.names.lookup y.1=some .local
 Fz:∀y∈scope.names,y.2=.free->X.env.kindOf y.1=some .cell∨X.env.kindOf y.1=some .free
 len:caps.length=N'.length
 PU:∀(j i:Nat)(x:Str),caps[j]?=some (some i)->N'[j]?=some x->X.N[i]?=some x∧scope.names.lookup x=some .free
 nd:N'.Nodup
noncomputable def pf(caps:List (Option Nat))(σ:St):St:=caps.map fun o=>o.bind fun i=>(σ[i]?).join
theorem bz.has(S:bz X N' caps scope)(ok:X.Ok):∀y∈scope.names,y.2=.free->∃c,X.env.cells.lookup y.1=some c:=fun y hy e=>ok.has y.1 (S.Fz y hy e)
theorem bz.look(S:bz X N' caps scope)(ok:X.Ok)(h:(iy X.env scope.names []).lookup x=some c):X.env.cells.lookup x=some c:=
 pb scope.names [] (S.has ok) (fun _ z=>by simp at z) h
theorem Inv.block(S:bz X N' caps scope)(I:Inv X pins σ H s₃)(hc:X.calm=true)(hf:∀b∈fp,gV X pins H b)(hlt:∀b∈fp,b < s₃.heap.objs.size){h₄:Heap}{t₄:Nat}{m₄:Str->Option Value}
  (hn:h₄.Ns s₃.heap.objs.size m₄) (hk:∀b o,s₃.heap.get? b=some o->h₄.get? b=some o):
  Inv (gx X N' scope s₃.heap.objs.size s₃ H fp pins) [] (pf caps σ) H {s₃ with heap:=h₄,toks:=t₄}:=by
 have ok:=I.ok;have fresh:∀b o,s₃.heap.get? b=some o->b≠s₃.heap.objs.size:=fun b o e=>Qo (Qf e);have cellOk:∀x c,(iy X.env scope.names []).lookup x=some c->∃v,s₃.heap.IsCell c v:=fun x c e=>I.cell x c (S.look ok e);refine⟨⟨ok.mod,?_,ok.glob,ok.blt,P8 _,?_,?_,?_,fun _=>ok.hd hc,ok.frames,.inl rfl,?_,I.bs,?_,?_,?_,I.stack,I.AN⟩,rfl,I.bare,Un.kept hk,?_,?_,I.bC.fresh (P8 _),?_,?_,I.bC.kept hk,?_⟩
 ·show(relabel scope X.env).kind=.function;exact S.kind
 ·intro x y c h1 h2;exact ok.inj x y c (S.look ok h1) (S.look ok h2)
 ·intro x hx;have hx':(relabel scope X.env).names.lookup x=some .cell∨(relabel scope X.env).names.lookup x=some .free:=hx;have key:∀j,(relabel scope X.env).names.lookup x=some j->j=.cell∨j=.free->∃c,(iy X.env scope.names []).lookup x=some c:=by
   intro j hj hjk;obtain⟨k,hk1,hk2⟩:=i7 hj;have hm:=RC hk1;have hkf:k=.free:=by
    rcases hk2 with rfl |⟨e,_⟩
    ·rcases hjk with rfl | e
     ·exact absurd rfl (S.zQ _ hm)
     ·exact e
    ·exact e
   subst hkf;exact nF scope.names [] hm
  rcases hx' with h | h
  ·exact key _ h (.inl rfl)
  ·exact key _ h (.inr rfl)
 ·intro x c h _;exact absurd (show false=true from h) (by decide)
 ·intro b hb;refine⟨Qo (hlt b hb),fun x c h=>(hf b hb).2.2.2.2.1 x c (S.look ok h)⟩
 ·exact Qm ok.IP I.sz
 ·intro b o e hb;rcases(hf b hb).2.2.2.1 with z | z
  ·exact ok.EA b o e z
  ·exact absurd (QF (Qf e) ok.IP) (U3.mpr z)
 ·intro b hb z;rcases Qn.mp (I.oo b z) with e | e
  ·exact(hf b hb).2.1 e
  ·exact(hf b hb).2.2.1 e
 ·refine⟨m₄,hn,fun j x v e1 e2 e3=>?_⟩;have e2':(caps.map fun o=>o.bind fun i=>(σ[i]?).join)[j]?=some (some v):=e2;rw[Qi] at e2';cases hcj:caps[j]? with
  | none=>rw[hcj] at e2';cases e2'
  | some oi=>
   rw[hcj] at e2';have e2'':(oi.bind fun i=>(σ[i]?).join)=some v:=Option.some.inj e2';cases oi with
   | none=>cases e2''
   | some i=>
    have hσ:(σ[i]?).join=some v:=e2'';have hσ':σ[i]?=some (some v):=by
     cases hs:σ[i]? with
     | none=>rw[hs] at hσ;cases hσ
     | some w=>rw[hs] at hσ;rw[show w=some v from hσ]
    obtain⟨hX,hfr⟩:=S.PU j i x hcj e1;obtain⟨m,_,hl⟩:=I.loc;have hcgt:=S.Fz _ (RC hfr) rfl;have hvis:LU X.env.scope x:=by
     rcases hcgt with z | z
     ·exact .inr (.inl z)
     ·exact .inr (.inr z)
    obtain⟨u,ru,lk⟩:=hl i x v hX hσ' hvis;refine⟨u,ru,.inr ⟨?_,?_⟩⟩
    ·exact i8 hfr
    ·obtain⟨c,hcc⟩:=nF (env:=X.env) scope.names [] (RC hfr);refine⟨c,hcc,?_⟩;rcases lk with⟨z,_⟩ |⟨_,c',hc',hcell⟩
     ·have z':X.env.kindOf x=some .local:=z;rcases hcgt with q | q
      ·rw[z'] at q;cases q
      ·rw[z'] at q;cases q
     ·have:=S.look I.ok hcc;rw[this] at hc';cases hc';obtain⟨o,ho,hd⟩:=hcell;exact⟨o,hk _ _ ho,hd⟩
 ·intro x c h;obtain⟨v,o,ho,hd⟩:=cellOk x c h;exact⟨v,o,hk _ _ ho,hd⟩
 ·intro x c h;exact I.j6 x c (S.look ok h)
 ·intro p hp;have hp':p∈X.pn++pins:=by
   rcases Qx.mp hp with z | z
   ·exact z
   ·cases z
  obtain⟨e,n,ne,nf,d⟩:=I.pin p hp';refine⟨hk _ _ e,n,fresh _ _ e,fun z=>?_,d⟩;rcases Qn.mp (I.oo p.1 z) with q | q
  ·exact ne q
  ·exact nf q
 ·show(caps.map _).length=N'.length;rw[P1];exact S.len
theorem Inv.qt(S:bz X N' caps scope)(I:Inv X pins σ H s₃)(hf:∀b∈fp,gV X pins H b)(J:Inv (gx X N' scope s₃.heap.objs.size s₃ H fp pins) [] τ H' s')(hs:∀b u,b≠s₃.heap.objs.size->s'.heap.get? b=some u->h''.get? b=some u):Inv X pins σ H' {s' with heap:=h''}:=by
 have hC:H' s₃.heap.objs.size=none:=J.free;have u:Un (Dn X.stack) fp H H' s₃.heap h'':=by
  have b:=J.base;have ne:∀x o,s₃.heap.get? x=some o->x≠s₃.heap.objs.size:=fun x o e=>Qo (Qf e);refine⟨fun x o e n hx hb=>hs _ _ (ne x o e) (b.keep x o e n hx hb),fun x o e n hx hb=>?_,b.free,fun x o e hb=>?_,b.vJ,b.ub,b.vL⟩
  ·obtain⟨sl,q⟩:=b.slot x o e n hx hb;exact⟨sl,hs _ _ (ne x o e) q⟩
  ·obtain⟨o',q⟩:=b.there x o e hb;exact⟨o',hs _ _ (ne x o e) q⟩
 exact I.call' (s':={s' with heap:=h''}) (ch:=fp) J.os u (J.bC.off hC hs) J.bare fun b hb=>⟨(hf b hb).2.2.2.1,(hf b hb).2.1,(hf b hb).2.2.2.2.1,(hf b hb).2.2.2.2.2⟩
def F7(X:Cx)(ifs:List Expr)(t:TT):Prop:=
 ∀(pins:List (Addr×Obj)) (s:Shared) (σ:St) (H:Hp) (Q:Bool->Hp->Prop),Inv X pins σ H s->t σ H Q->
  wpAny (model X.prog X.w) X.A (forIn ifs true fun c r=>if r=true then do let ok←isTrue c X.env (eval c X.env);pure (ForInStep.yield ok) else pure (ForInStep.yield r)) (TP X pins σ Q) X.xe s
def bS:TT:=fun _ H Q=>Q true H
theorem G3:F7 X [] bS:=fun pins s σ H Q I h=>wpAny_tests_nil ⟨H,I,h⟩
theorem G2(h:PT X c t):F7 X [c] t:=fun pins s σ H Q I q=>wpAny_tests_one (h pins s σ H Q I q)
def NI(J:It)(g:TG)(tc:TT)(te:TE)(l:Addr)(Q:VK)(τ0:St)(H0:Hp):Prop:=
 ∃W:Nat->Nat->St->Hp->Prop,(∃m,W 0 m τ0 H0)∧∀i m τ H2,W i m τ H2->
  (J.stop i H2∧Q (.ref l) H2)∨(J.go i H2∧∃N:St->Hp->Prop,(∀τ' H',N τ' H'->∃m',m' < m∧W (i+1) m' τ' H')∧∀x H',J.Iq i H2 x H'->g x τ H' fun τ2 H3=>
   tc τ2 H3 fun b H4=>if b=true then te τ2 H4 fun y H5=>∃xs,H5 l=some (.lst xs)∧xs.length < sizeLine∧N τ2 (upd H5 l (.lst (xs++[y]))) else N τ2 H4)
def DD(caps:List (Option Nat))(wi:TI)(g:TG)(tc:TT)(te:TE):TE:=fun σ H Q=>wi σ H fun J H1=>∀l,H1 l=none->NI J g tc te l Q (pf caps σ) (upd H1 l (.lst []))
theorem Mc(h:wpAny M A t Q (fun _ _=>False) s):wpAny M A t Q E s:=Q5 h (fun _ _ q=>q) fun _ _ f=>f.elim
theorem CV(S:bz X N' caps scope)(hc:X.calm=true)(hg:∀C s₃ H₃ fp pl,PG (gx X N' scope C s₃ H₃ fp pl) tg g)(hif:∀C s₃ H₃ fp pl,F7 (gx X N' scope C s₃ H₃ fp pl) ifs tc)
  (he:∀C s₃ H₃ fp pl,PE (gx X N' scope C s₃ H₃ fp pl) elt te) {pins:List (Addr×Obj)} {σ:St} {H3:Hp} {s3:Shared} {h₁:Heap} {t₁:Nat} {m₁:Str->Option Value} {it l:Addr} {fp:List Addr} {tn:Nat->Heap->Prop} {J:It}
  (I3:Inv X pins σ H3 s3) (T:Turn X.prog X.w X.K tg J fp it tn) (st3:tn 0 h₁) (hf3:∀b∈fp,gV X pins H3 b) (hlt3:∀b∈fp,b < s3.heap.objs.size) (hns₁:h₁.Ns s3.heap.objs.size m₁) (keep3:∀b o,s3.heap.get? b=some o->h₁.get? b=some o)
  {Q:VK} {RR:Value->Addr->Result->Shared->Prop} {W:Nat->Nat->St->Hp->Prop} {m0:Nat} (w0:W 0 m0 (pf caps σ) H3) (turn:∀i m τ H2,W i m τ H2->
   (J.stop i H2∧Q (.ref l) H2)∨(J.go i H2∧∃N:St->Hp->Prop,(∀τ' H',N τ' H'->∃m',m' < m∧W (i+1) m' τ' H')∧∀x H',J.Iq i H2 x H'->g x τ H' fun τ2 H3=>
    tc τ2 H3 fun b H4=>if b=true then te τ2 H4 fun y H5=>∃xs,H5 l=some (.lst xs)∧xs.length < sizeLine∧N τ2 (upd H5 l (.lst (xs++[y]))) else N τ2 H4))
  (hRR:∀(l C:Addr)(H':Hp)(s':Shared),H' C=none->C≠X.env.locals->X.s₀.heap.objs.size≤C->(∀x c,X.env.cells.lookup x=some c->c≠C)->(∀p∈X.pn++pins,p.1≠C)->(∃m,s'.heap.Ns C m)->Inv X pins σ H' s'->
   (∀h'':Heap,(∀b u,b≠C->s'.heap.get? b=some u->h''.get? b=some u)->Inv X pins σ H' {s' with heap:=h''})->Q (.ref l) H'->RR (.ref l) C (.ok .next) s'):
  codeAny (model X.prog X.w) X.A (.compStart (.ListComp elt [⟨tg,iter,ifs,0⟩] scope pos) 0 (.ref it) (.ref l) (compEnvC scope (iy X.env scope.names []) s3.heap.objs.size X.env))
   (RR (.ref l) s3.heap.objs.size) {s3 with heap:=h₁,toks:=t₁}:=by
 have J0:Inv (gx X N' scope s3.heap.objs.size s3 H3 fp pins) [] (pf caps σ) H3 {s3 with heap:=h₁,toks:=t₁}:=Inv.block S I3 hc hf3 hlt3 hns₁ keep3;have fpB:∀{H':Hp},(∀b∈fp,H' b=none)->∀b∈fp,gV (gx X N' scope s3.heap.objs.size s3 H3 fp pins) [] H' b:=fun {H'} hn b hb=>by
  obtain⟨f0,f1,f2,f3,f4,f5⟩:=hf3 b hb;refine⟨hn b hb,Qo (hlt3 b hb),fun z=>?_,.inl hb,fun x c e=>f4 x c (S.look I3.ok e),fun p hp=>?_⟩
  ·rcases Qn.mp (I3.oo b z) with q | q
   ·exact f1 q
   ·exact f2 q
  ·rcases Qx.mp hp with q | q
   ·exact f5 p q
   ·cases q
 have fin:∀{τ:St} {H':Hp} {s':Shared},Inv (gx X N' scope s3.heap.objs.size s3 H3 fp pins) [] τ H' s'->Q (.ref l) H'->RR (.ref l) s3.heap.objs.size (.ok .next) s':=fun {τ H' s'} J q=>by
  refine hRR _ _ H' s' J.free ?_ ?_ ?_ ?_ ?_ ?_ ?_ q
  ·exact(Qo I3.lt).symm
  ·exact I3.sz
  ·intro x c e z;obtain⟨v,o,ho,_⟩:=I3.cell x c e;exact Qo (Qf ho) z
  ·intro p hp z;obtain⟨e,_⟩:=I3.pin p hp;exact Qo (Qf e) z
  ·obtain⟨m,hm,_⟩:=J.loc;exact⟨m,hm⟩
  ·have:=Inv.qt S I3 hf3 J (h'':=s'.heap) fun b u _ e=>e;exact this
  ·exact fun h'' hs=>Inv.qt S I3 hf3 J hs
 have loop:codeAny (model X.prog X.w) X.A (.compLoop (.ListComp elt [⟨tg,iter,ifs,0⟩] scope pos) 0 (.ref it) (.ref l) (compEnvC scope (iy X.env scope.names []) s3.heap.objs.size X.env))
   (RR (.ref l) s3.heap.objs.size) {s3 with heap:=h₁,toks:=t₁}:=by
  refine codeAny_loop rfl (fun n s'=>∃i τ H',Inv (gx X N' scope s3.heap.objs.size s3 H3 fp pins) [] τ H' s'∧tn i s'.heap∧(∀b∈fp,H' b=none)∧W i n τ H') ?_ m0 ⟨0,_,_,J0,st3,fun b hb=>(hf3 b hb).1,w0⟩;rintro n s4 ⟨i,τ,H4,J4,st4,fr4,w4⟩;show wpAny _ X.A ((compTurn (.ListComp elt [⟨tg,iter,ifs,0⟩] scope pos) 0 (.ref it) (.ref l) (compEnvC scope (iy X.env scope.names []) s3.heap.objs.size X.env)).onRaise (fun x=>do noteFrame x (compEnvC scope (iy X.env scope.names []) s3.heap.objs.size X.env);theTreesLotGoes x)) _ _ s4;refine wpAny_noted ?_;rw[compTurn_list];rcases turn i n τ H4 w4 with⟨stop,qn⟩ |⟨go,N,hN,step⟩
  ·refine PZ (RM (PZ (Q5 (T.done (gx X N' scope s3.heap.objs.size s3 H3 fp pins) rfl rfl rfl rfl i [] s4 τ H4 _ J4 (fpB fr4) st4 stop) (fun r s5 h5=>?_) fun _ _ e=>e)));obtain⟨hr,J5⟩:=h5;subst hr;exact P5 (fin J5 qn)
  ·refine PZ (RM (PZ (Q5 (T.item (gx X N' scope s3.heap.objs.size s3 H3 fp pins) rfl rfl rfl rfl i [] s4 τ H4 _ J4 (fpB fr4) st4 go) (fun r s5 h5=>?_) fun _ _ e=>e)));obtain⟨u,hr,h5⟩:=h5;subst hr;refine PZ (Q5 h5 (fun _ s6 h6=>?_) fun _ _ e=>e);obtain⟨x,H6,J6,r6,y6,st6,fr6⟩:=h6;have J6':=J6.pinned (fpB fr6) (T.obj _ _ st6);refine PZ (Q5 (Mc (hg _ _ _ _ _ _ s6 τ H6 x u _ J6' r6 (step x H6 y6))) (fun _ s7 h7=>?_) fun _ _ e=>e);obtain⟨τ7,H7,J7,q7⟩:=h7;have again:∀{τ8:St} {H8:Hp} {s8:Shared},Inv (gx X N' scope s3.heap.objs.size s3 H3 fp pins) ([]++oK fp s6.heap) τ8 H8 s8->N τ8 H8->
     ∃m,m < n∧∃i τ' H',Inv (gx X N' scope s3.heap.objs.size s3 H3 fp pins) [] τ' H' s8∧tn i s8.heap∧(∀b∈fp,H' b=none)∧W i m τ' H':=fun {τ8 H8 s8} J8 n8=>by
    obtain⟨m',hm,w8⟩:=hN τ8 H8 n8;refine⟨m',hm,i+1,τ8,H8,J8.jw,T.keep _ _ _ st6 fun b hb o e=>(J8.pin (b,o) (Qu _ (Qu _ (fQ hb e)))).1,fun b hb=>?_,w8⟩;obtain⟨o,e,d⟩:=T.obj _ _ st6 b hb;exact(J8.pin (b,o) (Qu _ (Qu _ (fQ hb e)))).2.1
   refine PZ (Q5 (Mc (hif _ _ _ _ _ _ s7 τ7 H7 _ J7 q7)) (fun ok s8 h8=>?_) fun _ _ e=>e);obtain⟨H8,J8,q8⟩:=h8;cases ok with
   | false=>exact P5 ⟨rfl,again J8 (by simpa using q8)⟩
   | true=>
    have q8':te τ7 H8 fun y H5=>∃xs,H5 l=some (.lst xs)∧xs.length < sizeLine∧N τ7 (upd H5 l (.lst (xs++[y]))):=by simpa using q8
    refine PZ (PZ (Q5 (Mc (he _ _ _ _ _ _ s8 τ7 H8 _ J8 q8')) (fun y s9 h9=>?_) fun _ _ e=>e));obtain⟨yv,H9,J9,r9,xs,hx,hz,n9⟩:=h9;refine PZ (Q5 (Mc (uT (X:=gx X N' scope s3.heap.objs.size s3 H3 fp pins) _ s9 τ7 H9 (.ref l) [yv] (.ref l) [y] (fun _ H'=>N τ7 H') J9 rfl (.cons r9 .nil) ⟨_,xs,yv,rfl,rfl,hx,hz,n9⟩)) (fun _ s10 h10=>?_) fun _ _ e=>e);obtain⟨_,H10,J10,_,n10⟩:=h10;exact P5 (P5 ⟨rfl,again J10 n10⟩)
 exact codeAny_compStart_list loop (T.self X.A 0 _ _ _ st3 loop)
theorem sI(S:bz X N' caps scope)(hc:X.calm=true)(hg:∀C s₃ H₃ fp pl,PG (gx X N' scope C s₃ H₃ fp pl) tg g)(hif:∀C s₃ H₃ fp pl,F7 (gx X N' scope C s₃ H₃ fp pl) ifs tc)
  (he:∀C s₃ H₃ fp pl,PE (gx X N' scope C s₃ H₃ fp pl) elt te) {pins:List (Addr×Obj)} {σ:St} {H:Hp} {s:Shared} {it:Addr} {fp:List Addr} {tn:Nat->Heap->Prop} {J:It}
  (I:Inv X pins σ H s) (T:Turn X.prog X.w X.K tg J fp it tn) (st:tn 0 s.heap) (hf:∀b∈fp,gV X pins H b) {Q:VK} {RR:Value->Addr->Result->Shared->Prop} {E:Value->Shared->Prop}
  (h:∀l,H l=none->∃W:Nat->Nat->St->Hp->Prop,(∃m,W 0 m (pf caps σ) (upd H l (.lst [])))∧∀i m τ H2,W i m τ H2->
   (J.stop i H2∧Q (.ref l) H2)∨(J.go i H2∧∃N:St->Hp->Prop,(∀τ' H',N τ' H'->∃m',m' < m∧W (i+1) m' τ' H')∧∀x H',J.Iq i H2 x H'->g x τ H' fun τ2 H3=>
    tc τ2 H3 fun b H4=>if b=true then te τ2 H4 fun y H5=>∃xs,H5 l=some (.lst xs)∧xs.length < sizeLine∧N τ2 (upd H5 l (.lst (xs++[y]))) else N τ2 H4))
  (hRR:∀(l C:Addr)(H':Hp)(s':Shared),H' C=none->C≠X.env.locals->X.s₀.heap.objs.size≤C->(∀x c,X.env.cells.lookup x=some c->c≠C)->(∀p∈X.pn++pins,p.1≠C)->(∃m,s'.heap.Ns C m)->Inv X pins σ H' s'->
   (∀h'':Heap,(∀b u,b≠C->s'.heap.get? b=some u->h''.get? b=some u)->Inv X pins σ H' {s' with heap:=h''})->Q (.ref l) H'->RR (.ref l) C (.ok .next) s'):
  wpAny (model X.prog X.w) X.A (newList []) (fun acc s₃=>wpAny (model X.prog X.w) X.A (newFunctionEnv scope X.env.globals (iy X.env scope.names []) [] X.env.qual none .none (some X.env)) (fun cenv s₄=>
   codeAny (model X.prog X.w) X.A (.compStart (.ListComp elt [⟨tg,iter,ifs,0⟩] scope pos) 0 (.ref it) acc {cenv with scope:=relabel scope X.env}) (RR acc cenv.locals) s₄) E s₃) E s:=by
 obtain⟨W,⟨m0,w0⟩,turn⟩:=h s.heap.objs.size I.fresh;refine Q1 (wpAny_newFunctionEnv S.zQ (by intro y hy;simp at hy) (fun h₁ hns₁ hsb₁=>?_) S.kind);have I3:Inv X pins σ (upd H s.heap.objs.size (.lst [])) {s with heap:=s.heap.push {cls:=.type "list",data:=.seq ([]:List Value).toArray}}:=I.KP (t':=s.toks) (its:=[]) (ys:=[]) .nil (Q9 _);have hltf:∀b∈fp,b < s.heap.objs.size:=fun b hb=>by
  obtain⟨o,e,_⟩:=T.obj 0 _ st b hb;exact Qf e
 have hf3:∀b∈fp,gV X pins (upd H s.heap.objs.size (.lst [])) b:=fun b hb=>⟨by rw[aT (Qo (hltf b hb))];exact(hf b hb).1,(hf b hb).2⟩;have keep3:∀b o,(s.heap.push {cls:=.type "list",data:=.seq ([]:List Value).toArray}).get? b=some o->h₁.get? b=some o:=fun b o e=>hsb₁.extBut b o (Qo (Qf e)) (P2 _ e);have st3:tn 0 h₁:=T.keep 0 _ _ st fun b hb o e=>keep3 b o (P2 _ e);have hlt3:∀b∈fp,b < (s.heap.push {cls:=.type "list",data:=.seq ([]:List Value).toArray}).objs.size:=fun b hb=>by
  have:=hltf b hb;rw[QJ];exact Sq this
 exact CV (s3:={s with heap:=s.heap.push {cls:=.type "list",data:=.seq ([]:List Value).toArray}}) S hc hg hif he I3 T st3 hf3 hlt3 hns₁ keep3 w0 turn hRR
theorem Ep(S:bz X N' caps scope)(hc:X.calm=true)(hi:PI X tg iter wi)(hg:∀C s₃ H₃ fp pl,PG (gx X N' scope C s₃ H₃ fp pl) tg g)(hif:∀C s₃ H₃ fp pl,F7 (gx X N' scope C s₃ H₃ fp pl) ifs tc)
  (he:∀C s₃ H₃ fp pl,PE (gx X N' scope C s₃ H₃ fp pl) elt te) (hs:∀x,foldedSetIterable iter X.env x=pure x:=by intro _;rfl):PE X (.ListComp elt [⟨tg,iter,ifs,0⟩] scope pos) (DD caps wi g tc te):=by
 intro pins s σ H Q I h;rw[eval_ListComp];refine SU (use:=none) rfl hs (ji (S.has I.ok)) S.kind S.names (cN (hi pins s σ H _ I h) fun v s1 h1=>cN h1 fun itv s2 h2=>?_);obtain⟨it,fp,tn,J,H2,e,I2,T,st2,f2,hQ⟩:=h2;subst e;refine sI (RR:=fun acc C=>compPost (model X.prog X.w) X.A X.xe none (EP X pins σ Q) acc C) S hc hg hif he I2 T st2 f2 hQ ?_;intro l C H' s' _ _ _ _ _ hm _ hI q;obtain⟨m,hm⟩:=hm;exact⟨m,hm,fun h'' hs''=>⟨.ref l,H',hI h'' fun b u hb e=>hs''.extBut b u hb e,rfl,q⟩⟩
theorem Eh(hN:X.N.Nodup)(hi':X.N[i]?=some y)(hy:X.env.scope.names.lookup y=some .local)(S:bz X N' caps scope)(hc:X.calm=true)(hi:PI X tg iter wi)(hg:∀C s₃ H₃ fp pl,PG (gx X N' scope C s₃ H₃ fp pl) tg g)(hif:∀C s₃ H₃ fp pl,F7 (gx X N' scope C s₃ H₃ fp pl) ifs tc)(he:∀C s₃ H₃ fp pl,PE (gx X N' scope C s₃ H₃ fp pl) elt te)(hsw:swapsWith (.ListComp elt [⟨tg,iter,ifs,0⟩] scope pos) (some (.Name y py)) spos.line X.env=pure true:=by rfl)(hs:∀x,foldedSetIterable iter X.env x=pure x:=by intro _;rfl):
  PS X (.Assign [.Name y py] (.ListComp elt [⟨tg,iter,ifs,0⟩] scope pos) spos) (BM (DD caps wi g tc te) (pS i)):=by
 intro pins s σ H D I h;rw[exec_Assign_Name_used _ _ _ _ hsw];refine PZ (RM (PZ ?_));show wpAny _ X.A (do let _←comprehension (.ListComp elt [⟨tg,iter,ifs,0⟩] scope pos) scope X.env _ (newList []) false (eval iter X.env) (some (assign (.Name y py) X.env))) _ _ s;refine PZ (Q5 (SU (use:=some (assign (.Name y py) X.env)) (Q:=fun _ s'=>SP X pins D .next s') rfl hs (ji (S.has I.ok)) S.kind S.names
  (cN (hi pins s σ H _ I h) fun v s1 h1=>cN h1 fun itv s2 h2=>?_)) (fun _ s' hq=>P5 (P5 hq)) fun _ _ e=>e)
 obtain⟨it,fp,tn,J,H2,e,I2,T,st2,f2,hQ⟩:=h2;subst e;refine sI (Q:=fun x H1=>pS i x σ H1 D.nx) (RR:=fun acc C=>compPost (model X.prog X.w) X.A X.xe (some (assign (.Name y py) X.env)) (fun _ s'=>SP X pins D .next s') acc C) S hc hg hif he I2 T st2 f2 hQ ?_;intro l C H' s' hC hCL hC0 hCc hCp hm hI0 hI q;obtain⟨m,hm⟩:=hm;show wpAny _ X.A (assign (.Name y py) X.env (.ref l)) _ _ s';refine U1 (om (v:=.ref l) hI0 hN hi' (.inl hy) rfl (fun s5 I5 hch=>?_) (.inr hy));obtain⟨a,hsa,ha⟩:=hch;have hCa:C≠a:=by
  rcases ha with z | z
  ·rw[z];exact hCL
  ·exact(hCc _ _ z).symm
 refine⟨m,hm.sameBut hsa hCa,fun h'' hs''=>?_⟩;have I6:=I5.turned (t':=s5.toks) (h':=h'') (it:=C) (fun b o hb e=>hs''.extBut b o hb e) hC hCL (.inr hC0) hCc hCp;exact⟨_,H',I6,q⟩
def NJ(_ j:Int):Prop:=0 < j∧j≤10^40
theorem log2_small(h:n≤10^40):n.log2 < 9000:=by
 by_cases h0:n=0
 ·rw[h0];decide
 ·refine(Nat.log2_lt h0).mpr (Nat.lt_of_le_of_lt h ?_);exact QF (show 10^40 < 2^200 by decide) (VF (by decide) (by decide))
theorem Ex:k8 X (binaryOp .FloorDiv) (rI NJ fun i j=>.int (i / j)):=NM fun i j _ _ _ _ _ hc q=>by
 have h1:(0:Int) < j:=hc.1;have h2:j≤10^40:=hc.2;exact floordiv_int (by lia) (by rw[Int.fdiv_eq_ediv_of_nonneg i (by lia)];exact q) (.inl (PyProof.noPylong_of_log2 (log2_small (by lia))))
mutual
inductive Dp(K:FR)(H:Hp):V->PyData->Prop where
 | cC:Dp K H .cC .none
 | bl (b:Bool):Dp K H (.bl b) (.bool b)
 | int (i:Int):Dp K H (.int i) (.int i)
 | str (x:Str):Dp K H (.str x) (.str x)
 | tup {a:Addr} {xs:List V} {ds:List PyData}:ko K H a xs->pG K H xs ds->Dp K H (.ref a) (.tuple ds)
 | lst {a:Addr} {xs:List V} {ds:List PyData}:gA K H a xs->pG K H xs ds->Dp K H (.ref a) (.list ds)
inductive pG(K:FR)(H:Hp):List V->List PyData->Prop where
 | nil:pG K H [] []
 | cons {x:V} {xs:List V} {d:PyData} {ds:List PyData}:Dp K H x d->pG K H xs ds->pG K H (x::xs) (d::ds)
end
mutual
theorem Dp.reads(I:Inv X pins σ H s){x:V}{u:Value}{d:PyData}(z:Dp X.K H x d)(r:RelV x u):∃as,Reads s.heap u d as:=by
 cases z with
 | cC=>cases(show _=Value.none from r);exact⟨_,.none⟩
 | bl b=>cases(show _=Value.bool b from r);exact⟨_,.bool b⟩
 | int i=>obtain⟨t,e⟩:=(show ∃t,_=Value.int i t from r);cases e;exact⟨_,.int i t⟩
 | str x=>obtain⟨t,e⟩:=(show ∃t,_=Value.str x t from r);cases e;exact⟨_,.str x t⟩
 | tup hq hl=>
  cases(show _=Value.ref _ from r);obtain⟨its,rv,⟨o,h1,h2,n,h3⟩,_⟩:=I.tuple hq;obtain⟨as,q⟩:=pG.reads I hl rv;exact⟨_,.tuple h1 h2 h3 (by simpa using q)⟩
 | lst hq hl=>
  cases(show _=Value.ref _ from r);obtain⟨its,rv,pl,_⟩:=I.list hq;obtain⟨o,h1,h2,n,h3⟩:=pl.isList;obtain⟨as,q⟩:=pG.reads I hl rv;exact⟨_,.list h1 h2 h3 (by simpa using q)⟩
theorem pG.reads(I:Inv X pins σ H s){xs:List V}{us:List Value}{ds:List PyData}(z:pG X.K H xs ds)(v:Vals xs us):∃as,ReadsAll s.heap us ds as:=by
 cases z with
 | nil=>cases v;exact⟨_,.nil⟩
 | cons h t=>
  cases v with
  | cons r q=>
   obtain⟨as,p⟩:=Dp.reads I h r;obtain⟨bs,p'⟩:=pG.reads I t q;exact⟨_,.cons p p'⟩
end
def Ox:V->Option Int->Option Int->Hp->VK->Prop:=fun x lo hi H Q=>∃z,x=.str z∧z.length≤sizeLine∧Q (.str (Txt.slice z lo hi)) H
theorem Jo:LF X Ox:=by
 intro pins s σ H x v vl vu lo hi sl Q I rx hs pl pu h;obtain⟨z,rfl,hz,q⟩:=h;obtain⟨t,rfl⟩:=(show ∃t,v=Value.str z t from rx);refine⟨"str",_,F.slot_str_getitem.lookup,typeIs_str _ _ _,?_⟩;obtain⟨o,h1,h2,h3⟩:=hs;have fin:(Txt.slice z lo hi).length≤sizeLine∧∀t' k,EP X pins σ Q (.str (Txt.slice z lo hi) t') {s with toks:=k}:=⟨Qm (Txt.slice_le z _ _) hz,fun t' k=>⟨.str _,H,I.tok k,⟨t',rfl⟩,q⟩⟩;cases pl with
 | none=>
  cases pu with
  | none=>exact SY (l:=none) (u:=none) (st:=none) ⟨o,h1,h2,h3⟩ rfl (Uy fin)
  | int j uj=>exact SY (l:=none) (u:=some (j,uj)) (st:=none) ⟨o,h1,h2,h3⟩ rfl (Uy fin)
 | int i ui=>
  cases pu with
  | none=>exact SY (l:=some (i,ui)) (u:=none) (st:=none) ⟨o,h1,h2,h3⟩ rfl (Uy fin)
  | int j uj=>exact SY (l:=some (i,ui)) (u:=some (j,uj)) (st:=none) ⟨o,h1,h2,h3⟩ rfl (Uy fin)
theorem FC:eN X (.builtin "isinstance") (fun xs H Q=>∃x n t b,xs=[x,.ty n]∧nN X.K H x t∧PySem.W.kitOne X.K t (.type n)=some b∧Q (.bl b) H):=by
 intro pins s σ H xs us Q I r h;obtain⟨x,n,t,b,rfl,ty,e,q⟩:=h;obtain⟨u,w',rfl,ru,rw'⟩:=vals2 r;cases(show w'=Value.type n from rw');exact Cy I ru ty e fun tk=>⟨.bl b,H,I.tok tk,rfl,q⟩
noncomputable def yr(out:List (Str×NameKind))(N N':List Str)(caps:List (Option Nat))(scope:Scope):Bool:=
 decide (scope.kind=.function)&&scope.names.all (fun y=>decide (y.2≠.cell))&&scope.names.all (fun y=>!decide (y.2=.local)||decide (scope.names.lookup y.1=some .local))&&
 scope.names.all (fun y=>!decide (y.2=.free)||decide (out.lookup y.1=some .cell)||decide (out.lookup y.1=some .free))&&decide (caps.length=N'.length)&&
 (List.range caps.length).all (fun j=>match caps[j]?,N'[j]? with
  | some (some i),some x=>decide (N[i]?=some x)&&decide (scope.names.lookup x=some .free)
  | _,_=>true)&&decide N'.Nodup
theorem aL(h:yr X.env.scope.names X.N N' caps scope=true):bz X N' caps scope:=by
 unfold yr at h;simp only[Qq,QT,Rq,So,TL,Vh] at h;obtain⟨⟨⟨⟨⟨⟨h1,h2⟩,h3⟩,h4⟩,h5⟩,h6⟩,h7⟩:=h;refine⟨h1,h2,fun y hy e=>?_,fun y hy e=>?_,h5,fun j i x hj hx=>?_,h7⟩
 ·rcases h3 y hy with z | z
  ·exact absurd e z
  ·exact z
 ·rcases h4 y hy with(z | z) | z
  ·exact absurd e z
  ·exact .inl z
  ·exact .inr z
 ·have hlt:j < caps.length:=(P4.mp hj).1;have:=h6 j (Q3.mpr hlt);rw[hj,hx] at this;simp only[Qq,QT] at this;exact this
end L2
namespace L2
end L2
namespace L2
open PySem PySem.Spec PyProof.Rows
theorem kr:PyData.strOk x=true↔∀c∈x.cps,c < 0x110000:=by
 unfold PyData.strOk;rw[R3];simp
theorem BO(ha:PyData.strOk a=true)(hb:PyData.strOk b=true):PyData.strOk (a++b)=true:=by
 rw[kr] at*;intro c hc;have hc':c∈a.cps++b.cps:=hc;rcases Array.mem_append.mp hc' with z | z
 ·exact ha c z
 ·exact hb c z
theorem xJ(l u:Option Int)(h:PyData.strOk x=true):PyData.strOk (Txt.slice x l u)=true:=by
 unfold Txt.slice
 split
 ·exact h
 ·rw[kr] at*;intro c hc;have hc':c∈(List.filterMap (x.cps[·]?) (Builtin.Str.strSliceIndices l u 1 x.length)).toArray:=hc;rw[List.mem_toArray] at hc';obtain⟨i,_,e⟩:=Sg.mp hc';exact h c (Us e)
theorem BN(h:PyData.strOk z=true)(hc:iz z.cps.toList i=some c):PyData.strOk (⟨#[c]⟩:Str)=true:=by
 rw[kr] at*;intro d hd;have e:d=c:=by simpa using hd
 subst e;obtain⟨j,_,hj,_⟩:=qQ hc;exact h d (by have:=P6 hj;simpa using this)
theorem entry_all_loop:entryFor table "all.loop"=some Builtin.«all.loop»:=entryFor_of_tree (by ac_nf)
theorem plain_all_loop:plainId "all.loop"=true:=by decide+kernel
theorem FU{A:Around}{pins:List (Addr×Obj)}{σ:St}{H:Hp}{p it:Addr}{bs:List Bool}{R:Result->Shared->Prop}(hA:A.handled=none)(hp:gA X.K H p (bs.map V.bl))
  (hit:it≠X.env.locals∧(it∈X.ex∨X.s₀.heap.objs.size≤it)∧(∀x c,X.env.cells.lookup x=some c->c≠it)∧∀q∈X.pn++pins,q.1≠it) (hin:H it=none)
  (h:∀s',Inv X pins σ H s'->R (.ok (.ret (.bool (bs.all id)))) s'):∀(n i:Nat)(s:Shared),bs.length-i=n->i≤bs.length->(bs.take i).all id=true->s.heap.IsListIter it p i->Inv X pins σ H s->
   codeAny (model X.prog X.w) A (.builtin "all.loop" ⟨[.ref it],[]⟩) R s:=by
 intro n
 induction n with
 | zero=>
  intro i s hn hi ht st I;have ei:i=bs.length:=by lia
  refine Q6 entry_all_loop ?_;rw[QU plain_all_loop _];obtain⟨its,rv,pl,hz⟩:=I.list hp;have hl':=rv.length;rw[P1] at hl';show wpAny _ _ (pyNext (.ref it) >>=_) _ _ s;refine PZ (UE hA st pl.isList (by simp;lia) fun h' eb=>?_);have I':=I.turned (t':=s.toks) (h':=h') (it:=it) (fun b o hb e=>eb b o hb e) hin hit.1 hit.2.1 hit.2.2.1 hit.2.2.2;refine PZ (RA (P5 ?_));rw[ei,QM] at ht;have:=h _ I';rw[ht] at this;exact this
 | succ n ih=>
  intro i s hn hi ht st I;have hi':i < bs.length:=by lia
  refine Q6 entry_all_loop ?_;rw[QU plain_all_loop _];obtain⟨its,rv,pl,hz⟩:=I.list hp;have hyi:(bs.map V.bl)[i]?=some (.bl bs[i]):=by rw[Qi,P9 hi'];rfl
  obtain⟨u,hu,ru⟩:=rv.get hyi;cases(show u=Value.bool bs[i] from ru);show wpAny _ _ (pyNext (.ref it) >>=_) _ _ s;refine PZ (Uu st pl.isList (x:=.bool bs[i]) (by simpa using hu) fun h' st' sb=>?_);have I':=I.turned (t':=s.toks) (h':=h') (it:=it) (fun b o hb e=>(sb.2 b hb).trans e) hin hit.1 hit.2.1 hit.2.2.1 hit.2.2.2;dsimp only;refine PZ (QW (Rk ?_));refine PZ (Ul ?_)
  by_cases hb:bs[i]=true
  ·rw[P7 hb];refine P5 ⟨RT plain_all_loop _,ih (i+1) _ (by lia) (by lia) ?_ st' I'⟩;rw[Sv,P9 hi',List.all_append,ht,hb];rfl
  ·rw[Qa hb];refine PZ (RA (P5 ?_));have:=h _ I';have e:bs.all id=false:=by
    rw[List.all_eq_false];exact⟨bs[i],Uc hi',by simpa using hb⟩
   rw[e] at this;exact this
theorem FE(hc:X.calm=true):eN X (.builtin "all") (fun xs H Q=>∃(p:Addr)(bs:List Bool),xs=[.ref p]∧gA X.K H p (bs.map V.bl)∧Q (.bl (bs.all id)) H):=by
 intro pins s σ H xs us Q I r h;obtain⟨p,bs,rfl,hp,q⟩:=h;obtain⟨u,rfl,ru⟩:=vals1 r;cases(show u=Value.ref p from ru);have hA:X.A.handled=none:=I.ok.hd hc;obtain⟨its,rv,pl,hz⟩:=I.list hp;refine call_function_tree F.kind_all F.plain_all F.entry_all (F.args_all1 _) ?_;unfold Builtin.«all»;show wpAny _ _ (pyIter (.ref p) >>=_) _ _ s;refine PZ (Tc pl.isList ?_);have I3:Inv X pins σ H {s with heap:=s.heap.push {cls:=.type "list_iterator",data:=.fields #[.ref p,.int 0 0]}}:=I.kept (t':=s.toks) fun b o e=>P2 _ e;obtain⟨f0,f1,f2,f3,f4,f5⟩:=I.wX (b:=s.heap.objs.size) (H':=H) (P8 _) (I.bC.fresh (P8 _));refine P5 ⟨RT plain_all_loop _,?_⟩;exact FU (X:=X) (σ:=σ) (H:=H) (by exact hA) hp ⟨f1,f3,f4,f5⟩ f0 (fun s' I'=>⟨.bl _,H,I',rfl,q⟩) bs.length 0 _ (by lia) (Q9 _) rfl ⟨_,Qg _ rfl,rfl,rfl⟩ I3
theorem entry_any_loop:entryFor table "any.loop"=some Builtin.«any.loop»:=entryFor_of_tree (by ac_nf)
theorem plain_any_loop:plainId "any.loop"=true:=by decide+kernel
theorem FQ{A:Around}{pins:List (Addr×Obj)}{σ:St}{H:Hp}{p it:Addr}{bs:List Bool}{R:Result->Shared->Prop}(hA:A.handled=none)(hp:gA X.K H p (bs.map V.bl))
  (hit:it≠X.env.locals∧(it∈X.ex∨X.s₀.heap.objs.size≤it)∧(∀x c,X.env.cells.lookup x=some c->c≠it)∧∀q∈X.pn++pins,q.1≠it) (hin:H it=none)
  (h:∀s',Inv X pins σ H s'->R (.ok (.ret (.bool (bs.any id)))) s'):∀(n i:Nat)(s:Shared),bs.length-i=n->i≤bs.length->(bs.take i).any id=false->s.heap.IsListIter it p i->Inv X pins σ H s->
   codeAny (model X.prog X.w) A (.builtin "any.loop" ⟨[.ref it],[]⟩) R s:=by
 intro n
 induction n with
 | zero=>
  intro i s hn hi ht st I;have ei:i=bs.length:=by lia
  refine Q6 entry_any_loop ?_;rw[QU plain_any_loop _];obtain⟨its,rv,pl,hz⟩:=I.list hp;have hl':=rv.length;rw[P1] at hl';show wpAny _ _ (pyNext (.ref it) >>=_) _ _ s;refine PZ (UE hA st pl.isList (by simp;lia) fun h' eb=>?_);have I':=I.turned (t':=s.toks) (h':=h') (it:=it) (fun b o hb e=>eb b o hb e) hin hit.1 hit.2.1 hit.2.2.1 hit.2.2.2;refine PZ (RA (P5 ?_));rw[ei,QM] at ht;have:=h _ I';rw[ht] at this;exact this
 | succ n ih=>
  intro i s hn hi ht st I;have hi':i < bs.length:=by lia
  refine Q6 entry_any_loop ?_;rw[QU plain_any_loop _];obtain⟨its,rv,pl,hz⟩:=I.list hp;have hyi:(bs.map V.bl)[i]?=some (.bl bs[i]):=by rw[Qi,P9 hi'];rfl
  obtain⟨u,hu,ru⟩:=rv.get hyi;cases(show u=Value.bool bs[i] from ru);show wpAny _ _ (pyNext (.ref it) >>=_) _ _ s;refine PZ (Uu st pl.isList (x:=.bool bs[i]) (by simpa using hu) fun h' st' sb=>?_);have I':=I.turned (t':=s.toks) (h':=h') (it:=it) (fun b o hb e=>(sb.2 b hb).trans e) hin hit.1 hit.2.1 hit.2.2.1 hit.2.2.2;dsimp only;refine PZ (QW (Rk ?_));refine PZ (Ul ?_)
  by_cases hb:bs[i]=true
  ·rw[P7 hb];refine PZ (RA (P5 ?_));have:=h _ I';have e:bs.any id=true:=by
    rw[Rb];exact⟨bs[i],Uc hi',hb⟩
   rw[e] at this;exact this
  ·rw[Qa hb];refine P5 ⟨RT plain_any_loop _,ih (i+1) _ (by lia) (by lia) ?_ st' I'⟩;rw[Sv,P9 hi',List.any_append,ht];have hb':bs[i]=false:=by simpa using hb
   rw[hb'];rfl
theorem FD(hc:X.calm=true):eN X (.builtin "any") (fun xs H Q=>∃(p:Addr)(bs:List Bool),xs=[.ref p]∧gA X.K H p (bs.map V.bl)∧Q (.bl (bs.any id)) H):=by
 intro pins s σ H xs us Q I r h;obtain⟨p,bs,rfl,hp,q⟩:=h;obtain⟨u,rfl,ru⟩:=vals1 r;cases(show u=Value.ref p from ru);have hA:X.A.handled=none:=I.ok.hd hc;obtain⟨its,rv,pl,hz⟩:=I.list hp;refine call_function_tree F.kind_any F.plain_any F.entry_any (F.args_any1 _) ?_;unfold Builtin.«any»;show wpAny _ _ (pyIter (.ref p) >>=_) _ _ s;refine PZ (Tc pl.isList ?_);have I3:Inv X pins σ H {s with heap:=s.heap.push {cls:=.type "list_iterator",data:=.fields #[.ref p,.int 0 0]}}:=I.kept (t':=s.toks) fun b o e=>P2 _ e;obtain⟨f0,f1,f2,f3,f4,f5⟩:=I.wX (b:=s.heap.objs.size) (H':=H) (P8 _) (I.bC.fresh (P8 _));refine P5 ⟨RT plain_any_loop _,?_⟩;exact FQ (X:=X) (σ:=σ) (H:=H) (by exact hA) hp ⟨f1,f3,f4,f5⟩ f0 (fun s' I'=>⟨.bl _,H,I',rfl,q⟩) bs.length 0 _ (by lia) (Q9 _) rfl ⟨_,Qg _ rfl,rfl,rfl⟩ I3
end L2
namespace Sm
open PySem L2
inductive D where
 | cC | bl (b:Bool) | int (i:Int) | str (x:Str) | ty (n:String)
 | tup (xs:List D) | lv (xs:List D) | ro (xs:List D) | dv (kvs:List (Key×D)) | ob (n:Nat)
inductive MO where
 | lst (xs:List D) | dct (kvs:List (Key×D))
abbrev MH:=List MO
abbrev DS:=List (Option D)
abbrev Pb:Hp:=fun _=>none
structure Ad where
 ob:List Addr
 rs:List Addr
def Ad.has(ρ:Ad)(a:Addr):Prop:=a∈ρ.ob∨a∈ρ.rs
def TupAt(K:FR)(ρ:Ad)(H:Hp)(a:Addr)(vs:List V):Prop:=(Rd H a (.tup vs)∧¬ρ.has a)∨ko K Pb a vs
def LH(K:FR)(ρ:Ad)(H:Hp)(a:Addr)(vs:List V):Prop:=(Rd H a (.lst vs)∧¬ρ.has a)∨gA K Pb a vs
mutual
inductive Rep(K:FR)(ρ:Ad)(H:Hp):V->D->Prop where
 | cC:Rep K ρ H .cC .cC
 | bl (b:Bool):Rep K ρ H (.bl b) (.bl b)
 | int (i:Int):Rep K ρ H (.int i) (.int i)
 | str {x:Str} (h:PyData.strOk x=true):Rep K ρ H (.str x) (.str x)
 | ty (n:String):Rep K ρ H (.ty n) (.ty n)
 | tup {a:Addr} {vs:List V} {ds:List D}:TupAt K ρ H a vs->aF K ρ H vs ds->Rep K ρ H (.ref a) (.tup ds)
 | lv {a:Addr} {vs:List V} {ds:List D}:H a=some (.lst vs)->¬ρ.has a->aF K ρ H vs ds->Rep K ρ H (.ref a) (.lv ds)
 | ro {a:Addr} {vs:List V} {ds:List D}:LH K ρ H a vs->aF K ρ H vs ds->Rep K ρ H (.ref a) (.ro ds)
 | dv {a:Addr} {us:List (Key×V)} {kvs:List (Key×D)}:H a=some (.dK us)->¬ρ.has a->bH K ρ H us kvs->Rep K ρ H (.ref a) (.dv kvs)
 | ob {a:Addr} {n:Nat}:ρ.ob[n]?=some a->Rep K ρ H (.ref a) (.ob n)
inductive aF(K:FR)(ρ:Ad)(H:Hp):List V->List D->Prop where
 | nil:aF K ρ H [] []
 | cons {v:V} {vs:List V} {d:D} {ds:List D}:Rep K ρ H v d->aF K ρ H vs ds->aF K ρ H (v::vs) (d::ds)
inductive bH(K:FR)(ρ:Ad)(H:Hp):List (Key×V)->List (Key×D)->Prop where
 | nil:bH K ρ H [] []
 | cons {k:Key} {v:V} {vs:List (Key×V)} {d:D} {ds:List (Key×D)}:Rep K ρ H v d->bH K ρ H vs ds->bH K ρ H ((k,v)::vs) ((k,d)::ds)
end
structure Ch(ρ:Ad)(H:Hp)(ρ':Ad)(H':Hp):Prop where
 pre:∀(n:Nat) a,ρ.ob[n]?=some a->ρ'.ob[n]?=some a
 old:∀b o,¬ρ.has b->H b=some o->¬ρ'.has b∧H' b=some o
theorem Ch.refl(ρ:Ad)(H:Hp):Ch ρ H ρ H:=⟨fun _ _ e=>e,fun _ _ n e=>⟨n,e⟩⟩
theorem Ch.trans(a:Ch ρ H ρ1 H1)(b:Ch ρ1 H1 ρ2 H2):Ch ρ H ρ2 H2:=
 ⟨fun n x e=>b.pre n x (a.pre n x e),fun x o n e=>let⟨n',e'⟩:=a.old x o n e;b.old x o n' e'⟩
structure dz(ρ:Ad)(H:Hp)(ρ':Ad)(H':Hp):Prop extends Ch ρ H ρ' H' where
 rs:ρ'.rs=ρ.rs
 res:∀b∈ρ.rs,H' b=H b
theorem dz.refl(ρ:Ad)(H:Hp):dz ρ H ρ H:=⟨.refl _ _,rfl,fun _ _=>rfl⟩
theorem dz.trans(a:dz ρ H ρ1 H1)(b:dz ρ1 H1 ρ2 H2):dz ρ H ρ2 H2:=
 ⟨a.toCh.trans b.toCh,b.rs.trans a.rs,fun x hx=>(b.res x (by rw[a.rs];exact hx)).trans (a.res x hx)⟩
instance {ρ ρ':Ad} {H H':Hp}:CoeOut (dz ρ H ρ' H') (Ch ρ H ρ' H'):=⟨dz.toCh⟩
theorem Ch.rd(S:Ch ρ H ρ' H')(h:Rd H a u)(n:¬ρ.has a):Rd H' a u∧¬ρ'.has a:=by
 rcases h with h |⟨o,h⟩
 ·obtain⟨q,e⟩:=S.old a _ n h;exact⟨.inl e,q⟩
 ·obtain⟨q,e⟩:=S.old a _ n h;exact⟨.inr ⟨o,e⟩,q⟩
mutual
theorem Rep.mono(S:Ch ρ H ρ' H'){v:V}{d:D}(r:Rep K ρ H v d):Rep K ρ' H' v d:=by
 cases r with
 | cC=>exact .cC
 | bl b=>exact .bl b
 | int i=>exact .int i
 | str x=>exact .str x
 | ty n=>exact .ty n
 | tup h l=>exact .tup (h.elim (fun⟨a,n⟩=>.inl (S.rd a n)) .inr) (aF.mono S l)
 | lv h n l=>have ⟨n',h'⟩:=S.old _ _ n h;exact .lv h' n' (aF.mono S l)
 | ro h l=>exact .ro (h.elim (fun⟨a,n⟩=>.inl (S.rd a n)) .inr) (aF.mono S l)
 | dv h n l=>have ⟨n',h'⟩:=S.old _ _ n h;exact .dv h' n' (bH.mono S l)
 | ob e=>exact .ob (S.pre _ _ e)
theorem aF.mono(S:Ch ρ H ρ' H'){vs:List V}{ds:List D}(r:aF K ρ H vs ds):aF K ρ' H' vs ds:=by
 cases r with
 | nil=>exact .nil
 | cons h t=>exact .cons (Rep.mono S h) (aF.mono S t)
theorem bH.mono(S:Ch ρ H ρ' H'){vs:List (Key×V)}{ds:List (Key×D)}(r:bH K ρ H vs ds):bH K ρ' H' vs ds:=by
 cases r with
 | nil=>exact .nil
 | cons h t=>exact .cons (Rep.mono S h) (bH.mono S t)
end
theorem aF.length:∀{vs:List V} {ds:List D},aF K ρ H vs ds->vs.length=ds.length
 | _,_,.nil=>rfl
 | _,_,.cons _ t=>by rw[Qv,Qv,aF.length t]
theorem aF.got:∀{vs:List V} {ds:List D} {i:Nat} {d:D},aF K ρ H vs ds->ds[i]?=some d->∃v,vs[i]?=some v∧Rep K ρ H v d
 | _,_,_,_,.nil,e=>by simp at e
 | _,_,0,_,.cons r _,e=>by simp at e;subst e;exact⟨_,rfl,r⟩
 | _,_,i+1,d,.cons _ t,e=>by
  obtain⟨u,h1,h2⟩:=aF.got (i:=i) (d:=d) t (by simpa using e);exact⟨u,by simpa using h1,h2⟩
theorem aF.append:∀{vs ws:List V} {ds es:List D},aF K ρ H vs ds->aF K ρ H ws es->aF K ρ H (vs++ws) (ds++es)
 | _,_,_,_,.nil,s=>s
 | _,_,_,_,.cons r t,s=>.cons r (aF.append t s)
theorem aF.take:∀{vs:List V} {ds:List D} (n:Nat),aF K ρ H vs ds->aF K ρ H (vs.take n) (ds.take n)
 | _,_,0,_=>.nil
 | _,_,_+1,.nil=>.nil
 | _,_,n+1,.cons r t=>.cons r (aF.take n t)
theorem aF.drop:∀{vs:List V} {ds:List D} (n:Nat),aF K ρ H vs ds->aF K ρ H (vs.drop n) (ds.drop n)
 | _,_,0,r=>r
 | _,_,_+1,.nil=>.nil
 | _,_,n+1,.cons _ t=>aF.drop n t
theorem aF.set(r:Rep K ρ H v d):∀{vs:List V} {ds:List D} (i:Nat),aF K ρ H vs ds->aF K ρ H (vs.set i v) (ds.set i d)
 | _,_,_,.nil=>.nil
 | _,_,0,.cons _ t=>.cons r t
 | _,_,i+1,.cons q t=>.cons q (aF.set r i t)
theorem aF.snoc(t:aF K ρ H vs ds)(r:Rep K ρ H v d):aF K ρ H (vs++[v]) (ds++[d]):=t.append (.cons r .nil)
theorem aF.dropLast:∀{vs:List V} {ds:List D},aF K ρ H vs ds->aF K ρ H vs.dropLast ds.dropLast
 | _,_,.nil=>.nil
 | _,_,.cons _ .nil=>.nil
 | _,_,.cons r (.cons q t)=>.cons r (aF.dropLast (.cons q t))
theorem aF.isEmpty(t:aF K ρ H vs ds):vs.isEmpty=ds.isEmpty:=by cases t <;> rfl
theorem TupAt.sq(h:TupAt K ρ H a vs):ko K H a vs:=by
 rcases h with⟨h,_⟩ | h
 ·exact .inl h
 ·rcases h with(h |⟨o,h⟩) | h
  ·cases h
  ·cases h
  ·exact .inr h
theorem LH.sq(h:LH K ρ H a vs):gA K H a vs:=by
 rcases h with⟨h,_⟩ | h
 ·exact .inl h
 ·rcases h with(h |⟨o,h⟩) | h
  ·cases h
  ·cases h
  ·exact .inr h
def BE(K:FR)(ρ:Ad)(H:Hp)(a:Addr):MO->Prop
 | .lst ds=>∃vs,H a=some (.lst vs)∧aF K ρ H vs ds
 | .dct kvs=>∃us,H a=some (.dK us)∧bH K ρ H us kvs
structure cn(K:FR)(ρ:Ad)(h:MH)(H:Hp):Prop where
 len:ρ.ob.length=h.length
 nd:ρ.ob.Nodup
 at_:∀(n:Nat) a o,ρ.ob[n]?=some a->h[n]?=some o->BE K ρ H a o
 uC:∀b∈ρ.rs,(∃o,H b=some o)∧b∉ρ.ob
theorem BE.has(x:BE K ρ H a o):∃u,H a=some u:=by
 cases o with
 | lst ds=>obtain⟨vs,e,_⟩:=x;exact⟨_,e⟩
 | dct ds=>obtain⟨vs,e,_⟩:=x;exact⟨_,e⟩
theorem BE.mono(x:BE K ρ H a o)(T:Ch ρ H ρ' H')(e:H' a=H a):BE K ρ' H' a o:=by
 cases o with
 | lst ds=>obtain⟨vs,x,r⟩:=x;exact⟨vs,e.trans x,r.mono T⟩
 | dct ds=>obtain⟨vs,x,r⟩:=x;exact⟨vs,e.trans x,r.mono T⟩
theorem cn.mem(S:cn K ρ h H)(ha:a∈ρ.ob):∃(n:Nat)(o:MO),ρ.ob[n]?=some a∧h[n]?=some o∧BE K ρ H a o:=by
 obtain⟨n,hn,e⟩:=List.mem_iff_getElem.mp ha;have hn':n < h.length:=by rw[←S.len];exact hn
 have e1:ρ.ob[n]?=some a:=by rw[P9 hn,e]
 exact⟨n,h[n],e1,P9 hn',S.at_ n a _ e1 (P9 hn')⟩
theorem cn.has(S:cn K ρ h H)(ha:ρ.has a):∃u,H a=some u:=by
 rcases ha with ha | ha
 ·obtain⟨_,_,_,_,x⟩:=S.mem ha;exact x.has
 ·exact(S.uC a ha).1
theorem cn.fresh(S:cn K ρ h H)(hp:H p=none):¬ρ.has p:=fun m=>by
 obtain⟨u,e⟩:=S.has m;rw[hp] at e;cases e
theorem dz.laid(S:cn K ρ h H)(hp:H p=none):dz ρ H ρ (upd H p o):=
 ⟨⟨fun _ _ e=>e,fun b u n e=>⟨n,by rw[aT (bt e hp)];exact e⟩⟩,rfl,fun b hb=>by
  obtain⟨u,e⟩:=(S.uC b hb).1;rw[aT (bt e hp)]⟩
theorem cn.same(S:cn K ρ h H)(T:dz ρ H ρ H')(k:∀a∈ρ.ob,H' a=H a):cn K ρ h H':=
 ⟨S.len,S.nd,fun n a o e1 e2=>(S.at_ n a o e1 e2).mono T.toCh (k a (P6 e1)),fun b hb=>⟨by rw[T.res b hb];exact(S.uC b hb).1,(S.uC b hb).2⟩⟩
theorem cn.laid(S:cn K ρ h H)(hp:H p=none):cn K ρ h (upd H p o):=
 S.same (dz.laid S hp) fun a ha=>by
  obtain⟨u,e⟩:=S.has (.inl ha);rw[aT (bt e hp)]
abbrev Ad.more(ρ:Ad)(p:Addr):Ad:=⟨ρ.ob++[p],ρ.rs⟩
theorem dz.made(S:cn K ρ h H)(hp:H p=none):dz ρ H (ρ.more p) (upd H p o):=by
 refine⟨⟨fun n a e=>?_,fun b u n e=>?_⟩,rfl,(dz.laid S hp).res⟩
 ·show(ρ.ob++[p])[n]?=_;rw[Qk (P4.mp e).1];exact e
 ·refine⟨fun m=>?_,by rw[aT (bt e hp)];exact e⟩;rcases m with m | m
  ·rcases Qx.mp m with m | m
   ·exact n (.inl m)
   ·exact bt e hp (Qj.mp m)
  ·exact n (.inr m)
theorem cn.made(S:cn K ρ h H)(hp:H p=none)(ho:BE K (ρ.more p) (upd H p u) p o):cn K (ρ.more p) (h++[o]) (upd H p u):=by
 refine⟨by simp[S.len],?_,fun n a x e1 e2=>?_,fun b hb=>?_⟩
 ·show(ρ.ob++[p]).Nodup;rw[Rt];refine⟨S.nd,by simp,fun a ha b hb z=>?_⟩;rw[Qj.mp hb] at z;exact S.fresh hp (.inl (z ▸ ha))
 ·by_cases hn:n < ρ.ob.length
  ·have e1:(ρ.ob++[p])[n]?=some a:=e1;rw[Qk hn] at e1;rw[Qk (by rw[←S.len];exact hn)] at e2;have q:=S.at_ n a x e1 e2;obtain⟨w,ew⟩:=q.has;exact q.mono (dz.made S hp).toCh (aT (bt ew hp))
  ·have l1:=(P4.mp e1).1;simp at l1;have hn':n=ρ.ob.length:=by lia
   subst hn';have e1:(ρ.ob++[p])[ρ.ob.length]?=some a:=e1;rw[Qw (P8 _)] at e1;rw[Qw (by rw[S.len];exact P8 _)] at e2;simp at e1;rw[S.len] at e2;simp at e2;subst e1;subst e2;exact ho
 ·obtain⟨⟨v,e⟩,n⟩:=S.uC b hb;have z:=bt e hp;refine⟨⟨v,by rw[aT z];exact e⟩,fun m=>?_⟩;rcases Qx.mp m with m | m
  ·exact n m
  ·exact z (Qj.mp m)
theorem dz.wrote(S:cn K ρ h H)(ha:a∈ρ.ob):dz ρ H ρ (upd H a o):=
 ⟨⟨fun _ _ e=>e,fun b u n e=>⟨n,by rw[aT (fun(z:b=a)=>n (.inl (by rw[z];exact ha)))];exact e⟩⟩,rfl,fun b hb=>aT fun(z:b=a)=>(S.uC b hb).2 (by rw[z];exact ha)⟩
theorem cn.wrote(S:cn K ρ h H)(e:ρ.ob[n]?=some a)(ho:BE K ρ (upd H a u) a o):cn K ρ (h.set n o) (upd H a u):=by
 have ha:=P6 e;have T:dz ρ H ρ (upd H a u):=dz.wrote S ha;refine⟨by rw[RF];exact S.len,S.nd,fun m b x e1 e2=>?_,fun b hb=>⟨by rw[T.res b hb];exact(S.uC b hb).1,(S.uC b hb).2⟩⟩
 by_cases hm:n=m
 ·subst hm;have l2:n < h.length:=by rw[←S.len];exact(P4.mp e).1
  rw[e] at e1;cases e1;rw[Rh l2] at e2;cases e2;exact ho
 ·rw[Q4 hm] at e2;have q:=S.at_ m b x e1 e2;have hb:b≠a:=by
   intro z;subst z;exact hm ((VY (P4.mp e).1 S.nd).mp (e.trans e1.symm))
  exact q.mono T.toCh (aT hb)
abbrev Ad.keep(ρ:Ad)(l:Addr):Ad:=⟨ρ.ob,l::ρ.rs⟩
theorem Ch.keep(hl:H l=none):Ch ρ H (ρ.keep l) (upd H l o):=by
 refine⟨fun n a e=>e,fun b u n e=>⟨fun m=>?_,by rw[aT (bt e hl)];exact e⟩⟩;rcases m with m | m
 ·exact n (.inl m)
 ·rcases Qn.mp m with m | m
  ·exact bt e hl m
  ·exact n (.inr m)
theorem cn.keep(S:cn K ρ h H)(hl:H l=none):cn K (ρ.keep l) h (upd H l o):=by
 refine⟨S.len,S.nd,fun n a x e1 e2=>?_,fun b hb=>?_⟩
 ·have q:=S.at_ n a x e1 e2;obtain⟨w,ew⟩:=q.has;exact q.mono (Ch.keep hl) (aT (bt ew hl))
 ·rcases Qn.mp hb with rfl | hb
  ·exact⟨⟨_,bh⟩,fun m=>S.fresh hl (.inl m)⟩
  ·obtain⟨⟨v,e⟩,n⟩:=S.uC b hb;exact⟨⟨v,by rw[aT (bt e hl)];exact e⟩,n⟩
theorem Ch.put(hl:l∈ρ.rs):Ch ρ H ρ (upd H l o):=⟨fun n a e=>e,fun b u n e=>⟨n,by rw[aT (fun(z:b=l)=>n (.inr (by rw[z];exact hl)))];exact e⟩⟩
theorem cn.put(S:cn K ρ h H)(hl:l∈ρ.rs):cn K ρ h (upd H l o):=by
 refine⟨S.len,S.nd,fun n a x e1 e2=>(S.at_ n a x e1 e2).mono (Ch.put hl) (aT fun(z:a=l)=>(S.uC l hl).2 (by rw[←z];exact P6 e1)),fun b hb=>⟨?_,(S.uC b hb).2⟩⟩
 by_cases z:b=l
 ·subst z;exact⟨_,bh⟩
 ·rw[aT z];exact(S.uC b hb).1
theorem Ch.free{os rs rs':List Addr}{H:Hp}(hs:∀b∈rs',b∈rs):Ch ⟨os,rs⟩ H ⟨os,rs'⟩ H:=⟨fun n a e=>e,fun b u n e=>⟨fun m=>n (m.elim .inl fun m=>.inr (hs b m)),e⟩⟩
theorem cn.free{os rs rs':List Addr}{H:Hp}(S:cn K ⟨os,rs⟩ h H)(hs:∀b∈rs',b∈rs):cn K ⟨os,rs'⟩ h H:=
 ⟨S.len,S.nd,fun n a x e1 e2=>(S.at_ n a x e1 e2).mono (Ch.free hs) rfl,fun b hb=>S.uC b (hs b hb)⟩
structure cS(K:FR)(ρ:Ad)(H:Hp)(σ:St)(δ:DS):Prop where
 len:σ.length=δ.length
 at_:∀(i:Nat) d,δ[i]?=some (some d)->∃v,σ[i]?=some (some v)∧Rep K ρ H v d
theorem cS.mono(R:cS K ρ H σ δ)(S:Ch ρ H ρ' H'):cS K ρ' H' σ δ:=⟨R.len,fun i d e=>let⟨v,a,b⟩:=R.at_ i d e;⟨v,a,b.mono S⟩⟩
theorem cS.set(R:cS K ρ H σ δ)(r:Rep K ρ H v d)(i:Nat):cS K ρ H (σ.set i (some v)) (δ.set i (some d)):=by
 refine⟨by rw[RF,RF];exact R.len,fun j e he=>?_⟩
 by_cases hij:i=j
 ·subst hij;have hl:i < δ.length:=by
   have:=(P4.mp he).1;rw[RF] at this;exact this
  rw[Rh hl] at he;cases he;exact⟨v,by rw[Rh (by rw[R.len];exact hl)],r⟩
 ·rw[Q4 hij] at he ⊢;exact R.at_ j e he
abbrev EM:=DS->MH->Option (D×MH)
abbrev TM:=DS->MH->Option (Bool×MH)
abbrev AM:=DS->MH->Option (List D×MH)
inductive Fl where
 | nx | bk | ct | rt (d:D)
abbrev SM:=DS->MH->Option (Fl×DS×MH)
abbrev GM:=D->DS->MH->Option (DS×MH)
abbrev Fn:=List D->MH->Option (D×MH)
inductive IV(K:FR)(ρ:Ad)(H:Hp)(h':MH)(d:D)(v:V)(H':Hp):Prop where
 | mk (ρ'):dz ρ H ρ' H'->cn K ρ' h' H'->Rep K ρ' H' v d->IV K ρ H h' d v H'
noncomputable def eL(K:FR)(ρ:Ad)(H:Hp)(h':MH)(d:D):VK:=fun v H'=>IV K ρ H h' d v H'
inductive Pf(K:FR)(m:EM)(σ:L2.St)(H:Hp)(Q:VK):Prop where
 | mk (ρ δ h d h'):cS K ρ H σ δ->cn K ρ h H->(m δ h=some (d,h'))->(∀v H',eL K ρ H h' d v H'->Q v H')->Pf K m σ H Q
def tM(K:FR)(m:EM):TE:=fun σ H Q=>Pf K m σ H Q
inductive Nt(K:FR)(m:TM)(σ:L2.St)(H:Hp)(Q:Bool->Hp->Prop):Prop where
 | mk (ρ δ h b h'):cS K ρ H σ δ->cn K ρ h H->(m δ h=some (b,h'))->(∀ρ' H',dz ρ H ρ' H'->cn K ρ' h' H'->Q b H')->Nt K m σ H Q
def AL(K:FR)(m:TM):TT:=fun σ H Q=>Nt K m σ H Q
inductive Nz(K:FR)(m:AM)(σ:L2.St)(H:Hp)(Q:List V->Hp->Prop):Prop where
 | mk (ρ δ h ds h'):cS K ρ H σ δ->cn K ρ h H->(m δ h=some (ds,h'))->(∀vs ρ' H',dz ρ H ρ' H'->cn K ρ' h' H'->aF K ρ' H' vs ds->Q vs H')->Nz K m σ H Q
def O8(K:FR)(m:AM):TA:=fun σ H Q=>Nz K m σ H Q
inductive Nu(K:FR)(m:SM)(E:Ends)(σ:L2.St)(H:Hp):Prop where
 | mk (ρ δ h fl δ' h'):cS K ρ H σ δ->cn K ρ h H->(m δ h=some (fl,δ',h'))->(∀ρ' H',dz ρ H ρ' H'->cn K ρ' h' H'->
 match fl with
 | .nx=>∀σ',cS K ρ' H' σ' δ'->E.nx σ' H'
 | .bk=>∀σ',cS K ρ' H' σ' δ'->E.bk σ' H'
 | .ct=>∀σ',cS K ρ' H' σ' δ'->E.ct σ' H'
 | .rt d=>∀v,Rep K ρ' H' v d->E.rt v H')->Nu K m E σ H
def DB(K:FR)(m:SM):TS:=fun E σ H=>Nu K m E σ H
inductive Ny(K:FR)(m:GM)(v:V)(σ:L2.St)(H:Hp)(Q:L2.St->Hp->Prop):Prop where
 | mk (ρ δ h d δ' h'):cS K ρ H σ δ->cn K ρ h H->Rep K ρ H v d->(m d δ h=some (δ',h'))->(∀ρ' H' σ',dz ρ H ρ' H'->cn K ρ' h' H'->cS K ρ' H' σ' δ'->Q σ' H')->Ny K m v σ H Q
def DC(K:FR)(m:GM):TG:=fun v σ H Q=>Ny K m v σ H Q
def SE(X:Cx)(e:Expr)(m:EM):Prop:=PE X e (tM X.K m)
def ST(X:Cx)(e:Expr)(m:TM):Prop:=PT X e (AL X.K m)
def SW(X:Cx)(e:Expr)(m:TM):Prop:=PW X e (AL X.K m)
def SA(X:Cx)(es:List Expr)(m:AM):Prop:=PA X es (O8 X.K m)
def SS(X:Cx)(s:Stmt)(m:SM):Prop:=PS X s (DB X.K m)
def Ii(X:Cx)(s:List Stmt)(m:SM):Prop:=y7 X s (DB X.K m)
def SG(X:Cx)(e:Expr)(m:GM):Prop:=PG X e (DC X.K m)
theorem _root_.L2.PE.imp(h:PE X e t)(i:∀σ H Q,t' σ H Q->t σ H Q):PE X e t':=fun pins s σ H Q I q=>h pins s σ H Q I (i σ H Q q)
theorem _root_.L2.PT.imp(h:PT X e t)(i:∀σ H Q,t' σ H Q->t σ H Q):PT X e t':=fun pins s σ H Q I q=>h pins s σ H Q I (i σ H Q q)
theorem _root_.L2.PW.imp(h:PW X e t)(i:∀σ H Q,t' σ H Q->t σ H Q):PW X e t':=fun wh pins s σ H Q I q=>h wh pins s σ H Q I (i σ H Q q)
theorem _root_.L2.PA.imp(h:PA X e t)(i:∀σ H Q,t' σ H Q->t σ H Q):PA X e t':=fun pos pins s σ H Q I q=>h pos pins s σ H Q I (i σ H Q q)
theorem _root_.L2.PS.imp(h:PS X e t)(i:∀E σ H,t' E σ H->t E σ H):PS X e t':=fun pins s σ H E I q=>h pins s σ H E I (i E σ H q)
theorem _root_.L2.y7.imp(h:y7 X e t)(i:∀E σ H,t' E σ H->t E σ H):y7 X e t':=fun pins s σ H E I q=>h pins s σ H E I (i E σ H q)
theorem _root_.L2.PG.imp(h:PG X e t)(i:∀v σ H Q,t' v σ H Q->t v σ H Q):PG X e t':=fun pins s σ H v u Q I r q=>h pins s σ H v u Q I r (i v σ H Q q)
theorem bL(h:o.bind f=some b):∃a,o=some a∧f a=some b:=Ua.mp h
theorem gu(h:o.map f=some b):∃a,o=some a∧f a=b:=Qs.mp h
theorem yW{x:D}{α:Type}{g:Bool->Option α}{z:α}(e:(match x with | .bl c=>g c | _=>none)=some z):∃c,x=.bl c∧g c=some z:=by
 cases x <;> first | exact absurd e (by intro z;cases z) | exact⟨_,rfl,e⟩
theorem eL.here(S:cn K ρ h H)(r:Rep K ρ H v d):eL K ρ H h d v H:=⟨ρ,.refl _ _,S,r⟩
theorem eL.step(T:dz ρ H ρ1 H1)(p:eL K ρ1 H1 h' d v H'):eL K ρ H h' d v H':=let⟨ρ2,T2,S2,r2⟩:=p;⟨ρ2,T.trans T2,S2,r2⟩
theorem eL.tup(S:cn K ρ h H)(r:aF K ρ H vs ds)(hp:H p=none):eL K ρ H h (.tup ds) (.ref p) (upd H p (.tup vs)):=
 ⟨ρ,dz.laid S hp,S.laid hp,.tup (.inl ⟨.inl bh,S.fresh hp⟩) (r.mono (dz.laid S hp).toCh)⟩
theorem eL.lv(S:cn K ρ h H)(r:aF K ρ H vs ds)(hp:H p=none):eL K ρ H h (.lv ds) (.ref p) (upd H p (.lst vs)):=
 ⟨ρ,dz.laid S hp,S.laid hp,.lv bh (S.fresh hp) (r.mono (dz.laid S hp).toCh)⟩
theorem eL.dv(S:cn K ρ h H)(r:bH K ρ H us ds)(hp:H p=none):eL K ρ H h (.dv ds) (.ref p) (upd H p (.dK us)):=
 ⟨ρ,dz.laid S hp,S.laid hp,.dv bh (S.fresh hp) (r.mono (dz.laid S hp).toCh)⟩
noncomputable def ae(i:Nat):EM:=fun δ h=>(δ[i]?).join.map fun d=>(d,h)
noncomputable def eK(d:D):EM:=fun _ h=>some (d,h)
noncomputable def ay(f:D->D->MH->Option (D×MH))(a b:EM):EM:=fun δ h=>(a δ h).bind fun p=>(b δ p.2).bind fun q=>f p.1 q.1 q.2
noncomputable def Bn(f:D->MH->Option (D×MH))(a:EM):EM:=fun δ h=>(a δ h).bind fun p=>f p.1 p.2
noncomputable def ah:AM:=fun _ h=>some ([],h)
noncomputable def ab(a:EM)(r:AM):AM:=fun δ h=>(a δ h).bind fun p=>(r δ p.2).bind fun q=>some (p.1::q.1,q.2)
noncomputable def aw(f:Fn)(a:AM):EM:=fun δ h=>(a δ h).bind fun p=>f p.1 p.2
noncomputable def PQ(t:TM)(a b:EM):EM:=fun δ h=>(t δ h).bind fun p=>if p.1 then a δ p.2 else b δ p.2
noncomputable def aM(a:EM):TM:=fun δ h=>(a δ h).bind fun p=>match p.1 with
 | .bl b=>some (b,p.2)
 | _=>none
noncomputable def eI(t:TM):TM:=fun δ h=>(t δ h).map fun p=>(!p.1,p.2)
noncomputable def mE(a b:TM):TM:=fun δ h=>(a δ h).bind fun p=>if p.1 then b δ p.2 else some (false,p.2)
noncomputable def qv(a b:TM):TM:=fun δ h=>(a δ h).bind fun p=>if p.1 then some (true,p.2) else b δ p.2
noncomputable def kR(a b:EM):EM:=fun δ h=>(a δ h).bind fun p=>match p.1 with
 | .bl c=>if c then b δ p.2 else some (.bl false,p.2)
 | _=>none
noncomputable def OU(a b:EM):EM:=fun δ h=>(a δ h).bind fun p=>match p.1 with
 | .bl c=>if c then some (.bl true,p.2) else b δ p.2
 | _=>none
noncomputable def aV:Fn:=fun ds h=>some (.tup ds,h)
inductive Pk(K:FR)(f:D->D->MH->Option (D×MH))(x y:V)(H:Hp)(Q:VK):Prop where
 | mk (ρ h d e z h'):cn K ρ h H->Rep K ρ H x d->Rep K ρ H y e->(f d e h=some (z,h'))->(∀v H',eL K ρ H h' z v H'->Q v H')->Pk K f x y H Q
def rS(K:FR)(f:D->D->MH->Option (D×MH)):R2:=fun x y H Q=>Pk K f x y H Q
def nZ(X:Cx)(g:Value->Value->Sem Value)(f:D->D->MH->Option (D×MH)):Prop:=k8 X g (rS X.K f)
inductive Pj(K:FR)(f:D->MH->Option (D×MH))(x:V)(H:Hp)(Q:VK):Prop where
 | mk (ρ h d z h'):cn K ρ h H->Rep K ρ H x d->(f d h=some (z,h'))->(∀v H',eL K ρ H h' z v H'->Q v H')->Pj K f x H Q
def rU(K:FR)(f:D->MH->Option (D×MH)):V->Hp->VK->Prop:=fun x H Q=>Pj K f x H Q
inductive Pm(K:FR)(f:Fn)(vs:List V)(H:Hp)(Q:VK):Prop where
 | mk (ρ h ds z h'):cn K ρ h H->aF K ρ H vs ds->(f ds h=some (z,h'))->(∀v H',eL K ρ H h' z v H'->Q v H')->Pm K f vs H Q
def rF(K:FR)(f:Fn):List V->Hp->VK->Prop:=fun vs H Q=>Pm K f vs H Q
def gy(X:Cx)(g:Value)(f:Fn):Prop:=eN X g (rF X.K f)
section
variable {X:Cx} {a b c e:Expr} {es:List Expr} {pos:Pos} {ma mb mc:EM} {mt mu:TM} {m:AM} {f:D->D->MH->Option (D×MH)}
theorem Ju(hN:X.N[i]?=some x)(hv:LU X.env.scope x)(hd:(x==("__debug__":Str))=false:=by ac_nf)(hcd:(x==("__classdict__":Str))=false:=by ac_nf):SE X (.Name x pos) (ae i):=
 (Ke hN hv hd hcd).imp fun σ H Q ⟨ρ,δ,h,d,h',R,S,e,k⟩=>by
  obtain⟨d',e1,e2⟩:=gu e;cases e2;obtain⟨v,ev,r⟩:=R.at_ i _ (T9.mp e1);exact⟨v,ev,k v H (.here S r)⟩
theorem BW(hp:PE X e (tC v))(hr:∀ρ H,Rep X.K ρ H v d):SE X e (eK d):=hp.imp fun σ H Q ⟨ρ,δ,h,d',h',R,S,ee,k⟩=>by
 cases ee;exact k v H (.here S (hr _ _))
theorem aj{i j}:SE X (.Constant (.int i) j pos) (eK (.int i)):=BW Km fun _ _=>.int i
theorem eD{b j}:SE X (.Constant (.bool b) j pos) (eK (.bl b)):=BW MS fun _ _=>.bl b
theorem gH{j}:SE X (.Constant .none j pos) (eK .cC):=BW Kk fun _ _=>.cC
theorem ar{x j}(h:PyData.strOk x=true:=by decide+kernel):SE X (.Constant (.str x) j pos) (eK (.str x)):=BW Kh fun _ _=>.str h
theorem Mr(hg:Gl X x)(hm:X.mg x=none)(hv:bootBuiltins x=some (.type n))(hn:x≠"__name__":=by decide)(hd:(x==("__debug__":Str))=false:=by ac_nf):SE X (.Name x pos) (eK (.ty n)):=
 BW (Hb (v:=.ty n) hg hm hv rfl hn hd) fun _ _=>.ty n
theorem Gu(hg:Gl X x)(hm:X.mg x=some u)(r:RelV v u)(hr:∀ρ H,Rep X.K ρ H v d)(hd:(x==("__debug__":Str))=false:=by ac_nf):SE X (.Name x pos) (eK d):=
 BW (G7 hg hm r hd) hr
theorem AU(h:tM X.K (ay f ma mb) σ H Q):Mg (rS X.K f) (tM X.K ma) (tM X.K mb) σ H Q:=by
 obtain⟨ρ,δ,h,d,h',R,S,e,k⟩:=h;obtain⟨⟨x,h1⟩,e1,e⟩:=bL e;obtain⟨⟨y,h2⟩,e2,e3⟩:=bL e;refine⟨ρ,δ,h,x,h1,R,S,e1,fun v H1 ⟨ρ1,T1,S1,r1⟩=>?_⟩;refine⟨ρ1,δ,h1,y,h2,R.mono T1,S1,e2,fun u H2 ⟨ρ2,T2,S2,r2⟩=>?_⟩;exact⟨ρ2,h2,x,y,d,h',S2,r1.mono T2,r2,e3,fun w H3 p=>k w H3 (p.step (T1.trans T2))⟩
theorem aW(ho:nZ X (binaryOp op) f)(ha:SE X a ma)(hb:SE X b mb):SE X (.BinOp a op b pos) (ay f ma mb):=(ID ho ha hb).imp fun _ _ _=>AU
theorem cU(ho:nZ X (compareOp op) f)(ha:SE X a ma)(hb:SE X b mb)(hm:behindInMarks op b=false):SE X (.Compare a [op] [b] pos) (ay f ma mb):=(G9 ho ha hb hm).imp fun _ _ _=>AU
theorem aH{op:CmpOp}(ho:nZ X (compareOp op) f)(ha:SE X a ma)(hb:SE X b mb)(hm:behindInMarks op b=false):ST X (.Compare a [op] [b] pos) (aM (ay f ma mb)):=
 (GS ho ha hb hm).imp fun σ H Q ⟨ρ,δ,h,c,h',R,S,e,k⟩=>by
  obtain⟨⟨x,h1⟩,e1,e2⟩:=bL e;obtain⟨c',rfl,e2⟩:=yW e2;cases e2;refine AU ⟨ρ,δ,h,.bl c,h1,R,S,e1,fun v H' ⟨ρ',T,S',r⟩=>?_⟩;cases r;exact⟨c,rfl,k ρ' H' T S'⟩
theorem uA{op:UnaryOp}{f:D->MH->Option (D×MH)}(ho:Np X (unaryOp op) (rU X.K f))(ha:SE X a ma):SE X (.UnaryOp op a pos) (Bn f ma):=(MN ho ha).imp fun σ H Q ⟨ρ,δ,h,d,h',R,S,e,k⟩=>by
 obtain⟨⟨x,h1⟩,e1,e⟩:=bL e;exact⟨ρ,δ,h,x,h1,R,S,e1,fun v H1 ⟨ρ1,T1,S1,r1⟩=>⟨ρ1,h1,x,d,h',S1,r1,e,fun w H3 p=>k w H3 (p.step T1)⟩⟩
theorem af:SA X [] ah:=rT.imp fun σ H Q ⟨ρ,δ,h,d,h',R,S,e,k⟩=>by
 cases e;exact k [] ρ H (.refl _ _) S .nil
theorem aa(ha:SE X e ma)(hr:SA X es m)(hs:starEach (e::es) X.env=(false,eval e X.env)::starEach es X.env:=by ac_nf):SA X (e::es) (ab ma m):=
 (mT ha hr hs).imp fun σ H Q ⟨ρ,δ,h,d,h',R,S,e,k⟩=>by
  obtain⟨⟨x,h1⟩,e1,e⟩:=bL e;obtain⟨⟨ys,h2⟩,e2,e3⟩:=bL e;cases e3;refine⟨ρ,δ,h,x,h1,R,S,e1,fun v H1 ⟨ρ1,T1,S1,r1⟩=>?_⟩;exact⟨ρ1,δ,h1,ys,h2,R.mono T1,S1,e2,fun vs ρ2 H2 T2 S2 rs=>k _ ρ2 H2 (T1.trans T2) S2 (.cons (r1.mono T2) rs)⟩
def nX(m:AM)(n:Nat):Prop:=∀δ h ds h',m δ h=some (ds,h')->ds.length=n
theorem ak:nX ah 0:=fun δ h ds h' e=>by cases e;rfl
theorem ag(hr:nX m n):nX (ab ma m) (n+1):=fun δ h ds h' e=>by
 obtain⟨⟨x,h1⟩,e1,e⟩:=bL e;obtain⟨⟨ys,h2⟩,e2,e3⟩:=bL e;cases e3;rw[Qv,hr _ _ _ _ e2]
theorem az{x1}(h:SA X es m)(hl:nX m n)(hn:n≤sizeLine:=by decide):SE X (.Tuple es x1 pos) (aw aV m):=(Kf h).imp fun σ H Q ⟨ρ,δ,h,d,h',R,S,e,k⟩=>by
 obtain⟨⟨x,h1⟩,e1,e⟩:=bL e;cases e;refine⟨ρ,δ,h,x,h1,R,S,e1,fun vs ρ1 H1 T1 S1 r1=>⟨by rw[r1.length,hl _ _ _ _ e1];exact hn,fun p hp=>k _ _ (eL.step T1 (.tup S1 r1 hp))⟩⟩
inductive NA(K:FR)(m:AM)(σ:L2.St)(H:Hp)(Q:VK):Prop where
 | mk (ρ δ h ds h'):cS K ρ H σ δ->cn K ρ h H->(m δ h=some (ds,h'))->(∀ρ1 H1 p vs,dz ρ H ρ1 H1->cn K ρ1 h' H1->H1 p=none->aF K ρ1 H1 vs ds->Q (.ref p) (upd H1 p (.lst vs)))->NA K m σ H Q
def PD(K:FR)(m:AM):TE:=fun σ H Q=>NA K m σ H Q
def gW(X:Cx)(e:Expr)(m:AM):Prop:=PE X e (PD X.K m)
noncomputable def eR(m:AM):EM:=fun δ h=>(m δ h).map fun p=>(.lv p.1,p.2)
noncomputable def sE(m:AM):EM:=fun δ h=>(m δ h).map fun p=>(.ob p.2.length,p.2++[.lst p.1])
theorem eL.ob(S:cn K ρ h H)(r:aF K ρ H vs ds)(hp:H p=none):eL K ρ H (h++[.lst ds]) (.ob h.length) (.ref p) (upd H p (.lst vs)):=
 ⟨ρ.more p,dz.made S hp,S.made hp ⟨vs,bh,r.mono (dz.made S hp).toCh⟩,.ob (show(ρ.ob++[p])[h.length]?=_ by rw[←S.len,Qw (P8 _)];simp)⟩
theorem gW.lv(h:gW X e m):SE X e (eR m):=h.imp fun σ H Q ⟨ρ,δ,h,d,h',R,S,e,k⟩=>by
 obtain⟨⟨ds,h1⟩,e1,e2⟩:=gu e;cases e2;exact⟨ρ,δ,h,ds,h1,R,S,e1,fun ρ1 H1 p vs T S1 hp r=>k _ _ (eL.step T (.lv S1 r hp))⟩
theorem gW.ob(h:gW X e m):SE X e (sE m):=h.imp fun σ H Q ⟨ρ,δ,h,d,h',R,S,e,k⟩=>by
 obtain⟨⟨ds,h1⟩,e1,e2⟩:=gu e;cases e2;exact⟨ρ,δ,h,ds,h1,R,S,e1,fun ρ1 H1 p vs T S1 hp r=>k _ _ (eL.step T (.ob S1 r hp))⟩
theorem bE(h:SA X es m)(hl:nX m n)(hn:n≤sizeLine:=by decide):gW X (.List es pos) m:=(Kl h).imp fun σ H Q ⟨ρ,δ,h,ds,h',R,S,e,k⟩=>
 ⟨ρ,δ,h,ds,h',R,S,e,fun vs ρ1 H1 T1 S1 r1=>⟨by rw[r1.length,hl _ _ _ _ e];exact hn,fun p hp=>k ρ1 H1 p vs T1 S1 hp r1⟩⟩
noncomputable def Pe:EM:=fun _ h=>some (.dv [],h)
noncomputable def PR:EM:=fun _ h=>some (.ob h.length,h++[.dct []])
theorem Mv:SE X (.Dict [] [] pos) Pe:=Er.imp fun σ H Q ⟨ρ,δ,h,d,h',R,S,e,k⟩ p hp=>by
 cases e;exact k _ _ (.dv S .nil hp)
theorem GF{σ:St}{H:Hp}{Q:Bool->Hp->Prop}(h:AL X.K (aM ma) σ H Q):tM X.K ma σ H fun x H1=>∃c,x=.bl c∧Q c H1:=by
 obtain⟨ρ,δ,h,c,h',R,S,e,k⟩:=h;obtain⟨⟨x,h1⟩,e1,e2⟩:=bL e;obtain⟨c',rfl,e2⟩:=yW e2;cases e2;refine⟨ρ,δ,h,.bl c,h1,R,S,e1,fun v H' ⟨ρ',T,S',r⟩=>?_⟩;cases r;exact⟨c,rfl,k ρ' H' T S'⟩
theorem bO(h:ST X a mt):ST X (.UnaryOp .Not a pos) (eI mt):=(JT h).imp fun σ H Q ⟨ρ,δ,h,c,h',R,S,e,k⟩=>by
 obtain⟨⟨x,h1⟩,e1,e2⟩:=gu e;cases e2;exact⟨ρ,δ,h,x,h1,R,S,e1,fun ρ' H' T S'=>k ρ' H' T S'⟩
theorem iU(h:ST X a mt):SW X (.BoolOp .And [a] pos) mt:=GR h
theorem dJ(h:ST X a mt):SW X (.BoolOp .Or [a] pos) mt:=JR h
theorem iV{rest:List Expr}(ha:ST X a mt)(hb:SW X (.BoolOp .And (b::rest) pos) mu):SW X (.BoolOp .And (a::b::rest) pos) (mE mt mu):=(JS ha hb).imp fun σ H Q ⟨ρ,δ,h,c,h',R,S,e,k⟩=>by
 obtain⟨⟨x,h1⟩,e1,e2⟩:=bL e;refine⟨ρ,δ,h,x,h1,R,S,e1,fun ρ' H' T S'=>?_⟩;cases x with
 | true=>rw[P7 rfl] at e2 ⊢;exact⟨ρ',δ,h1,c,h',R.mono T,S',e2,fun ρ2 H2 T2 S2=>k ρ2 H2 (T.trans T2) S2⟩
 | false=>rw[Qa (by simp)] at e2 ⊢;cases e2;exact k ρ' H' T S'
theorem eW{rest:List Expr}(ha:ST X a mt)(hb:SW X (.BoolOp .Or (b::rest) pos) mu):SW X (.BoolOp .Or (a::b::rest) pos) (qv mt mu):=(ML ha hb).imp fun σ H Q ⟨ρ,δ,h,c,h',R,S,e,k⟩=>by
 obtain⟨⟨x,h1⟩,e1,e2⟩:=bL e;refine⟨ρ,δ,h,x,h1,R,S,e1,fun ρ' H' T S'=>?_⟩;cases x with
 | false=>rw[Qa (by simp)] at e2 ⊢;exact⟨ρ',δ,h1,c,h',R.mono T,S',e2,fun ρ2 H2 T2 S2=>k ρ2 H2 (T.trans T2) S2⟩
 | true=>rw[P7 rfl] at e2 ⊢;cases e2;exact k ρ' H' T S'
theorem SW.st(h:SW X a mt):ST X a mt:=PW.pt h
theorem fJ{op}(h:SE X a ma):SE X (.BoolOp op [a] pos) ma:=Ki h
theorem fg{rest:List Expr}(ha:SE X a ma)(hb:SE X (.BoolOp .And (b::rest) pos) mb):SE X (.BoolOp .And (a::b::rest) pos) (kR ma mb):=(Ko ha hb).imp fun σ H Q ⟨ρ,δ,h,d,h',R,S,e,k⟩=>by
 obtain⟨⟨x,h1⟩,e1,e2⟩:=bL e;obtain⟨c,rfl,e2⟩:=yW e2;refine⟨ρ,δ,h,.bl c,h1,R,S,e1,fun v H' ⟨ρ',T,S',r⟩=>?_⟩;cases r;refine⟨c,rfl,?_⟩;cases c with
 | true=>rw[P7 rfl] at e2 ⊢;exact⟨ρ',δ,h1,d,h',R.mono T,S',e2,fun v H2 p=>k v H2 (p.step T)⟩
 | false=>rw[Qa (by simp)] at e2 ⊢;cases e2;exact k _ _ ⟨ρ',T,S',.bl _⟩
theorem Ms{rest:List Expr}(ha:SE X a ma)(hb:SE X (.BoolOp .Or (b::rest) pos) mb):SE X (.BoolOp .Or (a::b::rest) pos) (OU ma mb):=(MP ha hb).imp fun σ H Q ⟨ρ,δ,h,d,h',R,S,e,k⟩=>by
 obtain⟨⟨x,h1⟩,e1,e2⟩:=bL e;obtain⟨c,rfl,e2⟩:=yW e2;refine⟨ρ,δ,h,.bl c,h1,R,S,e1,fun v H' ⟨ρ',T,S',r⟩=>?_⟩;cases r;refine⟨c,rfl,?_⟩;cases c with
 | false=>rw[Qa (by simp)] at e2 ⊢;exact⟨ρ',δ,h1,d,h',R.mono T,S',e2,fun v H2 p=>k v H2 (p.step T)⟩
 | true=>rw[P7 rfl] at e2 ⊢;cases e2;exact k _ _ ⟨ρ',T,S',.bl _⟩
noncomputable def HP(a:EM):EM:=fun δ h=>(a δ h).bind fun p=>match p.1 with
 | .bl c=>some (.bl (!c),p.2)
 | _=>none
theorem DN(ha:SE X a ma):SE X (.UnaryOp .Not a pos) (HP ma):=(Kj ha).imp fun σ H Q ⟨ρ,δ,h,d,h',R,S,e,k⟩=>by
 obtain⟨⟨x,h1⟩,e1,e2⟩:=bL e;obtain⟨c,rfl,e2⟩:=yW e2;cases e2;refine⟨ρ,δ,h,.bl c,h1,R,S,e1,fun v H' ⟨ρ',T,S',r⟩=>?_⟩;cases r;exact⟨c,rfl,k _ _ ⟨ρ',T,S',.bl _⟩⟩
noncomputable def Dz(d:D)(h:MH):Option Bool:=match d with
 | .cC=>some false
 | .bl b=>some b
 | .int i=>some (i !=0)
 | .str x=>if x.length≤sizeLine then some ((x.length:Int) !=0) else none
 | .tup xs=>some (!xs.isEmpty)
 | .dv kvs=>some (!kvs.isEmpty)
 | .ob n=>match h[n]? with
  | some (.lst xs)=>some (!xs.isEmpty)
  | some (.dct kvs)=>some (!kvs.isEmpty)
  | none=>none
 | .lv xs=>some (!xs.isEmpty)
 | .ro xs=>some (!xs.isEmpty)
 | .ty _=>none
noncomputable def dW(a:EM):TM:=fun δ h=>(a δ h).bind fun p=>(Dz p.1 p.2).map fun c=>(c,p.2)
theorem bH.isEmpty(t:bH K ρ H us ds):us.isEmpty=ds.isEmpty:=by cases t <;> rfl
theorem Gm{K:FR}{ρ:Ad}{H:Hp}{h:MH}{v:V}{d:D}{c:Bool}(S:cn K ρ h H)(r:Rep K ρ H v d)(e:Dz d h=some c):LC K v H c:=by
 cases r with
 | cC=>cases e;exact rfl
 | bl b=>cases e;exact rfl
 | int i=>cases e;exact rfl
 | str hs=>
  unfold Dz at e
  by_cases z:‹Str›.length≤sizeLine
  ·simp only[P7 z] at e;cases e;exact⟨z,rfl⟩
  ·simp only[Qa z] at e;cases e
 | ty n=>cases e
 | tup ht l=>cases e;exact .inr (.inl ⟨_,ht.sq,by rw[l.isEmpty]⟩)
 | lv ht n l=>cases e;exact .inl ⟨_,gA.of ht,by rw[l.isEmpty]⟩
 | ro ht l=>cases e;exact .inl ⟨_,ht.sq,by rw[l.isEmpty]⟩
 | dv ht n l=>cases e;exact .inr (.inr ⟨_,ht,by rw[l.isEmpty]⟩)
 | ob hn=>
  unfold Dz at e;rename_i a n;cases q:h[n]? with
  | none=>simp only[q] at e;cases e
  | some o=>
   have x:=S.at_ n a o hn q;cases o with
   | lst ds=>simp only[q] at e;cases e;obtain⟨vs,e1,l⟩:=x;exact .inl ⟨_,gA.of e1,by rw[l.isEmpty]⟩
   | dct ds=>simp only[q] at e;cases e;obtain⟨vs,e1,l⟩:=x;exact .inr (.inr ⟨_,e1,by rw[l.isEmpty]⟩)
theorem bA(ha:SE X a ma)(he:∀whole,isTrue a X.env whole=(do let v←whole;standAt a.pos;holding [v] (truthy v)):=by intro _;ac_nf):ST X a (dW ma):=(Ed ha he).imp fun σ H Q ⟨ρ,δ,h,c,h',R,S,e,k⟩=>by
 obtain⟨⟨x,h1⟩,e1,e2⟩:=bL e;obtain⟨c',e3,e4⟩:=gu e2;cases e4;exact⟨ρ,δ,h,x,h1,R,S,e1,fun v H' ⟨ρ',T,S',r⟩=>⟨c,Gm S' r e3,k ρ' H' T S'⟩⟩
end
mutual
noncomputable def Ib:D->D->Bool
 | .cC,.cC=>true
 | .bl a,.bl b=>a==b
 | .int a,.int b=>a==b
 | .str a,.str b=>decide (a=b)
 | .ty a,.ty b=>a==b
 | .tup a,.tup b=>AA a b
 | .lv a,.lv b=>AA a b
 | .ro a,.ro b=>AA a b
 | .dv a,.dv b=>FK a b
 | .ob a,.ob b=>a==b
 | _,_=>false
noncomputable def AA:List D->List D->Bool
 | [],[]=>true
 | a::r,b::s=>Ib a b&&AA r s
 | _,_=>false
noncomputable def FK:List (Key×D)->List (Key×D)->Bool
 | [],[]=>true
 |(k,a)::r,(j,b)::s=>decide (k=j)&&Ib a b&&FK r s
 | _,_=>false
end
mutual
theorem BB:∀(a b:D),Ib a b=true->a=b
 | .cC,b,h=>by cases b <;> first | rfl |(cases h;done)
 | .bl x,b,h=>by cases b <;> first | exact congrArg _ (eq_of_beq h) |(cases h;done)
 | .int x,b,h=>by cases b <;> first | exact congrArg _ (eq_of_beq h) |(cases h;done)
 | .str x,b,h=>by cases b <;> first | exact congrArg _ (QK h) |(cases h;done)
 | .ty x,b,h=>by cases b <;> first | exact congrArg _ (eq_of_beq h) |(cases h;done)
 | .ob x,b,h=>by cases b <;> first | exact congrArg _ (eq_of_beq h) |(cases h;done)
 | .tup x,b,h=>by cases b <;> first | exact congrArg _ (nJ _ _ h) |(cases h;done)
 | .lv x,b,h=>by cases b <;> first | exact congrArg _ (nJ _ _ h) |(cases h;done)
 | .ro x,b,h=>by cases b <;> first | exact congrArg _ (nJ _ _ h) |(cases h;done)
 | .dv x,b,h=>by cases b <;> first | exact congrArg _ (xw _ _ h) |(cases h;done)
theorem nJ:∀(a b:List D),AA a b=true->a=b
 | [],b,h=>by cases b <;> first | rfl |(cases h;done)
 | x::r,b,h=>by
  cases b with
  | nil=>cases h
  | cons y s=>have h:=QP.mp h;rw[BB _ _ h.1,nJ _ _ h.2]
theorem xw:∀(a b:List (Key×D)),FK a b=true->a=b
 | [],b,h=>by cases b <;> first | rfl |(cases h;done)
 |(k,x)::r,b,h=>by
  cases b with
  | nil=>cases h
  | cons y s=>
   obtain⟨j,y⟩:=y;have h:=QP.mp h;have g:=QP.mp h.1;rw[QK g.1,BB _ _ g.2,xw _ _ h.2]
end
mutual
theorem vy:∀(a:D),Ib a a=true
 | .cC=>rfl
 | .bl x=>RP x
 | .int x=>RP x
 | .str x=>QO rfl
 | .ty x=>RP x
 | .ob x=>RP x
 | .tup x=>iN x
 | .lv x=>iN x
 | .ro x=>iN x
 | .dv x=>pA x
theorem iN:∀(a:List D),AA a a=true
 | []=>rfl
 | x::r=>QP.mpr ⟨vy x,iN r⟩
theorem pA:∀(a:List (Key×D)),FK a a=true
 | []=>rfl
 |(k,x)::r=>QP.mpr ⟨QP.mpr ⟨QO rfl,vy x⟩,pA r⟩
end
noncomputable def Dg:MO->MO->Bool
 | .lst a,.lst b=>AA a b
 | .dct a,.dct b=>FK a b
 | _,_=>false
theorem Bz(h:Dg a b=true):a=b:=by
 cases a <;> cases b <;> simp[Dg] at h
 ·rw[nJ _ _ h]
 ·rw[xw _ _ h]
theorem vw(a:MO):Dg a a=true:=by
 cases a with
 | lst x=>exact iN x
 | dct x=>exact pA x
noncomputable def xx:MH->MH->Bool
 | [],[]=>true
 | a::r,b::s=>Dg a b&&xx r s
 | _,_=>false
theorem BA:∀{a b:MH},xx a b=true->a=b
 | [],b,h=>by cases b <;> first | rfl | simp[xx] at h
 | x::r,b,h=>by
  cases b with
  | nil=>simp[xx] at h
  | cons y s=>simp[xx] at h;rw[Bz h.1,BA h.2]
noncomputable def bM:SM:=fun δ h=>some (.nx,δ,h)
noncomputable def Og:SM:=fun δ h=>some (.bk,δ,h)
noncomputable def Mx:SM:=fun δ h=>some (.ct,δ,h)
noncomputable def av(a b:SM):SM:=fun δ h=>(a δ h).bind fun r=>match r.1 with
 | .nx=>b r.2.1 r.2.2
 | _=>some r
noncomputable def aZ(i:Nat)(e:EM):SM:=fun δ h=>(e δ h).bind fun p=>some (.nx,δ.set i (some p.1),p.2)
noncomputable def lH(e:EM)(g:GM):SM:=fun δ h=>(e δ h).bind fun p=>(g p.1 δ p.2).bind fun q=>some (.nx,q.1,q.2)
noncomputable def ft(e:EM):SM:=fun δ h=>(e δ h).bind fun p=>some (.nx,δ,p.2)
noncomputable def aX(e:EM):SM:=fun δ h=>(e δ h).bind fun p=>some (.rt p.1,δ,p.2)
noncomputable def fb(t:TM)(a b:SM):SM:=fun δ h=>(t δ h).bind fun p=>if p.1 then a δ p.2 else b δ p.2
noncomputable def DW(i:Nat)(f:D->D->MH->Option (D×MH))(e:EM):SM:=fun δ h=>((δ[i]?).join).bind fun x=>(e δ h).bind fun p=>(f x p.1 p.2).bind fun q=>some (.nx,δ.set i (some q.1),q.2)
noncomputable def gN(i:Nat):GM:=fun d δ h=>some (δ.set i (some d),h)
abbrev Gi:=List D->DS->MH->Option (DS×MH)
noncomputable def dE:Gi:=fun ds δ h=>match ds with
 | []=>some (δ,h)
 | _=>none
noncomputable def aN(g:GM)(u:Gi):Gi:=fun ds δ h=>match ds with
 | []=>none
 | d::r=>(g d δ h).bind fun p=>u r p.1 p.2
noncomputable def gT(n:Nat)(u:Gi):GM:=fun d δ h=>match d with
 | .tup xs=>if xs.length=n then u xs δ h else none
 | _=>none
abbrev W:=List (Nat×MO)
abbrev IM:=DS->MH->Option (List D×W×MH)
noncomputable def ke:W->MH->Bool
 | [],_=>true
 |(n,o)::r,h=>(match h[n]? with | some u=>Dg u o | none=>false)&&ke r h
noncomputable def nj(ws:W)(g:GM)(b:SM):List D->SM
 | [],δ,h=>if ke ws h then some (.nx,δ,h) else none
 | x::r,δ,h=>if ke ws h then(g x δ h).bind fun q=>(b q.1 q.2).bind fun z=>match z.1 with
  | .nx=>nj ws g b r z.2.1 z.2.2
  | .ct=>nj ws g b r z.2.1 z.2.2
  | .bk=>some (.nx,z.2.1,z.2.2)
  | .rt d=>some (.rt d,z.2.1,z.2.2)
  else none
noncomputable def fL(i:IM)(g:GM)(b:SM):SM:=fun δ h=>(i δ h).bind fun p=>nj p.2.1 g b p.1 δ p.2.2
noncomputable def iT(c:TM)(b:SM):Nat->SM
 | 0,_,_=>none
 | n+1,δ,h=>(c δ h).bind fun p=>if p.1 then(b δ p.2).bind fun z=>match z.1 with
   | .nx=>iT c b n z.2.1 z.2.2
   | .ct=>iT c b n z.2.1 z.2.2
   | .bk=>some (.nx,z.2.1,z.2.2)
   | .rt d=>some (.rt d,z.2.1,z.2.2)
  else some (.nx,δ,p.2)
section
variable {X:Cx} {a b c e tg iter:Expr} {es:List Expr} {st:Stmt} {sts rest:List Stmt} {pos:Pos} {ma mb:EM} {mt:TM} {ms mu:SM} {m:AM} {g:GM} {gs:Gi}
theorem aG:Ii X [] bM:=GV.imp fun E σ H ⟨ρ,δ,h,fl,δ',h',R,S,e,k⟩=>by
 cases e;exact k ρ H (.refl _ _) S σ R
theorem JD(hh:DB X.K (av ms mu) E σ H):Md (DB X.K ms) (DB X.K mu) E σ H:=by
 obtain⟨ρ,δ,h,fl,δ',h',R,S,e,k⟩:=hh;obtain⟨⟨f1,δ1,h1⟩,e1,e2⟩:=bL e;cases f1 with
 | nx=>exact⟨ρ,δ,h,.nx,δ1,h1,R,S,e1,fun ρ1 H1 T1 S1 σ' R'=>⟨ρ1,δ1,h1,fl,δ',h',R',S1,e2,fun ρ2 H2 T2 S2=>k ρ2 H2 (T1.trans T2) S2⟩⟩
 | bk=>cases e2;exact⟨ρ,δ,h,.bk,_,_,R,S,e1,fun ρ1 H1 T1 S1=>k ρ1 H1 T1 S1⟩
 | ct=>cases e2;exact⟨ρ,δ,h,.ct,_,_,R,S,e1,fun ρ1 H1 T1 S1=>k ρ1 H1 T1 S1⟩
 | rt d=>cases e2;exact⟨ρ,δ,h,.rt d,_,_,R,S,e1,fun ρ1 H1 T1 S1=>k ρ1 H1 T1 S1⟩
theorem ai(h1:SS X st ms)(h2:Ii X rest mu):Ii X (st::rest) (av ms mu):=(Ef h1 h2).imp fun _ _ _=>JD
theorem ao(h1:SS X st ms):Ii X [st] ms:=GU h1
theorem zz(hh:DB X.K (aZ i ma) E σ H):BM (tM X.K ma) (pS i) E σ H:=by
 obtain⟨ρ,δ,h,fl,δ',h',R,S,e,k⟩:=hh;obtain⟨⟨x,h1⟩,e1,e2⟩:=bL e;cases e2;exact⟨ρ,δ,h,x,h1,R,S,e1,fun v H1 ⟨ρ1,T1,S1,r1⟩=>k ρ1 H1 T1 S1 _ ((R.mono T1).set r1 i)⟩
theorem Jj(hN:X.N.Nodup)(hi:X.N[i]?=some x)(hx:Loc X.env.scope x)(he:SE X e ma)(hs:swapsWith e (some (.Name x pos')) pos.line X.env=pure false:=by ac_nf)(hf:X.fn x=true∨X.env.scope.names.lookup x=some .local:=by first | exact .inl rfl | exact .inr rfl | assumption):SS X (.Assign [.Name x pos'] e pos) (aZ i ma):=(JV hN hi hx he hs hf).imp fun _ _ _=>zz
theorem Gs(hN:X.N.Nodup)(hi:X.N[i]?=some x)(hx:Loc X.env.scope x)(hf:X.fn x=true∨X.env.scope.names.lookup x=some .local:=by first | exact .inl rfl | exact .inr rfl | assumption):SG X (.Name x pos) (gN i):=
 (G6 hN hi hx hf).imp fun v σ H Q ⟨ρ,δ,h,d,δ',h',R,S,r,e,k⟩=>by
  cases e;exact k ρ H _ (.refl _ _) S (R.set r i)
inductive IS(K:FR)(m:Gi)(vs:List V)(σ:L2.St)(H:Hp)(Q:L2.St->Hp->Prop):Prop where
 | mk (ρ δ h ds δ' h'):cS K ρ H σ δ->cn K ρ h H->aF K ρ H vs ds->(m ds δ h=some (δ',h'))->(∀ρ' H' σ',dz ρ H ρ' H'->cn K ρ' h' H'->cS K ρ' H' σ' δ'->Q σ' H')->IS K m vs σ H Q
noncomputable def N8(K:FR)(m:Gi):LD:=fun vs σ H Q=>IS K m vs σ H Q
def NQ(X:Cx)(es:List Expr)(m:Gi):Prop:=IW X es (N8 X.K m)
theorem _root_.L2.IW.imp{X:Cx}{e:List Expr}{t t':LD}(h:IW X e t)(i:∀v σ H Q,t' v σ H Q->t v σ H Q):IW X e t':=fun pins s σ H v u Q I r q=>h pins s σ H v u Q I r (i v σ H Q q)
theorem cc:NQ X [] dE:=G5.imp fun v σ H Q ⟨ρ,δ,h,d,δ',h',R,S,r,e,k⟩=>by
 cases r with
 | nil=>cases e;exact⟨rfl,k ρ H σ (.refl _ _) S R⟩
 | cons _ _=>cases e
theorem aA(h1:SG X e g)(h2:NQ X es gs)(hs:(assignEach (e::es) X.env).map (·.2)=assign e X.env::(assignEach es X.env).map (·.2):=by ac_nf):NQ X (e::es) (aN g gs):=(Em h1 h2 hs).imp fun v σ H Q ⟨ρ,δ,h,d,δ',h',R,S,r,e,k⟩=>by
 cases r with
 | nil=>cases e
 | cons r rs=>
  obtain⟨⟨δ1,h1⟩,e1,e2⟩:=bL e;exact⟨_,_,rfl,ρ,δ,h,_,δ1,h1,R,S,r,e1,fun ρ1 H1 σ1 T1 S1 R1=>⟨ρ1,δ1,h1,_,δ',h',R1,S1,rs.mono T1,e2,fun ρ2 H2 σ2 T2 S2 R2=>k ρ2 H2 σ2 (T1.trans T2) S2 R2⟩⟩
theorem cT(hc:X.calm=true)(h:NQ X es gs)(hn:(assignEach es X.env).length=n:=by ac_nf)(hst:(assignEach es X.env).findIdx? (·.1)=none:=by ac_nf):SG X (.Tuple es k0 pos) (gT n gs):=
 (Kc hc h hn hst).imp fun v σ H Q ⟨ρ,δ,h,d,δ',h',R,S,r,e,k⟩=>by
  cases r <;> first |(exact absurd e (by intro z;cases z)) | skip
  rename_i a vs ds ht l _;unfold gT at e;dsimp only at e
  by_cases z:ds.length=n
  ·rw[P7 z] at e;exact⟨a,vs,rfl,ht.sq,by rw[l.length];exact z,ρ,δ,h,ds,δ',h',R,S,l,e,k⟩
  ·rw[Qa z] at e;cases e
theorem fI(he:SE X e ma)(hg:SG X tg g)(hs:swapsWithSole [tg] e pos.line X.env=pure false:=by ac_nf)(hw:swappedStores [tg] e X.env=pure none:=by ac_nf)
  (h1:(assignEach [tg] X.env).map (·.2)=[assign tg X.env]:=by ac_nf):SS X (.Assign [tg] e pos) (lH ma g):=(JZ he hg hs hw h1).imp fun E σ H ⟨ρ,δ,h,fl,δ',h',R,S,e,k⟩=>by
 obtain⟨⟨x,h1⟩,e1,e2⟩:=bL e;obtain⟨⟨δ2,h2⟩,e4,e3⟩:=bL e2;cases e3;exact⟨ρ,δ,h,x,h1,R,S,e1,fun v H1 ⟨ρ1,T1,S1,r1⟩=>⟨ρ1,δ,h1,x,_,_,R.mono T1,S1,r1,e4,fun ρ2 H2 σ2 T2 S2 R2=>k ρ2 H2 (T1.trans T2) S2 σ2 R2⟩⟩
theorem dC(he:SE X e ma)(hs:swapsWith e none pos.line X.env=pure false:=by ac_nf):SS X (.Expr e pos) (ft ma):=(GX he hs).imp fun E σ H ⟨ρ,δ,h,fl,δ',h',R,S,e,k⟩=>by
 obtain⟨⟨x,h1⟩,e1,e2⟩:=bL e;cases e2;exact⟨ρ,δ,h,x,h1,R,S,e1,fun v H1 ⟨ρ1,T1,S1,r1⟩=>k ρ1 H1 T1 S1 σ (R.mono T1)⟩
theorem au(he:SE X e ma):SS X (.Return (some e) pos) (aX ma):=(JW he).imp fun E σ H ⟨ρ,δ,h,fl,δ',h',R,S,e,k⟩=>by
 obtain⟨⟨x,h1⟩,e1,e2⟩:=bL e;cases e2;exact⟨ρ,δ,h,x,h1,R,S,e1,fun v H1 ⟨ρ1,T1,S1,r1⟩=>k ρ1 H1 T1 S1 v r1⟩
theorem a9(hc:ST X c mt)(ha:Ii X sa ms)(hb:Ii X sb mu):SS X (.If c sa sb pos) (fb mt ms mu):=(MM hc ha hb).imp fun E σ H ⟨ρ,δ,h,fl,δ',h',R,S,e,k⟩=>by
 obtain⟨⟨x,h1⟩,e1,e2⟩:=bL e;refine⟨ρ,δ,h,x,h1,R,S,e1,fun ρ1 H1 T1 S1=>?_⟩;cases x with
 | true=>rw[P7 rfl] at e2 ⊢;exact⟨ρ1,δ,h1,fl,δ',h',R.mono T1,S1,e2,fun ρ2 H2 T2 S2=>k ρ2 H2 (T1.trans T2) S2⟩
 | false=>rw[Qa (by simp)] at e2 ⊢;exact⟨ρ1,δ,h1,fl,δ',h',R.mono T1,S1,e2,fun ρ2 H2 T2 S2=>k ρ2 H2 (T1.trans T2) S2⟩
structure LX(K:FR)(J:It)(ρ:Ad)(H:Hp)(ws:W)(xs:List D):Prop where
 run:∀ρ1 H1 h1,Ch ρ H ρ1 H1->cn K ρ1 h1 H1->ke ws h1=true->∀i:Nat,(xs.length≤i->J.stop i H1)∧∀x,xs[i]?=some x->J.go i H1∧∀v H2,J.Iq i H1 v H2->dz ρ1 H1 ρ1 H2∧cn K ρ1 h1 H2∧Rep K ρ1 H2 v x
inductive Nx(K:FR)(m:IM)(σ:L2.St)(H:Hp)(R:It->Hp->Prop):Prop where
 | mk (ρ δ h xs ws h'):cS K ρ H σ δ->cn K ρ h H->(m δ h=some (xs,ws,h'))->(∀J ρ1 H1,dz ρ H ρ1 H1->cn K ρ1 h' H1->LX K J ρ1 H1 ws xs->R J H1)->Nx K m σ H R
def LP(K:FR)(m:IM):TI:=fun σ H R=>Nx K m σ H R
def SI(X:Cx)(tg iter:Expr)(m:IM):Prop:=PI X tg iter (LP X.K m)
theorem _root_.L2.PI.imp(h:PI X tg e t)(i:∀σ H Q,t' σ H Q->t σ H Q):PI X tg e t':=fun pins s σ H R I q=>h pins s σ H R I (i σ H R q)
theorem JE(hh:DB X.K (fL mi g ms) E σ H):Mk (LP X.K mi) (DC X.K g) (DB X.K ms) E σ H:=by
 obtain⟨ρ,δ,h,fl,δ',h',R,S,e,k⟩:=hh;obtain⟨⟨xs,ws,h1⟩,e1,e2⟩:=bL e;refine⟨ρ,δ,h,xs,ws,h1,R,S,e1,fun J ρ1 H1 T1 S1 It=>?_⟩;refine⟨fun i m σ2 H2=>∃ρ2 δ2 h2,m=xs.length-i∧i≤xs.length∧dz ρ1 H1 ρ2 H2∧cS X.K ρ2 H2 σ2 δ2∧cn X.K ρ2 h2 H2∧nj ws g ms (xs.drop i) δ2 h2=some (fl,δ',h'),⟨_,ρ1,δ,h1,rfl,Q9 _,.refl _ _,R.mono T1,S1,e2⟩,?_⟩;rintro i m σ2 H2 ⟨ρ2,δ2,h2,rfl,hi,T2,R2,S2,e3⟩;cases q:xs.drop i with
 | nil=>
  rw[q] at e3;unfold nj at e3
  by_cases hc:ke ws h2=true
  ·rw[P7 hc] at e3;cases e3;have hl:xs.length≤i:=by have:=congrArg List.length q;rw[Ta,RG] at this;lia
   exact .inl ⟨(It.run ρ2 H2 _ T2 S2 hc i).1 hl,k ρ2 H2 (T1.trans T2) S2 σ2 R2⟩
  ·rw[Qa hc] at e3;cases e3
 | cons x r=>
  rw[q] at e3;unfold nj at e3
  by_cases hc:ke ws h2=true
  ·rw[P7 hc] at e3;have hx:xs[i]?=some x:=by
    have:=congrArg (fun l=>l[0]?) q
    simpa using this
   have hlt:i < xs.length:=(P4.mp hx).1;have hr:xs.drop (i+1)=r:=by
    have:=congrArg List.tail q
    simpa using this
   obtain⟨⟨δ3,h3⟩,e4,e5⟩:=bL e3;obtain⟨⟨f4,δ4,h4⟩,e6,e7⟩:=bL e5;obtain⟨hgo,hy⟩:=(It.run ρ2 H2 h2 T2 S2 hc i).2 x hx;have NN:∀ρ5 H5 σ5,dz ρ2 H2 ρ5 H5->cn X.K ρ5 h4 H5->cS X.K ρ5 H5 σ5 δ4->nj ws g ms r δ4 h4=some (fl,δ',h')->
     ∃m',m' < xs.length-i∧(∃ρ2 δ2 h2,m'=xs.length-(i+1)∧i+1≤xs.length∧dz ρ1 H1 ρ2 H5∧cS X.K ρ2 H5 σ5 δ2∧cn X.K ρ2 h2 H5∧nj ws g ms (xs.drop (i+1)) δ2 h2=some (fl,δ',h')):=
    fun ρ5 H5 σ5 T5 S5 R5 e8=>⟨xs.length-(i+1),by lia,ρ5,δ4,h4,rfl,hlt,T2.trans T5,R5,S5,by rw[hr];exact e8⟩
   refine .inr ⟨hgo,fun σ5 H5=>∃ρ5,dz ρ2 H2 ρ5 H5∧cn X.K ρ5 h4 H5∧cS X.K ρ5 H5 σ5 δ4∧nj ws g ms r δ4 h4=some (fl,δ',h'),fun σ5 H5 ⟨ρ5,T5,S5,R5,e8⟩=>NN ρ5 H5 σ5 T5 S5 R5 e8,fun v H3 y3=>?_⟩;obtain⟨T3,S3,r3⟩:=hy v H3 y3;refine⟨ρ2,δ2,h2,x,δ3,h3,R2.mono T3,S3,r3,e4,fun ρ4 H4 σ4 T4 S4 R4=>?_⟩;refine⟨ρ4,δ3,h3,f4,δ4,h4,R4,S4,e6,fun ρ5 H5 T5 S5=>?_⟩;have T25:dz ρ2 H2 ρ5 H5:=T3.trans (T4.trans T5);cases f4 with
   | nx=>exact fun σ' R'=>⟨ρ5,T25,S5,R',e7⟩
   | ct=>exact fun σ' R'=>⟨ρ5,T25,S5,R',e7⟩
   | bk=>cases e7;exact fun σ' R'=>k ρ5 H5 (T1.trans (T2.trans T25)) S5 σ' R'
   | rt d=>cases e7;exact fun v r=>k ρ5 H5 (T1.trans (T2.trans T25)) S5 v r
  ·rw[Qa hc] at e3;cases e3
theorem de(hp:PassesOwn (model X.prog X.w) X.A X.env X.xe)(hc:X.calm=true)(hi:SI X tg iter mi)(hg:SG X tg g)(hb:Ii X body ms)(hs:∀x,foldedSetIterable iter X.env x=pure x:=by intro _;ac_nf):SS X (.For tg iter body [] pos) (fL mi g ms):=
 (JX hp hc hi hg hb hs).imp fun _ _ _=>JE
theorem DY(hh:DB X.K (iT mt ms n) E σ H):DA (AL X.K mt) (DB X.K ms) E σ H:=by
 obtain⟨ρ,δ,h,fl,δ',h',R,S,e,k⟩:=hh;refine⟨fun m σ2 H2=>∃ρ2 δ2 h2,dz ρ H ρ2 H2∧cS X.K ρ2 H2 σ2 δ2∧cn X.K ρ2 h2 H2∧iT mt ms m δ2 h2=some (fl,δ',h'),⟨n,ρ,δ,h,.refl _ _,R,S,e⟩,?_⟩;rintro m σ2 H2 ⟨ρ2,δ2,h2,T2,R2,S2,e2⟩;cases m with
 | zero=>cases e2
 | succ m=>
  obtain⟨⟨x,h3⟩,e3,e4⟩:=bL e2;refine⟨ρ2,δ2,h2,x,h3,R2,S2,e3,fun ρ3 H3 T3 S3=>?_⟩;cases x with
  | false=>rw[Qa (by simp)] at e4 ⊢;cases e4;exact k ρ3 H3 (T2.trans T3) S3 σ2 (R2.mono T3)
  | true=>
   rw[P7 rfl] at e4 ⊢;obtain⟨⟨f4,δ4,h4⟩,e5,e6⟩:=bL e4;refine⟨fun σ5 H5=>∃ρ5,dz ρ3 H3 ρ5 H5∧cn X.K ρ5 h4 H5∧cS X.K ρ5 H5 σ5 δ4∧iT mt ms m δ4 h4=some (fl,δ',h'),fun σ5 H5 ⟨ρ5,T5,S5,R5,e8⟩=>⟨m,SD m,ρ5,δ4,h4,T2.trans (T3.trans T5),R5,S5,e8⟩,?_⟩;refine⟨ρ3,δ2,h3,f4,δ4,h4,R2.mono T3,S3,e5,fun ρ5 H5 T5 S5=>?_⟩;cases f4 with
   | nx=>exact fun σ' R'=>⟨ρ5,T5,S5,R',e6⟩
   | ct=>exact fun σ' R'=>⟨ρ5,T5,S5,R',e6⟩
   | bk=>cases e6;exact fun σ' R'=>k ρ5 H5 (T2.trans (T3.trans T5)) S5 σ' R'
   | rt d=>cases e6;exact fun v r=>k ρ5 H5 (T2.trans (T3.trans T5)) S5 v r
theorem DG(hp:PassesOwn (model X.prog X.w) X.A X.env X.xe)(hc:ST X c mt)(hb:Ii X body ms):SS X (.While c body [] pos) (iT mt ms n):=(Eg hp hc hb).imp fun _ _ _=>DY
end
end Sm
namespace L2
open PySem PySem.Spec PyProof.Rows
theorem Kb(hl:PE X l tl):PI X tg l (fun σ H R=>tl σ H fun x H1=>∃a,x=.ref a∧(((∃xs,gA X.K H1 a xs)∧R (O3 X.K a) H1)∨((∃xs,ko X.K H1 a xs)∧R (O2 X.K a) H1))):=by
 intro pins s σ H R I h;refine cN (hl pins s σ H _ I h) fun v s1 ⟨x,H1,I1,r1,q1⟩=>?_;obtain⟨a,e,q1⟩:=q1;subst e;cases r1;rcases q1 with⟨⟨xs,hq⟩,q⟩ |⟨⟨xs,hq⟩,q⟩
 ·obtain⟨its,rv,p,hz⟩:=I1.list hq;refine Tc p.isList ?_;refine⟨s1.heap.objs.size,[s1.heap.objs.size],_,_,H1,rfl,I1.kept (t':=s1.toks) fun b o e=>P2 _ e,BI a _,⟨_,Qg _ rfl,rfl,rfl⟩,fun b hb=>?_,q⟩;have e:b=s1.heap.objs.size:=by simpa using hb
  subst e;exact I1.wX (P8 _) (I1.bC.fresh (P8 _))
 ·obtain⟨its,rv,p,hz⟩:=I1.tuple hq;refine Ss (show s1.heap.IsTuple a its.toArray from p) ?_;refine⟨s1.heap.objs.size,[s1.heap.objs.size],_,_,H1,rfl,I1.kept (t':=s1.toks) fun b o e=>P2 _ e,ze a _,⟨_,Qg _ rfl,rfl,rfl⟩,fun b hb=>?_,q⟩;have e:b=s1.heap.objs.size:=by simpa using hb
  subst e;exact I1.wX (P8 _) (I1.bC.fresh (P8 _))
end L2
namespace Sm
open PySem L2
noncomputable def cR(d:D)(h:MH):Option (List D×W):=match d with
 | .lv xs=>some (xs,[])
 | .ro xs=>some (xs,[])
 | .tup xs=>some (xs,[])
 | .ob n=>match h[n]? with
  | some (.lst xs)=>some (xs,[(n,.lst xs)])
  | _=>none
 | _=>none
noncomputable def cZ(e:EM):IM:=fun δ h=>(e δ h).bind fun p=>(cR p.1 p.2).map fun q=>(q.1,q.2,p.2)
noncomputable def iI(m:AM):IM:=fun δ h=>(m δ h).bind fun p=>match p.1 with
 | [.int j]=>if -(2^62)≤j∧j < 2^62 then some ((List.range j.toNat).map fun(k:Nat)=>D.int (k:Int),[],p.2) else none
 | [.int i,.int j]=>if -(2^62)≤i∧i < 2^62∧-(2^62)≤j∧j < 2^62 then some ((List.range (j-i).toNat).map fun(k:Nat)=>D.int (i+(k:Int)),[],p.2) else none
 | _=>none
theorem wO(hl:∀ρ1 H1 h1,Ch ρ H ρ1 H1->cn K ρ1 h1 H1->ke ws h1=true->∃vs,aF K ρ1 H1 vs xs∧(∀i:Nat,vs.length≤i->J.stop i H1)∧∀(i:Nat) v,vs[i]?=some v->J.go i H1∧∀u H2,J.Iq i H1 u H2->H2=H1∧u=v):LX K J ρ H ws xs:=by
 refine⟨fun ρ1 H1 h1 T S hc i=>?_⟩;obtain⟨vs,l,s1,s2⟩:=hl ρ1 H1 h1 T S hc;refine⟨fun hi=>s1 i (by rw[l.length];exact hi),fun x hx=>?_⟩;obtain⟨v,hv,r⟩:=l.got hx;obtain⟨g,y⟩:=s2 i v hv;refine⟨g,fun u H2 yy=>?_⟩;obtain⟨rfl,rfl⟩:=y u H2 yy;exact⟨.refl _ _,S,r⟩
theorem K4(hl:∀ρ1 H1 h1,Ch ρ H ρ1 H1->cn K ρ1 h1 H1->ke ws h1=true->∃vs,aF K ρ1 H1 vs xs∧gA K H1 a vs):LX K (O3 K a) ρ H ws xs:=
 wO fun ρ1 H1 h1 T S hc=>by
  obtain⟨vs,l,q⟩:=hl ρ1 H1 h1 T S hc;refine⟨vs,l,fun i hi=>⟨vs,q,hi⟩,fun i v hv=>⟨⟨vs,v,q,hv⟩,fun u H2 ⟨e,y⟩=>⟨e,?_⟩⟩⟩;have:=y vs q;rw[hv] at this;exact(Option.some.inj this).symm
theorem K2(hl:∀ρ1 H1 h1,Ch ρ H ρ1 H1->cn K ρ1 h1 H1->ke ws h1=true->∃vs,aF K ρ1 H1 vs xs∧ko K H1 a vs):LX K (O2 K a) ρ H ws xs:=
 wO fun ρ1 H1 h1 T S hc=>by
  obtain⟨vs,l,q⟩:=hl ρ1 H1 h1 T S hc;refine⟨vs,l,fun i hi=>⟨vs,q,hi⟩,fun i v hv=>⟨⟨vs,v,q,hv⟩,fun u H2 ⟨e,y⟩=>⟨e,?_⟩⟩⟩;have:=y vs q;rw[hv] at this;exact(Option.some.inj this).symm
theorem HW(hc:ke [(n,o)] h=true):h[n]?=some o:=by
 unfold ke at hc;cases q:h[n]? with
 | none=>rw[q] at hc;cases hc
 | some u=>
  rw[q] at hc;simp[ke] at hc;rw[Bz hc]
inductive SeqAt(K:FR)(H:Hp)(a:Addr)(vs:List V):Bool->Prop where
 | l:gA K H a vs->SeqAt K H a vs true
 | t:ko K H a vs->SeqAt K H a vs false
noncomputable def wQ:D->Bool
 | .tup _=>false
 | _=>true
theorem lr(S:cn K ρ h H)(r:Rep K ρ H v d)(e:cR d h=some (xs,ws)):∃a,v=.ref a∧(∃vs,SeqAt K H a vs (wQ d)∧aF K ρ H vs xs)∧
  ∀ρ1 H1 h1,Ch ρ H ρ1 H1->cn K ρ1 h1 H1->ke ws h1=true->∃vs,aF K ρ1 H1 vs xs∧SeqAt K H1 a vs (wQ d):=by
 cases r with
 | tup ht l=>
  cases e;refine⟨_,rfl,⟨_,.t ht.sq,l⟩,fun ρ1 H1 h1 T S1 _=>?_⟩;cases(Rep.tup ht l).mono T with
  | tup h1 l1=>exact⟨_,l1,.t h1.sq⟩
 | lv ht n l=>
  cases e;refine⟨_,rfl,⟨_,.l (gA.of ht),l⟩,fun ρ1 H1 h1 T S1 _=>?_⟩;cases(Rep.lv ht n l).mono T with
  | lv h1 _ l1=>exact⟨_,l1,.l (gA.of h1)⟩
 | ro ht l=>
  cases e;refine⟨_,rfl,⟨_,.l ht.sq,l⟩,fun ρ1 H1 h1 T S1 _=>?_⟩;cases(Rep.ro ht l).mono T with
  | ro h1 l1=>exact⟨_,l1,.l h1.sq⟩
 | @ob a n hn=>
  unfold cR at e;dsimp only at e;cases q:h[n]? with
  | none=>rw[q] at e;cases e
  | some o=>
   rw[q] at e;cases o with
   | dct _=>cases e
   | lst ys=>
    cases e;obtain⟨vs,e1,l⟩:=S.at_ n a _ hn q;refine⟨a,rfl,⟨vs,.l (gA.of e1),l⟩,fun ρ1 H1 h1 T S1 hc=>?_⟩;obtain⟨us,e2,l2⟩:=S1.at_ n a _ (T.pre n a hn) (HW hc);exact⟨us,l2,.l (gA.of e2)⟩
 | cC=>cases e
 | bl b=>cases e
 | int i=>cases e
 | str x=>cases e
 | ty x=>cases e
 | dv _ _ _=>cases e
section
variable {X:Cx} {a b c e tg iter:Expr} {es:List Expr} {pos:Pos} {ma mb:EM} {mt:TM} {ms mu:SM} {m:AM} {g:GM} {gs:Gi}
theorem bP(h:SE X e ma):SI X tg e (cZ ma):=(Kb h).imp fun σ H Q ⟨ρ,δ,h,xs,ws,h',R,S,e,k⟩=>by
 obtain⟨⟨x,h1⟩,e1,e2⟩:=bL e;obtain⟨⟨ys,w⟩,e3,e4⟩:=gu e2;cases e4;refine⟨ρ,δ,h,x,h1,R,S,e1,fun v H1 ⟨ρ1,T1,S1,r1⟩=>?_⟩;obtain⟨a,rfl,⟨vs,q,l⟩,st⟩:=lr S1 r1 e3;refine⟨a,rfl,?_⟩;generalize wQ x=b at q st;cases q with
 | l q=>exact .inl ⟨⟨vs,q⟩,k _ ρ1 H1 T1 S1 (K4 fun ρ2 H2 h2 T2 S2 hc=>by obtain⟨us,l2,q2⟩:=st ρ2 H2 h2 T2 S2 hc;cases q2 with | l q2=>exact⟨us,l2,q2⟩)⟩
 | t q=>exact .inr ⟨⟨vs,q⟩,k _ ρ1 H1 T1 S1 (K2 fun ρ2 H2 h2 T2 S2 hc=>by obtain⟨us,l2,q2⟩:=st ρ2 H2 h2 T2 S2 hc;cases q2 with | t q2=>exact⟨us,l2,q2⟩)⟩
theorem oF:∀(ns:List Int),aF K ρ H (ns.map V.int) (ns.map D.int)
 | []=>.nil
 | _::r=>.cons (.int _) (oF r)
theorem K3(lo:Int)(n:Nat):LX K (NR lo n) ρ H [] ((List.range n).map fun(k:Nat)=>D.int (lo+(k:Int))):=by
 refine wO fun ρ1 H1 h1 T S hc=>⟨(List.range n).map fun(k:Nat)=>V.int (lo+(k:Int)),?_,fun i hi=>?_,fun i v hv=>?_⟩
 ·have:=oF (K:=K) (ρ:=ρ1) (H:=H1) ((List.range n).map fun(k:Nat)=>lo+(k:Int));rw[QI,QI] at this;exact this
 ·rw[P1,Qt] at hi;exact hi
 ·rw[Qi] at hv;obtain⟨j,e1,e2⟩:=gu hv;obtain⟨hlt,e3⟩:=P4.mp e1;rw[Qt] at hlt;rw[List.getElem_range] at e3;subst e3;subst e2;exact⟨hlt,fun u H2 ⟨p,q⟩=>⟨p,q⟩⟩
theorem B5(l:aF K ρ H vs [.int j]):vs=[.int j]:=by
 cases l with
 | cons r l=>cases l;cases r;rfl
theorem cb(hg:Gl X "range")(hm:X.mg "range"=none)(ha:SA X [a] m)(hs:starEach [a] X.env=[(false,eval a X.env)]:=by ac_nf)(hl:nX m 1):SI X tg (.Call (.Name "range" p) [a] [] pos) (iI m):=
 (Cc hg hm ha hs).imp fun σ H Q ⟨ρ,δ,h,xs,ws,h',R,S,e,k⟩=>by
  obtain⟨⟨x,h1⟩,e1,e2⟩:=bL e;refine⟨ρ,δ,h,x,h1,R,S,e1,fun vs ρ1 H1 T1 S1 r1=>?_⟩
  match x,hl _ _ _ _ e1,e2,r1 with
  | [d],hl1,e2,r1=>
   cases d <;> first | exact absurd e2 (by intro z;cases z) | skip
   rename_i j;dsimp only at e2
   by_cases z:-(2^62)≤j∧j < 2^62
   ·rw[P7 z] at e2;cases e2;refine⟨j,B5 r1,z.1,z.2,k _ ρ1 H1 T1 S1 ?_⟩;have:=K3 (K:=X.K) (ρ:=ρ1) (H:=H1) 0 j.toNat
    simpa using this
   ·rw[Qa z] at e2;cases e2
noncomputable def jn(caps:List (Option Nat))(δ:DS):DS:=caps.map fun o=>o.bind fun i=>(δ[i]?).join
noncomputable def bS:TM:=fun _ h=>some (true,h)
noncomputable def bR(ws:W)(g:GM)(c:TM)(e:EM):List D->DS->MH->Option (List D×MH)
 | [],_,h=>if ke ws h then some ([],h) else none
 | x::r,δ,h=>if ke ws h then(g x δ h).bind fun q=>(c q.1 q.2).bind fun t=>if t.1 then(e q.1 t.2).bind fun y=>(bR ws g c e r q.1 y.2).map fun z=>(y.1::z.1,z.2) else bR ws g c e r q.1 t.2 else none
noncomputable def bD(caps:List (Option Nat))(i:IM)(g:GM)(c:TM)(e:EM):AM:=fun δ h=>(i δ h).bind fun p=>(bR p.2.1 g c e p.1 (jn caps δ) p.2.2).bind fun q=>if q.1.length≤sizeLine then some q else none
theorem cS.pf(R:cS K ρ H σ δ)(caps:List (Option Nat)):cS K ρ H (pf caps σ) (jn caps δ):=by
 refine⟨by simp[L2.pf,jn],fun i d hd=>?_⟩;unfold jn at hd;rw[Qi] at hd;obtain⟨o,e1,e2⟩:=gu hd;cases o with
 | none=>cases e2
 | some j=>
  have e3:δ[j]?=some (some d):=T9.mp e2;obtain⟨v,ev,r⟩:=R.at_ j d e3;refine⟨v,?_,r⟩;unfold L2.pf;rw[Qi,e1];simp[ev]
def LV(X:Cx)(ifs:List Expr)(m:TM):Prop:=F7 X ifs (AL X.K m)
theorem bx:LV X [] bS:=fun pins s σ H Q I hh=>by
 obtain⟨ρ,δ,h,b,h',R,S,e,k⟩:=hh;cases e;exact G3 pins s σ H Q I (k ρ H (.refl _ _) S)
theorem qx(h:ST X c mt):LV X [c] mt:=G2 h
theorem AV(hh:tM X.K (eR (bD caps mi g mt ma)) σ H Q):DD caps (LP X.K mi) (DC X.K g) (AL X.K mt) (tM X.K ma) σ H Q:=by
 obtain⟨ρ,δ,h,d,h',R,S,ee,k⟩:=hh;obtain⟨⟨out,h0⟩,ea,e0⟩:=gu ee;cases e0;obtain⟨⟨xs,ws,h1⟩,e1,eb⟩:=bL ea;obtain⟨⟨ys,h2⟩,e2,e3⟩:=bL eb;dsimp only at e2 e3
 by_cases hz:ys.length≤sizeLine
 ·rw[P7 hz] at e3;cases e3;refine⟨ρ,δ,h,xs,ws,h1,R,S,e1,fun J ρ1 H1 T1 S1 It l hl=>?_⟩;have nl:¬ρ1.has l:=S1.fresh hl;have Tl:Ch ρ1 H1 (ρ1.keep l) (upd H1 l (.lst [])):=Ch.keep hl;refine⟨fun i m τ2 H2=>∃(ob2:List Addr)(δ2:DS)(h2:MH)(vs:List V)(as bs:List D),m=xs.length-i∧i≤xs.length∧Ch ρ1 H1 ⟨ob2,l::ρ1.rs⟩ H2∧(∀b∈ρ1.rs,H2 b=H1 b)∧cS X.K ⟨ob2,l::ρ1.rs⟩ H2 τ2 δ2∧cn X.K ⟨ob2,l::ρ1.rs⟩ h2 H2∧
    H2 l=some (.lst vs)∧aF X.K ⟨ob2,l::ρ1.rs⟩ H2 vs as∧out=as++bs∧bR ws g mt ma (xs.drop i) δ2 h2=some (bs,h0),
   ⟨_,ρ1.ob,jn caps δ,h1,[],[],out,rfl,Q9 _,Tl,fun b hb=>aT fun z=>nl (.inr (z ▸ hb)),((R.mono T1).pf caps).mono Tl,S1.keep hl,bh,.nil,rfl,e2⟩,?_⟩
  rintro i m τ2 H2 ⟨ob2,δ2,h2,vs,as,bs,rfl,hi,T2,rs2,R2,S2,hl2,l2,eo,e3⟩;have hsub:∀b∈ρ1.rs,b∈l::ρ1.rs:=fun b hb=>Qc _ hb;have C2:Ch ⟨ob2,l::ρ1.rs⟩ H2 ⟨ob2,ρ1.rs⟩ H2:=Ch.free hsub;have T2':dz ρ1 H1 ⟨ob2,ρ1.rs⟩ H2:=⟨T2.trans C2,rfl,rs2⟩;have S2':cn X.K ⟨ob2,ρ1.rs⟩ h2 H2:=S2.free hsub;cases q:xs.drop i with
  | nil=>
   rw[q] at e3;unfold bR at e3
   by_cases hc:ke ws h2=true
   ·rw[P7 hc] at e3;cases e3;rw[Ra] at eo;subst eo;have hle:xs.length≤i:=by have:=congrArg List.length q;rw[Ta,RG] at this;lia
    refine .inl ⟨(It.run _ H2 _ T2 S2 hc i).1 hle,k _ _ ⟨_,T1.trans T2',S2',.lv hl2 (fun z=>?_) (l2.mono C2)⟩⟩;rcases z with z | z
    ·exact(S2.uC l Qe).2 z
    ·exact nl (.inr z)
   ·rw[Qa hc] at e3;cases e3
  | cons x r=>
   rw[q] at e3;unfold bR at e3
   by_cases hc:ke ws h2=true
   ·rw[P7 hc] at e3;have hx:xs[i]?=some x:=by
     have:=congrArg (fun l=>l[0]?) q
     simpa using this
    have hlt:i < xs.length:=(P4.mp hx).1;have hr:xs.drop (i+1)=r:=by
     have:=congrArg List.tail q
     simpa using this
    obtain⟨⟨δ3,h3⟩,e4,e5⟩:=bL e3;obtain⟨⟨t,h4⟩,e6,e7⟩:=bL e5;dsimp only at e4 e5 e6 e7;obtain⟨hgo,hy⟩:=(It.run _ H2 h2 T2 S2 hc i).2 x hx;refine .inr ⟨hgo,fun τ5 H5=>∃(ob5:List Addr)(h5:MH)(vs:List V)(as bs:List D),Ch ρ1 H1 ⟨ob5,l::ρ1.rs⟩ H5∧(∀b∈ρ1.rs,H5 b=H1 b)∧cS X.K ⟨ob5,l::ρ1.rs⟩ H5 τ5 δ3∧cn X.K ⟨ob5,l::ρ1.rs⟩ h5 H5∧
     H5 l=some (.lst vs)∧aF X.K ⟨ob5,l::ρ1.rs⟩ H5 vs as∧out=as++bs∧bR ws g mt ma r δ3 h5=some (bs,h0),?_,?_⟩
    ·rintro τ5 H5 ⟨ob5,h5,vs5,as5,bs5,T5,rs5,R5,S5,hl5,l5,eo5,e5⟩;exact⟨xs.length-(i+1),by lia,ob5,δ3,h5,vs5,as5,bs5,rfl,hlt,T5,rs5,R5,S5,hl5,l5,eo5,by rw[hr];exact e5⟩
    ·intro v H3 y3;obtain⟨T3,S3,r3⟩:=hy v H3 y3;refine⟨⟨ob2,l::ρ1.rs⟩,δ2,h2,x,δ3,h3,R2.mono T3,S3,r3,e4,fun ρ4 H4 τ4 T4 S4 R4=>?_⟩;refine⟨ρ4,δ3,h3,t,h4,R4,S4,e6,fun ρ5 H5 T5 S5=>?_⟩;have T25:dz ⟨ob2,l::ρ1.rs⟩ H2 ρ5 H5:=T3.trans (T4.trans T5);obtain⟨ob5,rs5⟩:=ρ5;have ers:rs5=l::ρ1.rs:=T25.rs;subst ers;cases t with
     | false=>
      rw[Qa (by simp)] at e7;refine K6 ?_;exact⟨ob5,h4,vs,as,bs,T2.trans T25.toCh,fun b hb=>(T25.res b (hsub b hb)).trans (rs2 b hb),R4.mono T5,S5,(T25.res l Qe).trans hl2,l2.mono T25.toCh,eo,e7⟩
     | true=>
      rw[P7 rfl] at e7;refine K5 ?_;obtain⟨⟨y,h6⟩,e8,e9⟩:=bL e7;obtain⟨⟨zs,h7⟩,e10,e11⟩:=gu e9;cases e11;refine⟨⟨ob5,l::ρ1.rs⟩,δ3,h4,y,h6,R4.mono T5,S5,e8,fun u H6 ⟨ρ6,T6,S6,r6⟩=>?_⟩;have T26:dz ⟨ob2,l::ρ1.rs⟩ H2 ρ6 H6:=T25.trans T6;obtain⟨ob6,rs6⟩:=ρ6;have ers:rs6=l::ρ1.rs:=T26.rs;subst ers;have hl6:H6 l=some (.lst vs):=(T26.res l Qe).trans hl2;have hml:l∈(⟨ob6,l::ρ1.rs⟩:Ad).rs:=Qe;have hlen:vs.length < sizeLine:=by
       have h1:=l2.length;have h2:=congrArg List.length eo;rw[Qb,Qv] at h2
       lia
      have Cp:Ch ⟨ob6,l::ρ1.rs⟩ H6 ⟨ob6,l::ρ1.rs⟩ (upd H6 l (.lst (vs++[u]))):=Ch.put hml;refine⟨vs,hl6,hlen,ob6,h6,vs++[u],as++[y],zs,(T2.trans T26.toCh).trans Cp,fun b hb=>?_,((R4.mono T5.toCh).mono T6.toCh).mono Cp,S6.put hml,bh,((l2.mono T26.toCh).snoc r6).mono Cp,by rw[eo];simp,e10⟩;rw[aT (fun(z:b=l)=>nl (.inr (z ▸ hb)))];exact(T26.res b (hsub b hb)).trans (rs2 b hb)
   ·rw[Qa hc] at e3;cases e3
 ·rw[Qa hz] at e3;cases e3
end
end Sm
namespace Sm
open PySem L2 PySem.Spec PyProof.Rows
section
variable {X:Cx} {a b c e tg iter elt:Expr} {es:List Expr} {pos:Pos} {ma mb:EM} {mt:TM} {ms mu:SM} {m:AM} {g:GM} {gs:Gi}
theorem cf(C:bz X N' caps scope)(hc:X.calm=true)(hi:SI X tg iter mi)(hg:∀C s₃ H₃ fp pl,SG (gx X N' scope C s₃ H₃ fp pl) tg g)(hif:∀C s₃ H₃ fp pl,LV (gx X N' scope C s₃ H₃ fp pl) ifs mt)(he:∀C s₃ H₃ fp pl,SE (gx X N' scope C s₃ H₃ fp pl) elt ma)(hs:∀x,foldedSetIterable iter X.env x=pure x:=by intro _;ac_nf):
  SE X (.ListComp elt [⟨tg,iter,ifs,0⟩] scope pos) (eR (bD caps mi g mt ma)):=(Ep (g:=DC X.K g) (tc:=AL X.K mt) (te:=tM X.K ma) C hc hi hg hif he hs).imp fun _ _ _=>AV
theorem g6(hN:X.N.Nodup)(hi':X.N[i]?=some y)(hy:X.env.scope.names.lookup y=some .local)(C:bz X N' caps scope)(hc:X.calm=true)(hi:SI X tg iter mi)(hg:∀C s₃ H₃ fp pl,SG (gx X N' scope C s₃ H₃ fp pl) tg g)(hif:∀C s₃ H₃ fp pl,LV (gx X N' scope C s₃ H₃ fp pl) ifs mt)(he:∀C s₃ H₃ fp pl,SE (gx X N' scope C s₃ H₃ fp pl) elt ma)(hsw:swapsWith (.ListComp elt [⟨tg,iter,ifs,0⟩] scope pos) (some (.Name y py)) spos.line X.env=pure true:=by ac_nf)(hs:∀x,foldedSetIterable iter X.env x=pure x:=by intro _;ac_nf):
  SS X (.Assign [.Name y py] (.ListComp elt [⟨tg,iter,ifs,0⟩] scope pos) spos) (aZ i (eR (bD caps mi g mt ma))):=
 (Eh (g:=DC X.K g) (tc:=AL X.K mt) (te:=tM X.K ma) hN hi' hy C hc hi hg hif he hsw hs).imp fun E σ H hh=>by
  have q:=zz hh;exact AV q
end
inductive NB(K:FR)(n:Nat)(F:Fn)(vs:List V)(H:Hp)(Q:VK):Prop where
 | mk (ρ h ds d h'):cn K ρ h H->aF K ρ H vs ds->(ds.length=n)->(F ds h=some (d,h'))->(∀v H',eL K ρ H h' d v H'->Q v H')->NB K n F vs H Q
def gh(K:FR)(n:Nat)(F:Fn):Sp:=fun vs H Q _=>NB K n F vs H Q
theorem Gv(G:bK X.prog X.w X.K X.mg X.base fH k f fd ps (gh X.K n F))(hr:gZ k X.A)(hg:Gl X x)(hm:X.mg x=some (.ref f))(hk:PySem.W.keepIn X.K (.ref f)=true)(hb:Binds X.K fd ps [])
  (ha:SA X (e::es) m) (hl:nX m n) (hdb:(x==("__debug__":Str))=false:=by ac_nf) (he:starEach (e::es) X.env=(false,eval e X.env)::starEach es X.env:=by ac_nf) (hpl:(backTo pos (starEach es X.env)).any (·.1)=false:=by ac_nf):
  SE X (.Call (.Name x p) (e::es) [] pos) (aw F m):=(Ha (E:=E0) G hr hg hm hk hb .nil MT ha hdb he hpl).imp fun σ H Q ⟨ρ,δ,h,d,h',R,S,e,q⟩=>by
 obtain⟨⟨ds,h1⟩,e1,e2⟩:=bL e;refine⟨ρ,δ,h,ds,h1,R,S,e1,fun vs ρ1 H1 T1 S1 r1=>?_⟩;show gh X.K n F (vs++[]) H1 Q E0;rw[Ra];exact⟨ρ1,h1,ds,d,h',S1,r1,hl _ _ _ _ e1,e2,fun v H' P=>q v H' (P.step T1)⟩
noncomputable def Gz(r:Fl×DS×MH):Option (D×MH):=match r.1 with
 | .rt d=>some (d,r.2.2)
 | .nx=>some (.cC,r.2.2)
 | _=>none
noncomputable def entry(len:Nat)(ds:List D):DS:=ds.map some++List.replicate (len-ds.length) none
noncomputable def ju(len:Nat)(body:SM):Fn:=fun ds h=>(body (entry len ds) h).bind Gz
theorem cS.entry{K:FR}{ρ:Ad}{H:Hp}{vs:List V}{ds:List D}(N:List Str)(l:aF K ρ H vs ds):cS K ρ H (L2.start N vs) (Sm.entry N.length ds):=by
 refine⟨by simp[L2.start,Sm.entry,l.length],fun i d hd=>?_⟩;unfold Sm.entry at hd;unfold L2.start
 by_cases hi:i < ds.length
 ·rw[Qk (by simpa using hi),Qi] at hd;obtain⟨d',e1,e2⟩:=gu hd;cases e2;obtain⟨v,ev,r⟩:=l.got e1;refine⟨v,?_,r⟩;rw[Qk (by rw[P1,l.length];exact hi),Qi,ev];rfl
 ·rw[Qw (by simpa using hi),Sd] at hd
  split at hd <;> cases hd
section
variable {P:Program} {w:World} {K:FR} {mg:Str->Option Value} {base:Heap} {x qual:Str} {st:Stmt} {f:Addr} {fd:FuncData} {N ps:List Str} {k:Nat}
theorem a8(F:gg K x qual st f fd)(Sc:aD N ps (ax st))(hb:∀(cdv:Value)(A:Around)(outer:List Env)(s:Shared)(H:Hp)(E:XK),gZ k (A.deeper (envOfC qual (ax st) s.heap.objs.size f cdv))->Ii (An fH P w K mg base N qual (ax st) f cdv A outer s H E).MY (jh st) body):
  bK P w K mg base fH (k+1) f fd ps (gh K ps.length (ju N.length body)):=by
 refine F.ok Sc (fun vs H Q E h=>?_) (fun cdv A outer s H vs Q E hr h=>?_)
 ·obtain⟨ρ,h,ds,d,h',S,r,hl,_⟩:=h;rw[r.length];exact hl
 ·obtain⟨ρ,h,ds,d,h',S,r,hl,e,q⟩:=h;refine⟨_,hb cdv A outer s H E hr,?_⟩;obtain⟨⟨fl,δ1,h1⟩,e1,e2⟩:=bL e;refine⟨ρ,entry N.length ds,h,fl,δ1,h1,cS.entry N r,S,e1,fun ρ1 H1 T1 S1=>?_⟩;cases fl with
  | nx=>cases e2;exact fun σ' R'=>q _ _ ⟨ρ1,T1,S1,.cC⟩
  | rt d=>cases e2;exact fun v r=>q _ _ ⟨ρ1,T1,S1,r⟩
  | bk=>cases e2
  | ct=>cases e2
end
mutual
noncomputable def iL(n:Nat):D->Bool
 | .tup xs=>gf n xs
 | .lv xs=>gf n xs
 | .ro xs=>gf n xs
 | .dv kvs=>HV n kvs
 | .ob m=>decide (m < n)
 | _=>true
noncomputable def gf(n:Nat):List D->Bool
 | []=>true
 | x::r=>iL n x&&gf n r
noncomputable def HV(n:Nat):List (Key×D)->Bool
 | []=>true
 |(_,x)::r=>iL n x&&HV n r
end
noncomputable def zc(n:Nat):MO->Bool
 | .lst xs=>gf n xs
 | .dct kvs=>HV n kvs
abbrev Ad.cut(ρ:Ad)(n:Nat):Ad:=⟨ρ.ob.take n,ρ.rs⟩
theorem Ad.nE{ρ:Ad}{n:Nat}{a:Addr}(h:(ρ.cut n).has a):ρ.has a:=h.elim (fun m=>.inl (Tg m)) .inr
mutual
theorem Rep.cut{K:FR}{ρ:Ad}{H:Hp}{n:Nat}{v:V}{d:D}(r:Rep K ρ H v d)(c:iL n d=true):Rep K (ρ.cut n) H v d:=by
 cases r with
 | cC=>exact .cC
 | bl b=>exact .bl b
 | int i=>exact .int i
 | str x=>exact .str x
 | ty n=>exact .ty n
 | tup h l=>exact .tup (h.elim (fun⟨a,n⟩=>.inl ⟨a,fun m=>n (Ad.nE m)⟩) .inr) (aF.cut l c)
 | lv h n l=>exact .lv h (fun m=>n (Ad.nE m)) (aF.cut l c)
 | ro h l=>exact .ro (h.elim (fun⟨a,n⟩=>.inl ⟨a,fun m=>n (Ad.nE m)⟩) .inr) (aF.cut l c)
 | dv h n l=>exact .dv h (fun m=>n (Ad.nE m)) (bH.cut l c)
 | ob e=>exact .ob ((QH (QK c)).trans e)
theorem aF.cut{K:FR}{ρ:Ad}{H:Hp}{n:Nat}{v:List V}{d:List D}(r:aF K ρ H v d)(c:gf n d=true):aF K (ρ.cut n) H v d:=by
 cases r with
 | nil=>exact .nil
 | cons r l=>have c:=QP.mp c;exact .cons (Rep.cut r c.1) (aF.cut l c.2)
theorem bH.cut{K:FR}{ρ:Ad}{H:Hp}{n:Nat}{v:List (Key×V)}{d:List (Key×D)}(r:bH K ρ H v d)(c:HV n d=true):bH K (ρ.cut n) H v d:=by
 cases r with
 | nil=>exact .nil
 | cons r l=>have c:=QP.mp c;exact .cons (Rep.cut r c.1) (bH.cut l c.2)
end
mutual
theorem Rep.clean{K:FR}{ρ:Ad}{H:Hp}{v:V}{d:D}(r:Rep K ρ H v d):iL ρ.ob.length d=true:=by
 cases r with
 | tup h l=>exact aF.clean l
 | lv h n l=>exact aF.clean l
 | ro h l=>exact aF.clean l
 | dv h n l=>exact bH.clean l
 | ob e=>exact QO (P4.mp e).1
 | _=>rfl
theorem aF.clean{K:FR}{ρ:Ad}{H:Hp}{v:List V}{d:List D}(r:aF K ρ H v d):gf ρ.ob.length d=true:=by
 cases r with
 | nil=>rfl
 | cons r l=>exact QP.mpr ⟨Rep.clean r,aF.clean l⟩
theorem bH.clean{K:FR}{ρ:Ad}{H:Hp}{v:List (Key×V)}{d:List (Key×D)}(r:bH K ρ H v d):HV ρ.ob.length d=true:=by
 cases r with
 | nil=>rfl
 | cons r l=>exact QP.mpr ⟨Rep.clean r,bH.clean l⟩
end
theorem BE.cut{K:FR}{ρ:Ad}{H:Hp}{n:Nat}{a:Addr}{o:MO}(x:BE K ρ H a o)(c:zc n o=true):BE K (ρ.cut n) H a o:=by
 cases o with
 | lst ds=>obtain⟨vs,e,l⟩:=x;exact⟨vs,e,l.cut c⟩
 | dct ds=>obtain⟨vs,e,l⟩:=x;exact⟨vs,e,l.cut c⟩
theorem BE.clean{K:FR}{ρ:Ad}{H:Hp}{a:Addr}{o:MO}(x:BE K ρ H a o):zc ρ.ob.length o=true:=by
 cases o with
 | lst ds=>obtain⟨vs,e,l⟩:=x;exact l.clean
 | dct ds=>obtain⟨vs,e,l⟩:=x;exact l.clean
noncomputable def vK(n:Nat)(h:MH)(d:D):D:=match d with
 | .ob m=>if m < n then .ob m else match h[m]? with
  | some (.lst xs)=>.lv xs
  | some (.dct kvs)=>.dv kvs
  | none=>.ob m
 | d=>d
noncomputable def leave(h:MH)(d:D)(h':MH):Option (D×MH):=
 if iL h.length (vK h.length h' d)&&(xx (h'.take h.length) h||(h'.take h.length).all (zc h.length)) then some (vK h.length h' d,h'.take h.length) else none
noncomputable def EE(len:Nat)(body:SM):Fn:=fun ds h=>((body (entry len ds) h).bind Gz).bind fun p=>leave h p.1 p.2
theorem eL.leave{K:FR}{ρ:Ad}{H H':Hp}{h h1 h':MH}{d d':D}{v:V}(S:cn K ρ h H)(p:eL K ρ H h1 d v H')(e:Sm.leave h d h1=some (d',h')):eL K ρ H h' d' v H':=by
 obtain⟨ρ1,T,S1,r⟩:=p;unfold Sm.leave at e
 by_cases hc:(iL h.length (vK h.length h1 d)&&(xx (h1.take h.length) h||(h1.take h.length).all (zc h.length)))=true
 ·rw[P7 hc] at e;cases e;rw[Qq] at hc;obtain⟨c1,c2⟩:=hc;have hle:h.length≤h1.length:=by
   rw[←S.len,←S1.len];refine Nat.le_of_not_lt fun hlt=>?_;have e1:ρ.ob[ρ1.ob.length]?=some ρ.ob[ρ1.ob.length]:=P9 hlt;have:=(P4.mp (T.pre _ _ e1)).1
   lia
  have hall:∀(m:Nat) o,m < h.length->h1[m]?=some o->zc h.length o=true:=by
   intro m o hm ho;rw[So] at c2;rcases c2 with c2 | c2
   ·have e1:=BA c2;have e2:h[m]?=some o:=by rw[←e1,QH hm];exact ho
    have hm':m < ρ.ob.length:=by rw[S.len];exact hm
    have:=(S.at_ m _ o (P9 hm') e2).clean;rw[S.len] at this;exact this
   ·rw[Rq] at c2;exact c2 o (P6 (show(h1.take h.length)[m]?=some o by rw[QH hm];exact ho))
  have Sc:cn K (ρ1.cut h.length) (h1.take h.length) H':=by
   refine⟨by simp[S1.len],S1.nd.sublist (TC _ _),fun n a o e1 e2=>?_,fun b hb=>⟨(S1.uC b hb).1,fun m=>(S1.uC b hb).2 (Tg m)⟩⟩;have hn:n < h.length:=by
    have:=(P4.mp e2).1;rw[Qy] at this
    lia
   have e1:(ρ1.ob.take h.length)[n]?=some a:=e1;rw[QH hn] at e1 e2;exact(S1.at_ n a o e1 e2).cut (hall n o hn e2)
  refine⟨ρ1.cut h.length,⟨⟨fun n a e=>?_,fun b o n e=>?_⟩,T.rs,T.res⟩,Sc,?_⟩
  ·have hn:n < h.length:=by rw[←S.len];exact(P4.mp e).1
   show(ρ1.ob.take h.length)[n]?=some a;rw[QH hn];exact T.pre n a e
  ·obtain⟨n1,e1⟩:=T.old b o n e;exact⟨fun m=>n1 (Ad.nE m),e1⟩
  ·cases d with
   | ob m=>
    unfold vK at c1 ⊢;dsimp only at c1 ⊢
    by_cases hm:m < h.length
    ·rw[P7 hm] at c1 ⊢;exact r.cut c1
    ·rw[Qa hm] at c1 ⊢;cases r with
     | ob hn=>
      rename_i a;have na:¬(ρ1.cut h.length).has a:=by
       intro z;rcases z with z | z
       ·obtain⟨j,hj⟩:=Ut z;have hj1:j < h.length:=by
         have:=(P4.mp hj).1;rw[Qy] at this
         lia
        rw[QH hj1] at hj;have:=(VY (P4.mp hj).1 S1.nd).mp (hj.trans hn.symm)
        lia
       ·exact(S1.uC a z).2 (P6 hn)
      cases q:h1[m]? with
      | none=>rw[q] at c1;exact absurd c1 (by simp[iL];lia)
      | some o=>
       have x:=S1.at_ m a o hn q;cases o with
       | lst xs=>
        rw[q] at c1;obtain⟨vs,e1,l⟩:=x;exact .lv e1 na (l.cut (by simpa [iL] using c1))
       | dct xs=>
        rw[q] at c1;obtain⟨vs,e1,l⟩:=x;exact .dv e1 na (l.cut (by simpa [iL] using c1))
   | _=>exact r.cut c1
 ·rw[Qa hc] at e;cases e
section
variable {P:Program} {w:World} {K:FR} {mg:Str->Option Value} {base:Heap} {x qual:Str} {st:Stmt} {f:Addr} {fd:FuncData} {N ps:List Str} {k:Nat}
theorem fA(G:bK P w K mg base fH k f fd ps (gh K ps.length (ju N.length body))):bK P w K mg base fH k f fd ps (gh K ps.length (EE N.length body)):=by
 refine G.imp fun vs H Q E hh=>?_;obtain⟨ρ,h,ds,d,h',S,r,hl,e,q⟩:=hh;obtain⟨⟨d1,h1⟩,e1,e2⟩:=bL e;exact⟨ρ,h,ds,d1,h1,S,r,hl,e1,fun v H' p=>q v H' (p.leave S e2)⟩
end
def spT(K:FR):Sp:=fun vs H Q _=>∃(a:Addr)(ns:List Int),vs=[.ref a]∧gA K H a (ns.map V.int)∧ns.length≤63∧∀H',Q (.bl true) H'
theorem Ht{P:Program}{w:World}{K:FR}{mg:Str->Option Value}{base:Heap}{k:Nat}{f:Addr}{fd:FuncData}{ps:List Str}{F:Fn}(G:bK P w K mg base fH k f fd ps (gh K 1 F))
  (hF:∀ns:List Int,ns.length≤63->∃h',F [.ro (ns.map D.int)] []=some (.bl true,h')):bK P w K mg base fH k f fd ps (spT K):=by
 refine G.imp fun vs H Q E hh=>?_;obtain⟨a,ns,rfl,ha,hl,q⟩:=hh;obtain⟨h',e⟩:=hF ns hl;refine⟨⟨[],[]⟩,[],[.ro (ns.map D.int)],.bl true,h',⟨rfl,U5,fun n a o e=>by simp at e,fun b hb=>absurd hb (by simp)⟩,.cons (.ro ?_ (oF ns)) .nil,rfl,e,fun v H' ⟨ρ',T,S,r⟩=>?_⟩
 ·rcases ha with ha | ha
  ·exact .inl ⟨ha,fun z=>z.elim (fun z=>absurd z (by simp)) fun z=>absurd z (by simp)⟩
  ·exact .inr (.inr ha)
 ·cases r;exact q H'
mutual
noncomputable def rN:D->Option PyData
 | .cC=>some .none
 | .bl b=>some (.bool b)
 | .int i=>some (.int i)
 | .str x=>some (.str x)
 | .tup xs=>(kT xs).map .tuple
 | .lv xs=>(kT xs).map .list
 | .ro xs=>(kT xs).map .list
 | _=>none
noncomputable def kT:List D->Option (List PyData)
 | []=>some []
 | x::r=>(rN x).bind fun a=>(kT r).map fun b=>a::b
end
noncomputable def tZ(h:MH)(d:D):Option PyData:=match d with
 | .ob n=>match h[n]? with
  | some (.lst xs)=>(kT xs).map .list
  | _=>none
 | d=>rN d
mutual
theorem Rep.tY{K:FR}{ρ:Ad}{H:Hp}{v:V}{d:D}{p:PyData}(r:Rep K ρ H v d)(e:rN d=some p):Dp K H v p∧p.canLay0=true:=by
 cases r with
 | cC=>cases e;exact⟨.cC,rfl⟩
 | bl b=>cases e;exact⟨.bl b,rfl⟩
 | int i=>cases e;exact⟨.int i,rfl⟩
 | str hs=>cases e;exact⟨.str _,by simpa [PyData.canLay0] using hs⟩
 | tup h l=>obtain⟨q,e1,rfl⟩:=gu e;obtain⟨a,b⟩:=aF.tY l e1;exact⟨.tup h.sq a,by simpa [PyData.canLay0] using b⟩
 | lv h n l=>obtain⟨q,e1,rfl⟩:=gu e;obtain⟨a,b⟩:=aF.tY l e1;exact⟨.lst (gA.of h) a,by simpa [PyData.canLay0] using b⟩
 | ro h l=>obtain⟨q,e1,rfl⟩:=gu e;obtain⟨a,b⟩:=aF.tY l e1;exact⟨.lst h.sq a,by simpa [PyData.canLay0] using b⟩
 | _=>cases e
theorem aF.tY{K:FR}{ρ:Ad}{H:Hp}{v:List V}{d:List D}{p:List PyData}(r:aF K ρ H v d)(e:kT d=some p):pG K H v p∧PyData.canLayAll0 p=true:=by
 cases r with
 | nil=>cases e;exact⟨.nil,rfl⟩
 | cons r l=>
  obtain⟨a,e1,e2⟩:=bL e;obtain⟨b,e3,rfl⟩:=gu e2;obtain⟨a1,a2⟩:=Rep.tY r e1;obtain⟨b1,b2⟩:=aF.tY l e3;exact⟨.cons a1 b1,by simp[PyData.canLayAll0,a2,b2]⟩
end
section
variable {K:FR} {ρ:Ad} {H:Hp} {h:MH} {v:V} {d:D}
theorem qA(S:cn K ρ h H)(r:Rep K ρ H v d)(e:tZ h d=some p):Dp K H v p∧p.canLay0=true:=by
 cases r with
 | @ob a n hn=>
  unfold tZ at e;dsimp only at e;cases q:h[n]? with
  | none=>rw[q] at e;cases e
  | some o=>
   rw[q] at e;cases o with
   | dct _=>cases e
   | lst xs=>
    obtain⟨vs,e1,l⟩:=S.at_ n a _ hn q;obtain⟨b,e3,e4⟩:=gu e;subst e4;obtain⟨b1,b2⟩:=l.tY e3;exact⟨.lst (gA.of e1) b1,by simpa [PyData.canLay0] using b2⟩
 | cC=>exact Rep.tY (Rep.cC (ρ:=ρ)) e
 | bl b=>exact Rep.tY (Rep.bl (ρ:=ρ) b) e
 | int i=>exact Rep.tY (Rep.int (ρ:=ρ) i) e
 | str x=>exact Rep.tY (Rep.str (ρ:=ρ) x) e
 | ty n=>exact Rep.tY (Rep.ty (ρ:=ρ) n) e
 | tup h l=>exact Rep.tY (.tup h l) e
 | lv h n l=>exact Rep.tY (.lv h n l) e
 | ro h l=>exact Rep.tY (.ro h l) e
 | dv h n l=>exact Rep.tY (.dv h n l) e
noncomputable def fF(d:D)(h:MH):Option (List D):=match d with
 | .lv xs=>some xs
 | .ob n=>match h[n]? with
  | some (.lst xs)=>some xs
  | _=>none
 | _=>none
theorem ej(S:cn K ρ h H)(r:Rep K ρ H v d)(e:fF d h=some xs):∃a vs,v=.ref a∧H a=some (.lst vs)∧aF K ρ H vs xs:=by
 cases r with
 | @ob a n hn=>
  unfold fF at e;dsimp only at e;cases q:h[n]? with
  | none=>rw[q] at e;cases e
  | some o=>
   rw[q] at e;cases o with
   | dct _=>cases e
   | lst ys=>
    cases e;obtain⟨vs,e1,l⟩:=S.at_ n a _ hn q;exact⟨a,vs,rfl,e1,l⟩
 | lv h n l=>cases e;exact⟨_,_,rfl,h,l⟩
 | _=>cases e
noncomputable def eu(d:D)(h:MH):Option (List (Key×D)):=match d with
 | .dv kvs=>some kvs
 | .ob n=>match h[n]? with
  | some (.dct kvs)=>some kvs
  | _=>none
 | _=>none
theorem nC(S:cn K ρ h H)(r:Rep K ρ H v d)(e:eu d h=some xs):∃a vs,v=.ref a∧H a=some (.dK vs)∧bH K ρ H vs xs:=by
 cases r with
 | @ob a n hn=>
  unfold eu at e;dsimp only at e;cases q:h[n]? with
  | none=>rw[q] at e;cases e
  | some o=>
   rw[q] at e;cases o with
   | lst _=>cases e
   | dct ys=>
    cases e;obtain⟨vs,e1,l⟩:=S.at_ n a _ hn q;exact⟨a,vs,rfl,e1,l⟩
 | dv h n l=>cases e;exact⟨_,_,rfl,h,l⟩
 | _=>cases e
theorem qy(S:cn K ρ h H)(r:Rep K ρ H v d)(e:cR d h=some (xs,ws)):∃a vs,v=.ref a∧(gA K H a vs∨ko K H a vs)∧aF K ρ H vs xs:=by
 obtain⟨a,e1,⟨vs,q,l⟩,_⟩:=lr S r e;refine⟨a,vs,e1,?_,l⟩;generalize wQ d=b at q;cases q with
 | l q=>exact .inl q
 | t q=>exact .inr q
noncomputable def qk:D->Option Key
 | .int i=>some (.inl i)
 | .str x=>some (.inr x)
 | _=>none
noncomputable def gX(kvs:List (Key×D))(k:Key):Option D:=(kvs.find? fun kv=>decide (kv.1=k)).map (·.2)
noncomputable def putD(kvs:List (Key×D))(k:Key)(v:D):List (Key×D):=
 if(kvs.any fun kv=>decide (kv.1=k))=true then kvs.map (fun kv=>if kv.1=k then(kv.1,v) else kv) else kvs++[(k,v)]
theorem kE(r:Rep K ρ H v d)(e:qk d=some k):v=kV k:=by
 cases r with
 | int i=>cases e;rfl
 | str x=>cases e;rfl
 | _=>cases e
theorem bH.val:∀{us:List (Key×V)} {kvs:List (Key×D)} (k:Key),bH K ρ H us kvs->(gX kvs k=none∧jt us k=none)∨∃d v,gX kvs k=some d∧jt us k=some v∧Rep K ρ H v d
 | _,_,k,.nil=>.inl ⟨rfl,rfl⟩
 | _,_,k,.cons (k:=j) (v:=v) (vs:=vs) (d:=d) (ds:=ds) r l=>by
  by_cases z:j=k
  ·exact .inr ⟨d,v,by simp[gX,z],by simp[jt,z],r⟩
  ·have h1:gX ((j,d)::ds) k=gX ds k:=by simp only[gX,Sn,z,decide_false]
   have h2:jt ((j,v)::vs) k=jt vs k:=mB z;rw[h1,h2];exact bH.val k l
theorem bH.length:∀{us:List (Key×V)} {kvs:List (Key×D)},bH K ρ H us kvs->us.length=kvs.length
 | _,_,.nil=>rfl
 | _,_,.cons _ l=>by rw[Qv,Qv,bH.length l]
theorem bH.any(k:Key):∀{us:List (Key×V)} {kvs:List (Key×D)},bH K ρ H us kvs->(us.any fun kv=>decide (kv.1=k))=(kvs.any fun kv=>decide (kv.1=k))
 | _,_,.nil=>rfl
 | _,_,.cons _ l=>by rw[R6,R6,bH.any k l]
theorem bH.map(r:Rep K ρ H v d):∀{us:List (Key×V)} {kvs:List (Key×D)},bH K ρ H us kvs->bH K ρ H (us.map fun kv=>if kv.1=k then(kv.1,v) else kv) (kvs.map fun kv=>if kv.1=k then(kv.1,d) else kv)
 | _,_,.nil=>.nil
 | _,_,.cons (k:=j) q l=>by
  rw[Qd,Qd]
  by_cases z:j=k
  ·rw[P7 z,P7 z];exact .cons r (bH.map r l)
  ·rw[Qa z,Qa z];exact .cons q (bH.map r l)
theorem bH.append:∀{us vs:List (Key×V)} {ks ls:List (Key×D)},bH K ρ H us ks->bH K ρ H vs ls->bH K ρ H (us++vs) (ks++ls)
 | _,_,_,_,.nil,t=>t
 | _,_,_,_,.cons r l,t=>.cons r (bH.append l t)
theorem bH.put(l:bH K ρ H us kvs)(r:Rep K ρ H v d):bH K ρ H (putK us k v) (putD kvs k d):=by
 unfold putK putD;rw[l.any k]
 by_cases z:(kvs.any fun kv=>decide (kv.1=k))=true
 ·rw[P7 z,P7 z];exact l.map r
 ·rw[Qa z,Qa z];exact l.append (.cons r .nil)
end
noncomputable def CN(d e:D)(h:MH):Option (D×MH):=match d,e with
 | .int i,.int j=>some (.int (i+j),h)
 | .str a,.str b=>if a.length+b.length≤sizeLine then some (.str (a++b),h) else none
 | .tup [],.tup _=>none
 | .tup (x::xs),.tup ys=>if xs.length+1+ys.length≤sizeLine then some (.tup (x::xs++ys),h) else none
 | d,e=>(fF d h).bind fun xs=>(fF e h).bind fun ys=>if xs.length+ys.length≤sizeLine then some (.lv (xs++ys),h) else none
noncomputable def wZ(d e:D)(h:MH):Option (D×MH):=match d,e with
 | .int i,.int j=>some (.int (i-j),h)
 | _,_=>none
noncomputable def m5(i j:Int):Bool:=(decide (-(2^64) < i)&&decide (i < 2^64))||(decide (-(2^64) < j)&&decide (j < 2^64))
noncomputable def Ld(d e:D)(h:MH):Option (D×MH):=match d,e with
 | .int i,.int j=>if m5 i j then some (.int (i*j),h) else none
 | _,_=>none
noncomputable def sC(d e:D)(h:MH):Option (D×MH):=match d,e with
 | .int i,.int j=>if 0 < j then some (.int (i % j),h) else none
 | _,_=>none
noncomputable def E8(d e:D)(h:MH):Option (D×MH):=match d,e with
 | .int i,.int j=>if 0 < j∧j≤10^40 then some (.int (i / j),h) else none
 | _,_=>none
noncomputable def HG(d e:D)(h:MH):Option (D×MH):=match d,e with
 | .int i,.int j=>if 0≤j∧j≤1000000∧i.natAbs < 2^64 then some (.int (i^j.toNat),h) else none
 | _,_=>none
noncomputable def Fs(f:Int->Int->Bool)(d e:D)(h:MH):Option (D×MH):=match d,e with
 | .int i,.int j=>some (.bl (f i j),h)
 | _,_=>none
noncomputable def Le:=Fs fun i j=>decide (i < j)
noncomputable def za:=Fs fun i j=>decide (i≤j)
noncomputable def CL:=Fs fun i j=>decide (j < i)
noncomputable def M9:=Fs fun i j=>decide (j≤i)
noncomputable def Lj(d e:D)(h:MH):Option Bool:=(tZ h d).bind fun a=>(tZ h e).bind fun b=>if a.depth≤64∧b.depth≤64 then some (PyData.eqv a b) else none
noncomputable def Pc:D->Bool
 | .cC=>true
 | _=>false
noncomputable def CK(d e:D)(h:MH):Option (D×MH):=match e with
 | .cC=>some (.bl (Pc d),h)
 | _=>none
noncomputable def vI(d:D)(h:MH):Option (D×MH):=match d with
 | .int i=>some (.int (-i),h)
 | _=>none
noncomputable def inD(d e:D)(h:MH):Option Bool:=match eu e h with
 | some kvs=>(qk d).map fun k=>(gX kvs k).isSome
 | none=>match d,e with
  | .str x,.str y=>some (!(Builtin.Str.occurrences y x 0 y.length 1).isEmpty)
  | d,e=>(cR e h).bind fun p=>(tZ h d).bind fun a=>(kT p.1).bind fun bs=>if a.depth≤60∧PyData.depthAll bs≤60 then some (bs.any fun b=>PyData.eqv b a) else none
noncomputable def yF(d e:D)(h:MH):Option (D×MH):=(inD d e h).map fun c=>(.bl c,h)
noncomputable def fR(d e:D)(h:MH):Option (D×MH):=(inD d e h).map fun c=>(.bl (!c),h)
noncomputable def aY(d e:D)(h:MH):Option (D×MH):=match eu d h with
 | some kvs=>(qk e).bind fun k=>(gX kvs k).map fun z=>(z,h)
 | none=>match d,e with
  | .str z,.int i=>if z.length≤sizeLine then(iz z.cps.toList i).map fun c=>(.str ⟨#[c]⟩,h) else none
  | d,.int i=>(cR d h).bind fun p=>(iz p.1 i).map fun z=>(z,h)
  | _,_=>none
theorem wz(ho:k8 X g (rI C q))(hf:∀d e h z h',f d e h=some (z,h')->∃i j,d=.int i∧e=.int j∧C i j∧h'=h∧∀ρ H,Rep X.K ρ H (q i j) z):nZ X g f:=by
 intro pins s σ H x y v u Q I rx ry hh;obtain⟨ρ,h,d,e,z,h',S,rd,re,ee,k⟩:=hh;obtain⟨i,j,rfl,rfl,c,rfl,rz⟩:=hf _ _ _ _ _ ee;cases rd;cases re;exact ho pins s σ H _ _ v u Q I rx ry ⟨i,j,rfl,rfl,c,k _ _ (.here S (rz _ _))⟩
theorem kC(ho:k8 X g (D7 q))(hf:∀d e h z h',f d e h=some (z,h')->∃i j,d=.int i∧e=.int j∧h'=h∧∀ρ H,Rep X.K ρ H (q i j) z):nZ X g f:=by
 intro pins s σ H x y v u Q I rx ry hh;obtain⟨ρ,h,d,e,z,h',S,rd,re,ee,k⟩:=hh;obtain⟨i,j,rfl,rfl,rfl,rz⟩:=hf _ _ _ _ _ ee;cases rd;cases re;exact ho pins s σ H _ _ v u Q I rx ry ⟨i,j,rfl,rfl,k _ _ (.here S (rz _ _))⟩
theorem rV:nZ X (binaryOp .Sub) wZ:=kC Kt fun d e h z h' ee=>by
 cases d <;> first |(cases ee;done) | skip
 cases e <;> first |(cases ee;done) | skip
 cases ee;exact⟨_,_,rfl,rfl,rfl,fun _ _=>.int _⟩
theorem Kq:nZ X (binaryOp .Mult) Ld:=wz Kw fun d e h z h' ee=>by
 cases d <;> first |(cases ee;done) | skip
 cases e <;> first |(cases ee;done) | skip
 rename_i i j;unfold Ld at ee;dsimp only at ee
 by_cases c:m5 i j=true
 ·rw[P7 c] at ee;cases ee;refine⟨i,j,rfl,rfl,?_,rfl,fun _ _=>.int _⟩;unfold m5 at c;simp only[So,Qq,QT] at c;exact c
 ·rw[Qa c] at ee;cases ee
theorem lX:nZ X (binaryOp .Mod) sC:=wz Kx fun d e h z h' ee=>by
 cases d <;> first |(cases ee;done) | skip
 cases e <;> first |(cases ee;done) | skip
 rename_i i j;unfold sC at ee;dsimp only at ee
 by_cases c:0 < j
 ·rw[P7 c] at ee;cases ee;exact⟨i,j,rfl,rfl,c,rfl,fun _ _=>.int _⟩
 ·rw[Qa c] at ee;cases ee
theorem Kr:nZ X (binaryOp .FloorDiv) E8:=wz Ex fun d e h z h' ee=>by
 cases d <;> first |(cases ee;done) | skip
 cases e <;> first |(cases ee;done) | skip
 rename_i i j;unfold E8 at ee;dsimp only at ee
 by_cases c:0 < j∧j≤10^40
 ·rw[P7 c] at ee;cases ee;exact⟨i,j,rfl,rfl,c,rfl,fun _ _=>.int _⟩
 ·rw[Qa c] at ee;cases ee
theorem Ew:nZ X (binaryOp .Pow) HG:=wz Kv fun d e h z h' ee=>by
 cases d <;> first |(cases ee;done) | skip
 cases e <;> first |(cases ee;done) | skip
 rename_i i j;unfold HG at ee;dsimp only at ee
 by_cases c:0≤j∧j≤1000000∧i.natAbs < 2^64
 ·rw[P7 c] at ee;cases ee;exact⟨i,j,rfl,rfl,c,rfl,fun _ _=>.int _⟩
 ·rw[Qa c] at ee;cases ee
theorem Bp(ee:Fs f d e h=some (z,h')):∃i j,d=.int i∧e=.int j∧h'=h∧z=.bl (f i j):=by
 cases d <;> first |(cases ee;done) | skip
 cases e <;> first |(cases ee;done) | skip
 cases ee;exact⟨_,_,rfl,rfl,rfl,rfl⟩
theorem yf:nZ X (compareOp .Lt) Le:=kC MU fun d e h z h' ee=>by
 obtain⟨i,j,rfl,rfl,rfl,rfl⟩:=Bp ee;exact⟨i,j,rfl,rfl,rfl,fun _ _=>.bl _⟩
theorem pO:nZ X (compareOp .LtE) za:=kC MV fun d e h z h' ee=>by
 obtain⟨i,j,rfl,rfl,rfl,rfl⟩:=Bp ee;exact⟨i,j,rfl,rfl,rfl,fun _ _=>.bl _⟩
theorem kW:nZ X (compareOp .Gt) CL:=kC MW fun d e h z h' ee=>by
 obtain⟨i,j,rfl,rfl,rfl,rfl⟩:=Bp ee;exact⟨i,j,rfl,rfl,rfl,fun _ _=>.bl _⟩
theorem IH:nZ X (compareOp .GtE) M9:=kC MX fun d e h z h' ee=>by
 obtain⟨i,j,rfl,rfl,rfl,rfl⟩:=Bp ee;exact⟨i,j,rfl,rfl,rfl,fun _ _=>.bl _⟩
theorem oa:Np X (unaryOp .USub) (rU X.K vI):=by
 intro pins s σ H x v Q I rx hh;obtain⟨ρ,h,d,z,h',S,rd,ee,k⟩:=hh;cases rd <;> first |(cases ee;done) | skip
 cases ee;exact I9 pins s σ H _ v Q I rx ⟨_,rfl,k _ _ (.here S (.int _))⟩
theorem Ks:nZ X (binaryOp .Add) CN:=by
 intro pins s σ H x y v u Q I rx ry hh;obtain⟨ρ,h,d,e,z,h',S,rd,re,ee,k⟩:=hh;have lists:((fF d h).bind fun xs=>(fF e h).bind fun ys=>if xs.length+ys.length≤sizeLine then some (D.lv (xs++ys),h) else none)=some (z,h')->wpAny (model X.prog X.w) X.A (binaryOp .Add v u) (EP X pins σ Q) X.xe s:=by
  intro ee;obtain⟨xs,e1,e4⟩:=bL ee;obtain⟨ys,e2,e3⟩:=bL e4
  by_cases c:xs.length+ys.length≤sizeLine
  ·rw[P7 c] at e3;cases e3;obtain⟨a,vs,rfl,ha,la⟩:=ej S rd e1;obtain⟨b,us,rfl,hb,lb⟩:=ej S re e2;exact Ez pins s σ H _ _ v u Q I rx ry ⟨a,b,vs,us,rfl,rfl,ha,hb,by rw[la.length,lb.length];exact c,fun p hp=>k _ _ (.lv S (la.append lb) hp)⟩
  ·rw[Qa c] at e3;cases e3
 cases d with
 | int i=>
  cases e <;> first |(cases ee;done) | skip
  cases ee;cases rd;cases re;exact Kz pins s σ H _ _ v u Q I rx ry ⟨_,_,rfl,rfl,k _ _ (.here S (.int _))⟩
 | str a=>
  cases e <;> first |(cases ee;done) | skip
  rename_i b;unfold CN at ee;dsimp only at ee
  by_cases c:a.length+b.length≤sizeLine
  ·rw[P7 c] at ee;cases ee;cases rd with | str h1=>cases re with | str h2=>
   exact zG pins s σ H _ _ v u Q I rx ry ⟨a,b,rfl,rfl,c,k _ _ (.here S (.str (BO h1 h2)))⟩
  ·rw[Qa c] at ee;cases ee
 | tup xs=>
  cases xs with
  | nil=>cases e <;> cases ee
  | cons x0 xs=>
   cases e <;> first |(cases ee;done) | skip
   rename_i ys;unfold CN at ee;dsimp only at ee
   by_cases c:xs.length+1+ys.length≤sizeLine
   ·rw[P7 c] at ee;cases ee;cases rd with | tup h1 l1=>cases re with | tup h2 l2=>
    rename_i a vs b us;refine Hh pins s σ H _ _ v u Q I rx ry ⟨a,b,vs,us,rfl,rfl,h1.sq,h2.sq,?_,?_,fun z=>?_,fun _ p hp=>k _ _ (.tup S (l1.append l2) hp)⟩
    ·intro z;rw[z] at l1;cases l1
    ·rw[l1.length,l2.length];exact c
    ·rw[z] at l2;cases l2;rw[Ra] at k;exact k _ _ (.here S (.tup h1 l1))
   ·rw[Qa c] at ee;cases ee
 | lv xs=>exact lists (by cases e <;> exact ee)
 | ob n=>exact lists (by cases e <;> exact ee)
 | cC=>exact lists (by cases e <;> exact ee)
 | bl b=>exact lists (by cases e <;> exact ee)
 | ty b=>exact lists (by cases e <;> exact ee)
 | ro b=>exact lists (by cases e <;> exact ee)
 | dv b=>exact lists (by cases e <;> exact ee)
theorem kH(h1:p.canLay0=true)(h2:p.depth≤64):SeqAt.shaped p=true:=by
 unfold PySem.SeqAt.shaped;rw[h1,QO h2];rfl
theorem GA{K:FR}{ρ:Ad}{H:Hp}{v:V}{d:D}(r:Rep K ρ H v d):decide (v=V.cC)=Pc d:=by
 cases r <;> rfl
theorem rX:nZ X (compareOp .Is) CK:=by
 intro pins s σ H x y v u Q I rx ry hh;obtain⟨ρ,h,d,e,z,h',S,rd,re,ee,k⟩:=hh;cases e <;> first |(cases ee;done) | skip
 cases ee;cases re;refine Ky pins s σ H _ _ v u Q I rx ry ⟨rfl,?_⟩;rw[GA rd];exact k _ _ (.here S (.bl _))
theorem vz{us:List Value}{ds:List PyData}{as:List Addr}(H:ReadsAll h us ds as)(hf:∀u d as,u∈us->Reads h u d as->d∈ds->f u=PyData.eqv d p):us.any f=ds.any fun b=>PyData.eqv b p:=by
 cases H with
 | nil=>rfl
 | cons r l=>rw[R6,R6,hf _ _ _ Qe r Qe,vz l fun u d as hu hr hd=>hf u d as (Qc _ hu) hr (Qc _ hd)]
open Classical in
noncomputable def Ff(h:Heap)(p:PyData)(u:Value):Bool:=if q:∃d as,Reads h u d as∧d.canLay0=true then PyData.eqv q.choose p else false
theorem xh(r:Reads h u d as)(c:d.canLay0=true):Ff h p u=PyData.eqv d p:=by
 have q:∃d as,Reads h u d as∧d.canLay0=true:=⟨d,as,r,c⟩;unfold Ff;rw[dif_pos q];obtain⟨as',r',c'⟩:=q.choose_spec;rw[PySem.SeqAt.Reads.unique _ _ _ _ _ c' r' r]
theorem eS:∀{ds:List PyData} {d:PyData},PyData.canLayAll0 ds=true->d∈ds->d.canLay0=true
 | x::r,d,c,m=>by
  simp only[PyData.canLayAll0,Qq] at c;rcases Qn.mp m with rfl | m
  ·exact c.1
  ·exact eS c.2 m
theorem o9:∀{ds:List PyData} {d:PyData},d∈ds->d.depth≤PyData.depthAll ds
 | x::r,d,m=>by
  simp only[PyData.depthAll];rcases Qn.mp m with rfl | m
  ·lia
  ·have:=o9 m;lia
theorem oJ{us:List Value}{ds:List PyData}{as:List Addr}(H:ReadsAll h us ds as)(y:Value)(hy:y∈us):∃d as,Reads h y d as∧d∈ds:=by
 cases H with
 | nil=>cases hy
 | cons r l=>
  rcases Qn.mp hy with rfl | hy
  ·exact⟨_,_,r,Qe⟩
  ·obtain⟨d,as,a1,a2⟩:=oJ l y hy;exact⟨d,as,a1,Qc _ a2⟩
theorem in_of(hu:X.A.units+64 < cLine)(I:L2.Inv X pins σ H s)(rx:L2.RelV x v)(ry:L2.RelV y u)(S:cn X.K ρ h H)(rd:Rep X.K ρ H x d)(re:Rep X.K ρ H y e){c:Bool}(ee:inD d e h=some c){Q:Bool->Shared->Prop}(hq:∀s',L2.Inv X pins σ H s'->Q c s'):
  wpAny (model X.prog X.w) X.A (compareOp .In v u) (fun r s'=>∃c,r=.bool c∧Q c s') X.xe s∧wpAny (model X.prog X.w) X.A (compareOp .NotIn v u) (fun r s'=>∃c,r=.bool (!c)∧Q c s') X.xe s:=by
 unfold inD at ee;cases qd:eu e h with
 | some kvs=>
  rw[qd] at ee;obtain⟨k,e1,e2⟩:=gu ee;obtain⟨a,us,rfl,ha,l⟩:=nC S re qd;obtain rfl:u=Value.ref a:=ry;have ek:=kE rd e1;subst ek;have g:uq H a (kV k) (jt us k):=uq.k ha;have ec:(jt us k).isSome=c:=by
   rw[←e2];rcases l.val k with⟨h1,h2⟩ |⟨d,v,h1,h2,_⟩
   ·rw[h1,h2];rfl
   ·rw[h1,h2];rfl
  refine⟨OV (by lia) I g rx fun s' I'=>⟨c,by rw[ec],hq s' I'⟩,HQ (by lia) I g rx fun s' I'=>⟨c,by rw[ec],hq s' I'⟩⟩
 | none=>
  rw[qd] at ee;dsimp only at ee;have seqs:((cR e h).bind fun p=>(tZ h d).bind fun a=>(kT p.1).bind fun bs=>if a.depth≤60∧PyData.depthAll bs≤60 then some (bs.any fun b=>PyData.eqv b a) else none)=some c->
    wpAny (model X.prog X.w) X.A (compareOp .In v u) (fun r s'=>∃c,r=.bool c∧Q c s') X.xe s∧wpAny (model X.prog X.w) X.A (compareOp .NotIn v u) (fun r s'=>∃c,r=.bool (!c)∧Q c s') X.xe s:=by
   intro ee;obtain⟨⟨xs,ws⟩,e1,e2⟩:=bL ee;obtain⟨p,e3,e4⟩:=bL e2;obtain⟨bs,e5,e6⟩:=bL e4
   by_cases w:p.depth≤60∧PyData.depthAll bs≤60
   ·rw[P7 w] at e6;cases e6;obtain⟨a,vs,rfl,hq',l⟩:=qy S re e1;obtain rfl:u=Value.ref a:=ry;obtain⟨r1,c1⟩:=qA S rd e3;obtain⟨r2,c2⟩:=l.tY e5;obtain⟨as,ra⟩:=r1.reads I rx;have key:∀its:List Value,Vals vs its->(∀y,y∈its->PySem.SeqAt.EqAt X.A.in1 s y v (Ff s.heap p y))∧its.any (Ff s.heap p)=bs.any fun b=>PyData.eqv b p:=by
     intro its rv;obtain⟨bs',rb⟩:=r2.reads I rv;refine⟨fun y hy=>?_,vz rb fun u d as _ hr hd=>xh hr (eS c2 hd)⟩;obtain⟨d,as',hr,hd⟩:=oJ rb y hy;rw[xh hr (eS c2 hd)];refine Ug d p _ s y v as' as hr ra (eS c2 hd) c1 ?_;have h1:=o9 hd;have h2:min d.depth p.depth≤d.depth:=Sk _ _;show X.A.units+1+min d.depth p.depth < cLine;have h3:=w.2
     lia
    rcases hq' with hq' | hq'
    ·obtain⟨its,rv,pl,_⟩:=I.list hq';obtain⟨k1,k2⟩:=key its rv;have k1':∀y,y∈its.toArray->PySem.SeqAt.EqAt X.A.in1 s y v (Ff s.heap p y):=fun y hy=>k1 y (by simpa using hy);have k2':its.toArray.any (Ff s.heap p)=bs.any fun b=>PyData.eqv b p:=by rw[←k2];simp
     exact⟨PySem.SeqAt.in_listAt _ pl.isList k1' ⟨_,rfl,by rw[k2'];exact hq s I⟩,PySem.SeqAt.notIn_listAt _ pl.isList k1' ⟨_,rfl,by rw[k2'];exact hq s I⟩⟩
    ·obtain⟨its,rv,pl,_⟩:=I.tuple hq';obtain⟨k1,k2⟩:=key its rv;have k1':∀y,y∈its.toArray->PySem.SeqAt.EqAt X.A.in1 s y v (Ff s.heap p y):=fun y hy=>k1 y (by simpa using hy);have k2':its.toArray.any (Ff s.heap p)=bs.any fun b=>PyData.eqv b p:=by rw[←k2];simp
     exact⟨PySem.SeqAt.in_tupleAt _ pl k1' ⟨_,rfl,by rw[k2'];exact hq s I⟩,PySem.SeqAt.notIn_tupleAt _ pl k1' ⟨_,rfl,by rw[k2'];exact hq s I⟩⟩
   ·rw[Qa w] at e6;cases e6
  by_cases hs:(∃a,d=.str a)∧∃b,e=.str b
  ·obtain⟨⟨a,rfl⟩,b,rfl⟩:=hs;cases ee;cases rd;cases re;obtain⟨t,rfl⟩:=rx;obtain⟨t',rfl⟩:=ry;exact⟨in_str ⟨_,rfl,hq s I⟩,notIn_str ⟨_,rfl,hq s I⟩⟩
  ·refine seqs ?_;cases d <;> first | exact ee | skip
   cases e <;> first | exact ee | skip
   exact absurd ⟨⟨_,rfl⟩,_,rfl⟩ hs
theorem uM(hu:X.A.units+64 < cLine):nZ X (compareOp .In) yF:=by
 intro pins s σ H x y v u Q I rx ry hh;obtain⟨ρ,h,d,e,z,h',S,rd,re,ee,k⟩:=hh;obtain⟨c,e1,e2⟩:=gu ee;cases e2;refine cN (in_of hu I rx ry S rd re e1 (Q:=fun c' s'=>c'=c∧L2.Inv X pins σ H s') fun s' I'=>⟨rfl,I'⟩).1 fun r s' ⟨c',hr,hc,I'⟩=>?_;subst hr;subst hc;exact⟨.bl _,H,I',rfl,k _ _ (.here S (.bl _))⟩
theorem mV(hu:X.A.units+64 < cLine):nZ X (compareOp .NotIn) fR:=by
 intro pins s σ H x y v u Q I rx ry hh;obtain⟨ρ,h,d,e,z,h',S,rd,re,ee,k⟩:=hh;obtain⟨c,e1,e2⟩:=gu ee;cases e2;refine cN (in_of hu I rx ry S rd re e1 (Q:=fun c' s'=>c'=c∧L2.Inv X pins σ H s') fun s' I'=>⟨rfl,I'⟩).2 fun r s' ⟨c',hr,hc,I'⟩=>?_;subst hr;subst hc;exact⟨.bl _,H,I',rfl,k _ _ (.here S (.bl _))⟩
theorem Ie{K:FR}{ρ:Ad}{H:Hp}{vs:List V}{ds:List D}{i:Int}{d:D}(l:aF K ρ H vs ds)(e:iz ds i=some d):∃v,iz vs i=some v∧Rep K ρ H v d:=by
 unfold iz at e;obtain⟨j,e1,e2⟩:=bL e;obtain⟨v,e3,r⟩:=l.got e2;exact⟨v,by unfold iz;rw[l.length,e1];exact e3,r⟩
theorem M1(hu:X.A.units+64 < cLine):NH X (rS X.K aY):=by
 intro value slice pins s σ H x y v u Q I rx ry hh hs;obtain⟨ρ,h,d,e,z,h',S,rd,re,ee,k⟩:=hh;unfold aY at ee;cases qd:eu d h with
 | some kvs=>
  rw[qd] at ee;obtain⟨ky,e1,e2⟩:=bL ee;obtain⟨z',e3,e4⟩:=gu e2;cases e4;obtain⟨a,us,rfl,ha,l⟩:=nC S rd qd;obtain rfl:v=Value.ref a:=rx;have ek:=kE re e1;subst ek;rcases l.val ky with⟨h1,h2⟩ |⟨d',w,h1,h2,r⟩
  ·rw[h1] at e3;cases e3
  ·rw[h1] at e3;cases e3;have g:uq H a (kV ky) (some w):=by rw[←h2];exact uq.k ha
   exact tail_any (yL I g) U8.lookup (CS (by lia) I g ry fun w' s3 I3 rw'=>⟨w,H,I3,rw',k _ _ (.here S r)⟩) hs
 | none=>
  rw[qd] at ee;dsimp only at ee;cases e <;> first |(cases d <;> (cases ee;done)) | skip
  rename_i i;have seqs:((cR d h).bind fun p=>(iz p.1 i).map fun z=>(z,h))=some (z,h')->wpAny (model X.prog X.w) X.A (subscriptTail value slice v u) (EP X pins σ Q) X.xe s:=by
   intro ee;obtain⟨⟨xs,ws⟩,e1,e2⟩:=bL ee;obtain⟨z',e3,e4⟩:=gu e2;cases e4;obtain⟨a,vs,rfl,hq',l⟩:=qy S rd e1;obtain⟨w,e5,r⟩:=Ie l e3;cases re;rcases hq' with hq' | hq'
   ·exact Hw value slice pins s σ H _ _ v u Q I rx ry ⟨a,vs,i,w,rfl,rfl,hq',e5,k _ _ (.here S r)⟩ hs
   ·exact K0 value slice pins s σ H _ _ v u Q I rx ry ⟨a,vs,i,w,rfl,rfl,hq',e5,k _ _ (.here S r)⟩ hs
  cases d with
  | str x0=>
   dsimp only at ee
   by_cases c:x0.length≤sizeLine
   ·rw[P7 c] at ee;obtain⟨ch,e3,e4⟩:=gu ee;cases e4;cases rd with | str hs0=>
    cases re;exact K1 value slice pins s σ H _ _ v u Q I rx ry ⟨x0,i,ch,rfl,rfl,c,e3,k _ _ (.here S (.str (BN hs0 e3)))⟩ hs
   ·rw[Qa c] at ee;cases ee
  | _=>exact seqs ee
theorem Mu(hu:X.A.units+64 < cLine)(ha:SE X a ma)(hb:SE X b mb)(hs:nW b:=by unfold nW;intro _ _;ac_nf):SE X (.Subscript a b pos) (ay aY ma mb):=(MQ (M1 hu) ha hb hs).imp fun _ _ _=>AU
abbrev PM:=DS->MH->Option (Option Int×MH)
noncomputable def IF:PM:=fun _ h=>some (none,h)
noncomputable def IG(e:EM):PM:=fun δ h=>(e δ h).bind fun p=>match p.1 with
 | .int i=>some (some i,p.2)
 | _=>none
inductive Nv(K:FR)(m:PM)(σ:L2.St)(H:Hp)(Q:Option Int->Hp->Prop):Prop where
 | mk (ρ δ h b h'):cS K ρ H σ δ->cn K ρ h H->(m δ h=some (b,h'))->(∀ρ' H',dz ρ H ρ' H'->cn K ρ' h' H'->Q b H')->Nv K m σ H Q
noncomputable def PB(K:FR)(m:PM):TO:=fun σ H Q=>Nv K m σ H Q
def SP'(X:Cx)(e:Option Expr)(m:PM):Prop:=PO X e (PB X.K m)
theorem mI:SP' X none IF:=fun pins s σ H Q I hh=>by
 obtain⟨ρ,δ,h,b,h',R,S,e,k⟩:=hh;cases e;exact G0 pins s σ H Q I (k ρ H (.refl _ _) S)
theorem mH(he:SE X e ma):SP' X (some e) (IG ma):=fun pins s σ H Q I hh=>by
 obtain⟨ρ,δ,h,b,h',R,S,e,k⟩:=hh;obtain⟨⟨x,h1⟩,e1,e2⟩:=bL e;cases x <;> first |(cases e2;done) | skip
 cases e2;refine GZ he pins s σ H Q I ⟨ρ,δ,h,_,_,R,S,e1,fun v H' ⟨ρ',T,S',r⟩=>?_⟩;cases r;exact⟨_,rfl,k ρ' H' T S'⟩
noncomputable def cutD(xs:List D)(lo hi:Option Int):List D:=(xs.drop (HT.dm xs.length 0 lo)).take (HT.dm xs.length xs.length hi-HT.dm xs.length 0 lo)
noncomputable def Lc(d:D)(lo hi:Option Int)(h:MH):Option (D×MH):=match d with
 | .str z=>if z.length≤sizeLine then some (.str (Txt.slice z lo hi),h) else none
 | .tup xs=>if HT.dm xs.length 0 lo=0∧HT.dm xs.length xs.length hi=xs.length then none else some (.tup (cutD xs lo hi),h)
 | d=>(cR d h).map fun p=>(.lv (cutD p.1 lo hi),h)
noncomputable def PN(a:EM)(l u:PM):EM:=fun δ h=>(a δ h).bind fun p=>(l δ p.2).bind fun q=>(u δ q.2).bind fun r=>Lc p.1 q.1 r.1 r.2
inductive NC(K:FR)(x:V)(lo hi:Option Int)(H:Hp)(Q:VK):Prop where
 | mk (ρ h d z h'):cn K ρ h H->Rep K ρ H x d->(Lc d lo hi h=some (z,h'))->(∀v H',eL K ρ H h' z v H'->Q v H')->NC K x lo hi H Q
def PJ(K:FR):V->Option Int->Option Int->Hp->VK->Prop:=fun x lo hi H Q=>NC K x lo hi H Q
theorem aF.sG{K:FR}{ρ:Ad}{H:Hp}{vs:List V}{ds:List D}(l:aF K ρ H vs ds)(lo hi:Option Int):aF K ρ H (L2.sG vs lo hi) (cutD ds lo hi):=by
 unfold L2.sG cutD;rw[l.length];exact(l.drop _).take _
theorem Iw:LF X (PJ X.K):=by
 intro pins s σ H x v vl vu lo hi sl Q I rx hs pl pu hh;obtain⟨ρ,h,d,z,h',S,rd,ee,k⟩:=hh;have lists:wQ d=true->((cR d h).map fun p=>(D.lv (cutD p.1 lo hi),h))=some (z,h')->∃T id,typeLookup (.type T) "__getitem__"=pure (some (.builtin id))∧s.TypeIs v T∧wpAny (model X.prog X.w) X.A (getItem v (.ref sl)) (EP X pins σ Q) X.xe s:=by
  intro nt e2;obtain⟨⟨xs,ws⟩,e1,e2⟩:=gu e2;cases e2;obtain⟨a,rfl,⟨vs,q,l⟩,_⟩:=lr S rd e1;rw[nt] at q;cases q with
  | l q=>exact Gr pins s σ H _ v vl vu lo hi sl Q I rx hs pl pu ⟨a,vs,rfl,q,fun p hp=>k _ _ (.lv S (l.sG lo hi) hp)⟩
 cases d with
 | str x0=>
  unfold Lc at ee;dsimp only at ee
  by_cases c:x0.length≤sizeLine
  ·rw[P7 c] at ee;cases ee;cases rd with | str hs0=>
   exact Jo pins s σ H _ v vl vu lo hi sl Q I rx hs pl pu ⟨x0,rfl,c,k _ _ (.here S (.str (xJ _ _ hs0)))⟩
  ·rw[Qa c] at ee;cases ee
 | tup xs=>
  unfold Lc at ee;dsimp only at ee
  by_cases c:HT.dm xs.length 0 lo=0∧HT.dm xs.length xs.length hi=xs.length
  ·rw[P7 c] at ee;cases ee
  ·rw[Qa c] at ee;cases ee;cases rd with | tup h0 l0=>
   exact Jn pins s σ H _ v vl vu lo hi sl Q I rx hs pl pu ⟨_,_,rfl,h0.sq,by rw[l0.length];exact c,fun p hp=>k _ _ (.tup S (l0.sG lo hi) hp)⟩
 | _=>exact lists rfl ee
theorem DT{x:Str}{id:String}{p pos:Pos}{e:Expr}{es:List Expr}{f:Fn}{m:AM}(hc:gy X (.builtin id) f)(hg:Gl X x)(hm:X.mg x=none)(hv:bootBuiltins x=some (.builtin id))(ha:SA X (e::es) m)(hn:x≠"__name__":=by decide)(hdb:(x==("__debug__":Str))=false:=by ac_nf)
  (he:starEach (e::es) X.env=(false,eval e X.env)::starEach es X.env:=by ac_nf) (hpl:(backTo pos (starEach es X.env)).any (·.1)=false:=by ac_nf):SE X (.Call (.Name x p) (e::es) [] pos) (aw f m):=
 (rQ hc hg hm hv ha hn hdb he hpl).imp fun σ H Q ⟨ρ,δ,h,d,h',R,S,e,k⟩=>by
  obtain⟨⟨ds,h1⟩,e1,e2⟩:=bL e;exact⟨ρ,δ,h,ds,h1,R,S,e1,fun vs ρ1 H1 T1 S1 r1=>⟨ρ1,h1,ds,d,h',S1,r1,e2,fun v H' P=>k v H' (P.step T1)⟩⟩
theorem DR{x:Str}{id:String}{p pos:Pos}{e:Expr}{es:List Expr}{f:Fn}{m:AM}(hc:gy X (.type id) f)(hg:Gl X x)(hm:X.mg x=none)(hv:bootBuiltins x=some (.type id))(ha:SA X (e::es) m)(hn:x≠"__name__":=by decide)(hdb:(x==("__debug__":Str))=false:=by ac_nf)
  (he:starEach (e::es) X.env=(false,eval e X.env)::starEach es X.env:=by ac_nf) (hpl:(backTo pos (starEach es X.env)).any (·.1)=false:=by ac_nf):SE X (.Call (.Name x p) (e::es) [] pos) (aw f m):=
 (kB hc hg hm hv ha hn hdb he hpl).imp fun σ H Q ⟨ρ,δ,h,d,h',R,S,e,k⟩=>by
  obtain⟨⟨ds,h1⟩,e1,e2⟩:=bL e;exact⟨ρ,δ,h,ds,h1,R,S,e1,fun vs ρ1 H1 T1 S1 r1=>⟨ρ1,h1,ds,d,h',S1,r1,e2,fun v H' P=>k v H' (P.step T1)⟩⟩
noncomputable def cx:Fn:=fun ds h=>match ds with
 | [.str z]=>if z.length≤sizeLine then some (.int z.length,h) else none
 | [d]=>match eu d h with
  | some kvs=>some (.int kvs.length,h)
  | none=>(cR d h).map fun p=>(.int p.1.length,h)
 | _=>none
noncomputable def Li:Fn:=fun ds h=>match ds with
 | [.int i]=>some (.int (if i < 0 then -i else i),h)
 | _=>none
noncomputable def O6(d:D)(h:MH):Option String:=match d with
 | .cC=>some "NoneType"
 | .bl _=>some "bool"
 | .int _=>some "int"
 | .str _=>some "str"
 | .tup _=>some "tuple"
 | .lv _=>some "list"
 | .dv _=>some "dict"
 | .ob n=>match h[n]? with
  | some (.lst _)=>some "list"
  | some (.dct _)=>some "dict"
  | none=>none
 | _=>none
noncomputable def DE(t n:String):Bool:=t==n||(t=="bool"&&n=="int")
noncomputable def gq:Fn:=fun ds h=>match ds with
 | [d,.ty n]=>if n∈["int","str","bool","tuple","list","dict"] then(O6 d h).map fun t=>(.bl (DE t n),h) else none
 | _=>none
noncomputable def ck:Fn:=fun ds h=>match ds with
 | [d]=>(cR d h).map fun p=>(.tup p.1,h)
 | _=>none
noncomputable def sV:List D->Option (List Bool)
 | []=>some []
 | .bl b::r=>(sV r).map fun bs=>b::bs
 | _=>none
noncomputable def qo:Fn:=fun ds h=>match ds with
 | [d]=>(fF d h).bind fun xs=>(sV xs).map fun bs=>(.bl (bs.all id),h)
 | _=>none
noncomputable def E9:Fn:=fun ds h=>match ds with
 | [d]=>(fF d h).bind fun xs=>(sV xs).map fun bs=>(.bl (bs.any id),h)
 | _=>none
theorem rep1{K:FR}{ρ:Ad}{H:Hp}{vs:List V}{d:D}(l:aF K ρ H vs [d]):∃v,vs=[v]∧Rep K ρ H v d:=by
 cases l with
 | cons r l=>cases l;exact⟨_,rfl,r⟩
theorem rep2{K:FR}{ρ:Ad}{H:Hp}{vs:List V}{d e:D}(l:aF K ρ H vs [d,e]):∃v u,vs=[v,u]∧Rep K ρ H v d∧Rep K ρ H u e:=by
 cases l with
 | cons r l=>cases l with
  | cons r' l=>cases l;exact⟨_,_,rfl,r,r'⟩
theorem bI:gy X (.builtin "len") cx:=by
 intro pins s σ H xs us Q I r hh;obtain⟨ρ,h,ds,z,h',S,l,ee,k⟩:=hh
 match ds,l,ee with
 | [],_,ee=>cases ee
 | _::_::_,_,ee=>exact absurd ee (by unfold cx;split <;> simp_all)
 | [d],l,ee=>
  obtain⟨v,rfl,rd⟩:=rep1 l;have oth:(match eu d h with | some kvs=>some (D.int kvs.length,h) | none=>(cR d h).map fun p=>(D.int p.1.length,h))=some (z,h')->wpAny (model X.prog X.w) X.A (call (.builtin "len") us) (EP X pins σ Q) X.xe s:=by
   intro ee;cases q:eu d h with
   | some kvs=>
    rw[q] at ee;cases ee;obtain⟨a,ws,rfl,ha,lk⟩:=nC S rd q;refine C8 pins s σ H _ us Q I r ⟨a,ws,rfl,ha,k _ _ ?_⟩;rw[lk.length];exact .here S (.int _)
   | none=>
    rw[q] at ee;obtain⟨⟨ys,w⟩,e1,e2⟩:=gu ee;cases e2;obtain⟨a,vs,rfl,hq,l2⟩:=qy S rd e1;refine xp pins s σ H _ us Q I r ⟨a,vs,rfl,hq,k _ _ ?_⟩;rw[l2.length];exact .here S (.int _)
  cases d with
  | str x0=>
   unfold cx at ee;dsimp only at ee
   by_cases c:x0.length≤sizeLine
   ·rw[P7 c] at ee;cases ee;cases rd;exact xo pins s σ H _ us Q I r ⟨x0,rfl,c,k _ _ (.here S (.int _))⟩
   ·rw[Qa c] at ee;cases ee
  | _=>exact oth ee
theorem Fp:gy X (.builtin "abs") Li:=by
 intro pins s σ H xs us Q I r hh;obtain⟨ρ,h,ds,z,h',S,l,ee,k⟩:=hh
 match ds,l,ee with
 | [],_,ee=>cases ee
 | d::_::_,_,ee=>cases d <;> cases ee
 | [d],l,ee=>
  obtain⟨v,rfl,rd⟩:=rep1 l;cases rd <;> first |(cases ee;done) | skip
  cases ee;exact FF pins s σ H _ us Q I r ⟨_,rfl,k _ _ (.here S (.int _))⟩
theorem cm:gy X (.type "tuple") ck:=by
 intro pins s σ H xs us Q I r hh;obtain⟨ρ,h,ds,z,h',S,l,ee,k⟩:=hh
 match ds,l,ee with
 | [],_,ee=>cases ee
 | _::_::_,_,ee=>cases ee
 | [d],l,ee=>
  obtain⟨v,rfl,rd⟩:=rep1 l;obtain⟨⟨ys,w⟩,e1,e2⟩:=gu ee;cases e2;obtain⟨a,rfl,⟨vs,q,l2⟩,_⟩:=lr S rd e1;refine ug pins s σ H _ us Q I r ⟨a,vs,rfl,?_⟩;generalize hb:wQ d=b at q;cases q with
  | l q=>exact .inl ⟨q,fun p hp=>k _ _ (.tup S l2 hp)⟩
  | t q=>
   refine .inr ⟨q,k _ _ ?_⟩;cases rd <;> first |(cases hb;done) | skip
   cases e1;exact .here S (.tup ‹_› ‹_›)
theorem Az{K:FR}{ρ:Ad}{H:Hp}:∀{vs:List V} {xs:List D} {bs:List Bool},aF K ρ H vs xs->sV xs=some bs->vs=bs.map V.bl
 | _,_,_,.nil,e=>by cases e;rfl
 | _,_,_,.cons r l,e=>by
  cases r <;> first |(cases e;done) | skip
  obtain⟨bs',e1,e2⟩:=gu e;cases e2;rw[Az l e1];rfl
theorem mm(hc:X.calm=true):gy X (.builtin "all") qo:=by
 intro pins s σ H xs us Q I r hh;obtain⟨ρ,h,ds,z,h',S,l,ee,k⟩:=hh
 match ds,l,ee with
 | [],_,ee=>cases ee
 | _::_::_,_,ee=>cases ee
 | [d],l,ee=>
  obtain⟨v,rfl,rd⟩:=rep1 l;obtain⟨ys,e1,e2⟩:=bL ee;obtain⟨bs,e3,e4⟩:=gu e2;cases e4;obtain⟨a,vs,rfl,ha,l2⟩:=ej S rd e1;rw[Az l2 e3] at ha;exact FE hc pins s σ H _ us Q I r ⟨a,bs,rfl,gA.of ha,k _ _ (.here S (.bl _))⟩
theorem Fo(hc:X.calm=true):gy X (.builtin "any") E9:=by
 intro pins s σ H xs us Q I r hh;obtain⟨ρ,h,ds,z,h',S,l,ee,k⟩:=hh
 match ds,l,ee with
 | [],_,ee=>cases ee
 | _::_::_,_,ee=>cases ee
 | [d],l,ee=>
  obtain⟨v,rfl,rd⟩:=rep1 l;obtain⟨ys,e1,e2⟩:=bL ee;obtain⟨bs,e3,e4⟩:=gu e2;cases e4;obtain⟨a,vs,rfl,ha,l2⟩:=ej S rd e1;rw[Az l2 e3] at ha;exact FD hc pins s σ H _ us Q I r ⟨a,bs,rfl,gA.of ha,k _ _ (.here S (.bl _))⟩
theorem Bc{K:FR}{t n:String}(ht:t∈["NoneType","bool","int","str","tuple","list","dict"])(hn:n∈["int","str","bool","tuple","list","dict"]):PySem.W.kitOne K (.type t) (.type n)=some (DE t n):=by
 simp only[Qn,List.mem_nil_iff,UK] at ht hn;rcases ht with rfl | rfl | rfl | rfl | rfl | rfl | rfl <;> rcases hn with rfl | rfl | rfl | rfl | rfl | rfl <;> rfl
theorem cy:gy X (.builtin "isinstance") gq:=by
 intro pins s σ H xs us Q I r hh;obtain⟨ρ,h,ds,z,h',S,l,ee,k⟩:=hh
 match ds,l,ee with
 | [],_,ee=>cases ee
 | [_],_,ee=>cases ee
 | _::d::_::_,_,ee=>cases d <;> cases ee
 | [d,c],l,ee=>
  cases c <;> first |(cases ee;done) | skip
  rename_i n;unfold gq at ee;dsimp only at ee
  by_cases hn:n∈["int","str","bool","tuple","list","dict"]
  ·rw[P7 hn] at ee;obtain⟨t,e1,e2⟩:=gu ee;cases e2;obtain⟨v,u,rfl,rd,ru⟩:=rep2 l;cases ru;have fin:=k (.bl (DE t n)) H (.here S (.bl _));have go:∀ty,nN X.K H v (.type ty)->t=ty->ty∈["NoneType","bool","int","str","tuple","list","dict"]->wpAny (model X.prog X.w) X.A (call (.builtin "isinstance") us) (EP X pins σ Q) X.xe s:=fun ty hty e hm=>by
    subst e;exact FC pins s σ H _ us Q I r ⟨v,n,_,_,rfl,hty,Bc hm hn,fin⟩
   cases rd with
   | cC=>cases e1;exact go _ .cC rfl (by decide)
   | bl b=>cases e1;exact go _ (.bl b) rfl (by decide)
   | int i=>cases e1;exact go _ (.int i) rfl (by decide)
   | str h0=>cases e1;exact go _ (.str _) rfl (by decide)
   | ty _=>cases e1
   | ro _ _=>cases e1
   | lv h0 _ _=>cases e1;exact go _ (.lst h0) rfl (by decide)
   | dv h0 _ _=>cases e1;exact go _ (.dK h0) rfl (by decide)
   | @ob a m hm=>
    unfold O6 at e1;dsimp only at e1;cases q:h[m]? with
    | none=>rw[q] at e1;cases e1
    | some o=>
     rw[q] at e1;have x:=S.at_ m a o hm q;cases o with
     | lst _=>cases e1;obtain⟨vs,e3,_⟩:=x;exact go _ (.lst e3) rfl (by decide)
     | dct _=>cases e1;obtain⟨vs,e3,_⟩:=x;exact go _ (.dK e3) rfl (by decide)
   | @tup a vs ds h0 l0=>
    cases e1;obtain⟨u1,u2,rfl,r1,r2⟩:=Vals.two r;obtain rfl:u1=Value.ref a:=r1;obtain rfl:u2=Value.type n:=r2;obtain⟨its,_,⟨o,h1,h2,_⟩,_⟩:=I.tuple h0.sq;exact Rp VN I.va ⟨o,h1,h2⟩ (Bc (t:="tuple") (by decide) hn) (fun z=>nomatch z) fun tk=>⟨.bl _,H,I.tok tk,rfl,fin⟩
  ·rw[Qa hn] at ee;cases ee
noncomputable def k6(m:AM):AM:=fun δ h=>(m δ h).bind fun p=>match p.1 with
 | [d]=>(cR d p.2).map fun q=>(q.1,p.2)
 | _=>none
theorem mK(hg:Gl X x)(hm:X.mg x=none)(hv:bootBuiltins x=some (.type "list"))(ha:SA X [e] m)(hl:nX m 1)(hn:x≠"__name__":=by decide)(hdb:(x==("__debug__":Str))=false:=by ac_nf)(he:starEach [e] X.env=(false,eval e X.env)::starEach [] X.env:=by ac_nf)(hpl:(backTo pos (starEach [] X.env)).any (·.1)=false:=by ac_nf):gW X (.Call (.Name x p) [e] [] pos) (k6 m):=
 (kB xn hg hm hv ha hn hdb he hpl).imp fun σ H Q ⟨ρ,δ,h,d,h',R,S,e,k⟩=>by
  obtain⟨⟨ds,h1⟩,e1,e2⟩:=bL e;refine⟨ρ,δ,h,ds,h1,R,S,e1,fun vs ρ1 H1 T1 S1 r1=>?_⟩
  match ds,hl _ _ _ _ e1,e2,r1 with
  | [d],_,e2,r1=>
   obtain⟨⟨ys,w⟩,e3,e4⟩:=gu e2;cases e4;obtain⟨v,rfl,rd⟩:=rep1 r1;obtain⟨a,ws,rfl,hq,l2⟩:=qy S1 rd e3;exact⟨a,ws,rfl,hq,fun l hl=>k ρ1 H1 l ws T1 S1 hl l2⟩
noncomputable def uc(o i v:D)(h:MH):Option MH:=match o with
 | .ob n=>match h[n]? with
  | some (.lst xs)=>match i with
   | .int j=>(wN xs.length j).map fun p=>h.set n (.lst (xs.set p v))
   | _=>none
  | some (.dct kvs)=>(qk i).bind fun k=>if kvs.length < sizeLine then some (h.set n (.dct (putD kvs k v))) else none
  | none=>none
 | _=>none
noncomputable def ua(o i:EM):GM:=fun v δ h=>(o δ h).bind fun p=>(i δ p.2).bind fun q=>(uc p.1 q.1 v q.2).map fun h'=>(δ,h')
inductive IU(K:FR)(o i v:V)(H:Hp)(Q:Hp->Prop):Prop where
 | mk (ρ h a b c h'):cn K ρ h H->Rep K ρ H o a->Rep K ρ H i b->Rep K ρ H v c->(uc a b c h=some h')->(∀ρ' H',dz ρ H ρ' H'->cn K ρ' h' H'->Q H')->IU K o i v H Q
def OA(K:FR):V->V->V->Hp->(Hp->Prop)->Prop:=fun o i v H Q=>IU K o i v H Q
theorem GW(hu:X.A.units+64 < cLine):LJ X (OA X.K):=by
 intro pins s σ H o i v ov iv u Q I ro ri rv hh;obtain⟨ρ,h,a,b,c,h',S,ra,rb,rc,ee,k⟩:=hh;cases ra <;> first |(cases ee;done) | skip
 rename_i a n hn;unfold uc at ee;dsimp only at ee;cases q:h[n]? with
 | none=>rw[q] at ee;cases ee
 | some w=>
  rw[q] at ee;have x:=S.at_ n a w hn q;have ma:=P6 hn;cases w with
  | lst xs=>
   dsimp only at ee;cases rb <;> first |(cases ee;done) | skip
   rename_i j;obtain⟨p,e1,e2⟩:=gu ee;cases e2;obtain⟨vs,e3,l⟩:=x;have T:dz ρ H ρ (upd H a (.lst (vs.set p v))):=dz.wrote S ma;exact set_list pins s σ H _ _ v ov iv u Q I ro ri rv ⟨a,vs,j,p,rfl,rfl,e3,by rw[l.length];exact e1,k ρ _ T (S.wrote hn ⟨_,bh,(l.set rc p).mono T.toCh⟩)⟩
  | dct kvs=>
   dsimp only at ee;obtain⟨ky,e1,e2⟩:=bL ee
   by_cases z:kvs.length < sizeLine
   ·rw[P7 z] at e2;cases e2;obtain⟨us,e3,l⟩:=x;have ek:=kE rb e1;subst ek;obtain rfl:ov=Value.ref a:=ro;have T:dz ρ H ρ (upd H a (.dK (putK us ky v))):=dz.wrote S ma;exact CQ (by lia) I (Im.k e3 (by rw[l.length];exact z)) ri rv fun s' I'=>⟨_,I',k ρ _ T (S.wrote hn ⟨_,bh,(l.put rc).mono T.toCh⟩)⟩
   ·rw[Qa z] at e2;cases e2
theorem ot (hu:X.A.units+64 < cLine) (ho:SE X o mo) (hi:SE X i mi) (ha:∀v,assign (.Subscript o i pos) X.env v=(do
   let ov←holding [v] (eval o X.env);let iv←holding [v,ov] (eval i X.env)
   standAt pos
   holding [v,ov,iv] (setItem ov iv v)
   release [v,ov,iv] []):=by intro _;ac_nf):SG X (.Subscript o i pos) (ua mo mi):=
 (Kd ho hi (GW hu) ha).imp fun v σ H Q ⟨ρ,δ,h,d,δ',h',R,S,r,e,k⟩=>by
  obtain⟨⟨x,h1⟩,e1,e2⟩:=bL e;obtain⟨⟨y,h2⟩,e3,e4⟩:=bL e2;obtain⟨h3,e5,e6⟩:=gu e4;cases e6;exact⟨ρ,δ,h,x,h1,R,S,e1,fun ov H1 ⟨ρ1,T1,S1,r1⟩=>⟨ρ1,δ,h1,y,h2,R.mono T1,S1,e3,fun iv H2 ⟨ρ2,T2,S2,r2⟩=>
   ⟨ρ2,h2,x,y,d,_,S2,r1.mono T2,r2,r.mono (T1.trans T2).toCh,e5,fun ρ3 H3 T3 S3=>k ρ3 H3 σ (T1.trans (T2.trans T3)) S3 (R.mono (T1.trans (T2.trans T3)).toCh)⟩⟩⟩
abbrev F8:=D->List D->MH->Option (D×MH)
inductive Pl(K:FR)(f:F8)(x:V)(vs:List V)(H:Hp)(Q:VK):Prop where
 | mk (ρ h d ds z h'):cn K ρ h H->Rep K ρ H x d->aF K ρ H vs ds->(f d ds h=some (z,h'))->(∀v H',eL K ρ H h' z v H'->Q v H')->Pl K f x vs H Q
def rM(K:FR)(f:F8):V->List V->Hp->VK->Prop:=fun x vs H Q=>Pl K f x vs H Q
noncomputable def eM(isT:D->MH->Bool)(f:F8)(o:EM)(m:AM):EM:=fun δ h=>(o δ h).bind fun p=>if isT p.1 p.2 then(m δ p.2).bind fun q=>f p.1 q.1 q.2 else none
noncomputable def bU(d:D)(h:MH):Bool:=(fF d h).isSome
noncomputable def di:F8:=fun d ds h=>match d,ds with
 | .ob n,[y]=>match h[n]? with
  | some (.lst xs)=>if xs.length < sizeLine then some (.cC,h.set n (.lst (xs++[y]))) else none
  | _=>none
 | _,_=>none
noncomputable def fV:F8:=fun d ds h=>match d,ds with
 | .ob n,[y]=>match h[n]? with
  | some (.lst xs)=>(fF y h).bind fun zs=>if xs.length+zs.length≤sizeLine then some (.cC,h.set n (.lst (xs++zs))) else none
  | _=>none
 | _,_=>none
noncomputable def EG:F8:=fun d ds h=>match d,ds with
 | .ob n,[]=>match h[n]? with
  | some (.lst xs)=>(xs[xs.length-1]?).map fun y=>(y,h.set n (.lst xs.dropLast))
  | _=>none
 | _,_=>none
theorem eO{K:FR}{ρ:Ad}{H:Hp}{h:MH}{v:V}{d:D}(S:cn K ρ h H)(r:Rep K ρ H v d)(e:bU d h=true):LO K "list" v H:=by
 obtain⟨xs,e1⟩:=Vd.mp e;obtain⟨a,vs,rfl,ha,_⟩:=ej S r e1;exact .inl ⟨rfl,vs,gA.of ha⟩
theorem mL{T id:String}{name:Str}{o e:Expr}{es:List Expr}{apos cpos:Pos}{f:F8}{mo:EM}{m:AM}{isT:D->MH->Bool}(hT:∀{K:FR} {ρ:Ad} {H:Hp} {h:MH} {v:V} {d:D},cn K ρ h H->Rep K ρ H v d->isT d h=true->LO K T v H)
  (pa:PlainAttrs T) (slot:Slot T name id) (hty:typeOf (.builtin id)=pure (.type "method_descriptor")) (hm:Gh X id (rM X.K f)) (ho:SE X o mo) (ha:SA X (e::es) m)
  (hbase:attributeBase o name X.env (eval o X.env)=eval o X.env:=by ac_nf)
  (hfew:((backTo cpos (starEach (e::es) X.env)).all (fun x=>!x.1)&&(backToKw cpos (keywordEach [] X.env)).all (fun x=>x.1.isSome)
   &&decide ((e::es).length+([]:List Keyword).length+(if([]:List Keyword).isEmpty then 0 else 1) < 30))=true:=by ac_nf)
  (hline:(apos.endLine==cpos.line)=true:=by ac_nf) (hs:starEach (e::es) X.env=(false,eval e X.env)::starEach es X.env:=by ac_nf) (hplain:(backTo cpos (starEach es X.env)).any (·.1)=false:=by ac_nf):
  SE X (.Call (.Attribute o name apos) (e::es) [] cpos) (eM isT f mo m):=(MR pa slot hty hm ho ha hbase hfew hline hs hplain).imp fun σ H Q ⟨ρ,δ,h,d,h',R,S,e,k⟩=>by
 obtain⟨⟨x,h1⟩,e1,e2⟩:=bL e;dsimp only at e2
 by_cases c:isT x h1=true
 ·rw[P7 c] at e2;obtain⟨⟨ds,h2⟩,e3,e4⟩:=bL e2;exact⟨ρ,δ,h,x,h1,R,S,e1,fun v H1 ⟨ρ1,T1,S1,r1⟩=>⟨hT S1 r1 c,ρ1,δ,h1,ds,h2,R.mono T1,S1,e3,fun vs ρ2 H2 T2 S2 r2=>⟨ρ2,h2,x,ds,d,h',S2,r1.mono T2,r2,e4,fun w H3 p=>k w H3 (p.step (T1.trans T2))⟩⟩⟩
 ·rw[Qa c] at e2;cases e2
theorem Mt{T id:String}{name:Str}{o:Expr}{apos cpos:Pos}{f:F8}{mo:EM}{isT:D->MH->Bool}(hT:∀{K:FR} {ρ:Ad} {H:Hp} {h:MH} {v:V} {d:D},cn K ρ h H->Rep K ρ H v d->isT d h=true->LO K T v H)
  (pa:PlainAttrs T) (slot:Slot T name id) (hty:typeOf (.builtin id)=pure (.type "method_descriptor")) (hm:Gh X id (rM X.K f)) (ho:SE X o mo)
  (hbase:attributeBase o name X.env (eval o X.env)=eval o X.env:=by ac_nf) (hline:(apos.endLine==cpos.line)=true:=by ac_nf):
  SE X (.Call (.Attribute o name apos) [] [] cpos) (eM isT f mo ah):=(Kn pa slot hty hm ho hbase hline).imp fun σ H Q ⟨ρ,δ,h,d,h',R,S,e,k⟩=>by
 obtain⟨⟨x,h1⟩,e1,e2⟩:=bL e;dsimp only at e2
 by_cases c:isT x h1=true
 ·rw[P7 c] at e2;exact⟨ρ,δ,h,x,h1,R,S,e1,fun v H1 ⟨ρ1,T1,S1,r1⟩=>⟨hT S1 r1 c,ρ1,h1,x,[],d,h',S1,r1,.nil,e2,fun w H3 p=>k w H3 (p.step T1)⟩⟩
 ·rw[Qa c] at e2;cases e2
theorem wL{K:FR}{ρ:Ad}{H:Hp}{h:MH}{n:Nat}{xs:List D}{v:V}(S:cn K ρ h H)(r:Rep K ρ H v (.ob n))(q:h[n]?=some (.lst xs)):∃a vs,v=.ref a∧ρ.ob[n]?=some a∧H a=some (.lst vs)∧aF K ρ H vs xs:=by
 cases r with
 | ob hn=>obtain⟨vs,e,l⟩:=S.at_ n _ _ hn q;exact⟨_,vs,rfl,hn,e,l⟩
theorem dZ:Gh X "list.append" (rM X.K di):=by
 intro pins s σ H x xs v us Q I rx rs hh;obtain⟨ρ,h,d,ds,z,h',S,rd,l,ee,k⟩:=hh;cases d <;> first |(cases ee;done) | skip
 rename_i n
 match ds,l,ee with
 | [],_,ee=>cases ee
 | _::_::_,_,ee=>cases ee
 | [y],l,ee=>
  unfold di at ee;dsimp only at ee;cases q:h[n]? with
  | none=>rw[q] at ee;cases ee
  | some w=>
   rw[q] at ee;cases w with
   | dct _=>cases ee
   | lst ys=>
    dsimp only at ee
    by_cases c:ys.length < sizeLine
    ·rw[P7 c] at ee;cases ee;obtain⟨a,vs,rfl,hn,e1,l1⟩:=wL S rd q;obtain⟨u,rfl,ru⟩:=rep1 l;have T:dz ρ H ρ (upd H a (.lst (vs++[u]))):=dz.wrote S (P6 hn);exact uT pins s σ H _ _ v us Q I rx rs ⟨a,vs,u,rfl,rfl,e1,by rw[l1.length];exact c,k _ _ ⟨ρ,T,S.wrote hn ⟨_,bh,(l1.snoc ru).mono T.toCh⟩,.cC⟩⟩
    ·rw[Qa c] at ee;cases ee
theorem oX:Gh X "list.extend" (rM X.K fV):=by
 intro pins s σ H x xs v us Q I rx rs hh;obtain⟨ρ,h,d,ds,z,h',S,rd,l,ee,k⟩:=hh;cases d <;> first |(cases ee;done) | skip
 rename_i n
 match ds,l,ee with
 | [],_,ee=>cases ee
 | _::_::_,_,ee=>cases ee
 | [y],l,ee=>
  unfold fV at ee;dsimp only at ee;cases q:h[n]? with
  | none=>rw[q] at ee;cases ee
  | some w=>
   rw[q] at ee;cases w with
   | dct _=>cases ee
   | lst ys=>
    dsimp only at ee;obtain⟨zs,e2,e3⟩:=bL ee
    by_cases c:ys.length+zs.length≤sizeLine
    ·rw[P7 c] at e3;cases e3;obtain⟨a,vs,rfl,hn,e1,l1⟩:=wL S rd q;obtain⟨u,rfl,ru⟩:=rep1 l;obtain⟨b,ws,rfl,eb,l2⟩:=ej S ru e2;have T:dz ρ H ρ (upd H a (.lst (vs++ws))):=dz.wrote S (P6 hn);exact Ci pins s σ H _ _ v us Q I rx rs ⟨a,b,vs,ws,rfl,rfl,e1,eb,by rw[l1.length,l2.length];exact c,k _ _ ⟨ρ,T,S.wrote hn ⟨_,bh,(l1.append l2).mono T.toCh⟩,.cC⟩⟩
    ·rw[Qa c] at e3;cases e3
theorem KJ:Gh X "list.pop" (rM X.K EG):=by
 intro pins s σ H x xs v us Q I rx rs hh;obtain⟨ρ,h,d,ds,z,h',S,rd,l,ee,k⟩:=hh;cases d <;> first |(cases ee;done) | skip
 rename_i n
 match ds,l,ee with
 | _::_,_,ee=>cases ee
 | [],l,ee=>
  unfold EG at ee;dsimp only at ee;cases q:h[n]? with
  | none=>rw[q] at ee;cases ee
  | some w=>
   rw[q] at ee;cases w with
   | dct _=>cases ee
   | lst ys=>
    dsimp only at ee;obtain⟨y,e2,e3⟩:=gu ee;cases e3;obtain⟨a,vs,rfl,hn,e1,l1⟩:=wL S rd q;cases l;obtain⟨u,e4,r4⟩:=l1.got e2;have T:dz ρ H ρ (upd H a (.lst vs.dropLast)):=dz.wrote S (P6 hn);exact KH pins s σ H _ _ v us Q I rx rs ⟨a,vs,u,rfl,rfl,e1,by rw[l1.length];exact e4,k _ _ ⟨ρ,T,S.wrote hn ⟨_,bh,l1.dropLast.mono T.toCh⟩,r4.mono T.toCh⟩⟩
end Sm
namespace Sb
open PySem L2 PySem.Spec PyProof.Rows
open Builtin.SmallTypes (nextOf ownedTupleIsFree ownedTupleHandOut)
noncomputable def kn:Bool->String
 | true=>"list_iterator"
 | false=>"tuple_iterator"
def At(b:Bool)(h:Heap)(j l:Addr)(i:Nat):Prop:=∃o,h.get? j=some o∧o.cls=.type (kn b)∧o.data=.fields #[.ref l,.int i 0]
def Of(b:Bool)(h:Heap)(l:Addr)(items:Array Value):Prop:=match b with
 | true=>h.IsList l items
 | false=>h.IsTuple l items
theorem At.up(x:At b h j l i)(k:∀o,h.get? j=some o->h'.get? j=some o):At b h' j l i:=let⟨o,e,r⟩:=x;⟨o,k o e,r⟩
theorem At.lt(x:At b h j l i):j < h.objs.size:=let⟨_,e,_⟩:=x;Qf e
theorem Of.data(x:Of b h l items):∃o n,h.get? l=some o∧o.data=.seq items n:=by
 cases b with
 | true=>obtain⟨o,e,_,n,d⟩:=(show h.IsList l items from x);exact⟨o,n,e,d⟩
 | false=>obtain⟨o,e,_,n,d⟩:=(show h.IsTuple l items from x);exact⟨o,n,e,d⟩
theorem Of.up(x:Of b h l items)(k:∀o,h.get? l=some o->h'.get? l=some o):Of b h' l items:=by
 cases b with
 | true=>obtain⟨o,e,r⟩:=(show h.IsList l items from x);exact⟨o,k o e,r⟩
 | false=>obtain⟨o,e,r⟩:=(show h.IsTuple l items from x);exact⟨o,k o e,r⟩
theorem Bb(hj:At b s.heap j l i)(hl:Of b s.heap l items)(hx:items[i]?=some x)(k:∀h',At b h' j l (i+1)->Heap.SameBut j s.heap h'->Q x {s with heap:=h'}):wpAny (model P w) A (nextOf (.ref j)) Q E s:=by
 cases b with
 | true=>exact wpAny_nextOf_list_item (show s.heap.IsListIter j l i from hj) (show s.heap.IsList l items from hl) hx k
 | false=>
  have hj':s.heap.IsTupleIter j l i:=hj;obtain⟨o,eo,ec,ed⟩:=hj';obtain⟨ol,el,_,nl,edl⟩:=(show s.heap.IsTuple l items from hl);unfold nextOf;refine PZ (Q2 (name:=Str.ofString "__next__") (show s.TypeIs (.ref j) "tuple_iterator" from⟨o,eo,ec⟩) SH
   (Q0 SH (show s.TypeIs (.ref j) "tuple_iterator" from⟨o,eo,ec⟩) Vu ?_ (Vm _)))
  show wpAny _ _ (field (.ref j) 0 >>=_) _ _ s;refine PZ (Q8 eo ed (x:=.ref l) rfl ?_);show wpAny _ _ (if(Value.ref l==Value.none)=true then _ else _) _ _ s;rw[Qa (show ¬((Value.ref l==Value.none)=true) by exact QZ)];show wpAny _ _ (field (.ref j) 1 >>=_) _ _ s;refine PZ (Q8 eo ed (x:=.int i 0) rfl ?_);show wpAny _ _ (seqItems? (.ref l) >>=_) _ _ s;refine PZ (Rr el edl ?_);simp only[Qp,hx];refine PZ (VB eo ed (by simp) (P5 ⟨x,rfl,P5 (k _ ?_ (Tx ..))⟩));exact⟨_,Rx _ eo (Obj.isFreed_of_fields (TZ ed _)),(Obj.cls_mapFields ..).trans ec,by rw[TZ ed];simp[rawInt]⟩
theorem EC(hh:A.handled=none)(hj:At b s.heap j l i)(hl:Of b s.heap l items)(hx:items[i]?=none)(k:∀h' e,Heap.ExtBut j s.heap h'->(∃o,h'.get? e=some o∧o.cls=.type "StopIteration")->E (.ref e) {s with heap:=h'}):wpAny (model P w) A (nextOf (.ref j)) Q E s:=by
 cases b with
 | true=>exact wpAny_nextOf_list_end hh (show s.heap.IsListIter j l i from hj) (show s.heap.IsList l items from hl) hx k
 | false=>
  have hj':s.heap.IsTupleIter j l i:=hj;obtain⟨o,eo,ec,ed⟩:=hj';obtain⟨ol,el,_,nl,edl⟩:=(show s.heap.IsTuple l items from hl);unfold nextOf;refine PZ (Q2 (name:=Str.ofString "__next__") (show s.TypeIs (.ref j) "tuple_iterator" from⟨o,eo,ec⟩) SH
   (Q0 SH (show s.TypeIs (.ref j) "tuple_iterator" from⟨o,eo,ec⟩) Vu ?_ (Vm _)))
  show wpAny _ _ (field (.ref j) 0 >>=_) _ _ s;refine PZ (Q8 eo ed (x:=.ref l) rfl ?_);show wpAny _ _ (if(Value.ref l==Value.none)=true then _ else _) _ _ s;rw[Qa (show ¬((Value.ref l==Value.none)=true) by exact QZ)];show wpAny _ _ (field (.ref j) 1 >>=_) _ _ s;refine PZ (Q8 eo ed (x:=.int i 0) rfl ?_);show wpAny _ _ (seqItems? (.ref l) >>=_) _ _ s;refine PZ (Rr el edl ?_);simp only[Qp,hx];refine PZ (RA (PZ (VB eo ed (by simp) ?_)));show wpAny _ _ (newExc (.type "StopIteration") [] >>=_) _ _ _;refine PZ ?_;simp only[newExc,newTuple];refine PZ (Q1 ?_ (by size_fits));refine PZ (m:=firstArgMember _ _) (wpAny_of_eq (a:=Value.none) (by first |(simp only[firstArgMember];rfl) | rfl) ?_);refine Q1 ?_ (by size_fits);simp only[raiseNew];refine PZ (wpAny_handled ?_)
  first | rw[hh] | rw[show A.in1.handled=none from hh]
  refine PZ (P5 (wpAny_throw (k _ _ (((Tx ..).extBut.push _).push _) ⟨_,Qg _ rfl,rfl⟩)))
open Builtin.SmallTypes (nextOf ownedTupleIsFree ownedTupleHandOut)
variable {P:Program} {w:World} {A:Around} {E:Value->Shared->Prop} {s:Shared} {b c:Bool}
theorem EO(x:Of b s.heap l items)(k:Q (.ref s.heap.objs.size) {s with heap:=s.heap.push {cls:=.type (kn b),data:=.fields #[.ref l,.int 0 0]}}):wpAny (model P w) A (pyIter (.ref l)) Q E s:=by
 cases b with
 | true=>exact Tc (show s.heap.IsList l items from x) k
 | false=>exact Ss (show s.heap.IsTuple l items from x) k
theorem CP{e j l:Addr}{i:Nat}{items:Array Value}{x old:Value}{Q:Option Value->Shared->Prop}(hE:IsEnum s.heap e j i old)(hj:At b s.heap j l i)(hl:Of b s.heap l items)(hx:items[i]?=some x)(ne:e≠j)
  (k:∀h',IsEnumOut h' e j ((i:Int)+1) x s.heap.objs.size->At b h' j l (i+1)->h'.get? s.heap.objs.size=some {cls:=.type "tuple",data:=.seq #[.int i s.toks,x]}->h'.objs.size=s.heap.objs.size+1->
   (∀a o,a≠e->a≠j->s.heap.get? a=some o->h'.get? a=some o)->Q (some (.ref s.heap.objs.size)) {s with heap:=h',toks:=s.toks+1}):wpAny (model P w) A (pyNext (.ref e)) Q E s:=by
 have hT:s.TypeIs (.ref e) "enumerate":=⟨_,hE,rfl⟩;unfold pyNext;refine PZ (Tt (Q2 (name:=Str.ofString "__next__") hT Sy (Q0 Sy hT F.entry_enumerate_next ?_ (VU _))));obtain⟨hp,g,d,tk,os⟩:=s;show wpAny _ _ (field (.ref e) 2 >>=_) _ _ _;refine PZ (Q8 hE rfl (x:=.ref j) rfl (PZ (Bb hj hl hx fun k₁ j₁ t₁=>?_)));replace t₁:Heap.SameBut j hp k₁:=t₁;have E₁:IsEnum k₁ e j i old:=(t₁.2 e ne).trans hE;show wpAny _ _ (field (.ref e) 3 >>=_) _ _ ⟨k₁,g,d,tk,os⟩;refine PZ (Q8 E₁ rfl (x:=rawInt i) rfl ?_);show wpAny _ _ (field (.ref e) 4 >>=_) _ _ ⟨k₁,g,d,tk,os⟩;refine PZ (Q8 E₁ rfl (x:=.none) rfl ?_);show wpAny _ _ (mkInt i >>=_) _ _ ⟨k₁,g,d,tk,os⟩;refine PZ (wpAny_mkInt ?_);show wpAny _ _ (setField (.ref e) 3 (rawInt ((i:Int)+1)) >>=_) _ _ ⟨k₁,g,d,tk+1,os⟩;refine PZ (wpAny_setField_rec E₁ (by simp) fun k₂ E₂ t₂=>?_);replace t₂:Heap.SameBut e k₁ k₂:=t₂;replace E₂:IsEnum k₂ e j ((i:Int)+1) old:=E₂;show wpAny _ _ (setField (.ref e) 4 .none >>=_) _ _ ⟨k₂,g,d,tk+1,os⟩;refine PZ (wpAny_setField_rec E₂ (by simp) fun k₃ E₃ t₃=>?_);replace t₃:Heap.SameBut e k₂ k₃:=t₃;replace E₃:IsEnum k₃ e j ((i:Int)+1) old:=E₃;show wpAny _ _ (newTuple [.int i tk,x] >>=_) _ _ ⟨k₃,g,d,tk+1,os⟩;refine PZ (VD ?_);have E₄:IsEnum (k₃.push {cls:=.type "tuple",data:=.seq #[.int i tk,x]}) e j ((i:Int)+1) old:=P2 _ E₃;generalize eq₄:k₃.push {cls:=.type "tuple",data:=.seq #[.int i tk,x]}=k₄ at E₄;have sz:k₃.objs.size=hp.objs.size:=by rw[t₃.1,t₂.1,t₁.1]
 have lte:e < hp.objs.size:=Qf hE;have tp:k₄.get? hp.objs.size=some {cls:=.type "tuple",data:=.seq #[.int i tk,x]}:=by rw[←eq₄,←sz];exact Qg _ rfl
 have sz₄:k₄.objs.size=hp.objs.size+1:=by rw[←eq₄,QJ,sz]
 have up₄:∀a o,a≠e->a≠j->hp.get? a=some o->k₄.get? a=some o:=fun a o z1 z2 q=>by
  rw[←eq₄];exact P2 _ (t₃.extBut a o z1 (t₂.extBut a o z1 (t₁.extBut a o z2 q)))
 have j₄:At b k₄ j l (i+1):=j₁.up fun o q=>by rw[←eq₄];exact P2 _ (t₃.extBut j o (Ru ne) (t₂.extBut j o (Ru ne) q))
 show wpAny _ _ (ownedTupleIsFree (.ref e) >>=_) _ _ ⟨k₄,g,d,tk+1,os⟩;rw[sz];clear eq₄ E₃ t₃ E₂ t₂ E₁ t₁ j₁ sz k₃ k₂ k₁;refine PZ ?_;unfold ownedTupleIsFree;refine PZ (Q8 E₄ rfl (x:=.none) rfl (P5 ?_));simp only[SR];refine PZ (RA (PZ (Q8 E₄ rfl (x:=old) rfl (PZ (wpAny_setField_rec E₄ (by simp) fun k₅ E₅ t₅=>?_)))));replace t₅:Heap.SameBut e k₄ k₅:=t₅;replace E₅:IsEnum k₅ e j ((i:Int)+1) x:=E₅;show wpAny _ _ (ownedTupleHandOut (.ref e) (.ref hp.objs.size) >>=_) _ _ ⟨k₅,g,d,tk+1,os⟩;refine PZ ?_;unfold ownedTupleHandOut;refine PZ (wpAny_setField_rec E₅ (by simp) fun k₆ E₆ t₆=>?_);replace t₆:Heap.SameBut e k₅ k₆:=t₆;replace E₆:IsEnumOut k₆ e j ((i:Int)+1) x hp.objs.size:=E₆;refine wpAny_setField_rec E₆ (by simp) fun k₇ E₇ t₇=>?_;replace t₇:Heap.SameBut e k₆ k₇:=t₇;replace E₇:IsEnumOut k₇ e j ((i:Int)+1) x hp.objs.size:=E₇;have up:∀a o,a≠e->k₄.get? a=some o->k₇.get? a=some o:=fun a o z q=>t₇.extBut a o z (t₆.extBut a o z (t₅.extBut a o z q));refine PZ (Ul (P5 ⟨_,rfl,P5 (k k₇ E₇ (j₄.up fun o q=>up j o (Ru ne) q) (up _ _ (Tr lte) tp) ?_ fun a o z1 z2 q=>up a o z1 (up₄ a o z1 z2 q))⟩));rw[t₇.1,t₆.1,t₅.1,sz₄]
theorem Fh{e j l:Addr}{i:Nat}{items:Array Value}{old:Value}{Q:Option Value->Shared->Prop}(hh:A.handled=none)(hE:IsEnum s.heap e j i old)(hj:At b s.heap j l i)(hl:Of b s.heap l items)(hx:items[i]?=none)
  (k:∀h',Heap.ExtBut j s.heap h'->Q none {s with heap:=h'}):wpAny (model P w) A (pyNext (.ref e)) Q E s:=by
 have hT:s.TypeIs (.ref e) "enumerate":=⟨_,hE,rfl⟩;unfold pyNext;refine PZ (Tt (Q2 (name:=Str.ofString "__next__") hT Sy (Q0 Sy hT F.entry_enumerate_next ?_ (VU _))));show wpAny _ _ (field (.ref e) 2 >>=_) _ _ _;refine PZ (Q8 hE rfl (x:=.ref j) rfl (PZ (EC hh hj hl hx fun h' y he' ⟨o,ho,hc⟩=>?_)));exact PZ (Si (T:="StopIteration") (b:=true) ⟨o,ho,hc⟩ TX (P5 (k _ he')))
theorem CO(x:Of b s.heap l items)(k:∀h',IsEnum h' (s.heap.objs.size+1) s.heap.objs.size 0 .none->At b h' s.heap.objs.size l 0->h'.objs.size=s.heap.objs.size+2->(∀a o,s.heap.get? a=some o->h'.get? a=some o)->Q (.ref (s.heap.objs.size+1)) {s with heap:=h'}):
  wpAny (model P w) A (call (.type "enumerate") [.ref l]) Q E s:=by
 cases b with
 | true=>exact call_enumerate_list (show s.heap.IsList l items from x) k
 | false=>
  have mt:PySem.Meets (Builtin.«enumerate.__new__» ⟨[.type "enumerate",.ref l],[]⟩) (fun _ R s=>s.heap.IsTuple l items∧
    R (.ok (.ret (.ref (s.heap.push {cls:=.type "tuple_iterator",data:=.fields #[.ref l,.int 0 0]}).objs.size)))
     {s with heap:=(s.heap.push {cls:=.type "tuple_iterator",data:=.fields #[.ref l,.int 0 0]}).push {cls:=.type "enumerate",data:=.fields #[.none,.bool false,.ref s.heap.objs.size,rawInt 0,.none,.none]}}):=
   .of_wp fun prog w A R s h=>by
    obtain⟨hp,g,d,tk,os⟩:=s;obtain⟨hl,h⟩:=h;have sub:=sub_enumerate;have hL:Heap.IsTuple (Shared.heap ⟨hp,g,d,tk,os⟩) l items:=hl;obtain⟨o0,e0,c0,n0,d0⟩:=id hL
    wp_walk
    refine wpAny_stack_any fun st=>P5 ?_
    split
    ·rename_i c _ _ _ _ _;cases(c==Value.type "enumerate")
     ·wp_walk using Ss hL
      exact⟨_,rfl,h⟩
     ·wp_walk using Ss hL
      exact⟨_,rfl,h⟩
    ·wp_walk using Ss hL
     exact⟨_,rfl,h⟩
  refine callType_new F.called_enumerate (by decide) (F.typeCall_enumerate_1 _) (F.newCall_enumerate_1 _) (fun obj=>F.args_object_init_2 obj _) F.entry_enumerate_new mt ⟨x,?_⟩;have z1:(s.heap.push {cls:=.type "tuple_iterator",data:=.fields #[.ref l,.int 0 0]}).objs.size=s.heap.objs.size+1:=QJ ..;show _∧_;rw[z1];have eE:IsEnum ((s.heap.push {cls:=.type "tuple_iterator",data:=.fields #[.ref l,.int 0 0]}).push
    {cls:=.type "enumerate",data:=.fields #[.none,.bool false,.ref s.heap.objs.size,rawInt 0,.none,.none]}) (s.heap.objs.size+1) s.heap.objs.size 0 .none:=by
   have q:=Qg (s.heap.push {cls:=.type "tuple_iterator",data:=.fields #[.ref l,.int 0 0]}) (o:={cls:=.type "enumerate",data:=.fields #[.none,.bool false,.ref s.heap.objs.size,rawInt 0,.none,.none]}) rfl;rw[z1] at q;exact q
  refine⟨⟨_,eE,rfl⟩,k _ eE ⟨_,P2 _ (Qg _ rfl),rfl,rfl⟩ (by rw[QJ,z1]) fun a o q=>P2 _ (P2 _ q)⟩
end Sb
namespace Sb
open PySem L2 PySem.Spec PyProof.Rows
open Builtin.SmallTypes (nextOf ownedTupleIsFree ownedTupleHandOut)
structure Zp(z T U p q l m:Addr):Prop where
 Tz:T≠z
 Uz:U≠z
 pz:p≠z
 qz:q≠z
 TU:T≠U
 Tp:T≠p
 Tq:T≠q
 Up:U≠p
 Uq:U≠q
 pq:p≠q
 lz:l≠z
 lU:l≠U
 lp:l≠p
 lq:l≠q
 mz:m≠z
 mU:m≠U
 mp:m≠p
 mq:m≠q
theorem Dr (D:Zp z T U p q l m) (hz:IsZip s.heap z T U .none) (hT:IsPair s.heap T (.ref p) (.ref q)) (hU:IsPair s.heap U u v) (h1:At b s.heap p l i) (h2:At c s.heap q m i) (hl:Of b s.heap l xs) (hm:Of c s.heap m ys) (hx:xs[i]?=some x) (hy:ys[i]?=some y) (k:∀h',IsZip h' z T U (rawInt s.heap.objs.size)->IsPair h' U x y->At b h' p l (i+1)->At c h' q m (i+1)->IsPair h' s.heap.objs.size x y->h'.objs.size=s.heap.objs.size+1->
   (∀a o,a≠z->a≠U->a≠p->a≠q->s.heap.get? a=some o->h'.get? a=some o)->Q (some (.ref s.heap.objs.size)) {s with heap:=h'}):wpAny (model P w) A (pyNext (.ref z)) Q E s:=by
 have ty:s.TypeIs (.ref z) "zip":=⟨_,hz,rfl⟩;unfold pyNext;refine PZ (Tt (Q2 (name:=Str.ofString "__next__") ty UB (Q0 UB ty F.entry_zip_next ?_ (F.args_zip_next_1 _))));show wpAny _ _ (field (.ref z) 2 >>=_) _ _ _;refine PZ (Q8 hz rfl (x:=.bool false) rfl ?_);show wpAny _ _ (field (.ref z) 3 >>=_) _ _ _;refine PZ (Q8 hz rfl (x:=.ref T) rfl (PZ (Rr hT rfl ?_)));show wpAny _ _ (ownedTupleIsFree (.ref z) >>=_) _ _ _;refine PZ ?_;unfold ownedTupleIsFree;refine PZ (Q8 hz rfl (x:=.none) rfl (P5 ?_));simp only[SR];refine PZ (RA (PZ (Q8 hz rfl (x:=.ref U) rfl (PZ (wpAny_setField_rec hz (by simp) fun k₁ z₁ t₁=>?_)))));replace z₁:IsZip k₁ z T U .ellipsis:=z₁;refine PZ ?_;simp only[List.zipIdx_cons,List.zipIdx_nil,UZ,List.forIn_nil];refine PZ (PZ (UW ?_));show wpAny _ _ (nextOf (.ref p) >>=_) _ _ _;refine PZ (Bb (h1.up fun o e=>t₁.extBut _ o D.pz e) (hl.up fun o e=>t₁.extBut _ o D.lz e) hx fun k₂ p₂ t₂=>P5 ?_);have U₂:IsPair k₂ U u v:=t₂.extBut _ _ D.Up (t₁.extBut _ _ D.Uz hU);refine PZ (Rr U₂ rfl (PZ (UL U₂ fun k₃ U₃ t₃=>PZ (Ul (P5 ?_)))));replace U₃:IsPair k₃ U x v:=U₃;refine PZ (PZ (UW ?_));show wpAny _ _ (nextOf (.ref q) >>=_) _ _ _;refine PZ (Bb (h2.up fun o e=>t₃.extBut _ o D.Uq.symm (t₂.extBut _ o D.pq.symm (t₁.extBut _ o D.qz e))) (hm.up fun o e=>t₃.extBut _ o D.mU (t₂.extBut _ o D.mp (t₁.extBut _ o D.mz e))) hy fun k₄ q₄ t₄=>P5 ?_);have U₄:IsPair k₄ U x v:=t₄.extBut _ _ D.Uq U₃;refine PZ (Rr U₄ rfl (PZ (UL U₄ fun k₅ U₅ t₅=>PZ (Ul (P5 (P5 ?_))))));replace U₅:IsPair k₅ U x y:=U₅;refine PZ (Rr U₅ rfl (PZ (VD ?_)));have sz:k₅.objs.size=s.heap.objs.size:=by rw[t₅.1,t₄.1,t₃.1,t₂.1,t₁.1]
 have z₅:IsZip k₅ z T U .ellipsis:=t₅.extBut _ _ D.Uz.symm (t₄.extBut _ _ D.qz.symm (t₃.extBut _ _ D.Uz.symm (t₂.extBut _ _ D.pz.symm z₁)));have up₅:∀a o,a≠z->a≠U->a≠p->a≠q->s.heap.get? a=some o->k₅.get? a=some o:=fun a o a1 a2 a3 a4 e=>t₅.extBut _ _ a2 (t₄.extBut _ _ a4 (t₃.extBut _ _ a2 (t₂.extBut _ _ a3 (t₁.extBut _ _ a1 e))));have p₅:At b k₅ p l (i+1):=p₂.up fun o e=>t₅.extBut _ o D.Up.symm (t₄.extBut _ o D.pq (t₃.extBut _ o D.Up.symm e));have q₅:At c k₅ q m (i+1):=q₄.up fun o e=>t₅.extBut _ o D.Uq.symm e;have zlt:z < k₅.objs.size:=Qf z₅;show wpAny _ _ (ownedTupleHandOut (.ref z) (.ref k₅.objs.size) >>=_) _ _ _;refine PZ ?_;unfold ownedTupleHandOut;have z₆:IsZip (k₅.push {cls:=.type "tuple",data:=.seq #[x,y]}) z T U .ellipsis:=P2 _ z₅;refine PZ (wpAny_setField_rec z₆ (by simp) fun k₇ z₇ t₇=>?_);replace z₇:IsZip k₇ z T U (rawInt k₅.objs.size):=z₇;refine wpAny_setField_rec z₇ (by simp) fun k₈ z₈ t₈=>?_;replace z₈:IsZip k₈ z T U (rawInt k₅.objs.size):=z₈;have up:∀a o,a≠z->k₅.get? a=some o->k₈.get? a=some o:=fun a o a1 e=>t₈.extBut _ _ a1 (t₇.extBut _ _ a1 (P2 _ e));have T₈:IsPair k₈ k₅.objs.size x y:=t₈.extBut _ _ (Tr zlt) (t₇.extBut _ _ (Tr zlt) (Qg _ rfl));have s8:k₈.objs.size=k₅.objs.size+1:=by rw[t₈.1,t₇.1,QJ]
 rw[sz] at z₈ T₈ s8;refine P5 ⟨_,rfl,P5 ?_⟩;show Q (some (.ref k₅.objs.size)) _;rw[sz];exact k k₈ z₈ (up _ _ D.Uz U₅) (p₅.up fun o e=>up _ o D.pz e) (q₅.up fun o e=>up _ o D.qz e) T₈ s8 fun a o a1 a2 a3 a4 e=>up a o a1 (up₅ a o a1 a2 a3 a4 e)
theorem Gk(hh:A.handled=none)(D:Zp z T U p q l m)(hz:IsZip s.heap z T U .none)(hT:IsPair s.heap T (.ref p) (.ref q))(hU:IsPair s.heap U u v)(h1:At b s.heap p l i)(h2:At c s.heap q m i)(hl:Of b s.heap l xs)(hm:Of c s.heap m ys)(he:xs[i]?=none∨ys[i]?=none)(k:∀h',(∀a o,a≠z->a≠U->a≠p->a≠q->s.heap.get? a=some o->h'.get? a=some o)->Q none {s with heap:=h'}):wpAny (model P w) A (pyNext (.ref z)) Q E s:=by
 have ty:s.TypeIs (.ref z) "zip":=⟨_,hz,rfl⟩;unfold pyNext;refine PZ (Tt (Q2 (name:=Str.ofString "__next__") ty UB (Q0 UB ty F.entry_zip_next ?_ (F.args_zip_next_1 _))));have fin:∀h' e,(∀a o,a≠z->a≠U->a≠p->a≠q->s.heap.get? a=some o->h'.get? a=some o)->(∃o,h'.get? e=some o∧o.cls=.type "StopIteration")->
   (fun e s'=>wpAny (model P w) A (isInstance e (.type "StopIteration")) (fun r s''=>(if r=true then Q none s'' else E e s'')) E s') (.ref e) {s with heap:=h'}:=fun h' e up ⟨o,ho,hc⟩=>
  Si (T:="StopIteration") (b:=true) ⟨o,ho,hc⟩ TX (by rw[P7 rfl];exact k h' up)
 show wpAny _ _ (field (.ref z) 2 >>=_) _ _ _;refine PZ (Q8 hz rfl (x:=.bool false) rfl ?_);show wpAny _ _ (field (.ref z) 3 >>=_) _ _ _;refine PZ (Q8 hz rfl (x:=.ref T) rfl (PZ (Rr hT rfl ?_)));show wpAny _ _ (ownedTupleIsFree (.ref z) >>=_) _ _ _;refine PZ ?_;unfold ownedTupleIsFree;refine PZ (Q8 hz rfl (x:=.none) rfl (P5 ?_));simp only[SR];refine PZ (RA (PZ (Q8 hz rfl (x:=.ref U) rfl (PZ (wpAny_setField_rec hz (by simp) fun k₁ z₁ t₁=>?_)))));replace z₁:IsZip k₁ z T U .ellipsis:=z₁;refine PZ ?_;simp only[List.zipIdx_cons,List.zipIdx_nil,UZ,List.forIn_nil];refine PZ (PZ (UW ?_));show wpAny _ _ (nextOf (.ref p) >>=_) _ _ _;cases ex:xs[i]? with
 | none=>
  refine PZ (EC hh (h1.up fun o e=>t₁.extBut _ o D.pz e) (hl.up fun o e=>t₁.extBut _ o D.lz e) ex fun k₂ e t₂ ⟨oe,hoe,hce⟩=>?_);have z₂:IsZip k₂ z T U .ellipsis:=t₂ _ _ D.pz.symm z₁;have ez:e≠z:=fun r=>by subst r;rw[z₂] at hoe;cases hoe;simp at hce
  refine wpAny_setField_rec z₂ (by simp) fun k₃ _ t₃=>?_;refine PZ (Si (T:="StopIteration") (b:=true) ⟨oe,t₃.extBut _ _ ez hoe,hce⟩ TX (P5 (k _ fun a o a1 _ a3 _ r=>t₃.extBut _ _ a1 (t₂ _ _ a3 (t₁.extBut _ _ a1 r)))))
 | some x=>
  have ey:ys[i]?=none:=by rcases he with r | r;rw[ex] at r;cases r;exact r
  refine PZ (Bb (h1.up fun o e=>t₁.extBut _ o D.pz e) (hl.up fun o e=>t₁.extBut _ o D.lz e) ex fun k₂ p₂ t₂=>P5 ?_);have U₂:IsPair k₂ U u v:=t₂.extBut _ _ D.Up (t₁.extBut _ _ D.Uz hU);refine PZ (Rr U₂ rfl (PZ (UL U₂ fun k₃ U₃ t₃=>PZ (Ul (P5 ?_)))));refine PZ (PZ (UW ?_));show wpAny _ _ (nextOf (.ref q) >>=_) _ _ _;refine PZ (EC hh (h2.up fun o e=>t₃.extBut _ o D.Uq.symm (t₂.extBut _ o D.pq.symm (t₁.extBut _ o D.qz e))) (hm.up fun o e=>t₃.extBut _ o D.mU (t₂.extBut _ o D.mp (t₁.extBut _ o D.mz e))) ey fun k₄ e t₄ ⟨oe,hoe,hce⟩=>?_);have z₄:IsZip k₄ z T U .ellipsis:=t₄ _ _ D.qz.symm (t₃.extBut _ _ D.Uz.symm (t₂.extBut _ _ D.pz.symm z₁));have ez:e≠z:=fun r=>by subst r;rw[z₄] at hoe;cases hoe;simp at hce
  refine wpAny_setField_rec z₄ (by simp) fun k₅ _ t₅=>?_;refine PZ (Si (T:="StopIteration") (b:=true) ⟨oe,t₅.extBut _ _ ez hoe,hce⟩ TX (P5 (k _ fun a o a1 a2 a3 a4 r=>t₅.extBut _ _ a1 (t₄ _ _ a4 (t₃.extBut _ _ a2 (t₂.extBut _ _ a3 (t₁.extBut _ _ a1 r)))))))
abbrev g1(b:Bool)(h:Heap)(l:Addr):Heap:=h.push {cls:=.type (kn b),data:=.fields #[.ref l,.int 0 0]}
abbrev g2(b c:Bool)(h:Heap)(l m:Addr):Heap:=(g1 b h l).push {cls:=.type (kn c),data:=.fields #[.ref m,.int 0 0]}
abbrev g3(b c:Bool)(h:Heap)(l m:Addr):Heap:=(g2 b c h l m).push {cls:=.type "tuple",data:=.seq #[.ref h.objs.size,.ref (g1 b h l).objs.size]}
abbrev g4(b c:Bool)(h:Heap)(l m:Addr):Heap:=(g3 b c h l m).push {cls:=.type "tuple",data:=.seq #[.none,.none]}
abbrev g5(b c:Bool)(h:Heap)(l m:Addr):Heap:=(g4 b c h l m).push {cls:=.type "zip",data:=.fields #[.none,.bool false,.bool false,.ref (g2 b c h l m).objs.size,.ref (g3 b c h l m).objs.size]}
theorem Gj(b c:Bool)(l m:Addr)(xs ys:Array Value):PySem.Meets (Builtin.«zip.__new__» ⟨[.type "zip",.ref l,.ref m],[]⟩) (fun _ R s=>Of b s.heap l xs∧Of c s.heap m ys∧R (.ok (.ret (.ref (g4 b c s.heap l m).objs.size))) {s with heap:=g5 b c s.heap l m}):=
 .of_wp fun prog w A R s h=>by
  obtain⟨hp,g,d,tk,os⟩:=s;obtain⟨hl,hm,h⟩:=h;have sub:=sub_zip;have L1:Of b (Shared.heap ⟨hp,g,d,tk,os⟩) l xs:=hl;have L2:Of c (Shared.heap ⟨hp.push {cls:=.type (kn b),data:=.fields #[.ref l,.int 0 0]},g,d,tk,os⟩) m ys:=hm.up fun o e=>P2 _ e
  wp_walk using EO L1,EO L2
  exact⟨_,rfl,h⟩
theorem Dq (hl:Of b s.heap l xs) (hm:Of c s.heap m ys) (k:∀h',IsZip h' (s.heap.objs.size+4) (s.heap.objs.size+2) (s.heap.objs.size+3) .none->IsPair h' (s.heap.objs.size+2) (.ref s.heap.objs.size) (.ref (s.heap.objs.size+1))->IsPair h' (s.heap.objs.size+3) .none .none->
   At b h' s.heap.objs.size l 0->At c h' (s.heap.objs.size+1) m 0->h'.objs.size=s.heap.objs.size+5->(∀a o,s.heap.get? a=some o->h'.get? a=some o)->Q (.ref (s.heap.objs.size+4)) {s with heap:=h'}):
  wpAny (model P w) A (call (.type "zip") [.ref l,.ref m]) Q E s:=by
 refine callType_new F.called_zip (by decide) (F.typeCall_zip_2 _ _) (F.newCall_zip_2 _ _) (fun obj=>F.args_object_init_3 obj _ _) F.entry_zip_new (Gj b c l m xs ys) ⟨hl,hm,?_⟩;have z1:(g1 b s.heap l).objs.size=s.heap.objs.size+1:=QJ ..;have z2:(g2 b c s.heap l m).objs.size=s.heap.objs.size+2:=by rw[QJ,z1]
 have z3:(g3 b c s.heap l m).objs.size=s.heap.objs.size+3:=by rw[QJ,z2]
 have z4:(g4 b c s.heap l m).objs.size=s.heap.objs.size+4:=by rw[QJ,z3]
 have z5:(g5 b c s.heap l m).objs.size=s.heap.objs.size+5:=by rw[QJ,z4]
 have e5:(g5 b c s.heap l m).get? (g4 b c s.heap l m).objs.size=some _:=Qg _ rfl;have e4:(g5 b c s.heap l m).get? (g3 b c s.heap l m).objs.size=some _:=P2 _ (Qg _ rfl);have e3:(g5 b c s.heap l m).get? (g2 b c s.heap l m).objs.size=some _:=P2 _ (P2 _ (Qg _ rfl));have e2:(g5 b c s.heap l m).get? (g1 b s.heap l).objs.size=some _:=P2 _ (P2 _ (P2 _ (Qg _ rfl)));have e1:(g5 b c s.heap l m).get? s.heap.objs.size=some _:=P2 _ (P2 _ (P2 _ (P2 _ (Qg _ rfl))));show _∧_;rw[z2,z3,z4] at e5;rw[z1,z2] at e3;rw[z3] at e4;rw[z1] at e2;rw[z4];exact⟨⟨_,e5,rfl⟩,k _ e5 e3 e4 ⟨_,e1,rfl,rfl⟩ ⟨_,e2,rfl,rfl⟩ z5 fun a o x=>P2 _ (P2 _ (P2 _ (P2 _ (P2 _ x))))⟩
section
variable {X:Cx} {pins:List (Addr×Obj)} {σ:L2.St} {H:Hp} {s:Shared} {h':Heap} {fp:List Addr}
theorem qu(I:L2.Inv X pins σ H s)(k:∀b o,b∉fp->s.heap.get? b=some o->h'.get? b=some o)(hf:∀b∈fp,gV X pins H b):L2.Inv X pins σ H {s with heap:=h',toks:=t'}:=by
 have nit:∀b u,H b=some u->b∉fp:=fun b u e z=>by rw[(hf b z).1] at e;cases e
 have nL:X.env.locals∉fp:=fun z=>(hf _ z).2.1 rfl;refine I.step (g':=s.gens) (d':=s.drawn) (ch:=fp) (fun b hb=>?_) (fun b o _ _ hc e _=>k b o hc e) (fun b o _ _ hc e _=>⟨o.slots,k b o hc e⟩) (fun _ _ _ _ n=>n)
  (fun b o hc e=>⟨o,k b o hc e⟩) (fun _ _ e=>e) (fun _ _ _ e=>e) (fun b ps e=>⟨#[],by rw[e];simp⟩) (fun m hm=>?_) (fun b u e=>?_) I.bare
 ·obtain⟨f0,f1,f2,f3,f4,f5⟩:=hf b hb;exact⟨f3,f1,f4,f5⟩
 ·obtain⟨o,es,ep,ho,r⟩:=hm;exact⟨o,es,ep,k _ o nL ho,r⟩
 ·refine(I.bC b u e).xK (fun c v hc q=>k c v ?_ q) (fun _ q=>q) fun _ _ q=>q;rcases hc with z | z
  ·rw[z];exact nit b u e
  ·exact nit c _ z
theorem AK(I:L2.Inv X pins σ H s)(k:∀b o,b∉fp->s.heap.get? b=some o->h'.get? b=some o)(hf:∀b∈fp,gV X pins H b)(hlt:∀b∈fp,b < s.heap.objs.size)(ht:h'.get? s.heap.objs.size=some {cls:=.type "tuple",data:=.seq us.toArray n})(r:Vals vs us)(hz:vs.length≤sizeLine):L2.Inv X pins σ (upd H s.heap.objs.size (.tup vs)) {s with heap:=h',toks:=t'}:=by
 have nit:∀b u,H b=some u->b∉fp:=fun b u e z=>by rw[(hf b z).1] at e;cases e
 have nL:X.env.locals∉fp:=fun z=>(hf _ z).2.1 rfl;have hp:H s.heap.objs.size=none:=I.bC.fresh (P8 _);have np:∀b o,s.heap.get? b=some o->b≠s.heap.objs.size:=fun b o e=>Qo (Qf e);have nH:∀b u,H b=some u->b≠s.heap.objs.size:=fun b u e=>bt e hp;refine I.step (g':=s.gens) (d':=s.drawn) (ch:=fp) (fun b hb=>?_) (fun b o _ _ hc e _=>k b o hc e) (fun b o _ _ hc e _=>⟨o.slots,k b o hc e⟩) (fun b o _ e n=>by rw[aT (np b o e)];exact n)
  (fun b o hc e=>⟨o,k b o hc e⟩) (fun b _ e=>by rw[aT (nH b _ e)];exact e) (fun b _ _ e=>by rw[aT (nH b _ e)];exact e) (fun b ps e=>⟨#[],by rw[aT (nH b _ e),e];simp⟩) (fun m hm=>?_) (fun b u e=>?_) I.bare
 ·obtain⟨f0,f1,f2,f3,f4,f5⟩:=hf b hb;exact⟨f3,f1,f4,f5⟩
 ·obtain⟨o,es,ep,ho,q⟩:=hm;exact⟨o,es,ep,k _ o nL ho,q⟩
 ·by_cases z:b=s.heap.objs.size
  ·subst z;rw[bh] at e;cases e;exact⟨hz,us,r,⟨_,ht,rfl,⟨n,rfl⟩,rfl⟩⟩
  ·rw[aT z] at e;refine(I.bC b u e).xK (fun c v hc q=>k c v ?_ q) (fun c q=>?_) fun c u q=>?_
   ·rcases hc with y | y
    ·rw[y];exact nit b u e
    ·exact nit c _ y
   ·rw[aT (nH _ _ q)];exact q
   ·rw[aT (nH _ _ q)];exact q
end
def xF(b:Bool)(K:FR)(H:Hp)(l:Addr)(xs:List V):Prop:=match b with
 | true=>gA K H l xs
 | false=>ko K H l xs
theorem xF.of(I:L2.Inv X pins σ H s)(q:xF b X.K H l xs):∃its:List Value,Vals xs its∧Of b s.heap l its.toArray:=by
 cases b with
 | true=>obtain⟨its,r,p,_⟩:=I.list (show gA X.K H l xs from q);exact⟨its,r,p.isList⟩
 | false=>obtain⟨its,r,p,_⟩:=I.tuple (show ko X.K H l xs from q);exact⟨its,r,p⟩
theorem xF.inj(I:L2.Inv X pins σ H s)(q:xF b X.K H l xs)(q':xF b X.K H l ys):xs=ys:=by
 cases b with
 | true=>exact I.yt q q'
 | false=>exact I.uy q q'
noncomputable def Pq(b:Bool)(K:FR)(l:Addr):It:=
 ⟨fun i H=>∃xs x,xF b K H l xs∧xs[i]?=some x,fun i H x H'=>∃p y,H p=none∧x=.ref p∧H'=upd H p (.tup [.int (i:Int),y])∧∀xs,xF b K H l xs->xs[i]?=some y,fun i H=>∃xs,xF b K H l xs∧xs.length≤i⟩
noncomputable def Po(b c:Bool)(K:FR)(l m:Addr):It:=
 ⟨fun i H=>∃xs ys x y,xF b K H l xs∧xF c K H m ys∧xs[i]?=some x∧ys[i]?=some y,
  fun i H x H'=>∃p u v,H p=none∧x=.ref p∧H'=upd H p (.tup [u,v])∧(∀xs,xF b K H l xs->xs[i]?=some u)∧∀xs,xF c K H m xs->xs[i]?=some v,
  fun i H=>∃xs ys,xF b K H l xs∧xF c K H m ys∧(xs.length≤i∨ys.length≤i)⟩
theorem BJ{P:Program}{w:World}{K:FR}{es:List Expr}{k0:Nat}{pos:Pos}(b:Bool)(l e j:Addr)(ne:e≠j):Turn P w K (.Tuple es k0 pos) (Pq b K l) [e,j] e (fun i h=>(∃old,IsEnum h e j i old)∧At b h j l i) where
 mem:=by simp
 obj:=fun i h st a ha=>by
  obtain⟨⟨old,h1⟩,o,h2,_,d2⟩:=st;simp at ha;rcases ha with rfl | rfl
  ·exact⟨_,h1,fun v z=>by cases z⟩
  ·exact⟨o,h2,fun v z=>by rw[d2] at z;cases z⟩
 keep:=fun i h h' ⟨⟨old,h1⟩,h2⟩ k=>⟨⟨old,k e (by simp) _ h1⟩,h2.up fun o q=>k j (by simp) o q⟩
 item:=by
  intro X hP hw hK hc i pins s σ H E I hf st hg;subst hP hw hK;obtain⟨xs,x,hq,hx⟩:=hg;obtain⟨⟨old,h1⟩,h2⟩:=st;obtain⟨its,rv,hO⟩:=hq.of I;obtain⟨u,hu,ru⟩:=rv.get hx;have hlt:∀a∈[e,j],a < s.heap.objs.size:=fun a ha=>by
   simp at ha;rcases ha with rfl | rfl
   ·exact Qf h1
   ·exact h2.lt
  refine CP h1 h2 hO (x:=u) (by simpa using hu) ne fun h' a1 a2 a3 a4 a5=>⟨_,rfl,wpAny_letOwnedTupleGo_enum a1 fun h'' b1 b2=>?_⟩;have hp:H s.heap.objs.size=none:=I.bC.fresh (P8 _);have I1:=AK (t':=s.toks+1) (vs:=[.int (i:Int),x]) (us:=[.int i s.toks,u]) (n:=0) I (fun a o ha q=>a5 a o (fun z=>ha (by simp[z])) (fun z=>ha (by simp[z])) q) hf hlt a3 (.cons ⟨_,rfl⟩ (.cons ru .nil)) (show 2≤sizeLine by decide);have hf1:∀a∈[e,j],gV X pins (upd H s.heap.objs.size (.tup [.int (i:Int),x])) a:=fun a ha=>by
   obtain⟨f0,f⟩:=hf a ha;exact⟨by rw[aT (Qo (hlt a ha))];exact f0,f⟩
  have I2:=qu (t':=s.toks+1) I1 (h':=h'') (fun a o ha q=>b2.extBut a o (fun z=>ha (by simp[z])) q) hf1;exact⟨.ref s.heap.objs.size,_,I2,rfl,⟨_,x,hp,rfl,rfl,fun ys hy=>by rw[hy.inj I hq];exact hx⟩,⟨⟨_,by simpa using b1⟩,a2.up fun o q=>b2.extBut j o (Ru ne) q⟩,fun a ha=>(hf1 a ha).1⟩
 done:=by
  intro X hP hw hK hc i pins s σ H E I hf st hg;subst hP hw hK;obtain⟨xs,hq,hx⟩:=hg;obtain⟨⟨old,h1⟩,h2⟩:=st;obtain⟨its,rv,hO⟩:=hq.of I;have hl:=rv.length;exact Fh (I.ok.hd hc) h1 h2 hO (by simp;lia) fun h' eb=>⟨rfl,qu (t':=s.toks) I (fun a o ha q=>eb a o (fun z=>ha (by simp[z])) q) hf⟩
 self:=fun A i s Q E ⟨⟨old,h1⟩,_⟩ q=>by
  have hT:s.TypeIs (.ref e) "enumerate":=⟨_,h1,rfl⟩;refine wpAny_pyIter_slot hT F.slot_enumerate_iter (Q0 F.slot_enumerate_iter hT F.entry_enumerate_iter ?_ (F.args_enumerate_iter_1 _));show wpAny _ _ (ret (.ref e)) _ _ s;exact P5 ⟨_,rfl,"enumerate",_,hT,Sy.lookup,q⟩
theorem Dx{P:Program}{w:World}{K:FR}{es:List Expr}{k0:Nat}{pos:Pos}(b c:Bool)(z T U p q l m:Addr)(D:Zp z T U p q l m):
  Turn P w K (.Tuple es k0 pos) (Po b c K l m) [z,T,U,p,q] z (fun i h=>IsZip h z T U .none∧IsPair h T (.ref p) (.ref q)∧(∃u v,IsPair h U u v)∧At b h p l i∧At c h q m i) where
 mem:=by simp
 obj:=fun i h st a ha=>by
  obtain⟨h1,h2,⟨u,v,h3⟩,⟨o4,h4,_,d4⟩,⟨o5,h5,_,d5⟩⟩:=st;simp at ha;rcases ha with rfl | rfl | rfl | rfl | rfl
  ·exact⟨_,h1,fun v z=>by cases z⟩
  ·exact⟨_,h2,fun v z=>by cases z⟩
  ·exact⟨_,h3,fun v z=>by cases z⟩
  ·exact⟨o4,h4,fun v z=>by rw[d4] at z;cases z⟩
  ·exact⟨o5,h5,fun v z=>by rw[d5] at z;cases z⟩
 keep:=fun i h h' ⟨h1,h2,⟨u,v,h3⟩,h4,h5⟩ k=>⟨k z (by simp) _ h1,k T (by simp) _ h2,⟨u,v,k U (by simp) _ h3⟩,h4.up fun o e=>k p (by simp) o e,h5.up fun o e=>k q (by simp) o e⟩
 item:=by
  intro X hP hw hK hc i pins s σ H E I hf st hg;subst hP hw hK;obtain⟨xs,ys,x,y,hq1,hq2,hx,hy⟩:=hg;obtain⟨h1,h2,⟨u,v,h3⟩,h4,h5⟩:=st;obtain⟨is1,rv1,hO1⟩:=hq1.of I;obtain⟨is2,rv2,hO2⟩:=hq2.of I;obtain⟨u1,hu1,ru1⟩:=rv1.get hx;obtain⟨u2,hu2,ru2⟩:=rv2.get hy;have hlt:∀a∈[z,T,U,p,q],a < s.heap.objs.size:=fun a ha=>by
   simp at ha;rcases ha with rfl | rfl | rfl | rfl | rfl
   ·exact Qf h1
   ·exact Qf h2
   ·exact Qf h3
   ·exact h4.lt
   ·exact h5.lt
  refine Dr D h1 h2 h3 h4 h5 hO1 hO2 (x:=u1) (y:=u2) (by simpa using hu1) (by simpa using hu2) fun h' a1 a2 a3 a4 a5 a6 a7=>⟨_,rfl,wpAny_letOwnedTupleGo_zip a1 fun h'' b1 b2=>?_⟩;have hp:H s.heap.objs.size=none:=I.bC.fresh (P8 _);have I1:=AK (t':=s.toks) (vs:=[x,y]) (us:=[u1,u2]) (n:=0) I (h':=h') (fp:=[z,T,U,p,q]) (fun a o ha e=>a7 a o (fun r=>ha (by simp[r])) (fun r=>ha (by simp[r])) (fun r=>ha (by simp[r])) (fun r=>ha (by simp[r])) e) hf hlt a5 (.cons ru1 (.cons ru2 .nil)) (show 2≤sizeLine by decide);have hf1:∀a∈[z,T,U,p,q],gV X pins (upd H s.heap.objs.size (.tup [x,y])) a:=fun a ha=>by
   obtain⟨f0,f⟩:=hf a ha;exact⟨by rw[aT (Qo (hlt a ha))];exact f0,f⟩
  have I2:=qu (t':=s.toks) I1 (h':=h'') (fp:=[z,T,U,p,q]) (fun a o ha e=>b2.extBut a o (fun r=>ha (by simp[r])) e) hf1;have hT':=a7 T _ D.Tz D.TU D.Tp D.Tq h2;exact⟨.ref s.heap.objs.size,_,I2,rfl,⟨_,x,y,hp,rfl,rfl,fun zs hz=>by rw[hz.inj I hq1];exact hx,fun zs hz=>by rw[hz.inj I hq2];exact hy⟩,
   ⟨b1,b2.extBut T _ D.Tz hT',⟨_,_,b2.extBut U _ D.Uz a2⟩,a3.up fun o e=>b2.extBut p o D.pz e,a4.up fun o e=>b2.extBut q o D.qz e⟩,fun a ha=>(hf1 a ha).1⟩
 done:=by
  intro X hP hw hK hc i pins s σ H E I hf st hg;subst hP hw hK;obtain⟨xs,ys,hq1,hq2,hx⟩:=hg;obtain⟨h1,h2,⟨u,v,h3⟩,h4,h5⟩:=st;obtain⟨is1,rv1,hO1⟩:=hq1.of I;obtain⟨is2,rv2,hO2⟩:=hq2.of I;have hl1:=rv1.length;have hl2:=rv2.length;exact Gk (I.ok.hd hc) D h1 h2 h3 h4 h5 hO1 hO2 (by simp;lia) fun h' eb=>⟨rfl,qu (t':=s.toks) I (fp:=[z,T,U,p,q]) (fun a o ha e=>eb a o (fun r=>ha (by simp[r])) (fun r=>ha (by simp[r])) (fun r=>ha (by simp[r])) (fun r=>ha (by simp[r])) e) hf⟩
 self:=fun A i s Q E st h=>wpAny_pyIter_zip st.1 h
theorem boot_zip:bootBuiltins "zip"=some (.type "zip"):=by decide+kernel
theorem De:bootBuiltins "enumerate"=some (.type "enumerate"):=by decide+kernel
theorem LY(n l m:Nat)(hl:l < n)(hm:m < n):Zp (n+4) (n+2) (n+3) n (n+1) l m:=by
 constructor <;> (intro h;have h:(_:Nat)=_:=h;lia)
theorem G4(hg:Gl X "enumerate")(hm:X.mg "enumerate"=none)(ha:PA X [a] ta)(hs:starEach [a] X.env=[(false,eval a X.env)]:=by ac_nf):
  PI X (.Tuple es k0 tpos) (.Call (.Name "enumerate" p) [a] [] pos) (fun σ H R=>ta σ H fun vs H1=>∃l b,vs=[.ref l]∧(∃xs,xF b X.K H1 l xs)∧R (Pq b X.K l) H1):=by
 intro pins s σ H R I h;refine Call_ (j5 I hg hm De (Rz (cN (ha pos pins s σ H _ I h) fun us s1 ⟨vs,H1,I1,r1,q1⟩=>?_) hs rfl));obtain⟨l,b,e,⟨xs,hq⟩,q⟩:=q1;subst e;obtain⟨u,rfl,ru⟩:=Vals.one r1;obtain rfl:u=Value.ref l:=ru;obtain⟨its,rv,hO⟩:=hq.of I1;refine CO hO fun h' a1 a2 a3 a4=>?_;have I2:L2.Inv X pins σ H1 {s1 with heap:=h'}:=I1.kept (t':=s1.toks) a4;have hf:∀c∈[s1.heap.objs.size+1,s1.heap.objs.size],gV X pins H1 c:=fun c hc=>by
  simp at hc;rcases hc with rfl | rfl
  ·exact I1.wX (Tf _) (I1.bC.fresh (Tf _))
  ·exact I1.wX (P8 _) (I1.bC.fresh (P8 _))
 have T:=BJ (P:=X.prog) (w:=X.w) (K:=X.K) (es:=es) (k0:=k0) (pos:=tpos) b l (s1.heap.objs.size+1) s1.heap.objs.size (Nat.succ_ne_self _);refine T.self X.A 0 {s1 with heap:=h'} _ X.xe ⟨⟨_,a1⟩,a2⟩ ?_;exact⟨_,[s1.heap.objs.size+1,s1.heap.objs.size],_,_,H1,rfl,I2,T,⟨⟨_,a1⟩,a2⟩,hf,q⟩
theorem J3(hg:Gl X "zip")(hm:X.mg "zip"=none)(ha:PA X [a,a'] ta)(hs:starEach [a,a'] X.env=[(false,eval a X.env),(false,eval a' X.env)]:=by ac_nf)(hs2:starEach [a'] X.env=[(false,eval a' X.env)]:=by ac_nf):
  PI X (.Tuple es k0 tpos) (.Call (.Name "zip" p) [a,a'] [] pos) (fun σ H R=>ta σ H fun vs H1=>∃l m b c,vs=[.ref l,.ref m]∧(∃xs,xF b X.K H1 l xs)∧(∃xs,xF c X.K H1 m xs)∧R (Po b c X.K l m) H1):=by
 intro pins s σ H R I h;refine Call_ (j5 I hg hm boot_zip (Rz (cN (ha pos pins s σ H _ I h) fun us s1 ⟨vs,H1,I1,r1,q1⟩=>?_) (by rw[hs,hs2]) (by rw[hs2];rfl)));obtain⟨l,m,b,c,e,⟨xs,hq⟩,⟨ys,hq'⟩,q⟩:=q1;subst e;obtain⟨u,v,rfl,ru,rv'⟩:=Vals.two r1;obtain rfl:u=Value.ref l:=ru;obtain rfl:v=Value.ref m:=rv';obtain⟨its,rv,hO⟩:=hq.of I1;obtain⟨its',rv',hO'⟩:=hq'.of I1;refine Dq hO hO' fun h' a1 a2 a3 a4 a5 a6 a7=>?_;have I2:L2.Inv X pins σ H1 {s1 with heap:=h'}:=I1.kept (t':=s1.toks) a7;have hf:∀d∈[s1.heap.objs.size+4,s1.heap.objs.size+2,s1.heap.objs.size+3,s1.heap.objs.size,s1.heap.objs.size+1],gV X pins H1 d:=fun d hd=>by
  simp at hd;have:s1.heap.objs.size≤d:=by lia
  exact I1.wX this (I1.bC.fresh this)
 have ll:l < s1.heap.objs.size:=by obtain⟨o,n,e,_⟩:=hO.data;exact Qf e
 have lm:m < s1.heap.objs.size:=by obtain⟨o,n,e,_⟩:=hO'.data;exact Qf e
 have D:Zp (s1.heap.objs.size+4) (s1.heap.objs.size+2) (s1.heap.objs.size+3) s1.heap.objs.size (s1.heap.objs.size+1) l m:=LY _ _ _ ll lm;have T:=Dx (P:=X.prog) (w:=X.w) (K:=X.K) (es:=es) (k0:=k0) (pos:=tpos) b c _ _ _ _ _ l m D;refine T.self X.A 0 {s1 with heap:=h'} _ X.xe ⟨a1,a2,⟨_,_,a3⟩,a4,a5⟩ ?_;exact⟨_,[s1.heap.objs.size+4,s1.heap.objs.size+2,s1.heap.objs.size+3,s1.heap.objs.size,s1.heap.objs.size+1],_,_,H1,rfl,I2,T,⟨a1,a2,⟨_,_,a3⟩,a4,a5⟩,hf,q⟩
end Sb
namespace Sm
open PySem L2 PySem.Spec PyProof.Rows
noncomputable def jm:Nat->List D->List D
 | _,[]=>[]
 | k,x::r=>.tup [.int (k:Int),x]::jm (k+1) r
noncomputable def n4:List D->List D->List D
 | x::r,y::s=>.tup [x,y]::n4 r s
 | _,_=>[]
theorem o8:∀(xs:List D)(k i:Nat),(jm k xs)[i]?=(xs[i]?).map fun x=>.tup [.int ((k+i:Nat):Int),x]
 | [],k,i=>by simp[jm]
 | x::r,k,0=>by simp[jm]
 | x::r,k,i+1=>by
  show(jm (k+1) r)[i]?=_;rw[o8 r (k+1) i];simp only[Ry];congr 1
  funext y
  rw[show k+1+i=k+(i+1) by lia]
theorem et:∀(xs:List D)(k:Nat),(jm k xs).length=xs.length
 | [],_=>rfl
 | _::r,k=>by simp[jm,et r (k+1)]
theorem xG:∀(xs ys:List D)(i:Nat),(n4 xs ys)[i]?=(xs[i]?).bind fun x=>(ys[i]?).map fun y=>.tup [x,y]
 | [],_,i=>by simp[n4]
 | _::_,[],i=>by simp[n4]
 | x::r,y::s,0=>by simp[n4]
 | x::r,y::s,i+1=>by
  show(n4 r s)[i]?=_;rw[xG r s i];simp
theorem pJ:∀(xs ys:List D),(n4 xs ys).length=min xs.length ys.length
 | [],_=>by simp[n4]
 | _::_,[]=>by simp[n4]
 | x::r,y::s=>by simp[n4,pJ r s]
theorem SeqAt.Dl{K:FR}{H:Hp}{a:Addr}{vs:List V}{b:Bool}(q:SeqAt K H a vs b):Sb.xF b K H a vs:=by
 cases q with
 | l q=>exact q
 | t q=>exact q
theorem As(hc:ke (ws++ws') h=true):ke ws h=true∧ke ws' h=true:=by
 induction ws with
 | nil=>exact⟨rfl,hc⟩
 | cons x r ih=>
  obtain⟨n,o⟩:=x;simp only[Ue,ke,Qq] at hc ⊢;obtain⟨h1,h2⟩:=ih hc.2;exact⟨⟨hc.1,h1⟩,h2⟩
noncomputable def sr(m:AM):IM:=fun δ h=>(m δ h).bind fun p=>match p.1 with
 | [d]=>(cR d p.2).map fun q=>(jm 0 q.1,q.2,p.2)
 | _=>none
noncomputable def K8(m:AM):IM:=fun δ h=>(m δ h).bind fun p=>match p.1 with
 | [d,e]=>(cR d p.2).bind fun q=>(cR e p.2).map fun r=>(n4 q.1 r.1,q.2++r.2,p.2)
 | _=>none
theorem mJ(hg:Gl X "enumerate")(hm:X.mg "enumerate"=none)(ha:SA X [a] m)(hl:nX m 1)(hs:starEach [a] X.env=[(false,eval a X.env)]:=by ac_nf):SI X (.Tuple es k0 tpos) (.Call (.Name "enumerate" p) [a] [] pos) (sr m):=
 (Sb.G4 hg hm ha hs).imp fun σ H Q ⟨ρ,δ,h,xs,ws,h',R,S,e,k⟩=>by
  obtain⟨⟨ds,h1⟩,e1,e2⟩:=bL e;refine⟨ρ,δ,h,ds,h1,R,S,e1,fun vs ρ1 H1 T1 S1 r1=>?_⟩
  match ds,hl _ _ _ _ e1,e2,r1 with
  | [d],_,e2,r1=>
   obtain⟨⟨ys,w⟩,e3,e4⟩:=gu e2;cases e4;obtain⟨v,rfl,rd⟩:=rep1 r1;obtain⟨a,rfl,⟨us,q,l⟩,st⟩:=lr S1 rd e3;refine⟨a,wQ d,rfl,⟨us,q.Dl⟩,k _ ρ1 H1 T1 S1 ⟨fun ρ2 H2 h2 T2 S2 hc i=>?_⟩⟩;obtain⟨ws,l2,q2⟩:=st ρ2 H2 h2 T2 S2 hc;refine⟨fun hi=>⟨ws,q2.Dl,by rw[l2.length];rw[et] at hi;exact hi⟩,fun x hx=>?_⟩;rw[o8] at hx;obtain⟨y,ey,hx⟩:=gu hx;subst hx;obtain⟨v,ev,rv⟩:=l2.got ey;refine⟨⟨ws,v,q2.Dl,ev⟩,fun u H3 ⟨p,y',hp,hu,hH,hy⟩=>?_⟩;subst hu;subst hH;have hy':y'=v:=by have:=hy ws q2.Dl;rw[ev] at this;exact(Option.some.inj this).symm
   subst hy';refine⟨dz.laid S2 hp,S2.laid hp,.tup (.inl ⟨.inl bh,S2.fresh hp⟩) (.cons ?_ (.cons (rv.mono (dz.laid S2 hp).toCh) .nil))⟩;rw[Sz];exact .int _
theorem Jp(hg:Gl X "zip")(hm:X.mg "zip"=none)(ha:SA X [a,b] m)(hl:nX m 2)(hs:starEach [a,b] X.env=[(false,eval a X.env),(false,eval b X.env)]:=by ac_nf)(hs2:starEach [b] X.env=[(false,eval b X.env)]:=by ac_nf):
  SI X (.Tuple es k0 tpos) (.Call (.Name "zip" p) [a,b] [] pos) (K8 m):=
 (Sb.J3 hg hm ha hs hs2).imp fun σ H Q ⟨ρ,δ,h,xs,ws,h',R,S,e,k⟩=>by
  obtain⟨⟨ds,h1⟩,e1,e2⟩:=bL e;refine⟨ρ,δ,h,ds,h1,R,S,e1,fun vs ρ1 H1 T1 S1 r1=>?_⟩
  match ds,hl _ _ _ _ e1,e2,r1 with
  | [d,d'],_,e2,r1=>
   obtain⟨⟨ys,w⟩,e3,e4⟩:=bL e2;obtain⟨⟨zs,w'⟩,e5,e6⟩:=gu e4;cases e6;obtain⟨v,v',rfl,rd,rd'⟩:=rep2 r1;obtain⟨a,rfl,⟨us,q,l⟩,st⟩:=lr S1 rd e3;obtain⟨a',rfl,⟨us',q',l'⟩,st'⟩:=lr S1 rd' e5;refine⟨a,a',wQ d,wQ d',rfl,⟨us,q.Dl⟩,⟨us',q'.Dl⟩,k _ ρ1 H1 T1 S1 ⟨fun ρ2 H2 h2 T2 S2 hc i=>?_⟩⟩;obtain⟨c1,c2⟩:=As hc;obtain⟨ws,l2,q2⟩:=st ρ2 H2 h2 T2 S2 c1;obtain⟨ws',l2',q2'⟩:=st' ρ2 H2 h2 T2 S2 c2;refine⟨fun hi=>⟨ws,ws',q2.Dl,q2'.Dl,by rw[l2.length,l2'.length];rw[pJ] at hi;dsimp only at hi;lia⟩,fun x hx=>?_⟩;rw[xG] at hx;obtain⟨y,ey,hx⟩:=bL hx;obtain⟨y',ey',hx⟩:=gu hx;subst hx;obtain⟨v,ev,rv⟩:=l2.got ey;obtain⟨v',ev',rv'⟩:=l2'.got ey';refine⟨⟨ws,ws',v,v',q2.Dl,q2'.Dl,ev,ev'⟩,fun u H3 ⟨p,x1,x2,hp,hu,hH,hy1,hy2⟩=>?_⟩;subst hu;subst hH;have z1:x1=v:=by have:=hy1 ws q2.Dl;rw[ev] at this;exact(Option.some.inj this).symm
   have z2:x2=v':=by have:=hy2 ws' q2'.Dl;rw[ev'] at this;exact(Option.some.inj this).symm
   subst z1;subst z2;exact⟨dz.laid S2 hp,S2.laid hp,.tup (.inl ⟨.inl bh,S2.fresh hp⟩) (.cons (rv.mono (dz.laid S2 hp).toCh) (.cons (rv'.mono (dz.laid S2 hp).toCh) .nil))⟩
noncomputable def xg(ls:List (Key×D)):List (Key×D)->Option Bool
 | []=>some true
 |(k,v)::r=>match gX ls k with
  | none=>some false
  | some u=>(rN v).bind fun a=>(rN u).bind fun b=>if a.depth≤60∧b.depth≤60 then(xg ls r).map fun c=>PyData.eqv a b&&c else none
noncomputable def Fi(ks ls:List (Key×D)):Option Bool:=if ks.length=ls.length then xg ls ks else some false
noncomputable def HN(d e:D)(h:MH):Option Bool:=match eu d h,eu e h with
 | some ks,some ls=>Fi ks ls
 | _,_=>Lj d e h
noncomputable def bY(d e:D)(h:MH):Option (D×MH):=(HN d e h).map fun c=>(.bl c,h)
noncomputable def nr(d e:D)(h:MH):Option (D×MH):=(HN d e h).map fun c=>(.bl (!c),h)
theorem Bh(hu:X.A.units+64 < cLine)(I:L2.Inv X pins σ H s)(lb:bH X.K ρ H vs ls)(rb:KV vs kb):
  ∀{us:List (Key×V)} {ks:List (Key×D)} {ka:List (Key×Value)} {c:Bool},bH X.K ρ H us ks->KV us ka->xg ls ks=some c->PySem.W.KeqHits X.A.in1 s kb ka c
 | _,_,_,c,.nil,ra,e=>by
  cases ra;cases e;exact .nil
 | _,_,_,c,.cons (k:=k) (v:=v) (d:=d) r l,ra,e=>by
  cases ra with
  | cons ra rr=>
   rename_i p ka;obtain⟨k',y⟩:=p;obtain⟨ek,ry⟩:=ra;dsimp only at ek ry;subst ek;simp only[xg] at e;have rel:=rb.val k;rcases lb.val k with⟨h1,h2⟩ |⟨d',v',h1,h2,r'⟩
   ·rw[h1] at e;cases e;rw[h2] at rel;refine .miss ?_;cases q:valueAt kb k with
    | none=>rfl
    | some _=>rw[q] at rel;exact rel.elim
   ·rw[h1] at e;obtain⟨a,e1,e⟩:=bL e;obtain⟨b,e2,e⟩:=bL e
    by_cases z:a.depth≤60∧b.depth≤60
    ·rw[P7 z] at e;obtain⟨c',e3,e4⟩:=gu e;subst e4;rw[h2] at rel;cases q:valueAt kb k with
     | none=>rw[q] at rel;exact rel.elim
     | some y'=>
      rw[q] at rel;obtain⟨r1,c1⟩:=r.tY e1;obtain⟨r2,c2⟩:=r'.tY e2;obtain⟨as,ra1⟩:=r1.reads I ry;obtain⟨bs,ra2⟩:=r2.reads I rel;refine .hit q (Ug a b _ s y y' as bs ra1 ra2 c1 c2 ?_) (Bh hu I lb rb l rr e3);have:min a.depth b.depth≤a.depth:=Sk _ _;show X.A.units+1+min a.depth b.depth < cLine
      lia
    ·rw[Qa z] at e;cases e
theorem Fg(hu:X.A.units+64 < cLine)(I:L2.Inv X pins σ H s)(rx:L2.RelV x v)(ry:L2.RelV y u)(S:cn X.K ρ h H)(rd:Rep X.K ρ H x d)(re:Rep X.K ρ H y e)(ee:HN d e h=some c):
  (∀Q:Value->Shared->Prop,Q (.bool c) s->wpAny (model X.prog X.w) X.A (compareOp .Eq v u) Q X.xe s)∧∀Q:Value->Shared->Prop,Q (.bool (!c)) s->wpAny (model X.prog X.w) X.A (compareOp .NotEq v u) Q X.xe s:=by
 have data:Lj d e h=some c->(∀Q:Value->Shared->Prop,Q (.bool c) s->wpAny (model X.prog X.w) X.A (compareOp .Eq v u) Q X.xe s)∧∀Q:Value->Shared->Prop,Q (.bool (!c)) s->wpAny (model X.prog X.w) X.A (compareOp .NotEq v u) Q X.xe s:=by
  intro ee;obtain⟨a,e3,e4⟩:=bL ee;obtain⟨b,e5,e6⟩:=bL e4
  by_cases w:a.depth≤64∧b.depth≤64
  ·rw[P7 w] at e6;cases e6;obtain⟨r1,c1⟩:=qA S rd e3;obtain⟨r2,c2⟩:=qA S re e5;obtain⟨as,ra⟩:=r1.reads I rx;obtain⟨bs,rb⟩:=r2.reads I ry;exact⟨fun Q q=>eq_dataH ra rb (kH c1 w.1) (kH c2 w.2) hu q,fun Q q=>ne_dataH ra rb (kH c1 w.1) (kH c2 w.2) hu q⟩
  ·rw[Qa w] at e6;cases e6
 unfold HN at ee;cases q1:eu d h with
 | none=>rw[q1] at ee;exact data ee
 | some ks=>
  cases q2:eu e h with
  | none=>rw[q1,q2] at ee;exact data ee
  | some ls=>
   rw[q1,q2] at ee;obtain⟨a,us,rfl,ha,la⟩:=nC S rd q1;obtain⟨b,ws,rfl,hb,lb⟩:=nC S re q2;obtain rfl:v=Value.ref a:=rx;obtain rfl:u=Value.ref b:=ry;obtain⟨_,na,ka,ra,da⟩:=yK I.bC ha;obtain⟨_,nb,kb,rb,db⟩:=yK I.bC hb;have l1:ka.length=ks.length:=by rw[←la.length];exact(Paired.length ra).symm
   have l2:kb.length=ls.length:=by rw[←lb.length];exact(Paired.length rb).symm
   dsimp only[Fi] at ee
   by_cases z:ks.length=ls.length
   ·rw[P7 z] at ee;have hits:=Bh hu I lb rb la ra ee;have ez:(ka.length==kb.length&&c)=c:=by rw[l1,l2,z,RP,Vf]
    exact⟨fun Q q=>PySem.W.keq_eq na nb da db (by lia) (fun _=>hits) (by rw[ez];exact q),fun Q q=>PySem.W.keq_ne na nb da db (by lia) (fun _=>hits) (by rw[ez];exact q)⟩
   ·rw[Qa z] at ee;cases ee;have ez:(ka.length==kb.length&&false)=false:=U7 _;have nh:ka.length=kb.length->PySem.W.KeqHits X.A.in1 s kb ka false:=fun q=>absurd (by rw[←l1,←l2];exact q) z;exact⟨fun Q q=>PySem.W.keq_eq na nb da db (by lia) nh (by rw[ez];exact q),fun Q q=>PySem.W.keq_ne na nb da db (by lia) nh (by rw[ez];exact q)⟩
theorem bp(hu:X.A.units+64 < cLine):nZ X (compareOp .Eq) bY:=by
 intro pins s σ H x y v u Q I rx ry hh;obtain⟨ρ,h,d,e,z,h',S,rd,re,ee,k⟩:=hh;obtain⟨c,e1,e2⟩:=gu ee;cases e2;exact(Fg hu I rx ry S rd re e1).1 _ ⟨.bl _,H,I,rfl,k _ _ (.here S (.bl _))⟩
theorem rW(hu:X.A.units+64 < cLine):nZ X (compareOp .NotEq) nr:=by
 intro pins s σ H x y v u Q I rx ry hh;obtain⟨ρ,h,d,e,z,h',S,rd,re,ee,k⟩:=hh;obtain⟨c,e1,e2⟩:=gu ee;cases e2;exact(Fg hu I rx ry S rd re e1).2 _ ⟨.bl _,H,I,rfl,k _ _ (.here S (.bl _))⟩
noncomputable def EF(acc:List (Key×D))(ps:List (Key×D)):List (Key×D):=ps.foldl (fun a p=>putD a p.1 p.2) acc
theorem bH.merge{K:FR}{ρ:Ad}{H:Hp}:∀{kvs:List (Key×V)} {ps:List (Key×D)} {acc:List (Key×V)} {ac:List (Key×D)},bH K ρ H acc ac->bH K ρ H kvs ps->bH K ρ H (jY acc kvs) (EF ac ps)
 | _,_,_,_,a,.nil=>a
 | _,_,acc,ac,a,.cons (k:=k) (v:=v) (d:=d) r l=>bH.merge (acc:=putK acc k v) (ac:=putD ac k d) (a.put r) l
theorem Jk(hN:X.N.Nodup)(hi:X.N[i]?=some x)(hx:Loc X.env.scope x)(he:SE X e ma)(ho:ND X op (rS X.K f))(hf:X.fn x=true∨X.env.scope.names.lookup x=some .local:=by first | exact .inl rfl | exact .inr rfl | assumption):SS X (.AugAssign (.Name x pos') op e pos) (DW i f ma):=
 (JY hN hi hx he ho hf).imp fun E σ H ⟨ρ,δ,h,fl,δ',h',R,S,e,k⟩=>by
  obtain⟨d,e1,e2⟩:=bL e;obtain⟨⟨y,h1⟩,e3,e4⟩:=bL e2;obtain⟨⟨z,h2⟩,e5,e6⟩:=bL e4;cases e6;obtain⟨v,ev,r⟩:=R.at_ i d (T9.mp e1);exact⟨v,ev,ρ,δ,h,y,h1,R,S,e3,fun u H1 ⟨ρ1,T1,S1,r1⟩=>⟨ρ1,h1,d,y,z,h2,S1,r.mono T1,r1,e5,fun w H2 ⟨ρ2,T2,S2,r2⟩=>k ρ2 H2 (T1.trans T2) S2 _ ((R.mono (T1.trans T2).toCh).set r2 i)⟩⟩
theorem Hy(ho:k8 X (inplaceOp op) (D7 q))(hf:∀d e h z h',f d e h=some (z,h')->∃i j,d=.int i∧e=.int j∧h'=h∧∀ρ H,Rep X.K ρ H (q i j) z):ND X op (rS X.K f):=kC ho hf
theorem Hz:ND X .Sub (rS X.K wZ):=Hy HA fun d e h z h' ee=>by
 cases d <;> first |(cases ee;done) | skip
 cases e <;> first |(cases ee;done) | skip
 cases ee;exact⟨_,_,rfl,rfl,rfl,fun _ _=>.int _⟩
theorem kJ:bootBuiltins "list"=some (.type "list"):=by decide+kernel
theorem bg:bootBuiltins "tuple"=some (.type "tuple"):=by decide+kernel
theorem nI:bootBuiltins "bool"=some (.type "bool"):=by decide+kernel
theorem sU:bootBuiltins "int"=some (.type "int"):=by decide+kernel
theorem pj:bootBuiltins "str"=some (.type "str"):=by decide+kernel
theorem bJ:bootBuiltins "len"=some (.builtin "len"):=by decide+kernel
theorem FJ:bootBuiltins "abs"=some (.builtin "abs"):=by decide+kernel
theorem aB:bootBuiltins "isinstance"=some (.builtin "isinstance"):=by decide+kernel
theorem mr:bootBuiltins "all"=some (.builtin "all"):=by decide+kernel
theorem FI:bootBuiltins "any"=some (.builtin "any"):=by decide+kernel
noncomputable def I8(sc:Scope)(x:Str):Bool:=match sc.names.lookup x with
 | some .local=>true
 | some .cell=>true
 | some .free=>true
 | _=>false
noncomputable def EH(sc:Scope)(x:Str):Bool:=match sc.names.lookup x with
 | some .local=>true
 | some .cell=>true
 | _=>false
noncomputable def M8(X:Cx)(x:Str):Bool:=X.fn x||(match X.env.scope.names.lookup x with
 | some .local=>true
 | _=>false)
theorem I0(h:I8 sc x=true):LU sc x:=by
 unfold I8 at h
 split at h <;> first |(cases h;done) | skip
 ·exact .inl ‹_›
 ·exact .inr (.inl ‹_›)
 ·exact .inr (.inr ‹_›)
theorem zY(h:EH sc x=true):Loc sc x:=by
 unfold EH at h
 split at h <;> first |(cases h;done) | skip
 ·exact .inl ‹_›
 ·exact .inr ‹_›
theorem z8(h:M8 X x=true):X.fn x=true∨X.env.scope.names.lookup x=some .local:=by
 unfold M8 at h;rw[So] at h;rcases h with h | h
 ·exact .inl h
 ·split at h
  ·exact .inr ‹_›
  ·cases h
theorem sv(i:Nat)(hN:X.N[i]?=some x:=by ac_nf)(hv:I8 X.env.scope x=true:=by ac_nf)(hd:(x==("__debug__":Str))=false:=by ac_nf)(hcd:(x==("__classdict__":Str))=false:=by ac_nf):SE X (.Name x pos) (ae i):=Ju hN (I0 hv) hd hcd
theorem sset(i:Nat)(hN:X.N.Nodup)(he:SE X e ma)(hi:X.N[i]?=some x:=by ac_nf)(hx:EH X.env.scope x=true:=by ac_nf)(hs:swapsWith e (some (.Name x pos')) pos.line X.env=pure false:=by ac_nf)(hf:M8 X x=true:=by ac_nf):SS X (.Assign [.Name x pos'] e pos) (aZ i ma):=Jj hN hi (zY hx) he hs (z8 hf)
theorem sgn(i:Nat)(hN:X.N.Nodup)(hi:X.N[i]?=some x:=by ac_nf)(hx:EH X.env.scope x=true:=by ac_nf)(hf:M8 X x=true:=by ac_nf):SG X (.Name x pos) (gN i):=Gs hN hi (zY hx) (z8 hf)
theorem Oe(i:Nat)(hN:X.N.Nodup)(he:SE X e ma)(ho:ND X op (rS X.K f))(hi:X.N[i]?=some x:=by ac_nf)(hx:EH X.env.scope x=true:=by ac_nf)(hf:M8 X x=true:=by ac_nf):SS X (.AugAssign (.Name x pos') op e pos) (DW i f ma):=Jk hN hi (zY hx) he ho (z8 hf)
noncomputable def DU(i j:Nat)(m:AM):SM:=fun δ h=>(m δ h).bind fun p=>match p.1 with
 | [a,b]=>some (.nx,(δ.set i (some a)).set j (some b),p.2)
 | _=>none
theorem Jl(i j:Nat){kt k2 pt2}(hN:X.N.Nodup)(hl:nX m 2)(hc:X.calm=true)(hij:i≠j)(P:PS X (.Assign [.Tuple [.Name x px,.Name y py] kt pt] (.Tuple [a,b] k2 pt2) pos) (Mf i j (O8 X.K m))):
  SS X (.Assign [.Tuple [.Name x px,.Name y py] kt pt] (.Tuple [a,b] k2 pt2) pos) (DU i j m):=P.imp fun E σ H ⟨ρ,δ,h,fl,δ',h',R,S,e,k⟩=>by
 obtain⟨⟨ds,h1⟩,e1,e2⟩:=bL e;refine⟨ρ,δ,h,ds,h1,R,S,e1,fun vs ρ1 H1 T1 S1 r1=>?_⟩
 match ds,hl _ _ _ _ e1,e2,r1 with
 | [d,d'],_,e2,r1=>
  cases e2;obtain⟨v,u,rfl,rd,rd'⟩:=rep2 r1;exact⟨v,u,rfl,k ρ1 H1 T1 S1 _ (((R.mono T1.toCh).set rd i).set rd' j)⟩
structure Df(P:Program)(w:World)(K:FR)(mg:Str->Option Value)(base:Heap)(nm:Str)(k:Nat)(ps:List Str)(n:Nat)(F:Fn):Prop where
 ex:∃(f:Addr)(fd:FuncData),bK P w K mg base fH k f fd ps (gh K n F)∧PySem.W.keepIn K (.ref f)=true∧Binds K fd ps []∧mg nm=some (.ref f)
theorem Mw(d:Df X.prog X.w X.K X.mg X.base nm k ps n F)(hr:gZ k' X.A)(hk:k≤k')(ha:SA X (e::es) m)(hl:nX m n)(hg:Gl X nm:=by unfold Gl;ac_nf)(hdb:(nm==("__debug__":Str))=false:=by ac_nf)(he:starEach (e::es) X.env=(false,eval e X.env)::starEach es X.env:=by ac_nf)(hpl:(backTo pos (starEach es X.env)).any (·.1)=false:=by ac_nf):SE X (.Call (.Name nm p) (e::es) [] pos) (aw F m):=by
 obtain⟨f,fd,G,kf,bf,mf⟩:=d.ex;exact Gv G (hr.mono hk) hg mf kf bf ha hl hdb he hpl
theorem g9{P:Program}{w:World}{K:FR}{mg:Str->Option Value}{base:Heap}{k n:Nat}{f:Addr}{fd:FuncData}{ps:List Str}:bK P w K mg base fH k f fd ps (gh K n fun _ _=>none):=
 ⟨fun vs H Q E hh=>(by obtain⟨_,_,_,_,_,_,_,_,e,_⟩:=hh;cases e),fun A outer s H args us vs Q E _ _ _ _ hh=>(by obtain⟨_,_,_,_,_,_,_,_,e,_⟩:=hh;cases e)⟩
end Sm
namespace L2
open PySem PySem.Spec PyProof.Rows
abbrev TK:=St->Hp->(St->Hp->Prop)->Prop
def PM(B:Cx)(act:Sem Unit)(t:TK):Prop:=
 ∀(pins:List (Addr×Obj)) (s:Shared) (τ:St) (H:Hp) (N:St->Hp->Prop),Inv B pins τ H s->t τ H N->wpAny (model B.prog B.w) B.A act (fun _ s'=>∃τ' H',Inv B pins τ' H' s'∧N τ' H') B.xe s
def xD(J:It)(g:TG)(tc:TT)(tm:TK)(N:St->Hp->Prop)(τ0:St)(H0:Hp):Prop:=
 ∃W:Nat->Nat->St->Hp->Prop,(∃m,W 0 m τ0 H0)∧∀i m τ H2,W i m τ H2->
  (J.stop i H2∧N τ H2)∨(J.go i H2∧∃N':St->Hp->Prop,(∀τ' H',N' τ' H'->∃m',m' < m∧W (i+1) m' τ' H')∧∀x H',J.Iq i H2 x H'->g x τ H' fun τ2 H3=>
   tc τ2 H3 fun b H4=>if b=true then tm τ2 H4 N' else N' τ2 H4)
noncomputable def og(e:Expr)(d:Nat)(tg:Expr)(ifs:List Expr)(act:Sem Unit)(p:Pos)(it acc:Value)(env:Env):Sem Fin:=do
 standAt p
 match←pyNext it with
 | none=>pure (.done .next)
 | some v=>
  letOwnedTupleGo tg it v
  assign tg env v
  let mut ok:=true
  for c in ifs do
   if ok then ok←isTrue c env (eval c env)
  if ok then act
  again (.compLoop e d it acc env)
noncomputable def nv(k v:Expr)(d:Addr)(env:Env):Sem Unit:=do
 let kv←eval k env;let vv←holding [kv] (eval v env)
 standAt {k.pos with endLine:=v.pos.endLine,endCol:=v.pos.endCol}
 holding [kv,vv] (dictSet d kv vv)
theorem qS(k v t1 i1:Expr)(f1:List Expr)(sc:Scope)(pos:Pos)(it:Value)(d:Addr)(env:Env):
  compTurn (.DictComp k v [⟨t1,i1,f1,0⟩] sc pos) 0 it (.ref d) env=og (.DictComp k v [⟨t1,i1,f1,0⟩] sc pos) 0 t1 f1 (nv k v d env) i1.pos it (.ref d) env:=by rfl
structure Plain(e:Expr):Prop where
 loop:∀(P:Program)(w:World)(d:Nat)(it acc:Value)(env:Env),(model P w).den (.compLoop e d it acc env)=(compTurn e d it acc env).onRaise (fun x=>do noteFrame x env;theTreesLotGoes x)
 start:∀(P:Program)(w:World)(d:Nat)(it acc:Value)(env:Env),(model P w).den (.compStart e d it acc env)=(compStart e d it acc env).onRaise (fun x=>do noteFrame x env;standAt theWindowsPlace)
 ul:∀(A:Around)(d:Nat)(it acc:Value)(env:Env),A.under (.compLoop e d it acc env)=A
 us:∀(A:Around)(d:Nat)(it acc:Value)(env:Env),A.under (.compStart e d it acc env)=A
theorem rP(k v:Expr)(gs:List Comprehension)(sc:Scope)(pos:Pos):Plain (.DictComp k v gs sc pos):=⟨fun _ _ _ _ _ _=>rfl,fun _ _ _ _ _ _=>rfl,fun _ _ _ _ _=>rfl,fun _ _ _ _ _=>rfl⟩
theorem Nf(hk:Plain e)(ht:compTurn e d (.ref it) acc B.env=og e d tg ifs act p (.ref it) acc B.env)(hc:B.calm=true)(hx:B.xe=fun _ _=>False)(hg:PG B tg g)(hif:F7 B ifs tc)(hm:PM B act tm)(I:Inv B pins τ H s)(T:Turn B.prog B.w B.K tg J fp it tn)(st:tn 0 s.heap)(hf:∀b∈fp,gV B pins H b)(hw:xD J g tc tm N τ H):
  codeAny (model B.prog B.w) B.A (.compLoop e d (.ref it) acc B.env) (fun r s'=>r=.ok .next∧∃τ' H',Inv B pins τ' H' s'∧N τ' H') s:=by
 obtain⟨W,⟨m0,w0⟩,turn⟩:=hw;have stat:∀{H':Hp},(∀b∈fp,H' b=none)->∀b∈fp,gV B pins H' b:=fun hn b hb=>⟨hn b hb,(hf b hb).2⟩;have up:∀{α:Type} {t:Sem α} {Q:α->Shared->Prop} {E:Value->Shared->Prop} {s:Shared},wpAny (model B.prog B.w) B.A t Q B.xe s->wpAny (model B.prog B.w) B.A t Q E s:=fun h=>Mc (hx ▸ h);refine codeAny_loop rfl (fun n s'=>∃i τ' H',Inv B pins τ' H' s'∧tn i s'.heap∧(∀b∈fp,H' b=none)∧W i n τ' H') ?_ m0 ⟨0,_,_,I,st,fun b hb=>(hf b hb).1,w0⟩;rintro n s4 ⟨i,τ4,H4,J4,st4,fr4,w4⟩;rw[hk.ul,hk.loop];refine wpAny_noted ?_;rw[ht];unfold og;rcases turn i n τ4 H4 w4 with⟨stop,qn⟩ |⟨go,N',hN,step⟩
 ·refine PZ (RM (PZ (Q5 (T.done B rfl rfl rfl hc i pins s4 τ4 H4 _ J4 (stat fr4) st4 stop) (fun r s5 h5=>?_) fun _ _ e=>e)));obtain⟨hr,J5⟩:=h5;subst hr;exact P5 ⟨rfl,_,_,J5,qn⟩
 ·refine PZ (RM (PZ (Q5 (T.item B rfl rfl rfl hc i pins s4 τ4 H4 _ J4 (stat fr4) st4 go) (fun r s5 h5=>?_) fun _ _ e=>e)));obtain⟨u,hr,h5⟩:=h5;subst hr;refine PZ (Q5 h5 (fun _ s6 h6=>?_) fun _ _ e=>e);obtain⟨x,H6,J6,r6,y6,st6,fr6⟩:=h6;have J6':=J6.pinned (stat fr6) (T.obj _ _ st6);refine PZ (Q5 (up (hg _ s6 τ4 H6 x u _ J6' r6 (step x H6 y6))) (fun _ s7 h7=>?_) fun _ _ e=>e);obtain⟨τ7,H7,J7,q7⟩:=h7;have again:∀{τ8:St} {H8:Hp} {s8:Shared},Inv B (pins++oK fp s6.heap) τ8 H8 s8->N' τ8 H8->
    ∃m,m < n∧∃i τ' H',Inv B pins τ' H' s8∧tn i s8.heap∧(∀b∈fp,H' b=none)∧W i m τ' H':=fun {τ8 H8 s8} J8 n8=>by
   obtain⟨m',hm,w8⟩:=hN τ8 H8 n8;refine⟨m',hm,i+1,τ8,H8,J8.jw,T.keep _ _ _ st6 fun b hb o e=>(J8.pin (b,o) (Qu _ (Qu _ (fQ hb e)))).1,fun b hb=>?_,w8⟩;obtain⟨o,e,d⟩:=T.obj _ _ st6 b hb;exact(J8.pin (b,o) (Qu _ (Qu _ (fQ hb e)))).2.1
  refine PZ (Q5 (up (hif _ s7 τ7 H7 _ J7 q7)) (fun ok s8 h8=>?_) fun _ _ e=>e);obtain⟨H8,J8,q8⟩:=h8;cases ok with
  | false=>exact P5 ⟨rfl,again J8 (by simpa using q8)⟩
  | true=>
   have q8':tm τ7 H8 N':=by simpa using q8
   refine PZ (Q5 (up (hm _ s8 τ7 H8 _ J8 q8')) (fun _ s9 h9=>?_) fun _ _ e=>e);obtain⟨τ9,H9,J9,n9⟩:=h9;exact P5 ⟨rfl,again J9 n9⟩
theorem Lm{env:Env}{it acc:Value}{iter:Expr}{prog:Program}{w:World}{A:Around}{s:Shared}{R:Result->Shared->Prop}(hk:Plain e)(hcl:(clausesOf e)[d]?=some ⟨tg,iter,ifs,0⟩)
  (h0:codeAny (model prog w) A (.compLoop e d it acc env) R s)
  (h:wpAny (model prog w) A (pyIter it) (fun it' s'=>codeAny (model prog w) A (.compLoop e d it' acc env) R s') (notedBy (model prog w) A env fun x s'=>R (.error x) s') s):
  codeAny (model prog w) A (.compStart e d it acc env) R s:=by
 refine UA ?_;rw[hk.us,hk.start];refine wpAny_notedAt ?_;unfold compStart;rw[hcl];show wpAny _ _ (ask >>=_) _ _ s;refine PZ (Sj (wpAny_ite ?_))
 split
 ·first
   | exact PZ (P5 (P5 (And.intro rfl h0)))
   | exact P5 (And.intro rfl h0)
 ·first
   | exact PZ (RA (PZ (RM (PZ (Q5 h (fun it' s' h'=>P5 (And.intro rfl h')) fun _ _ x=>x)))))
   |(refine PZ (RA ?_);show wpAny _ _ (standAt iter.pos >>=_) _ _ s;exact PZ (RM (PZ (Q5 h (fun it' s' h'=>P5 (And.intro rfl h')) fun _ _ x=>x))))
def Ij(X:Cx)(na:Sem Value)(o:Addr->HO):Prop:=∀(pins:List (Addr×Obj)) (s:Shared) (σ:St) (H:Hp) (Q:Value->Shared->Prop) (E:Value->Shared->Prop),Inv X pins σ H s->
 (∀(obj:Obj)(t':Nat),Inv X pins σ (upd H s.heap.objs.size (o s.heap.objs.size)) {s with heap:=s.heap.push obj,toks:=t'}->Q (.ref s.heap.objs.size) {s with heap:=s.heap.push obj,toks:=t'})->wpAny (model X.prog X.w) X.A na Q E s
def qT(caps:List (Option Nat))(wi:TI)(o:Addr->HO)(g:TG)(tc:TT)(tm:Addr->TK):TE:=fun σ H Q=>wi σ H fun J H1=>∀l,H1 l=none->xD J g tc (tm l) (fun _ H'=>Q (.ref l) H') (pf caps σ) (upd H1 l (o l))
section
variable {X:Cx} {N':List Str} {caps:List (Option Nat)} {scope:Scope} {e tg iter:Expr} {ifs:List Expr} {p:Pos} {wi:TI} {g:TG} {tc:TT} {tm:Addr->TK} {o:Addr->HO} {na:Sem Value} {act:Addr->Env->Sem Unit}
theorem Fy(S:bz X N' caps scope)(hc:X.calm=true)(hk:Plain e)(hcl:(clausesOf e)[0]?=some ⟨tg,iter,ifs,0⟩)(ht:∀(it l:Addr)(env:Env),compTurn e 0 (.ref it) (.ref l) env=og e 0 tg ifs (act l env) p (.ref it) (.ref l) env)
  (hA:Ij X na o) (hg:∀C s₃ H₃ fp pl,PG (gx X N' scope C s₃ H₃ fp pl) tg g) (hif:∀C s₃ H₃ fp pl,F7 (gx X N' scope C s₃ H₃ fp pl) ifs tc)
  (hm:∀C s₃ H₃ fp pl l,PM (gx X N' scope C s₃ H₃ fp pl) (act l (gx X N' scope C s₃ H₃ fp pl).env) (tm l)) {pins:List (Addr×Obj)} {σ:St} {H:Hp} {s:Shared} {it:Addr} {fp:List Addr} {tn:Nat->Heap->Prop} {J:It}
  (I:Inv X pins σ H s) (T:Turn X.prog X.w X.K tg J fp it tn) (st:tn 0 s.heap) (hf:∀b∈fp,gV X pins H b) {Q:VK} {RR:Value->Addr->Result->Shared->Prop} {E:Value->Shared->Prop}
  (h:∀l,H l=none->xD J g tc (tm l) (fun _ H'=>Q (.ref l) H') (pf caps σ) (upd H l (o l)))
  (hRR:∀(l C:Addr)(H':Hp)(s':Shared),H' C=none->C≠X.env.locals->X.s₀.heap.objs.size≤C->(∀x c,X.env.cells.lookup x=some c->c≠C)->(∀p∈X.pn++pins,p.1≠C)->(∃m,s'.heap.Ns C m)->Inv X pins σ H' s'->
   (∀h'':Heap,(∀b u,b≠C->s'.heap.get? b=some u->h''.get? b=some u)->Inv X pins σ H' {s' with heap:=h''})->Q (.ref l) H'->RR (.ref l) C (.ok .next) s'):
  wpAny (model X.prog X.w) X.A na (fun acc s₃=>wpAny (model X.prog X.w) X.A (newFunctionEnv scope X.env.globals (iy X.env scope.names []) [] X.env.qual none .none (some X.env)) (fun cenv s₄=>
   codeAny (model X.prog X.w) X.A (.compStart e 0 (.ref it) acc {cenv with scope:=relabel scope X.env}) (RR acc cenv.locals) s₄) E s₃) E s:=by
 have hw:=h s.heap.objs.size I.fresh;refine hA pins s σ H _ _ I fun obj t' I3=>wpAny_newFunctionEnv S.zQ (by intro y hy;simp at hy) (fun h₁ hns₁ hsb₁=>?_) S.kind;have hltf:∀b∈fp,b < s.heap.objs.size:=fun b hb=>by
  obtain⟨o,e,_⟩:=T.obj 0 _ st b hb;exact Qf e
 have hf3:∀b∈fp,gV X pins (upd H s.heap.objs.size (o s.heap.objs.size)) b:=fun b hb=>⟨by rw[aT (Qo (hltf b hb))];exact(hf b hb).1,(hf b hb).2⟩;have keep3:∀b u,(s.heap.push obj).get? b=some u->h₁.get? b=some u:=fun b u e=>hsb₁.extBut b u (Qo (Qf e)) (P2 _ e);have st3:tn 0 h₁:=T.keep 0 _ _ st fun b hb o e=>keep3 b o (P2 _ e);have hlt3:∀b∈fp,b < (s.heap.push obj).objs.size:=fun b hb=>by
  have:=hltf b hb;rw[QJ];exact Sq this
 have J0:=Inv.block S I3 hc hf3 hlt3 hns₁ keep3 (t₄:=t');have fpB:∀b∈fp,gV (gx X N' scope (s.heap.push obj).objs.size {s with heap:=s.heap.push obj,toks:=t'} (upd H s.heap.objs.size (o s.heap.objs.size)) fp pins) [] (upd H s.heap.objs.size (o s.heap.objs.size)) b:=fun b hb=>by
  obtain⟨f0,f1,f2,f3,f4,f5⟩:=hf3 b hb;refine⟨f0,Qo (hlt3 b hb),fun z=>?_,.inl hb,fun x c e=>f4 x c (S.look I3.ok e),fun p hp=>?_⟩
  ·rcases Qn.mp (I3.oo b z) with q | q
   ·exact f1 q
   ·exact f2 q
  ·rcases Qx.mp hp with q | q
   ·exact f5 p q
   ·cases q
 have lp:=Nf hk (ht it s.heap.objs.size _) rfl rfl (hg _ _ _ _ _) (hif _ _ _ _ _) (hm _ _ _ _ _ s.heap.objs.size) J0 T st3 fpB hw;refine SN (Lm hk hcl lp (T.self X.A 0 _ _ _ st3 lp)) fun r s' hr=>?_;obtain⟨rfl,τ,H',J,q⟩:=hr;refine hRR _ _ H' s' J.free ?_ ?_ ?_ ?_ ?_ ?_ ?_ q
 ·exact(Qo I3.lt).symm
 ·exact I3.sz
 ·intro x c e z;obtain⟨v,o,ho,_⟩:=I3.cell x c e;exact Qo (Qf ho) z
 ·intro p hp z;obtain⟨e,_⟩:=I3.pin p hp;exact Qo (Qf e) z
 ·obtain⟨m,hm,_⟩:=J.loc;exact⟨m,hm⟩
 ·have:=Inv.qt S I3 hf3 J (h'':=s'.heap) fun b u _ e=>e;exact this
 ·exact fun h'' hs=>Inv.qt S I3 hf3 J hs
theorem Es(S:bz X N' caps scope)(hc:X.calm=true)(hk:Plain e)(hcl:clausesOf e=⟨tg,iter,ifs,0⟩::gs)(ht:∀(it l:Addr)(env:Env),compTurn e 0 (.ref it) (.ref l) env=og e 0 tg ifs (act l env) p (.ref it) (.ref l) env)(hA:Ij X na o)(hi:PI X tg iter wi)(hg:∀C s₃ H₃ fp pl,PG (gx X N' scope C s₃ H₃ fp pl) tg g)(hif:∀C s₃ H₃ fp pl,F7 (gx X N' scope C s₃ H₃ fp pl) ifs tc)(hm:∀C s₃ H₃ fp pl l,PM (gx X N' scope C s₃ H₃ fp pl) (act l (gx X N' scope C s₃ H₃ fp pl).env) (tm l))(he:eval e X.env=comprehension e scope X.env p0 na false (eval iter X.env))(hs:∀x,foldedSetIterable iter X.env x=pure x:=by intro _;rfl):PE X e (qT caps wi o g tc tm):=by
 intro pins s σ H Q I h;rw[he];refine SU (use:=none) hcl hs (ji (S.has I.ok)) S.kind S.names (cN (hi pins s σ H _ I h) fun v s1 h1=>cN h1 fun itv s2 h2=>?_);obtain⟨it,fp,tn,J,H2,e,I2,T,st2,f2,hQ⟩:=h2;subst e;refine Fy (RR:=fun acc C=>compPost (model X.prog X.w) X.A X.xe none (EP X pins σ Q) acc C) S hc hk (by rw[hcl];rfl) ht hA hg hif hm I2 T st2 f2 hQ ?_;intro l C H' s' _ _ _ _ _ hm _ hI q;obtain⟨m,hm⟩:=hm;exact⟨m,hm,fun h'' hs''=>⟨.ref l,H',hI h'' fun b u hb e=>hs''.extBut b u hb e,rfl,q⟩⟩
theorem Ei(hN:X.N.Nodup)(hi':X.N[i]?=some y)(hy:X.env.scope.names.lookup y=some .local)(S:bz X N' caps scope)(hc:X.calm=true)(hk:Plain e)(hcl:clausesOf e=⟨tg,iter,ifs,0⟩::gs)(ht:∀(it l:Addr)(env:Env),compTurn e 0 (.ref it) (.ref l) env=og e 0 tg ifs (act l env) p (.ref it) (.ref l) env)(hA:Ij X na o)(hi:PI X tg iter wi)(hg:∀C s₃ H₃ fp pl,PG (gx X N' scope C s₃ H₃ fp pl) tg g)(hif:∀C s₃ H₃ fp pl,F7 (gx X N' scope C s₃ H₃ fp pl) ifs tc)(hm:∀C s₃ H₃ fp pl l,PM (gx X N' scope C s₃ H₃ fp pl) (act l (gx X N' scope C s₃ H₃ fp pl).env) (tm l))(he:∀use,evalThenUse e X.env use=(do let _←comprehension e scope X.env p0 na false (eval iter X.env) (some use)))(hsw:swapsWith e (some (.Name y py)) spos.line X.env=pure true:=by rfl)(hs:∀x,foldedSetIterable iter X.env x=pure x:=by intro _;rfl):
  PS X (.Assign [.Name y py] e spos) (BM (qT caps wi o g tc tm) (pS i)):=by
 intro pins s σ H D I h;rw[exec_Assign_Name_used _ _ _ _ hsw];refine PZ (RM (PZ ?_));rw[he];refine PZ (Q5 (SU (use:=some (assign (.Name y py) X.env)) (Q:=fun _ s'=>SP X pins D .next s') hcl hs (ji (S.has I.ok)) S.kind S.names
  (cN (hi pins s σ H _ I h) fun v s1 h1=>cN h1 fun itv s2 h2=>?_)) (fun _ s' hq=>P5 (P5 hq)) fun _ _ e=>e)
 obtain⟨it,fp,tn,J,H2,e,I2,T,st2,f2,hQ⟩:=h2;subst e;refine Fy (Q:=fun x H1=>pS i x σ H1 D.nx) (RR:=fun acc C=>compPost (model X.prog X.w) X.A X.xe (some (assign (.Name y py) X.env)) (fun _ s'=>SP X pins D .next s') acc C) S hc hk (by rw[hcl];rfl) ht hA hg hif hm I2 T st2 f2 hQ ?_;intro l C H' s' hC hCL hC0 hCc hCp hm hI0 hI q;obtain⟨m,hm⟩:=hm;show wpAny _ X.A (assign (.Name y py) X.env (.ref l)) _ _ s';refine U1 (om (v:=.ref l) hI0 hN hi' (.inl hy) rfl (fun s5 I5 hch=>?_) (.inr hy));obtain⟨a,hsa,ha⟩:=hch;have hCa:C≠a:=by
  rcases ha with z | z
  ·rw[z];exact hCL
  ·exact(hCc _ _ z).symm
 refine⟨m,hm.sameBut hsa hCa,fun h'' hs''=>?_⟩;have I6:=I5.turned (t':=s5.toks) (h':=h'') (it:=C) (fun b o hb e=>hs''.extBut b o hb e) hC hCL (.inr hC0) hCc hCp;exact⟨_,H',I6,q⟩
end
end L2
namespace Sm
open PySem L2 PySem.Spec PyProof.Rows
structure Ac(α:Type)where
 at_:FR->Ad->Hp->Addr->α->Prop
 mono:∀{K:FR} {ρ ρ':Ad} {H H':Hp} {l:Addr} {a:α},at_ K ρ H l a->Ch ρ H ρ' H'->H' l=H l->at_ K ρ' H' l a
abbrev MK(α:Type):=DS->MH->α->Option (DS×MH×α)
noncomputable def iM{α:Type}(ws:W)(g:GM)(c:TM)(m:MK α):List D->MK α
 | [],δ,h,a=>if ke ws h then some (δ,h,a) else none
 | x::r,δ,h,a=>if ke ws h then(g x δ h).bind fun q=>(c q.1 q.2).bind fun t=>if t.1 then(m q.1 t.2 a).bind fun z=>iM ws g c m r z.1 z.2.1 z.2.2 else iM ws g c m r q.1 t.2 a else none
structure nU(l:Addr)(ρ:Ad)(H:Hp)(ρ':Ad)(H':Hp):Prop where
 ch:Ch ρ H ρ' H'
 rs:ρ'.rs=ρ.rs
 res:∀b∈ρ.rs,b≠l->H' b=H b
theorem nU.refl:nU l ρ H ρ H:=⟨.refl _ _,rfl,fun _ _ _=>rfl⟩
theorem nU.trans(a:nU l ρ H ρ1 H1)(b:nU l ρ1 H1 ρ2 H2):nU l ρ H ρ2 H2:=⟨a.ch.trans b.ch,b.rs.trans a.rs,fun x hx n=>(b.res x (a.rs ▸ hx) n).trans (a.res x hx n)⟩
theorem dz.O7(a:dz ρ H ρ1 H1):nU l ρ H ρ1 H1:=⟨a.toCh,a.rs,fun b hb _=>a.res b hb⟩
inductive Nw{α:Type}(K:FR)(A:Ac α)(l:Addr)(m:MK α)(τ:L2.St)(H:Hp)(N:L2.St->Hp->Prop):Prop where
 | mk (ρ δ h a δ' h' a'):cS K ρ H τ δ->cn K ρ h H->l∈ρ.rs->A.at_ K ρ H l a->(m δ h a=some (δ',h',a'))->(∀ρ' H' τ',nU l ρ H ρ' H'->cn K ρ' h' H'->cS K ρ' H' τ' δ'->A.at_ K ρ' H' l a'->N τ' H')->Nw K A l m τ H N
def Jf{α:Type}(K:FR)(A:Ac α)(l:Addr)(m:MK α):TK:=fun τ H N=>Nw K A l m τ H N
section
variable {α:Type} {K:FR} {A:Ac α} {l:Addr} {g:GM} {mt:TM} {m:MK α}
theorem GD(It:LX K J ρ H ws xs)(T1:Ch ρ H ρ1 H1)(R:cS K ρ1 H1 τ δ)(S:cn K ρ1 h H1)(hl:l∈ρ1.rs)(hA:A.at_ K ρ1 H1 l a)(e:iM ws g mt m xs δ h a=some (δ',h',a'))(k:∀ρ2 H2 τ2,nU l ρ1 H1 ρ2 H2->cn K ρ2 h' H2->cS K ρ2 H2 τ2 δ'->A.at_ K ρ2 H2 l a'->N τ2 H2):xD J (DC K g) (AL K mt) (Jf K A l m) N τ H1:=by
 refine⟨fun i n τ2 H2=>∃(ρ2:Ad)(δ2:DS)(h2:MH)(a2:α),n=xs.length-i∧i≤xs.length∧nU l ρ1 H1 ρ2 H2∧cS K ρ2 H2 τ2 δ2∧cn K ρ2 h2 H2∧A.at_ K ρ2 H2 l a2∧iM ws g mt m (xs.drop i) δ2 h2 a2=some (δ',h',a'),
  ⟨_,ρ1,δ,h,a,rfl,Q9 _,.refl,R,S,hA,e⟩,?_⟩
 rintro i n τ2 H2 ⟨ρ2,δ2,h2,a2,rfl,hi,T2,R2,S2,hA2,e3⟩;have hl2:l∈ρ2.rs:=by rw[T2.rs];exact hl
 cases q:xs.drop i with
 | nil=>
  rw[q] at e3;unfold iM at e3
  by_cases hc:ke ws h2=true
  ·rw[P7 hc] at e3;cases e3;have hle:xs.length≤i:=by have:=congrArg List.length q;rw[Ta,RG] at this;lia
   exact .inl ⟨(It.run _ H2 _ (T1.trans T2.ch) S2 hc i).1 hle,k _ _ _ T2 S2 R2 hA2⟩
  ·rw[Qa hc] at e3;cases e3
 | cons x r=>
  rw[q] at e3;unfold iM at e3
  by_cases hc:ke ws h2=true
  ·rw[P7 hc] at e3;have hx:xs[i]?=some x:=by
    have:=congrArg (fun l=>l[0]?) q
    simpa using this
   have hlt:i < xs.length:=(P4.mp hx).1;have hr:xs.drop (i+1)=r:=by
    have:=congrArg List.tail q
    simpa using this
   obtain⟨⟨δ3,h3⟩,e4,e5⟩:=bL e3;obtain⟨⟨t,h4⟩,e6,e7⟩:=bL e5;dsimp only at e4 e5 e6 e7;obtain⟨hgo,hy⟩:=(It.run _ H2 h2 (T1.trans T2.ch) S2 hc i).2 x hx;refine .inr ⟨hgo,fun τ5 H5=>∃(ρ5:Ad)(δ5:DS)(h5:MH)(a5:α),nU l ρ1 H1 ρ5 H5∧cS K ρ5 H5 τ5 δ5∧cn K ρ5 h5 H5∧A.at_ K ρ5 H5 l a5∧iM ws g mt m r δ5 h5 a5=some (δ',h',a'),?_,?_⟩
   ·rintro τ5 H5 ⟨ρ5,δ5,h5,a5,T5,R5,S5,A5,e5⟩;exact⟨xs.length-(i+1),by lia,ρ5,δ5,h5,a5,rfl,hlt,T5,R5,S5,A5,by rw[hr];exact e5⟩
   ·intro v H3 y3;obtain⟨T3,S3,r3⟩:=hy v H3 y3;refine⟨ρ2,δ2,h2,x,δ3,h3,R2.mono T3.toCh,S3,r3,e4,fun ρ4 H4 τ4 T4 S4 R4=>?_⟩;refine⟨ρ4,δ3,h3,t,h4,R4,S4,e6,fun ρ5 H5 T5 S5=>?_⟩;have T25:dz ρ2 H2 ρ5 H5:=T3.trans (T4.trans T5);have A5:A.at_ K ρ5 H5 l a2:=A.mono hA2 T25.toCh (T25.res l hl2);cases t with
    | false=>
     rw[Qa (by simp)] at e7;exact K6 ⟨ρ5,δ3,h4,a2,T2.trans T25.O7,R4.mono T5.toCh,S5,A5,e7⟩
    | true=>
     rw[P7 rfl] at e7;obtain⟨⟨δ6,h6,a6⟩,e8,e9⟩:=bL e7;refine K5 ⟨ρ5,δ3,h4,a2,δ6,h6,a6,R4.mono T5.toCh,S5,by rw[T25.rs];exact hl2,A5,e8,fun ρ7 H7 τ7 T7 S7 R7 A7=>?_⟩;exact⟨ρ7,δ6,h6,a6,(T2.trans T25.O7).trans T7,R7,S7,A7,e9⟩
  ·rw[Qa hc] at e3;cases e3
theorem DZ(h0:∀ρ H l,A.at_ K ρ (upd H l (o l)) l a0)(hh:∃ρ δ h xs ws h1 δ' h' a',cS K ρ H σ δ∧cn K ρ h H∧mi δ h=some (xs,ws,h1)∧iM ws g mt m xs (jn caps δ) h1 a0=some (δ',h',a')∧∀l ρ' H',dz ρ H ρ' H'->cn K ρ' h' H'->¬ρ'.has l->A.at_ K ρ' H' l a'->Q (.ref l) H'):
  qT caps (LP K mi) o (DC K g) (AL K mt) (fun l=>Jf K A l m) σ H Q:=by
 obtain⟨ρ,δ,h,xs,ws,h1,δ',h',a',R,S,e1,e2,k⟩:=hh;refine⟨ρ,δ,h,xs,ws,h1,R,S,e1,fun J ρ1 H1 T1 S1 It l hl=>?_⟩;have nl:¬ρ1.has l:=S1.fresh hl;have Tl:Ch ρ1 H1 (ρ1.keep l) (upd H1 l (o l)):=Ch.keep hl;refine GD It Tl (((R.mono T1.toCh).pf caps).mono Tl) (S1.keep hl) (Qe) (h0 _ _ _) e2 fun ρ2 H2 τ2 T2 S2 R2 A2=>?_;obtain⟨ob2,rs2⟩:=ρ2;have ers:rs2=l::ρ1.rs:=T2.rs;subst ers;have hsub:∀b∈ρ1.rs,b∈l::ρ1.rs:=fun b hb=>Qc _ hb;have C2:Ch ⟨ob2,l::ρ1.rs⟩ H2 ⟨ob2,ρ1.rs⟩ H2:=Ch.free hsub;have hne:∀b∈ρ1.rs,b≠l:=fun b hb z=>nl (.inr (z ▸ hb));have T2':dz ρ1 H1 ⟨ob2,ρ1.rs⟩ H2:=⟨(Tl.trans T2.ch).trans C2,rfl,fun b hb=>(T2.res b (hsub b hb) (hne b hb)).trans (aT (hne b hb))⟩;refine k l _ H2 (T1.trans T2') (S2.free hsub) (fun z=>?_) (A.mono A2 C2 rfl);rcases z with z | z
 ·exact(S2.uC l Qe).2 z
 ·exact nl (.inr z)
end
def PX{α:Type}(X:Cx)(act:Addr->Env->Sem Unit)(A:Ac α)(m:MK α):Prop:=∀l,L2.PM X (act l X.env) (Jf X.K A l m)
theorem _root_.L2.PM.imp(h:L2.PM X a t)(i:∀σ H Q,t' σ H Q->t σ H Q):L2.PM X a t':=fun pins s σ H Q I q=>h pins s σ H Q I (i σ H Q q)
section
variable {α:Type} {X:Cx} {A:Ac α} {g:GM} {mt:TM} {m:MK α} {mi:IM} {e tg iter:Expr} {ifs:List Expr} {d:Nat} {p:Pos} {act:Addr->Env->Sem Unit}
end
end Sm
namespace L2
open PySem PySem.Spec PyProof.Rows
theorem yg(t:SetTable)(n:Nat):(t.orStandIn n).led=t.led∧(t.plain=false->(t.orStandIn n).plain=false):=by
 unfold SetTable.orStandIn
 split
 ·exact⟨rfl,id⟩
 ·exact⟨rfl,fun _=>rfl⟩
theorem sg(t:SetTable)(es:Array (Int×Value))(h:Int)(x:Value):(layNew t es h x).2.1.led=t.led:=by
 unfold layNew
 split
 ·exact(yg _ _).1
 ·rfl
theorem zy(t:SetTable)(hs:Array Int)(n:Nat)(t':SetTable)(o:Array Nat)(e:t.relaid hs n=some (t',o)):t'.led=t.led∧t'.plain=t.plain:=by
 unfold SetTable.relaid SetTable.laid at e;cases q:SetTable.layClean (SetTable.sizeAbove n-1) hs with
 | none=>rw[q] at e;cases e
 | some owner=>rw[q] at e;cases e;exact⟨rfl,rfl⟩
theorem vW(t:SetTable)(es:Array (Int×Value))(n:Nat):(relayAll t es n).2.1.led=t.led∧(t.plain=false->(relayAll t es n).2.1.plain=false):=by
 unfold relayAll;cases q:t.relaid (es.map (·.1)) n with
 | none=>exact⟨rfl,fun _=>rfl⟩
 | some p=>
  obtain⟨t',o⟩:=p;have hl:=zy _ _ _ _ _ q;dsimp only
  split
  ·exact⟨hl.1,fun z=>hl.2.trans z⟩
  ·exact⟨rfl,fun _=>rfl⟩
theorem mh:∀(xs:List α)(i:Nat)(x:α),xs[i]?=some x->(x::xs.eraseIdx i).Perm xs
 | y::r,0,x,h=>by
  rw[Vk] at h;cases h;exact .refl _
 | y::r,i+1,x,h=>by
  rw[Ry] at h;exact(List.Perm.swap y x _).trans ((mh r i x h).cons y)
theorem AJ:∀(n:Nat)(xs:List α)(s:Shared)(Q:List α->Shared->Prop),n=xs.length->(∀ys d,ys.Perm xs->Q ys {s with drawn:=d})->wpAny M A (drawOrder n xs) Q E s
 | 0,xs,s,Q,e,h=>by
  have:xs=[]:=UX e.symm;subst this;exact P5 (h [] s.drawn (.refl _))
 | n+1,[],s,Q,e,h=>by cases e
 | n+1,x::r,s,Q,e,h=>by
  unfold drawOrder;refine PZ (show wpAny M A (choose .order (x::r).length) _ E s from fun Γ p hΓ=>?_);unfold choose;rw[Sem.wp_choose];refine⟨by simp,?_⟩;have hlt:M.w.draws .order (s.drawn.get .order) % (x::r).length < (x::r).length:=U4 _ (by simp);generalize M.w.draws .order (s.drawn.get .order) % (x::r).length=i at hlt ⊢;have hx:(x::r)[i]?=some ((x::r)[i]):=P9 hlt;generalize (x::r)[i]=y at hx;show Sem.wp M Γ (pure i) _ _ p _;refine(P5 (M:=M) (A:=A) (E:=E) (a:=i) (s:={s with drawn:=s.drawn.bump .order}) ?_) Γ p hΓ;rw[hx];have hlen:n=((x::r).eraseIdx i).length:=by rw[U6 hlt,←e];rfl
  refine PZ (AJ n _ _ _ hlen fun ys d hy=>P5 ?_);exact h (y::ys) d ((hy.cons y).trans (mh _ _ _ hx))
theorem AZ(nx:Nat->Nat):∀(fuel k:Nat)(left:List α)(out:Array α),fuel=left.length->(pickOrder.go nx fuel k left out).toList.Perm (out.toList++left)
 | 0,k,left,out,e=>by
  have:left=[]:=UX e.symm;subst this;unfold pickOrder.go;rw[Ra]
 | fuel+1,k,left,out,e=>by
  unfold pickOrder.go;have hlt:nx k % left.length < left.length:=U4 _ (by lia);have hx:left[nx k % left.length]?=some (left[nx k % left.length]):=P9 hlt;generalize left[nx k % left.length]=y at hx;rw[hx];dsimp only;refine(AZ nx fuel (k+1) _ _ (by rw[U6 hlt];lia)).trans ?_;rw[VZ,QV];exact(mh _ _ _ hx).append_left _
theorem uK(nx:Nat->Nat)(xs:Array α):(pickOrder nx xs).toList.Perm xs.toList:=by
 unfold pickOrder;have:=AZ nx xs.size 0 xs.toList #[] (by simp)
 simpa using this
theorem sA{α:Type}(es:Array (α×Value)){idx:List Nat}(hp:idx.Perm (List.range es.size)):(idx.filterMap fun k=>(es[k]?).map (·.2)).Perm (es.toList.map (·.2)):=by
 refine(hp.filterMap _).trans (List.Perm.of_eq ?_);have:∀l:List (α×Value),(List.range l.length).filterMap (fun k=>(l[k]?).map (·.2))=l.map (·.2):=by
  intro l;have h1:(List.range l.length).filterMap (fun k=>(l[k]?).map (·.2))=((List.range l.length).filterMap fun k=>l[k]?).map (·.2):=by
   rw[List.map_filterMap]
  rw[h1,List.filterMap_getElem?_range_length]
 have h2:=this es.toList
 simpa using h2
theorem entry_set_iter':entryFor table "set.__iter__"=some Builtin.«frozenset.__iter__»:=entryFor_alias (id':="frozenset.__iter__") (by ac_nf) rfl (by decide+kernel) (by ac_nf)
theorem dX:Slot "set_iterator" "__next__" "set_iterator.__next__":=.of (owner:="set_iterator") (n:="__next__") (by rw[typeLookup_type,builtinLookup_eq_fast];ac_nf) (by decide+kernel) (by decide+kernel) (by decide+kernel) (by first | exact .inl (by decide+kernel) | exact .inr (by decide+kernel)) (by rw[UM];ac_nf)
theorem k3:entryFor table "set_iterator.__next__"=some Builtin.«set_iterator.__next__»:=entryFor_of_fast (by ac_nf)
theorem nM(a:Value):argsOk "set_iterator.__next__" ⟨[a],[]⟩:=by unfold argsOk;ac_nf
theorem wpAny_of_eq'(e:m=m')(h:wpAny M A m' Q E s):wpAny M A m Q E s:=e ▸ h
section
variable {P:Program} {w:World} {A:Around} {E:Value->Shared->Prop} {s:Shared} {a:Addr} {ks:List Str}
theorem wW(ho:s.heap.get? J=some o)(hd:o.data=.fields fs)(hk:k < fs.size)(h:∀h' o',(∀b u,b≠J->s.heap.get? b=some u->h'.get? b=some u)->h'.get? J=some o'->o'.cls=o.cls->o'.data=.fields (fs.setIfInBounds k x)->Q () {s with heap:=h'}):wpAny M A (setField (.ref J) k x) Q E s:=by
 refine VB ho hd hk (h _ _ (fun b u hb e=>(RS _ _ (Ru hb)).trans e) (Rx _ ho (Obj.isFreed_of_fields (TZ hd _))) (Obj.cls_mapFields ..) ?_);rw[TZ hd]
theorem BH(hob:s.heap.get? a=some ob)(hdt:ob.data=.set es ep t)(hf:t.fits es.size=true)(ht:w.params.followText "set-order"=true)(h:Q (pickOrder (w.params.setOrder a ep) es) s):wpAny (model P w) A (setWalk a) Q E s:=by
 unfold setWalk setsByText;refine PZ (Rw hob hdt hf ?_);dsimp only;refine PZ (PZ (Sj (P5 ?_)));rw[P7 (show(model P w).w.params.followText "set-order"=true from ht)];exact PZ (Sj (P5 h))
theorem uQ(hob:s.heap.get? a=some ob)(hdt:ob.data=.set es ep t)(hf:t.fits es.size=true)(ht:w.params.followText "set-order"=true)(h:Q (((pickOrder (w.params.setOrder a ep) es)[i]?).map fun e=>(e.2,k)) s):wpAny (model P w) A (setNext a k i ep) Q E s:=by
 unfold setNext setsByText;refine PZ (Rw hob hdt hf ?_);dsimp only;refine PZ (PZ (Sj (P5 ?_)));rw[P7 (show(model P w).w.params.followText "set-order"=true from ht)];simp only[RZ,Qz,↓reduceIte];exact PZ (BH hob hdt hf ht (P5 h))
theorem vN{J:Addr}(hh:A.handled=none)(hQ:∀h',(∀b o,s.heap.get? b=some o->h'.get? b=some o)->Q none {s with heap:=h'}):
  wpAny (model P w) A.in1 (do let x←newExc (.type "StopIteration") [];raiseNew x:Sem Fin) (fun fin s'=>∃v,fin=Fin.done (Flow.ret v)∧wpAny (model P w) A (pure (some v)) Q E s')
   (fun e s'=>wpAny (model P w) A (do let b←isInstance e (.type "StopIteration");if b=true then pure none else throw e) Q E s') s:=by
 refine PZ ?_;simp only[newExc,newTuple];refine PZ (Q1 ?_ (by size_fits));refine PZ (m:=firstArgMember _ _) (wpAny_of_eq (a:=Value.none) (by first | rfl |(simp only[firstArgMember];rfl)) (Q1 ?_ (by size_fits)));simp only[raiseNew];refine PZ (wpAny_handled ?_);rw[show A.in1.handled=none from hh];refine PZ (P5 (wpAny_throw ?_));refine PZ (Si (T:="StopIteration") (b:=true) (show Shared.TypeIs _ (.ref _) _ from⟨_,Qg _ rfl,rfl⟩) TX ?_);exact P5 (hQ _ fun b o e=>P2 _ (P2 _ e))
end
theorem tH:splitId "set.__len__"=some ("set","__len__"):=by ac_nf
theorem sub_set_set:isSubtype (.type "set") (.type "set")=pure true:=by rw[UM];ac_nf
theorem qZ:typeLookup (.type "set") (Str.ofString "__len__")=pure (some (.builtin "set.__len__")):=F.slot_set_len.lookup
noncomputable def Dm(a b:Str):Bool:=!ltCps b.cps.toList a.cps.toList
theorem jf:Dm a b=true↔strKind.kle a.cps.toList b.cps.toList:=by
 unfold Dm KeyOrd.kle;rw[ltCps_eq];simp
theorem uY(a b c:Str)(h1:Dm a b=true)(h2:Dm b c=true):Dm a c=true:=jf.mpr (KeyOrd.kle_trans (jf.mp h1) (jf.mp h2))
theorem Cu(a b:Str):(Dm a b||Dm b a)=true:=by
 rw[So]
 by_cases z:strKind.klt b.cps.toList a.cps.toList
 ·exact .inr (jf.mpr (KeyOrd.kle_of_klt z))
 ·exact .inl (jf.mpr (KeyOrd.kle_of_not_klt z))
theorem yw(a b:Str)(h1:Dm a b=true)(h2:Dm b a=true):a=b:=by
 have:=KeyOrd.kle_antisymm (jf.mp h1) (jf.mp h2);cases a;cases b;congr 1;exact Array.toList_inj.mp this
noncomputable def dN(ks:List Str):List Str:=ks.mergeSort Dm
theorem cw(ks:List Str):(dN ks).Perm ks:=VJ _ _
theorem iW(ks:List Str):(dN ks).Pairwise fun a b=>Dm a b=true:=Vj uY Cu ks
theorem uI:∀(l:List Str)(p:Str),risingS p l=true->(p::l).Pairwise fun a b=>Dm a b=true
 | [],p,_=>by simp
 | x::r,p,h=>by
  have h':(!ltCps x.cps.toList p.cps.toList&&risingS x r)=true:=h;rw[Qq] at h';have ih:=uI r x h'.2;refine VQ.mpr ⟨fun y hy=>?_,ih⟩;rcases Qn.mp hy with rfl | hy
  ·exact h'.1
  ·exact uY _ _ _ h'.1 ((VQ.mp ih).1 y hy)
theorem xM(hp:ss.Perm ks)(h:sortedS ss=true):ss=dN ks:=by
 refine TR (fun a b _ _=>yw a b) ?_ (iW ks) (hp.trans (cw ks).symm)
 match ss,h with
 | [],_=>exact .nil
 | x::r,h=>exact uI r x h
theorem BQ{vs:List Value}{ss:List Str}{Q:Value->Shared->Prop}(hV:StrsAre vs ss)(h64:vs.length < 64)
  (h:∀h' n (out:Array Value),(∀b o,s.heap.get? b=some o->h'.get? b=some o)->h'.get? s.heap.objs.size=some (seqObj "list" out n)->StrsAre out.toList (dN ss)->Q (.ref s.heap.objs.size) {s with heap:=h'}):
  wpAny (model P w) A (do let l←newList vs;let _←holding [l] (call (.builtin "list.sort") [l] []);ret l) (fun fin s'=>∃v,fin=Fin.done (Flow.ret v)∧Q v s') E s:=by
 refine PZ (wpAny_newList ?_ (by rw[QL];lia));have hL:(s.heap.push (seqObj "list" vs.toArray 0)).get? s.heap.objs.size=some (seqObj "list" vs.toArray 0):=Qg _ rfl;show wpAny _ _ _ _ _ {s with heap:=s.heap.push (seqObj "list" vs.toArray 0)};refine PZ (QW (Q0 slot_list_sort ⟨_,hL,rfl⟩ entry_list_sort (list_sort_treeK (s:={s with heap:=s.heap.push (seqObj "list" vs.toArray 0)}) strKind_oneLt hL hV.keysOf (fun v₁ v₂ rest e=>keyKind_strs (by rw[←e];exact hV)) h64 fun st' hp hs=>⟨_,rfl,?_⟩) (args_list_sort _)));obtain⟨ss',g1,g2,g3⟩:=sorted_out_str hV hp hs;have:=xM g2 g3;subst this;have hlt:s.heap.objs.size < (s.heap.push (seqObj "list" vs.toArray 0)).objs.size:=by rw[QJ];exact SD _
 obtain⟨n,hn⟩:=sortedHeap_at (vs:=vs) (out:=(arrOf st').map (·.2)) hL;refine P5 ⟨_,rfl,h _ n _ (fun b o e=>?_) hn g1⟩;have hb:=Qf e;rw[sortedHeap_old (Qo hb) (Ts hb hlt)];exact P2 _ e
theorem uL:Ij X newDict (fun _=>.dK []):=fun pins s σ H Q E I h=>by
 unfold newDict;exact Q1 (h _ s.toks (I.laid (a:=s.heap.objs.size) (o:=.dK []) (t':=s.toks) (fun _ _ q=>P2 _ q) (P8 _) (sF s.heap I.big)))
def Jg(tk tv:TE)(l:Addr):TK:=fun τ H N=>tk τ H fun x H1=>tv τ H1 fun y H2=>∃kvs kk,H2 l=some (.dK kvs)∧x=kV kk∧kvs.length < sizeLine∧N τ (upd H2 l (.dK (putK kvs kk y)))
theorem G1(hk:PE B k tk)(hv:PE B v tv):PM B (nv k v l B.env) (Jg tk tv l):=fun pins s τ H N I h=>by
 unfold nv;refine PZ (cN (hk pins s τ H _ I h) fun ku s1 h1=>?_);obtain⟨x,H1,I1,r1,q1⟩:=h1;refine PZ (QW (cN (hv pins s1 τ H1 _ I1 q1) fun vu s2 h2=>?_));obtain⟨y,H2,I2,r2,kvs,kk,e,rfl,hz,n2⟩:=h2;refine PZ (RM (QW ?_));obtain⟨z,hd,vs,rel,dd⟩:=yK I2.bC e;have hzz:vs.length≤sizeLine:=by rw[←rel.length];exact z
 have hl:(putK kvs kk y).length≤sizeLine:=by have:=hG kvs kk y;lia
 refine wpAny_dictSet_pairs (hsz:=hzz) (kY r1) dd fun h' dd' hs=>?_;have he:∃q,h'.get? l=some q:=let⟨q,_,_,hq,_⟩:=dd';⟨q,hq⟩;exact⟨τ,_,qL I2 (by rw[e];exact True.intro) hs he (Al hl hd (rel.put kk r2) dd'),n2⟩
end L2
namespace Sm
open PySem L2 PySem.Spec PyProof.Rows
noncomputable def Nm:Ac (List (Key×D)) where
 at_:=fun K ρ H l a=>∃us,H l=some (.dK us)∧bH K ρ H us a
 mono:=fun⟨vs,e,r⟩ T q=>⟨vs,q.trans e,r.mono T⟩
noncomputable def mD(k v:EM):MK (List (Key×D)):=fun δ h a=>(k δ h).bind fun p=>(v δ p.2).bind fun q=>(qk p.1).bind fun kk=>if a.length < sizeLine then some (δ,q.2,putD a kk q.1) else none
theorem nU.put{K:FR}(T:dz ρ H ρ1 H1)(hl:l∈ρ.rs):nU l ρ H ρ1 (upd H1 l o):=by
 have hl1:l∈ρ1.rs:=by rw[T.rs];exact hl
 exact⟨T.toCh.trans (Ch.put hl1),T.rs,fun b hb n=>(aT n).trans (T.res b hb)⟩
theorem bH.len{K:FR}{ρ:Ad}{H:Hp}:∀{us:List (Key×V)} {ks:List (Key×D)},bH K ρ H us ks->us.length=ks.length
 | _,_,.nil=>rfl
 | _,_,.cons _ r=>by rw[Qv,Qv,r.len]
theorem AO(hk:SE X k mk)(hv:SE X v mv):PX X (fun l env=>nv k v l env) Nm (mD mk mv):=fun l=>(G1 hk hv).imp fun τ H N ⟨ρ,δ,h,a,δ',h',a',R,S,hl,⟨vs,hv,rl⟩,e,kk⟩=>by
 obtain⟨⟨x,h1⟩,e1,e2⟩:=bL e;obtain⟨⟨y,h2⟩,e3,e4⟩:=bL e2;obtain⟨c,e5,e6⟩:=bL e4;dsimp only at e3 e5 e6
 by_cases hz:a.length < sizeLine
 ·rw[P7 hz] at e6;cases e6;refine⟨ρ,δ,h,x,h1,R,S,e1,fun u H1 ⟨ρ1,T1,S1,r1⟩=>⟨ρ1,δ,h1,y,_,R.mono T1.toCh,S1,e3,fun u2 H2 ⟨ρ2,T2,S2,r2⟩=>⟨vs,c,((T1.trans T2).res l hl).trans hv,kE r1 e5,by rw[rl.len];exact hz,?_⟩⟩⟩;have T:=T1.trans T2;have hl2:l∈ρ2.rs:=by rw[T.rs];exact hl
  have Cp:Ch ρ2 H2 ρ2 (upd H2 l (.dK (putK vs c u2))):=Ch.put hl2;exact kk ρ2 _ τ (nU.put (K:=X.K) T hl) (S2.put hl2) ((R.mono T.toCh).mono Cp) ⟨_,bh,((rl.mono T.toCh).put r2).mono Cp⟩
 ·rw[Qa hz] at e6;cases e6
end Sm
namespace L2
open PySem PySem.Spec PyProof.Rows
theorem Inv.draw(I:Inv X pins σ H s)(d:Drawn):Inv X pins σ H {s with drawn:=d}:=⟨I.ok,I.os,I.bare,I.base,I.loc,I.cell,I.free,I.j6,I.pin,I.bC,I.len⟩
theorem n6:∀{us:List Value} {ss:List Str},StrsAre us ss->Vals (ss.map V.str) us
 | _,_,.nil=>.nil
 | _,_,.cons x t r=>.cons ⟨t,rfl⟩ (n6 r)
end L2
namespace Sm
open PySem L2 PySem.Spec PyProof.Rows
noncomputable def IJ{α:Type}(caps:List (Option Nat))(i:IM)(g:GM)(c:TM)(m:MK α)(a0:α)(out:α->D):EM:=fun δ h=>(i δ h).bind fun p=>(iM p.2.1 g c m p.1 (jn caps δ) p.2.2 a0).map fun q=>(out q.2.2,q.2.1)
section
variable {α:Type} {K:FR} {A:Ac α} {g:GM} {mt:TM} {m:MK α}
theorem JF(h0:∀ρ H l,A.at_ K ρ (upd H l (o l)) l a0)(hout:∀ρ H l a,A.at_ K ρ H l a->¬ρ.has l->Rep K ρ H (.ref l) (out a))(hh:tM K (IJ caps mi g mt m a0 out) σ H Q):qT caps (LP K mi) o (DC K g) (AL K mt) (fun l=>Jf K A l m) σ H Q:=by
 obtain⟨ρ,δ,h,d,h',R,S,ee,k⟩:=hh;obtain⟨⟨xs,ws,h1⟩,e1,e2⟩:=bL ee;obtain⟨⟨δ',h2,a'⟩,e3,e4⟩:=gu e2;cases e4;exact DZ h0 ⟨ρ,δ,h,xs,ws,h1,δ',_,a',R,S,e1,e3,fun l ρ' H' T S' n at'=>k _ _ ⟨ρ',T,S',hout _ _ _ _ at' n⟩⟩
theorem IA{caps:List (Option Nat)}{mi:IM}{m:MK (List (Key×D))}{σ:L2.St}{H:Hp}{Q:VK}(hh:tM K (IJ caps mi g mt m [] .dv) σ H Q):qT caps (LP K mi) (fun _=>.dK []) (DC K g) (AL K mt) (fun l=>Jf K Nm l m) σ H Q:=
 JF (A:=Nm) (o:=fun _=>.dK []) (a0:=[]) (out:=.dv) (fun ρ H l=>show ∃us,_ from⟨[],bh,.nil⟩) (fun ρ H l a h n=>by obtain⟨us,e,r⟩:=h;exact .dv e n r) hh
end
theorem GC{X:Cx}{i:Nat}{m:EM}{t:TE}{E:Ends}{σ:L2.St}{H:Hp}(hh:DB X.K (aZ i m) E σ H)(imp:∀σ H Q,tM X.K m σ H Q->t σ H Q):BM t (pS i) E σ H:=imp _ _ _ (zz hh)
section
variable {X:Cx} {k v tg iter elt tg2 iter2:Expr} {pos:Pos} {mk mv me:EM} {mt mt2:TM} {g g2:GM} {N':List Str} {caps:List (Option Nat)} {scope:Scope} {ifs ifs2:List Expr} {mi mi2:IM}
theorem DP(C:bz X N' caps scope)(hc:X.calm=true)(hi:SI X tg iter mi)(hg:∀C s₃ H₃ fp pl,SG (gx X N' scope C s₃ H₃ fp pl) tg g)(hif:∀C s₃ H₃ fp pl,LV (gx X N' scope C s₃ H₃ fp pl) ifs mt)
  (hk:∀C s₃ H₃ fp pl,SE (gx X N' scope C s₃ H₃ fp pl) k mk) (hv:∀C s₃ H₃ fp pl,SE (gx X N' scope C s₃ H₃ fp pl) v mv) (hs:∀x,foldedSetIterable iter X.env x=pure x:=by intro _;ac_nf):
  SE X (.DictComp k v [⟨tg,iter,ifs,0⟩] scope pos) (IJ caps mi g mt (mD mk mv) [] .dv):=
 (Es (g:=DC X.K g) (tc:=AL X.K mt) (tm:=fun l=>Jf X.K Nm l (mD mk mv)) C hc (rP ..) rfl (fun it l env=>qS ..) uL hi hg hif (fun C s₃ H₃ fp pl l=>AO (hk C s₃ H₃ fp pl) (hv C s₃ H₃ fp pl) l) rfl hs).imp fun _ _ _=>
  IA
theorem DH(hN:X.N.Nodup)(hi':X.N[i]?=some y)(hy:X.env.scope.names.lookup y=some .local)(C:bz X N' caps scope)(hc:X.calm=true)(hi:SI X tg iter mi)(hg:∀C s₃ H₃ fp pl,SG (gx X N' scope C s₃ H₃ fp pl) tg g)(hif:∀C s₃ H₃ fp pl,LV (gx X N' scope C s₃ H₃ fp pl) ifs mt)(hk:∀C s₃ H₃ fp pl,SE (gx X N' scope C s₃ H₃ fp pl) k mk)(hv:∀C s₃ H₃ fp pl,SE (gx X N' scope C s₃ H₃ fp pl) v mv)(hsw:swapsWith (.DictComp k v [⟨tg,iter,ifs,0⟩] scope pos) (some (.Name y py)) spos.line X.env=pure true:=by ac_nf)(hs:∀x,foldedSetIterable iter X.env x=pure x:=by intro _;ac_nf):
  SS X (.Assign [.Name y py] (.DictComp k v [⟨tg,iter,ifs,0⟩] scope pos) spos) (aZ i (IJ caps mi g mt (mD mk mv) [] .dv)):=
 (Ei (g:=DC X.K g) (tc:=AL X.K mt) (tm:=fun l=>Jf X.K Nm l (mD mk mv)) hN hi' hy C hc (rP ..) rfl (fun it l env=>qS ..) uL hi hg hif (fun C s₃ H₃ fp pl l=>AO (hk C s₃ H₃ fp pl) (hv C s₃ H₃ fp pl) l) (fun _=>rfl) hsw hs).imp fun E σ H hh=>
  GC hh fun _ _ _=>IA
theorem oE{K:FR}{ρ:Ad}{H:Hp}:∀(ss:List Str),(∀k∈ss,PyData.strOk k=true)->aF K ρ H (ss.map V.str) (ss.map D.str)
 | [],_=>.nil
 | x::r,h=>.cons (.str (h x Qe)) (oE r fun k hk=>h k (Qc _ hk))
end
end Sm
namespace L2
open PySem PySem.Spec PyProof.Rows
section
variable {X:Cx} {e st:Expr} {te ts:TE} {pos p2:Pos}
end
end L2
namespace Sm
open PySem L2 PySem.Spec PyProof.Rows
section
variable {X:Cx} {e st a b c:Expr} {ma ms mb mc:EM} {pos p2:Pos}
abbrev LI:=DS->MH->Option (List (Key×D)×MH)
noncomputable def Kp:LI:=fun _ h=>some ([],h)
noncomputable def iE(k v:EM)(r:LI):LI:=fun δ h=>(k δ h).bind fun p=>(v δ p.2).bind fun q=>(qk p.1).bind fun kk=>(r δ q.2).map fun z=>((kk,q.1)::z.1,z.2)
inductive Nr(K:FR)(m:LI)(σ:L2.St)(H:Hp)(Q:List (V×V)->Hp->Prop):Prop where
 | mk (ρ δ h kvs h'):cS K ρ H σ δ->cn K ρ h H->(m δ h=some (kvs,h'))->(∀us ρ' H',dz ρ H ρ' H'->cn K ρ' h' H'->bH K ρ' H' us kvs->Q (us.map fun kv=>(kV kv.1,kv.2)) H')->Nr K m σ H Q
def Pz(K:FR)(m:LI):L2.St->Hp->(List (V×V)->Hp->Prop)->Prop:=fun σ H Q=>Nr K m σ H Q
def SP(X:Cx)(pos:Pos)(keys:List (Option Expr))(vals:List Expr)(m:LI):Prop:=∃trs,LW X pos keys vals trs∧∀σ H Q,Pz X.K m σ H Q->vM trs σ H Q
theorem Jm:SP X pos [] [] Kp:=⟨[],GY,fun σ H Q ⟨ρ,δ,h,kvs,h',R,S,e,k⟩=>by
 cases e;exact k [] ρ H (.refl _ _) S .nil⟩
theorem kz(hk:SE X kx mk)(hv:SE X vx mv)(hr:SP X pos ks vs m):SP X pos (some kx::ks) (vx::vs) (iE mk mv m):=by
 obtain⟨trs,h1,h2⟩:=hr;refine⟨_,Ej hk hv h1,fun σ H Q ⟨ρ,δ,h,kvs,h',R,S,ee,k⟩=>?_⟩;obtain⟨⟨x,ha⟩,e1,e2⟩:=bL ee;obtain⟨⟨y,hb⟩,e3,e4⟩:=bL e2;obtain⟨kk,e5,e6⟩:=bL e4;obtain⟨⟨zs,hz⟩,e7,e8⟩:=gu e6;cases e8;refine⟨ρ,δ,h,x,ha,R,S,e1,fun v H1 ⟨ρ1,T1,S1,r1⟩=>⟨ρ1,δ,ha,y,hb,R.mono T1.toCh,S1,e3,fun u H2 ⟨ρ2,T2,S2,r2⟩=>?_⟩⟩;refine h2 σ H2 _ ⟨ρ2,δ,hb,zs,_,(R.mono T1.toCh).mono T2.toCh,S2,e7,fun us ρ3 H3 T3 S3 r3=>?_⟩;have ek:=kE r1 e5;subst ek;exact k ((kk,u)::us) ρ3 H3 ((T1.trans T2).trans T3) S3 (.cons (r2.mono T3.toCh) r3)
end
end Sm
namespace L2
open PySem PySem.Spec PyProof.Rows
open HT in
theorem BK{t sl:Addr}{items:Array Value}{vl vu:Value}{lo hi:Option Int}{Q:Value->Shared->Prop}(ht:IsTup s.heap t items)(hs:s.heap.IsSliceOf sl vl vu .none)(pl:IsPart vl lo)(pu:IsPart vu hi)
  (hw:dm items.size 0 lo=0∧dm items.size items.size hi=items.size) (h:Q (.ref t) s):wpAny (model prog w) A (getItem (.ref t) (.ref sl)) Q E s:=by
 obtain⟨os,hos,hcs,hds⟩:=id hs;have hTs:s.TypeIs (.ref sl) "slice":=⟨os,hos,hcs⟩;unfold getItem
 try with_reducible refine QW ?_
 first | refine PZ (P5 ?_) | skip
 refine PZ (wpAny_sequenceKey ht.typeIs (by decide) ?_);refine PZ (Q2 (name:=Str.ofString "__getitem__") ht.typeIs Rg (Q0 Rg ht.typeIs entry_tuple_getitem ?_ (args_tuple_getitem _ _)));show wpAny _ _ (Builtin.Tuple.tupleItemsOf (.ref t) >>=_) _ _ s;refine PZ (tupleItemsOf_ ht (PZ (TN hTs ?_)));rw[P7 (by decide)];refine PZ (iD hs pl pu ?_);show wpAny _ _ (if(((dm items.size 0 lo:Nat):Int)==0&&(1:Int)==1&&(dm items.size items.size hi-dm items.size 0 lo)==items.size)=true then _ else _) _ _ s;rw[P7 (by rw[hw.1,hw.2];simp)];unfold Builtin.Tuple.tupleIsExact;simp only[bind_assoc,pure_bind];refine PZ (TN ht.typeIs ?_);rw[P7 (by decide)]
 first
  | exact PZ (RA (P5 ⟨_,rfl,P5 h⟩))
  | exact PZ (RA (PZ (P5 (P5 ⟨_,rfl,P5 h⟩))))
def Ov(K:FR):V->Option Int->Option Int->Hp->VK->Prop:=fun x lo hi H Q=>∃a xs,x=.ref a∧ko K H a xs∧(HT.dm xs.length 0 lo=0∧HT.dm xs.length xs.length hi=xs.length)∧Q (.ref a) H
theorem DI:LF X (Ov X.K):=by
 intro pins s σ H x v vl vu lo hi sl Q I rx hs pl pu h;obtain⟨a,xs,rfl,hx,hw,q⟩:=h;cases rx;obtain⟨its,r,ht,hz⟩:=I.tuple hx;have hlen:its.toArray.size=xs.length:=by rw[Qh];exact r.length.symm
 exact⟨"tuple",_,Rg.lookup,ht.typeIs,BK ht hs pl pu (by rw[hlen];exact hw) ⟨.ref a,H,I,rfl,q⟩⟩
end L2
namespace Sm
open PySem L2 PySem.Spec PyProof.Rows
section
variable {X:Cx}
noncomputable def CI(d:D)(lo hi:Option Int)(h:MH):Option (D×MH):=match d with
 | .tup xs=>if HT.dm xs.length 0 lo=0∧HT.dm xs.length xs.length hi=xs.length then some (.tup xs,h) else some (.tup (cutD xs lo hi),h)
 | d=>Lc d lo hi h
noncomputable def yI(a:EM)(l u:PM):EM:=fun δ h=>(a δ h).bind fun p=>(l δ p.2).bind fun q=>(u δ q.2).bind fun r=>CI p.1 q.1 r.1 r.2
inductive IT(K:FR)(x:V)(lo hi:Option Int)(H:Hp)(Q:VK):Prop where
 | mk (ρ h d z h'):cn K ρ h H->Rep K ρ H x d->(CI d lo hi h=some (z,h'))->(∀v H',eL K ρ H h' z v H'->Q v H')->IT K x lo hi H Q
def Oz(K:FR):V->Option Int->Option Int->Hp->VK->Prop:=fun x lo hi H Q=>IT K x lo hi H Q
theorem Ji:LF X (Oz X.K):=by
 intro pins s σ H x v vl vu lo hi sl Q I rx hs pl pu hh;obtain⟨ρ,h,d,z,h',S,rd,ee,k⟩:=hh;cases d with
 | tup xs=>
  unfold CI at ee;dsimp only at ee
  by_cases c:HT.dm xs.length 0 lo=0∧HT.dm xs.length xs.length hi=xs.length
  ·rw[P7 c] at ee;cases ee;have rd0:=rd;cases rd with | tup h0 l0=>
   exact DI pins s σ H _ v vl vu lo hi sl Q I rx hs pl pu ⟨_,_,rfl,h0.sq,by rw[l0.length];exact c,k _ _ (.here S rd0)⟩
  ·rw[Qa c] at ee;exact Iw pins s σ H x v vl vu lo hi sl Q I rx hs pl pu ⟨ρ,h,_,z,h',S,rd,by unfold Lc;dsimp only;rw[Qa c];exact ee,k⟩
 | _=>exact Iw pins s σ H x v vl vu lo hi sl Q I rx hs pl pu ⟨ρ,h,_,z,h',S,rd,ee,k⟩
theorem rf{a:Expr}{lo hi:Option Expr}{pos p2:Pos}{ma:EM}{ml mu:PM}(ha:SE X a ma)(hl:SP' X lo ml)(hu:SP' X hi mu):SE X (.Subscript a (.Slice lo hi none p2) pos) (yI ma ml mu):=
 (Eo Ji ha hl hu).imp fun σ H Q ⟨ρ,δ,h,d,h',R,S,e,k⟩=>by
  obtain⟨⟨x,h1⟩,e1,e2⟩:=bL e;obtain⟨⟨l,h2⟩,e3,e4⟩:=bL e2;obtain⟨⟨u,h3⟩,e5,e6⟩:=bL e4;exact⟨ρ,δ,h,x,h1,R,S,e1,fun v H1 ⟨ρ1,T1,S1,r1⟩=>⟨ρ1,δ,h1,l,h2,R.mono T1.toCh,S1,e3,fun ρ2 H2 T2 S2=>⟨ρ2,δ,h2,u,h3,(R.mono T1.toCh).mono T2.toCh,S2,e5,fun ρ3 H3 T3 S3=>
   ⟨ρ3,h3,x,d,h',S3,r1.mono (T2.trans T3).toCh,e6,fun w H4 p=>k w H4 (p.step (T1.trans (T2.trans T3)))⟩⟩⟩⟩
noncomputable def yE:Fn:=fun ds h=>match ds with
 | [.bl b]=>some (.int (if b then 1 else 0),h)
 | _=>none
theorem Ao:gy X (.type "int") yE:=by
 intro pins s σ H xs us Q I r hh;obtain⟨ρ,h,ds,z,h',S,l,ee,k⟩:=hh
 match ds,l,ee with
 | [],_,ee=>cases ee
 | _::_::_,_,ee=>exact absurd ee (by unfold yE;split <;> simp_all)
 | [d],l,ee=>
  obtain⟨v,rfl,rd⟩:=rep1 l;cases rd <;> first |(cases ee;done) | skip
  cases ee;obtain⟨u,rfl,ru⟩:=Vals.one r;cases ru;exact call_int_bool ⟨.int _,H,I.kept (t':=s.toks+1) (h':=s.heap) fun _ _ e=>e,⟨_,rfl⟩,k _ _ (.here S (.int _))⟩
noncomputable def j8(d e:D)(h:MH):Option (D×MH):=match d,e with
 | .str x,.int n=>if x.length≤1000∧0≤n∧n≤1000∧PyData.strOk (Txt.mul x n)=true then some (.str (Txt.mul x n),h) else none
 | d,e=>Ld d e h
theorem jd:nZ X (binaryOp .Mult) j8:=by
 intro pins s σ H x y v u Q I rx ry hh;obtain⟨ρ,h,d,e,z,h',S,rd,re,ee,k⟩:=hh;unfold j8 at ee
 split at ee
 ·rename_i x0 n
  by_cases c:x0.length≤1000∧0≤n∧n≤1000∧PyData.strOk (Txt.mul x0 n)=true
  ·rw[P7 c] at ee;cases ee;cases rd;cases re;obtain⟨t1,rfl⟩:=rx;obtain⟨t2,rfl⟩:=ry;obtain⟨c1,c2,c3,c4⟩:=c;refine SB.mul ⟨?_,fun _ _=>?_,fun _ _=>?_⟩ fun t' k'=>⟨.str _,H,I.kept (t':=k') (h':=s.heap) fun _ _ e=>e,⟨t',rfl⟩,k _ _ (.here S (.str c4))⟩
   ·rw[QS (by lia),QS (by lia)];rfl
   ·have h1:(9007199254740991:Int)≤(2^63-1) / n:=by
     refine Int.le_ediv_of_mul_le (by lia) ?_;have:9007199254740991*n≤9007199254740991*1000:=Int.mul_le_mul_of_nonneg_left c3 (by decide)
     lia
    lia
   ·have h1:x0.length*n.toNat≤1000*1000:=Nat.mul_le_mul c1 (by lia);refine QS ?_;have:=QL
    lia
  ·rw[Qa c] at ee;cases ee
 ·exact Kq pins s σ H x y v u Q I rx ry ⟨ρ,h,_,_,z,h',S,rd,re,ee,k⟩
noncomputable def gS(f f':D->D->MH->Option (D×MH))(ma mb mc:EM):EM:=fun δ h=>(ma δ h).bind fun p=>(mb δ p.2).bind fun q=>(f p.1 q.1 q.2).bind fun r=>match r.1 with
 | .bl true=>(mc δ r.2).bind fun u=>f' q.1 u.1 u.2
 | .bl false=>some (.bl false,r.2)
 | _=>none
theorem x4(hh:tM X.K (gS f f' ma mb mc) σ H Q):zh (rS X.K f) (rS X.K f') (tM X.K ma) (tM X.K mb) (tM X.K mc) σ H Q:=by
 obtain⟨ρ,δ,h,d,h',R,S,ee,k⟩:=hh;obtain⟨⟨x,h1⟩,e1,e2⟩:=bL ee;obtain⟨⟨y,h2⟩,e3,e4⟩:=bL e2;obtain⟨⟨z,h3⟩,e5,e6⟩:=bL e4;dsimp only at e3 e5 e6;refine⟨ρ,δ,h,x,h1,R,S,e1,fun v H1 ⟨ρ1,T1,S1,r1⟩=>⟨ρ1,δ,h1,y,h2,R.mono T1.toCh,S1,e3,fun u H2 ⟨ρ2,T2,S2,r2⟩=>⟨ρ2,h2,x,y,z,h3,S2,r1.mono T2.toCh,r2,e5,fun w H3 ⟨ρ3,T3,S3,r3⟩=>?_⟩⟩⟩;cases z with
 | bl b=>
  cases r3;refine⟨b,rfl,?_⟩;cases b with
  | false=>
   cases e6;exact K6 (k _ _ (eL.step (T1.trans (T2.trans T3)) (.here S3 (.bl false))))
  | true=>
   obtain⟨⟨u',h4⟩,e7,e8⟩:=bL e6;have T:=T1.trans (T2.trans T3);exact K5 ⟨ρ3,δ,h3,u',h4,R.mono T.toCh,S3,e7,fun v' H4 ⟨ρ4,T4,S4,r4⟩=>⟨ρ4,h4,y,u',d,h',S4,r2.mono (T3.trans T4).toCh,r4,e8,fun w' H5 P=>k w' H5 (P.step (T.trans T4))⟩⟩
 | _=>cases e6
theorem DQ(ho:nZ X (compareOp op) f)(ho':nZ X (compareOp op') f')(ha:SE X a ma)(hb:SE X b mb)(hc:SE X c mc)(hm:lastMarks [op,op'] [b,c]=false:=by with_unfolding_all rfl):
  SE X (.Compare a [op,op'] [b,c] pos) (gS f f' ma mb mc):=(Et ho ho' ha hb hc hm).imp fun _ _ _=>x4
theorem qW(ho:nZ X (compareOp op) f)(ho':nZ X (compareOp op') f')(ha:SE X a ma)(hb:SE X b mb)(hc:SE X c mc)(hm:lastMarks [op,op'] [b,c]=false:=by with_unfolding_all rfl):
  ST X (.Compare a [op,op'] [b,c] pos) (aM (gS f f' ma mb mc)):=(Ee ho ho' ha hb hc hm).imp fun σ H Q h=>x4 (GF h)
end
end Sm
namespace L2
open PySem PySem.Spec PyProof.Rows
open HT in
section
variable {X:Cx} {e st:Expr} {te ts:TE} {pos p2:Pos}
end
end L2
namespace Sm
open PySem L2 PySem.Spec PyProof.Rows
section
variable {X:Cx} {e st:Expr} {ma ms:EM} {pos p2:Pos}
end
end Sm
namespace L2
open PySem PySem.Spec PyProof.Rows
open HT in
theorem FA{t b:Addr}{vs ws:List Value}{Q:Value->Shared->Prop}(ht:IsTup s.heap t vs.toArray)(hb:IsTup s.heap b ws.toArray)(hv:vs=[])(h:Q (.ref b) s):wpAny (model prog w) A (binaryOp .Add (.ref t) (.ref b)) Q E s:=by
 obtain⟨⟨cls,dd,data,sl⟩,ho,hc,n,hd⟩:=id ht;obtain⟨⟨cls2,dd2,data2,sl2⟩,ho2,hc2,n2,hd2⟩:=id hb;simp only at hc hd hc2 hd2;subst hc hd hc2 hd2;exact concat_meets ⟨_,ho,rfl⟩ ⟨_,ho2,rfl⟩ Vb VM Uh T8 (TQ _ _)
   (tuple_addW0 t b vs.toArray ws.toArray n n2 dd dd2 sl sl2 (by simp[hv])) ⟨ho,ho2,h⟩
theorem Ey:k8 X (binaryOp .Add) (fun x y H Q=>∃a b ys,x=.ref a∧y=.ref b∧ko X.K H a []∧ko X.K H b ys∧Q (.ref b) H):=by
 intro pins s σ H x y v u Q I rx ry h;obtain⟨a,b,ys,rfl,rfl,ha,hb,q⟩:=h;cases rx;cases ry;obtain⟨its,r1,p1,_⟩:=I.tuple ha;obtain⟨its2,r2,p2,_⟩:=I.tuple hb;exact FA p1 p2 (r1.qH.mpr rfl) ⟨.ref b,H,I,rfl,q⟩
end L2
namespace Sm
open PySem L2 PySem.Spec PyProof.Rows
noncomputable def br(d e:D)(h:MH):Option (D×MH):=match d,e with
 | .tup [],.tup ys=>some (.tup ys,h)
 | d,e=>CN d e h
theorem aU:nZ X (binaryOp .Add) br:=by
 intro pins s σ H x y v u Q I rx ry hh;obtain⟨ρ,h,d,e,z,h',S,rd,re,ee,k⟩:=hh;unfold br at ee
 split at ee
 ·cases ee;have re0:=re;cases rd with | tup h1 l1=>cases re with | tup h2 l2=>
  cases l1;exact Ey pins s σ H _ _ v u Q I rx ry ⟨_,_,_,rfl,rfl,h1.sq,h2.sq,k _ _ (.here S re0)⟩
 ·exact Ks pins s σ H _ _ v u Q I rx ry ⟨ρ,h,_,_,z,h',S,rd,re,ee,k⟩
noncomputable def E5:Fn:=fun ds h=>match ds with
 | [.int i,.int j]=>some (.int (if j < i then j else i),h)
 | _=>none
noncomputable def xf:Fn:=fun ds h=>match ds with
 | [.int i,.int j]=>some (.int (if j > i then j else i),h)
 | _=>none
theorem Ln(hc:X.calm=true):gy X (.builtin "min") E5:=by
 intro pins s σ H xs us Q I r hh;obtain⟨ρ,h,ds,z,h',S,l,ee,k⟩:=hh
 match ds,l,ee with
 | [],_,ee=>cases ee
 | [_],_,ee=>exact absurd ee (by unfold E5;split <;> simp_all)
 | _::_::_::_,_,ee=>exact absurd ee (by unfold E5;split <;> simp_all)
 | [d,e],l,ee=>
  obtain⟨v,w,rfl,rd,re⟩:=rep2 l;cases rd <;> first |(cases ee;done) | skip
  cases re <;> first |(cases ee;done) | skip
  cases ee;exact C0 hc pins s σ H _ us Q I r ⟨_,_,rfl,k _ _ (.here S (.int _))⟩
theorem sH(hc:X.calm=true):gy X (.builtin "max") xf:=by
 intro pins s σ H xs us Q I r hh;obtain⟨ρ,h,ds,z,h',S,l,ee,k⟩:=hh
 match ds,l,ee with
 | [],_,ee=>cases ee
 | [_],_,ee=>exact absurd ee (by unfold xf;split <;> simp_all)
 | _::_::_::_,_,ee=>exact absurd ee (by unfold xf;split <;> simp_all)
 | [d,e],l,ee=>
  obtain⟨v,w,rfl,rd,re⟩:=rep2 l;cases rd <;> first |(cases ee;done) | skip
  cases re <;> first |(cases ee;done) | skip
  cases ee;exact C5 hc pins s σ H _ us Q I r ⟨_,_,rfl,k _ _ (.here S (.int _))⟩
end Sm
namespace L2
open PySem PySem.Spec PyProof.Rows
section
variable {X:Cx} {a b:Expr} {rest:List Expr} {pos:Pos} {ta tb:TE}
end
end L2
namespace Sm
open PySem L2 PySem.Spec PyProof.Rows
section
variable {X:Cx} {a b:Expr} {pos:Pos} {ma mb:EM}
end
end Sm
namespace L2
open PySem PySem.Spec PyProof.Rows
end L2
namespace Sm
open PySem L2 PySem.Spec PyProof.Rows
theorem Lw:bootBuiltins "min"=some (.builtin "min"):=by decide+kernel
theorem sT:bootBuiltins "max"=some (.builtin "max"):=by decide+kernel
section
variable {X:Cx} {g:GM} {mt:TM} {ma:EM}
end
end Sm
namespace L2
open PySem PySem.Spec PyProof.Rows
theorem Hg:k8 X (compareOp .IsNot) (fun x y H Q=>∃a b,x=.bl a∧y=.bl b∧Q (.bl (!(a==b))) H):=by
 intro pins s σ H x y v u Q I rx ry h;obtain⟨a,b,rfl,rfl,q⟩:=h;cases rx;cases ry;cases a <;> cases b <;> exact P5 ⟨.bl _,H,I,(by decide:(_:Value)=_),q⟩
theorem oh:∀{ss:List Str} {us:List Value},Vals (ss.map V.str) us->StrsAre us ss
 | [],_,.nil=>.nil
 | x::r,_,.cons q l=>by obtain⟨t,rfl⟩:=q;exact .cons x t (oh l)
theorem Ax:eN X (.builtin "sorted") (fun xs H Q=>∃a ss,xs=[.ref a]∧gA X.K H a (ss.map V.str)∧ss.length < 64∧∀l,H l=none->Q (.ref l) (upd H l (.lst ((dN ss).map V.str)))):=by
 intro pins s σ H xs us Q I r h;obtain⟨a,ss,rfl,ha,h64,q⟩:=h;obtain⟨u,rfl,ru⟩:=vals1 r;cases ru;obtain⟨its,rv,p,hz⟩:=I.list ha;have hS:=oh rv;have hlen:its.length=ss.length:=by have:=rv.length;rw[P1] at this;exact this.symm
 refine sorted_strs p.isList hS (by lia) fun out ss' h1 h2 h3=>?_;have:=xM h2 h3;subst this;have hl:s.heap.objs.size≤s.heap.objs.size+1:=Tf _;obtain⟨e,ho⟩:=sortedAll_at s.heap its out;have hz':((dN ss).map V.str).length≤sizeLine:=by rw[P1,(cw ss).length_eq,QL];lia
 refine⟨.ref (s.heap.objs.size+1),_,I.laid (t':=s.toks) (o:=.lst ((dN ss).map V.str)) (fun b o q=>sortedAll_old q) hl ⟨hz',out.toList,e,n6 h1,?_⟩,rfl,q _ (I.bC.fresh hl)⟩;rw[ho]
end L2
namespace Sm
open PySem L2 PySem.Spec PyProof.Rows
noncomputable def II(d e:D)(h:MH):Option (D×MH):=match d,e with
 | .bl a,.bl b=>some (.bl (!(a==b)),h)
 | _,_=>none
theorem Hf:nZ X (compareOp .IsNot) II:=by
 intro pins s σ H x y v u Q I rx ry hh;obtain⟨ρ,h,d,e,z,h',S,rd,re,ee,k⟩:=hh;cases rd <;> first |(cases ee;done) | skip
 cases re <;> first |(cases ee;done) | skip
 cases ee;exact Hg pins s σ H _ _ v u Q I rx ry ⟨_,_,rfl,rfl,k _ _ (.here S (.bl _))⟩
noncomputable def kZ:List D->Option (List Int)
 | []=>some []
 | .int i::r=>(kZ r).map fun is=>i::is
 | _=>none
theorem so:∀{xs:List D} {ns:List Int},kZ xs=some ns->xs=ns.map D.int
 | [],_,e=>by cases e;rfl
 | d::r,ns,e=>by
  cases d <;> first |(cases e;done) | skip
  obtain⟨is,e1,e2⟩:=gu (show(kZ r).map _=some ns from e);cases e2;rw[so e1];rfl
theorem vc:∀(ns:List Int),kZ (ns.map D.int)=some ns
 | []=>rfl
 | n::r=>by show(kZ (r.map D.int)).map _=_;rw[vc r];rfl
theorem lM{K:FR}{ρ:Ad}{H:Hp}:∀{vs:List V} {ns:List Int},aF K ρ H vs (ns.map D.int)->vs=ns.map V.int
 | _,[],.nil=>rfl
 | _,n::r,.cons q l=>by cases q;rw[lM l];rfl
noncomputable def mF:List D->Option (List Str)
 | []=>some []
 | .str i::r=>(mF r).map fun is=>i::is
 | _=>none
theorem qV:∀{xs:List D} {ns:List Str},mF xs=some ns->xs=ns.map D.str
 | [],_,e=>by cases e;rfl
 | d::r,ns,e=>by
  cases d <;> first |(cases e;done) | skip
  obtain⟨is,e1,e2⟩:=gu (show(mF r).map _=some ns from e);cases e2;rw[qV e1];rfl
theorem oj:∀(ns:List Str),mF (ns.map D.str)=some ns
 | []=>rfl
 | n::r=>by show(mF (r.map D.str)).map _=_;rw[oj r];rfl
theorem lL{K:FR}{ρ:Ad}{H:Hp}:∀{vs:List V} {ns:List Str},aF K ρ H vs (ns.map D.str)->vs=ns.map V.str∧∀k∈ns,PyData.strOk k=true
 | _,[],.nil=>⟨rfl,fun _ h=>(nomatch h)⟩
 | _,n::r,.cons q l=>by
  cases q with
  | str h=>
   obtain⟨e,f⟩:=lL l;refine⟨by rw[e];rfl,fun k hk=>?_⟩;rcases Qn.mp hk with rfl | hk
   ·exact h
   ·exact f k hk
noncomputable def E3:Fn:=fun ds h=>match ds with
 | [d]=>(fF d h).bind fun xs=>(mF xs).bind fun ns=>if ns.length < 64 then some (.lv ((dN ns).map D.str),h) else none
 | _=>none
theorem Fj:gy X (.builtin "sorted") E3:=by
 intro pins s σ H xs us Q I r hh;obtain⟨ρ,h,ds,z,h',S,l,ee,k⟩:=hh
 match ds,l,ee with
 | [],_,ee=>cases ee
 | _::_::_,_,ee=>cases ee
 | [d],l,ee=>
  obtain⟨v,rfl,rd⟩:=rep1 l;obtain⟨ys,e1,e2⟩:=bL ee;obtain⟨ns,e3,e4⟩:=bL e2
  by_cases c:ns.length < 64
  ·rw[P7 c] at e4;cases e4;obtain⟨a,vs,rfl,ha,la⟩:=ej S rd e1;have:=qV e3;subst this;obtain⟨e5,f⟩:=lL la;subst e5;refine Ax pins s σ H _ us Q I r ⟨a,ns,rfl,gA.of ha,c,fun l hl=>k _ _ (.lv S (oE _ fun x hx=>f x ((cw ns).mem_iff.mp hx)) hl)⟩
  ·rw[Qa c] at e4;cases e4
section
variable {α:Type} {K:FR} {A:Ac α} {l:Addr} {g:GM} {mt:TM} {m:MK α}
mutual
theorem Rep.calm(hs:∀a,ρ'.has a->ρ.has a){v:V}{d:D}(r:Rep K ρ H v d)(c:iL 0 d=true):Rep K ρ' H v d:=by
 cases r with
 | cC=>exact .cC
 | bl b=>exact .bl b
 | int i=>exact .int i
 | str h=>exact .str h
 | ty n=>exact .ty n
 | tup h l=>exact .tup (h.elim (fun⟨a,n⟩=>.inl ⟨a,fun z=>n (hs _ z)⟩) .inr) (aF.calm hs l c)
 | lv h n l=>exact .lv h (fun z=>n (hs _ z)) (aF.calm hs l c)
 | ro h l=>exact .ro (h.elim (fun⟨a,n⟩=>.inl ⟨a,fun z=>n (hs _ z)⟩) .inr) (aF.calm hs l c)
 | dv h n l=>exact .dv h (fun z=>n (hs _ z)) (bH.calm hs l c)
 | ob e=>simp[iL] at c
theorem aF.calm(hs:∀a,ρ'.has a->ρ.has a){vs:List V}{ds:List D}(r:aF K ρ H vs ds)(c:gf 0 ds=true):aF K ρ' H vs ds:=by
 cases r with
 | nil=>exact .nil
 | cons r l=>have c:=QP.mp c;exact .cons (Rep.calm hs r c.1) (aF.calm hs l c.2)
theorem bH.calm(hs:∀a,ρ'.has a->ρ.has a){vs:List (Key×V)}{ds:List (Key×D)}(r:bH K ρ H vs ds)(c:HV 0 ds=true):bH K ρ' H vs ds:=by
 cases r with
 | nil=>exact .nil
 | cons r l=>have c:=QP.mp c;exact .cons (Rep.calm hs r c.1) (bH.calm hs l c.2)
end
end
section
variable {X:Cx} {k v tg iter:Expr} {pos:Pos} {mk mv:EM} {mt:TM} {g:GM} {N':List Str} {caps:List (Option Nat)} {scope:Scope} {ifs:List Expr} {mi:IM}
end
theorem pv:bootBuiltins "sorted"=some (.builtin "sorted"):=by decide+kernel
end Sm
namespace L2
open PySem PySem.Spec PyProof.Rows
end L2
namespace Sm
open PySem L2 PySem.Spec PyProof.Rows
end Sm
namespace L2
open PySem PySem.Spec PyProof.Rows
end L2
namespace Sm
open PySem L2 PySem.Spec PyProof.Rows
end Sm
namespace Hd
open PySem PySem.W PySem.Spec PyProof.Rows L2 Sm
noncomputable def Hx(_:Obj):Bool:=true
noncomputable def Hu(h:Heap)(a:Addr):Option (Addr×Obj):=match h.get? a with
 | some o=>if Hx o then some (a,o) else none
 | none=>none
noncomputable def bB(h:Heap):Frag:=(List.range h.objs.size).filterMap (Hu h)
theorem oZ(h:Heap)(a:Addr):∀l:List Addr,(l.filterMap (Hu h)).lookup a=if a∈l then(Hu h a).map (·.2) else none
 | []=>rfl
 | b::r=>by
  have ih:=oZ h a r
  by_cases hb:a=b
  ·subst hb;rw[P7 Qe];rw[QG];cases e:Hu h a with
   | none=>
    dsimp only;rw[ih,e]
    split <;> rfl
   | some p=>
    have hp:p.1=a:=by
     unfold Hu at e
     split at e
     ·split at e
      ·cases e;rfl
      ·cases e
     ·cases e
    obtain⟨p1,p2⟩:=p;dsimp only at hp;subst hp;simp
  ·have hm:(a∈b::r)↔a∈r:=by simp[hb]
   rw[QG];cases e:Hu h b with
   | none=>dsimp only;rw[ih];simp only[hm]
   | some p=>
    have hp:p.1=b:=by
     unfold Hu at e
     split at e
     ·split at e
      ·cases e;rfl
      ·cases e
     ·cases e
    obtain⟨p1,p2⟩:=p;dsimp only at hp;subst hp;have hab:(a==p1)=false:=by simpa using hb
    rw[QX,hab];dsimp only;rw[ih];simp only[hm]
theorem kF(e:h.get? a=some o)(f:Hx o=true):(bB h).lookup a=some o:=by
 unfold bB;rw[oZ,P7]
 ·unfold Hu;rw[e];dsimp only;rw[P7 f];rfl
 ·rw[Q3];exact Qf e
theorem Hv(h:Heap):(bB h).In h:=fun a o e=>by
 unfold bB at e;rw[oZ] at e
 split at e
 ·unfold Hu at e;cases g:h.get? a with
  | none=>rw[g] at e;cases e
  | some o'=>
   rw[g] at e;dsimp only at e
   split at e
   ·cases e;rfl
   ·cases e
 ·cases e
noncomputable def posOf(s:Stmt):Pos:=match s with
 | .FunctionDef _ _ _ _ _ _ _ _ _ p=>p
 | _=>⟨0,0,0,0⟩
noncomputable def uF(n:Str)(s:Stmt):DefRec:=⟨n,nA s,jh s,ax s,posOf s⟩
theorem HS(r:h.CodeRec cd q):codeIn (bB h) cd q=true:=by
 obtain⟨c,o,vs,t,rfl,g,d,e⟩:=r;have f:Hx o=true:=rfl;unfold codeIn;dsimp only;rw[kF g f];obtain⟨oc,od,dt,sl⟩:=o;dsimp only at d;subst d;dsimp only;obtain⟨l⟩:=vs;cases l with
 | nil=>cases e
 | cons x l=>cases l with
  | nil=>cases e
  | cons y r=>cases y <;> first |(cases e;simp;done) |(cases e;done)
theorem vg{q:Program}{loose:List Str}{mean:ExcName->Option Value}{mg mb:Str->Option Value}{h:Heap}(T:Top q loose mean mg mb h){n:Str}{st:Stmt}(e:(recsOf q).find? (fun e=>e.name==n)=some (uF n st)):
  ∃f fd,mg n=some (.ref f)∧gg (bB h) n n st f fd:=by
 have hm:uF n st∈recsOf q:=List.mem_of_find?_eq_some e;obtain⟨a,o,pm,code,doc,m,g,d,c⟩:=T.fn _ hm;have f:Hx o=true:=rfl;have lk:=kF g f;have kp:keepIn (bB h) (.ref a)=true:=by
  unfold keepIn;dsimp only;rw[lk];obtain⟨oc,od,dt,sl⟩:=o;dsimp only at d;subst d;rfl
 obtain⟨oc,od,dt,sl⟩:=o;dsimp only at d;subst d;exact⟨a,_,m,⟨oc,od,.none,doc,pm,_,code,_,sl,rfl,lk,HS c⟩,kp⟩
theorem _root_.L2.gg.one{K:Frag}{x qual:Str}{st:Stmt}{f:Addr}{fd:FuncData}{p:Str}(F:gg K x qual st f fd)
  (h:∀(kV doc pm:Value)(an:Option Addr)(cdv ct:Value)(u:Value),bindArgs (PySem.W.fnOf x qual (nA st) (jh st) (ax st) .none kV doc pm an cdv ct) ⟨[u],[]⟩=pure [(p,u)]) (s:Shared) (u:Value):BindsTo s fd ⟨[u],[]⟩ [(p,u)]:=by
 obtain⟨oc,od,kV,doc,pm,an,cdv,ct,osl,rfl,lk,hcd⟩:=F.ex;exact .of_eq (h kV doc pm an cdv ct u)
theorem K9{l:OpenLaw}{q:Program}{loose:List Str}{XP:(Str->Option Value)->Heap->Prop}{YP:World->Heap->Prop}{d:DefRec}{k:Nat}(hn:l.most=some 63)(hdf:d.params.defaults=[])(hr:gZ k callerA)
  (F:∀(w:World)(s₀:Shared)(mg mb:Str->Option Value)(h:Heap),Ground q loose [] XP w s₀ mg mb h->YP w h->∃(fa:Addr)(fd:FuncData),mg d.name=some (.ref fa)∧(∀(s:Shared)(u:Value),BindsTo s fd ⟨[u],[]⟩ [("_law_script",u)])∧
   ∀base:Heap,(bB h).In base->base.Ns mainGlobals mg->bK l.prog w (bB h) mg base fH k fa fd ["_law_script"] (spT (bB h))):
  WalkO q loose XP YP l.row.toRowW d [] (fun f vs=>PySem.call f vs):=by
 refine Att.yX hn hdf fun w s₀ s₁ mg mb fa o pm cd doc a vs ns G Y ho hd hcd hmg hobj hints hlen hg=>?_;obtain⟨fa',fd,e,hb,hF⟩:=F w s₀ mg mb _ G Y;rw[e] at hmg;cases hmg;exact EK (Hv _) G.T.g G.T.b G.T.builtins G.T.nolimit hg hobj hints (Qm hlen (by decide)) hr hF hb (fun H hO hS=>⟨a,ns,rfl,hS,hlen,fun _=>rfl⟩) fun _ _ _ z=>z
noncomputable def freeOk(q:Program)(loose xs:List Str):Bool:=xs.all fun x=>!startupNames.contains x&&!(looseW q loose).contains x&&!((recsOf q).map (·.name)).contains x&&!((litsOf q).map (·.1)).contains x&&!((clssOf q (looseW q loose)).map (·.name)).contains x
theorem cJ(T:Top q (looseW q loose) mean mg mb h)(e:freeOk q loose xs=true)(hx:x∈xs):mg x=none:=by
 have:=Rq.mp e x hx;simp only[Qq,TL,List.contains_eq_mem,Vh] at this;exact T.free x this.1.1.1.1 this.1.1.1.2 this.1.1.2 this.1.2 this.2
end Hd
namespace Sm
open PySem L2
noncomputable def M0(f:Expr->Option D):List Expr->Option (List D)
 | []=>some []
 | e::es=>(f e).bind fun d=>(M0 f es).bind fun ds=>some (d::ds)
noncomputable def kD:Nat->Expr->Option D
 | 0,_=>none
 | n+1,e=>match e with
  | .Constant .none _ _=>some .cC
  | .Constant (.bool b) _ _=>some (.bl b)
  | .Constant (.int i) _ _=>some (.int i)
  | .Constant (.str x) _ _=>if PyData.strOk x then some (.str x) else none
  | .UnaryOp .USub (.Constant (.int i) _ _) _=>some (.int (-i))
  | .Tuple es _ _=>(M0 (kD n) es).bind fun ds=>if ds.length≤1000 then some (.tup ds) else none
  | .List es _=>(M0 (kD n) es).bind fun ds=>if ds.length≤1000 then some (.lv ds) else none
  | .Dict [] [] _=>some (.dv [])
  | _=>none
noncomputable def aK(ds:List D):AM:=fun _ h=>some (ds,h)
theorem Nl(ds:List D):nX (aK ds) ds.length:=fun δ h xs h' e=>by cases e;rfl
section
variable {X:Cx}
theorem DF(h:kD n e=some d)(es:List Expr):starEach (e::es) X.env=(false,eval e X.env)::starEach es X.env:=by
 cases n with
 | zero=>cases h
 | succ n=>cases e <;> first | rfl |(exfalso;exact(nomatch h))
theorem vU(hf:∀{e:Expr} {d:D},f e=some d->SE X e (eK d))(hs:∀{e:Expr} {d:D},f e=some d->∀es:List Expr,starEach (e::es) X.env=(false,eval e X.env)::starEach es X.env):
  ∀{es:List Expr} {ds:List D},M0 f es=some ds->SA X es (aK ds)
 | [],ds,h=>by cases h;exact af
 | e::es,ds,h=>by
  unfold M0 at h;obtain⟨d,e1,h⟩:=bL h;obtain⟨r,e2,h⟩:=bL h;cases h;exact(aa (hf e1) (vU hf hs e2) (hs e1 es):SA X _ (ab (eK d) (aK r)))
theorem fU:∀(n:Nat) {e:Expr} {d:D},kD n e=some d->SE X e (eK d)
 | 0,_,_,h=>by cases h
 | n+1,e,d,h=>by
  cases e <;> first |(cases h;done) | skip
  case Constant c _ _=>
   cases c <;> first |(cases h;done) | skip
   case none=>cases h;exact gH
   case bool=>cases h;exact eD
   case int=>cases h;exact aj
   case str x=>
    have h:(if PyData.strOk x then some (D.str x) else none)=some d:=h
    by_cases hs:PyData.strOk x=true
    ·rw[P7 hs] at h;cases h;exact ar hs
    ·rw[Qa hs] at h;cases h
  case UnaryOp o e _=>
   cases o <;> first |(cases h;done) | skip
   cases e <;> first |(cases h;done) | skip
   rename_i c _ _;cases c <;> first |(cases h;done) | skip
   cases h;exact(uA oa aj:SE X _ (Bn vI (eK _)))
  case Tuple es _ _=>
   obtain⟨ds,e1,e2⟩:=bL h
   by_cases hl:ds.length≤1000
   ·rw[P7 hl] at e2;cases e2;exact(az (vU (fU n) DF e1) (Nl ds) (Qm hl (by decide)):SE X _ (aw aV (aK ds)))
   ·rw[Qa hl] at e2;cases e2
  case List es _=>
   obtain⟨ds,e1,e2⟩:=bL h
   by_cases hl:ds.length≤1000
   ·rw[P7 hl] at e2;cases e2;exact(gW.lv (bE (vU (fU n) DF e1) (Nl ds) (Qm hl (by decide))):SE X _ (eR (aK ds)))
   ·rw[Qa hl] at e2;cases e2
  case Dict ks vs _=>
   cases ks <;> first |(cases h;done) | skip
   cases vs <;> first |(cases h;done) | skip
   cases h;exact Mv
end
end Sm
namespace L2
open PySem PySem.Spec PyProof.Rows
noncomputable def dM(ns:List Int):List Int:=ns.mergeSort fun a b=>decide (a≤b)
theorem df(ns:List Int):(dM ns).Perm ns:=VJ _ _
theorem mG(ns:List Int):(dM ns).Pairwise (·≤·):=by
 have:=Vj (le:=fun a b:Int=>decide (a≤b)) (fun a b c h1 h2=>by simp at h1 h2 ⊢;lia) (fun a b=>by simp;lia) ns;exact this.imp fun h=>by simpa using h
theorem qX(hp:ss.Perm ns)(h:ss.Pairwise (·≤·)):ss=dM ns:=
 TR (fun a b _ _ h1 h2=>Int.le_antisymm h1 h2) h (mG ns) (hp.trans (df ns).symm)
theorem Ay:eN X (.builtin "sorted") (fun xs H Q=>∃a ss,xs=[.ref a]∧gA X.K H a (ss.map V.int)∧ss.length < 64∧∀l,H l=none->Q (.ref l) (upd H l (.lst ((dM ss).map V.int)))):=by
 intro pins s σ H xs us Q I r h;obtain⟨a,ss,rfl,ha,h64,q⟩:=h;obtain⟨u,rfl,ru⟩:=vals1 r;cases ru;obtain⟨its,rv,p,hz⟩:=I.list ha;have hS:=intsAre_of rv;have hlen:its.length=ss.length:=by have:=rv.length;rw[P1] at this;exact this.symm
 refine sorted_ints p.isList hS (by lia) fun out ss' h1 h2 h3=>?_;have:=qX h2 h3;subst this;have hl:s.heap.objs.size≤s.heap.objs.size+1:=Tf _;obtain⟨e,ho⟩:=sortedAll_at s.heap its out;have hz':((dM ss).map V.int).length≤sizeLine:=by rw[P1,(df ss).length_eq,QL];lia
 refine⟨.ref (s.heap.objs.size+1),_,I.laid (t':=s.toks) (o:=.lst ((dM ss).map V.int)) (fun b o q=>sortedAll_old q) hl ⟨hz',out.toList,e,iC h1,?_⟩,rfl,q _ (I.bC.fresh hl)⟩;rw[ho]
end L2
namespace Sm
open PySem L2 PySem.Spec PyProof.Rows
noncomputable def E4:Fn:=fun ds h=>match ds with
 | [d]=>(fF d h).bind fun xs=>(kZ xs).bind fun ns=>if ns.length < 64 then some (.lv ((dM ns).map D.int),h) else none
 | _=>none
theorem repL_ints'{K:FR}{ρ:Ad}{H:Hp}:∀(ns:List Int),aF K ρ H (ns.map V.int) (ns.map D.int)
 | []=>.nil
 | n::r=>.cons (.int n) (repL_ints' r)
theorem Fm:gy X (.builtin "sorted") E4:=by
 intro pins s σ H xs us Q I r hh;obtain⟨ρ,h,ds,z,h',S,l,ee,k⟩:=hh
 match ds,l,ee with
 | [],_,ee=>cases ee
 | _::_::_,_,ee=>cases ee
 | [d],l,ee=>
  obtain⟨v,rfl,rd⟩:=rep1 l;obtain⟨ys,e1,e2⟩:=bL ee;obtain⟨ns,e3,e4⟩:=bL e2
  by_cases c:ns.length < 64
  ·rw[P7 c] at e4;cases e4;obtain⟨a,vs,rfl,ha,la⟩:=ej S rd e1;have:=so e3;subst this;have:=lM la;subst this;exact Ay pins s σ H _ us Q I r ⟨a,ns,rfl,gA.of ha,c,fun l hl=>k _ _ (.lv S (repL_ints' _) hl)⟩
  ·rw[Qa c] at e4;cases e4
noncomputable def Aj(m:LI):EM:=fun δ h=>(m δ h).bind fun p=>if p.1.length≤15 then some (.ob p.2.length,p.2++[.dct (EF [] p.1)]) else none
theorem DO(h:SP X pos keys vals m)(hall:keys.all (·.isSome)=true)(hl:keys.length=vals.length)(h0:keys≠[])(hp:∀trs,LW X pos keys vals trs->PE X (.Dict keys vals pos) (Iv trs)):SE X (.Dict keys vals pos) (Aj m):=by
 obtain⟨trs,h1,h2⟩:=h;refine(hp trs h1).imp fun σ H Q ⟨ρ,δ,h,d,h',R,S,ee,k⟩ p hpn=>?_;obtain⟨⟨kvs,ha⟩,e1,e2⟩:=bL ee;dsimp only at e2
 by_cases z:kvs.length≤15
 ·rw[P7 z] at e2;cases e2;have Tl:Ch ρ H (ρ.keep p) (upd H p (.dK [])):=Ch.keep hpn;have nl:¬ρ.has p:=S.fresh hpn;refine h2 σ _ _ ⟨ρ.keep p,δ,h,kvs,_,R.mono Tl,S.keep hpn,e1,fun us ρ2 H2 T2 S2 r2=>?_⟩;have hp2:H2 p=some (.dK []):=(T2.res p Qe).trans bh;refine⟨hp2,us,rfl,by rw[r2.len];exact z,?_⟩;obtain⟨ob2,rs2⟩:=ρ2;have ers:rs2=p::ρ.rs:=T2.rs;subst ers;have hml:p∈(⟨ob2,p::ρ.rs⟩:Ad).rs:=Qe;have npo:p∉ob2:=(S2.uC p hml).2;have hne:∀b∈ρ.rs,b≠p:=fun b hb z=>nl (.inr (z ▸ hb));generalize hH3:upd H2 p (.dK (jY [] us))=H3;have at3:∀b,b≠p->H3 b=H2 b:=fun b hb=>by rw[←hH3,aT hb]
  have C23:Ch ⟨ob2,p::ρ.rs⟩ H2 ⟨ob2++[p],ρ.rs⟩ H3:=by
   refine⟨fun n a e=>?_,fun b o nb eb=>⟨fun z=>?_,?_⟩⟩
   ·show(ob2++[p])[n]?=_;rw[Qk (P4.mp e).1];exact e
   ·rcases z with z | z
    ·rcases Qx.mp z with z | z
     ·exact nb (.inl z)
     ·exact nb (.inr (by rw[Qj.mp z];exact Qe))
    ·exact nb (.inr (Qc _ z))
   ·rw[at3 b (fun z=>nb (.inr (by rw[z];exact Qe)))];exact eb
  refine k _ _ ⟨⟨ob2++[p],ρ.rs⟩,⟨(Tl.trans T2.toCh).trans C23,rfl,fun b hb=>?_⟩,?_,.ob (by show(ob2++[p])[ha.length]?=_;rw[←S2.len];simp)⟩
  ·rw[at3 b (hne b hb),T2.res b (Qc _ hb)];exact aT (hne b hb)
  ·refine⟨by show(ob2++[p]).length=_;simp;exact S2.len,?_,fun n a x e1 e2=>?_,fun b hb=>?_⟩
   ·show(ob2++[p]).Nodup;rw[Rt];exact⟨S2.nd,by simp,fun a ha b hb z=>npo (by rw[←Qj.mp hb,←z];exact ha)⟩
   ·have e1:(ob2++[p])[n]?=some a:=e1;have hlen:ob2.length=ha.length:=S2.len
    by_cases hn:n < ob2.length
    ·rw[Qk hn] at e1;rw[Qk (by lia)] at e2;exact(S2.at_ n a x e1 e2).mono C23 (at3 a fun z=>npo (z ▸ P6 e1))
    ·have l1:=(P4.mp e1).1;simp at l1;have hn':n=ob2.length:=by lia
     subst hn';rw[Qw (P8 _)] at e1;rw[Qw (by lia),hlen] at e2;simp at e1 e2;subst e1;subst e2;exact⟨jY [] us,by rw[←hH3];exact bh,(bH.merge .nil r2).mono C23⟩
   ·obtain⟨⟨o,eo⟩,nb⟩:=S2.uC b (Qc _ hb);refine⟨⟨o,by rw[at3 b (hne b hb)];exact eo⟩,fun z=>?_⟩;rcases Qx.mp z with z | z
    ·exact nb z
    ·exact hne b hb (Qj.mp z)
 ·rw[Qa z] at e2;cases e2
noncomputable def HF(d e:D)(h:MH):Option (D×MH):=match e with
 | .int n=>(fF d h).bind fun xs=>if 0≤n∧n≤1000∧xs.length≤1000 then some (.lv (List.replicate n.toNat xs).flatten,h) else none
 | _=>none
theorem aF.rep{K:FR}{ρ:Ad}{H:Hp}{vs:List V}{ds:List D}(h:aF K ρ H vs ds):∀k:Nat,aF K ρ H (List.replicate k vs).flatten (List.replicate k ds).flatten
 | 0=>.nil
 | k+1=>by
  rw[RD,RD,Sr,Sr];exact h.append (aF.rep h k)
theorem Eu:nZ X (binaryOp .Mult) HF:=by
 intro pins s σ H x y v u Q I rx ry hh;obtain⟨ρ,h,d,e,z,h',S,rd,re,ee,k⟩:=hh;cases e <;> first |(cases ee;done) | skip
 rename_i n;obtain⟨xs,e1,e2⟩:=bL (show(fF d h).bind _=_ from ee)
 by_cases c:0≤n∧n≤1000∧xs.length≤1000
 ·rw[P7 c] at e2;cases e2;obtain⟨a,vs,rfl,ha,la⟩:=ej S rd e1;cases re;have hb:xs.length*n.toNat≤1000*1000:=Nat.mul_le_mul c.2.2 (by lia);exact Ku pins s σ H _ _ v u Q I rx ry ⟨a,n,vs,rfl,rfl,ha,by lia,by lia,by rw[la.length,show sizeLine=16777216 from rfl];lia,fun l hl=>k _ _ (.lv S (la.rep _) hl)⟩
 ·rw[Qa c] at e2;cases e2
end Sm
namespace L2
open PySem PySem.Spec PyProof.Rows
theorem ux:∀(us:List Value)(o:Nat),(∀(j:Nat) v,us[j]?=some v->∃t,v=.int ((o:Int)+j) t)->Vals ((List.range' o us.length).map fun(k:Nat)=>V.int k) us
 | [],_,_=>.nil
 | u::r,o,h=>by
  rw[Qv,List.range'_succ,Qd];obtain⟨t,e⟩:=h 0 u rfl;refine .cons ⟨t,by rw[e];simp⟩ (ux r (o+1) fun j v hv=>?_);obtain⟨t,e⟩:=h (j+1) v (by simpa using hv);exact⟨t,by rw[e];congr 1;lia⟩
theorem Ce(hc:X.calm=true)(hg1:Gl X "list")(hm1:X.mg "list"=none)(hg2:Gl X "range")(hm2:X.mg "range"=none)(hv:bootBuiltins "list"=some (.type "list"))(ha:PA X [a] ta)(hs:starEach [a] X.env=[(false,eval a X.env)]):
  PE X (.Call (.Name "list" p) [.Call (.Name "range" p2) [a] [] pos2] [] pos) (fun σ H Q=>ta σ H fun vs H1=>∃j:Int,vs=[.int j]∧0≤j∧j≤1000∧∀l,H1 l=none->Q (.ref l) (upd H1 l (.lst ((List.range j.toNat).map fun(k:Nat)=>V.int k)))):=by
 intro pins s σ H Q I h;refine SX (j5 I hg1 hm1 hv ?_);refine Rz ?_ rfl rfl;show wpAny _ _ (spliced ((false,eval (.Call (.Name "range" p2) [a] [] pos2) X.env)::backTo pos (starEach [] X.env))) _ _ s;refine Calls.spliced_cons ?_;refine SX (j5 I hg2 hm2 boot_range (Rz (cN (ha pos2 pins s σ H _ I h) fun us s1 ⟨vs,H1,I1,r1,q1⟩=>?_) hs rfl));obtain⟨j,e,j0,j1,q⟩:=q1;subst e;cases r1 with
 | cons r rr=>
  cases rr;obtain⟨t,rfl⟩:=r;refine call_range_1 ?_;have I2:Inv X pins σ H1 {s1 with heap:=s1.heap.push {cls:=.type "range",data:=.fields #[.int 0 s1.toks,.int j t,.int 1 (s1.toks+1)]},toks:=s1.toks+1+1}:=I1.kept fun b o e=>P2 _ e;refine Calls.spliced_nil ?_;refine call_list_range (n:=j.toNat) (I1.ok.hd hc) (IsRange.new ..) (small_one (by lia) (by lia) (by lia) (by lia)) (by rw[rangeSize_one];split <;> lia) (by lia) fun h' tk acc' c' hk hS' hacc=>?_;have hlen:acc'.toList.length=j.toNat:=by rw[RE];exact hacc.1
  have hv:Vals ((List.range j.toNat).map fun(k:Nat)=>V.int k) acc'.toList:=by
   have:=ux acc'.toList 0 fun i v hv=>by
    obtain⟨t,e⟩:=hacc.2 i v (by simpa using hv);exact⟨t,by rw[e];congr 1;simp⟩
   rw[hlen] at this;rw[List.range_eq_range'];exact this
  refine⟨.ref _,_,I2.laid (t':=tk) (o:=.lst ((List.range j.toNat).map fun(k:Nat)=>V.int k)) hk (P8 _) ⟨by rw[P1,Qt,QL];lia,acc'.toList,c',hv,?_⟩,rfl,q _ (I2.bC.fresh (P8 _))⟩;rw[hS']
end L2
namespace Sm
open PySem L2 PySem.Spec PyProof.Rows
noncomputable def Lz(m:AM):AM:=fun δ h=>(m δ h).bind fun p=>match p.1 with
 | [.int j]=>if 0≤j∧j≤1000 then some ((List.range j.toNat).map fun(k:Nat)=>D.int k,p.2) else none
 | _=>none
theorem rq{K:FR}{ρ:Ad}{H:Hp}:∀l:List Nat,aF K ρ H (l.map fun(k:Nat)=>V.int k) (l.map fun(k:Nat)=>D.int k)
 | []=>.nil
 | n::r=>.cons (.int n) (rq r)
theorem BS(hc:X.calm=true)(hg1:Gl X "list")(hm1:X.mg "list"=none)(hg2:Gl X "range")(hm2:X.mg "range"=none)(hv:bootBuiltins "list"=some (.type "list"))(ha:SA X [a] m)(hs:starEach [a] X.env=[(false,eval a X.env)]:=by ac_nf):
  gW X (.Call (.Name "list" p) [.Call (.Name "range" p2) [a] [] pos2] [] pos) (Lz m):=(Ce hc hg1 hm1 hg2 hm2 hv ha hs).imp fun σ H Q ⟨ρ,δ,h,ds,h',R,S,e,k⟩=>by
 obtain⟨⟨xs,h1⟩,e1,e2⟩:=bL e;dsimp only at e2
 split at e2
 ·rename_i j
  split at e2
  ·rename_i c;cases e2;refine⟨ρ,δ,h,_,_,R,S,e1,fun vs ρ1 H1 T1 S1 r1=>?_⟩;obtain⟨v,rfl,rd⟩:=rep1 r1;cases rd;exact⟨j,rfl,c.1,c.2,fun l hl=>k ρ1 H1 l _ T1 S1 hl (rq _)⟩
  ·cases e2
 ·cases e2
noncomputable def LA(ma mb:EM):AM:=fun δ h=>(ma δ h).bind fun p=>(mb δ p.2).bind fun q=>(fF p.1 q.2).bind fun xs=>(fF q.1 q.2).bind fun ys=>if xs.length+ys.length≤sizeLine then some (xs++ys,q.2) else none
theorem Jr(ha:SE X a ma)(hb:SE X b mb):gW X (.BinOp a .Add b pos) (LA ma mb):=(ID Ez ha hb).imp fun σ H Q ⟨ρ,δ,h,ds,h',R,S,e,k⟩=>by
 obtain⟨⟨x,h1⟩,e1,e2⟩:=bL e;obtain⟨⟨y,h2⟩,e3,e4⟩:=bL e2;obtain⟨xs,e5,e6⟩:=bL e4;obtain⟨ys,e7,e8⟩:=bL e6;dsimp only at e3 e5 e7
 split at e8
 ·rename_i c;cases e8;refine⟨ρ,δ,h,x,h1,R,S,e1,fun v H1 ⟨ρ1,T1,S1,r1⟩=>⟨ρ1,δ,h1,y,h2,R.mono T1.toCh,S1,e3,fun u H2 ⟨ρ2,T2,S2,r2⟩=>?_⟩⟩;obtain⟨a,vs,rfl,hA,lA⟩:=ej S2 (r1.mono T2.toCh) e5;obtain⟨b,us,rfl,hB,lB⟩:=ej S2 r2 e7;exact⟨a,b,vs,us,rfl,rfl,hA,hB,by rw[lA.length,lB.length];exact c,fun p hp=>k ρ2 H2 p (vs++us) (T1.trans T2) S2 hp (lA.append lB)⟩
 ·cases e8
end Sm
namespace Sm
open PySem L2
theorem E7(a b:Int)(h:MH):bY (.int a) (.int b) h=some (.bl (a==b),h):=rfl
theorem HL(a b:Bool)(h:MH):bY (.bl a) (.bl b) h=some (.bl (a==b),h):=rfl
theorem rL:∀cs:List Int,kT (cs.map D.int)=some (cs.map PyData.int)
 | []=>rfl
 | c::r=>by simp only[Qd,kT,rN,rL r,QB,QA]
theorem mj:∀cs:List Int,PyData.depthAll (cs.map PyData.int)=0
 | []=>rfl
 | c::r=>by simp only[Qd,PyData.depthAll,mj r,PyData.depth];rfl
theorem CJ{h:MH}{c:Nat}{cs:List Int}(hc:h[c]?=some (.lst (cs.map D.int))):nr (.ob c) (.lv []) h=some (.bl (!cs.isEmpty),h):=by
 simp only[nr,HN,eu,hc,Lj,tZ,rL,rN,kT,QA,QB,PyData.depth,mj];cases cs <;> rfl
theorem j9(hn:h[n]?=some (.lst xs))(e:iz xs i=some d):aY (.ob n) (.int i) h=some (d,h):=by
 simp only[aY,eu,hn,cR,QB,e,QA]
theorem Bl(hn:h[n]?=some (.lst xs)):cx [.ob n] h=some (.int xs.length,h):=by
 simp only[cx,eu,hn,cR,QA]
theorem xb(hn:h[n]?=some (.lst xs))(e:wN xs.length i=some p):uc (.ob n) (.int i) d h=some (h.set n (.lst (xs.set p d))):=by
 simp only[uc,hn,e,QA]
theorem FO(cs:List Int)(i:Int)(h0:0≤i)(h1:i < cs.length):∃z,iz (cs.map D.int) i=some (.int z):=by
 have hlt:i.toNat < cs.length:=by lia
 refine⟨cs[i.toNat]'hlt,?_⟩;have e:((i.toNat:Nat):Int)=i:=VL h0;have q:iz (cs.map D.int) ((i.toNat:Nat):Int)=some (D.int (cs[i.toNat]'hlt)):=nK (by rw[Qi,P9 hlt];rfl);rw[e] at q;exact q
theorem FL(h0:0≤i)(h1:i < xs.length):∃v,iz xs i=some v∧v∈xs:=by
 have hlt:i.toNat < xs.length:=by lia
 have e:((i.toNat:Nat):Int)=i:=VL h0;have q:iz xs ((i.toNat:Nat):Int)=some (xs[i.toNat]'hlt):=nK (P9 hlt);rw[e] at q;exact⟨_,q,Uc hlt⟩
end Sm
namespace Sm
open PySem
def Rn{α:Type}(o:Option α)(Q:α->Prop):Prop:=∃a,o=some a∧Q a
theorem rv(e:o=some a)(q:Q a):Rn o Q:=⟨a,e,q⟩
theorem Rn.imp(r:Rn o Q)(f:∀a,Q a->Q' a):Rn o Q':=let⟨a,e,q⟩:=r;⟨a,e,f a q⟩
theorem ba(r:Rn o fun a=>Rn (f a) Q):Rn (o.bind f) Q:=by
 obtain⟨a,e,b,e2,q⟩:=r;exact⟨b,by rw[e];exact e2,q⟩
theorem DX(r:Rn o fun a=>Q (f a)):Rn (o.map f) Q:=by
 obtain⟨a,e,q⟩:=r;exact⟨f a,by rw[e];rfl,q⟩
theorem My(e:δ[i]?=some (some d))(q:Q (d,h)):Rn (ae i δ h) Q:=⟨(d,h),by unfold ae;rw[e];rfl,q⟩
theorem PH(q:Q (d,h)):Rn (eK d δ h) Q:=⟨_,rfl,q⟩
theorem GH(r:Rn (a δ h) fun p=>Rn (b δ p.2) fun q=>Rn (f p.1 q.1 q.2) Q):Rn (ay f a b δ h) Q:=ba (r.imp fun _ r=>ba r)
theorem Oi(r:Rn (a δ h) fun p=>Rn (f p.1 p.2) Q):Rn (Bn f a δ h) Q:=ba r
theorem x5(q:Q ([],h)):Rn (ah δ h) Q:=⟨_,rfl,q⟩
theorem rH(r:Rn (a δ h) fun p=>Rn (m δ p.2) fun q=>Q (p.1::q.1,q.2)):Rn (ab a m δ h) Q:=ba (r.imp fun _ r=>ba (r.imp fun _ q=>⟨_,rfl,q⟩))
theorem B7(r:Rn (m δ h) fun p=>Rn (f p.1 p.2) Q):Rn (aw f m δ h) Q:=ba r
theorem Om(r:Rn (t δ h) fun p=>(p.1=true->Rn (a δ p.2) Q)∧(p.1=false->Rn (b δ p.2) Q)):Rn (PQ t a b δ h) Q:=ba (r.imp fun p ⟨q1,q2⟩=>by
 obtain⟨c,h⟩:=p;cases c with
 | true=>exact q1 rfl
 | false=>exact q2 rfl)
theorem rJ(r:Rn (a δ h) fun p=>∃c,p.1=.bl c∧Q (c,p.2)):Rn (aM a δ h) Q:=ba (r.imp fun p ⟨c,e,q⟩=>⟨(c,p.2),by rw[e],q⟩)
theorem wg(r:Rn (a δ h) fun p=>∃c,Dz p.1 p.2=some c∧Q (c,p.2)):Rn (dW a δ h) Q:=ba (r.imp fun p ⟨c,e,q⟩=>⟨(c,p.2),by rw[e];rfl,q⟩)
theorem lP(r:Rn (t δ h) fun p=>Q (!p.1,p.2)):Rn (Sm.eI t δ h) Q:=DX r
theorem JG(r:Rn (a δ h) fun p=>(p.1=true->Rn (b δ p.2) Q)∧(p.1=false->Q (false,p.2))):Rn (Sm.mE a b δ h) Q:=ba (r.imp fun p ⟨q1,q2⟩=>by
 obtain⟨c,h⟩:=p;cases c with
 | true=>exact q1 rfl
 | false=>exact⟨_,rfl,q2 rfl⟩)
theorem D2(r:Rn (a δ h) fun p=>(p.1=true->Q (true,p.2))∧(p.1=false->Rn (b δ p.2) Q)):Rn (Sm.qv a b δ h) Q:=ba (r.imp fun p ⟨q1,q2⟩=>by
 obtain⟨c,h⟩:=p;cases c with
 | true=>exact⟨_,rfl,q1 rfl⟩
 | false=>exact q2 rfl)
theorem D6(r:Rn (a δ h) fun p=>∃c,p.1=.bl c∧(c=true->Rn (b δ p.2) Q)∧(c=false->Q (.bl false,p.2))):Rn (kR a b δ h) Q:=ba (r.imp fun p ⟨c,e,q1,q2⟩=>by
 rw[e];cases c with
 | true=>exact q1 rfl
 | false=>exact⟨_,rfl,q2 rfl⟩)
theorem Ol(r:Rn (a δ h) fun p=>∃c,p.1=.bl c∧(c=true->Q (.bl true,p.2))∧(c=false->Rn (b δ p.2) Q)):Rn (OU a b δ h) Q:=ba (r.imp fun p ⟨c,e,q1,q2⟩=>by
 rw[e];cases c with
 | true=>exact⟨_,rfl,q1 rfl⟩
 | false=>exact q2 rfl)
theorem MD(r:Rn (a δ h) fun p=>∃c,p.1=.bl c∧Q (.bl (!c),p.2)):Rn (HP a δ h) Q:=ba (r.imp fun p ⟨c,e,q⟩=>⟨_,by rw[e],q⟩)
theorem B6(r:Rn (m δ h) fun p=>Q (.lv p.1,p.2)):Rn (eR m δ h) Q:=DX r
theorem MC(r:Rn (m δ h) fun p=>Q (.ob p.2.length,p.2++[.lst p.1])):Rn (sE m δ h) Q:=DX r
theorem Ot(q:Q (.dv [],h)):Rn (Pe δ h) Q:=⟨_,rfl,q⟩
theorem Ou(q:Q (.ob h.length,h++[.dct []])):Rn (PR δ h) Q:=⟨_,rfl,q⟩
theorem wk(r:Rn (m δ h) fun p=>∃d xs ws,p.1=[d]∧cR d p.2=some (xs,ws)∧Q (xs,p.2)):Rn (k6 m δ h) Q:=ba (r.imp fun p ⟨d,xs,ws,e,e2,q⟩=>⟨(xs,p.2),by rw[e];dsimp only;rw[e2];rfl,q⟩)
theorem Mz(q:Q (none,h)):Rn (IF δ h) Q:=⟨_,rfl,q⟩
theorem MA(r:Rn (a δ h) fun p=>∃i,p.1=.int i∧Q (some i,p.2)):Rn (IG a δ h) Q:=ba (r.imp fun p ⟨c,e,q⟩=>⟨_,by rw[e],q⟩)
theorem Oj(r:Rn (a δ h) fun p=>Rn (l δ p.2) fun q=>Rn (u δ q.2) fun r=>Rn (Lc p.1 q.1 r.1 r.2) Q):Rn (PN a l u δ h) Q:=ba (r.imp fun _ r=>ba (r.imp fun _ r=>ba r))
abbrev SQ:=Fl×DS×MH->Prop
theorem iq(q:Q (.nx,δ,h)):Rn (bM δ h) Q:=⟨_,rfl,q⟩
theorem JH(q:Q (.bk,δ,h)):Rn (Og δ h) Q:=⟨_,rfl,q⟩
theorem GG(q:Q (.ct,δ,h)):Rn (Mx δ h) Q:=⟨_,rfl,q⟩
def uz(b:SM)(Q:SQ):SQ:=fun r=>match r.1 with
 | .nx=>Rn (b r.2.1 r.2.2) Q
 | _=>Q r
theorem fu(r:Rn (a δ h) (uz b Q)):Rn (av a b δ h) Q:=ba (r.imp fun p q=>by
 obtain⟨f,δ',h'⟩:=p;cases f with
 | nx=>exact q
 | bk=>exact⟨_,rfl,q⟩
 | ct=>exact⟨_,rfl,q⟩
 | rt d=>exact⟨_,rfl,q⟩)
theorem rG(r:Rn (e δ h) fun p=>Q (.nx,δ.set i (some p.1),p.2)):Rn (aZ i e δ h) Q:=ba (r.imp fun _ q=>⟨_,rfl,q⟩)
theorem MG(r:Rn (e δ h) fun p=>Rn (g p.1 δ p.2) fun q=>Q (.nx,q.1,q.2)):Rn (lH e g δ h) Q:=ba (r.imp fun _ r=>ba (r.imp fun _ q=>⟨_,rfl,q⟩))
theorem JL(r:Rn (e δ h) fun p=>Q (.nx,δ,p.2)):Rn (ft e δ h) Q:=ba (r.imp fun _ q=>⟨_,rfl,q⟩)
theorem uG(r:Rn (e δ h) fun p=>Q (.rt p.1,δ,p.2)):Rn (aX e δ h) Q:=ba (r.imp fun _ q=>⟨_,rfl,q⟩)
theorem rE(r:Rn (t δ h) fun p=>(p.1=true->Rn (a δ p.2) Q)∧(p.1=false->Rn (b δ p.2) Q)):Rn (fb t a b δ h) Q:=ba (r.imp fun p ⟨q1,q2⟩=>by
 obtain⟨c,h⟩:=p;cases c with
 | true=>exact q1 rfl
 | false=>exact q2 rfl)
theorem MB(r:Rn (m δ h) fun p=>∃a b,p.1=[a,b]∧Q (.nx,(δ.set i (some a)).set j (some b),p.2)):Rn (DU i j m δ h) Q:=ba (r.imp fun p ⟨a,b,e,q⟩=>⟨_,by rw[e],q⟩)
theorem Oq(q:Q (δ.set i (some d),h)):Rn (gN i d δ h) Q:=⟨_,rfl,q⟩
theorem JK(r:Rn (o δ h) fun p=>Rn (i δ p.2) fun q=>Rn (uc p.1 q.1 v q.2) fun h'=>Q (δ,h')):Rn (Sm.ua o i v δ h) Q:=ba (r.imp fun _ r=>ba (r.imp fun _ r=>DX r))
theorem Oo(hn:xs.length=n)(r:Rn (u xs δ h) Q):Rn (gT n u (.tup xs) δ h) Q:=by
 unfold gT;dsimp only;rw[P7 hn];exact r
theorem D4(r:Rn (g d δ h) fun p=>Rn (u xs p.1 p.2) Q):Rn (aN g u (d::xs) δ h) Q:=ba r
theorem GI(q:Q (δ,h)):Rn (dE [] δ h) Q:=⟨_,rfl,q⟩
def Gy(Q:D×MH->Prop):SQ:=fun r=>match r.1 with
 | .rt d=>Q (d,r.2.2)
 | .nx=>Q (.cC,r.2.2)
 | _=>False
theorem OH(q:Q (d,h)):Gy Q (.rt d,δ,h):=q
theorem OI(q:Q (.cC,h)):Gy Q (.nx,δ,h):=q
theorem lg(r:Rn (b δ h) Q):uz b Q (.nx,δ,h):=r
theorem NX(q:Q (.rt d,δ,h)):uz b Q (.rt d,δ,h):=q
theorem NZ(q:Q (.bk,δ,h)):uz b Q (.bk,δ,h):=q
theorem NY(q:Q (.ct,δ,h)):uz b Q (.ct,δ,h):=q
def uW(I:DS->MH->Prop)(Q:SQ):SQ:=fun z=>match z.1 with
 | .nx=>I z.2.1 z.2.2
 | .ct=>I z.2.1 z.2.2
 | .bk=>Q (.nx,z.2.1,z.2.2)
 | .rt d=>Q (.rt d,z.2.1,z.2.2)
theorem EL(q:I δ h):uW I Q (.nx,δ,h):=q
theorem ON(q:I δ h):uW I Q (.ct,δ,h):=q
theorem OO(q:Q (.nx,δ,h)):uW I Q (.bk,δ,h):=q
theorem OM(q:Q (.rt d,δ,h)):uW I Q (.rt d,δ,h):=q
theorem cq(r:Rn (b (entry len ds) h) (Gy Q)):Rn (ju len b ds h) Q:=ba (r.imp fun p q=>by
 obtain⟨f,δ',h'⟩:=p;cases f with
 | nx=>exact⟨_,rfl,q⟩
 | rt d=>exact⟨_,rfl,q⟩
 | bk=>exact q.elim
 | ct=>exact q.elim)
theorem x6(r:Rn (i δ h) fun p=>Rn (nj p.2.1 g b p.1 δ p.2.2) Q):Rn (fL i g b δ h) Q:=ba r
theorem cW:∀{xs:List D} {δ:DS} {h:MH} (I:Nat->DS->MH->Prop),I 0 δ h->(∀i δ h,i≤xs.length->I i δ h->ke ws h=true)->
  (∀i x δ h,xs[i]?=some x->I i δ h->Rn (g x δ h) fun q=>Rn (b q.1 q.2) (uW (I (i+1)) Q))->(∀δ h,I xs.length δ h->Q (.nx,δ,h))->Rn (nj ws g b xs δ h) Q
 | [],δ,h,I,h0,hc,_,hq=>by
  unfold nj;rw[P7 (hc 0 δ h (P8 _) h0)];exact⟨_,rfl,hq δ h h0⟩
 | x::xs,δ,h,I,h0,hc,ht,hq=>by
  unfold nj;rw[P7 (hc 0 δ h (Q9 _) h0)];obtain⟨q,e1,z,e2,hz⟩:=ht 0 x δ h rfl h0;rw[e1];show Rn ((b q.1 q.2).bind _) Q;rw[e2];obtain⟨f,δ',h'⟩:=z;have next:I 1 δ' h'->Rn (nj ws g b xs δ' h') Q:=fun hi=>cW (fun i=>I (i+1)) hi (fun i δ h hl=>hc (i+1) δ h (Ub hl)) (fun i x δ h hx=>ht (i+1) x δ h (by simpa using hx)) hq
  cases f with
  | nx=>exact next hz
  | ct=>exact next hz
  | bk=>exact⟨_,rfl,hz⟩
  | rt d=>exact⟨_,rfl,hz⟩
theorem cV(r:Rn (e δ h) fun p=>∃xs ws,cR p.1 p.2=some (xs,ws)∧Q (xs,ws,p.2)):Rn (cZ e δ h) Q:=ba (r.imp fun p ⟨xs,ws,e,q⟩=>⟨(xs,ws,p.2),by rw[e];rfl,q⟩)
theorem fv(r:Rn (m δ h) fun p=>∃j:Int,p.1=[.int j]∧-(2^62)≤j∧j < 2^62∧Q ((List.range j.toNat).map fun(k:Nat)=>D.int (k:Int),[],p.2)):Rn (iI m δ h) Q:=ba (r.imp fun p ⟨j,e,h1,h2,q⟩=>by
 rw[e];dsimp only;rw[P7 ⟨h1,h2⟩];exact⟨_,rfl,q⟩)
theorem JJ(r:Rn (m δ h) fun p=>∃d e xs ys ws ws',p.1=[d,e]∧cR d p.2=some (xs,ws)∧cR e p.2=some (ys,ws')∧Q (n4 xs ys,ws++ws',p.2)):Rn (K8 m δ h) Q:=
 ba (r.imp fun p ⟨d,e,xs,ys,ws,ws',e1,e2,e3,q⟩=>⟨_,by rw[e1];dsimp only;rw[e2];dsimp only[Option.bind_some];rw[e3];rfl,q⟩)
theorem mR(r:Rn (m δ h) fun p=>∃d xs ws,p.1=[d]∧cR d p.2=some (xs,ws)∧Q (jm 0 xs,ws,p.2)):Rn (sr m δ h) Q:=
 ba (r.imp fun p ⟨d,xs,ws,e1,e2,q⟩=>⟨_,by rw[e1];dsimp only;rw[e2];rfl,q⟩)
theorem JM(r:Rn (i δ h) fun p=>Rn (bR p.2.1 g c e p.1 (jn caps δ) p.2.2) fun q=>q.1.length≤sizeLine∧Q q):Rn (bD caps i g c e δ h) Q:=
 ba (r.imp fun p r=>ba (r.imp fun q ⟨hz,hq⟩=>⟨q,by rw[P7 hz],hq⟩))
theorem qD(hc:ke ws h=true)(f:D->Option D)(J:DS->Prop):∀{xs:List D} {δ:DS},J δ->
  (∀x∈xs,∀δ,J δ->Rn (g x δ h) fun q=>q.2=h∧Rn (c q.1 h) fun t=>t.2=h∧J q.1∧(t.1=true->∃y,f x=some y∧Rn (e q.1 h) fun p=>p=(y,h))∧(t.1=false->f x=none))->
  bR ws g c e xs δ h=some (xs.filterMap f,h)
 | [],δ,_,_=>by unfold bR;rw[P7 hc];rfl
 | x::xs,δ,hJ,ht=>by
  unfold bR;rw[P7 hc];obtain⟨⟨δ1,h1⟩,e1,rfl,⟨t,h2⟩,e2,rfl,J1,q1,q2⟩:=ht x Qe δ hJ;rw[e1];dsimp only[Option.bind_some] at e2 q1 q2 ⊢;rw[e2];dsimp only[Option.bind_some];have ih:=qD hc f J J1 (xs:=xs) fun y hy=>ht y (Qc _ hy);cases t with
  | true=>
   obtain⟨y,ef,p,ep,rfl⟩:=q1 rfl;rw[P7 rfl,ep];dsimp only[Option.bind_some];rw[ih,QG,ef];rfl
  | false=>
   rw[Qa (by simp),ih,QG,q2 rfl]
theorem HK(hd:eu d h=some kvs)(hv:gX kvs (.inr x)=some v):aY d (.str x) h=some (v,h):=by
 simp only[aY,hd,qk,QB,hv,QA]
theorem Ab(hd:eu d h=some kvs):fR (.str x) d h=some (.bl (!(gX kvs (.inr x)).isSome),h):=by
 simp only[fR,inD,hd,qk,QA]
end Sm
namespace Sm
theorem D1(q:Q (d,h))(e:δ[i]?=some (some d):=by with_unfolding_all rfl):Rn (ae i δ h) Q:=My e q
theorem IB(r:Rn (u xs δ h) Q)(hn:xs.length=n:=by with_unfolding_all rfl):Rn (gT n u (.tup xs) δ h) Q:=Oo hn r
end Sm
namespace Sm
open PySem L2
theorem qE:∀(xs:List D)(P:List D->DS->MH->α->Prop)(δ:DS)(h:MH)(a:α),P xs δ h a->
  (∀x r δ h a,P (x::r) δ h a->ke ws h=true∧Rn (g x δ h) fun q=>Rn (c q.1 q.2) fun t=>if t.1=true then Rn (m q.1 t.2 a) fun z=>P r z.1 z.2.1 z.2.2 else P r q.1 t.2 a)->
  (∀δ h a,P [] δ h a->ke ws h=true∧Q (δ,h,a))->Rn (iM ws g c m xs δ h a) Q
 | [],P,δ,h,a,p,_,fin=>by
  obtain⟨hc,q⟩:=fin δ h a p;exact⟨_,by unfold iM;rw[P7 hc],q⟩
 | x::r,P,δ,h,a,p,step,fin=>by
  obtain⟨hc,q,e1,t,e2,q3⟩:=step x r δ h a p;unfold iM;rw[P7 hc,e1];show Rn ((c q.1 q.2).bind _) Q;rw[e2];show Rn (if t.1=true then _ else _) Q
  by_cases z:t.1=true
  ·rw[P7 z] at q3 ⊢;obtain⟨y,e3,q4⟩:=q3;rw[e3];exact qE r P _ _ _ q4 step fin
  ·rw[Qa z] at q3 ⊢;exact qE r P _ _ _ q3 step fin
theorem IC{α:Type}{caps:List (Option Nat)}{i:IM}{g:GM}{c:TM}{m:MK α}{a0:α}{out:α->D}{Q:D×MH->Prop}(hh:Rn (i δ h) fun p=>Rn (iM p.2.1 g c m p.1 (jn caps δ) p.2.2 a0) fun q=>Q (out q.2.2,q.2.1)):Rn (IJ caps i g c m a0 out δ h) Q:=
 ba (hh.imp fun p r=>DX r)
theorem ME(hh:Rn (k δ h) fun p=>Rn (v δ p.2) fun q=>∃kk,qk p.1=some kk∧a.length < sizeLine∧Q (δ,q.2,putD a kk q.1)):Rn (mD k v δ h a) Q:=
 ba (hh.imp fun p r=>ba (r.imp fun q ⟨kk,e1,l,k⟩=>by rw[e1];show Rn (if a.length < sizeLine then _ else _) Q;rw[P7 l];exact⟨_,rfl,k⟩))
theorem zA(hh:Rn (a δ h) fun p=>Rn (l δ p.2) fun q=>Rn (u δ q.2) fun r=>Rn (CI p.1 q.1 r.1 r.2) Q):Rn (yI a l u δ h) Q:=ba (hh.imp fun _ x=>ba (x.imp fun _ y=>ba y))
theorem D5(hh:Rn (ma δ h) fun p=>Rn (mb δ p.2) fun q=>Rn (f p.1 q.1 q.2) fun r=>∃b,r.1=.bl b∧if b=true then Rn (mc δ r.2) fun u=>Rn (f' q.1 u.1 u.2) Q else Q (.bl false,r.2)):Rn (gS f f' ma mb mc δ h) Q:=
 ba (hh.imp fun p x=>ba (x.imp fun q y=>ba (y.imp fun r ⟨b,e,k⟩=>by
  rw[e];cases b with
  | true=>rw[P7 rfl] at k;exact ba k
  | false=>rw[Qa (by simp)] at k;exact⟨_,rfl,k⟩)))
theorem LZ(q:Q (.tup ds,h)):Rn (aV ds h) Q:=⟨_,rfl,q⟩
theorem L4(q:Q (.int (-a),h)):Rn (vI (.int a) h) Q:=⟨_,rfl,q⟩
theorem w_add(q:Q (.int (a+b),h)):Rn (br (.int a) (.int b) h) Q:=⟨_,rfl,q⟩
theorem w_sub(q:Q (.int (a-b),h)):Rn (wZ (.int a) (.int b) h) Q:=⟨_,rfl,q⟩
theorem w_lt(q:Q (.bl (decide (a < b)),h)):Rn (Le (.int a) (.int b) h) Q:=⟨_,rfl,q⟩
theorem NU(q:Q (.bl (decide (a≤b)),h)):Rn (za (.int a) (.int b) h) Q:=⟨_,rfl,q⟩
theorem NV(q:Q (.bl (decide (b < a)),h)):Rn (CL (.int a) (.int b) h) Q:=⟨_,rfl,q⟩
theorem NW(q:Q (.bl (decide (b≤a)),h)):Rn (M9 (.int a) (.int b) h) Q:=⟨_,rfl,q⟩
theorem Mb(q:Q (.bl (a==b),h)):Rn (bY (.int a) (.int b) h) Q:=⟨_,rfl,q⟩
theorem L6(q:Q (.bl (!(a==b)),h)):Rn (nr (.int a) (.int b) h) Q:=⟨_,rfl,q⟩
theorem Ma(q:Q (.bl (x==y),h)):Rn (bY (.str x) (.str y) h) Q:=⟨_,rfl,q⟩
theorem L5(q:Q (.bl (!(x==y)),h)):Rn (nr (.str x) (.str y) h) Q:=⟨_,rfl,q⟩
theorem L9(q:Q (d,h)):Rn (aY (.tup (d::r)) (.int 0) h) Q:=⟨_,by
 show((iz (d::r) 0).map fun z=>(z,h))=_;have:iz (d::r) 0=some d:=by unfold iz;rw[show wN (d::r).length 0=some 0 by unfold wN;simp;try lia];rfl
 rw[this];rfl,q⟩
theorem L8(q:Q (e,h)):Rn (aY (.tup (d::e::r)) (.int 1) h) Q:=⟨_,by
 show((iz (d::e::r) 1).map fun z=>(z,h))=_;have:iz (d::e::r) 1=some e:=by unfold iz;rw[show wN (d::e::r).length 1=some 1 by unfold wN;simp;try lia];rfl
 rw[this];rfl,q⟩
theorem L7(q:Q (f,h)):Rn (aY (.tup (d::e::f::r)) (.int 2) h) Q:=⟨_,by
 show((iz (d::e::f::r) 2).map fun z=>(z,h))=_;have:iz (d::e::f::r) 2=some f:=by unfold iz;rw[show wN (d::e::f::r).length 2=some 2 by unfold wN;simp;try lia];rfl
 rw[this];rfl,q⟩
theorem IX(q:Q (.int r.length,h)):Rn (cx [.tup r] h) Q:=⟨_,rfl,q⟩
theorem IY(q:Q (.int r.length,h)):Rn (cx [.lv r] h) Q:=⟨_,rfl,q⟩
inductive pI{α β:Type}(R:α->β->Prop):List α->List β->Prop where
 | nil:pI R [] []
 | cons {x y xs ys}:R x y->pI R xs ys->pI R (x::xs) (y::ys)
theorem pI.length:∀{xs:List α} {ys:List β},pI R xs ys->ys.length=xs.length
 | _,_,.nil=>rfl
 | _,_,.cons _ t=>by rw[Qv,Qv,pI.length t]
theorem pI.right:∀{xs:List α} {ys:List β},pI R xs ys->∀y∈ys,∃x∈xs,R x y
 | _,_,.nil,_,h=>by cases h
 | _,_,.cons r t,y,h=>by
  rcases Qn.mp h with rfl | h
  ·exact⟨_,Qe,r⟩
  ·obtain⟨x,hx,r⟩:=pI.right t y h;exact⟨x,Qc _ hx,r⟩
theorem qC(R:D->D->Prop):∀{xs:List D} {δ:DS} {h:MH} (J:Nat->DS->MH->Prop),J 0 δ h->(∀i δ h,i≤xs.length->J i δ h->ke ws h=true)->
  (∀i x δ h,xs[i]?=some x->J i δ h->Rn (g x δ h) fun q=>Rn (e q.1 q.2) fun y=>R x y.1∧J (i+1) q.1 y.2)->Rn (bR ws g bS e xs δ h) fun p=>pI R xs p.1∧∃δ',J xs.length δ' p.2
 | [],δ,h,J,hJ,hc,_=>by
  unfold bR;rw[P7 (hc 0 δ h (P8 _) hJ)];exact⟨_,rfl,.nil,δ,hJ⟩
 | x::xs,δ,h,J,hJ,hc,ht=>by
  unfold bR;rw[P7 (hc 0 δ h (Q9 _) hJ)];obtain⟨⟨δ1,h1⟩,e1,⟨y,h2⟩,e2,r,J1⟩:=ht 0 x δ h rfl hJ;dsimp only at e2 r J1;obtain⟨⟨ys,h3⟩,e3,a,δ',J2⟩:=qC R (xs:=xs) (fun i=>J (i+1)) J1 (fun i δ h hl=>hc (i+1) δ h (Ub hl)) fun i y δ h hy=>ht (i+1) y δ h (by simpa using hy);refine⟨(y::ys,h3),?_,.cons r a,δ',J2⟩;rw[e1];dsimp only[Option.bind_some];show((some (true,h1)).bind _)=_;dsimp only[Option.bind_some];rw[P7 rfl,e2];dsimp only[Option.bind_some];rw[e3];rfl
theorem qB(R:D->D->Prop):∀{xs:List D} {δ:DS} {h:MH} (J:Nat->DS->MH->Prop),J 0 δ h->(∀i δ h,i≤xs.length->J i δ h->ke ws h=true)->
  (∀i x δ h,xs[i]?=some x->J i δ h->Rn (g x δ h) fun q=>Rn (c q.1 q.2) fun t=>(t.1=true->Rn (e q.1 t.2) fun y=>R x y.1∧J (i+1) q.1 y.2)∧(t.1=false->J (i+1) q.1 t.2))->Rn (bR ws g c e xs δ h) fun p=>p.1.length≤xs.length∧(∀y∈p.1,∃x∈xs,R x y)∧∃δ',J xs.length δ' p.2
 | [],δ,h,J,hJ,hc,_=>by
  unfold bR;rw[P7 (hc 0 δ h (P8 _) hJ)];exact⟨_,rfl,P8 _,fun _ z=>(nomatch z),δ,hJ⟩
 | x::xs,δ,h,J,hJ,hc,ht=>by
  unfold bR;rw[P7 (hc 0 δ h (Q9 _) hJ)];obtain⟨⟨δ1,h1⟩,e1,⟨t,h2⟩,e2,q1,q2⟩:=ht 0 x δ h rfl hJ;dsimp only at e2 q1 q2;rw[e1];dsimp only[Option.bind_some];rw[e2];dsimp only[Option.bind_some];have next:=fun {δ':DS} {h':MH} (J1:J 1 δ' h')=>qB R (xs:=xs) (fun i=>J (i+1)) J1 (fun i δ h hl=>hc (i+1) δ h (Ub hl)) fun i y δ h hy=>ht (i+1) y δ h (by simpa using hy)
  cases t with
  | true=>
   obtain⟨⟨y,h3⟩,e3,r,J1⟩:=q1 rfl;dsimp only at r J1;obtain⟨⟨ys,h4⟩,e4,l,a,δ',J2⟩:=next J1
   refine⟨(y::ys,h4),?_,Ub l,fun z hz=>?_,δ',J2⟩
   ·rw[P7 rfl,e3];dsimp only[Option.bind_some];rw[e4];rfl
   ·rcases Qn.mp hz with rfl | hz
    ·exact⟨x,Qe,r⟩
    ·obtain⟨u,hu,r⟩:=a z hz;exact⟨u,Qc _ hu,r⟩
  | false=>
   obtain⟨⟨ys,h4⟩,e4,l,a,δ',J2⟩:=next (q2 rfl)
   refine⟨(ys,h4),?_,VW l,fun z hz=>?_,δ',J2⟩
   ·rw[Qa (by decide),e4]
   ·obtain⟨u,hu,r⟩:=a z hz;exact⟨u,Qc _ hu,r⟩
end Sm
namespace L2
open PySem PySem.Spec PyProof.Rows
abbrev OL:Hp:=fun _=>none
structure Tab(P:Program)(w:World)(K:FR)(mg:Str->Option Value)(nm:Str)(tb:List (Str×List Int)):Prop where
 ex:∃(a:Addr)(o:Obj)(es:Array DictEntry)(ep:Nat)(kvs:List (Str×Value)),mg nm=some (.ref a)∧K.lookup a=some o∧o.ExactDict∧o.data=.dict es ep∧(a==sysModules)=false∧KeysOf (strKind P w) es∧Pairs (strKind P w) es.toList kvs∧(kvs.map (·.1)).Nodup∧
  Sm.pI (fun(x:Str×List Int)(y:Str×Value)=>x.1=y.1∧∃(t:Addr)(u:Obj)(its:Array Value)(n:Nat),y.2=.ref t∧K.lookup t=some u∧u.cls=.type "tuple"∧u.dict=none∧u.data=.seq its n∧its.size≤sizeLine∧IntsAre its.toList x.2) tb kvs
theorem BL{K:FR}:∀{tb:List (Str×List Int)} {kvs:List (Str×Value)},Sm.pI (fun(x:Str×List Int)(y:Str×Value)=>x.1=y.1∧∃(t:Addr)(u:Obj)(its:Array Value)(n:Nat),y.2=.ref t∧K.lookup t=some u∧u.cls=.type "tuple"∧u.dict=none∧u.data=.seq its n∧its.size≤sizeLine∧IntsAre its.toList x.2) tb kvs->∀x:Str,
  (∀is,tb.lookup x=some is->∃t,valueAt kvs x=some (.ref t)∧∀H,ko K H t (is.map V.int))∧(valueAt kvs x).isSome=(tb.lookup x).isSome:=by
 intro tb kvs h
 induction h with
 | nil=>exact fun x=>⟨fun is e=>(nomatch e),rfl⟩
 | @cons p q tb kvs r l ih=>
  intro x;obtain⟨a,is0⟩:=p;obtain⟨b,v⟩:=q;obtain⟨e0,t,u,its,n,e1,h1,h2,h3,h4,h5,h6⟩:=r;dsimp only at e0 e1 h6;subst e0;subst e1
  by_cases hx:x=a
  ·subst hx;have hv:valueAt ((x,Value.ref t)::kvs) x=some (.ref t):=by unfold valueAt;simp
   have hl:((x,is0)::tb).lookup x=some is0:=by simp
   refine⟨fun is e=>?_,by rw[hv,hl];rfl⟩;rw[hl] at e;cases e;exact⟨t,hv,fun H=>.inr ⟨u,its,n,h1,h2,h4,h5,iC h6,h3⟩⟩
  ·have hv:valueAt ((a,Value.ref t)::kvs) x=valueAt kvs x:=by
    unfold valueAt;rw[Uj (by simpa using fun z=>hx z.symm)]
   have hl:((a,is0)::tb).lookup x=tb.lookup x:=by
    rw[QX,show(x==a)=false by simpa using hx]
   rw[hv,hl];exact ih x
theorem Tab.dict(T:Tab X.prog X.w X.K X.mg nm tb)(I:Inv X pins σ H s):∃(a:Addr)(kvs:List (Str×Value)),X.mg nm=some (.ref a)∧(a==sysModules)=false∧s.heap.DictOf (strKind X.prog X.w) a kvs∧∀x:Str,
  (∀is,tb.lookup x=some is->∃t,valueAt kvs x=some (.ref t)∧∀H,ko X.K H t (is.map V.int))∧(valueAt kvs x).isSome=(tb.lookup x).isSome:=by
 obtain⟨a,o,es,ep,kvs,h1,h2,h3,h4,h5,h6,h7,h8,h9⟩:=T.ex;exact⟨a,kvs,h1,h5,⟨o,es,ep,I.va a o h2,h3,h4,h6,h7,h8⟩,BL h9⟩
theorem Kg(T:Tab X.prog X.w X.K X.mg nm tb)(hg:Gl X nm)(hi:PE X i ti)(hs:Ik i)(hd:(nm==("__debug__":Str))=false):
  PE X (.Subscript (.Name nm p) i pos) (fun σ H Q=>ti σ H fun y H1=>∃x is,y=.str x∧tb.lookup x=some is∧∀t,ko X.K OL t (is.map V.int)->Q (.ref t) H1):=by
 intro pins s σ H Q I h;obtain⟨a,kvs,hm,hsm,dd,hv⟩:=T.dict I;refine Gp U8.lookup hs (qJ I hg hm (cN (hi pins s σ H _ I h) fun iv s2 ⟨y,H2,I2,ry,x,is,ey,l,q⟩=>?_) hd);subst ey;obtain⟨t,rfl⟩:=ry;obtain⟨a',kvs',hm',hsm',dd',hv'⟩:=T.dict I2;rw[hm] at hm';cases hm';obtain⟨u,e,sq⟩:=(hv' x).1 is l;exact⟨dd'.typeIs,wpAny_getItem_of (by show Value.isStrOf x (.str x t)=true;unfold Value.isStrOf;simp) dd'.mapOf e ⟨.ref u,H2,I2.tok _,rfl,q u (sq _)⟩⟩
theorem Cf(T:Tab X.prog X.w X.K X.mg nm tb)(hg:Gl X nm)(ho:PE X o to)(hd:(nm==("__debug__":Str))=false):
  PC X .NotIn o (.Name nm p) (fun σ H Q=>to σ H fun y H1=>∃x,y=.str x∧Q (.bl (!(tb.lookup x).isSome)) H1):=by
 intro pins s σ H Q I h;refine cN (ho pins s σ H _ I h) fun iv s1 ⟨y,H1,I1,ry,x,ey,q⟩=>?_;subst ey;obtain⟨t,rfl⟩:=ry;obtain⟨a,kvs,hm,hsm,dd,hv⟩:=T.dict I1;refine qJ I1 hg hm ?_ hd;refine wpAny_notIn_of (knd:=PySem.strKind X.prog X.w) (k:=x) (by show Value.isStrOf x (.str x t)=true;unfold Value.isStrOf;simp) hsm dd.mapOf ?_;rw[(hv x).2];exact⟨.bl _,H1,I1.tok _,rfl,q⟩
end L2
namespace Sm
open PySem L2 PySem.Spec PyProof.Rows
noncomputable def HE(tb:List (Str×List Int))(d:D)(h:MH):Option (D×MH):=match d with
 | .str x=>(tb.lookup x).map fun is=>(.tup (is.map D.int),h)
 | _=>none
noncomputable def E2(tb:List (Str×List Int))(d:D)(h:MH):Option (D×MH):=match d with
 | .str x=>some (.bl (!(tb.lookup x).isSome),h)
 | _=>none
theorem DM(T:Tab X.prog X.w X.K X.mg nm tb)(hi:SE X i mi)(hg:Gl X nm:=by unfold Gl;ac_nf)(hs:Ik i:=by unfold Ik;intro _ _;ac_nf)(hd:(nm==("__debug__":Str))=false:=by ac_nf):SE X (.Subscript (.Name nm p) i pos) (Bn (HE tb) mi):=
 (Kg T hg hi hs hd).imp fun σ H Q ⟨ρ,δ,h,d,h',R,S,e,k⟩=>by
  obtain⟨⟨x,h1⟩,e1,e2⟩:=bL e;dsimp only at e2;refine⟨ρ,δ,h,x,h1,R,S,e1,fun v H1 ⟨ρ1,T1,S1,r1⟩=>?_⟩;unfold HE at e2
  split at e2
  ·rename_i y;obtain⟨is,e3,e4⟩:=gu e2;cases e4;cases r1;exact⟨_,is,rfl,e3,fun t sq=>k _ _ ⟨ρ1,T1,S1,.tup (.inr sq) (repL_ints' is)⟩⟩
  ·cases e2
theorem Gq(T:Tab X.prog X.w X.K X.mg nm tb)(hi:SE X i mi)(hg:Gl X nm:=by unfold Gl;ac_nf)(hd:(nm==("__debug__":Str))=false:=by ac_nf):ST X (.Compare i [.NotIn] [.Name nm p] pos) (aM (Bn (E2 tb) mi)):=
 (JU (Cf T hg hi hd) rfl).imp fun σ H Q ⟨ρ,δ,h,c,h',R,S,e,k⟩=>by
  obtain⟨⟨y,h2⟩,e0,e9⟩:=bL e;obtain⟨⟨x,h1⟩,e1,e2⟩:=bL e0;dsimp only at e2;refine⟨ρ,δ,h,x,h1,R,S,e1,fun v H1 ⟨ρ1,T1,S1,r1⟩=>?_⟩;unfold E2 at e2
  split at e2
  ·rename_i y;cases e2;cases e9;cases r1;exact⟨_,rfl,_,rfl,k _ _ T1 S1⟩
  ·cases e2
end Sm
namespace Hd
open PySem PySem.W PySem.Spec PyProof.Rows L2 Sm
abbrev Sub(h h':Heap):Prop:=∀b o,h.get? b=some o->h'.get? b=some o
theorem zu(k:Sub h h')(x:rowAt h e=some r):rowAt h' e=some r:=by
 unfold rowAt at x ⊢
 split at x
 ·split at x
  ·split at x
   ·rename_i u hu;rw[k _ _ hu];exact x
   ·cases x
  ·cases x
 ·cases x
theorem pL(k:Sub h h'):∀{es:List DictEntry} {r:List (Str×Int×List Int)},lJ h es=some r->lJ h' es=some r
 | [],_,x=>x
 | e::es,r,x=>by
  unfold lJ at x ⊢;obtain⟨y,e1,x⟩:=Ua.mp x;obtain⟨ys,e2,x⟩:=Qs.mp x;rw[zu k e1,pL k e2];exact congrArg some x
theorem zg(k:Sub h h')(x:tabAt h nm=some r):tabAt h' nm=some r:=by
 have hg:∀v,h.nsMap mainGlobals nm=some v->h'.nsMap mainGlobals nm=some v:=fun v e=>by
  unfold Heap.nsMap at e ⊢
  split at e
  ·rename_i o ho;rw[k _ _ ho];exact e
  ·cases e
 unfold tabAt at x ⊢
 split at x
 ·rename_i a ha;rw[hg _ ha];dsimp only
  split at x
  ·cases x
  ·rename_i hs;rw[Qa hs]
   split at x
   ·rename_i o ho;rw[k _ _ ho];dsimp only
    split at x
    ·rename_i hc;rw[P7 hc]
     split at x
     ·exact pL k x
     ·cases x
    ·cases x
   ·cases x
 ·cases x
theorem yA:∀{vs:List Value} {is:List Int},Be vs=some is->IntsAre vs is
 | [],_,e=>by cases e;exact .nil
 | v::r,is,e=>by
  cases v <;> first |(cases e;done) | skip
  obtain⟨js,e1,e2⟩:=Qs.mp (show(Be r).map _=some is from e);subst e2;exact .cons _ _ (yA e1)
theorem yO(h:Bq v t=true):v=.type t:=by
 unfold Bq at h
 split at h
 ·rw[QK h]
 ·cases h
theorem rj:∀{es:List DictEntry} {tb:List (Str×List Int)},lJ h es=some (tb.map fun x=>(x.1,hashStr w x.1,x.2))->
  ∃kvs:List (Str×Value),(∀e∈es,∃k,(PySem.strKind P w).is k e.key=true∧e.hash=(PySem.strKind P w).hash k)∧Pairs (PySem.strKind P w) es kvs∧kvs.map (·.1)=tb.map (·.1)∧
   pI (fun(x:Str×List Int)(y:Str×Value)=>x.1=y.1∧∃(t:Addr)(u:Obj)(its:Array Value)(n:Nat),y.2=.ref t∧(bB h).lookup t=some u∧u.cls=.type "tuple"∧u.dict=none∧u.data=.seq its n∧its.size≤sizeLine∧IntsAre its.toList x.2) tb kvs
 | [],tb,x=>by
  have hz:tb=[]:=by
   have:=Option.some.inj x;exact List.map_eq_nil_iff.mp this.symm
  subst hz;exact⟨[],fun _ z=>(nomatch z),.nil,rfl,.nil⟩
 | e::es,tb,x=>by
  unfold lJ at x;obtain⟨y,e1,x⟩:=Ua.mp x;obtain⟨ys,e2,x⟩:=Qs.mp x;cases tb with
  | nil=>cases x
  | cons q tb=>
   rw[Qd] at x;obtain⟨rfl,rfl⟩:=List.cons.inj x;obtain⟨kvs,h1,h2,h3,h4⟩:=rj (P:=P) e2;unfold rowAt at e1
   split at e1
   ·rename_i x0 tk hk
    split at e1
    ·rename_i t hv
     split at e1
     ·rename_i u hu
      split at e1
      ·rename_i hc;rw[Qq] at hc
       split at e1
       ·rename_i its n hd
        split at e1
        ·rename_i hs;obtain⟨is,e3,e4⟩:=Qs.mp e1;have e5:x0=q.1:=congrArg (·.1) e4;have e6:e.hash=hashStr w q.1:=congrArg (·.2.1) e4;have e7:is=q.2:=congrArg (·.2.2) e4;have hki:(PySem.strKind P w).is q.1 e.key=true:=by rw[hk,e5];show Value.isStrOf q.1 (.str q.1 tk)=true;unfold Value.isStrOf;simp
         refine⟨(q.1,.ref t)::kvs,fun e' he'=>?_,.cons hki hv h2,by rw[Qd,Qd,h3],.cons ⟨rfl,t,u,its,n,rfl,kF hu rfl,yO hc.1,by simpa using hc.2,hd,Qm hs (by decide),by rw[←e7];exact yA e3⟩ h4⟩;rcases Qn.mp he' with rfl | he'
         ·exact⟨q.1,hki,e6⟩
         ·exact h1 e' he'
        ·cases e1
       ·cases e1
      ·cases e1
     ·cases e1
    ·cases e1
   ·cases e1
theorem tab_of(x:tabAt h nm=some (tb.map fun x=>(x.1,hashStr w x.1,x.2)))(g:h.Ns mainGlobals mg)(nd:(tb.map (·.1)).Nodup):Tab P w (bB h) mg nm tb:=by
 unfold tabAt at x
 split at x
 ·rename_i a ha
  split at x
  ·cases x
  ·rename_i hs
   split at x
   ·rename_i o ho
    split at x
    ·rename_i hc;rw[Qq,Qq] at hc
     split at x
     ·rename_i es ep hd;obtain⟨kvs,h1,h2,h3,h4⟩:=rj (P:=P) x;have hm:mg nm=some (.ref a):=by
       obtain⟨o',es',ep',g1,g2,_,g3⟩:=g;rw[←g3 nm,←ha];unfold Heap.nsMap;rw[g1];dsimp only;rw[g2]
      exact⟨a,o,es,ep,kvs,hm,kF ho rfl,⟨yO hc.1.1,by simpa using hc.1.2,QK hc.2⟩,hd,by simpa using hs,fun e he=>h1 e (Ro.mpr he),h2,by rw[h3];exact nd,h4⟩
     ·cases x
    ·cases x
   ·cases x
 ·cases x
end Hd
namespace L2
open PySem PySem.Spec PyProof.Rows
end L2
namespace Sm
open PySem L2 PySem.Spec PyProof.Rows
end Sm
namespace Sb
open PySem L2 PySem.Spec PyProof.Rows
open Builtin.SmallTypes (nextOf ownedTupleIsFree ownedTupleHandOut)
end Sb
namespace PySem
end PySem
namespace L2
open PySem PySem.Spec PyProof.Rows
end L2
namespace L2
open PySem PySem.Spec PyProof.Rows Sb
end L2
namespace Sm
open PySem L2 PySem.Spec PyProof.Rows Sb
end Sm
namespace Sb
open PySem L2 PySem.Spec PyProof.Rows
variable {P:Program} {w:World} {A:Around} {E:Value->Shared->Prop} {s:Shared} {b c:Bool}
end Sb
namespace Sb
open PySem L2 PySem.Spec PyProof.Rows
variable {P:Program} {w:World} {A:Around} {E:Value->Shared->Prop} {s:Shared} {b c:Bool}
end Sb
namespace L2
open PySem PySem.Spec PyProof.Rows Sb
end L2
namespace Sm
open PySem L2 PySem.Spec PyProof.Rows Sb
end Sm
namespace PySem
end PySem
namespace L2
open PySem PySem.Spec PyProof.Rows
end L2
namespace Sm
open PySem L2 PySem.Spec PyProof.Rows
end Sm
namespace L2
open PySem PySem.Spec PyProof.Rows
def dQ(xs:Array Nat):Prop:=∀i j (hi:i < xs.size) (hj:j < xs.size),i < j->xs[i] < xs[j]
theorem sW(xs:Array Nat)(j:Nat)(hx:dQ xs):∀(fuel lo hi:Nat),hi-lo≤fuel->lo≤hi->hi≤xs.size->(∀i (h:i < xs.size),i < lo->xs[i] < j)->(∀i (h:i < xs.size),hi≤i->j≤xs[i])->
  SetTable.below.go xs j fuel lo hi≤xs.size∧(∀i (h:i < xs.size),i < SetTable.below.go xs j fuel lo hi->xs[i] < j)∧(∀i (h:i < xs.size),SetTable.below.go xs j fuel lo hi≤i->j≤xs[i])
 | 0,lo,hi,hf,hl,hs,h1,h2=>by
  have:lo=hi:=by lia
  subst this;unfold SetTable.below.go;exact⟨hs,h1,h2⟩
 | fuel+1,lo,hi,hf,hl,hs,h1,h2=>by
  unfold SetTable.below.go
  by_cases hlt:lo < hi
  ·rw[P7 hlt];dsimp only;have hm:(lo+hi) / 2 < xs.size:=by lia
   have hg:xs.getD ((lo+hi) / 2) j=xs[(lo+hi) / 2]:=by simp[Array.getD,hm]
   rw[hg]
   by_cases hc:xs[(lo+hi) / 2] < j
   ·rw[P7 hc];refine sW xs j hx fuel _ _ (by lia) (by lia) hs (fun i h hi'=>?_) h2;rcases Sf i ((lo+hi) / 2) with q | q
    ·exact Ts (hx i _ h hm q) hc
    ·have:i=(lo+hi) / 2:=by lia
     subst this;exact hc
   ·rw[Qa hc];refine sW xs j hx fuel _ _ (by lia) (by lia) (by lia) h1 (fun i h hi'=>?_);rcases Sf ((lo+hi) / 2) i with q | q
    ·have:=hx _ i hm h q;lia
    ·have:i=(lo+hi) / 2:=by lia
     subst this;lia
  ·rw[Qa hlt];have:lo=hi:=by lia
   subst this;exact⟨hs,h1,h2⟩
theorem gU(xs:Array Nat)(j:Nat)(hx:dQ xs):SetTable.below xs j≤xs.size∧(∀i (h:i < xs.size),i < SetTable.below xs j->xs[i] < j)∧(∀i (h:i < xs.size),SetTable.below xs j≤i->j≤xs[i]):=
 sW xs j hx _ _ _ (by lia) (by lia) (P8 _) (fun i h z=>absurd z (RV _)) (fun i h z=>absurd (QF h z) (SJ _))
theorem iO(hx:dQ xs)(h:xs[i]?=some j):SetTable.below xs j=i:=by
 obtain⟨hi,e⟩:=Sw.mp h;have b:=gU xs j hx;rcases UO (SetTable.below xs j) i with q | q | q
 ·have h1:=b.2.2 (SetTable.below xs j) (by lia) (P8 _);have h2:=hx _ i (by lia) hi q
  lia
 ·exact q
 ·have:=b.2.1 i hi q
  lia
theorem oq{t:SetTable}{i j:Nat}(hx:dQ t.place)(h:t.place[i]?=some j):t.slot j=.live i:=by
 unfold SetTable.slot;rw[iO hx h];dsimp only;rw[P7 (by rw[h];simp)]
theorem zk{t:SetTable}{j:Nat}(hd:t.dummies=#[])(h:j∉t.place.toList):t.slot j=.empty:=by
 unfold SetTable.slot;dsimp only;rw[Qa (by
  intro z;have z:=eq_of_beq z;exact h (by rw[Ro];exact Us z)),hd]
 rfl
noncomputable def road(t:SetTable)(h:Int):Nat->SetTable.Probe
 | 0=>t.probeStart h
 | n+1=>t.advance (road t h n)
theorem uE(e:t.mask=t'.mask)(h:Int):∀n,road t h n=road t' h n
 | 0=>by show t.probeStart h=t'.probeStart h;unfold SetTable.probeStart;rw[e]
 | n+1=>by
  show t.advance (road t h n)=t'.advance (road t' h n);rw[uE e h n];unfold SetTable.advance;rw[e]
theorem rm(t:SetTable)(h:Int):∀n,(road t h n).dummy=none
 | 0=>rfl
 | n+1=>by
  have:=rm t h n;show(t.advance (road t h n)).dummy=none;unfold SetTable.advance
  split
  ·exact this
  ·exact this
theorem rp(hm:t.mask=7)(h:Int):∀n,(road t h n).more=0∧(road t h n).j=(road t h n).i∧(road t h n).i < 8∧(road t h n).perturb=SetTable.bits h / 32^n
 | 0=>by
  show(t.probeStart h).more=0∧_;unfold road SetTable.probeStart SetTable.runEnd;rw[hm];dsimp only;refine⟨by rw[Qa (by lia)];lia,rfl,U4 _ (by lia),by simp⟩
 | n+1=>by
  obtain⟨h1,h2,h3,h4⟩:=rp hm h n;show(t.advance (road t h n)).more=0∧(t.advance (road t h n)).j=(t.advance (road t h n)).i∧(t.advance (road t h n)).i < 8∧(t.advance (road t h n)).perturb=_;unfold SetTable.advance SetTable.leap SetTable.runEnd;rw[hm,h1,Qa (by lia)];dsimp only;refine⟨by rw[Qa (by lia)];lia,rfl,U4 _ (by lia),?_⟩;rw[h4,Nat.div_div_eq_div_mul,Nat.pow_succ]
theorem zw(hm:t.mask=7)(h:Int)(n:Nat):(road t h (n+1)).i=((road t h n).i*5+1+(road t h n).perturb / 32) % 8:=by
 obtain⟨h1,h2,h3,h4⟩:=rp hm h n;show(t.advance (road t h n)).i=_;unfold SetTable.advance SetTable.leap;rw[hm,h1,Qa (by lia)]
theorem Ia(h:Int):SetTable.bits h < 32^13:=by
 unfold SetTable.bits;have:h % (2^64:Int) < 2^64:=RJ _ (by decide);have h0:0≤h % (2^64:Int):=Rv _ (by decide)
 lia
noncomputable def PK(i:Nat):Nat:=(i*5+1) % 8
noncomputable def Hq:Nat->Nat->Nat
 | 0,i=>i
 | n+1,i=>PK (Hq n i)
theorem rn(hm:t.mask=7)(h:Int):∀k,(road t h (13+k)).j=Hq k (road t h 13).j
 | 0=>rfl
 | k+1=>by
  have ih:=rn hm h k;rw[(rp hm h _).2.1] at ih;rw[(rp hm h _).2.1,show 13+(k+1)=(13+k)+1 from rfl,zw hm h (13+k),(rp hm h _).2.2.2];have hz:SetTable.bits h / 32^(13+k) / 32=0:=by
   have:SetTable.bits h / 32^(13+k)=0:=by
    refine Nat.div_eq_of_lt (QF (Ia h) ?_);exact VF (by lia) (by lia)
   rw[this]
  rw[hz,ih];rfl
theorem Hr:∀i:_root_.Fin 8,∀j:_root_.Fin 8,∃k:_root_.Fin 8,Hq k.1 i.1=j.1:=by decide
theorem lcg_all'(i j:Nat)(hi:i < 8)(hj:j < 8):∃k,k < 8∧Hq k i=j:=by
 obtain⟨k,hk⟩:=Hr ⟨i,hi⟩ ⟨j,hj⟩;exact⟨k.1,k.2,hk⟩
theorem BZ(hm:t.mask=7)(h:Int)(j:Nat)(hj:j < 8):∃n,n < 21∧(road t h n).j=j:=by
 have h13:(road t h 13).j < 8:=by rw[(rp hm h 13).2.1];exact(rp hm h 13).2.2.1
 have hl:=rn hm h;revert h13 hl;generalize (road t h 13).j=r;intro h13 hl;obtain⟨k,hk1,hk⟩:=lcg_all' r j h13 hj;exact⟨13+k,by lia,(hl k).trans hk⟩
theorem se [DecidableEq W]:∀(l ws:List W),l.Nodup->(∀x∈l,x∈ws)->l.length≤ws.length
 | [],ws,_,_=>Q9 _
 | x::l,ws,hn,hs=>by
  have hn:=RW.mp hn;have hx:=hs x (.head _);have:=se l (ws.erase x) hn.2 fun y hy=>by
   have:y≠x:=fun e=>hn.1 (e ▸ hy);exact(List.mem_erase_of_ne this).mpr (hs y (.tail _ hy))
  rw[Ve hx] at this;have h0:0 < ws.length:=Vq hx;simp only[Qv]
  lia
theorem zx(hm:t.mask=7)(h:Int)(hs:t.place.size < 8):∃n,n < 21∧(road t h n).j∉t.place.toList:=by
 have:∃j,j < 8∧j∉t.place.toList:=by
  apply RH;intro z;have hsub:List.range 8 ⊆ t.place.toList:=fun j hj=>by
   apply RH;intro q;exact z ⟨j,Q3.mp hj,q⟩
  have:=se (List.range 8) t.place.toList List.nodup_range hsub;simp at this
  lia
 obtain⟨j,hj,hn⟩:=this;obtain⟨n,h1,h2⟩:=BZ hm h j hj;exact⟨n,h1,by rw[h2];exact hn⟩
theorem EZ [DecidablePred p]:∀{n:Nat},p n->∃m,m≤n∧p m∧∀i,i < m->¬p i
 | 0,h=>⟨0,P8 _,h,fun i hi=>absurd hi (RV _)⟩
 | n+1,h=>by
  by_cases q:∃i,i≤n∧p i
  ·obtain⟨i,hi,hp⟩:=q;have:∀k,k≤n->p k->∃m,m≤k∧p m∧∀i,i < m->¬p i:=by
    intro k
    induction k using Nat.strongRecOn with
    | _ k ih=>
     intro hk hpk
     by_cases q2:∃i,i < k∧p i
     ·obtain⟨i,hi,hp⟩:=q2;obtain⟨m,h1,h2,h3⟩:=ih i hi (by lia) hp;exact⟨m,by lia,h2,h3⟩
     ·exact⟨k,P8 _,hpk,fun i hi hp=>q2 ⟨i,hi,hp⟩⟩
   obtain⟨m,h1,h2,h3⟩:=this i hi hp;exact⟨m,by lia,h2,h3⟩
  ·exact⟨n+1,P8 _,h,fun i hi hp=>q ⟨i,by lia,hp⟩⟩
theorem yb{t:SetTable}(hx:dQ t.place)(hd:t.dummies=#[])(hashAt:Nat->Int)(h:Int){N:Nat}(hN:(road t h N).j∉t.place.toList):∀(fuel m:Nat),m≤N->N-m < fuel->(∀i,i < N->(road t h i).j∈t.place.toList)->
  (SetTable.probe.go t hashAt h fuel (road t h m)=some (.empty (road t h N).j none)∧(∀c i,m≤c->c < N->t.place[i]?=some (road t h c).j->hashAt i≠h))∨
  ∃c i,m≤c∧c < N∧t.place[i]?=some (road t h c).j∧hashAt i=h∧(∀c' i,m≤c'->c' < c->t.place[i]?=some (road t h c').j->hashAt i≠h)∧SetTable.probe.go t hashAt h fuel (road t h m)=some (.candidate (road t h c).j i (road t h (c+1)))
 | 0,m,hm,hf,hl=>absurd hf (RV _)
 | fuel+1,m,hm,hf,hl=>by
  unfold SetTable.probe.go
  by_cases e:m=N
  ·subst e;rw[zk hd hN];refine .inl ⟨?_,fun c i h1 h2=>absurd h2 (by lia)⟩;rw[rm]
  ·have hlt:m < N:=by lia
   obtain⟨i,hi,hv⟩:=VH (Ro.mp (hl m hlt));have hg:t.place[i]?=some (road t h m).j:=by rw[QE hi,hv]
   rw[oq hx hg];dsimp only;have uni:∀i',t.place[i']?=some (road t h m).j->i'=i:=fun i' h'=>(iO hx h').symm.trans (iO hx hg)
   by_cases hh:hashAt i=h
   ·refine .inr ⟨m,i,P8 _,hlt,hg,hh,fun c' i' h1 h2=>absurd h2 (by lia),?_⟩;rw[P7 (by rw[hh];simp)];rfl
   ·rw[Qa (by simpa using hh)];show _∨_;rcases yb hx hd hashAt h hN fuel (m+1) hlt (by lia) hl with⟨h1,h2⟩ |⟨c,i2,h1,h2,h3,h4,h5,h6⟩
    ·refine .inl ⟨h1,fun c i' hc hcN hp=>?_⟩;rcases VO hc with q | q
     ·subst q;rw[uni i' hp];exact hh
     ·exact h2 c i' q hcN hp
    ·refine .inr ⟨c,i2,by lia,h2,h3,h4,fun c' i' hc hcc hp=>?_,h6⟩;rcases VO hc with q | q
     ·subst q;rw[uni i' hp];exact hh
     ·exact h5 c' i' q hcc hp
end L2
namespace L2
open PySem PySem.Spec PyProof.Rows PySem.SeqAt
noncomputable def dq:Nat->PyData->Bool
 | _,.int _=>true
 | _,.str x=>PyData.strOk x
 | n+1,.tuple xs=>xs.all (dq n)
 | _,_=>false
theorem wx:∀(n:Nat) {d e:PyData},dq n d=true->dq n e=true->PyData.eqv d e=true->d=e:=by
 intro n
 induction n with
 | zero=>
  intro d e hd he h;cases d <;> cases e <;> simp_all [dq,PyData.eqv]
 | succ n ih=>
  have hl:∀(xs ys:List PyData),xs.all (dq n)=true->ys.all (dq n)=true->PyData.eqvAll xs ys=true->xs=ys:=by
   intro xs
   induction xs with
   | nil=>intro ys _ _ h;cases ys with | nil=>rfl | cons _ _=>simp[PyData.eqvAll] at h
   | cons x xs ihx=>
    intro ys h1 h2 h;cases ys with
    | nil=>simp[PyData.eqvAll] at h
    | cons y ys=>
     rw[Tb,Qq] at h1 h2;rw[PyData.eqvAll,Qq] at h;rw[ih h1.1 h2.1 h.1,ihx ys h1.2 h2.2 h.2]
  intro d e hd he h;cases d <;> cases e <;> first
   |(simp_all [dq,PyData.eqv];done)
   |(rename_i xs ys;rw[PyData.eqv] at h;rw[hl xs ys hd he h])
theorem qF:∀(n:Nat) {d:PyData},dq n d=true->d.canLay0=true∧d.depth≤n:=by
 intro n
 induction n with
 | zero=>
  intro d hd;cases d <;> simp_all [dq,PyData.canLay0,PyData.depth]
 | succ n ih=>
  have hl:∀(xs:List PyData),xs.all (dq n)=true->PyData.canLayAll0 xs=true∧PyData.depthAll xs≤n:=by
   intro xs
   induction xs with
   | nil=>intro _;exact⟨by simp[PyData.canLayAll0],by simp[PyData.depthAll]⟩
   | cons x xs ihx=>
    intro h1;rw[Tb,Qq] at h1;obtain⟨a1,a2⟩:=ih h1.1;obtain⟨b1,b2⟩:=ihx h1.2;refine⟨by rw[PyData.canLayAll0,a1,b1];rfl,?_⟩;rw[PyData.depthAll]
    lia
  intro d hd;cases d <;> first
   |(simp_all [dq,PyData.canLay0,PyData.depth];done)
   |(rename_i xs;obtain⟨a1,a2⟩:=hl xs hd;refine⟨(by rw[PyData.canLay0];exact a1),?_⟩;rw[PyData.depth];lia)
noncomputable def gY(w:World):Nat->PyData->Int
 | _,.int i=>KZ w (.inl i)
 | _,.str x=>KZ w (.inr x)
 | n+1,.tuple xs=>reduceHash (Builtin.Tuple.tupleHashOf (xs.map (gY w n)))
 | _,_=>0
theorem CA:∀(n:Nat) {A:Around} {s:Shared} {d:PyData} {v:Value} {as:List Addr} {Q:Int->Shared->Prop},A.units+n < cLine->dq n d=true->Reads s.heap v d as->(∀k,Q (gY w n d) {s with toks:=s.toks+k})->
  wpAny (model P w) A (pyHash v) Q E s:=by
 have leaf:∀(n:Nat) {A:Around} {s:Shared} {d:PyData} {v:Value} {as:List Addr} {Q:Int->Shared->Prop},(∀xs,d≠.tuple xs)->dq n d=true->Reads s.heap v d as->(∀k,Q (gY w n d) {s with toks:=s.toks+k})->wpAny (model P w) A (pyHash v) Q E s:=by
  intro n A s d v as Q hnt hp hr h;cases hr with
  | int i t=>exact(aQ P w).pyHash (k:=.inl i) (pR P w i t) (by have:=h 1;cases n <;> exact this)
  | str x t=>exact(aQ P w).pyHash (k:=.inr x) (pQ P w x t) (by have:=h 1;cases n <;> exact this)
  | tuple=>exact absurd rfl (hnt _)
  | none=>cases n <;> simp[dq] at hp
  | bool=>cases n <;> simp[dq] at hp
  | list=>cases n <;> simp[dq] at hp
  | dict=>cases n <;> simp[dq] at hp
 intro n
 induction n with
 | zero=>
  intro A s d v as Q hu hp hr h;exact leaf 0 (fun xs e=>by subst e;simp[dq] at hp) hp hr h
 | succ n ih=>
  intro A s d v as Q hu hp hr h
  by_cases hnt:∀xs,d≠.tuple xs
  ·exact leaf (n+1) hnt hp hr h
  ·have:∃xs,d=.tuple xs:=RH fun z=>hnt fun xs e=>z ⟨xs,e⟩;obtain⟨xs,rfl⟩:=this;cases hr with
   | @tuple a o vs m _ _ ho hc hd hall=>
    have hT:s.TypeIs (.ref a) "tuple":=⟨o,ho,hc⟩;have hp':xs.all (dq n)=true:=hp;unfold pyHash
    first | unfold pyHashByItsType | skip
    first | refine PZ (wpAny_cRoomFor_or (.inr (by lia)) ?_) | skip
    refine PZ (SV hT Te.lookup ?_);show wpAny _ _ (if(some (Value.builtin "tuple.__hash__")==some Value.none)=true then _ else _) Q E s;rw[Qa (by rw[beq_builtin_none];exact QZ)];refine PZ (SV hT Te.lookup ?_);show wpAny _ _ (callSpecialIfBoundUnlessNone? (.ref a) "__hash__" _ >>=_) Q E s;refine PZ (wpAny_callSpecialIfBoundUnlessNone?_slot hT Te (Q0 Te hT F.entry_tuple_hash ?_ (F.args_tuple_hash_1 _)));show wpAny _ _ (Builtin.Tuple.tupleItemsOf (.ref a) >>=_) _ _ s;refine PZ (wpAny_tupleItemsOf ho hd ?_);refine PZ ?_;rw[←Tw];refine Tj _
     (fun rest (b:Array Int) s'=>∃done left as',xs=done++left∧ReadsAll s.heap rest left as'∧b.toList=done.map (gY w n)∧∃k,s'={s with toks:=s.toks+k})
     _ ?_ ?_ _ _ ⟨[],xs,_,rfl,hall,rfl,0,rfl⟩
    ·rintro x rest b s' ⟨done,left,as',e,hl,hb,k,rfl⟩;cases hl with
     | @cons _ _ d1 ds bs cs h1 hl'=>
      have hd1:dq n d1=true:=by
       rw[Rq] at hp';exact hp' d1 (by rw[e];simp)
      refine PZ (ih (A:=A.in1) (s:={s with toks:=s.toks+k}) (by rw[Vc];lia) hd1 h1 fun k2=>?_)
      first
       | exact P5 ⟨done++[d1],ds,_,by rw[e];simp,hl',by simp[hb],k+k2,by simp[UC]⟩
       | exact PZ (P5 (P5 ⟨done++[d1],ds,_,by rw[e];simp,hl',by simp[hb],k+k2,by simp[UC]⟩))
    ·rintro b s' ⟨done,left,as',e,hl,hb,k,rfl⟩;cases hl;rw[Ra] at e;subst e;show wpAny _ _ (retInt (Builtin.Tuple.tupleHashOf b.toList)) _ _ _;rw[hb];refine wpAny_ret_mkInt ?_;show wpAny _ _ (if(decide (-(2:Int)^63≤Builtin.Tuple.tupleHashOf (xs.map (gY w n)))&&decide (Builtin.Tuple.tupleHashOf (xs.map (gY w n)) < 2^63))=true then _ else _) Q E _;have h:=h (k+1);unfold gY reduceHash at h
     by_cases hr:(decide (-(2:Int)^63≤Builtin.Tuple.tupleHashOf (xs.map (gY w n)))&&decide (Builtin.Tuple.tupleHashOf (xs.map (gY w n)) < 2^63))=true
     ·rw[P7 hr];rw[P7 hr] at h;exact P5 (by simpa [UC] using h)
     ·rw[Qa hr];rw[Qa hr] at h;exact PZ (RA (P5 (by simpa [UC] using h)))
theorem Fd(n:Nat)(hu:A.units+n < cLine)(pd:dq n d=true)(pe:dq n e=true)(rd:Reads s.heap u d as)(re:Reads s.heap v e bs)(h:Q (PyData.eqv d e) s):
  wpAny (model P w) A (eqBool u v) Q E s:=by
 have c1:=qF n pd;have c2:=qF n pe;refine eqBoolOverData P w A E s u v d e as bs Q rd re c1.1 c2.1 ?_ h;have:min d.depth e.depth≤d.depth:=Sk _ _
 lia
theorem pM:∀(n:Nat) {A:Around} {s:Shared} {d:PyData} {v:Value} {as:List Addr} {Q:Bool->Shared->Prop},dq n d=true->Reads s.heap v d as->Q true s->∀m,n≤m->wpAny (model P w) A (eqIsQuiet m v) Q E s:=by
 intro n
 induction n with
 | zero=>
  intro A s d v as Q hp hr h m hm;have:carriedByValue v=true:=by cases hr <;> first | rfl | simp[dq] at hp
  rw[U2 _ this];exact P5 h
 | succ n ih=>
  intro A s d v as Q hp hr h m hm;cases hr with
  | @tuple a o vs k xs _ ho hc hd hall=>
   obtain⟨m,rfl⟩:∃m',m=m'+1:=⟨m-1,by lia⟩;have hT:s.TypeIs (.ref a) "tuple":=⟨o,ho,hc⟩;have hp':xs.all (dq n)=true:=hp;unfold eqIsQuiet;refine PZ (SV hT F.slot_tuple_eq.lookup ?_);show wpAny _ _ (isInstance (.ref a) (.type "tuple") >>=_) _ _ s;refine PZ (Si hT isSubtype_tuple_tuple ?_);simp only[RB,Qz,RO];refine PZ (Rr ho hd ?_);refine PZ ?_;show wpAny _ _ (forIn vs _ _) _ _ s;rw[←Tw];refine Tj _ (fun rest r s'=>r.1=none∧s'=s∧∃ds as',ReadsAll s.heap rest ds as'∧ds.all (dq n)=true) _ ?_ ?_ _ _ ⟨rfl,rfl,xs,_,hall,hp'⟩
   ·rintro v rest r s' ⟨hr,rfl,ds,as',hl,hds⟩;cases hl with
    | cons h1 h2=>
     rw[Tb,Qq] at hds;refine PZ (ih hds.1 h1 ?_ m (by lia));simp only[RB,Qz,RO];exact P5 ⟨rfl,rfl,_,_,h2,hds.2⟩
   ·rintro⟨r1,r2⟩ s' ⟨hr,rfl,_⟩;simp only at hr;subst hr;exact P5 h
  | int i t=>rw[U2 _ rfl];exact P5 h
  | str i t=>rw[U2 _ rfl];exact P5 h
  | none=>simp[dq] at hp
  | bool=>simp[dq] at hp
  | list=>simp[dq] at hp
  | dict=>simp[dq] at hp
theorem ix(n:Nat)(h:carriedByValue v=true):ofAClassStatement n v=pure false:=by
 cases v with
 | ref a=>simp[carriedByValue] at h
 | _=>first | rfl | simp[ofAClassStatement] |(unfold ofAClassStatement;rfl)
theorem pV:∀(n:Nat) {A:Around} {s:Shared} {d:PyData} {v:Value} {as:List Addr} {Q:Bool->Shared->Prop},dq n d=true->Reads s.heap v d as->Q false s->∀m,n≤m->wpAny (model P w) A (ofAClassStatement m v) Q E s:=by
 intro n
 induction n with
 | zero=>
  intro A s d v as Q hp hr h m hm;have:carriedByValue v=true:=by cases hr <;> first | rfl | simp[dq] at hp
  rw[ix _ this];exact P5 h
 | succ n ih=>
  intro A s d v as Q hp hr h m hm;cases hr with
  | @tuple a o vs k xs _ ho hc hd hall=>
   obtain⟨m,rfl⟩:∃m',m=m'+1:=⟨m-1,by lia⟩;have hT:s.TypeIs (.ref a) "tuple":=⟨o,ho,hc⟩;have hp':xs.all (dq n)=true:=hp;unfold ofAClassStatement;refine PZ (TN hT ?_);dsimp only;refine PZ ?_;refine P5 ?_;simp only[RB,Qz,RO];refine PZ (Rr ho hd ?_);dsimp only;refine PZ ?_;show wpAny _ _ (forIn vs _ _) _ _ s;rw[←Tw];refine Tj _ (fun rest r s'=>r.1=none∧s'=s∧∃ds as',ReadsAll s.heap rest ds as'∧ds.all (dq n)=true) _ ?_ ?_ _ _ ⟨rfl,rfl,xs,_,hall,hp'⟩
   ·rintro v rest r s' ⟨hr,rfl,ds,as',hl,hds⟩;cases hl with
    | cons h1 h2=>
     rw[Tb,Qq] at hds;refine PZ (ih hds.1 h1 ?_ m (by lia));simp only[RB,Qz,RO];exact P5 ⟨rfl,rfl,_,_,h2,hds.2⟩
   ·rintro⟨r1,r2⟩ s' ⟨hr,rfl,_⟩;simp only at hr;subst hr;exact P5 h
  | int i t=>rw[ix _ rfl];exact P5 h
  | str i t=>rw[ix _ rfl];exact P5 h
  | none=>simp[dq] at hp
  | bool=>simp[dq] at hp
  | list=>simp[dq] at hp
  | dict=>simp[dq] at hp
theorem CD:∀(n:Nat) {A:Around} {s:Shared} {d:PyData} {v:Value} {as:List Addr} {Q:Bool->Shared->Prop},dq n d=true->Reads s.heap v d as->(∀b,Q b s)->∀m,wpAny (model P w) A (hashByValue m v) Q E s:=by
 intro n
 induction n with
 | zero=>
  intro A s d v as Q hp hr h m;cases hr with
  | int i t=>rw[Sx m (x:=.int i t) rfl];exact P5 (h _)
  | str i t=>rw[Sx m (x:=.str i t) rfl];exact P5 (h _)
  | none=>simp[dq] at hp
  | bool=>simp[dq] at hp
  | list=>simp[dq] at hp
  | dict=>simp[dq] at hp
  | tuple=>simp[dq] at hp
 | succ n ih=>
  intro A s d v as Q hp hr h m;cases hr with
  | @tuple a o vs k xs _ ho hc hd hall=>
   have hT:s.TypeIs (.ref a) "tuple":=⟨o,ho,hc⟩;have hp':xs.all (dq n)=true:=hp;cases m with
   | zero=>unfold hashByValue;exact P5 (h _)
   | succ m=>
    unfold hashByValue;refine PZ (SV hT Te.lookup ?_);dsimp only;refine PZ (Rr ho hd ?_);refine PZ ?_;show wpAny _ _ (forIn vs _ _) _ _ s;rw[←Tw];refine Tj _ (fun rest r s'=>r.1=none∧s'=s∧∃ds as',ReadsAll s.heap rest ds as'∧ds.all (dq n)=true) _ ?_ ?_ _ _ ⟨rfl,rfl,xs,_,hall,hp'⟩
    ·rintro v rest r s' ⟨hr,rfl,ds,as',hl,hds⟩;cases hl with
     | cons h1 h2=>
      rw[Tb,Qq] at hds;refine PZ (ih hds.1 h1 (fun b=>?_) m);cases b with
      | true=>
       simp only[RB,Qz,RO];exact P5 ⟨rfl,rfl,_,_,h2,hds.2⟩
      | false=>
       simp only[Bool.not_false,SR];exact P5 (P5 (h _))
    ·rintro⟨r1,r2⟩ s' ⟨hr,rfl,_⟩;simp only at hr;subst hr;exact P5 (h _)
  | int i t=>rw[Sx m (x:=.int i t) rfl];exact P5 (h _)
  | str i t=>rw[Sx m (x:=.str i t) rfl];exact P5 (h _)
  | none=>simp[dq] at hp
  | bool=>simp[dq] at hp
  | list=>simp[dq] at hp
  | dict=>simp[dq] at hp
structure nO(es:Array (Int×Value))(t:SetTable):Prop where
 mask:t.mask=7
 Na:t.dummies=#[]
 JB:dQ t.place
 sz:t.place.size=es.size
 le:es.size≤4
 reach:∀(i j:Nat)(e:Int×Value),t.place[i]?=some j->es[i]?=some e->∃n,(road t e.1 n).j=j∧∀m,m < n->(road t e.1 m).j∈t.place.toList
def Gd(w:World)(h:Heap)(n:Nat)(e:Int×Value)(d:PyData):Prop:=dq n d=true∧(∃as,Reads h e.2 d as)∧e.1=gY w n d∧∃a,e.2=.ref a
def iB(w:World)(h:Heap)(n:Nat)(es:Array (Int×Value))(ds:List PyData):Prop:=ds.length=es.size∧∀(i:Nat)(e:Int×Value)(d:PyData),es[i]?=some e->ds[i]?=some d->Gd w h n e d
theorem iB.at{w:World}{h:Heap}{n:Nat}{es:Array (Int×Value)}{ds:List PyData}(E:iB w h n es ds){i:Nat}{e:Int×Value}(he:es[i]?=some e):∃d,ds[i]?=some d∧Gd w h n e d:=by
 have hi:i < es.size:=(Sw.mp he).1;have hd:ds[i]?=some (ds[i]'(by rw[E.1];exact hi)):=P9 _;exact⟨_,hd,E.2 i e _ he hd⟩
theorem nO.fits(T:nO es t):t.fits es.size=true:=by
 unfold SetTable.fits SetTable.fill;rw[T.sz,T.Na,T.mask];have:=T.le;simp
 lia
theorem nO.CG(T:nO es t)(h:Int):∃N,N < 21∧(road t h N).j∉t.place.toList∧∀i,i < N->(road t h i).j∈t.place.toList:=by
 obtain⟨n,h1,h2⟩:=zx T.mask h (by rw[T.sz];have:=T.le;lia);obtain⟨m,m1,m2,m3⟩:=EZ (p:=fun i=>(road t h i).j∉t.place.toList) h2;exact⟨m,by lia,m2,fun i hi=>RH (m3 i hi)⟩
theorem DL(hn:n≤8)(px:dq n dx=true)(rx:Reads s.heap x dx as):∀(ys:List Value),(∀y∈ys,∃d as,dq n d=true∧Reads s.heap y d as)->∀{Q:Bool->Shared->Prop},Q false s->wpAny (model P w) A (searchCouldBeSeen x ys) Q E s:=by
 intro ys hys Q h;unfold searchCouldBeSeen;refine PZ ?_;refine Tj _ (fun rest r s'=>r.1=none∧s'=s∧∀y∈rest,∃d as,dq n d=true∧Reads s.heap y d as) _ ?_ ?_ _ _ ⟨rfl,rfl,hys⟩
 ·rintro y rest r s' ⟨hr,rfl,hl⟩;obtain⟨d,bs,pd,rd⟩:=hl y (.head _);have hl':=fun z hz=>hl z (.tail _ hz);dsimp only
  split
  all_goals
   split
   ·exact P5 ⟨rfl,rfl,hl'⟩
   ·refine PZ (pM n px rx ?_ 8 hn);simp only[RB,Qz,RO];refine PZ (pM n pd rd ?_ 8 hn);simp only[RB,Qz,RO];refine PZ (pV n px rx ?_ 8 hn);simp only[Qz,RO];refine PZ (pV n pd rd ?_ 8 hn);simp only[Qz,RO];exact P5 ⟨rfl,rfl,hl'⟩
 ·rintro⟨r1,r2⟩ s' ⟨hr,rfl,_⟩;simp only at hr;subst hr;exact P5 h
theorem zm{a b:Addr}{ob:Obj}{es:Array (Int×Value)}{ep:Nat}{t:SetTable}{n:Nat}{ds:List PyData}{dx:PyData}{as:List Addr}{h:Int}{N:Nat}{Q:SetFound->Shared->Prop}
  (hob:s.heap.get? a=some ob) (hdt:ob.data=.set es ep t) (T:nO es t) (L:iB w s.heap n es ds) (hn:n≤8) (hu:A.units+n < cLine) (px:dq n dx=true) (rx:Reads s.heap (.ref b) dx as) (hh:h=gY w n dx)
  (hN:(road t h N).j∉t.place.toList) (hl:∀i,i < N->(road t h i).j∈t.place.toList) (hN21:N < 21)
  (hit:dx∈ds->Q (.there none) s) (miss:dx∉ds->Q (.free (road t h N).j false) s):
  ∀(k fuel m:Nat)(stand:Option SetTable.Probe),N-m=k->m≤N->N-m < fuel->stand.getD (t.probeStart h)=road t h m->(∀(c i:Nat)(d:PyData),c < m->t.place[i]?=some (road t h c).j->ds[i]?=some d->d≠dx)->
   wpAny (model P w) A (setSearchFrom a (.ref b) h true fuel stand) Q E s:=by
 intro k
 induction k using Nat.strongRecOn with
 | _ k ih=>
  intro fuel m stand hk hm hf hst hin;obtain⟨fuel,rfl⟩:∃f,fuel=f+1:=⟨fuel-1,by lia⟩;unfold setSearchFrom;refine PZ (Rw hob hdt T.fits ?_);dsimp only;have hgw:t.gaveWay=false:=by unfold SetTable.gaveWay;rw[T.mask];rfl
  rw[hgw];simp only[Qz,RO];rw[hst];generalize hha:(fun(i:Nat)=>((es[i]?.map fun(e:Int×Value)=>e.1).getD 0:Int))=hashAt;have hfuel:N-m < 10*SetTable.turns t.mask:=by unfold SetTable.turns;rw[T.mask];lia
  have hpr:=yb T.JB T.Na hashAt h hN (10*SetTable.turns t.mask) m hm hfuel hl;have at_:∀i j,t.place[i]?=some j->∃e,es[i]?=some e:=fun i j hj=>by
   have:i < es.size:=by rw[←T.sz];exact(Sw.mp hj).1
   exact⟨es[i],QE this⟩
  have hhe:∀i e,es[i]?=some e->hashAt i=e.1:=fun i e he=>by rw[←hha];simp[he]
  rcases hpr with⟨p1,p2⟩ |⟨c,i,c1,c2,c3,c4,c5,c6⟩
  ·have hp:t.probe hashAt h (road t h m)=some (.empty (road t h N).j none):=p1;subst hha
   erw [hp]
   dsimp only;refine P5 (miss fun hmem=>?_);obtain⟨i,hi⟩:=RI.mp hmem;have his:i < es.size:=by rw[←L.1];exact(P4.mp hi).1
   have he:=QE (xs:=es) his;obtain⟨hp1,hr1,hh1,_⟩:=L.2 i _ dx he hi;have hpl:i < t.place.size:=by rw[T.sz];exact his
   have hj:=QE (xs:=t.place) hpl;obtain⟨n0,r1,r2⟩:=T.reach i _ _ hj he;rw[hh1,←hh] at r1 r2;have hn0:n0 < N:=by
    rcases UO n0 N with q | q | q
    ·exact q
    ·subst q;exact absurd (by rw[r1];simp) hN
    ·exact absurd (r2 N q) hN
   rcases Sf n0 m with q | q
   ·exact hin n0 i dx q (by rw[r1];exact hj) hi rfl
   ·exact p2 n0 i q hn0 (by rw[r1];exact hj) (by rw[hhe i _ he,hh1,hh])
  ·have hp:t.probe hashAt h (road t h m)=some (.candidate (road t h c).j i (road t h (c+1))):=c6;subst hha
   erw [hp]
   dsimp only;obtain⟨⟨h',y⟩,he⟩:=at_ i _ c3
   obtain⟨dy,hdy,py,⟨bs,ry⟩,hhy,⟨ya,hya⟩⟩:=L.at he;dsimp only at ry hhy hya;subst hya;have seen:∀{Q':Bool->Shared->Prop},Q' false s->wpAny (model P w) A (searchCouldBeSeen (.ref b) ((es.filter (·.1==h)).toList.map (·.2))) Q' E s:=fun {Q'} q=>by
    refine DL hn px rx _ (fun y hy=>?_) q;obtain⟨e,he,rfl⟩:=Ql.mp hy;have he':e∈es.toList:=by
     have:=Ro.mp he;exact Ro.mpr (Array.mem_filter.mp this).1
    obtain⟨i,hi,hv⟩:=VH (Ro.mp he');obtain⟨d,_,pd,⟨bs,rd⟩,_,_⟩:=L.at (i:=i) (e:=e) (by rw[QE hi,hv]);exact⟨d,bs,pd,rd⟩
   have go:wpAny (model P w) A (do
     let some (_,y):=es[i]? | unsupported "internal:set-entry"
     let equal←holding [y] (eqBool y (.ref b));let(es',_,t')←setState a
     if true&&equal then return .there none
     let some same:=t'.sameMemory t.moves t.mask | unsupported "set.changed-during-lookup:is-the-new-block-at-the-old-address"
     let still←match (if same then t'.slot (road t h c).j else .empty) with
      | .live i'=>match es'[i']? with
       | some (_,y')=>do pure (if←isSame y' y then some i' else none)
       | none=>pure none
      | _=>pure none
     match still with
     | none=>rule "set.search.anew";setSearchFrom a (.ref b) h true fuel none
     | some i'=>if equal then return .there (some i') else setSearchFrom a (.ref b) h true fuel (some (road t h (c+1)))) Q E s:=by
    rw[he];dsimp only;refine PZ (QW (Fd n hu py px ry rx ?_));refine PZ (Rw hob hdt T.fits ?_);dsimp only;cases hq:PyData.eqv dy dx with
    | true=>
     rw[Vf,P7 rfl];refine P5 (hit ?_);rw[←wx n py px hq];exact P6 hdy
    | false=>
     rw[Vf,Qa QZ];have hsm:t.sameMemory t.moves t.mask=some true:=by unfold SetTable.sameMemory;rw[P7 (by simp)]
     rw[hsm];dsimp only;rw[P7 rfl,oq T.JB c3];dsimp only;rw[he];dsimp only;refine PZ (wpAny_isSame_ref_self (PZ (P5 ?_)));rw[P7 rfl];dsimp only;rw[Qa QZ];refine ih (N-(c+1)) (by lia) fuel (c+1) _ rfl (by lia) (by lia) rfl fun c' i' d' hc' hp' hd'=>?_;have his':i' < es.size:=by rw[←L.1];exact(P4.mp hd').1
     have he':=QE (xs:=es) his';obtain⟨pd',_,hh',_⟩:=L.2 i' _ d' he' hd';rcases Sf c' m with q | q
     ·exact hin c' i' d' q hp' hd'
     ·rcases Sf c' c with q2 | q2
      ·intro z;subst z;exact c5 c' i' q q2 hp' (by rw[hhe i' _ he',hh',hh])
      ·have:c'=c:=by lia
       subst this;have:i'=i:=(iO T.JB hp').symm.trans (iO T.JB c3);subst this;intro z;rw[hdy] at hd';injection hd' with hd'
       rw[hd',z,eqv_refl dx (qF n px).1] at hq;cases hq
   cases hled:t.led with
   | true=>
    simp only[RB,Qz,RO];exact go
   | false=>
    simp only[Bool.not_false,SR];refine PZ (seen ?_);simp only[Qz,RO];exact go
theorem m9(xs:Array α)(p:Nat)(x:α)(hp:p≤xs.size)(i:Nat):(SetTable.insertAt xs p x)[i]?=if i < p then xs[i]? else if i=p then some x else xs[i-1]?:=by
 rw[←Rj,SetTable.toList_insertAt]
 by_cases h1:i < p
 ·rw[P7 h1,Qk (by simp;lia),UG,P7 h1,Rj]
 ·rw[Qa h1,Qw (by simp;lia)];have hl:(xs.toList.take p).length=p:=by simp;lia
  rw[hl]
  by_cases h2:i=p
  ·subst h2;rw[P7 rfl,Vn];rfl
  ·rw[Qa h2];obtain⟨k,hk⟩:∃k,i-p=k+1:=⟨i-p-1,by lia⟩;rw[hk,Ry,UH,Rj];congr 1
   lia
noncomputable def ET(ds:List PyData)(p:Nat)(d:PyData):List PyData:=ds.take p++d::ds.drop p
theorem ve(ds:List PyData)(p:Nat)(d:PyData):(ET ds p d).Perm (ds++[d]):=by
 unfold ET;have h1:(ds.take p++d::ds.drop p).Perm (d::(ds.take p++ds.drop p)):=List.perm_middle;rw[Ri] at h1;exact h1.trans (List.perm_append_singleton d ds).symm
theorem ES(ds:List PyData)(p:Nat)(d:PyData)(hp:p≤ds.length)(i:Nat):(ET ds p d)[i]?=if i < p then ds[i]? else if i=p then some d else ds[i-1]?:=by
 unfold ET
 by_cases h1:i < p
 ·rw[P7 h1,Qk (by simp;lia),UG,P7 h1]
 ·rw[Qa h1,Qw (by simp;lia)];have hl:(ds.take p).length=p:=by simp;lia
  rw[hl]
  by_cases h2:i=p
  ·subst h2;rw[P7 rfl,Vn];rfl
  ·rw[Qa h2];obtain⟨k,hk⟩:∃k,i-p=k+1:=⟨i-p-1,by lia⟩;rw[hk,Ry,UH];congr 1
   lia
theorem dQ.ins(hx:dQ xs)(hj:j∉xs.toList):dQ (SetTable.insertAt xs (SetTable.below xs j) j):=by
 obtain⟨b1,b2,b3⟩:=gU xs j hx;have g:=m9 xs (SetTable.below xs j) j b1;generalize SetTable.below xs j=p at b1 b2 b3 g;intro i k hi hk hik;have gi:=g i;have gk:=g k;rw[QE hi] at gi;rw[QE hk] at gk;have b3':∀i (h:i < xs.size),p≤i->j < xs[i]:=fun i h q=>by
  rcases Sf j xs[i] with z | z
  ·exact z
  ·have y0:=b3 i h q;have y1:xs[i]=j:=by lia
   have y2:xs[i]∈xs.toList:=by simp
   rw[y1] at y2;exact absurd y2 hj
 have some_lt:∀{i v:Nat},some v=xs[i]?->∃h:i < xs.size,v=xs[i]:=fun {i v} e=>by
  obtain⟨h1,h2⟩:=Sw.mp e.symm;exact⟨h1,h2.symm⟩
 by_cases i1:i < p
 ·rw[P7 i1] at gi;obtain⟨hi',ei⟩:=some_lt gi;rw[ei]
  by_cases k1:k < p
  ·rw[P7 k1] at gk;obtain⟨hk',ek⟩:=some_lt gk;rw[ek];exact hx i k hi' hk' hik
  ·rw[Qa k1] at gk
   by_cases k2:k=p
   ·rw[P7 k2] at gk;injection gk with gk
    rw[gk];exact b2 i hi' i1
   ·rw[Qa k2] at gk;obtain⟨hk',ek⟩:=some_lt gk;rw[ek];exact Ts (b2 i hi' i1) (b3' _ hk' (by lia))
 ·rw[Qa i1] at gi;have k1:¬k < p:=by lia
  have k2:¬k=p:=by lia
  rw[Qa k1,Qa k2] at gk;obtain⟨hk',ek⟩:=some_lt gk;rw[ek]
  by_cases i2:i=p
  ·rw[P7 i2] at gi;injection gi with gi
   rw[gi];exact b3' _ hk' (by lia)
  ·rw[Qa i2] at gi;obtain⟨hi',ei⟩:=some_lt gi;rw[ei];exact hx _ _ hi' hk' (by lia)
theorem HB(hp:p≤xs.size):k∈(SetTable.insertAt xs p j).toList↔k=j∨k∈xs.toList:=by
 rw[(Td xs p j).mem_iff];simp[or_comm]
theorem nO.put(T:nO es t)(hle:es.size≤3)(hN:(road t h N).j∉t.place.toList)(hl:∀i,i < N->(road t h i).j∈t.place.toList)(ht:t'.mask=t.mask∧t'.dummies=t.dummies∧t'.place=SetTable.insertAt t.place (SetTable.below t.place (road t h N).j) (road t h N).j):
  nO (SetTable.insertAt es (SetTable.below t.place (road t h N).j) (h,x)) t':=by
 obtain⟨t1,t2,t3⟩:=ht;have hb:=(gU t.place (road t h N).j T.JB).1;have hb':SetTable.below t.place (road t h N).j≤es.size:=by rw[←T.sz];exact hb
 have hs1:(SetTable.insertAt t.place (SetTable.below t.place (road t h N).j) (road t h N).j).size=t.place.size+1:=by
  have:=(Td t.place (SetTable.below t.place (road t h N).j) (road t h N).j).length_eq
  simpa using this
 have hs2:(SetTable.insertAt es (SetTable.below t.place (road t h N).j) (h,x)).size=es.size+1:=by
  have:=(Td es (SetTable.below t.place (road t h N).j) (h,x)).length_eq
  simpa using this
 have hr:∀h' n,road t' h' n=road t h' n:=fun h' n=>uE t1 h' n;refine⟨t1.trans T.mask,t2.trans T.Na,by rw[t3];exact T.JB.ins hN,by rw[t3,hs1,hs2,T.sz],by rw[hs2];lia,fun i j e hi he=>?_⟩;rw[t3,m9 _ _ _ hb] at hi;rw[m9 _ _ _ hb'] at he;simp only[hr,t3,HB hb]
 by_cases i1:i < SetTable.below t.place (road t h N).j
 ·rw[P7 i1] at hi he;obtain⟨n,n1,n2⟩:=T.reach i j e hi he;exact⟨n,n1,fun m hm=>.inr (n2 m hm)⟩
 ·rw[Qa i1] at hi he
  by_cases i2:i=SetTable.below t.place (road t h N).j
  ·rw[P7 i2] at hi he;injection hi with hi
   injection he with he
   subst hi;subst he;exact⟨N,rfl,fun m hm=>.inr (hl m hm)⟩
  ·rw[Qa i2] at hi he;obtain⟨n,n1,n2⟩:=T.reach _ j e hi he;exact⟨n,n1,fun m hm=>.inr (n2 m hm)⟩
theorem iB.put(L:iB w h n es ds)(hp:p≤es.size)(E:Gd w h n e d):iB w h n (SetTable.insertAt es p e) (ET ds p d):=by
 have hpd:p≤ds.length:=by rw[L.1];exact hp
 refine⟨?_,fun i e' d' he hd=>?_⟩
 ·have h1:=(Td es p e).length_eq;have h2:=(ve ds p d).length_eq;simp at h1 h2;rw[h2,h1,L.1]
 ·rw[m9 _ _ _ hp] at he;rw[ES _ _ _ hpd] at hd
  by_cases i1:i < p
  ·rw[P7 i1] at he hd;exact L.2 i e' d' he hd
  ·rw[Qa i1] at he hd
   by_cases i2:i=p
   ·rw[P7 i2] at he hd;injection he with he
    injection hd with hd
    subst he;subst hd;exact E
   ·rw[Qa i2] at he hd;exact L.2 _ e' d' he hd
theorem lO(hk:∀b o vs m,h.get? b=some o->o.data=.seq vs m->h'.get? b=some o):∀(n:Nat) {d:PyData} {v:Value} {as:List Addr},dq n d=true->Reads h v d as->Reads h' v d as:=by
 intro n
 induction n with
 | zero=>
  intro d v as hp hr;cases hr with
  | int i t=>exact .int i t
  | str x t=>exact .str x t
  | none=>simp[dq] at hp
  | bool=>simp[dq] at hp
  | list=>simp[dq] at hp
  | dict=>simp[dq] at hp
  | tuple=>simp[dq] at hp
 | succ n ih=>
  have hl:∀(ds:List PyData) {vs:List Value} {as:List Addr},ds.all (dq n)=true->ReadsAll h vs ds as->ReadsAll h' vs ds as:=by
   intro ds
   induction ds with
   | nil=>intro vs as _ hr;cases hr;exact .nil
   | cons d ds ihd=>
    intro vs as hp hr;rw[Tb,Qq] at hp;cases hr with
    | cons h1 h2=>exact .cons (ih hp.1 h1) (ihd hp.2 h2)
  intro d v as hp hr;cases hr with
  | int i t=>exact .int i t
  | str x t=>exact .str x t
  | none=>simp[dq] at hp
  | bool=>simp[dq] at hp
  | list=>simp[dq] at hp
  | dict=>simp[dq] at hp
  | tuple h1 h2 h3 h4=>exact .tuple (hk _ _ _ _ h1 h3) h2 h3 (hl _ hp h4)
theorem iB.keep(L:iB w h n es ds)(hk:∀b o vs m,h.get? b=some o->o.data=.seq vs m->h'.get? b=some o):iB w h' n es ds:=
 ⟨L.1,fun i e d he hd=>by
  obtain⟨a1,⟨as,a2⟩,a3,a4⟩:=L.2 i e d he hd;exact⟨a1,⟨as,lO hk n a1 a2⟩,a3,a4⟩⟩
noncomputable def CF(ds:List PyData)(d:PyData):Bool:=ds.any fun e=>PyData.eqv e d
noncomputable def pD(ds:List PyData)(d:PyData):List PyData:=if CF ds d then ds else ds++[d]
theorem EW(hs:∀e∈ds,dq n e=true)(hd:dq n d=true):CF ds d=true↔d∈ds:=by
 unfold CF;rw[Rb];constructor
 ·rintro⟨e,he,q⟩;rw[←wx n (hs e he) hd q];exact he
 ·intro h;exact⟨d,h,eqv_refl d (qF n hd).1⟩
theorem sub_tuple_set':isSubtype (.type "tuple") (.type "set")=pure false:=by rw[UM];ac_nf
theorem sub_tuple_frozenset':isSubtype (.type "tuple") (.type "frozenset")=pure false:=by rw[UM];ac_nf
structure Ip(P:Program)(w:World)(A:Around)(h₀:Heap)(S:Addr)(items:Array Value)(J:Nat->Heap->Prop):Prop where
 frame:∀(i:Nat)(h h':Heap),(∀o,h.get? S=some o->h'.get? S=some o)->J i h->J i h'
 fresh:∀(led:Bool)(h:Heap),h.get? S=some {cls:=.type "set",dict:=none,data:=.set #[] 0 (.fresh 0 0 led)}->J 0 h
 step:∀(i:Nat)(v:Value)(s:Shared)(E:Value->Shared->Prop)(Q:Bool->Shared->Prop),items[i]?=some v->J i s.heap->(∀b o,h₀.get? b=some o->s.heap.get? b=some o)->
  (∀r h' tk,s.toks≤tk->Heap.SameBut S s.heap h'->J (i+1) h'->Q r {s with heap:=h',toks:=tk})->wpAny (model P w) A (setAdd S v) Q E s
theorem DK{A:Around}{R:Result->Shared->Prop}{I:Addr}{fp wr:List Addr}{G:Array GenState->Array GenState->Prop}{items:Array Value}{St:Nat->Shared->Prop}{h₀:Heap}{S:Addr}{J:Nat->Heap->Prop}
  (W:WalksS P w A.in1 I fp wr G items.size (fun i v=>items[i]?=some v) St) (hSf:S∉fp) (D:Ip P w A.in1 h₀ S items J) (hw0:∀b∈wr,h₀.get? b=none) (hS0:h₀.get? S=none):
  ∀(k i:Nat)(s:Shared),items.size-i=k->i≤items.size->St i s->J i s.heap->(∀b o,h₀.get? b=some o->s.heap.get? b=some o)->
   (∀s',Moved (S::wr) G s s'->J items.size s'.heap->R (.ok (.ret .none)) s')->
   codeAny (model P w) A (.builtin "set.update.loop" ⟨[.ref S,.ref I],[]⟩) R s:=by
 have hSw:S∉wr:=fun h=>hSf (W.sub _ h);have hsub:∀b∈wr,b∈S::wr:=fun b hb=>Qc _ hb;intro k
 induction k with
 | zero=>
  intro i s hk hi hst hJ h0 hR;have hin:i=items.size:=by lia
  subst hin;refine Q6 To ?_;rw[QU RU _];show wpAny _ A.in1 (pyNext (.ref I) >>=_) _ _ s;refine PZ (W.done s _ _ hst fun s' hm=>?_);show wpAny _ A.in1 (ret Value.none) _ _ s';exact P5 (hR s' (hm.mono hsub) (D.frame _ _ _ (fun o e=>hm.heap S o hSw e) hJ))
 | succ k ih=>
  intro i s hk hi hst hJ h0 hR;have hlt:i < items.size:=by lia
  refine Q6 To ?_;rw[QU RU _];show wpAny _ A.in1 (pyNext (.ref I) >>=_) _ _ s;refine PZ (W.item i s _ _ hlt hst fun v s' hP hst' hm=>?_);have hJ':=D.frame i s.heap s'.heap (fun o e=>hm.heap S o hSw e) hJ;have h0':∀b o,h₀.get? b=some o->s'.heap.get? b=some o:=fun b o e=>hm.heap b o (fun hb=>by rw[hw0 b hb] at e;cases e) (h0 b o e);show wpAny _ A.in1 (holding [v] (setAdd S v) >>=_) _ _ s';refine PZ (QW (D.step i v s' _ _ hP hJ' h0' fun r h' tk htk hsb hJ2=>?_));refine P5 ⟨RT RU _,ih (i+1) _ (by lia) hlt (W.frame _ s' _ _ hst' htk fun b hb o e=>?_) hJ2 (fun b o e=>?_) fun s'' hm'' hJ''=>?_⟩
  ·rw[hsb.2 b (fun h:b=S=>hSf (by rw[←h];exact hb))];exact e
  ·rw[hsb.2 b (fun h:b=S=>by rw[h,hS0] at e;cases e)];exact h0' b o e
  ·refine hR s'' (Moved.trans W.gtrans ((hm.mono hsub).then_heap htk fun b o hb e=>?_) hm'') hJ'';rw[hsb.2 b (fun h:b=S=>hb (by rw[h];exact Qe))];exact e
set_option maxHeartbeats 3200000 in
theorem ki{l:Addr}{items:Array Value}{J:Nat->Heap->Prop}{Q:Value->Shared->Prop}
  (hh:A.handled=none) (hl:s.heap.IsTuple l items) (D:∀A':Around,A'.handled=none->A'.units≤A.units+8->Ip P w A' s.heap s.heap.objs.size items J)
  (h:∀(h':Heap)(tk:Nat),J items.size h'->(∀b o,b < s.heap.objs.size->s.heap.get? b=some o->h'.get? b=some o)->Q (.ref s.heap.objs.size) {s with heap:=h',toks:=tk}):
  wpAny (model P w) A (call (.type "set") [.ref l]) Q E s:=by
 obtain⟨c,tl,hmro⟩:=Rl.mro;have hmade:=Rl.made;have hsub:=Rl.sub;refine wpAny_call (UA ?_);show wpAny _ _ (callAny (.type "set") _) _ _ _;refine P5 ⟨Code.quiet_builtin _ (by decide+kernel),Q6 F.entry_type_call ?_⟩;rw[Around.under_plain (weight_type_call_type "set" [.ref l] []) rfl];have h1:=Rl.notType;have h2:=Rl.canCreate;have hct:=F.typeCall_set_1 (.ref l)
 repeat(any_goals (first | assumption | wp_step))
 refine SN (code_set_new_1 (.ref l) (E:=E) (Q₁:=fun obj s₁=>∃led:Bool,obj=.ref s.heap.objs.size∧s₁={s with heap:=s.heap.push {cls:=.type "set",dict:=none,data:=.set #[] 0 (.fresh 0 0 led)}}) fun led=>⟨led,rfl,rfl⟩) fun r s₁ hr=>?_;cases r with
 | error e=>exact hr
 | ok fl=>
  cases fl with
  | ret obj=>
   obtain⟨led,rfl,rfl⟩:=hr;have hS:(s.heap.push {cls:=.type "set",dict:=none,data:=.set #[] 0 (.fresh 0 0 led)}).get? s.heap.objs.size=some {cls:=.type "set",dict:=none,data:=.set #[] 0 (.fresh 0 0 led)}:=Qg _ rfl;have hT:Shared.TypeIs {s with heap:=s.heap.push {cls:=.type "set",dict:=none,data:=.set #[] 0 (.fresh 0 0 led)}} (.ref s.heap.objs.size) "set":=⟨_,hS,rfl⟩;have hli:=Rl.init.lookup;have hbi:=Rl.init.bind (.ref s.heap.objs.size)
   repeat(any_goals (first | assumption | wp_step))
   refine SN (codeAny_call_builtin (R:=wants (fun r s₂=>r=.none∧∃h' tk,s₂={s with heap:=h',toks:=tk}∧J items.size h'∧
     (∀b o,b < s.heap.objs.size->s.heap.get? b=some o->h'.get? b=some o)) E) Rl.init.plain F.entry_set_init (check_set_init_1 hT ?_)) fun r₂ s₂ hr₂=>?_
   ·obtain⟨ol,hol,hcl,nl,hdl⟩:=hl;obtain⟨ocls,odict,odata,oslots⟩:=ol;simp only at hcl hdl;subst hcl;subst hdl;have hol':(s.heap.push {cls:=.type "set",dict:=none,data:=.set #[] 0 (.fresh 0 0 led)}).get? l=some {cls:=.type "tuple",dict:=odict,data:=.seq items nl,slots:=oslots}:=P2 _ hol;have hsls:=sub_tuple_set';have hslf:=sub_tuple_frozenset';have hne:(Value.type "tuple"==Value.type "dict")=false:=by decide
    have hl1:(s.heap.push {cls:=.type "set",dict:=none,data:=.set #[] 0 (.fresh 0 0 led)}).IsTuple l items:=⟨_,hol',rfl,nl,rfl⟩;unfold Builtin.«set.__init__» noKeywords Builtin.Frozenset.updateFrom;generalize hPI:pyIter=PI
    wp_walk
    subst hPI;refine Ss hl1 ?_;refine PZ (VC ?_);have hlS:l < s.heap.objs.size:=Qf hol;have hh3:A.in1.in1.in1.handled=none:=by simp[hh]
    have hneI:l≠(s.heap.push {cls:=.type "set",dict:=none,data:=.set #[] 0 (.fresh 0 0 led)}).objs.size:=by
     rw[QJ];exact Qo (Sq hlS)
    have hSf:s.heap.objs.size∉[(s.heap.push {cls:=.type "set",dict:=none,data:=.set #[] 0 (.fresh 0 0 led)}).objs.size,l]:=by
     rw[QJ];simp only[Qn,Qj,S9,UK,not_or];exact⟨Qo (SD _),Tr hlS⟩
    have none_of:∀b,s.heap.objs.size≤b->s.heap.get? b=none:=fun b hb=>by
     cases q:s.heap.get? b with
     | none=>rfl
     | some o=>exact absurd (Qf q) (U3.mpr hb)
    refine DK ((Walks.tuple hh3 _ l hneI items).toS) hSf (D _ hh3 (by simp only[Vc];lia)) (fun b hb=>?_) (none_of _ (P8 _)) (items.size-0) 0 _ (by lia) (Q9 _)
     ⟨⟨_,Qg _ rfl,rfl,rfl⟩,(hl1.push _)⟩ ?hS0 ?hK ?hR
    ·rw[Qj] at hb;subst hb;exact none_of _ (by rw[QJ];lia)
    case hS0=>
     exact(D A hh (by lia)).fresh led _ (P2 _ hS)
    case hK=>
     intro b o e;exact P2 _ (P2 _ e)
    case hR=>
     intro s' hm hJ';obtain⟨h',g',d',tk',os'⟩:=s';have eg:g'=s.gens:=hm.gens;have ed:d'=s.drawn:=hm.drawn;have eo:os'=s.os:=hm.os;subst eg;subst ed;subst eo;show wpAny _ _ _ _ _ _;refine P5 ?_;show wpAny _ _ (ret Value.none) _ _ _;refine P5 ⟨rfl,h',tk',rfl,hJ',fun b o hb e=>?_⟩;have hb1:b≠s.heap.objs.size:=Qo hb;have hb2:b≠(s.heap.push {cls:=.type "set",dict:=none,data:=.set #[] 0 (.fresh 0 0 led)}).objs.size:=by
      rw[QJ];exact Qo (Sq hb)
     exact hm.heap b o (by simp only[Qn,Qj,S9,UK,not_or];exact⟨hb1,hb2⟩) (P2 _ (P2 _ e))
   ·cases r₂ with
    | error e=>exact hr₂
    | ok fl₂=>
     cases fl₂ with
     | ret r=>
      obtain⟨rfl,h',tk,rfl,hJ',hk'⟩:=hr₂
      repeat(any_goals (first | assumption | wp_step))
      exact h _ _ hJ' hk'
     | _=>exact hr₂.elim
  | _=>exact hr.elim
def OZ(w:World)(h₀ h:Heap)(a:Addr)(n:Nat)(ds:List PyData):Prop:=
 ∃o es ep t ds',h.get? a=some o∧o.ExactSet∧o.data=.set es ep t∧nO es t∧iB w h₀ n es ds'∧ds'.Perm ds
theorem tG(keep:∀b o,h₀.get? b=some o->s.heap.get? b=some o)(hS:OZ w h₀ s.heap a n ds)(hn:n≤8)(hu:A.units+n < cLine)(px:dq n dx=true)(rx0:Reads h₀ (.ref b) dx as)(hroom:ds.length≤3)(h:∀r h',Heap.SameBut a s.heap h'->OZ w h₀ h' a n (pD ds dx)->Q r {s with heap:=h'}):wpAny (model P w) A (setAddHashed a (.ref b) (gY w n dx)) Q E s:=by
 obtain⟨ob,es,ep,t,ds',hob,hex,hdt,T,L0,hperm⟩:=id hS;have L:=L0.keep (h':=s.heap) fun b o _ _ e _=>keep b o e;have rx:=lO (h':=s.heap) (fun b o _ _ e _=>keep b o e) n px rx0;obtain⟨N,N1,N2,N3⟩:=T.CG (gY w n dx);have hpl:∀e∈ds,dq n e=true:=fun e he=>by
  obtain⟨i,hi⟩:=RI.mp (hperm.mem_iff.mpr he);have his:i < es.size:=by rw[←L.1];exact(P4.mp hi).1
  exact(L.2 i _ e (QE his) hi).1
 have hmem:=EW hpl px;unfold setAddHashed setAddHashedIn;refine QW (PZ (Rw hob hdt T.fits ?_));dsimp only;rw[Qa (by show ¬(byScan (Value.ref b) es=true);unfold byScan Value.scannable;simp)];refine PZ ?_;unfold setSearch;refine zm hob hdt T L hn hu px rx rfl N2 N3 N1 (fun hit=>?_) (fun miss=>?_) _ 100000 0 none rfl (Q9 _) (by lia) rfl (fun c i d hc=>absurd hc (RV _))
 ·dsimp only;refine P5 ?_;refine h false s.heap (Heap.SameBut.refl a s.heap) ?_;unfold pD;rw[P7 (hmem.mpr (hperm.mem_iff.mp hit))];exact hS
 ·dsimp only;have hno:CF ds dx=false:=by
   cases q:CF ds dx with
   | false=>rfl
   | true=>exact absurd (hperm.mem_iff.mpr (hmem.mp q)) miss
  refine PZ (Rw hob hdt T.fits ?_);dsimp only;have hlen:es.size≤3:=by rw[←L.1,hperm.length_eq];exact hroom
  have hb':SetTable.below t.place (road t (gY w n dx) N).j≤es.size:=by rw[←T.sz];exact(gU _ _ T.JB).1
  have hdm:(t.put (road t (gY w n dx) N).j).1.dummies=t.dummies:=by
   unfold SetTable.put;dsimp only;rw[T.Na];rfl
  have fin:∀(t2:SetTable),t2.mask=t.mask->t2.dummies=t.dummies->t2.place=SetTable.insertAt t.place (SetTable.below t.place (road t (gY w n dx) N).j) (road t (gY w n dx) N).j->t2.led=t.led->
    wpAny (model P w) A (do
     storeSet a (SetTable.insertAt es (SetTable.below t.place (road t (gY w n dx) N).j) (gY w n dx,.ref b)) t2
     if(!false&&t2.tooFull)=true then do
      setRelay a (SetTable.grown (es.size+1))
      pure true
     else pure true) Q E s:=fun t2 m1 m2 m3 m4=>by
   have T2:=T.put hlen (x:=.ref b) N2 N3 ⟨m1,m2,m3⟩;have hsz:=T2.le;refine PZ (wpAny_storeSet_of hob hdt ?_ (Um (by unfold scanBound;lia)));have hnf:t2.tooFull=false:=by
    unfold SetTable.tooFull SetTable.fill;have h1:=T2.sz;rw[T2.mask,T2.Na];simp
    lia
   rw[hnf,Qa (by simp)];refine P5 (h true _ (Tx s.heap a (Obj.putSet _ t2)) ?_);have hget:=Rx (Obj.putSet (SetTable.insertAt es (SetTable.below t.place (road t (gY w n dx) N).j) (gY w n dx,.ref b)) t2) hob (by rw[VR _ t2 hdt];rfl);rw[VR _ t2 hdt] at hget;unfold pD;rw[Qa (by rw[hno];simp)];exact⟨_,_,_,_,_,hget,hex,rfl,T2,L0.put hb' ⟨px,⟨as,rx0⟩,rfl,⟨b,rfl⟩⟩,(ve _ _ _).trans (hperm.append_right _)⟩
  cases hpn:(t.put (road t (gY w n dx) N).j).1.plain with
  | true=>
   rw[P7 rfl];refine PZ (CD n px rx (fun bv=>?_) 8);cases bv with
   | true=>exact fin _ rfl hdm rfl rfl
   | false=>exact fin _ rfl hdm rfl rfl
  | false=>
   rw[Qa QZ];refine PZ (P5 ?_);exact fin _ rfl hdm rfl rfl
noncomputable def jk(ds:List PyData):List PyData:=ds.foldl pD []
theorem yZ(ds:List PyData)(d:PyData):jk (ds++[d])=pD (jk ds) d:=by unfold jk;rw[US];rfl
theorem FZ(ds:List PyData)(d:PyData):(pD ds d).length≤ds.length+1:=by unfold pD;split <;> simp
theorem sZ(ds:List PyData):(jk ds).length≤ds.length:=by
 have:∀(ds acc:List PyData),(ds.foldl pD acc).length≤acc.length+ds.length:=by
  intro ds
  induction ds with
  | nil=>intro acc;simp
  | cons d ds ih=>intro acc;rw[RY];have:=ih (pD acc d);have:=FZ acc d;simp only[Qv];lia
 have:=this ds [];unfold jk
 simpa using this
theorem take_snoc{α:Type}{l:List α}{i:Nat}{x:α}(h:l[i]?=some x):l.take (i+1)=l.take i++[x]:=by rw[List.take_add_one,h];rfl
theorem ReadsAll.Pa:∀{vs:List Value} {ds:List PyData} {as:List Addr} {i:Nat} {v:Value},ReadsAll h vs ds as->vs[i]?=some v->∃d bs,ds[i]?=some d∧Reads h v d bs
 | _,_,_,0,_,.cons h1 _,e=>by simp at e;subst e;exact⟨_,_,rfl,h1⟩
 | _,_,_,i+1,_,.cons _ h2,e=>by
  rw[Ry] at e;obtain⟨d,bs,q1,q2⟩:=ReadsAll.Pa h2 e;exact⟨d,bs,q1,q2⟩
noncomputable def sk:PyData->Bool
 | .tuple _=>true
 | _=>false
theorem FV{P:Program}{w:World}{A:Around}{h₀:Heap}{S:Addr}{items:Array Value}{ds:List PyData}{as:List Addr}(hu:A.units+8 < cLine)(hr:ReadsAll h₀ items.toList ds as)(hp:ds.all (dq 8)=true)(ht:ds.all sk=true)(hl:ds.length≤4):
  Ip P w A h₀ S items (fun i h=>OZ w h₀ h S 8 (jk (ds.take i))) where
 frame:=fun i h h' k=>by
  rintro⟨o,es,ep,t,ds',e,r⟩;exact⟨o,es,ep,t,ds',k o e,r⟩
 fresh:=fun led h e=>by
  refine⟨_,#[],0,_,[],e,⟨rfl,rfl,rfl⟩,rfl,⟨rfl,rfl,fun i j hi=>absurd hi (RV _),rfl,Q9 _,fun i j e hi=>?_⟩,⟨rfl,fun i e d he=>?_⟩,?_⟩
  ·exact absurd hi (by simp[SetTable.fresh])
  ·exact absurd he (by simp)
  ·rw[Sa];exact .refl _
 step:=fun i v s E Q hv hJ keep h=>by
  obtain⟨d,bs,hd,rd⟩:=ReadsAll.Pa hr (by rw[Rj];exact hv);have hm:d∈ds:=P6 hd;have pd:=Rq.mp hp d hm;have td:=Rq.mp ht d hm;have hil:i < ds.length:=(P4.mp hd).1;have hroom:(jk (ds.take i)).length≤3:=by
   have h1:=sZ (ds.take i);have h2:(ds.take i).length≤i:=by rw[Qy];exact Sk _ _
   lia
  have hb:∃b,v=.ref b:=by cases rd <;> first | exact⟨_,rfl⟩ |(simp[sk] at td;done)
  obtain⟨b,rfl⟩:=hb;unfold setAdd;refine QW ?_;have rd':=lO (h':=s.heap) (fun b o _ _ e _=>keep b o e) 8 pd rd;refine PZ (CA 8 hu pd rd' fun k=>?_);refine tG (s:={s with toks:=s.toks+k}) keep hJ (P8 _) hu pd rd hroom fun r h' hsb hT=>?_;refine h r h' (s.toks+k) (by lia) hsb ?_;rw[take_snoc hd,yZ];exact hT
noncomputable def jo(ks:List Key)(k:Key):List Key:=if ks.any (fun x=>decide (x=k)) then ks else ks++[k]
noncomputable def jq(ks:List Key):List Key:=ks.foldl jo []
theorem sY(ks:List Key)(d:Key):jq (ks++[d])=jo (jq ks) d:=by unfold jq;rw[US];rfl
theorem Dh(ds:List Key)(d:Key):(jo ds d).length≤ds.length+1:=by unfold jo;split <;> simp
theorem vB(ds:List Key):(jq ds).length≤ds.length:=by
 have:∀(ds acc:List Key),(ds.foldl jo acc).length≤acc.length+ds.length:=by
  intro ds
  induction ds with
  | nil=>intro acc;simp
  | cons d ds ih=>intro acc;rw[RY];have:=ih (jo acc d);have:=Dh acc d;simp only[Qv];lia
 have:=this ds [];unfold jq
 simpa using this
theorem zl{P:Program}{w:World}{h:Heap}{a:Addr}{S S':Key->Bool}{n n':Nat}(hS:h.SetOf (aQ P w) a S n)(e:∀k,S k=S' k)(en:n=n'):h.SetOf (aQ P w) a S' n':=by
 have:S=S':=funext e;subst this;subst en;exact hS
theorem FW{P:Program}{w:World}{A:Around}{h₀:Heap}{S:Addr}{items:Array Value}{ks:List Key}(hk:∀(i:Nat)(v:Value),items[i]?=some v->∃k,ks[i]?=some k∧RelV (kV k) v)(hl:ks.length≤1000):
  Ip P w A h₀ S items (fun i h=>h.SetOf (aQ P w) S (fun k'=>(jq (ks.take i)).any fun x=>decide (x=k')) (jq (ks.take i)).length) where
 frame:=fun i h h' k=>by
  rintro⟨o,es,ep,t,e,r⟩;exact⟨o,es,ep,t,k o e,r⟩
 fresh:=fun led h e=>by
  rw[Sa];exact⟨_,#[],0,_,e,⟨rfl,rfl,rfl⟩,rfl,fun e he=>by simp at he,fun k=>by simp[jq],by decide,rfl,rfl⟩
 step:=fun i v s E Q hv hJ keep h=>by
  obtain⟨k,hki,rk⟩:=hk i v hv;have hil:i < ks.length:=(P4.mp hki).1;have hroom:(jq (ks.take i)).length+1 < scanBound:=by
   have h1:=vB (ks.take i);have h2:(ks.take i).length≤i:=by rw[Qy];exact Sk _ _
   unfold scanBound
   lia
  have hsc:v.scannable=true:=by
   cases k with
   | inl i=>obtain⟨t,e⟩:=(show ∃t,v=Value.int i t from rk);subst e;rfl
   | inr x=>obtain⟨t,e⟩:=(show ∃t,v=Value.str x t from rk);subst e;rfl
  unfold setAdd;refine QW ?_;refine PZ ((aQ P w).pyHash (k:=k) (kY rk) ?_);refine wpAny_setAddHashed_of (knd:=aQ P w) (s:={s with toks:=s.toks+1}) (kY rk) hsc hJ hroom fun h' hsb hS2=>?_;refine h _ h' (s.toks+1) (by lia) hsb (zl hS2 (fun k'=>?_) ?_)
  ·rw[take_snoc hki,sY];unfold jo
   by_cases c:((jq (ks.take i)).any fun x=>decide (x=k))=true
   ·rw[P7 c]
    by_cases e:k'=k
    ·subst e;rw[c];rfl
    ·rw[QS e,Vg]
   ·rw[Qa c,List.any_append];congr 1;simp[eq_comm]
  ·rw[take_snoc hki,sY];unfold jo
   split <;> simp
def Ga(h:Heap)(a:Addr)(n:Nat):Prop:=n≤4096∧∃o es ep t,h.get? a=some o∧o.ExactSet∧o.data=.set es ep t∧t.fits es.size=true∧es.size=n
noncomputable def AI(a:Addr)(n:Nat):HO:=.ext fun h=>Ga h a n
theorem KR(x:Ga h a n):cL P w H h a (AI a n):=
 ⟨x,let⟨_,o,_,_,_,e,_⟩:=x;⟨o,e⟩,fun h1 h2 y k=>let⟨q,o,es,ep,t,e,r⟩:=y;⟨q,o,es,ep,t,k o e,r⟩⟩
theorem C6:eN X (.builtin "len") (fun xs H Q=>∃a n,xs=[.ref a]∧H a=some (AI a n)∧Q (.int n) H):=by
 intro pins s σ H xs us Q I r h;obtain⟨a,n,rfl,e,q⟩:=h;obtain⟨u,rfl,rx⟩:=vals1 r;cases rx;obtain⟨⟨hn,o,es,ep,t,e1,e2,e3,e4,e5⟩,_,_⟩:=I.bC a _ e;subst e5;have hfit:(es.size:Int) < 2^63:=by
  have:(es.size:Int)≤4096:=by lia
  exact Int.lt_of_le_of_lt this (by decide)
 refine call_len_set e1 e2 e3 e4 hfit ?_;exact⟨.int es.size,H,I.tok _,⟨_,rfl⟩,q⟩
theorem CY(hc:X.calm=true)(hu:X.A.units+64 < cLine):eN X (.type "set") (fun xs H Q=>∃a vs n,xs=[.ref a]∧ko X.K H a vs∧
  ((∃ks,vs=ks.map kV∧ks.length≤1000∧n=(jq ks).length)∨(∃ds,pG X.K H vs ds∧ds.all (dq 8)=true∧ds.all sk=true∧ds.length≤4∧n=(jk ds).length))∧∀l,H l=none->Q (.ref l) (upd H l (AI l n))):=by
 intro pins s σ H xs us Q I r h;obtain⟨a,vs,n,rfl,hq,hcase,q⟩:=h;obtain⟨u,rfl,rx⟩:=vals1 r;cases rx;obtain⟨its,rv,pt,hz⟩:=I.tuple hq;have hlen:=rv.length;have fin:∀(h':Heap)(tk:Nat),Ga h' s.heap.objs.size n->(∀b o,b < s.heap.objs.size->s.heap.get? b=some o->h'.get? b=some o)->EP X pins σ Q (.ref s.heap.objs.size) {s with heap:=h',toks:=tk}:=fun h' tk hL k=>
  ⟨.ref _,_,I.laid (t':=tk) (o:=AI s.heap.objs.size n) (fun b o e=>k b o (Qf e) e) (P8 _) (KR hL),rfl,q _ I.fresh⟩
 rcases hcase with⟨ks,rfl,hk1,rfl⟩ |⟨ds,hr,h1,h2,h3,rfl⟩
 ·have hkl:ks.length=its.length:=by rw[←hlen,P1]
  refine ki (items:=its.toArray) (I.ok.hd hc) pt (fun A' _ _=>FW (ks:=ks) (fun i v hv=>?_) hk1) fun h' tk hJ k=>fin h' tk ?_ k
  ·have hv':its[i]?=some v:=by simpa using hv
   have hi:i < ks.length:=by rw[hkl];exact(P4.mp hv').1
   have hki:ks[i]?=some ks[i]:=P9 hi;obtain⟨u,hu',ru⟩:=Vals.get rv (x:=kV ks[i]) (i:=i) (by rw[Qi,hki];rfl);rw[hv'] at hu';cases hu';exact⟨_,hki,ru⟩
  ·obtain⟨o,es,ep,t,e1,e2,e3,_,_,e4,e5,e6⟩:=hJ;have hs:its.toArray.size=ks.length:=by rw[hkl];rfl
   rw[hs,QM] at e6;have:=vB ks;exact⟨by lia,o,es,ep,t,e1,e2,e3,e5,e6⟩
 ·obtain⟨as,ra⟩:=hr.reads I rv;have hdl:ds.length=its.length:=by have:=ReadsAll.length _ _ _ ra;lia
  refine ki (items:=its.toArray) (I.ok.hd hc) pt (fun A' _ hA=>FV (ds:=ds) (as:=as) (by lia) ra h1 h2 h3) fun h' tk hJ k=>fin h' tk ?_ k;obtain⟨o,es,ep,t,ds',e1,e2,e3,e4,e5,e6⟩:=hJ;have hs:its.toArray.size=ds.length:=by rw[hdl];rfl
  rw[hs,QM] at e6;have:=sZ ds;exact⟨by lia,o,es,ep,t,e1,e2,e3,e4.fits,by rw[←e5.1,e6.length_eq]⟩
end L2
namespace Sm
open PySem L2 PySem.Spec PyProof.Rows
noncomputable def si:List D->Option (List Key)
 | []=>some []
 | x::r=>(qk x).bind fun k=>(si r).map fun ks=>k::ks
noncomputable def je:D->Option Nat
 | .tup xs=>match si xs with
  | some ks=>if ks.length≤1000 then some (jq ks).length else none
  | none=>(kT xs).bind fun ds=>if(ds.all (dq 8)&&ds.all sk&&decide (ds.length≤4))=true then some (jk ds).length else none
 | _=>none
noncomputable def ny(m:EM):EM:=fun δ h=>(m δ h).bind fun p=>(je p.1).map fun(n:Nat)=>(D.int (n:Int),p.2)
theorem yx{K:FR}{ρ:Ad}{H:Hp}{vs:List V}{ds:List D}{ks:List Key}(z:aF K ρ H vs ds)(e:si ds=some ks):vs=ks.map kV:=by
 cases z with
 | nil=>cases e;rfl
 | cons r l=>
  obtain⟨k,e1,e2⟩:=bL e;obtain⟨ks,e3,e4⟩:=gu e2;cases e4;rw[kE r e1,yx l e3];rfl
theorem xS{K:FR}{ρ:Ad}{H:Hp}:∀{vs:List V} {ds:List D} {ps:List PyData},aF K ρ H vs ds->kT ds=some ps->pG K H vs ps
 | _,_,_,.nil,e=>by cases e;exact .nil
 | _,_,_,.cons r l,e=>by
  obtain⟨k,e1,e2⟩:=bL e;obtain⟨ks,e3,e4⟩:=gu e2;cases e4;exact .cons (r.tY e1).1 (xS l e3)
theorem uB(hc:X.calm=true)(hu:X.A.units+64 < cLine)(hgl:Gl X "len")(hml:X.mg "len"=none)(hgs:Gl X "set")(hms:X.mg "set"=none)(he:SE X e me)(hs:starEach [e] X.env=(false,eval e X.env)::starEach [] X.env:=by ac_nf):
  SE X (.Call (.Name "len" p) [.Call (.Name "set" p2) [e] [] pos2] [] pos) (ny me):=
 (rQ C6 hgl hml (by decide+kernel) (mT (kB (CY hc hu) hgs hms (by decide+kernel) (mT he rT hs) (by decide) (by decide) hs) rT)).imp fun σ H Q ⟨ρ,δ,h,d,h',R,S,ee,k⟩=>by
  obtain⟨⟨d1,h1⟩,e1,e2⟩:=bL ee;obtain⟨n,e3,e4⟩:=gu e2;cases e4;refine⟨ρ,δ,h,d1,h1,R,S,e1,fun v H1 ⟨ρ1,T1,S1,r1⟩=>?_⟩;have fin:∀l,H1 l=none->∃a n',[V.ref l]=[V.ref a]∧upd H1 l (AI l n) a=some (AI a n')∧Q (.int n') (upd H1 l (AI l n)):=fun l hl=>
   ⟨l,n,rfl,bh,k _ _ (eL.step (T1.trans (dz.laid S1 hl)) (eL.here (S1.laid hl) (.int _)))⟩
  cases d1 with
  | tup xs=>
   cases r1 with
   | @tup a vs _ ht la=>
    refine⟨a,vs,n,rfl,ht.sq,?_,fin⟩;unfold je at e3;dsimp only at e3;cases q:si xs with
    | some ks=>
     rw[q] at e3;dsimp only at e3
     by_cases c:ks.length≤1000
     ·rw[P7 c] at e3;cases e3;exact .inl ⟨ks,yx la q,c,rfl⟩
     ·rw[Qa c] at e3;cases e3
    | none=>
     rw[q] at e3;obtain⟨ds,e5,e6⟩:=bL e3
     by_cases c:(ds.all (dq 8)&&ds.all sk&&decide (ds.length≤4))=true
     ·rw[P7 c] at e6;cases e6;rw[Qq,Qq] at c;exact .inr ⟨ds,xS la e5,c.1.1,c.1.2,QK c.2,rfl⟩
     ·rw[Qa c] at e6;cases e6
  | _=>cases e3
def BG(mg:Str->Option Value)(x:Str)(d:D):Prop:=∃(v:V)(u:Value),mg x=some u∧RelV v u∧∀K ρ H,Rep K ρ H v d
theorem gj(C:BG X.mg x d)(hg:Gl X x)(hd:(x==("__debug__":Str))=false:=by ac_nf):SE X (.Name x pos) (eK d):=by
 obtain⟨v,u,h1,h2,h3⟩:=C;exact Gu hg h1 h2 (fun ρ H=>h3 X.K ρ H) hd
end Sm
namespace Hd
open PySem PySem.W PySem.Spec PyProof.Rows L2 Sm
theorem fX(T:Top q loose mean mg mb h)(e:valOf q x=some (.int i)):BG mg x (.int i):=by
 obtain⟨v,h1,h2⟩:=T.const x _ e;have:=h2 h;cases this with
 | int _ t=>exact⟨.int i,_,h1,⟨t,rfl⟩,fun _ _ _=>.int i⟩
theorem HR(T:Top q loose mean mg mb h)(e:valOf q x=some (.str s))(ok:PyData.strOk s=true):BG mg x (.str s):=by
 obtain⟨v,h1,h2⟩:=T.const x _ e;have:=h2 h;cases this with
 | str _ t=>exact⟨.str s,_,h1,⟨t,rfl⟩,fun _ _ _=>.str ok⟩
end Hd
namespace L2
open PySem PySem.Spec PyProof.Rows
noncomputable def Pp(x:Str):It:=⟨fun i _=>i < x.cps.size,fun i H y H'=>H'=H∧∃c,x.cps[i]?=some c∧y=.str ⟨#[c]⟩,fun i _=>x.cps.size≤i⟩
theorem Dy{P:Program}{w:World}{K:FR}{tg:Expr}(it:Addr)(x:Str)(t:Tok):Turn P w K tg (Pp x) [it] it (fun i h=>h.IsStrIter it "str_ascii_iterator" x t i) where
 mem:=by simp
 obj:=fun i h st b hb=>by
  have e:b=it:=by simpa using hb
  subst e;obtain⟨o,h1,h2,h3⟩:=st;exact⟨o,h1,fun v z=>by rw[h3] at z;cases z⟩
 keep:=fun i h h' st k=>let⟨o,h1,r⟩:=st;⟨o,k it (by simp) o h1,r⟩
 item:=by
  intro X hP hw hK hc i pins s σ H E I hf st hg;subst hP hw hK;obtain⟨f0,f1,f2,f3,f4,f5⟩:=hf it (by simp);have W:=Walks.strAscii (prog:=X.prog) (w:=X.w) (I.ok.hd hc) it x t;refine W.item i s _ _ hg st fun v h' tk hv st' kk=>?_;obtain⟨c,u,hx,rfl⟩:=hv;have I1:Inv X pins σ H {s with heap:=h',toks:=tk}:=I.turned (fun b o hb e=>kk b o (by simpa using hb) e) f0 f1 f3 f4 f5;obtain⟨o,h1,h2,h3⟩:=id st';exact⟨_,rfl,Bi (s:={s with heap:=h',toks:=tk}) (n:="str_ascii_iterator") h1 h2 h3 (by decide) ⟨.str ⟨#[c]⟩,H,I1,⟨u,rfl⟩,⟨rfl,c,hx,rfl⟩,st',fun b hb=>(hf b hb).1⟩⟩
 done:=by
  intro X hP hw hK hc i pins s σ H E I hf st hg;subst hP hw hK;obtain⟨f0,f1,f2,f3,f4,f5⟩:=hf it (by simp);have hx:x.cps[i]?=none:=Uk (show x.cps.size≤i from hg);exact wpAny_pyNext_ascii_end (I.ok.hd hc) st hx fun h' eb=>⟨rfl,I.turned (t':=s.toks) (fun b o hb e=>eb b o hb e) f0 f1 f3 f4 f5⟩
 self:=fun _ _ _ _ _ st h=>wpAny_pyIter_striter_ascii st h
theorem Ka{X:Cx}{tg:Expr}{l:Expr}{tl:TE}(hl:PE X l tl):PI X tg l (fun σ H R=>tl σ H fun v H1=>∃x:Str,v=.str x∧x.cps.all (· < 128)=true∧R (Pp x) H1):=by
 intro pins s σ H R I h;refine cN (hl pins s σ H _ I h) fun v s1 ⟨y,H1,I1,r1,q1⟩=>?_;obtain⟨x,e,ha,q⟩:=q1;subst e;obtain⟨t,rfl⟩:=r1;refine wpAny_pyIter_ascii ha ?_;refine⟨s1.heap.objs.size,[s1.heap.objs.size],_,_,H1,rfl,I1.kept (t':=s1.toks) fun b o e=>P2 _ e,Dy _ x t,⟨_,Qg _ rfl,rfl,rfl⟩,fun b hb=>?_,q⟩;have e:b=s1.heap.objs.size:=by simpa using hb
 subst e;exact I1.wX (P8 _) (I1.bC.fresh (P8 _))
end L2
namespace Sm
open PySem L2 PySem.Spec PyProof.Rows
noncomputable def HD(e:EM):IM:=fun δ h=>(e δ h).bind fun p=>match p.1 with
 | .str x=>if x.cps.all (· < 128)=true then some (x.cps.toList.map fun c=>D.str ⟨#[c]⟩,[],p.2) else none
 | _=>none
theorem zW(h:c < 128):PyData.strOk ⟨#[c]⟩=true:=by
 unfold PyData.strOk;simp
 lia
theorem xR{K:FR}{ρ:Ad}{H:Hp}:∀(cs:List Nat),(∀c∈cs,c < 128)->aF K ρ H (cs.map fun c=>V.str ⟨#[c]⟩) (cs.map fun c=>D.str ⟨#[c]⟩)
 | [],_=>.nil
 | c::r,h=>.cons (.str (zW (h c (.head _)))) (xR r fun d hd=>h d (.tail _ hd))
theorem Jq(h:SE X e ma):SI X tg e (HD ma):=(Ka h).imp fun σ H Q ⟨ρ,δ,h,xs,ws,h',R,S,e,k⟩=>by
 obtain⟨⟨x,h1⟩,e1,e2⟩:=bL e;refine⟨ρ,δ,h,x,h1,R,S,e1,fun v H1 ⟨ρ1,T1,S1,r1⟩=>?_⟩;cases x with
 | str x=>
  by_cases c:x.cps.all (· < 128)=true
  ·rw[show(match D.str x with | .str x=>if x.cps.all (· < 128)=true then some (x.cps.toList.map fun c=>D.str ⟨#[c]⟩,([]:W),h1) else none | _=>none)=some (x.cps.toList.map fun c=>D.str ⟨#[c]⟩,([]:W),h1) from P7 c] at e2;cases e2;cases r1;refine⟨x,rfl,c,k _ ρ1 H1 T1 S1 ?_⟩;have hlow:∀d∈x.cps.toList,d < 128:=fun d hd=>by
    rw[R3] at c
    simpa using c d (Ro.mp hd)
   refine wO fun ρ2 H2 h2 T S2 hc=>⟨x.cps.toList.map fun c=>V.str ⟨#[c]⟩,xR _ hlow,fun i hi=>?_,fun i v hv=>?_⟩
   ·rw[P1,RE] at hi;exact hi
   ·rw[Qi] at hv;obtain⟨j,e3,e4⟩:=gu hv;have hlt:i < x.cps.toList.length:=(P4.mp e3).1;rw[RE] at hlt;refine⟨hlt,fun u H3 ⟨y1,c',y2,y3⟩=>⟨y1,?_⟩⟩;rw[Rj,y2] at e3;cases e3;rw[y3,e4]
  ·rw[show(match D.str x with | .str x=>if x.cps.all (· < 128)=true then some (x.cps.toList.map fun c=>D.str ⟨#[c]⟩,([]:W),h1) else none | _=>none)=none from Qa c] at e2;cases e2
 | _=>cases e2
end Sm
namespace L2
open PySem PySem.Spec PyProof.Rows
theorem yS:eN X (.builtin "sorted") (fun xs H Q=>∃a ss,xs=[.ref a]∧ko X.K H a (ss.map V.str)∧ss.length < 64∧∀l,H l=none->Q (.ref l) (upd H l (.lst ((dN ss).map V.str)))):=by
 intro pins s σ H xs us Q I r h;obtain⟨a,ss,rfl,ha,h64,q⟩:=h;obtain⟨u,rfl,ru⟩:=vals1 r;cases ru;obtain⟨its,rv,p,hz⟩:=I.tuple ha;have hS:=oh rv;have hlen:its.length=ss.length:=by have:=rv.length;rw[P1] at this;exact this.symm
 obtain⟨o,e1,e2,n,e3⟩:=id p;refine VI kind_sorted plain_sorted entry_sorted (args_sorted1 _) ?_;unfold Builtin.«sorted»;refine PZ (m:=checkCount "sorted" 1 1 _) (P5 ?_);refine PZ (wpAny_collect_seq a (.inr rfl) e1 e2 e3 (fun h1 k1=>?_) (by simp;rw[QL];lia));refine BQ (s:={s with heap:=h1}) hS (by rw[hlen];exact h64) fun h' n out hk hl ho=>?_;have hz':((dN ss).map V.str).length≤sizeLine:=by rw[P1,(cw ss).length_eq,QL];lia
 have I1:Inv X pins σ H {s with heap:=h1}:=I.kept (t':=s.toks) k1;refine⟨.ref h1.objs.size,_,I1.laid (t':=s.toks) (o:=.lst ((dN ss).map V.str)) hk (P8 _) ⟨hz',out.toList,n,n6 ho,?_⟩,rfl,q _ (I1.bC.fresh (P8 _))⟩;rw[hl]
end L2
namespace Sm
open PySem L2 PySem.Spec PyProof.Rows
noncomputable def xa:Fn:=fun ds h=>match ds with
 | [.tup xs]=>(mF xs).bind fun ns=>if ns.length < 64 then some (.lv ((dN ns).map D.str),h) else none
 | _=>none
theorem CT:gy X (.builtin "sorted") xa:=by
 intro pins s σ H xs us Q I r hh;obtain⟨ρ,h,ds,z,h',S,l,ee,k⟩:=hh
 match ds,l,ee with
 | [],_,ee=>cases ee
 | d::_::_,_,ee=>cases d <;> cases ee
 | [d],l,ee=>
  obtain⟨v,rfl,rd⟩:=rep1 l;cases rd <;> first |(cases ee;done) | skip
  rename_i a vs ds ht la _;obtain⟨ns,e3,e4⟩:=bL (show((mF ds).bind fun ns=>if ns.length < 64 then some (D.lv ((dN ns).map D.str),h) else none)=some (z,h') from ee)
  by_cases c:ns.length < 64
  ·rw[P7 c] at e4;cases e4;have:=qV e3;subst this;obtain⟨e5,f⟩:=lL la;subst e5;refine yS pins s σ H _ us Q I r ⟨a,ns,rfl,ht.sq,c,fun l hl=>k _ _ (.lv S (oE _ fun x hx=>f x ((cw ns).mem_iff.mp hx)) hl)⟩
  ·rw[Qa c] at e4;cases e4
end Sm
namespace L2
open PySem PySem.Spec PyProof.Rows
end L2
namespace Sm
open PySem L2
end Sm
namespace Sm
open PySem L2 PySem.Spec PyProof.Rows
end Sm
namespace L2
open PySem PySem.Spec PyProof.Rows
end L2
namespace Sm
open PySem L2 PySem.Spec PyProof.Rows
theorem bW(d:Df X.prog X.w X.K X.mg X.base nm k ps n F)(hr:gZ k' X.A)(ha:SA X (e::es) m)(hk:k≤k':=by decide)(hl:nX m n:=by repeat(first | exact ak | refine ag ?_))(hg:Gl X nm:=by unfold Gl;ac_nf)(hdb:(nm==("__debug__":Str))=false:=by ac_nf)(he:starEach (e::es) X.env=(false,eval e X.env)::starEach es X.env:=by ac_nf)(hpl:(backTo pos (starEach es X.env)).any (·.1)=false:=by ac_nf):SE X (.Call (.Name nm p) (e::es) [] pos) (aw F m):=Mw d hr hk ha hl hg hdb he hpl
theorem dH{x:Str}{id:String}{p pos:Pos}{e:Expr}{es:List Expr}{f:Fn}{m:AM}(hc:gy X (.builtin id) f)(hm:X.mg x=none)(hv:bootBuiltins x=some (.builtin id))(ha:SA X (e::es) m)(hg:Gl X x:=by unfold Gl;ac_nf)(hn:x≠"__name__":=by decide)(hdb:(x==("__debug__":Str))=false:=by ac_nf)
  (he:starEach (e::es) X.env=(false,eval e X.env)::starEach es X.env:=by ac_nf) (hpl:(backTo pos (starEach es X.env)).any (·.1)=false:=by ac_nf):SE X (.Call (.Name x p) (e::es) [] pos) (aw f m):=DT hc hg hm hv ha hn hdb he hpl
theorem vP{x:Str}{id:String}{p pos:Pos}{e:Expr}{es:List Expr}{f:Fn}{m:AM}(hc:gy X (.type id) f)(hm:X.mg x=none)(hv:bootBuiltins x=some (.type id))(ha:SA X (e::es) m)(hg:Gl X x:=by unfold Gl;ac_nf)(hn:x≠"__name__":=by decide)(hdb:(x==("__debug__":Str))=false:=by ac_nf)
  (he:starEach (e::es) X.env=(false,eval e X.env)::starEach es X.env:=by ac_nf) (hpl:(backTo pos (starEach es X.env)).any (·.1)=false:=by ac_nf):SE X (.Call (.Name x p) (e::es) [] pos) (aw f m):=DR hc hg hm hv ha hn hdb he hpl
theorem qU(hm:X.mg x=none)(hv:bootBuiltins x=some (.type n))(hg:Gl X x:=by unfold Gl;ac_nf)(hn:x≠"__name__":=by decide)(hd:(x==("__debug__":Str))=false:=by ac_nf):SE X (.Name x pos) (eK (.ty n)):=Mr hg hm hv hn hd
theorem six(hr:gZ k X.A)(ha:SE X a ma)(hb:SE X b mb)(hs:nW b:=by unfold nW;intro _ _;ac_nf):SE X (.Subscript a b pos) (ay aY ma mb):=Mu hr.units ha hb hs
end Sm
namespace Hd
open PySem PySem.W PySem.Spec PyProof.Rows L2 Sm
theorem u0{P:List Value->Prop}(h:P [])(us:List Value)(hl:us.length=0):P us:=by cases us with | nil=>exact h | cons _ _=>cases hl
theorem u1{P:List Value->Prop}(h:∀a,P [a])(us:List Value)(hl:us.length=1):P us:=by
 cases us with
 | nil=>cases hl
 | cons a r=>exact u0 (P:=fun r=>P (a::r)) (h a) r (Nat.succ.inj hl)
theorem u2{P:List Value->Prop}(h:∀a b,P [a,b])(us:List Value)(hl:us.length=2):P us:=by
 cases us with
 | nil=>cases hl
 | cons a r=>exact u1 (P:=fun r=>P (a::r)) (h a) r (Nat.succ.inj hl)
theorem u3{P:List Value->Prop}(h:∀a b c,P [a,b,c])(us:List Value)(hl:us.length=3):P us:=by
 cases us with
 | nil=>cases hl
 | cons a r=>exact u2 (P:=fun r=>P (a::r)) (h a) r (Nat.succ.inj hl)
theorem u4{P:List Value->Prop}(h:∀a b c d,P [a,b,c,d])(us:List Value)(hl:us.length=4):P us:=by
 cases us with
 | nil=>cases hl
 | cons a r=>exact u3 (P:=fun r=>P (a::r)) (h a) r (Nat.succ.inj hl)
theorem u5{P:List Value->Prop}(h:∀a b c d e,P [a,b,c,d,e])(us:List Value)(hl:us.length=5):P us:=by
 cases us with
 | nil=>cases hl
 | cons a r=>exact u4 (P:=fun r=>P (a::r)) (h a) r (Nat.succ.inj hl)
theorem u6{P:List Value->Prop}(h:∀a b c d e f,P [a,b,c,d,e,f])(us:List Value)(hl:us.length=6):P us:=by
 cases us with
 | nil=>cases hl
 | cons a r=>exact u5 (P:=fun r=>P (a::r)) (h a) r (Nat.succ.inj hl)
theorem u7{P:List Value->Prop}(h:∀a b c d e f g,P [a,b,c,d,e,f,g])(us:List Value)(hl:us.length=7):P us:=by
 cases us with
 | nil=>cases hl
 | cons a r=>exact u6 (P:=fun r=>P (a::r)) (h a) r (Nat.succ.inj hl)
theorem bQ{q:Program}{loose:List Str}{mean:ExcName->Option Value}{mg mb:Str->Option Value}{h base:Heap}{P:Program}{w:World}(T:Top q loose mean mg mb h){n:Str}{st:Stmt}(e:(recsOf q).find? (fun e=>e.name==n)=some (uF n st)){ps:List Str}{k N:Nat}{F:Fn}
  (hb:∀{f:Addr} {fd:FuncData},gg (bB h) n n st f fd->Binds (bB h) fd ps []) (ok:∀{f:Addr} {fd:FuncData},gg (bB h) n n st f fd->keepIn (bB h) (.ref f)=true->Binds (bB h) fd ps []->mg n=some (.ref f)->bK P w (bB h) mg base fH k f fd ps (gh (bB h) N F)):Df P w (bB h) mg base n k ps N F:=by
 obtain⟨f,fd,m,G⟩:=vg T e;exact⟨f,fd,ok G G.kp (hb G) m,G.kp,hb G,m⟩
end Hd
namespace L2
open PySem PySem.Spec PyProof.Rows Builtin.Str
end L2
namespace L2
open PySem PySem.Spec PyProof.Rows
end L2
namespace Sm
open PySem L2 PySem.Spec PyProof.Rows Builtin.Str
end Sm
namespace L2
open PySem PySem.Spec PyProof.Rows
section
variable {X:Cx}
end
end L2
namespace Sm
open PySem L2 PySem.Spec PyProof.Rows
section
variable {X:Cx}
end
theorem vf{h:Heap}{f:Value->Bool}{p:PyData}:∀{us:List Value} {ds:List PyData} {as:List Addr},ReadsAll h us ds as->(∀u d as,u∈us->Reads h u d as->d∈ds->f u=PyData.eqv d p)->us.findIdx? f=ds.findIdx? fun b=>PyData.eqv b p
 | _,_,_,.nil,_=>rfl
 | _,_,_,.cons r l,hf=>by
  rw[UI,UI,hf _ _ _ Qe r Qe,vf l fun u d as hu hr hd=>hf u d as (Qc _ hu) hr (Qc _ hd)]
noncomputable def qI:F8:=fun d ds h=>match ds with
 | [x]=>(fF d h).bind fun ys=>(tZ h x).bind fun p=>(kT ys).bind fun bs=>if p.depth≤60∧PyData.depthAll bs≤60 then(bs.findIdx? fun b=>PyData.eqv b p).map fun j:Nat=>(D.int (Int.ofNat j),h) else none
 | _=>none
theorem Ck{X:Cx}(hu:X.A.units+64 < cLine):Gh X "list.index" (rM X.K qI):=by
 intro pins s σ H x xs v us Q I rx rs hh;obtain⟨ρ,h,d,ds,z,h',S,rd,l,ee,k⟩:=hh
 match ds,l,ee with
 | [],_,ee=>cases ee
 | _::_::_,_,ee=>cases ee
 | [y],l,ee=>
  obtain⟨ys,e1,e2⟩:=bL ee;obtain⟨p,e3,e4⟩:=bL e2;obtain⟨bs,e5,e6⟩:=bL e4
  by_cases w:p.depth≤60∧PyData.depthAll bs≤60
  ·rw[P7 w] at e6;obtain⟨j,e7,e8⟩:=gu e6;cases e8;obtain⟨a,vs,rfl,ha,l1⟩:=ej S rd e1;obtain rfl:v=Value.ref a:=rx;obtain⟨yv,rfl,ry⟩:=rep1 l;obtain⟨u,rfl,ru⟩:=Vals.one rs;obtain⟨r1,c1⟩:=qA S ry e3;obtain⟨r2,c2⟩:=l1.tY e5;obtain⟨as,ra⟩:=r1.reads I ru;obtain⟨its,rv,pl,hz⟩:=I.list (.inl (.inl ha));obtain⟨bs',rb⟩:=r2.reads I rv;have hj:=(vf (f:=Ff s.heap p) rb fun u d as _ hr hd=>xh hr (eS c2 hd)).trans e7;obtain⟨j1,j2,j3⟩:=UJ.mp hj;have key:∀y,y∈its.toArray->PySem.SeqAt.EqAt X.A.in1 s y u (Ff s.heap p y):=by
    intro y hy;obtain⟨d,as',hr,hd⟩:=oJ rb y (by simpa using hy);rw[xh hr (eS c2 hd)];refine Ug d p _ s y u as' as hr ra (eS c2 hd) c1 ?_;have h1:=o9 hd;have h2:min d.depth p.depth≤d.depth:=Sk _ _;show X.A.units+1+min d.depth p.depth < cLine;have h3:=w.2
    lia
   obtain⟨o,n,g,o1,o2,o3⟩:=pl;obtain⟨oc,od,oda,os⟩:=o;dsimp only at o1 o2 o3;subst o1 o2 o3;have hz2:=rv.length;rw[QL] at hz;refine TY Vi ⟨_,g,rfl⟩ PySem.F.entry_list_index (PySem.F.args_list_index_2 _ _)
    (PySem.SeqAt.list_indexAt a its.toArray n none os u (Ff s.heap p) j (by simpa using j1) (by lia) (by simpa using j2) (fun m hm hlt=>by simpa using j3 m hlt)) ⟨g,key,?_⟩
   exact⟨.int _,H,I.kept (t':=s.toks+1) fun _ _ e=>e,⟨_,rfl⟩,k _ _ (.here S (.int _))⟩
  ·rw[Qa w] at e6;cases e6
end Sm
namespace L2
open PySem PySem.Spec PyProof.Rows
end L2
namespace Sm
open PySem L2 PySem.Spec PyProof.Rows
end Sm
namespace L2
open PySem PySem.Spec PyProof.Rows
inductive AG(w:World)(h:Heap)(a:Addr)(es:Array (Int×Value))(ep:Nat)(t:SetTable)(vs:List Value)(i:Nat):Value->Prop where
 | drawn {T:Addr} {idx:List Nat} {o:Obj} {n:Nat} (ho:h.get? T=some o) (hcT:o.cls=.type "tuple") (hd:o.data=.seq (idx.map fun(k:Nat)=>rawInt (k:Int)).toArray n) (hp:idx.Perm (List.range es.size)) (hv:vs=idx.filterMap fun k=>(es[k]?).map (·.2)):AG w h a es ep t vs i (.ref T)
 | text (ht:w.params.followText "set-order"=true) (hv:vs=(pickOrder (w.params.setOrder a ep) es).toList.map (·.2)):AG w h a es ep t vs i (.int 0 0)
 | led {slot:Nat} (ht:w.params.followText "set-order"=false) (hr:dQ t.place) (hz:(!t.plain&&decide (es.size > 1))=false) (hl:t.led=true) (hs:slot=if i=0 then 0 else(t.place.getD (i-1) 0)+1) (hv:vs=es.toList.map (·.2)):AG w h a es ep t vs i (.int slot 0)
def y4(w:World)(h:Heap)(J a:Addr)(es:Array (Int×Value))(ep:Nat)(t:SetTable)(vs:List Value)(i:Nat):Prop:=
 (∃ob,h.get? a=some ob∧ob.data=.set es ep t)∧t.fits es.size=true∧∃o first,h.get? J=some o∧o.cls=.type "set_iterator"∧o.data=.fields #[first,.int i 0,.ref a,.int es.size 0,.int ep 0]∧AG w h a es ep t vs i first
theorem AG.perm(x:AG w h a es ep t vs i f):vs.Perm (es.toList.map (·.2)):=by
 cases x with
 | drawn ho _ hd hp hv=>subst hv;exact sA es hp
 | text ht hv=>subst hv;exact(uK _ es).map _
 | led ht hr hz hl hs hv=>subst hv;exact .refl _
def kq(w:World)(h:Heap)(a:Addr)(es:Array (Int×Value)):Prop:=
 ∃o ep t,h.get? a=some o∧o.ExactSet∧o.data=.set es ep t∧es.size < scanBound∧t.fits es.size=true∧(t.led=!w.params.followText "set-order")∧(t.plain=true->dQ t.place)
theorem o6{t:SetTable}{n:Nat}(h:t.fits n=true):t.place.size=n:=by
 unfold SetTable.fits at h;rw[Qq,SK] at h;exact h.1
theorem below_at(hx:dQ xs)(hi:i≤xs.size):SetTable.below xs (if i=0 then 0 else xs.getD (i-1) 0+1)=i:=by
 obtain⟨b1,b2,b3⟩:=gU xs (if i=0 then 0 else xs.getD (i-1) 0+1) hx;generalize SetTable.below xs (if i=0 then 0 else xs.getD (i-1) 0+1)=b at b1 b2 b3
 by_cases z:i=0
 ·rw[P7 z] at b2;rcases Nat.eq_zero_or_pos b with q | q
  ·lia
  ·exact absurd (b2 0 (by lia) q) (RV _)
 ·rw[Qa z] at b2 b3;have hg:xs.getD (i-1) 0=xs[i-1]'(by lia):=by
   rw[U0,QE (by lia)];rfl
  rw[hg] at b2 b3;rcases UO b i with q | q | q
  ·have:=b3 (i-1) (by lia) (by lia);lia
  ·exact q
  ·have h1:=b2 i (by lia) q;have h2:=hx (i-1) i (by lia) (by lia) (by lia)
   lia
theorem mO(h:xs.size≤1):dQ xs:=fun i j hi hj z=>by lia
section
variable {P:Program} {w:World} {A:Around} {E:Value->Shared->Prop} {s:Shared} {a:Addr} {es:Array (Int×Value)}
theorem kq.type(h:kq w s.heap a es):s.TypeIs (.ref a) "set":=let⟨o,_,_,e,x,_⟩:=h;⟨o,e,x.1⟩
theorem FT(hS:kq w s.heap a es)(h:∀h' d J ep t vs,(∀b o,s.heap.get? b=some o->h'.get? b=some o)->s.heap.objs.size≤J->vs.Perm (es.toList.map (·.2))->y4 w h' J a es ep t vs 0->Q (.ref J) {s with heap:=h',drawn:=d}):
  wpAny (model P w) A (pyIter (.ref a)) Q E s:=by
 have hT:=hS.type;obtain⟨ob,ep,t,hob,hex,hdt,h4,h5,h6,h7⟩:=hS;have out:∀(h':Heap)(d:Drawn)(J:Addr)(vs:List Value) {f:Value},(∀b o,s.heap.get? b=some o->h'.get? b=some o)->s.heap.objs.size≤J->(∃o,h'.get? J=some o∧o.cls=.type "set_iterator"∧o.data=.fields #[f,.int 0 0,.ref a,.int es.size 0,.int ep 0])->AG w h' a es ep t vs 0 f->Q (.ref J) {s with heap:=h',drawn:=d}:=
  fun h' d J vs f hk hJ ⟨o,e1,e2,e3⟩ wy=>by
   have hp:=wy.perm;exact h h' d J ep t vs hk hJ hp ⟨⟨ob,hk _ _ hob,hdt⟩,h5,o,f,e1,e2,e3,wy⟩
 refine wpAny_pyIter_slot hT F.slot_set_iter (Q0 F.slot_set_iter hT entry_set_iter' ?_ (F.args_set_iter_1 _));unfold Builtin.«frozenset.__iter__» Builtin.Frozenset.slot0 slotArgs Builtin.Frozenset.sizeOf Builtin.Frozenset.addrOf;simp only[UU,RB,Qz,↓reduceIte,bind_assoc,RG,RZ,pure_bind];refine PZ (UT hob hdt h5 ?_);unfold setDrawn setsByText;simp only[bind_assoc];refine PZ (Rw hob hdt h5 ?_);dsimp only;refine PZ (Sj ?_);simp only[pure_bind];cases hb:(!(model P w).w.params.followText "set-order"&&(!t.plain&&decide (es.size > 1))) with
 | true=>
  refine wpAny_of_eq' (P7 hb) ?_;refine PZ (AJ _ _ _ _ (by simp) fun idx d hp=>PZ (VD ?_ (by rw[P1,hp.length_eq,Qt];exact Um h4)));have k1:∀(o1:Obj) b o,s.heap.get? b=some o->(s.heap.push o1).get? b=some o:=fun o1 b o e=>P2 _ e;refine PZ (wpAny_setEpoch_of (k1 _ _ _ hob) hdt h5 (PZ (Q1 (P5 ⟨_,rfl,"set_iterator",_,⟨_,Qg _ rfl,rfl⟩,dX.lookup,?_⟩))));exact out _ d _ _ (fun b o e=>P2 _ (P2 _ e)) (by rw[QJ];exact Tf _) ⟨_,Qg _ rfl,rfl,rfl⟩ (.drawn (P2 _ (Qg _ rfl)) rfl rfl hp rfl)
 | false=>
  refine wpAny_of_eq' (Qa fun z=>Bool.noConfusion (hb.symm.trans z)) ?_;refine PZ (wpAny_setEpoch_of hob hdt h5 (PZ (Q1 (P5 ⟨_,rfl,"set_iterator",_,⟨_,Qg _ rfl,rfl⟩,dX.lookup,?_⟩))));have hb':(!w.params.followText "set-order"&&(!t.plain&&decide (es.size > 1)))=false:=hb;cases ht:w.params.followText "set-order" with
  | true=>exact out _ s.drawn _ _ (fun b o e=>P2 _ e) (P8 _) ⟨_,Qg _ rfl,rfl,rfl⟩ (.text ht rfl)
  | false=>
   have hz:(!t.plain&&decide (es.size > 1))=false:=by
    rw[ht] at hb';exact hb'
   have hr:dQ t.place:=by
    cases q:t.plain with
    | true=>exact h7 q
    | false=>
     rw[q] at hz;refine mO ?_;rw[o6 h5]
     simpa using hz
   exact out _ s.drawn _ _ (fun b o e=>P2 _ e) (P8 _) ⟨_,Qg _ rfl,rfl,rfl⟩ (.led (slot:=0) ht hr hz (by rw[h6,ht];rfl) rfl rfl)
theorem yo(hob:s.heap.get? a=some ob)(hdt:ob.data=.set es ep t)(hf:t.fits es.size=true)(ht:w.params.followText "set-order"=false)(hz:(!t.plain&&decide (es.size > 1))=false)(hl:t.led=true)(h:Q (match es[SetTable.below t.place k]?,t.place[SetTable.below t.place k]? with | some (_,x),some j=>some (x,j+1) | _,_=>none) s):wpAny (model P w) A (setNext a k i ep) Q E s:=by
 unfold setNext setsByText;refine PZ (Rw hob hdt hf ?_);dsimp only;refine PZ (PZ (Sj (P5 ?_)));rw[Qa (show ¬(model P w).w.params.followText "set-order"=true by rw[show(model P w).w.params.followText "set-order"=false from ht];simp)];have hdr:¬(!t.plain&&decide (es.size > 1))=true:=by rw[hz];simp
 refine wpAny_of_eq' (Qa hdr) ?_;refine PZ (wpAny_of_eq' (m':=pure ()) (Qa (show ¬(!t.led&&!es.isEmpty)=true by rw[hl];simp)) (P5 ?_));exact P5 h
theorem FP(hS:y4 w s.heap J a es ep t vs i)(hv:vs[i]?=some v)(hne:J≠a)(h:∀h',(∀b o,b≠J->s.heap.get? b=some o->h'.get? b=some o)->y4 w h' J a es ep t vs (i+1)->Q (some v) {s with heap:=h'}):wpAny (model P w) A (pyNext (.ref J)) Q E s:=by
 obtain⟨⟨ob,hob,hdt⟩,hf,o,first,ho,hc,hd,wy⟩:=hS;have hT:s.TypeIs (.ref J) "set_iterator":=⟨o,ho,hc⟩;unfold pyNext;refine PZ (Tt (Q2 (name:=Str.ofString "__next__") hT dX (Q0 dX hT k3 ?_ (nM _))));unfold Builtin.«set_iterator.__next__» slotArgs;simp only[UU,RB,Qz,↓reduceIte,bind_assoc,RG,RZ,pure_bind];refine PZ (wpAny_fieldsOf ho hd ?_);dsimp only;refine PZ (UT hob hdt hf ?_);simp only[RZ,Qz,↓reduceIte];cases wy with
 | @drawn T idx oT nT hoT hcT hdT hp hvs=>
  have hTJ:T≠J:=fun z=>by subst z;rw[ho] at hoT;cases hoT;rw[hd] at hdT;cases hdT
  refine PZ (m:=seqItems? (.ref T)) (Rr hoT hdT ?_);dsimp only;have hlen:idx.length=es.size:=by rw[hp.length_eq,Qt]
  have hall:∀k∈idx,∃e,es[k]?=some e:=fun k hk=>by
   have:k < es.size:=by have:=hp.mem_iff.mp hk;simpa using this
   exact⟨_,QE this⟩
  have hget:∀(l:List Nat)(i:Nat)(v:Value),(∀k∈l,∃e,es[k]?=some e)->(l.filterMap fun k=>(es[k]?).map (·.2))[i]?=some v->∃k e,l[i]?=some k∧es[k]?=some e∧e.2=v:=by
   intro l
   induction l with
   | nil=>intro i v _ h;simp at h
   | cons k r ih=>
    intro i v ha h;obtain⟨e,he⟩:=ha k Qe;rw[QG,he] at h;dsimp only[Option.map] at h;cases i with
    | zero=>rw[Vk] at h;cases h;exact⟨k,e,rfl,he,rfl⟩
    | succ j=>
     rw[Ry] at h;obtain⟨k',e',a1,a2,a3⟩:=ih j v (fun x hx=>ha x (Qc _ hx)) h;exact⟨k',e',by rw[Ry];exact a1,a2,a3⟩
  rw[hvs] at hv;obtain⟨k,e,e1,e2,rfl⟩:=hget idx i v hall hv;have e3:((idx.map fun(k:Nat)=>rawInt (k:Int)).toArray)[(i:Int).toNat]?=some (rawInt (k:Int)):=by
   rw[Qp,Vy,Qi,e1];rfl
  rw[e3];show wpAny _ _ (setNextDrawn a (k:Int).toNat (ep:Int).toNat >>=_) _ _ s;rw[Qp,Qp];unfold setNextDrawn;simp only[bind_assoc];refine PZ (Rw hob hdt hf ?_);dsimp only;simp only[RZ,Qz,↓reduceIte];rw[e2];simp only[pure_bind];refine PZ (wW ho hd (by simp) fun h' o' hk ho' hc' hd'=>P5 ⟨_,rfl,P5 (h h' hk ?_)⟩);exact⟨⟨ob,hk _ _ (Ru hne) hob,hdt⟩,hf,o',.ref T,ho',hc'.trans hc,hd',.drawn (hk _ _ hTJ hoT) hcT hdT hp (by rw[hvs])⟩
 | text ht hvs=>
  show wpAny _ _ (setNext a (0:Int).toNat (i:Int).toNat (ep:Int).toNat >>=_) _ _ s;rw[Qp,Qp];refine PZ (uQ hob hdt hf ht ?_);have hv':=hv;rw[hvs,Qi] at hv';obtain⟨e,e1,e2⟩:=Qs.mp hv';rw[Rj] at e1;rw[e1];dsimp only[Option.map];refine PZ (wW ho hd (by simp) fun h1 o1 hk1 ho1 hc1 hd1=>PZ (wW ho1 hd1 (by simp) fun h' o' hk ho' hc' hd'=>P5 ⟨_,rfl,P5 ?_⟩));rw[e2];refine h h' (fun b u hb z=>hk b u hb (hk1 b u hb z)) ⟨⟨ob,hk _ _ (Ru hne) (hk1 _ _ (Ru hne) hob),hdt⟩,hf,o',_,ho',(hc'.trans hc1).trans hc,hd',.text ht hvs⟩
 | @led slot ht hr hz hl hs hvs=>
  show wpAny _ _ (setNext a (slot:Int).toNat (i:Int).toNat (ep:Int).toNat >>=_) _ _ s;rw[Qp,Qp,Qp];have hlt:i < es.size:=by
   have:=(P4.mp hv).1;rw[hvs] at this
   simpa using this
  have hpz:=o6 hf;refine PZ (yo hob hdt hf ht hz hl ?_);rw[hs,below_at hr (by lia),QE (show i < t.place.size by lia)];have hv':=hv;rw[hvs,Qi] at hv';obtain⟨e,e1,e2⟩:=Qs.mp hv';rw[Rj] at e1;obtain⟨eh,ev⟩:=e;rw[e1];dsimp only at e2 ⊢;refine PZ (wW ho hd (by simp) fun h1 o1 hk1 ho1 hc1 hd1=>PZ (wW ho1 hd1 (by simp) fun h' o' hk ho' hc' hd'=>P5 ⟨_,rfl,P5 ?_⟩));rw[e2];refine h h' (fun b u hb z=>hk b u hb (hk1 b u hb z)) ⟨⟨ob,hk _ _ (Ru hne) (hk1 _ _ (Ru hne) hob),hdt⟩,hf,o',_,ho',(hc'.trans hc1).trans hc,hd',.led (slot:=t.place[i]+1) ht hr hz hl ?_ hvs⟩;rw[Qa (Nat.succ_ne_zero i),VP,U0,QE (show i < t.place.size by lia)];rfl
theorem Ig(hh:A.handled=none)(hS:y4 w s.heap J a es ep t vs vs.length)(h:∀h',(∀b o,b≠J->s.heap.get? b=some o->h'.get? b=some o)->Q none {s with heap:=h'}):wpAny (model P w) A (pyNext (.ref J)) Q E s:=by
 obtain⟨⟨ob,hob,hdt⟩,hf,o,first,ho,hc,hd,wy⟩:=hS;have hT:s.TypeIs (.ref J) "set_iterator":=⟨o,ho,hc⟩;have hlen:vs.length=es.size:=by have:=wy.perm.length_eq;simpa using this
 unfold pyNext;refine PZ (Tt (Q2 (name:=Str.ofString "__next__") hT dX (Q0 dX hT k3 ?_ (nM _))));unfold Builtin.«set_iterator.__next__» slotArgs;simp only[UU,RB,Qz,↓reduceIte,bind_assoc,RG,RZ,pure_bind];refine PZ (wpAny_fieldsOf ho hd ?_);dsimp only;refine PZ (UT hob hdt hf ?_);simp only[RZ,Qz,↓reduceIte];cases wy with
 | @drawn T idx oT nT hoT hcT hdT hp hvs=>
  refine PZ (m:=seqItems? (.ref T)) (Rr hoT hdT ?_);dsimp only;have e3:((idx.map fun(k:Nat)=>rawInt (k:Int)).toArray)[(vs.length:Int).toNat]?=none:=by
   rw[Qp,Vy,Qi,QR (by rw[hp.length_eq,Qt,hlen];exact P8 _)];rfl
  rw[e3];refine PZ (wW ho hd (by simp) fun h1 o1 hk1 ho1 hc1 hd1=>PZ (wW ho1 hd1 (by simp) fun h2 o2 hk2 ho2 hc2 hd2=>?_));exact vN (J:=J) hh fun h' hk=>h h' fun b u hb z=>hk b u (hk2 b u hb (hk1 b u hb z))
 | text ht hvs=>
  show wpAny _ _ (setNext a (0:Int).toNat (vs.length:Int).toNat (ep:Int).toNat >>=_) _ _ s;rw[Qp,Qp];refine PZ (uQ hob hdt hf ht ?_);have hz:(pickOrder (w.params.setOrder a ep) es).size=es.size:=by have:=(uK (w.params.setOrder a ep) es).length_eq;simpa using this
  rw[Uk (by rw[hz,hlen];exact P8 _)];dsimp only[Option.map];refine PZ (wW ho hd (by simp) fun h2 o2 hk2 ho2 hc2 hd2=>?_);exact vN (J:=J) hh fun h' hk=>h h' fun b u hb z=>hk b u (hk2 b u hb z)
 | @led slot ht hr hz hl hs hvs=>
  show wpAny _ _ (setNext a (slot:Int).toNat (vs.length:Int).toNat (ep:Int).toNat >>=_) _ _ s;rw[Qp,Qp,Qp];refine PZ (yo hob hdt hf ht hz hl ?_);have hpz:=o6 hf;have hnone:es[SetTable.below t.place slot]?=none:=by
   rw[hs,below_at hr (by lia)];exact Uk (by lia)
  rw[hnone];dsimp only;refine PZ (wW ho hd (by simp) fun h2 o2 hk2 ho2 hc2 hd2=>?_);exact vN (J:=J) hh fun h' hk=>h h' fun b u hb z=>hk b u (hk2 b u hb z)
theorem y4.off(x:y4 w h J a es ep t vs i)(hS:h.get? S=some oS)(hc:oS.cls=.type "list")(hj:S≠J)(ha:S≠a)(k:∀b o,b≠S->h.get? b=some o->h'.get? b=some o):y4 w h' J a es ep t vs i:=by
 obtain⟨⟨ob,hob,hdt⟩,hf,o,first,ho,hcc,hd,wy⟩:=x;refine⟨⟨ob,k _ _ (Ru ha) hob,hdt⟩,hf,o,first,k _ _ (Ru hj) ho,hcc,hd,?_⟩;cases wy with
 | @drawn T idx oT nT hoT hcT hdT hp hvs=>
  have hTS:T≠S:=fun z=>by subst z;rw[hS] at hoT;cases hoT;rw[hc] at hcT;exact absurd hcT (by decide)
  exact .drawn (k _ _ hTS hoT) hcT hdT hp hvs
 | text ht hvs=>exact .text ht hvs
 | led ht hr hz hl hs hvs=>exact .led ht hr hz hl hs hvs
theorem BV(hh:A.handled=none)(hj:S≠J)(ha:S≠a)(hja:J≠a)(hz:vs.length≤sizeLine):
  ∀(m i:Nat)(s:Shared)(c:Nat),vs.length-i=m->i≤vs.length->y4 w s.heap J a es ep t vs i->s.heap.get? S=some {cls:=.type "list",dict:=none,data:=.seq (vs.take i).toArray c,slots:=#[]}->
  (∀h' c',(∀b o,b≠S->b≠J->s.heap.get? b=some o->h'.get? b=some o)->h'.get? S=some {cls:=.type "list",dict:=none,data:=.seq vs.toArray c',slots:=#[]}->R (.ok (.ret (.ref S))) {s with heap:=h'})->
  codeAny (model P w) A (.builtin "list.extend.loop" ⟨[.ref S,.ref J,.ref S],[]⟩) R s:=by
 intro m
 induction m with
 | zero=>
  intro i s c hm hi st hS hR;have hin:i=vs.length:=by lia
  subst hin;refine Q6 F.entry_extend_loop ?_;rw[QU TB _];show wpAny _ A.in1 (pyNext (.ref J) >>=_) _ _ s;refine PZ (Ig (A:=A.in1) hh st fun h' hk=>P5 (hR h' c (fun b o _ hb e=>hk b o hb e) ?_));rw[QM] at hS;exact hk _ _ hj hS
 | succ m ih=>
  intro i s c hm hi st hS hR;have hlt:i < vs.length:=by lia
  have hv:vs[i]?=some vs[i]:=P9 hlt;refine Q6 F.entry_extend_loop ?_;rw[QU TB _];show wpAny _ A.in1 (pyNext (.ref J) >>=_) _ _ s;refine PZ (FP (A:=A.in1) st hv hja fun h1 hk1 st1=>?_);have hS1:=hk1 _ _ hj hS;show wpAny _ A.in1 (updateSeq S (·.push vs[i]) >>=_) _ _ _;have hlen:(vs.take i).toArray.size=i:=by rw[Qh,Qy];lia
  refine PZ (Uw (s:={s with heap:=h1}) hS1 rfl (P5 ⟨RT TB _,?_⟩) (by rw[hlen];lia) (by show((vs.take i).toArray.push vs[i]).size≤sizeLine+1;rw[Array.size_push,hlen];lia));have hS2:=Rx (Obj.mapSeq (·.push vs[i])) hS1 rfl;have hk2:∀b o,b≠S->h1.get? b=some o->(h1.update S (Obj.mapSeq (·.push vs[i]))).get? b=some o:=fun b o hb e=>(RS _ _ (Ru hb)).trans e;have hpush:(vs.take i).toArray.push vs[i]=(vs.take (i+1)).toArray:=by
   rw[Sv,hv];simp
  have hS3:∃c',(h1.update S (Obj.mapSeq (·.push vs[i]))).get? S=some {cls:=.type "list",dict:=none,data:=.seq (vs.take (i+1)).toArray c',slots:=#[]}:=by
   rw[←hpush];exact⟨_,hS2⟩
  obtain⟨c3,hS3⟩:=hS3;exact ih (i+1) {s with heap:=h1.update S (Obj.mapSeq (·.push vs[i]))} c3 (by lia) hlt (st1.off hS1 rfl hj ha hk2) hS3 fun h' c' hk hS'=>hR h' c' (fun b o hb hb' e=>hk b o hb hb' (hk2 b o hb (hk1 b o hb' e))) hS'
theorem yM(hh:A.handled=none)(hS:kq w s.heap a es)(h:∀h' d vs,s.heap.objs.size≤h'.objs.size->(∀b o,s.heap.get? b=some o->h'.get? b=some o)->vs.Perm (es.toList.map (·.2))->Q vs {s with heap:=h',drawn:=d}):wpAny (model P w) A (collect (.ref a)) Q E s:=by
 have hT:=hS.type;have hlt:a < s.heap.objs.size:=let⟨o,_,_,e,_⟩:=hS;Qf e;have hks:es.size≤sizeLine:=let⟨_,_,_,_,_,_,h4,_⟩:=hS;Um h4;unfold collect;refine PZ (VC (Q6 F.entry_proto_collect ?_));rw[QU F.plain_proto_collect _];show wpAny _ A.in1 (newList [] >>=fun l=>again (.builtin "list.__iadd__" ⟨[l,.ref a],[]⟩)) _ _ s;refine PZ (Q1 (P5 ⟨RT F.plain_list_iadd _,Q6 F.entry_list_iadd ?_⟩));rw[QU F.plain_list_iadd _];generalize hoS:({cls:=.type "list",data:=.seq ([]:List Value).toArray}:Obj)=oS;have k0:∀b o,s.heap.get? b=some o->(s.heap.push oS).get? b=some o:=fun b o e=>P2 _ e;have hS1:kq w (s.heap.push oS) a es:=let⟨o,ep,t,e,r⟩:=hS;⟨o,ep,t,k0 _ _ e,r⟩;have hSa:s.heap.objs.size≠a:=(Qo hlt).symm;have hgS:(s.heap.push oS).get? s.heap.objs.size=some oS:=Qg _ (by rw[←hoS];rfl);show wpAny _ A.in1 (Builtin.List.listExtendWith (.ref s.heap.objs.size) (.ref a) (.ref s.heap.objs.size)) _ _ {s with heap:=s.heap.push oS};unfold Builtin.List.listExtendWith;refine PZ (TN (s:={s with heap:=s.heap.push oS}) (kq.type (s:={s with heap:=s.heap.push oS}) hS1) ?_);have e1:Builtin.List.listSameRef (.ref s.heap.objs.size) (.ref a)=false:=by simp[Builtin.List.listSameRef,hSa]
 have e2:(Value.type "set"==Value.type "list")=false:=by decide
 have e3:(Value.type "set"==Value.type "tuple")=false:=by decide
 simp only[e1,e2,e3,Vg,Qz,RO];refine PZ (FT (s:={s with heap:=s.heap.push oS}) hS1 fun h1 d J ep t vs k1 hJ hp st=>?_);refine PZ (QW ?_);have hS2:kq w h1 a es:=let⟨o,ep,t,e,r⟩:=hS1;⟨o,ep,t,k1 _ _ e,r⟩;have hT2:Shared.TypeIs {s with heap:=h1,drawn:=d} (.ref a) "set":=kq.type (s:={s with heap:=h1,drawn:=d}) hS2;unfold Builtin.List.listLengthHint;refine PZ (SV hT2 qZ ?_);dsimp only;rw[tH];dsimp only;refine PZ (Si hT2 sub_set_set ?_);simp only[RB,Qz,RO];refine wpAny_of_eq' (P7 (by decide+kernel)) ?_;refine PZ (TN hT2 (P5 ?_));have hgS1:h1.get? s.heap.objs.size=some {cls:=.type "list",data:=.seq ([]:List Value).toArray}:=by rw[hoS];exact k1 _ _ hgS
 have hJs:s.heap.objs.size < J:=by
  have:=hJ;rw[show(s.heap.push oS).objs.size=s.heap.objs.size+1 from QJ _ _] at this;exact this
 have hlen:vs.length=es.size:=by have:=hp.length_eq;simpa using this
 refine wpAny_of_eq' (P7 (by decide+kernel)) (PZ (RA (PZ ?_)));show wpAny _ A.in1 (updateSeq s.heap.objs.size (·.push .none) >>=fun _=>updateSeq s.heap.objs.size (·.pop)) _ _ _;refine PZ (Uw (s:={s with heap:=h1,drawn:=d}) hgS1 rfl ?_);have hgS2:=Rx (Obj.mapSeq (·.push Value.none)) hgS1 rfl;refine Uw hgS2 rfl ?_;have hgS3:=Rx (Obj.mapSeq (·.pop)) hgS2 rfl;have koff:∀b o,b≠s.heap.objs.size->h1.get? b=some o->((h1.update s.heap.objs.size (Obj.mapSeq (·.push Value.none))).update s.heap.objs.size (Obj.mapSeq (·.pop))).get? b=some o:=
  fun b o hb e=>(RS _ _ (Ru hb)).trans ((RS _ _ (Ru hb)).trans e)
 have hgS4:∃c',((h1.update s.heap.objs.size (Obj.mapSeq (·.push Value.none))).update s.heap.objs.size (Obj.mapSeq (·.pop))).get? s.heap.objs.size=some {cls:=.type "list",dict:=none,data:=.seq (vs.take 0).toArray c',slots:=#[]}:=⟨_,hgS3⟩;obtain⟨c4,hgS4⟩:=hgS4;refine P5 ⟨RT TB _,BV (A:=A) hh (Qo hJs) hSa (fun z=>?_) (by rw[hlen];exact hks) vs.length 0 _ c4 rfl (Q9 _) (st.off hgS1 rfl (Qo hJs) hSa koff) hgS4 fun h' c' hk hS'=>?_⟩
 ·rw[z] at hJs;exact Nat.lt_asymm hJs hlt
 ·show wpAny _ A (load s.heap.objs.size >>=_) _ _ _;refine PZ (wpAny_load hS' (P5 ?_));refine h h' d vs (UP (Qf hS')) (fun b o e=>?_) hp;have hb:b≠s.heap.objs.size:=Qo (Qf e);exact hk b o hb (Qo (Ts (Qf e) hJs)) (koff b o hb (k1 b o (k0 b o e)))
end
end L2
namespace L2
open PySem PySem.Spec PyProof.Rows PySem.SeqAt
theorem ud{prog:Program}{w:World}{A:Around}{E:Value->Shared->Prop}{s:Shared}(a:Value){Q₁:Value->Shared->Prop}
  (h:Q₁ (.ref s.heap.objs.size) {s with heap:=s.heap.push {cls:=.type "set",dict:=none,data:=.set #[] 0 (.fresh 0 0 (!w.params.followText "set-order"))}}):
  codeAny (model prog w) A (.call (.builtin "set.__new__") ⟨[.type "set",a],[]⟩) (wants Q₁ E) s:=by
 refine UA ?_;show wpAny _ A.in1 (do checkBuiltinCall "set.__new__" ⟨[.type "set",a],[]⟩;again (.builtin "set.__new__" ⟨[.type "set",a],[]⟩)) _ _ s;refine PZ (wpAny_of_eq (F.newCall_set_1 a) (P5 ⟨RT F.plain_set_new _,Q6 F.entry_set_new ?_⟩));rw[QU F.plain_set_new _];unfold Builtin.«set.__new__» Builtin.Frozenset.newClass;have hsub:=sub_set_self;obtain⟨hp,g,d,tk,os⟩:=s;dsimp only
 wp_walk
 refine Sj (P5 ?_);dsimp only;simp only[newObj];refine PZ (wpAny_alloc (P5 ?_));exact P5 h
structure Ge(P:Program)(w:World)(A:Around)(h₀:Heap)(S:Addr)(items:Array Value)(J:Nat->Heap->Prop):Prop where
 frame:∀(i:Nat)(h h':Heap),(∀o,h.get? S=some o->h'.get? S=some o)->J i h->J i h'
 fresh:∀(h:Heap),h.get? S=some {cls:=.type "set",dict:=none,data:=.set #[] 0 (.fresh 0 0 (!w.params.followText "set-order"))}->J 0 h
 step:∀(i:Nat)(v:Value)(s:Shared)(E:Value->Shared->Prop)(Q:Bool->Shared->Prop),items[i]?=some v->J i s.heap->(∀b o,h₀.get? b=some o->s.heap.get? b=some o)->
  (∀r h' tk,s.toks≤tk->Heap.SameBut S s.heap h'->J (i+1) h'->Q r {s with heap:=h',toks:=tk})->wpAny (model P w) A (setAdd S v) Q E s
theorem BU{A:Around}{R:Result->Shared->Prop}{I:Addr}{fp wr:List Addr}{G:Array GenState->Array GenState->Prop}{items:Array Value}{St:Nat->Shared->Prop}{h₀:Heap}{S:Addr}{J:Nat->Heap->Prop}
  (W:WalksS P w A.in1 I fp wr G items.size (fun i v=>items[i]?=some v) St) (hSf:S∉fp) (D:Ge P w A.in1 h₀ S items J) (hw0:∀b∈wr,h₀.get? b=none) (hS0:h₀.get? S=none):
  ∀(k i:Nat)(s:Shared),items.size-i=k->i≤items.size->St i s->J i s.heap->(∀b o,h₀.get? b=some o->s.heap.get? b=some o)->
   (∀s',Moved (S::wr) G s s'->J items.size s'.heap->R (.ok (.ret .none)) s')->
   codeAny (model P w) A (.builtin "set.update.loop" ⟨[.ref S,.ref I],[]⟩) R s:=by
 have hSw:S∉wr:=fun h=>hSf (W.sub _ h);have hsub:∀b∈wr,b∈S::wr:=fun b hb=>Qc _ hb;intro k
 induction k with
 | zero=>
  intro i s hk hi hst hJ h0 hR;have hin:i=items.size:=by lia
  subst hin;refine Q6 To ?_;rw[QU RU _];show wpAny _ A.in1 (pyNext (.ref I) >>=_) _ _ s;refine PZ (W.done s _ _ hst fun s' hm=>?_);show wpAny _ A.in1 (ret Value.none) _ _ s';exact P5 (hR s' (hm.mono hsub) (D.frame _ _ _ (fun o e=>hm.heap S o hSw e) hJ))
 | succ k ih=>
  intro i s hk hi hst hJ h0 hR;have hlt:i < items.size:=by lia
  refine Q6 To ?_;rw[QU RU _];show wpAny _ A.in1 (pyNext (.ref I) >>=_) _ _ s;refine PZ (W.item i s _ _ hlt hst fun v s' hP hst' hm=>?_);have hJ':=D.frame i s.heap s'.heap (fun o e=>hm.heap S o hSw e) hJ;have h0':∀b o,h₀.get? b=some o->s'.heap.get? b=some o:=fun b o e=>hm.heap b o (fun hb=>by rw[hw0 b hb] at e;cases e) (h0 b o e);show wpAny _ A.in1 (holding [v] (setAdd S v) >>=_) _ _ s';refine PZ (QW (D.step i v s' _ _ hP hJ' h0' fun r h' tk htk hsb hJ2=>?_));refine P5 ⟨RT RU _,ih (i+1) _ (by lia) hlt (W.frame _ s' _ _ hst' htk fun b hb o e=>?_) hJ2 (fun b o e=>?_) fun s'' hm'' hJ''=>?_⟩
  ·rw[hsb.2 b (fun h:b=S=>hSf (by rw[←h];exact hb))];exact e
  ·rw[hsb.2 b (fun h:b=S=>by rw[h,hS0] at e;cases e)];exact h0' b o e
  ·refine hR s'' (Moved.trans W.gtrans ((hm.mono hsub).then_heap htk fun b o hb e=>?_) hm'') hJ'';rw[hsb.2 b (fun h:b=S=>hb (by rw[h];exact Qe))];exact e
set_option maxHeartbeats 3200000 in
theorem sR{l:Addr}{items:Array Value}{J:Nat->Heap->Prop}{Q:Value->Shared->Prop}
  (hh:A.handled=none) (hl:s.heap.IsList l items) (D:∀A':Around,A'.handled=none->A'.units≤A.units+8->Ge P w A' s.heap s.heap.objs.size items J)
  (h:∀(h':Heap)(tk:Nat),J items.size h'->(∀b o,b < s.heap.objs.size->s.heap.get? b=some o->h'.get? b=some o)->Q (.ref s.heap.objs.size) {s with heap:=h',toks:=tk}):
  wpAny (model P w) A (call (.type "set") [.ref l]) Q E s:=by
 obtain⟨c,tl,hmro⟩:=Rl.mro;have hmade:=Rl.made;have hsub:=Rl.sub;refine wpAny_call (UA ?_);show wpAny _ _ (callAny (.type "set") _) _ _ _;refine P5 ⟨Code.quiet_builtin _ (by decide+kernel),Q6 F.entry_type_call ?_⟩;rw[Around.under_plain (weight_type_call_type "set" [.ref l] []) rfl];have h1:=Rl.notType;have h2:=Rl.canCreate;have hct:=F.typeCall_set_1 (.ref l)
 repeat(any_goals (first | assumption | wp_step))
 refine SN (ud (.ref l) (E:=E) (Q₁:=fun obj s₁=>∃led:Bool,led=(!w.params.followText "set-order")∧obj=.ref s.heap.objs.size∧s₁={s with heap:=s.heap.push {cls:=.type "set",dict:=none,data:=.set #[] 0 (.fresh 0 0 led)}}) ⟨_,rfl,rfl,rfl⟩) fun r s₁ hr=>?_;cases r with
 | error e=>exact hr
 | ok fl=>
  cases fl with
  | ret obj=>
   obtain⟨led,hled,rfl,rfl⟩:=hr;have hS:(s.heap.push {cls:=.type "set",dict:=none,data:=.set #[] 0 (.fresh 0 0 led)}).get? s.heap.objs.size=some {cls:=.type "set",dict:=none,data:=.set #[] 0 (.fresh 0 0 led)}:=Qg _ rfl;have hT:Shared.TypeIs {s with heap:=s.heap.push {cls:=.type "set",dict:=none,data:=.set #[] 0 (.fresh 0 0 led)}} (.ref s.heap.objs.size) "set":=⟨_,hS,rfl⟩;have hli:=Rl.init.lookup;have hbi:=Rl.init.bind (.ref s.heap.objs.size)
   repeat(any_goals (first | assumption | wp_step))
   refine SN (codeAny_call_builtin (R:=wants (fun r s₂=>r=.none∧∃h' tk,s₂={s with heap:=h',toks:=tk}∧J items.size h'∧
     (∀b o,b < s.heap.objs.size->s.heap.get? b=some o->h'.get? b=some o)) E) Rl.init.plain F.entry_set_init (check_set_init_1 hT ?_)) fun r₂ s₂ hr₂=>?_
   ·obtain⟨ol,hol,hcl,nl,hdl⟩:=hl;obtain⟨ocls,odict,odata,oslots⟩:=ol;simp only at hcl hdl;subst hcl;subst hdl;have hol':(s.heap.push {cls:=.type "set",dict:=none,data:=.set #[] 0 (.fresh 0 0 led)}).get? l=some {cls:=.type "list",dict:=odict,data:=.seq items nl,slots:=oslots}:=P2 _ hol;have hsls:=F.sub_list_set;have hslf:=F.sub_list_frozenset;have hne:(Value.type "list"==Value.type "dict")=false:=by decide
    have hl1:(s.heap.push {cls:=.type "set",dict:=none,data:=.set #[] 0 (.fresh 0 0 led)}).IsList l items:=⟨_,hol',rfl,nl,rfl⟩;unfold Builtin.«set.__init__» noKeywords Builtin.Frozenset.updateFrom;generalize hPI:pyIter=PI
    wp_walk
    subst hPI;refine Tc hl1 ?_;refine PZ (VC ?_);have hlS:l < s.heap.objs.size:=Qf hol;have hh3:A.in1.in1.in1.handled=none:=by simp[hh]
    have hneI:l≠(s.heap.push {cls:=.type "set",dict:=none,data:=.set #[] 0 (.fresh 0 0 led)}).objs.size:=by
     rw[QJ];exact Qo (Sq hlS)
    have hSf:s.heap.objs.size∉[(s.heap.push {cls:=.type "set",dict:=none,data:=.set #[] 0 (.fresh 0 0 led)}).objs.size,l]:=by
     rw[QJ];simp only[Qn,Qj,S9,UK,not_or];exact⟨Qo (SD _),Tr hlS⟩
    have none_of:∀b,s.heap.objs.size≤b->s.heap.get? b=none:=fun b hb=>by
     cases q:s.heap.get? b with
     | none=>rfl
     | some o=>exact absurd (Qf q) (U3.mpr hb)
    refine BU ((Walks.list hh3 _ l hneI items).toS) hSf (D _ hh3 (by simp only[Vc];lia)) (fun b hb=>?_) (none_of _ (P8 _)) (items.size-0) 0 _ (by lia) (Q9 _)
     ⟨⟨_,Qg _ rfl,rfl,rfl⟩,(hl1.push _)⟩ ?hS0 ?hK ?hR
    ·rw[Qj] at hb;subst hb;exact none_of _ (by rw[QJ];lia)
    case hS0=>
     exact(D A hh (by lia)).fresh _ (by rw[←hled];exact P2 _ hS)
    case hK=>
     intro b o e;exact P2 _ (P2 _ e)
    case hR=>
     intro s' hm hJ';obtain⟨h',g',d',tk',os'⟩:=s';have eg:g'=s.gens:=hm.gens;have ed:d'=s.drawn:=hm.drawn;have eo:os'=s.os:=hm.os;subst eg;subst ed;subst eo;show wpAny _ _ _ _ _ _;refine P5 ?_;show wpAny _ _ (ret Value.none) _ _ _;refine P5 ⟨rfl,h',tk',rfl,hJ',fun b o hb e=>?_⟩;have hb1:b≠s.heap.objs.size:=Qo hb;have hb2:b≠(s.heap.push {cls:=.type "set",dict:=none,data:=.set #[] 0 (.fresh 0 0 led)}).objs.size:=by
      rw[QJ];exact Qo (Sq hb)
     exact hm.heap b o (by simp only[Qn,Qj,S9,UK,not_or];exact⟨hb1,hb2⟩) (P2 _ (P2 _ e))
   ·cases r₂ with
    | error e=>exact hr₂
    | ok fl₂=>
     cases fl₂ with
     | ret r=>
      obtain⟨rfl,h',tk,rfl,hJ',hk'⟩:=hr₂
      repeat(any_goals (first | assumption | wp_step))
      exact h _ _ hJ' hk'
     | _=>exact hr₂.elim
  | _=>exact hr.elim
end L2
namespace L2
open PySem PySem.Spec PyProof.Rows
def nV(t:SetTable):Prop:=t.dummies=#[]∧(t.plain=true->dQ t.place)
theorem EB{t:SetTable}(h:t.dummies=#[])(j:Nat):t.slot j≠.dummy:=by
 unfold SetTable.slot;dsimp only
 split
 ·simp
 ·rw[h,Qa (by simp[SetTable.has])];simp
theorem rO{t:SetTable}(hd:t.dummies=#[])(hashAt:Nat->Int)(h:Int):∀(fuel:Nat)(p:SetTable.Probe)(j:Nat)(d:Option Nat),p.dummy=none->SetTable.probe.go t hashAt h fuel p=some (.empty j d)->d=none∧t.slot j=.empty
 | 0,p,j,d,_,e=>by cases e
 | fuel+1,p,j,d,hp,e=>by
  unfold SetTable.probe.go at e;have adv:(t.advance p).dummy=none:=by
   unfold SetTable.advance
   split
   ·exact hp
   ·exact hp
  cases q:t.slot p.j with
  | empty=>
   rw[q] at e;cases e;exact⟨hp,q⟩
  | dummy=>exact absurd q (EB hd _)
  | live i=>
   rw[q] at e;dsimp only at e
   split at e
   ·cases e
   ·exact rO hd hashAt h fuel _ j d adv e
theorem EY(T:nV t)(hp:t.plain=true)(e:t.freeSlot h=some (j,b)):j∉t.place.toList:=by
 unfold SetTable.freeSlot at e;cases q:t.probe (fun _=>h+1) h (t.probeStart h) with
 | none=>rw[q] at e;cases e
 | some m=>
  rw[q] at e;cases m with
  | candidate _ _ _=>cases e
  | empty j' d=>
   obtain⟨rfl,hs⟩:=rO T.1 _ h _ _ j' d rfl q;cases e;intro hm;obtain⟨i,hi⟩:=RI.mp hm;rw[Rj] at hi;have this:t.slot j'=.live i:=oq (T.2 hp) hi;rw[hs] at this;cases this
theorem nV.standIn{t:SetTable}{n:Nat}:nV (t.standIn n):=⟨rfl,fun h=>by cases h⟩
theorem nV.lay(T:nV t)(es:Array (Int×Value))(h:Int)(x:Value):nV (layNew t es h x).2.1:=by
 unfold layNew;cases q:t.freeSlot h with
 | none=>exact nV.standIn
 | some p=>
  obtain⟨j,b⟩:=p;dsimp only;unfold SetTable.orStandIn
  split
  ·refine⟨?_,fun hp=>?_⟩
   ·unfold SetTable.put;dsimp only;rw[T.1,Qa (by simp[SetTable.has])]
   ·exact dQ.ins (T.2 hp) (EY T hp q)
  ·exact nV.standIn
theorem B4{l:List Nat}(h:l.Pairwise (· < ·)):dQ l.toArray:=fun i j hi hj z=>by
 have:=U9.mp h i j (by simpa using hi) (by simpa using hj) z
 simpa using this
theorem Hn(f:Nat->Option Nat):∀(l:List Nat),l.Pairwise (· < ·)->((l.filterMap fun j=>(f j).map (j,·)).map (·.1)).Pairwise (· < ·):=by
 intro l hl;have hs:((l.filterMap fun j=>(f j).map (j,·)).map (·.1)).Sublist l:=by
  clear hl
  induction l with
  | nil=>exact .slnil
  | cons x r ih=>
   rw[QG];cases f x with
   | none=>exact ih.cons x
   | some y=>exact ih.cons₂ x
 exact hl.sublist hs
theorem nV.AS(T:nV t)(es:Array (Int×Value))(n:Nat):nV (relayAll t es n).2.1:=by
 unfold relayAll;cases q:t.relaid (es.map (·.1)) n with
 | none=>exact nV.standIn
 | some p=>
  obtain⟨t',o⟩:=p;dsimp only
  split
  ·unfold SetTable.relaid SetTable.laid at q;cases z:SetTable.layClean (SetTable.sizeAbove n-1) (es.map (·.1)) with
   | none=>rw[z] at q;cases q
   | some owner=>
    rw[z] at q;cases q;refine⟨rfl,fun _=>?_⟩;exact B4 (Hn (fun j=>owner.getD j none) _ List.pairwise_lt_range)
  ·exact nV.standIn
noncomputable def intOf:Value->Int
 | .int i _=>i
 | _=>0
noncomputable def wV(ks:List Int)(k:Int):Bool:=ks.any fun x=>decide (x=k)
theorem ng:wV ks k=true↔k∈ks:=by unfold wV;simp
noncomputable def pC(ks:List Int)(k:Int):List Int:=if wV ks k then ks else ks++[k]
def jr(P:Program)(w:World)(es:Array (Int×Value))(t:SetTable)(ks:List Int):Prop:=
 ElemsOf (aQ P w) es.toList∧(∀e∈es.toList,∃x u,e.2=.int x u)∧(es.toList.map fun e=>intOf e.2).Perm ks∧es.size < scanBound∧t.fits es.size=true∧(t.led=!w.params.followText "set-order")∧nV t
def pH(P:Program)(w:World)(h:Heap)(a:Addr)(ks:List Int):Prop:=
 ks.Nodup∧∃o es ep t,h.get? a=some o∧o.ExactSet∧o.data=.set es ep t∧jr P w es t ks
theorem jr.len(x:jr P w es t ks):es.size=ks.length:=by
 have:=x.2.2.1.length_eq
 simpa using this
theorem iH:(aQ P w).is (.inl x) (.int x u)=true:=kY (k:=.inl x) (u:=.int x u) ⟨u,rfl⟩
theorem ER(h:(aQ P w).is (.inl x) (.int y u)=true):y=x:=by
 have:=(aQ P w).inj _ _ _ h iH;injection this with this
 exact this.symm
theorem jr.AS(T:jr P w es t ks)(n:Nat):jr P w (relayAll t es n).1 (relayAll t es n).2.1 ks:=by
 obtain⟨h1,h2,h3,h4,h5,h6,h7⟩:=T;have hp:=relayAll_perm t es n;have hs:(relayAll t es n).1.size=es.size:=by have:=hp.length_eq;simpa using this
 have hl:=vW t es n;exact⟨h1.perm hp,fun e he=>h2 e (hp.mem_iff.mp he),(hp.map _).trans h3,by rw[hs];exact h4,relayAll_fits t es n,hl.1.trans h6,h7.AS es n⟩
theorem jr.lay(T:jr P w es t ks)(hb:es.size+1 < scanBound)(f:SetTable)(hf:f=(layNew t es ((aQ P w).hash (.inl x)) (.int x u)).2.1):
  jr P w (layNew t es ((aQ P w).hash (.inl x)) (.int x u)).1 f (ks++[x]):=by
 obtain⟨h1,h2,h3,h4,h5,h6,h7⟩:=T;have hp:=layNew_perm t es ((aQ P w).hash (.inl x)) (.int x u);have hq:=layNew_fits t es ((aQ P w).hash (.inl x)) (.int x u);rw[VZ] at hp;have hs:(layNew t es ((aQ P w).hash (.inl x)) (.int x u)).1.size=es.size+1:=by have:=hp.length_eq;simpa using this
 subst hf;refine⟨(h1.push iH rfl).perm hp,fun e he=>?_,(hp.map _).trans ?_,by rw[hs];exact hb,hq,(sg _ _ _ _).trans h6,h7.lay _ _ _⟩
 ·rcases Qx.mp (hp.mem_iff.mp he) with z | z
  ·exact h2 e z
  ·rw[Qj] at z;subst z;exact⟨x,u,rfl⟩
 ·rw[Qr];exact h3.append_right _
theorem vd(hob:s.heap.get? a=some ob)(hex:ob.ExactSet)(hdt:ob.data=.set es ep t)(hT:jr P w es' t' ks)(h:∀h' o',Heap.SameBut a s.heap h'->h'.get? a=some o'->o'.ExactSet->o'.data=.set es' (ep+1) t'->R () {s with heap:=h'}):wpAny (model P w) A (storeSet a es' t') R E s:=by
 refine wpAny_storeSet_of hob hdt (h _ {ob with data:=.set es' (ep+1) t'} (Tx s.heap a (Obj.putSet es' t')) ?_ hex rfl) (Um hT.2.2.2.1);have:=Rx (Obj.putSet es' t') hob (by rw[VR es' t' hdt];rfl);rw[VR es' t' hdt] at this;exact this
theorem t8(hS:pH P w s.heap a ks)(hroom:ks.length+1 < scanBound)(h:∀b h',Heap.SameBut a s.heap h'->pH P w h' a (pC ks x)->Q b {s with heap:=h'}):wpAny (model P w) A (setAddHashed a (.int x u) ((aQ P w).hash (.inl x))) Q E s:=by
 obtain⟨hn,ob,es,ep,t,hob,hex,hdt,hT⟩:=hS;obtain⟨h1,h2,h3,h4,h5,h6,h7⟩:=id hT;have hsc:(Value.int x u).scannable=true:=rfl;unfold setAddHashed setAddHashedIn;refine QW (PZ (Rw hob hdt h5 ?_));dsimp only;rw[byScan_of hsc h4 h1,P7 rfl];unfold setAddByScan;refine PZ (PZ (RA (PZ (wpAny_setScan_of (iH (x:=x)) hob hdt h5 h1 ?_))));have hmem:wV ks x=true↔∃e∈es.toList,(aQ P w).is (.inl x) e.2=true:=by
  rw[ng,←h3.mem_iff,Ql];constructor
  ·rintro⟨e,he,rfl⟩;obtain⟨y,v,hv⟩:=h2 e he;exact⟨e,he,by rw[hv];exact iH⟩
  ·rintro⟨e,he,hi⟩;obtain⟨y,v,hv⟩:=h2 e he;rw[hv] at hi;exact⟨e,he,by rw[hv];exact ER hi⟩
 cases hr:List.findIdx? (fun e=>(aQ P w).is (.inl x) e.2) es.toList with
 | some j=>
  obtain⟨hj,hpj,_⟩:=UJ.mp hr;have hk:wV ks x=true:=hmem.mpr ⟨_,Uc hj,hpj⟩;have:=h false s.heap (Heap.SameBut.refl a s.heap) (by unfold pC;rw[P7 hk];exact⟨hn,ob,es,ep,t,hob,hex,hdt,hT⟩);exact P5 (P5 this)
 | none=>
  have hk:wV ks x=false:=by
   cases z:wV ks x with
   | false=>rfl
   | true=>
    obtain⟨e,he,q⟩:=hmem.mp z;rw[List.findIdx?_eq_none_iff.mp hr e he] at q;cases q
  have hb:es.size+1 < scanBound:=by rw[hT.len];exact hroom
  have fin:∀(b:Bool)(h':Heap),Heap.SameBut a s.heap h'->(∃o es ep t,h'.get? a=some o∧o.ExactSet∧o.data=.set es ep t∧jr P w es t (ks++[x]))->Q b {s with heap:=h'}:=fun b h' hs hh=>by
   refine h b h' hs ?_;unfold pC;rw[Qa (by rw[hk];simp)];refine⟨Rt.mpr ⟨hn,by simp,fun c hc d hd z=>?_⟩,hh⟩;rw[Qj] at hd;subst hd;subst z;rw[ng.mpr hc] at hk;cases hk
  dsimp only;have hlay:=fun f hf=>hT.lay (x:=x) (u:=u) hb f hf;have hled:=sg t es ((aQ P w).hash (.inl x)) (.int x u);generalize hL:layNew t es ((aQ P w).hash (.inl x)) (.int x u)=L at hlay hled ⊢;obtain⟨es1,t1,wasDummy,gave⟩:=L;dsimp only at hlay hled ⊢;have gw:∀{m:Sem Unit} {Q':Unit->Shared->Prop} {s1:Shared},(m=rule "set.scan.the-table-gave-way"∨m=pure ())->Q' () s1->wpAny (model P w) A m Q' E s1:=fun hm q=>by
   rcases hm with rfl | rfl
   ·exact RA q
   ·exact P5 q
  refine PZ (gw (by cases gave <;> first | exact .inr rfl | exact .inl rfl) ?_);have tail:∀t2:SetTable,jr P w es1 t2 (ks++[x])->∀{g:Bool->Sem Unit},(∀b,g b=rule "set.scan.the-table-gave-way"∨g b=pure ())->wpAny (model P w) A (do
    storeSet a es1 t2
    if(!wasDummy&&t2.tooFull)=true then do
      g (relayAll t2 es1 (SetTable.grown es1.size)).2.2
      storeSet a (relayAll t2 es1 (SetTable.grown es1.size)).1 (relayAll t2 es1 (SetTable.grown es1.size)).2.1
      pure (some true)
     else pure (some true)) (fun r s'=>wpAny (model P w) A (match r with | some added=>pure added | none=>setAddHashedIn a (.int x u) ((aQ P w).hash (.inl x)) 99999) Q E s') E s:=fun t2 hT2 g hg=>by
   refine PZ (vd hob hex hdt hT2 fun h' o' hs ho' hx' hd'=>?_)
   split
   ·refine PZ (gw (hg _) (PZ (vd (s:={s with heap:=h'}) ho' hx' hd' (hT2.AS _) fun h2' o2 hs2 ho2 hx2 hd2=>?_)));exact P5 (P5 (fin _ _ (hs.trans hs2) ⟨_,_,_,_,ho2,hx2,hd2,hT2.AS _⟩))
   ·exact P5 (P5 (fin _ _ hs ⟨_,_,_,_,ho',hx',hd',hT2⟩))
  cases hpl:t1.plain with
  | true=>
   rw[P7 rfl];refine PZ ?_;rw[Sx 8 hsc];refine P5 ?_;exact tail _ (hlay _ (P7 (show(true=true) from rfl))) (fun b=>by cases b <;> first | exact .inr rfl | exact .inl rfl)
  | false=>
   rw[Qa (by decide)];refine PZ (P5 ?_);exact tail _ (hlay _ (P7 rfl)) (fun b=>by cases b <;> first | exact .inr rfl | exact .inl rfl)
noncomputable def eF(ns:List Int):List Int:=ns.foldl pC []
theorem AE(ks:List Int)(d:Int):eF (ks++[d])=pC (eF ks) d:=by unfold eF;rw[US];rfl
theorem FY(ds:List Int)(d:Int):(pC ds d).length≤ds.length+1:=by unfold pC;split <;> simp
theorem Di(ds:List Int):(eF ds).length≤ds.length:=by
 have:∀(ds acc:List Int),(ds.foldl pC acc).length≤acc.length+ds.length:=by
  intro ds
  induction ds with
  | nil=>intro acc;simp
  | cons d ds ih=>intro acc;rw[RY];have:=ih (pC acc d);have:=FY acc d;simp only[Qv];lia
 have:=this ds [];unfold eF
 simpa using this
theorem Cj:x∈eF ns↔x∈ns:=by
 have:∀(ds acc:List Int),x∈ds.foldl pC acc↔x∈acc∨x∈ds:=by
  intro ds
  induction ds with
  | nil=>intro acc;simp
  | cons d ds ih=>
   intro acc;rw[RY,ih];unfold pC
   by_cases c:wV acc d=true
   ·rw[P7 c];have:=ng.mp c;constructor
    ·rintro(h | h)
     ·exact .inl h
     ·exact .inr (Qc _ h)
    ·rintro(h | h)
     ·exact .inl h
     ·rcases Qn.mp h with rfl | h
      ·exact .inl this
      ·exact .inr h
   ·rw[Qa c];simp[or_assoc]
 have:=this ns [];unfold eF
 simpa using this
theorem yY(ns:List Int):(eF ns).Nodup:=by
 have:∀(ds acc:List Int),acc.Nodup->(ds.foldl pC acc).Nodup:=by
  intro ds
  induction ds with
  | nil=>intro acc h;exact h
  | cons d ds ih=>
   intro acc h;rw[RY];refine ih _ ?_;unfold pC
   by_cases c:wV acc d=true
   ·rw[P7 c];exact h
   ·rw[Qa c];refine Rt.mpr ⟨h,by simp,fun a ha b hb z=>?_⟩;rw[Qj] at hb;subst hb;subst z;exact c (ng.mpr ha)
 exact this ns [] U5
theorem FX{P:Program}{w:World}{A:Around}{h₀:Heap}{S:Addr}{items:Array Value}{ns:List Int}(hk:∀(i:Nat)(v:Value),items[i]?=some v->∃n t,ns[i]?=some n∧v=.int n t)(hl:ns.length≤1000):
  Ge P w A h₀ S items (fun i h=>pH P w h S (eF (ns.take i))) where
 frame:=fun i h h' k=>by
  rintro⟨n,o,es,ep,t,e,r⟩;exact⟨n,o,es,ep,t,k o e,r⟩
 fresh:=fun h e=>by
  rw[Sa];exact⟨U5,_,#[],0,_,e,⟨rfl,rfl,rfl⟩,rfl,fun e he=>by simp at he,fun e he=>by simp at he,.refl _,by decide,rfl,rfl,rfl,fun _=>mO (show(0:Nat)≤1 from Q9 1)⟩
 step:=fun i v s E Q hv hJ keep h=>by
  obtain⟨n,t,hki,rfl⟩:=hk i v hv;have hil:i < ns.length:=(P4.mp hki).1;have hroom:(eF (ns.take i)).length+1 < scanBound:=by
   have h1:=Di (ns.take i);have h2:(ns.take i).length≤i:=by rw[Qy];exact Sk _ _
   unfold scanBound
   lia
  unfold setAdd;refine QW ?_;refine PZ ((aQ P w).pyHash (k:=.inl n) iH ?_);refine t8 (s:={s with toks:=s.toks+1}) hJ hroom fun b h' hsb hS2=>?_;refine h _ h' (s.toks+1) (by lia) hsb ?_;rw[take_snoc hki,AE];exact hS2
section
variable {P:Program} {w:World} {A:Around} {E:Value->Shared->Prop} {s:Shared} {a:Addr} {ks:List Int}
theorem zi{Q:Value->Shared->Prop}(hV:IntsAre vs ns)(h64:vs.length < 64)
  (h:∀h' n (out:Array Value),(∀b o,s.heap.get? b=some o->h'.get? b=some o)->h'.get? s.heap.objs.size=some (seqObj "list" out n)->IntsAre out.toList (dM ns)->Q (.ref s.heap.objs.size) {s with heap:=h'}):
  wpAny (model P w) A (do let l←newList vs;let _←holding [l] (call (.builtin "list.sort") [l] []);ret l) (fun fin s'=>∃v,fin=Fin.done (Flow.ret v)∧Q v s') E s:=by
 refine PZ (wpAny_newList ?_ (by rw[QL];lia));have hL:(s.heap.push (seqObj "list" vs.toArray 0)).get? s.heap.objs.size=some (seqObj "list" vs.toArray 0):=Qg _ rfl;show wpAny _ _ _ _ _ {s with heap:=s.heap.push (seqObj "list" vs.toArray 0)};refine PZ (QW (Q0 slot_list_sort ⟨_,hL,rfl⟩ entry_list_sort (list_sort_tree (s:={s with heap:=s.heap.push (seqObj "list" vs.toArray 0)}) hL hV h64 fun out ns' g1 g2 g3=>⟨_,rfl,?_⟩) (args_list_sort _)));have:=qX g2 g3;subst this;have hlt:s.heap.objs.size < (s.heap.push (seqObj "list" vs.toArray 0)).objs.size:=by rw[QJ];exact SD _
 obtain⟨n,hn⟩:=sortedHeap_at (vs:=vs) (out:=out) hL;refine P5 ⟨_,rfl,h _ n _ (fun b o e=>?_) hn g1⟩;have hb:=Qf e;rw[sortedHeap_old (Qo hb) (Ts hb hlt)];exact P2 _ e
theorem intsAre_map:∀(vs:List Value),(∀v∈vs,∃x u,v=.int x u)->IntsAre vs (vs.map intOf)
 | [],_=>.nil
 | v::r,h=>by
  obtain⟨x,u,rfl⟩:=h v Qe;exact .cons x u (intsAre_map r fun y hy=>h y (Qc _ hy))
theorem tI(hh:A.handled=none)(hS:pH P w s.heap a ks)(h64:ks.length < 64){Q:Value->Shared->Prop}
  (h:∀h' d l n (out:Array Value),(∀b o,s.heap.get? b=some o->h'.get? b=some o)->s.heap.objs.size≤l->h'.get? l=some (seqObj "list" out n)->IntsAre out.toList (dM ks)->Q (.ref l) {s with heap:=h',drawn:=d}):
  wpAny (model P w) A (call (.builtin "sorted") [.ref a]) Q E s:=by
 obtain⟨hn,o,es,ep,t,e,ex,dd,h1,h2,h3,h4,h5,h6,h7⟩:=hS;refine VI kind_sorted plain_sorted entry_sorted (args_sorted1 _) ?_;unfold Builtin.«sorted»;refine PZ (m:=checkCount "sorted" 1 1 _) (P5 ?_);refine PZ (yM (A:=A.in1) (es:=es) hh ⟨o,ep,t,e,ex,dd,h4,h5,h6,h7.2⟩ fun h1' d vs hsz k1 hp=>?_);have hst:∀v∈vs,∃x u,v=.int x u:=fun v hv=>by
  obtain⟨e,he,rfl⟩:=Ql.mp (hp.mem_iff.mp hv);exact h2 e he
 have hp2:(vs.map intOf).Perm ks:=(hp.map intOf).trans (by rw[QI];exact h3);have hV:=intsAre_map vs hst;have hlen:vs.length=ks.length:=by have:=hp2.length_eq;simpa using this
 have e:dM (vs.map intOf)=dM ks:=qX ((df _).trans hp2) (mG _);refine zi (s:={s with heap:=h1',drawn:=d}) hV (by rw[hlen];exact h64) fun h' n out hk hl ho=>?_;refine h h' d h1'.objs.size n out (fun b o z=>hk b o (k1 b o z)) ?_ hl (e ▸ ho);exact hsz
end
noncomputable def NS(P:Program)(w:World)(a:Addr)(ks:List Int):HO:=.ext fun h=>pH P w h a ks
theorem K7(x:pH P w h a ks):cL P' w' H h a (NS P w a ks):=
 ⟨x,let⟨_,o,_,_,_,e,_⟩:=x;⟨o,e⟩,fun h1 h2 y k=>let⟨q,o,es,ep,t,e,r⟩:=y;⟨q,o,es,ep,t,k o e,r⟩⟩
theorem CZ{X:Cx}(hc:X.calm=true):eN X (.type "set") (fun xs H Q=>∃a ns,xs=[.ref a]∧gA X.K H a (ns.map V.int)∧ns.length≤1000∧∀l,H l=none->Q (.ref l) (upd H l (NS X.prog X.w l (eF ns)))):=by
 intro pins s σ H xs us Q I r h;obtain⟨a,ns,rfl,hq,hk1,q⟩:=h;obtain⟨u,rfl,rx⟩:=vals1 r;cases rx;obtain⟨its,rv,pt,hz⟩:=I.list hq;have hlen:=rv.length;have hkl:ns.length=its.length:=by rw[←hlen,P1]
 refine sR (items:=its.toArray) (I.ok.hd hc) pt.isList (fun A' _ _=>FX (ns:=ns) (fun i v hv=>?_) hk1) fun h' tk hJ k=>?_
 ·have hv':its[i]?=some v:=by simpa using hv
  have hi:i < ns.length:=by rw[hkl];exact(P4.mp hv').1
  have hki:ns[i]?=some ns[i]:=P9 hi;obtain⟨u,hu',ru⟩:=Vals.get rv (x:=.int ns[i]) (i:=i) (by rw[Qi,hki];rfl);rw[hv'] at hu';cases hu';obtain⟨t,rfl⟩:=ru;exact⟨_,t,hki,rfl⟩
 ·have hs:its.toArray.size=ns.length:=by rw[hkl];rfl
  rw[hs,QM] at hJ;exact⟨.ref _,_,I.laid (t':=tk) (o:=NS X.prog X.w s.heap.objs.size (eF ns)) (fun b o e=>k b o (Qf e) e) (P8 _) (K7 hJ),rfl,q _ I.fresh⟩
theorem Aw(hc:X.calm=true):eN X (.builtin "sorted") (fun xs H Q=>∃a ks,xs=[.ref a]∧H a=some (NS X.prog X.w a ks)∧ks.length < 64∧∀l,H l=none->Q (.ref l) (upd H l (.lst ((dM ks).map V.int)))):=by
 intro pins s σ H xs us Q I r h;obtain⟨a,ks,rfl,e,h64,q⟩:=h;obtain⟨u,rfl,rx⟩:=vals1 r;cases rx;obtain⟨hS,_,_⟩:=I.bC a _ e;refine tI (I.ok.hd hc) hS h64 fun h' d l n out k hl ho hV=>?_;have hz:((dM ks).map V.int).length≤sizeLine:=by
  rw[P1,(df ks).length_eq,QL];lia
 refine⟨.ref l,_,(I.laid (t':=s.toks) (o:=.lst ((dM ks).map V.int)) k hl ⟨hz,out.toList,n,iC hV,?_⟩).draw d,rfl,q l (I.bC.fresh hl)⟩;rw[ho]
end L2
namespace Sm
open PySem L2 PySem.Spec PyProof.Rows
noncomputable def gb(m:EM):EM:=fun δ h=>(m δ h).bind fun p=>(fF p.1 p.2).bind fun xs=>(kZ xs).bind fun ns=>if ns.length≤1000∧(eF ns).length < 64 then some (.lv ((dM (eF ns)).map D.int),p.2) else none
theorem q9{p p2 pos pos2:Pos}(hc:X.calm=true)(hgl:Gl X "sorted")(hml:X.mg "sorted"=none)(hgs:Gl X "set")(hms:X.mg "set"=none)(he:SE X e me)(hs:starEach [e] X.env=(false,eval e X.env)::starEach [] X.env:=by ac_nf):
  SE X (.Call (.Name "sorted" p) [.Call (.Name "set" p2) [e] [] pos2] [] pos) (gb me):=
 (rQ (Aw hc) hgl hml (by decide+kernel) (mT (kB (CZ hc) hgs hms (by decide+kernel) (mT he rT hs) (by decide) (by decide) hs) rT)).imp fun σ H Q ⟨ρ,δ,h,d,h',R,S,ee,k⟩=>by
  obtain⟨⟨d1,h1⟩,e1,e2⟩:=bL ee;obtain⟨ys,e3,e4⟩:=bL e2;obtain⟨ns,e5,e6⟩:=bL e4
  by_cases c:ns.length≤1000∧(eF ns).length < 64
  ·rw[P7 c] at e6;cases e6;refine⟨ρ,δ,h,d1,h1,R,S,e1,fun v H1 ⟨ρ1,T1,S1,r1⟩=>?_⟩;obtain⟨a,vs,rfl,ha,la⟩:=ej S1 r1 e3;have:=so e5;subst this;have:=lM la;subst this;refine⟨a,ns,rfl,gA.of ha,c.1,fun l hl=>⟨l,eF ns,rfl,bh,c.2,fun l2 hl2=>?_⟩⟩;exact k _ _ (eL.step (T1.trans (dz.laid S1 hl)) (eL.lv (S1.laid hl) (repL_ints' _) hl2))
  ·rw[Qa c] at e6;cases e6
end Sm
namespace L2
open PySem PySem.Spec PyProof.Rows
open AutoSeq1 in
theorem lZ(l:Addr)(items:Array Value)(n:Nat)(b:Addr)(items2:Array Value)(n2:Nat)(sl:Array (Option Value))(hs0:¬(!items.isEmpty&&Builtin.List.listTooLong (items.size+items2.size))=true)(hs1:items.size≤sizeLine)(hs2:items.size+items2.size≤sizeLine+1):
  Meets (Builtin.«list.extend» ⟨[.ref l,.ref b],[]⟩) (fun _ R s=>s.heap.get? l=some {cls:=.type "list",dict:=none,data:=.seq items n,slots:=#[]}∧s.heap.get? b=some {cls:=.type "tuple",dict:=none,data:=.seq items2 n2,slots:=sl}∧R (.ok (.ret Value.none)) {s with heap:=s.heap.update l (Obj.mapSeq fun x=>x++items2),toks:=s.toks}):=
 .of_wp fun prog w A R s h=>by
  obtain⟨hp,g,d,tk,os⟩:=s;obtain⟨hl,hb,h⟩:=h;have f1:=idx_int;have f2:=AutoSeq1.sub_tuple_tuple;have f3:=AutoSeq1.sub_list_list;have f4:=AutoSeq1.sub_tuple_list;have f5:=AutoSeq1.sub_list_tuple;have hz':(items++items2).size≤sizeLine+1:=by rw[Array.size_append];exact hs2
  wp_walk using (Uw hl rfl (hz:=hs1) (_hz':=hz')),wpAny_loadPart' hl,wpAny_loadPart' hb;exact⟨_,rfl,h⟩
theorem zS{X:Cx}:Gh X "list.extend" (fun x vs H Q=>∃l b xs zs,x=.ref l∧vs=[.ref b]∧H l=some (.lst xs)∧ko X.K H b zs∧xs.length+zs.length≤sizeLine∧Q .cC (upd H l (.lst (xs++zs)))):=by
 intro pins s σ H x vs v us Q I rx rv h;obtain⟨l,b,xs,zs,rfl,rfl,hH,hB,hz,q⟩:=h;cases rx;obtain⟨u,rfl,ru⟩:=rv.one;cases ru;obtain⟨z,its,n,r,hl,e⟩:=I.yq hH;obtain⟨its2,r2,pl,z2⟩:=I.Jb hB;obtain⟨o,g,o1,⟨n2,o3⟩,o2⟩:=pl;obtain⟨oc,od,oda,os⟩:=o;dsimp only at o1 o2 o3;subst o1 o2 o3;have hl2:=r2.length;have hsz:its.toArray.size+its2.toArray.size≤sizeLine:=by rw[Qh,Qh];lia
 have hlong:¬(!its.toArray.isEmpty&&Builtin.List.listTooLong (its.toArray.size+its2.toArray.size))=true:=by
  rw[r8 hsz,U7];exact QZ
 refine TY RQ ⟨_,e,rfl⟩ F.entry_list_extend (F.args_list_extend_2 _ _)
  (lZ l its.toArray n b its2.toArray n2 os hlong (by rw[Qh];lia) (by lia)) ⟨e,g,?_⟩
 refine⟨.cC,_,I.Hl (its':=its++its2) hH e (by simp) (r.append r2) ?_,rfl,q⟩;rw[Qb]
 lia
end L2
namespace Sm
open PySem L2 PySem.Spec PyProof.Rows
noncomputable def j4:F8:=fun d ds h=>match d,ds with
 | .ob n,[.tup zs]=>match h[n]? with
  | some (.lst xs)=>if xs.length+zs.length≤sizeLine then some (.cC,h.set n (.lst (xs++zs))) else none
  | _=>none
 | _,_=>none
theorem zU{X:Cx}:Gh X "list.extend" (rM X.K j4):=by
 intro pins s σ H x xs v us Q I rx rs hh;obtain⟨ρ,h,d,ds,z,h',S,rd,l,ee,k⟩:=hh;cases d <;> first |(cases ee;done) | skip
 rename_i n
 match ds,l,ee with
 | [],_,ee=>cases ee
 | y::_::_,_,ee=>cases y <;> cases ee
 | [y],l,ee=>
  obtain⟨u,rfl,ru⟩:=rep1 l;cases ru <;> first |(cases ee;done) | skip
  rename_i b ws zs hb l2 _;unfold j4 at ee;dsimp only at ee;cases q:h[n]? with
  | none=>rw[q] at ee;cases ee
  | some w=>
   rw[q] at ee;cases w with
   | dct _=>cases ee
   | lst ys=>
    dsimp only at ee
    by_cases c:ys.length+zs.length≤sizeLine
    ·rw[P7 c] at ee;cases ee;obtain⟨a,vs,rfl,hn,e1,l1⟩:=wL S rd q;have T:dz ρ H ρ (upd H a (.lst (vs++ws))):=dz.wrote S (P6 hn);exact zS pins s σ H _ _ v us Q I rx rs ⟨a,b,vs,ws,rfl,rfl,e1,hb.sq,by rw[l1.length,l2.length];exact c,k _ _ ⟨ρ,T,S.wrote hn ⟨_,bh,(l1.append l2).mono T.toCh⟩,.cC⟩⟩
    ·rw[Qa c] at ee;cases ee
end Sm
namespace Pg
open PySem Sm L2
abbrev Term:=Str×Int
abbrev Lock:=Str×Term
inductive Row where
 | say (w:Str)
 | call (d:Str) (ts:List Term)
 | within (l:Lock) (b:List Row)
 | all (ls:List Lock) (b:List Row)
 | ask (l:Lock) (b e:List Row)
 | qP (s t:Term) (a b c:List Row)
 | either (a b:List Row)
 | again (a:List Row)
noncomputable def bG(t:Term):D:=.tup [.str t.1,.int t.2]
noncomputable def aO(l:Lock):D:=.tup [.str l.1,bG l.2]
mutual
noncomputable def aP:Row->D
 | .say w=>.tup [.str "say",.str w]
 | .call d ts=>.tup [.str "call",.str d,.tup (ts.map bG)]
 | .within l b=>.tup [.str "within",aO l,.tup (bX b)]
 | .all ls b=>.tup [.str "all",.tup (ls.map aO),.tup (bX b)]
 | .ask l b e=>.tup [.str "ask",aO l,.tup (bX b),.tup (bX e)]
 | .qP s t a b c=>.tup [.str "by",bG s,bG t,.tup (bX a),.tup (bX b),.tup (bX c)]
 | .either a b=>.tup [.str "either",.tup (bX a),.tup (bX b)]
 | .again a=>.tup [.str "again",.tup (bX a)]
noncomputable def bX:List Row->List D
 | []=>[]
 | r::rs=>aP r::bX rs
end
theorem fz:∀l:List Row,bX l=l.map aP
 | []=>by simp[bX]
 | r::rs=>by simp[bX,fz rs]
mutual
noncomputable def cnt:Row->Nat
 | .say _=>1
 | .call _ _=>1
 | .within _ b=>1+aS b
 | .all _ b=>1+aS b
 | .ask _ b e=>1+aS b+aS e
 | .qP _ _ a b c=>1+aS a+aS b+aS c
 | .either a b=>1+aS a+aS b
 | .again a=>1+aS a
noncomputable def aS:List Row->Nat
 | []=>0
 | r::rs=>cnt r+aS rs
end
theorem kd:∀a b:List Row,aS (a++b)=aS a+aS b
 | [],b=>by simp[aS]
 | r::a,b=>by simp[aS,kd a b];lia
structure Wd where
 names:List Str
 aq:List Str
 params:List (List Str)
def eG(ps:List Str)(t:Term):Prop:=(t.1=Str.ofString ""∨t.1∈ps)∧-99≤t.2∧t.2≤99
def fP(W:Wd)(ps:List Str)(l:Lock):Prop:=l.1∈W.names∧eG ps l.2
mutual
def bo(W:Wd)(ps:List Str):Nat->Row->Prop
 | _,.say w=>w∈W.names++W.aq
 | _,.call d ts=>(∃(j:Nat)(qs:List Str),W.aq[j]?=some d∧W.params[j]?=some qs∧ts.length=qs.length)∧∀t∈ts,eG ps t
 | n,.within l b=>fP W ps l∧n < 5∧b.length≤12∧bq W ps (n+1) b
 | n,.all ls b=>(2≤ls.length∧ls.length≤4∧ls.Nodup∧∀l∈ls,fP W ps l)∧n < 5∧b.length≤12∧bq W ps (n+1) b
 | n,.ask l b e=>fP W ps l∧n < 5∧b.length≤12∧e.length≤12∧bq W ps (n+1) b∧bq W ps (n+1) e
 | n,.qP s t a b c=>eG ps s∧eG ps t∧n < 5∧a.length≤12∧b.length≤12∧c.length≤12∧bq W ps (n+1) a∧bq W ps (n+1) b∧bq W ps (n+1) c
 | n,.either a b=>n < 5∧a.length≤12∧b.length≤12∧bq W ps (n+1) a∧bq W ps (n+1) b
 | n,.again a=>n < 5∧a.length≤12∧bq W ps (n+1) a
def bq(W:Wd)(ps:List Str):Nat->List Row->Prop
 | _,[]=>True
 | n,r::rs=>bo W ps n r∧bq W ps n rs
end
theorem oW{W:Wd}{ps:List Str}{n:Nat}:∀{a b:List Row},bq W ps n a->bq W ps n b->bq W ps n (a++b)
 | [],b,_,h=>h
 | r::a,b,h,h'=>by
  unfold bq at h;show bq W ps n (r::(a++b));unfold bq;exact⟨h.1,oW h.2 h'⟩
theorem uN{W:Wd}{ps:List Str}{n:Nat}:∀{a:List Row},bq W ps n a->∀r∈a,bo W ps n r
 | [],_,_,z=>by cases z
 | r::a,h,x,hx=>by
  unfold bq at h;rcases Qn.mp hx with rfl | hx
  ·exact h.1
  ·exact uN h.2 x hx
end Pg
namespace Rc
inductive iQ(c:Nat->List Nat):Nat->Nat->Nat->Prop where
 | one {k a b:Nat}:b∈c a->iQ c (k+1) a b
 | more {k a x b:Nat}:x∈c a->iQ c k x b->iQ c (k+1) a b
def R(c:Nat->List Nat)(a b:Nat):Prop:=∃k,iQ c k a b
variable {c:Nat->List Nat} {n:Nat}
theorem iQ.up(h:iQ c k a b):iQ c (k+1) a b:=by
 induction h with
 | one h=>exact .one h
 | more h _ ih=>exact .more h ih
theorem iQ.mono(h:iQ c k a b)(l:k≤m):iQ c m a b:=by
 obtain⟨d,rfl⟩:=Nat.le.dest l
 induction d with
 | zero=>exact h
 | succ d ih=>exact(ih (QD _ _)).up
theorem iQ.snoc(h:iQ c k a x)(hb:b∈c x):iQ c (k+1) a b:=by
 induction h with
 | one h=>exact .more h (.one hb)
 | more h _ ih=>exact .more h (ih hb)
theorem iQ.back(h:iQ c (k+1) a b):b∈c a∨∃x,iQ c k a x∧b∈c x:=by
 generalize e:k+1=m at h
 induction h generalizing k with
 | one h=>exact .inl h
 | @more k' a x b h h2 ih=>
  obtain rfl:k=k':=by lia
  cases k with
  | zero=>cases h2
  | succ k=>
   rcases ih rfl with q |⟨y,q1,q2⟩
   ·exact .inr ⟨x,.one h,q⟩
   ·exact .inr ⟨y,.more h q1,q2⟩
theorem iQ.lt(hc:∀i x,x∈c i->x < n)(h:iQ c k a b):b < n:=by
 induction h with
 | one h=>exact hc _ _ h
 | more _ _ ih=>exact ih
theorem R.one(h:b∈c a):R c a b:=⟨1,.one h⟩
theorem iQ.trans(h:iQ c k a x)(h2:iQ c m x b):iQ c (k+m) a b:=by
 induction h with
 | @one k a x h=>exact(iQ.more h h2).mono (by lia)
 | @more k a y x h _ ih=>exact(iQ.more h (ih h2)).mono (by lia)
theorem R.trans(h:R c a x)(h2:R c x b):R c a b:=let⟨k,p⟩:=h;let⟨m,q⟩:=h2;⟨k+m,p.trans q⟩
theorem R.snoc(h:R c a x)(hb:b∈c x):R c a b:=h.trans (.one hb)
theorem R.within{a b:Nat}{S:Nat->Prop}(h1:∀x∈c a,S x)(h2:∀f,S f->∀x∈c f,S x)(h:R c a b):S b:=by
 obtain⟨k,h⟩:=h
 induction k generalizing b with
 | zero=>cases h
 | succ k ih=>
  rcases h.back with q |⟨x,q1,q2⟩
  ·exact h1 b q
  ·exact h2 x (ih q1) b q2
theorem vm:∀{l:List Nat} {x:Nat},(∀y,p y=true->q y=true)->x∈l->q x=true->p x=false->l.countP p < l.countP q
 | y::r,x,h,hx,h1,h2=>by
  rw[List.countP_cons,List.countP_cons];have hm:r.countP p≤r.countP q:=List.countP_mono_left fun z _ hz=>h z hz;rcases Qn.mp hx with rfl | hx
  ·rw[h1,h2];simp;lia
  ·have:=vm h hx h1 h2;cases e:p y with
   | true=>rw[h y e];simp;lia
   | false=>simp;lia
open Classical in
theorem R.PL(hc:∀i x,x∈c i->x < n)(h:R c a b):iQ c n a b:=by
 have stand:∀j,(∀x,iQ c (j+1) a x->iQ c j a x)->∀m x,iQ c m a x->iQ c j a x:=by
  intro j hj m
  induction m with
  | zero=>intro x h;cases h
  | succ m ih=>
   intro x h;rcases h.back with q |⟨y,q1,q2⟩
   ·exact hj x (.one q)
   ·exact hj x ((ih y q1).snoc q2)
 by_cases z:∃j,j≤n∧∀x,iQ c (j+1) a x->iQ c j a x
 ·obtain⟨j,hj,hs⟩:=z;obtain⟨m,h⟩:=h;exact(stand j hs m b h).mono hj
 ·exfalso;have grow:∀k,k≤n+1->k≤(List.range n).countP fun x=>decide (iQ c k a x):=by
   intro k
   induction k with
   | zero=>intro _;exact Q9 _
   | succ k ih=>
    intro hk;have h1:=ih (by lia);have h2:∃x,iQ c (k+1) a x∧¬iQ c k a x:=by
     apply RH;intro w;refine z ⟨k,by lia,fun x hx=>?_⟩;apply RH;intro w2;exact w ⟨x,hx,w2⟩
    obtain⟨x,hx,hx2⟩:=h2;have:=vm (l:=List.range n) (p:=fun x=>decide (iQ c k a x)) (q:=fun x=>decide (iQ c (k+1) a x)) (x:=x) (fun y hy=>QO (QK hy).up) (Q3.mpr (hx.lt hc)) (QO hx) (QS hx2)
    lia
  have h1:=grow (n+1) (P8 _);have h2:(List.range n).countP (fun x=>decide (iQ c (n+1) a x))≤(List.range n).length:=List.countP_le_length;rw[Qt] at h2
  lia
structure Cm(c:Nat->List Nat)(n a:Nat)(found ahead:List Nat):Prop where
 r1:∀x∈found,R c a x
 r2:∀x∈ahead,R c a x
 first:∀x∈c a,x∈found∨x∈ahead
 next:∀f∈found,∀x∈c f,x∈found∨x∈ahead
 nd:found.Nodup
theorem Cm.init:Cm c n a [] (c a):=⟨fun _ h=>(nomatch h),fun _ h=>.one h,fun _ h=>.inr h,fun _ h=>(nomatch h),.nil⟩
theorem Cm.known(C:Cm c n a found (r++[o]))(h:o∈found):Cm c n a found r:=by
 have sp:∀x,(x∈found∨x∈r++[o])->x∈found∨x∈r:=fun x hx=>by
  rcases hx with hx | hx
  ·exact .inl hx
  ·rcases Qx.mp hx with hx | hx
   ·exact .inr hx
   ·rw[Qj] at hx;subst hx;exact .inl h
 exact⟨C.r1,fun x hx=>C.r2 x (RL _ hx),fun x hx=>sp x (C.first x hx),fun f hf x hx=>sp x (C.next f hf x hx),C.nd⟩
theorem Cm.new(C:Cm c n a found (r++[o]))(h:o∉found):Cm c n a (found++[o]) (r++c o):=by
 have ro:=C.r2 o (Qu _ (Qj.mpr rfl));have sp:∀x,(x∈found∨x∈r++[o])->x∈found++[o]∨x∈r++c o:=fun x hx=>by
  rcases hx with hx | hx
  ·exact .inl (RL _ hx)
  ·rcases Qx.mp hx with hx | hx
   ·exact .inr (RL _ hx)
   ·exact .inl (Qu _ hx)
 refine⟨fun x hx=>?_,fun x hx=>?_,fun x hx=>sp x (C.first x hx),fun f hf x hx=>?_,?_⟩
 ·rcases Qx.mp hx with hx | hx
  ·exact C.r1 x hx
  ·rw[Qj] at hx;subst hx;exact ro
 ·rcases Qx.mp hx with hx | hx
  ·exact C.r2 x (RL _ hx)
  ·exact ro.snoc hx
 ·rcases Qx.mp hf with hf | hf
  ·exact sp x (C.next f hf x hx)
  ·rw[Qj] at hf;subst hf;exact .inr (Qu _ hx)
 ·refine Rt.mpr ⟨C.nd,by simp,fun x hx y hy z=>?_⟩;rw[Qj] at hy;subst hy;subst z;exact h hx
theorem Cm.done{a b:Nat}{found:List Nat}(C:Cm c n a found []):b∈found↔R c a b:=by
 refine⟨C.r1 b,fun h=>h.within (S:=fun x=>x∈found) (fun x hx=>?_) (fun f hf x hx=>?_)⟩
 ·rcases C.first x hx with q | q
  ·exact q
  ·cases q
 ·rcases C.next f hf x hx with q | q
  ·exact q
  ·cases q
theorem iF:∀{m:Nat} {l:List Nat},l.Nodup->(∀x∈l,x < m)->l.length≤m
 | 0,[],_,_=>P8 _
 | 0,x::r,_,h=>absurd (h x Qe) (RV _)
 | m+1,l,hn,h=>by
  by_cases z:m∈l
  ·have h1:=iF (m:=m) (hn.erase m) fun x hx=>by
    have h2:=(hn.mem_erase_iff).mp hx;have:=h x h2.2;have:=h2.1
    lia
   rw[Ve z] at h1
   lia
  ·have h1:=iF (m:=m) hn fun x hx=>by
    have:=h x hx;have h2:x≠m:=fun q=>z (q ▸ hx)
    lia
   lia
theorem Cm.len(hc:∀i x,x∈c i->x < n)(C:Cm c n a found ahead):found.length≤n:=
 iF C.nd fun x hx=>let⟨_,h⟩:=C.r1 x hx;h.lt hc
noncomputable def uh(far:List Nat)(more:List Nat):List Nat:=far++more.filter fun m=>!far.any fun x=>decide (x=m)
theorem jZ:x∈uh far more↔x∈far∨x∈more:=by
 unfold uh;rw[Qx,Ur]
 by_cases h:x∈far
 ·simp[h]
 ·simp only[h,false_or,and_iff_left_iff_imp];intro _;simp only[TL,TJ,QT];intro y hy z;exact h (z ▸ hy)
theorem AF(h1:far.Nodup)(h2:more.Nodup):(uh far more).Nodup:=by
 unfold uh;refine Rt.mpr ⟨h1,h2.filter _,fun x hx y hy z=>?_⟩;subst z;have:=(Ur.mp hy).2;simp only[TL,TJ,QT] at this;exact this x hx rfl
structure Fr(c:Nat->List Nat)(n t:Nat)(far:Nat->List Nat):Prop where
 has:∀i,i < n->∀x,iQ c t i x->x∈far i
 only:∀i,i < n->∀x∈far i,R c i x
 nd:∀i,i < n->(far i).Nodup
theorem Fr.init(h:∀i,i < n->(c i).Nodup):Fr c n 1 c:=by
 refine⟨fun i _ x hx=>?_,fun i _ x hx=>.one hx,h⟩;rcases hx.back with q |⟨y,q,_⟩
 ·exact q
 ·cases q
theorem Fr.told(hc:∀i x,x∈c i->x < n)(F:Fr c n t far)(hn:n≤t)(hi:i < n):x∈far i↔R c i x:=
 ⟨F.only i hi x,fun h=>F.has i hi x ((h.PL hc).mono hn)⟩
structure Tn(c:Nat->List Nat)(n t one:Nat)(far:Nat->List Nat):Prop extends Fr c n t far where
 more:∀i,i < one->i < n->∀x,iQ c (t+1) i x->x∈far i
noncomputable def LN(far:Nat->List Nat)(one:Nat)(l:List Nat):Nat->List Nat:=fun i=>if i=one then l else far i
theorem Tn.start(F:Fr c n t far):Tn c n t 0 far:=⟨F,fun i h=>absurd h (RV _)⟩
theorem Tn.fin(T:Tn c n t n far):Fr c n (t+1) far:=⟨fun i hi=>T.more i hi hi,T.only,T.nd⟩
theorem Tn.other(T:Tn c n t one far)(h1:one < n)(ho:o < n)(hr:R c one o):Tn c n t one (LN far one (uh (far one) (far o))):=by
 refine⟨⟨fun i hi x hx=>?_,fun i hi x hx=>?_,fun i hi=>?_⟩,fun i h hi x hx=>?_⟩ <;> unfold LN at*<;> by_cases e:i=one
 ·rw[P7 e];subst e;exact jZ.mpr (.inl (T.has i hi x hx))
 ·rw[Qa e];exact T.has i hi x hx
 ·rw[P7 e] at hx;subst e;rcases jZ.mp hx with q | q
  ·exact T.only i hi x q
  ·exact hr.trans (T.only o ho x q)
 ·rw[Qa e] at hx;exact T.only i hi x hx
 ·rw[P7 e];exact AF (T.nd one h1) (T.nd o ho)
 ·rw[Qa e];exact T.nd i hi
 ·lia
 ·rw[Qa e];exact T.more i h hi x hx
theorem Tn.step(hc:∀i x,x∈c i->x < n)(T:Tn c n t one far)(h1:one < n)(old:List Nat)(ho:∀x∈c one,x∈old∧x∈far one)(hall:∀o∈old,o < n->∀x,iQ c t o x->x∈far one):Tn c n t (one+1) far:=by
 refine⟨T.toFr,fun i h hi x hx=>?_⟩
 by_cases e:i=one
 ·subst e;cases hx with
  | one q=>exact(ho x q).2
  | more q q2=>exact hall _ (ho _ q).1 (hc _ _ q) x q2
 ·exact T.more i (by lia) hi x hx
end Rc
namespace Mi
open PySem L2 Sm PySem.Spec PyProof.Rows
structure Bs(P:Program)(w:World)(K:FR)(mg:Str->Option Value):Prop where
 b9:mg "abs"=none
 Gg:mg "all"=none
 b6:mg "any"=none
 b7:mg "bool"=none
 Nk:mg "enumerate"=none
 IQ:mg "int"=none
 b8:mg "isinstance"=none
 b5:mg "len"=none
 b4:mg "list"=none
 Nj:mg "max"=none
 NP:mg "min"=none
 b0:mg "range"=none
 b2:mg "set"=none
 b1:mg "sorted"=none
 Ic:mg "str"=none
 b3:mg "tuple"=none
 PV:mg "zip"=none
 y8:BG mg "MOST_ROWS" (.int (60))
 xC:BG mg "MOST_DEEDS" (.int (6))
 ur:BG mg "MOST_PARAMS" (.int (3))
 tE:BG mg "MOST_LETTERS" (.int (8))
 Dk:BG mg "LETTERS" (.str "abcdefghijklmnopqrstuvwxyz")
 xB:BG mg "MOST_NAMES" (.int (6))
 uu:BG mg "MOST_IN_LOT" (.int (12))
 y9:BG mg "MOST_DEEP" (.int (5))
 k9:BG mg "MOST_FIGURE" (.int (99))
 qq:BG mg "FEWEST_IN_ALL" (.int (2))
 uv:BG mg "MOST_IN_ALL" (.int (4))
 tx:Tab P w K mg "SHAPES" gD
abbrev i6:Stmt:=top 38
abbrev jc:List Str:=["_law_script"]
theorem tK:aD ["_law_script"] jc (ax i6):=by walk_at "s"
noncomputable def fD:Fn:=ju 1
  (aX (sE (ab (eK (.int 0)) (ab (sE (k6 (ab (yI (ae 0) IF (IG (eK (.int 63)))) ah))) (ab (eK (.int 0)) ah)))))
abbrev jJ:Stmt:=top 39
abbrev jU:List Str:=["_law_state"]
theorem dg:aD ["_law_state","_law_cells","_law_tour","_law_cell","_law_mixed"] jU (ax jJ):=by walk_at "s"
noncomputable def ig:Fn:=ju 5
  (av (aZ 1 (ay aY (ae 0) (eK (.int 1))))
  (av (aZ 2 (ay aY (ae 0) (eK (.int 2))))
  (av (lH (ay br (ae 2) (eK (.int 1))) (ua (ae 0) (eK (.int 2))))
  (av (aZ 3 (eK (.int 0)))
  (av (fb (aM (ay nr (ae 1) (eR ah))) (aZ 3 (ay aY (ae 1) (ay sC (ae 2) (aw cx (ab (ae 1) ah))))) bM)
  (fb (mE (aM (ay Le (ae 2) (aw cx (ab (ae 1) ah)))) (aM (ay M9 (aw Li (ab (ae 3) ah)) (ay HG (eK (.int 10)) (eK (.int 18)))))) (lH (aw Li (ab (ae 3) ah)) (ua (ae 0) (eK (.int 0)))) (av (aZ 4 (ay sC (ay j8 (ay br (ay br (ay sC (ae 3) (eK (.int 2305843009213693951))) (ay j8 (ay j8 (eK (.int 7919)) (ae 2)) (ae 2))) (eK (.int 11))) (eK (.int 48271))) (eK (.int 2305843009213693951))))
  (av (aZ 4 (ay sC (ay j8 (ae 4) (ae 4)) (eK (.int 2305843009213693921))))
  (lH (ay br (ay sC (ay br (ay br (ay j8 (ae 4) (eK (.int 69621))) (ae 2)) (eK (.int 104729))) (eK (.int 2305843009213693951))) (ay HG (eK (.int 10)) (eK (.int 9)))) (ua (ae 0) (eK (.int 0))))))))))))
abbrev jH:Stmt:=top 40
abbrev jS:List Str:=["_law_state","_law_many"]
theorem mN:aD ["_law_state","_law_many","_law_found"] jS (ax jH):=by walk_at "s"
noncomputable def aE:Fn:=ju 3
  (av (fb (aM (ay Le (ay aY (ae 0) (eK (.int 0))) (ae 1))) (ft (aw ig (ab (ae 0) ah))) bM)
  (av (aZ 2 (ay sC (ay aY (ae 0) (eK (.int 0))) (ae 1)))
  (av (lH (ay E8 (ay aY (ae 0) (eK (.int 0))) (ae 1)) (ua (ae 0) (eK (.int 0))))
  (aX (ae 2)))))
abbrev oC:Stmt:=top 41
abbrev oV:List Str:=["_law_state","_law_some"]
theorem zt:aD ["_law_state","_law_some"] oV (ax oC):=by walk_at "s"
noncomputable def aR:Fn:=ju 2
  (aX (ay aY (ae 1) (aw aE (ab (ae 0) (ab (aw cx (ab (ae 1) ah)) ah)))))
abbrev gL:Stmt:=top 55
abbrev gR:List Str:=["_law_state","_law_many"]
theorem bu:aD ["_law_state","_law_many","_law_deeds","_law_k","_law_rows","_law_turn","_law_row_here","_law_within","_law_dead","_law_some"] gR (ax gL):=by walk_at "s"
noncomputable def fE:Fn:=EE 10
  (av (aZ 2 (sE ah))
  (av (fL (iI (ab (ae 1) ah)) (gN 3) (av (aZ 4 (sE ah))
  (av (fL (iI (ab (aw aE (ab (ae 0) (ab (eK (.int 4)) ah))) ah)) (gN 5) (av (aZ 6 (aw aV (ab (eK (.str "call")) (ab (ay aY (eK (.str "abcdef")) (aw aE (ab (ae 0) (ab (ae 1) ah)))) (ab (aw aV ah) ah)))))
  (av (aZ 7 (aw aV (ab (eK (.str "within")) (ab (aw aV (ab (eK (.str "x")) (ab (aw aV (ab (eK (.str "")) (ab (ae 5) ah))) ah))) (ab (aw aV (ab (ae 6) ah)) ah)))))
  (av (aZ 8 (aw aV (ab (eK (.str "by")) (ab (aw aV (ab (eK (.str "")) (ab (eK (.int 1)) ah))) (ab (aw aV (ab (eK (.str "")) (ab (eK (.int 1)) ah))) (ab (aw aV (ab (ae 6) ah)) (ab (aw aV ah) (ab (aw aV ah) ah))))))))
  (av (aZ 9 (eR (ab (ae 6) (ab (ae 7) (ab (aw aV (ab (eK (.str "again")) (ab (aw aV (ab (ae 6) ah)) ah))) (ab (aw aV (ab (eK (.str "either")) (ab (aw aV ah) (ab (aw aV (ab (ae 6) ah)) ah)))) (ab (aw aV (ab (eK (.str "ask")) (ab (ay aY (ae 7) (eK (.int 1))) (ab (aw aV ah) (ab (aw aV (ab (ae 6) ah)) ah))))) (ab (ae 8) ah))))))))
  (av (aZ 6 (aw aR (ab (ae 0) (ab (ae 9) ah))))
  (ft (eM bU di (ae 4) (ab (ae 6) ah)))))))))
  (ft (eM bU di (ae 2) (ab (aw aV (ab (ay aY (eK (.str "abcdef")) (ae 3)) (ab (aw aV ah) (ab (aw ck (ab (ae 4) ah)) ah)))) ah))))))
  (aX (aw aV (ab (aw aV (ab (eK (.str "x")) ah)) (ab (aw ck (ab (ae 2) ah)) ah))))))
abbrev i5:Stmt:=top 42
abbrev jb:List Str:=["_law_state","_law_many"]
theorem cp:aD ["_law_state","_law_many","_law_letters","_law_stem","_law_k","_law_at","_law_first","_law_stride"] jb (ax i5):=by walk_at "s"
noncomputable def eC:Fn:=ju 8
  (av (aZ 2 (eK (.str "abcdefghijklmnopqrstuvwxyz")))
  (av (aZ 3 (eK (.str "")))
  (av (fL (iI (ab (aw aR (ab (ae 0) (ab (eK (.lv [.int 0,.int 1,.int 1,.int 2,.int 3,.int 6])) ah))) ah)) (gN 4) (aZ 3 (ay br (ae 3) (ay aY (ae 2) (aw aE (ab (ae 0) (ab (eK (.int 26)) ah)))))))
  (av (aZ 5 (aw aE (ab (ae 0) (ab (ay br (aw cx (ab (ae 3) ah)) (eK (.int 1))) ah))))
  (av (aZ 6 (aw aE (ab (ae 0) (ab (eK (.int 26)) ah))))
  (av (aZ 7 (aw aR (ab (ae 0) (ab (eK (.lv [.int 1,.int 3,.int 5,.int 7,.int 9,.int 11])) ah))))
  (aX (eR (bD [none,some 5,some 6,some 2,some 3,some 7] (iI (ab (ae 1) ah)) (gN 0) bS (ay br (ay br (yI (ae 4) IF (IG (ae 1))) (ay aY (ae 3) (ay sC (ay br (ae 2) (ay j8 (ae 5) (ae 0))) (eK (.int 26))))) (yI (ae 4) (IG (ae 1)) IF)))))))))))
abbrev i0:Stmt:=top 43
abbrev ja:List Str:=["_law_state","_law_most","_law_odd"]
theorem cO:aD ["_law_state","_law_most","_law_odd","_law_names","_law_deeds","_law_params","_law_many","_law_floors"] ja (ax i0):=by walk_at "s"
noncomputable def gC:Fn:=ju 8
  (av (aZ 3 (aw eC (ab (ae 0) (ab (aw aR (ab (ae 0) (ab (eK (.lv [.int 1,.int 2,.int 2,.int 3,.int 4,.int 6])) ah))) ah))))
  (av (aZ 4 (aw eC (ab (ae 0) (ab (aw aR (ab (ae 0) (ab (eK (.lv [.int 1,.int 1,.int 2,.int 2,.int 3,.int 4,.int 6])) ah))) ah))))
  (av (aZ 5 (aw eC (ab (ae 0) (ab (eK (.int 3)) ah))))
  (av (aZ 6 (eR (bD [none,some 0] (cZ (ae 4)) (gN 0) bS (aw aR (ab (ae 1) (ab (eK (.lv [.int 0,.int 1,.int 1,.int 2,.int 2,.int 3])) ah))))))
  (av (aZ 7 (aw E4 (ab (eR (bD [none,some 3,some 0] (cZ (ae 4)) (gN 0) bS (aw aE (ab (ae 2) (ab (aw cx (ab (ae 1) ah)) ah))))) ah)))
  (av (aZ 5 (eR (bD [none,some 5] (cZ (ae 6)) (gN 0) bS (yI (ae 1) IF (IG (ae 0))))))
  (aX (Aj (iE (eK (.str "names")) (ae 3) (iE (eK (.str "deeds")) (ae 4) (iE (eK (.str "params")) (ae 5) (iE (eK (.str "floors")) (ae 7) (iE (eK (.str "left")) (ae 1) (iE (eK (.str "odd")) (ae 2) Kp))))))))))))))
abbrev il:Stmt:=top 44
abbrev iw:List Str:=["_law_state","_law_world_here"]
theorem rh:aD ["_law_state","_law_world_here"] iw (ax il):=by walk_at "s"
noncomputable def dB:Fn:=ju 2
  (aX (kR (ay CL (ay aY (ae 1) (eK (.str "odd"))) (eK (.int 0))) (ay bY (aw aE (ab (ae 0) (ab (ay aY (ae 1) (eK (.str "odd"))) ah))) (eK (.int 0)))))
abbrev jF:Stmt:=top 45
abbrev jR:List Str:=["_law_state","_law_params"]
theorem mM:aD ["_law_state","_law_params","_law_far"] jR (ax jF):=by walk_at "s"
noncomputable def bZ:Fn:=ju 3
  (av (aZ 2 (ay wZ (aw aE (ab (ae 0) (ab (eK (.int 81)) ah))) (eK (.int 40))))
  (av (fb (mE (aM (ay CL (aw cx (ab (ae 1) ah)) (eK (.int 0)))) (aM (ay CL (aw aE (ab (ae 0) (ab (eK (.int 5)) ah))) (eK (.int 0))))) (aX (aw aV (ab (aw aR (ab (ae 0) (ab (ae 1) ah))) (ab (aw aR (ab (ae 0) (ab (eR (ab (eK (.int 0)) (ab (eK (.int 0)) (ab (eK (.int 0)) (ab (eK (.int 0)) (ab (eK (.int 1)) (ab (eK (.int 1)) (ab (Bn vI (eK (.int 1))) (ab (eK (.int 2)) (ab (ae 2) ah)))))))))) ah))) ah)))) bM)
  (aX (aw aV (ab (eK (.str "")) (ab (aw aR (ab (ae 0) (ab (eR (ab (eK (.int 0)) (ab (eK (.int 0)) (ab (eK (.int 1)) (ab (eK (.int 1)) (ab (eK (.int 2)) (ab (eK (.int 3)) (ab (Bn vI (eK (.int 1))) (ab (ae 2) ah))))))))) ah))) ah))))))
abbrev jK:Stmt:=top 47
abbrev jV:List Str:=["_law_state","_law_world_here","_law_deed","_law_top"]
theorem fm:aD ["_law_state","_law_world_here","_law_deed","_law_top","_law_some","_law_other","_law_terms"] jV (ax jK):=by walk_at "s"
noncomputable def gd:Fn:=ju 7
  (av (aZ 4 (eR (bD [none,some 2,some 3,some 1] (iI (ab (aw cx (ab (ay aY (ae 1) (eK (.str "deeds"))) ah)) ah)) (gN 0) (mE (aM (ay CL (ay aY (ay aY (ae 3) (eK (.str "floors"))) (ae 0)) (ae 2))) (aM (ay M9 (ae 0) (ae 1)))) (ae 0))))
  (av (fb (dW (aw dB (ab (ae 0) (ab (ae 1) ah)))) (aZ 4 (eR (Lz (ab (aw cx (ab (ay aY (ae 1) (eK (.str "deeds"))) ah)) ah)))) bM)
  (av (fb (aM (ay bY (ae 4) (eR ah))) (aX (aw aV (ab (eK (.str "say")) (ab (ay aY (ay aY (ae 1) (eK (.str "deeds"))) (ae 2)) ah)))) bM)
  (av (aZ 5 (aw aR (ab (ae 0) (ab (ae 4) ah))))
  (av (aZ 6 (eR (bD [none,some 2,some 0,some 1] (cZ (ay aY (ay aY (ae 1) (eK (.str "params"))) (ae 5))) (gN 0) bS (aw bZ (ab (ae 2) (ab (ay aY (ay aY (ae 3) (eK (.str "params"))) (ae 1)) ah))))))
  (aX (aw aV (ab (eK (.str "call")) (ab (ay aY (ay aY (ae 1) (eK (.str "deeds"))) (ae 5)) (ab (aw ck (ab (ae 6) ah)) ah))))))))))
abbrev jI:Stmt:=top 46
abbrev jT:List Str:=["_law_state","_law_world_here","_law_deed","_law_top","_law_held"]
theorem cF:aD ["_law_state","_law_world_here","_law_deed","_law_top","_law_held","_law_low","_law_at","_law_name","_law_same_here","_law_word","_law_more"] jT (ax jI):=by walk_at "s"
noncomputable def eZ:Fn:=ju 11
  (av (aZ 5 (aw xf (ab (ae 3) (ab (ay aY (ay aY (ae 1) (eK (.str "floors"))) (ae 2)) ah))))
  (av (fb (aM (ay bY (ae 5) (aw cx (ab (ay aY (ae 1) (eK (.str "names"))) ah)))) (aX (aw aV (ab (eK .cC) (ab (eK .cC) ah)))) bM)
  (av (aZ 6 (ay br (ae 5) (aw aE (ab (ae 0) (ab (ay wZ (aw cx (ab (ay aY (ae 1) (eK (.str "names"))) ah)) (ae 5)) ah)))))
  (av (fb (dW (aw dB (ab (ae 0) (ab (ae 1) ah)))) (aZ 6 (aw aE (ab (ae 0) (ab (aw cx (ab (ay aY (ae 1) (eK (.str "names"))) ah)) ah)))) bM)
  (av (aZ 7 (ay aY (ay aY (ae 1) (eK (.str "names"))) (ae 6)))
  (av (aZ 8 (eR (bD [none,some 7] (cZ (ae 4)) (gN 0) (aM (ay bY (ay aY (ae 0) (eK (.int 0))) (ae 1))) (ay aY (ae 0) (eK (.int 1))))))
  (av (fb (mE (aM (ay nr (ae 8) (eR ah))) (eI (dW (aw dB (ab (ae 0) (ab (ae 1) ah)))))) (av (lH (ay aY (ae 8) (Bn vI (eK (.int 1)))) (gT 2 (aN (gN 9) (aN (gN 10) dE))))
  (aX (aw aV (ab (ae 6) (ab (aw aV (ab (ae 7) (ab (aw aV (ab (ae 9) (ab (aw E5 (ab (eK (.int 99)) (ab (ay br (ay br (ae 10) (eK (.int 1))) (aw aE (ab (ae 0) (ab (eK (.int 2)) ah)))) ah))) ah))) ah))) ah))))) bM)
  (aX (aw aV (ab (ae 6) (ab (aw aV (ab (ae 7) (ab (aw bZ (ab (ae 0) (ab (ay aY (ay aY (ae 1) (eK (.str "params"))) (ae 2)) ah))) ah))) ah)))))))))))
abbrev lG:Stmt:=top 51
abbrev fO:List Str:=["_law_state","_law_world_here","_law_deed","_law_deep","_law_top","_law_held","_law_most"]
theorem jy:aD ["_law_state","_law_world_here","_law_deed","_law_deep","_law_top","_law_held","_law_most","_law_rows","_law_k"] fO (ax lG):=by walk_at "s"
abbrev lF:Stmt:=top 50
abbrev fN:List Str:=["_law_state","_law_world_here","_law_deed","_law_deep","_law_top","_law_held"]
theorem dP:aD ["_law_state","_law_world_here","_law_deed","_law_deep","_law_top","_law_held","_law_way","_law_one","_law_other","_law_lots","_law_sort"] fN (ax lF):=by walk_at "s"
abbrev ik:Stmt:=top 49
abbrev du:List Str:=["_law_state","_law_world_here","_law_deed","_law_deep","_law_top","_law_held","_law_way"]
theorem bj:aD ["_law_state","_law_world_here","_law_deed","_law_deep","_law_top","_law_held","_law_way","_law_at","_law_lock_here","_law_some","_law_high","_law_turn","_law_low","_law_other","_law_lot_here"] du (ax ik):=by walk_at "s"
abbrev gn:Stmt:=top 48
abbrev cB:List Str:=["_law_state","_law_world_here","_law_deed","_law_deep","_law_top","_law_held"]
theorem bw:aD ["_law_state","_law_world_here","_law_deed","_law_deep","_law_top","_law_held","_law_low","_law_name","_law_one","_law_other","_law_lots","_law_first","_law_second","_law_inner"] cB (ax gn):=by walk_at "s"
mutual
noncomputable def bN:Nat->Fn
 | 0=>fun _ _=>none
 | n+1=>EE 9
  (av (aZ 7 (sE ah))
  (av (fL (iI (ab (aw aE (ab (ae 0) (ab (ay br (aw aR (ab (ae 0) (ab (ay br (ay HF (eR (ab (ae 6) ah)) (eK (.int 15))) (eR (ab (eK (.int 12)) ah))) ah))) (eK (.int 1))) ah))) ah)) (gN 8) (fb (aM (ay CL (ay aY (ae 1) (eK (.str "left"))) (eK (.int 0)))) (av (lH (ay wZ (ay aY (ae 1) (eK (.str "left"))) (eK (.int 1))) (ua (ae 1) (eK (.str "left"))))
  (ft (eM bU di (ae 7) (ab (aw (fT n) (ab (ae 0) (ab (ae 1) (ab (ae 2) (ab (ae 3) (ab (ae 4) (ab (ae 5) ah))))))) ah)))) bM))
  (aX (aw ck (ab (ae 7) ah)))))
noncomputable def fT:Nat->Fn
 | 0=>fun _ _=>none
 | n+1=>ju 11
  (av (aZ 6 (aw aE (ab (ae 0) (ab (eK (.int 16)) ah))))
  (av (fb (qv (aM (ay Le (ae 6) (eK (.int 2)))) (mE (aM (ay bY (ae 3) (eK (.int 5)))) (aM (ay Le (ae 6) (eK (.int 11)))))) (aX (aw aV (ab (eK (.str "say")) (ab (aw aR (ab (ae 0) (ab (ay br (ay aY (ae 1) (eK (.str "names"))) (ay aY (ae 1) (eK (.str "deeds")))) ah))) ah)))) bM)
  (av (fb (qv (aM (ay CL (ae 6) (eK (.int 12)))) (aM (ay bY (ae 3) (eK (.int 5))))) (aX (aw gd (ab (ae 0) (ab (ae 1) (ab (ae 2) (ab (ae 4) ah)))))) bM)
  (av (fb (mE (aM (ay bY (ae 6) (eK (.int 12)))) (mE (aM (ay Le (ae 3) (eK (.int 3)))) (aM (ay CL (ay aY (ae 1) (eK (.str "left"))) (eK (.int 5)))))) (aX (aw (cE n) (ab (ae 0) (ab (ae 1) (ab (ae 2) (ab (ae 3) (ab (ae 4) (ab (ae 5) ah)))))))) bM)
  (av (fb (qv (aM (ay bY (ae 6) (eK (.int 11)))) (aM (ay bY (ae 6) (eK (.int 12))))) (av (DU 7 8 (ab (aw bZ (ab (ae 0) (ab (ay aY (ay aY (ae 1) (eK (.str "params"))) (ae 2)) ah))) (ab (aw bZ (ab (ae 0) (ab (ay aY (ay aY (ae 1) (eK (.str "params"))) (ae 2)) ah))) ah)))
  (av (aZ 9 (eR (bD [none,some 2,some 3,some 5,some 0,some 4,some 1] (iI (ab (eK (.int 3)) ah)) (gN 0) bS (aw (bN n) (ab (ae 4) (ab (ae 6) (ab (ae 1) (ab (ay br (ae 2) (eK (.int 1))) (ab (ae 5) (ab (ae 3) (ab (eK (.int 2)) ah)))))))))))
  (aX (ay br (aw aV (ab (eK (.str "by")) (ab (ae 7) (ab (ae 8) ah)))) (aw ck (ab (ae 9) ah)))))) bM)
  (av (fb (aM (ay bY (ae 6) (eK (.int 10)))) (av (aZ 9 (eR (bD [none,some 2,some 3,some 5,some 0,some 4,some 1] (iI (ab (eK (.int 2)) ah)) (gN 0) bS (aw (bN n) (ab (ae 4) (ab (ae 6) (ab (ae 1) (ab (ay br (ae 2) (eK (.int 1))) (ab (ae 5) (ab (ae 3) (ab (eK (.int 2)) ah)))))))))))
  (aX (ay br (aw aV (ab (eK (.str "either")) ah)) (aw ck (ab (ae 9) ah))))) bM)
  (av (fb (aM (ay bY (ae 6) (eK (.int 9)))) (aX (aw aV (ab (eK (.str "again")) (ab (aw (bN n) (ab (ae 0) (ab (ae 1) (ab (ae 2) (ab (ay br (ae 3) (eK (.int 1))) (ab (ae 4) (ab (ae 5) (ab (eK (.int 2)) ah)))))))) ah)))) bM)
  (av (aZ 10 (aw aR (ab (ae 0) (ab (eK (.lv [.str "within",.str "within",.str "within",.str "within",.str "ask",.str "all"])) ah))))
  (aX (aw (dA n) (ab (ae 0) (ab (ae 1) (ab (ae 2) (ab (ae 3) (ab (ae 4) (ab (ae 5) (ab (ae 10) ah)))))))))))))))))
noncomputable def dA:Nat->Fn
 | 0=>fun _ _=>none
 | n+1=>EE 15
  (av (lH (aw eZ (ab (ae 0) (ab (ae 1) (ab (ae 2) (ab (ae 4) (ab (ae 5) ah)))))) (gT 2 (aN (gN 7) (aN (gN 8) dE))))
  (av (fb (aM (ay CK (ae 7) (eK .cC))) (aX (aw aV (ab (eK (.str "say")) (ab (ay aY (ay aY (ae 1) (eK (.str "deeds"))) (ae 2)) ah)))) bM)
  (av (fb (aM (ay bY (ae 6) (eK (.str "all")))) (av (DU 9 10 (ab (sE (ab (ae 8) ah)) (ab (ae 7) ah)))
  (av (fL (iI (ab (aw aR (ab (ae 0) (ab (eK (.lv [.int 1,.int 1,.int 2,.int 3])) ah))) ah)) (gN 11) (av (lH (aw eZ (ab (ae 0) (ab (ae 1) (ab (ae 2) (ab (ae 4) (ab (ae 5) ah)))))) (gT 2 (aN (gN 12) (aN (gN 13) dE))))
  (av (aZ 10 (aw xf (ab (ae 10) (ab (ae 12) ah))))
  (aZ 9 (sE (LA (ae 9) (ay HF (eR (ab (ae 13) ah)) (aw yE (ab (ay fR (ae 13) (ae 9)) ah)))))))))
  (av (fb (aM (ay bY (aw cx (ab (ae 9) ah)) (eK (.int 1)))) (ft (eM bU di (ae 9) (ab (aw aV (ab (ay aY (ae 8) (eK (.int 0))) (ab (aw aV (ab (ay aY (ay aY (ae 8) (eK (.int 1))) (eK (.int 0))) (ab (ay wZ (ay br (ay aY (ay aY (ae 8) (eK (.int 1))) (eK (.int 1))) (eK (.int 1))) (ay j8 (eK (.int 2)) (aw yE (ab (ay CL (ay aY (ay aY (ae 8) (eK (.int 1))) (eK (.int 1))) (eK (.int 90))) ah)))) ah))) ah))) ah))) bM)
  (av (aZ 10 (ay br (ae 10) (aw yE (ab (ay bY (ay aY (ae 1) (eK (.str "odd"))) (eK (.int 0))) ah))))
  (aX (aw aV (ab (eK (.str "all")) (ab (aw ck (ab (ae 9) ah)) (ab (aw (bN n) (ab (ae 0) (ab (ae 1) (ab (ae 2) (ab (ay br (ae 3) (eK (.int 1))) (ab (aw xf (ab (ae 4) (ab (ae 10) ah))) (ab (ay br (ae 5) (ae 9)) (ab (eK (.int 3)) ah)))))))) ah))))))))) bM)
  (av (aZ 14 (aw (bN n) (ab (ae 0) (ab (ae 1) (ab (ae 2) (ab (ay br (ae 3) (eK (.int 1))) (ab (aw xf (ab (ae 4) (ab (ae 7) ah))) (ab (ay br (ae 5) (eR (ab (ae 8) ah))) (ab (eK (.int 3)) ah)))))))))
  (av (fb (aM (ay bY (ae 6) (eK (.str "ask")))) (aX (aw aV (ab (eK (.str "ask")) (ab (ae 8) (ab (ae 14) (ab (aw (bN n) (ab (ae 0) (ab (ae 1) (ab (ae 2) (ab (ay br (ae 3) (eK (.int 1))) (ab (ae 4) (ab (ae 5) (ab (eK (.int 2)) ah)))))))) ah)))))) bM)
  (aX (aw aV (ab (eK (.str "within")) (ab (ae 8) (ab (ae 14) ah))))))))))
noncomputable def cE:Nat->Fn
 | 0=>fun _ _=>none
 | n+1=>EE 14
  (av (aZ 6 (aw xf (ab (ae 4) (ab (ay aY (ay aY (ae 1) (eK (.str "floors"))) (ae 2)) ah))))
  (av (fb (aM (ay bY (ae 6) (aw cx (ab (ay aY (ae 1) (eK (.str "names"))) ah)))) (aX (aw aV (ab (eK (.str "say")) (ab (ay aY (ay aY (ae 1) (eK (.str "deeds"))) (ae 2)) ah)))) bM)
  (av (fb (aM (ay nr (eR (bD [none,some 6,some 1] (cZ (ae 5)) (gN 0) (aM (ay bY (ay aY (ae 0) (eK (.int 0))) (ay aY (ay aY (ae 2) (eK (.str "names"))) (ae 1)))) (ae 0))) (eR ah))) (aX (aw aV (ab (eK (.str "say")) (ab (ay aY (ay aY (ae 1) (eK (.str "deeds"))) (ae 2)) ah)))) bM)
  (av (aZ 7 (ay aY (ay aY (ae 1) (eK (.str "names"))) (ae 6)))
  (av (lH (ay wZ (ay aY (ae 1) (eK (.str "left"))) (eK (.int 5))) (ua (ae 1) (eK (.str "left"))))
  (av (DU 8 9 (ab (aw bZ (ab (ae 0) (ab (ay aY (ay aY (ae 1) (eK (.str "params"))) (ae 2)) ah))) (ab (aw bZ (ab (ae 0) (ab (ay aY (ay aY (ae 1) (eK (.str "params"))) (ae 2)) ah))) ah)))
  (av (aZ 10 (sE ah))
  (av (fL (cZ (eR (ab (aw aV (ab (ae 8) (ab (ae 9) ah))) (ab (aw aV (ab (ae 9) (ab (ae 8) ah))) ah)))) (gT 2 (aN (gN 11) (aN (gN 12) dE))) (av (aZ 13 (aw (bN n) (ab (ae 0) (ab (ae 1) (ab (ae 2) (ab (ay br (ae 3) (eK (.int 3))) (ab (ae 6) (ab (ay br (ae 5) (eR (ab (aw aV (ab (ae 7) (ab (ae 11) ah))) (ab (aw aV (ab (ae 7) (ab (ae 12) ah))) ah)))) (ab (eK (.int 2)) ah)))))))))
  (ft (eM bU di (ae 10) (ab (aw aV (ab (aw aV (ab (eK (.str "within")) (ab (aw aV (ab (ae 7) (ab (ae 11) ah))) (ab (aw aV (ab (aw aV (ab (eK (.str "within")) (ab (aw aV (ab (ae 7) (ab (ae 12) ah))) (ab (ae 13) ah)))) ah)) ah)))) ah)) ah)))))
  (aX (aw aV (ab (eK (.str "by")) (ab (ae 8) (ab (ae 9) (ab (ay aY (ae 10) (eK (.int 0))) (ab (aw aV (ab (aw aV (ab (eK (.str "within")) (ab (aw aV (ab (ae 7) (ab (ae 8) ah))) (ab (aw aV ah) ah)))) ah)) (ab (ay aY (ae 10) (eK (.int 1))) ah))))))))))))))))
end
abbrev gK:Stmt:=top 52
abbrev gQ:List Str:=["_law_state","_law_most","_law_odd"]
theorem cA:aD ["_law_state","_law_most","_law_odd","_law_world_here","_law_deeds","_law_k","_law_deed","_law_rows"] gQ (ax gK):=by walk_at "s"
noncomputable def fC:Fn:=EE 8
  (av (aZ 3 (aw gC (ab (ae 0) (ab (ae 1) (ab (ae 2) ah)))))
  (av (aZ 4 (sE ah))
  (av (fL (sr (ab (ay aY (ae 3) (eK (.str "deeds"))) ah)) (gT 2 (aN (gN 5) (aN (gN 6) dE))) (av (aZ 7 (aw (bN 20) (ab (ae 0) (ab (ae 3) (ab (ae 5) (ab (eK (.int 1)) (ab (Bn vI (eK (.int 1))) (ab (eR ah) (ab (aw aR (ab (ae 0) (ab (eK (.lv [.int 1,.int 2,.int 3,.int 4,.int 12])) ah))) ah)))))))))
  (ft (eM bU di (ae 4) (ab (aw aV (ab (ae 6) (ab (aw ck (ab (ay aY (ay aY (ae 3) (eK (.str "params"))) (ae 5)) ah)) (ab (ae 7) ah)))) ah)))))
  (aX (aw aV (ab (aw ck (ab (aw E3 (ab (ay aY (ae 3) (eK (.str "names"))) ah)) ah)) (ab (aw ck (ab (ae 4) ah)) ah)))))))
abbrev ip:Stmt:=top 54
abbrev eJ:List Str:=["_law_thing","_law_names"]
theorem fk:aD ["_law_thing","_law_names","_law_some","_law_one"] eJ (ax ip):=by walk_at "s"
noncomputable def aJ:Nat->Fn
 | 0=>fun _ _=>none
 | n+1=>ju 4
  (av (fb (eI (dW (aw gq (ab (ae 0) (ab (eK (.ty "tuple")) ah))))) (aX (eR ah)) bM)
  (av (aZ 2 (eR ah))
  (av (fb (mE (aM (ay bY (aw cx (ab (ae 0) ah)) (eK (.int 3)))) (mE (aM (ay bY (ay aY (ae 0) (eK (.int 0))) (eK (.str "call")))) (dW (aw gq (ab (ay aY (ae 0) (eK (.int 2))) (ab (eK (.ty "tuple")) ah)))))) (aX (eR (ab (eM bU qI (ae 1) (ab (ay aY (ae 0) (eK (.int 1))) ah)) ah))) bM)
  (av (fL (cZ (ae 0)) (gN 3) (aZ 2 (ay br (ae 2) (aw (aJ n) (ab (ae 3) (ab (ae 1) ah))))))
  (aX (ae 2))))))
abbrev ij:Stmt:=top 5
abbrev iu:List Str:=["thing","many"]
theorem rg:aD ["thing","many"] iu (ax ij):=by walk_at "s"
noncomputable def cv:Fn:=ju 2
  (aX (kR (aw gq (ab (ae 0) (ab (eK (.ty "tuple")) ah))) (ay bY (aw cx (ab (ae 0) ah)) (ae 1))))
abbrev ox:Stmt:=top 6
abbrev oO:List Str:=["thing"]
theorem zq:aD ["thing"] oO (ax ox):=by walk_at "s"
noncomputable def gF:Fn:=ju 1
  (av (fb (qv (eI (dW (aw gq (ab (ae 0) (ab (eK (.ty "str")) ah))))) (eI (aM (gS za za (eK (.int 1)) (aw cx (ab (ae 0) ah)) (eK (.int 8)))))) (aX (eK (.bl false))) bM)
  (aX (aw qo (ab (eR (bD [none] (HD (ae 0)) (gN 0) bS (ay yF (ae 0) (eK (.str "abcdefghijklmnopqrstuvwxyz"))))) ah))))
abbrev eP:Stmt:=top 20
abbrev eQ:List Str:=["thing","least","most"]
theorem kO:aD ["thing","least","most"] eQ (ax eP):=by walk_at "s"
noncomputable def bT:Fn:=ju 3
  (av (fb (qv (eI (dW (aw gq (ab (ae 0) (ab (eK (.ty "tuple")) ah))))) (eI (aM (gS za za (ae 1) (aw cx (ab (ae 0) ah)) (ae 2))))) (aX (eK (.bl false))) bM)
  (aX (kR (aw qo (ab (eR (bD [none] (cZ (ae 0)) (gN 0) bS (aw gF (ab (ae 0) ah)))) ah)) (ay bY (ny (ae 0)) (aw cx (ab (ae 0) ah))))))
abbrev jE:Stmt:=top 22
abbrev jQ:List Str:=["deeds"]
theorem vS:aD ["deeds"] jQ (ax jE):=by walk_at "s"
noncomputable def ie:Fn:=ju 1
  (av (fb (qv (eI (dW (aw gq (ab (ae 0) (ab (eK (.ty "tuple")) ah))))) (eI (dW (aw qo (ab (eR (bD [none] (cZ (ae 0)) (gN 0) bS (aw cv (ab (ae 0) (ab (eK (.int 3)) ah))))) ah))))) (aX (eK (.bl false))) bM)
  (av (fb (eI (dW (aw bT (ab (aw ck (ab (eR (bD [none] (cZ (ae 0)) (gN 0) bS (ay aY (ae 0) (eK (.int 0))))) ah)) (ab (eK (.int 1)) (ab (eK (.int 6)) ah)))))) (aX (eK (.bl false))) bM)
  (aX (aw qo (ab (eR (bD [none] (cZ (ae 0)) (gN 0) bS (aw bT (ab (ay aY (ae 0) (eK (.int 1))) (ab (eK (.int 0)) (ab (eK (.int 3)) ah)))))) ah)))))
abbrev jC:Stmt:=top 21
abbrev jO:List Str:=["thing"]
theorem vQ:aD ["thing"] jO (ax jC):=by walk_at "s"
noncomputable def ib:Fn:=ju 1
  (aX (kR (aw bT (ab (ae 0) (ab (eK (.int 1)) (ab (eK (.int 6)) ah)))) (ay bY (eR (k6 (ab (ae 0) ah))) (aw xa (ab (ae 0) ah)))))
abbrev lC:Stmt:=top 4
abbrev lT:List Str:=["thing"]
theorem xP:aD ["thing"] lT (ax lC):=by walk_at "s"
noncomputable def mx:Fn:=ju 1
  (aX (kR (aw gq (ab (ae 0) (ab (eK (.ty "int")) ah))) (HP (aw gq (ab (ae 0) (ab (eK (.ty "bool")) ah))))))
abbrev oy:Stmt:=top 7
abbrev oP:List Str:=["thing","params"]
theorem lu:aD ["thing","params","word","figure"] oP (ax oy):=by walk_at "s"
noncomputable def eY:Fn:=ju 4
  (av (fb (eI (dW (aw cv (ab (ae 0) (ab (eK (.int 2)) ah))))) (aX (eK (.bl false))) bM)
  (av (lH (ae 0) (gT 2 (aN (gN 2) (aN (gN 3) dE))))
  (av (fb (qv (eI (dW (aw gq (ab (ae 2) (ab (eK (.ty "str")) ah))))) (eI (dW (aw mx (ab (ae 3) ah))))) (aX (eK (.bl false))) bM)
  (aX (kR (OU (ay bY (ae 2) (eK (.str ""))) (ay yF (ae 2) (ae 1))) (gS za za (Bn vI (eK (.int 99))) (ae 3) (eK (.int 99))))))))
abbrev oA:Stmt:=top 24
abbrev oR:List Str:=["deed","terms","counts","params"]
theorem zr:aD ["deed","terms","counts","params"] oR (ax oA):=by walk_at "s"
noncomputable def kN:Fn:=ju 4
  (av (fb (qv (eI (dW (aw gF (ab (ae 0) ah)))) (qv (aM (ay fR (ae 0) (ae 2))) (eI (dW (aw cv (ab (ae 1) (ab (ay aY (ae 2) (ae 0)) ah))))))) (aX (eK (.bl false))) bM)
  (aX (aw qo (ab (eR (bD [none,some 3] (cZ (ae 1)) (gN 0) bS (aw eY (ab (ae 0) (ab (ae 1) ah))))) ah))))
abbrev oz:Stmt:=top 8
abbrev oQ:List Str:=["thing","names","params"]
theorem lx:aD ["thing","names","params","name","term"] oQ (ax oz):=by walk_at "s"
noncomputable def iS:Fn:=ju 5
  (av (fb (eI (dW (aw cv (ab (ae 0) (ab (eK (.int 2)) ah))))) (aX (eK (.bl false))) bM)
  (av (lH (ae 0) (gT 2 (aN (gN 3) (aN (gN 4) dE))))
  (aX (kR (aw gq (ab (ae 3) (ab (eK (.ty "str")) ah))) (kR (ay yF (ae 3) (ae 1)) (aw eY (ab (ae 4) (ab (ae 2) ah))))))))
abbrev jD:Stmt:=top 23
abbrev jP:List Str:=["thing","names","params"]
theorem vR:aD ["thing","names","params"] jP (ax jD):=by walk_at "s"
noncomputable def ic:Fn:=ju 3
  (av (fb (qv (eI (dW (aw gq (ab (ae 0) (ab (eK (.ty "tuple")) ah))))) (eI (aM (gS za za (eK (.int 2)) (aw cx (ab (ae 0) ah)) (eK (.int 4)))))) (aX (eK (.bl false))) bM)
  (aX (kR (aw qo (ab (eR (bD [none,some 1,some 2] (cZ (ae 0)) (gN 0) bS (aw iS (ab (ae 0) (ab (ae 1) (ab (ae 2) ah)))))) ah)) (ay bY (ny (ae 0)) (aw cx (ab (ae 0) ah))))))
abbrev fK:Stmt:=top 26
abbrev fM:List Str:=["row","names","counts","params"]
theorem g7:aD ["row","names","counts","params","sort"] fM (ax fK):=by walk_at "s"
noncomputable def eB:Fn:=ju 5
  (av (aZ 4 (ay aY (ae 0) (eK (.int 0))))
  (av (fb (aM (ay bY (ae 4) (eK (.str "say")))) (aX (aw gF (ab (ay aY (ae 0) (eK (.int 1))) ah))) bM)
  (av (fb (aM (ay bY (ae 4) (eK (.str "call")))) (aX (aw kN (ab (ay aY (ae 0) (eK (.int 1))) (ab (ay aY (ae 0) (eK (.int 2))) (ab (ae 2) (ab (ae 3) ah)))))) bM)
  (av (fb (aM (ay bY (ae 4) (eK (.str "all")))) (aX (aw ic (ab (ay aY (ae 0) (eK (.int 1))) (ab (ae 1) (ab (ae 3) ah))))) bM)
  (av (fb (aM (ay yF (ae 4) (aw aV (ab (eK (.str "within")) (ab (eK (.str "ask")) ah))))) (aX (aw iS (ab (ay aY (ae 0) (eK (.int 1))) (ab (ae 1) (ab (ae 3) ah))))) bM)
  (av (fb (aM (ay bY (ae 4) (eK (.str "by")))) (aX (kR (aw eY (ab (ay aY (ae 0) (eK (.int 1))) (ab (ae 3) ah))) (aw eY (ab (ay aY (ae 0) (eK (.int 2))) (ab (ae 3) ah))))) bM)
  (aX (eK (.bl true)))))))))
abbrev jB:Stmt:=top 25
abbrev jN:List Str:=["row"]
theorem iX:aD ["row","ahead","lots"] jN (ax jB):=by walk_at "s"
noncomputable def ia:Fn:=ju 3
  (av (fb (qv (eI (dW (aw gq (ab (ae 0) (ab (eK (.ty "tuple")) ah))))) (aM (ay bY (aw cx (ab (ae 0) ah)) (eK (.int 0))))) (aX (eK (.bl false))) bM)
  (av (fb (qv (eI (dW (aw gq (ab (ay aY (ae 0) (eK (.int 0))) (ab (eK (.ty "str")) ah))))) (aM (Bn (E2 gD) (ay aY (ae 0) (eK (.int 0)))))) (aX (eK (.bl false))) bM)
  (av (lH (Bn (HE gD) (ay aY (ae 0) (eK (.int 0)))) (gT 2 (aN (gN 1) (aN (gN 2) dE))))
  (aX (ay bY (aw cx (ab (ae 0) ah)) (ay br (ae 1) (ae 2)))))))
abbrev ow:Stmt:=top 19
abbrev oN:List Str:=["row"]
theorem zp:aD ["row"] oN (ax ow):=by walk_at "s"
noncomputable def gE:Fn:=ju 1
  (aX (yI (ae 0) (IG (ay aY (Bn (HE gD) (ay aY (ae 0) (eK (.int 0)))) (eK (.int 0)))) IF))
abbrev jz:Stmt:=top 27
abbrev f6:List Str:=["lot","deep","left","names","counts","params"]
theorem fh:aD ["lot","deep","left","names","counts","params","row","inner"] f6 (ax jz):=by walk_at "s"
noncomputable def c9:Nat->Fn
 | 0=>fun _ _=>none
 | n+1=>ju 8
  (av (fb (qv (aM (ay CL (ae 1) (eK (.int 5)))) (qv (eI (dW (aw gq (ab (ae 0) (ab (eK (.ty "tuple")) ah))))) (aM (ay CL (aw cx (ab (ae 0) ah)) (eK (.int 12)))))) (aX (eK .cC)) bM)
  (av (fL (cZ (ae 0)) (gN 6) (av (fb (qv (aM (ay bY (ae 2) (eK (.int 0)))) (qv (eI (dW (aw ia (ab (ae 6) ah)))) (eI (dW (aw eB (ab (ae 6) (ab (ae 3) (ab (ae 4) (ab (ae 5) ah))))))))) (aX (eK .cC)) bM)
  (av (DW 2 wZ (eK (.int 1)))
  (fL (cZ (aw gE (ab (ae 6) ah))) (gN 7) (av (aZ 2 (aw (c9 n) (ab (ae 7) (ab (ay br (ae 1) (eK (.int 1))) (ab (ae 2) (ab (ae 3) (ab (ae 4) (ab (ae 5) ah))))))))
  (fb (aM (ay CK (ae 2) (eK .cC))) (aX (eK .cC)) bM))))))
  (aX (ae 2))))
abbrev iZ:Stmt:=top 28
abbrev i9:List Str:=["thing"]
theorem bV:aD ["thing","names","deeds","counts","left","deed","params","rows"] i9 (ax iZ):=by walk_at "s"
noncomputable def gB:Fn:=ju 8
  (av (fb (eI (dW (aw cv (ab (ae 0) (ab (eK (.int 2)) ah))))) (aX (eK (.bl false))) bM)
  (av (lH (ae 0) (gT 2 (aN (gN 1) (aN (gN 2) dE))))
  (av (fb (qv (eI (dW (aw ib (ab (ae 1) ah)))) (eI (dW (aw ie (ab (ae 2) ah))))) (aX (eK (.bl false))) bM)
  (av (aZ 3 (IJ [none,none,none] (cZ (ae 2)) (gT 3 (aN (gN 0) (aN (gN 1) (aN (gN 2) dE)))) bS (mD (ae 0) (aw cx (ab (ae 1) ah))) [] .dv))
  (av (aZ 4 (eK (.int 60)))
  (av (fL (cZ (ae 2)) (gT 3 (aN (gN 5) (aN (gN 6) (aN (gN 7) dE)))) (av (aZ 4 (aw (c9 8) (ab (ae 7) (ab (eK (.int 1)) (ab (ae 4) (ab (ae 1) (ab (ae 3) (ab (ae 6) ah))))))))
  (fb (aM (ay CK (ae 4) (eK .cC))) (aX (eK (.bl false))) bM)))
  (aX (eK (.bl true)))))))))
abbrev jG:Stmt:=top 53
abbrev f7:List Str:=["_law_one","_law_two"]
theorem vT:aD ["_law_one","_law_two"] f7 (ax jG):=by walk_at "s"
noncomputable def dc:Nat->Fn
 | 0=>fun _ _=>none
 | n+1=>ju 2
  (av (fb (dW (aw gq (ab (ae 1) (ab (eK (.ty "tuple")) ah)))) (av (fb (qv (eI (dW (aw gq (ab (ae 0) (ab (eK (.ty "tuple")) ah))))) (aM (ay nr (aw cx (ab (ae 0) ah)) (aw cx (ab (ae 1) ah))))) (aX (eK (.bl false))) bM)
  (aX (aw qo (ab (eR (bD [none,none] (K8 (ab (ae 0) (ab (ae 1) ah))) (gT 2 (aN (gN 0) (aN (gN 1) dE))) bS (aw (dc n) (ab (ae 0) (ab (ae 1) ah))))) ah)))) bM)
  (av (fb (aM (ay CK (ae 1) (eK .cC))) (aX (ay CK (ae 0) (eK .cC))) bM)
  (av (fb (dW (aw gq (ab (ae 1) (ab (eK (.ty "str")) ah)))) (aX (kR (aw gq (ab (ae 0) (ab (eK (.ty "str")) ah))) (ay bY (ae 0) (ae 1)))) bM)
  (av (fb (dW (aw gq (ab (ae 1) (ab (eK (.ty "bool")) ah)))) (aX (kR (aw gq (ab (ae 0) (ab (eK (.ty "bool")) ah))) (ay bY (ae 0) (ae 1)))) bM)
  (aX (kR (aw gq (ab (ae 0) (ab (eK (.ty "int")) ah))) (kR (HP (aw gq (ab (ae 0) (ab (eK (.ty "bool")) ah)))) (ay bY (ae 0) (ae 1)))))))))
abbrev gJ:Stmt:=top 32
abbrev gP:List Str:=["program"]
theorem qb:aD ["program"] gP (ax gJ):=by walk_at "s"
noncomputable def dS:Fn:=ju 1
  (aX (IJ [none,none] (sr (ab (ay aY (ae 0) (eK (.int 1))) ah)) (gT 2 (aN (gN 0) (aN (gN 1) dE))) bS (mD (ay aY (ae 1) (eK (.int 0))) (ae 0)) [] .dv))
abbrev lE:Stmt:=top 33
abbrev lW:List Str:=["program","rows"]
theorem fY:aD ["program","rows","numbers","called","deed","row"] lW (ax lE):=by walk_at "s"
noncomputable def jl:Fn:=EE 6
  (av (aZ 2 (aw dS (ab (ae 0) ah)))
  (av (aZ 3 (eR (bD [none] (cZ (ay aY (ae 0) (eK (.int 1)))) (gN 0) bS (sE ah))))
  (av (fL (cZ (ae 1)) (gT 2 (aN (gN 4) (aN (gN 5) dE))) (fb (aM (ay bY (ay aY (ae 5) (eK (.int 0))) (eK (.str "call")))) (ft (eM bU di (ay aY (ae 3) (ae 4)) (ab (ay aY (ae 2) (ay aY (ae 5) (eK (.int 1)))) ah))) bM))
  (aX (aw ck (ab (eR (bD [none] (cZ (ae 3)) (gN 0) bS (aw ck (ab (gb (ae 0)) ah)))) ah))))))
abbrev ly:Stmt:=top 29
abbrev gO:List Str:=["lot","ahead"]
theorem dO:aD ["lot","ahead","found","number","row","path","at","inner"] gO (ax ly):=by walk_at "s"
noncomputable def dR:Nat->Fn
 | 0=>fun _ _=>none
 | n+1=>EE 8
  (av (aZ 2 (sE ah))
  (av (fL (sr (ab (ae 0) ah)) (gT 2 (aN (gN 3) (aN (gN 4) dE))) (av (aZ 5 (ay br (ae 1) (aw aV (ab (ae 3) ah))))
  (av (ft (eM bU di (ae 2) (ab (aw aV (ab (ae 5) (ab (ae 4) ah))) ah)))
  (fL (sr (ab (aw gE (ab (ae 4) ah)) ah)) (gT 2 (aN (gN 6) (aN (gN 7) dE))) (ft (eM bU fV (ae 2) (ab (aw (dR n) (ab (ae 7) (ab (ay br (ae 5) (aw aV (ab (ae 6) ah))) ah))) ah)))))))
  (aX (ae 2))))
abbrev jA:Stmt:=top 30
abbrev jM:List Str:=["program"]
theorem dY:aD ["program","found","deed","name","params","rows"] jM (ax jA):=by walk_at "s"
noncomputable def gc:Fn:=EE 6
  (av (aZ 1 (sE ah))
  (av (fL (sr (ab (ay aY (ae 0) (eK (.int 1))) ah)) (gT 2 (aN (gN 2) (aN (gT 3 (aN (gN 3) (aN (gN 4) (aN (gN 5) dE)))) dE))) (ft (eM bU fV (ae 1) (ab (eR (bD [none,none,some 2] (cZ (aw (dR 10) (ab (ae 5) (ab (aw aV ah) ah)))) (gT 2 (aN (gN 0) (aN (gN 1) dE))) bS (aw aV (ab (ae 2) (ab (ae 0) (ab (ae 1) ah)))))) ah))))
  (aX (ae 1))))
abbrev ou:Stmt:=top 31
abbrev oM:List Str:=["program"]
theorem zo:aD ["program"] oM (ax ou):=by walk_at "s"
noncomputable def iR:Fn:=ju 1
  (aX (aw ck (ab (eR (bD [none,none,none] (cZ (aw gc (ab (ae 0) ah))) (gT 3 (aN (gN 0) (aN (gN 1) (aN (gN 2) dE)))) bS (aw aV (ab (ae 0) (ab (ae 2) ah))))) ah)))
abbrev lD:Stmt:=top 34
abbrev lV:List Str:=["program"]
theorem xQ:aD ["program"] lV (ax lD):=by walk_at "s"
noncomputable def eV:Fn:=ju 1
  (aX (aw jl (ab (ae 0) (ab (aw iR (ab (ae 0) ah)) ah))))
abbrev oB:Stmt:=top 35
abbrev oU:List Str:=["calls","deed"]
theorem iY:aD ["calls","deed","found","ahead","other"] oU (ax oB):=by walk_at "s"
noncomputable def gG:Fn:=EE 5
  (av (aZ 2 (sE ah))
  (av (aZ 3 (sE (k6 (ab (ay aY (ae 0) (ae 1)) ah))))
  (av (iT (dW (ae 3)) (av (aZ 4 (eM bU EG (ae 3) ah))
  (fb (aM (ay fR (ae 4) (ae 2))) (av (ft (eM bU di (ae 2) (ab (ae 4) ah)))
  (ft (eM bU j4 (ae 3) (ab (ay aY (ae 0) (ae 4)) ah)))) bM)) 1000000)
  (aX (ae 2)))))
abbrev fq:Stmt:=top 36
abbrev fx:List Str:=["program"]
theorem gI:aD ["program","calls"] fx (ax fq):=by walk_at "s"
noncomputable def cM:Fn:=ju 2
  (av (aZ 1 (aw eV (ab (ae 0) ah)))
  (aX (aw E9 (ab (eR (bD [none,some 1] (iI (ab (aw cx (ab (ae 1) ah)) ah)) (gN 0) bS (ay yF (ae 0) (aw gG (ab (ae 1) (ab (ae 0) ah)))))) ah))))
abbrev pK:Stmt:=top 56
abbrev IE:List Str:=["_law_script"]
theorem gm:aD ["_law_script","_law_state","_law_k","_law_program_here","_law_names","_law_due","_law_far","_law_turn","_law_one","_law_other","_law_told"] IE (ax pK):=by walk_at "s"
noncomputable def BF:Fn:=ju 11
  (av (aZ 1 (aw fD (ab (ae 0) ah)))
  (av (fL (iI (ab (eK (.int 8)) ah)) (gN 2) (av (aZ 3 (aw fE (ab (ae 1) (ab (ay br (eK (.int 1)) (aw aE (ab (ae 1) (ab (eK (.int 6)) ah)))) ah))))
  (av (fb (aM (ay bY (aw aE (ab (ae 1) (ab (eK (.int 2)) ah))) (eK (.int 0)))) (aZ 3 (aw fC (ab (ae 1) (ab (aw aR (ab (ae 1) (ab (eR (ab (eK (.int 14)) (ab (eK (.int 60)) ah))) ah))) (ab (aw aR (ab (ae 1) (ab (eR (ab (eK (.int 0)) (ab (eK (.int 4)) ah))) ah))) ah))))) bM)
  (av (aZ 4 (eR (bD [none] (cZ (ay aY (ae 3) (eK (.int 1)))) (gN 0) bS (ay aY (ae 0) (eK (.int 0))))))
  (av (aZ 5 (eR (bD [none,some 4] (cZ (ay aY (ae 3) (eK (.int 1)))) (gN 0) bS (aw ck (ab (gb (aw (aJ 30) (ab (ay aY (ae 0) (eK (.int 2))) (ab (ae 1) ah)))) ah)))))
  (av (fb (qv (eI (dW (aw (dc 20) (ab (aw eV (ab (ae 3) ah)) (ab (aw ck (ab (ae 5) ah)) ah))))) (aM (ay II (aw gB (ab (ae 3) ah)) (eK (.bl true))))) (aX (eK (.bl false))) bM)
  (av (aZ 6 (eR (bD [none] (cZ (ae 5)) (gN 0) bS (sE (k6 (ab (ae 0) ah))))))
  (av (fL (iI (ab (aw cx (ab (ae 4) ah)) ah)) (gN 7) (fL (iI (ab (aw cx (ab (ae 4) ah)) ah)) (gN 8) (fL (cZ (eR (k6 (ab (ay aY (ae 6) (ae 8)) ah)))) (gN 9) (ft (eM bU fV (ay aY (ae 6) (ae 8)) (ab (eR (bD [none,some 6,some 8] (cZ (ay aY (ae 6) (ae 9))) (gN 0) (aM (ay fR (ae 0) (ay aY (ae 1) (ae 2)))) (ae 0))) ah))))))
  (av (aZ 10 (aw cM (ab (ae 3) ah)))
  (fb (qv (eI (dW (aw gq (ab (ae 10) (ab (eK (.ty "bool")) ah))))) (aM (ay nr (ae 10) (aw E9 (ab (eR (bD [none,some 6] (iI (ab (aw cx (ab (ae 4) ah)) ah)) (gN 0) bS (ay yF (ae 0) (ay aY (ae 1) (ae 0))))) ah))))) (aX (eK (.bl false))) bM))))))))))
  (aX (eK (.bl true)))))
section
variable (P:Program) (w:World) (K:FR) (mg:Str->Option Value) (base:Heap)
abbrev nS:Prop:=Df P w K mg base "_law_drawn" 1 jc 1 fD
abbrev p9:Prop:=Df P w K mg base "_law_load" 1 jU 1 ig
abbrev cu:Prop:=Df P w K mg base "_law_next" 2 jS 2 aE
abbrev eA:Prop:=Df P w K mg base "_law_of" 3 oV 2 aR
abbrev km:Prop:=Df P w K mg base "_law_calling" 4 gR 2 fE
abbrev nR:Prop:=Df P w K mg base "_law_words" 4 jb 2 eC
abbrev nQ:Prop:=Df P w K mg base "_law_world" 5 ja 3 gC
abbrev iA:Prop:=Df P w K mg base "_law_is_odd" 3 iw 2 dB
abbrev hZ:Prop:=Df P w K mg base "_law_term" 4 jR 2 bZ
abbrev qa:Prop:=Df P w K mg base "_law_call" 5 jV 4 gd
abbrev p8:Prop:=Df P w K mg base "_law_lock" 5 jT 5 eZ
abbrev tw:Prop:=Df P w K mg base "_law_lot" 26 fO 7 (bN 20)
abbrev AH:Prop:=Df P w K mg base "_law_row" 26 fN 6 (fT 20)
abbrev uo:Prop:=Df P w K mg base "_law_locked" 26 du 7 (dA 20)
abbrev qp:Prop:=Df P w K mg base "_law_two_ways" 26 cB 6 (cE 20)
abbrev kl:Prop:=Df P w K mg base "_law_program" 27 gQ 3 fC
abbrev k7:Prop:=Df P w K mg base "_law_called" 31 eJ 2 (aJ 30)
abbrev dw:Prop:=Df P w K mg base "is_tuple_of" 1 iu 2 cv
abbrev kK:Prop:=Df P w K mg base "is_word" 1 oO 1 gF
abbrev eU:Prop:=Df P w K mg base "are_unlike_words" 2 eQ 3 bT
abbrev p6:Prop:=Df P w K mg base "are_heads" 3 jQ 1 ie
abbrev p4:Prop:=Df P w K mg base "are_names" 3 jO 1 ib
abbrev tq:Prop:=Df P w K mg base "is_whole" 1 lT 1 mx
abbrev kM:Prop:=Df P w K mg base "is_term" 2 oP 2 eY
abbrev vE:Prop:=Df P w K mg base "is_call" 3 oR 4 kN
abbrev pF:Prop:=Df P w K mg base "is_lock" 3 oQ 3 iS
abbrev p5:Prop:=Df P w K mg base "are_locks" 4 jP 3 ic
abbrev iP:Prop:=Df P w K mg base "is_right_ahead" 5 fM 4 eB
abbrev pZ:Prop:=Df P w K mg base "is_shaped" 1 jN 1 ia
abbrev pE:Prop:=Df P w K mg base "lots_of" 1 oN 1 gE
abbrev pX:Prop:=Df P w K mg base "rows_left" 14 f6 6 (c9 8)
abbrev nP:Prop:=Df P w K mg base "is_program" 15 i9 1 gB
abbrev p7:Prop:=Df P w K mg base "_law_same" 21 f7 2 (dc 20)
abbrev kj:Prop:=Df P w K mg base "deed_numbers" 1 gP 1 dS
abbrev tu:Prop:=Df P w K mg base "calls_in" 2 lW 2 jl
abbrev tj:Prop:=Df P w K mg base "paths_in" 12 gO 2 (dR 10)
abbrev pY:Prop:=Df P w K mg base "places_of" 13 jM 1 gc
abbrev vD:Prop:=Df P w K mg base "rows_of" 14 oM 1 iR
abbrev mw:Prop:=Df P w K mg base "calls_of" 15 lV 1 eV
abbrev vF:Prop:=Df P w K mg base "come_to" 1 oU 2 gG
abbrev hY:Prop:=Df P w K mg base "comes_to_itself" 16 fx 1 cM
end
section
variable {P:Program} {w:World} {K:FR} {mg:Str->Option Value} {base:Heap}
theorem t7(F:gg K "_law_drawn" "_law_drawn" i6 f fd)(B:Bs P w K mg):bK P w K mg base fH 1 f fd jc (gh K 1 fD):=
 (a8 F tK fun cdv A outer s H E hr=>by(conv=>arg 2;whnf);with_reducible exact(ao (au (gW.ob (bE (aa aj (aa (gW.ob (mK (by unfold Gl;ac_nf) B.b4 kJ (aa (rf (sv 0) mI (mH aj)) af) (ag ak))) (aa aj af))) (ag (ag (ag ak))))))))
theorem wJ(F:gg K "_law_load" "_law_load" jJ f fd)(B:Bs P w K mg):bK P w K mg base fH 1 f fd jU (gh K 1 ig):=
 (a8 F dg fun cdv A outer s H E hr=>by(conv=>arg 2;whnf);with_reducible exact(ai (sset 1 dg.nd (six hr (sv 0) aj))
   (ai (sset 2 dg.nd (six hr (sv 0) aj))
   (ai (fI (aW aU (sv 2) aj) (ot hr.units (sv 0) aj))
   (ai (sset 3 dg.nd aj)
   (ai (a9 (aH (rW hr.units) (sv 1) (gW.lv (bE af ak)) (aC _)) (ao (sset 3 dg.nd (six hr (sv 1) (aW lX (sv 2) (dH bI B.b5 bJ (aa (sv 1) af)))))) aG)
   (ao (a9 (SW.st (iV (aH yf (sv 2) (dH bI B.b5 bJ (aa (sv 1) af)) (aC _)) (iU (aH IH (dH Fp B.b9 FJ (aa (sv 3) af)) (aW Ew aj aj) (aC _))))) (ao (fI (dH Fp B.b9 FJ (aa (sv 3) af)) (ot hr.units (sv 0) aj))) (ai (sset 4 dg.nd (aW lX (aW jd (aW aU (aW aU (aW lX (sv 3) aj) (aW jd (aW jd aj (sv 2)) (sv 2))) aj) aj) aj))
   (ai (sset 4 dg.nd (aW lX (aW jd (sv 4) (sv 4)) aj))
   (ao (fI (aW aU (aW lX (aW aU (aW aU (aW jd (sv 4) aj) (sv 2)) aj) aj) (aW Ew aj aj)) (ot hr.units (sv 0) aj)))))))))))))
theorem wH(F:gg K "_law_next" "_law_next" jH f fd)(B:Bs P w K mg)(d24:p9 P w K mg base):bK P w K mg base fH 2 f fd jS (gh K 2 aE):=
 (a8 F mN fun cdv A outer s H E hr=>by(conv=>arg 2;whnf);with_reducible exact(ai (a9 (aH yf (six hr (sv 0) aj) (sv 1) (aC _)) (ao (dC (bW d24 hr (aa (sv 0) af)))) aG)
   (ai (sset 2 mN.nd (aW lX (six hr (sv 0) aj) (sv 1)))
   (ai (fI (aW Kr (six hr (sv 0) aj) (sv 1)) (ot hr.units (sv 0) aj))
   (ao (au (sv 2)))))))
theorem zO(F:gg K "_law_of" "_law_of" oC f fd)(B:Bs P w K mg)(d25:cu P w K mg base):bK P w K mg base fH 3 f fd oV (gh K 2 aR):=
 (a8 F zt fun cdv A outer s H E hr=>by(conv=>arg 2;whnf);with_reducible exact(ao (au (six hr (sv 1) (bW d25 hr (aa (sv 0) (aa (dH bI B.b5 bJ (aa (sv 1) af)) af)))))))
theorem qj(F:gg K "_law_calling" "_law_calling" gL f fd)(B:Bs P w K mg)(d25:cu P w K mg base)(d26:eA P w K mg base):bK P w K mg base fH 4 f fd gR (gh K 2 fE):=
 fA (a8 F bu fun cdv A outer s H E hr=>by(conv=>arg 2;whnf);with_reducible exact(ai (sset 2 bu.nd (gW.ob (bE af ak)))
   (ai (de QN rfl (cb (by unfold Gl;ac_nf) B.b0 (aa (sv 1) af) (hl:=(ag ak))) (sgn 3 bu.nd) (ai (sset 4 bu.nd (gW.ob (bE af ak)))
   (ai (de QN rfl (cb (by unfold Gl;ac_nf) B.b0 (aa (bW d25 hr (aa (sv 0) (aa aj af))) af) (hl:=(ag ak))) (sgn 5 bu.nd) (ai (sset 6 bu.nd (az (aa ar (aa (six hr ar (bW d25 hr (aa (sv 0) (aa (sv 1) af)))) (aa (az af ak) af))) (ag (ag (ag ak)))))
   (ai (sset 7 bu.nd (az (aa ar (aa (az (aa ar (aa (az (aa ar (aa (sv 5) af)) (ag (ag ak))) af)) (ag (ag ak))) (aa (az (aa (sv 6) af) (ag ak)) af))) (ag (ag (ag ak)))))
   (ai (sset 8 bu.nd (az (aa ar (aa (az (aa ar (aa aj af)) (ag (ag ak))) (aa (az (aa ar (aa aj af)) (ag (ag ak))) (aa (az (aa (sv 6) af) (ag ak)) (aa (az af ak) (aa (az af ak) af)))))) (ag (ag (ag (ag (ag (ag ak))))))))
   (ai (sset 9 bu.nd (gW.lv (bE (aa (sv 6) (aa (sv 7) (aa (az (aa ar (aa (az (aa (sv 6) af) (ag ak)) af)) (ag (ag ak))) (aa (az (aa ar (aa (az af ak) (aa (az (aa (sv 6) af) (ag ak)) af))) (ag (ag (ag ak)))) (aa (az (aa ar (aa (six hr (sv 7) aj) (aa (az af ak) (aa (az (aa (sv 6) af) (ag ak)) af)))) (ag (ag (ag (ag ak))))) (aa (sv 8) af)))))) (ag (ag (ag (ag (ag (ag ak)))))))))
   (ai (sset 6 bu.nd (bW d26 hr (aa (sv 0) (aa (sv 9) af))))
   (ao (dC (mL (isT:=bU) eO QC QY Q7 dZ (sv 4) (aa (sv 6) af))))))))))
   (ao (dC (mL (isT:=bU) eO QC QY Q7 dZ (sv 2) (aa (az (aa (six hr ar (sv 3)) (aa (az af ak) (aa (vP cm B.b3 bg (aa (sv 4) af)) af))) (ag (ag (ag ak)))) af)))))))
   (ao (au (az (aa (az (aa ar af) (ag ak)) (aa (vP cm B.b3 bg (aa (sv 2) af)) af)) (ag (ag ak))))))))
theorem t6(F:gg K "_law_words" "_law_words" i5 f fd)(B:Bs P w K mg)(d26:eA P w K mg base)(d25:cu P w K mg base):bK P w K mg base fH 4 f fd jb (gh K 2 eC):=
 (a8 F cp fun cdv A outer s H E hr=>by(conv=>arg 2;whnf);with_reducible exact(ai (sset 2 cp.nd ar)
   (ai (sset 3 cp.nd ar)
   (ai (de QN rfl (cb (by unfold Gl;ac_nf) B.b0 (aa (bW d26 hr (aa (sv 0) (aa (fU 9 (by ac_nf)) af))) af) (hl:=(ag ak))) (sgn 4 cp.nd) (ao (sset 3 cp.nd (aW aU (sv 3) (six hr (sv 2) (bW d25 hr (aa (sv 0) (aa aj af))))))))
   (ai (sset 5 cp.nd (bW d25 hr (aa (sv 0) (aa (aW aU (dH bI B.b5 bJ (aa (sv 3) af)) aj) af))))
   (ai (sset 6 cp.nd (bW d25 hr (aa (sv 0) (aa aj af))))
   (ai (sset 7 cp.nd (bW d26 hr (aa (sv 0) (aa (fU 9 (by ac_nf)) af))))
   (ao (au (cf (N':=["_law_k","_law_at","_law_first","_law_letters","_law_stem","_law_stride"]) (caps:=[none,some 5,some 6,some 2,some 3,some 7]) (aL (by ac_nf)) rfl (cb (by unfold Gl;ac_nf) B.b0 (aa (sv 1) af) (hl:=(ag ak))) (fun _ _ _ _ _=>(sgn 0 (by show(["_law_k","_law_at","_law_first","_law_letters","_law_stem","_law_stride"]:List Str).Nodup;decide+kernel))) (fun _ _ _ _ _=>bx) (fun _ _ _ _ _=>(aW aU (aW aU (rf (sv 4) mI (mH (sv 1))) (six hr (sv 3) (aW lX (aW aU (sv 2) (aW jd (sv 5) (sv 0))) aj))) (rf (sv 4) (mH (sv 1)) mI)))))))))))))
theorem t5(F:gg K "_law_world" "_law_world" i0 f fd)(B:Bs P w K mg)(d27:nR P w K mg base)(d26:eA P w K mg base)(d25:cu P w K mg base):bK P w K mg base fH 5 f fd ja (gh K 3 gC):=
 (a8 F cO fun cdv A outer s H E hr=>by(conv=>arg 2;whnf);with_reducible exact(ai (sset 3 cO.nd (bW d27 hr (aa (sv 0) (aa (bW d26 hr (aa (sv 0) (aa (fU 9 (by ac_nf)) af))) af))))
   (ai (sset 4 cO.nd (bW d27 hr (aa (sv 0) (aa (bW d26 hr (aa (sv 0) (aa (fU 9 (by ac_nf)) af))) af))))
   (ai (sset 5 cO.nd (bW d27 hr (aa (sv 0) (aa aj af))))
   (ai (g6 (i:=6) cO.nd (by ac_nf) (by ac_nf) (N':=["_law_deed","_law_state"]) (caps:=[none,some 0]) (aL (by ac_nf)) rfl (bP (sv 4)) (fun _ _ _ _ _=>(sgn 0 (by show(["_law_deed","_law_state"]:List Str).Nodup;decide+kernel))) (fun _ _ _ _ _=>bx) (fun _ _ _ _ _=>(bW d26 hr (aa (sv 1) (aa (fU 9 (by ac_nf)) af)))))
   (ai (sset 7 cO.nd (dH Fm B.b1 pv (aa (cf (N':=["_law_deed","_law_names","_law_state"]) (caps:=[none,some 3,some 0]) (aL (by ac_nf)) rfl (bP (sv 4)) (fun _ _ _ _ _=>(sgn 0 (by show(["_law_deed","_law_names","_law_state"]:List Str).Nodup;decide+kernel))) (fun _ _ _ _ _=>bx) (fun _ _ _ _ _=>(bW d25 hr (aa (sv 2) (aa (dH bI B.b5 bJ (aa (sv 1) af)) af))))) af)))
   (ai (sset 5 cO.nd (cf (N':=["_law_k","_law_params"]) (caps:=[none,some 5]) (aL (by ac_nf)) rfl (bP (sv 6)) (fun _ _ _ _ _=>(sgn 0 (by show(["_law_k","_law_params"]:List Str).Nodup;decide+kernel))) (fun _ _ _ _ _=>bx) (fun _ _ _ _ _=>(rf (sv 1) mI (mH (sv 0))))))
   (ao (au (DO (kz ar (sv 3) (kz ar (sv 4) (kz ar (sv 5) (kz ar (sv 7) (kz ar (sv 1) (kz ar (sv 2) Jm)))))) (by ac_nf) (by ac_nf) (by simp) fun trs h=>G8 h (by ac_nf) (by ac_nf) (by simp) (by decide)))))))))))
theorem rZ(F:gg K "_law_is_odd" "_law_is_odd" il f fd)(B:Bs P w K mg)(d25:cu P w K mg base):bK P w K mg base fH 3 f fd iw (gh K 2 dB):=
 (a8 F rh fun cdv A outer s H E hr=>by(conv=>arg 2;whnf);with_reducible exact(ao (au (fg (cU kW (six hr (sv 1) ar) aj (aC _)) (fJ (cU (bp hr.units) (bW d25 hr (aa (sv 0) (aa (six hr (sv 1) ar) af))) aj (aC _)))))))
theorem wG(F:gg K "_law_term" "_law_term" jF f fd)(B:Bs P w K mg)(d25:cu P w K mg base)(d26:eA P w K mg base):bK P w K mg base fH 4 f fd jR (gh K 2 bZ):=
 (a8 F mM fun cdv A outer s H E hr=>by(conv=>arg 2;whnf);with_reducible exact(ai (sset 2 mM.nd (aW rV (bW d25 hr (aa (sv 0) (aa aj af))) aj))
   (ai (a9 (SW.st (iV (aH kW (dH bI B.b5 bJ (aa (sv 1) af)) aj (aC _)) (iU (aH kW (bW d25 hr (aa (sv 0) (aa aj af))) aj (aC _))))) (ao (au (az (aa (bW d26 hr (aa (sv 0) (aa (sv 1) af))) (aa (bW d26 hr (aa (sv 0) (aa (gW.lv (bE (aa aj (aa aj (aa aj (aa aj (aa aj (aa aj (aa (uA oa aj) (aa aj (aa (sv 2) af))))))))) (ag (ag (ag (ag (ag (ag (ag (ag (ag ak))))))))))) af))) af)) (ag (ag ak))))) aG)
   (ao (au (az (aa ar (aa (bW d26 hr (aa (sv 0) (aa (gW.lv (bE (aa aj (aa aj (aa aj (aa aj (aa aj (aa aj (aa (uA oa aj) (aa (sv 2) af)))))))) (ag (ag (ag (ag (ag (ag (ag (ag ak)))))))))) af))) af)) (ag (ag ak))))))))
theorem wK(F:gg K "_law_call" "_law_call" jK f fd)(B:Bs P w K mg)(d29:iA P w K mg base)(d26:eA P w K mg base)(d30:hZ P w K mg base):bK P w K mg base fH 5 f fd jV (gh K 4 gd):=
 (a8 F fm fun cdv A outer s H E hr=>by(conv=>arg 2;whnf);with_reducible exact(ai (g6 (i:=4) fm.nd (by ac_nf) (by ac_nf) (N':=["_law_k","_law_deed","_law_top","_law_world_here"]) (caps:=[none,some 2,some 3,some 1]) (aL (by ac_nf)) rfl (cb (by unfold Gl;ac_nf) B.b0 (aa (dH bI B.b5 bJ (aa (six hr (sv 1) ar) af)) af) (hl:=(ag ak))) (fun _ _ _ _ _=>(sgn 0 (by show(["_law_k","_law_deed","_law_top","_law_world_here"]:List Str).Nodup;decide+kernel))) (fun _ _ _ _ _=>(qx (SW.st (iV (aH kW (six hr (six hr (sv 3) ar) (sv 0)) (sv 2) (aC _)) (iU (aH IH (sv 0) (sv 1) (aC _))))))) (fun _ _ _ _ _=>(sv 0)))
   (ai (a9 (bA (bW d29 hr (aa (sv 0) (aa (sv 1) af)))) (ao (sset 4 fm.nd (gW.lv (BS rfl (by unfold Gl;ac_nf) B.b4 (by unfold Gl;ac_nf) B.b0 kJ (aa (dH bI B.b5 bJ (aa (six hr (sv 1) ar) af)) af))))) aG)
   (ai (a9 (aH (bp hr.units) (sv 4) (gW.lv (bE af ak)) (aC _)) (ao (au (az (aa ar (aa (six hr (six hr (sv 1) ar) (sv 2)) af)) (ag (ag ak))))) aG)
   (ai (sset 5 fm.nd (bW d26 hr (aa (sv 0) (aa (sv 4) af))))
   (ai (g6 (i:=6) fm.nd (by ac_nf) (by ac_nf) (N':=["_law_one","_law_deed","_law_state","_law_world_here"]) (caps:=[none,some 2,some 0,some 1]) (aL (by ac_nf)) rfl (bP (six hr (six hr (sv 1) ar) (sv 5))) (fun _ _ _ _ _=>(sgn 0 (by show(["_law_one","_law_deed","_law_state","_law_world_here"]:List Str).Nodup;decide+kernel))) (fun _ _ _ _ _=>bx) (fun _ _ _ _ _=>(bW d30 hr (aa (sv 2) (aa (six hr (six hr (sv 3) ar) (sv 1)) af)))))
   (ao (au (az (aa ar (aa (six hr (six hr (sv 1) ar) (sv 5)) (aa (vP cm B.b3 bg (aa (sv 6) af)) af))) (ag (ag (ag ak))))))))))))
theorem wI(F:gg K "_law_lock" "_law_lock" jI f fd)(B:Bs P w K mg)(d25:cu P w K mg base)(d29:iA P w K mg base)(d30:hZ P w K mg base):bK P w K mg base fH 5 f fd jT (gh K 5 eZ):=
 (a8 F cF fun cdv A outer s H E hr=>by(conv=>arg 2;whnf);with_reducible exact(ai (sset 5 cF.nd (dH (sH rfl) B.Nj sT (aa (sv 3) (aa (six hr (six hr (sv 1) ar) (sv 2)) af))))
   (ai (a9 (aH (bp hr.units) (sv 5) (dH bI B.b5 bJ (aa (six hr (sv 1) ar) af)) (aC _)) (ao (au (az (aa gH (aa gH af)) (ag (ag ak))))) aG)
   (ai (sset 6 cF.nd (aW aU (sv 5) (bW d25 hr (aa (sv 0) (aa (aW rV (dH bI B.b5 bJ (aa (six hr (sv 1) ar) af)) (sv 5)) af)))))
   (ai (a9 (bA (bW d29 hr (aa (sv 0) (aa (sv 1) af)))) (ao (sset 6 cF.nd (bW d25 hr (aa (sv 0) (aa (dH bI B.b5 bJ (aa (six hr (sv 1) ar) af)) af))))) aG)
   (ai (sset 7 cF.nd (six hr (six hr (sv 1) ar) (sv 6)))
   (ai (g6 (i:=8) cF.nd (by ac_nf) (by ac_nf) (N':=["_law_lock_here","_law_name"]) (caps:=[none,some 7]) (aL (by ac_nf)) rfl (bP (sv 4)) (fun _ _ _ _ _=>(sgn 0 (by show(["_law_lock_here","_law_name"]:List Str).Nodup;decide+kernel))) (fun _ _ _ _ _=>(qx (aH (bp hr.units) (six hr (sv 0) aj) (sv 1) (aC _)))) (fun _ _ _ _ _=>(six hr (sv 0) aj)))
   (ai (a9 (SW.st (iV (aH (rW hr.units) (sv 8) (gW.lv (bE af ak)) (aC _)) (iU (bO (bA (bW d29 hr (aa (sv 0) (aa (sv 1) af)))))))) (ai (fI (six hr (sv 8) (uA oa aj)) (cT rfl (aA (sgn 9 cF.nd) (aA (sgn 10 cF.nd) cc))))
   (ao (au (az (aa (sv 6) (aa (az (aa (sv 7) (aa (az (aa (sv 9) (aa (dH (Ln rfl) B.NP Lw (aa aj (aa (aW aU (aW aU (sv 10) aj) (bW d25 hr (aa (sv 0) (aa aj af)))) af))) af)) (ag (ag ak))) af)) (ag (ag ak))) af)) (ag (ag ak)))))) aG)
   (ao (au (az (aa (sv 6) (aa (az (aa (sv 7) (aa (bW d30 hr (aa (sv 0) (aa (six hr (six hr (sv 1) ar) (sv 2)) af))) af)) (ag (ag ak))) af)) (ag (ag ak)))))))))))))
theorem A9{f1:Addr}{fd1:FuncData}(F1:gg K "_law_lot" "_law_lot" lG f1 fd1)(kf1:PySem.W.keepIn K (.ref f1)=true)(bf1:Binds K fd1 fO [])(mf1:mg "_law_lot"=some (.ref f1)){f2:Addr}{fd2:FuncData}(F2:gg K "_law_row" "_law_row" lF f2 fd2)(kf2:PySem.W.keepIn K (.ref f2)=true)(bf2:Binds K fd2 fN [])(mf2:mg "_law_row"=some (.ref f2)){f3:Addr}{fd3:FuncData}(F3:gg K "_law_locked" "_law_locked" ik f3 fd3)(kf3:PySem.W.keepIn K (.ref f3)=true)(bf3:Binds K fd3 du [])(mf3:mg "_law_locked"=some (.ref f3)){f4:Addr}{fd4:FuncData}(F4:gg K "_law_two_ways" "_law_two_ways" gn f4 fd4)(kf4:PySem.W.keepIn K (.ref f4)=true)(bf4:Binds K fd4 cB [])(mf4:mg "_law_two_ways"=some (.ref f4))(B:Bs P w K mg)(d25:cu P w K mg base)(d26:eA P w K mg base)(d32:qa P w K mg base)(d30:hZ P w K mg base)(d31:p8 P w K mg base):∀n,bK P w K mg base fH (6+n) f1 fd1 fO (gh K 7 (bN n))∧bK P w K mg base fH (6+n) f2 fd2 fN (gh K 6 (fT n))∧bK P w K mg base fH (6+n) f3 fd3 du (gh K 7 (dA n))∧bK P w K mg base fH (6+n) f4 fd4 cB (gh K 6 (cE n))
 | 0=>⟨g9,g9,g9,g9⟩
 | n+1=>by
  obtain⟨i1,i2,i3,i4⟩:=A9 F1 kf1 bf1 mf1 F2 kf2 bf2 mf2 F3 kf3 bf3 mf3 F4 kf4 bf4 mf4 B d25 d26 d32 d30 d31 n;have d36:Df P w K mg base "_law_lot" (6+n) fO 7 (bN n):=⟨f1,fd1,i1,kf1,bf1,mf1⟩;have d35:Df P w K mg base "_law_row" (6+n) fN 6 (fT n):=⟨f2,fd2,i2,kf2,bf2,mf2⟩;have d34:Df P w K mg base "_law_locked" (6+n) du 7 (dA n):=⟨f3,fd3,i3,kf3,bf3,mf3⟩;have d33:Df P w K mg base "_law_two_ways" (6+n) cB 6 (cE n):=⟨f4,fd4,i4,kf4,bf4,mf4⟩;refine⟨?_,?_,?_,?_⟩
  ·exact fA (a8 F1 jy fun cdv A outer s H E hr=>by(conv=>arg 2;whnf);with_reducible exact(ai (sset 7 jy.nd (gW.ob (bE af ak)))
   (ai (de QN rfl (cb (by unfold Gl;ac_nf) B.b0 (aa (bW d25 hr (aa (sv 0) (aa (aW aU (bW d26 hr (aa (sv 0) (aa (aW aU (aW Eu (gW.lv (bE (aa (sv 6) af) (ag ak))) aj) (gW.lv (bE (aa aj af) (ag ak)))) af)) (Qm (by decide) (QD _ _))) aj) af)) (Qm (by decide) (QD _ _))) af) (hl:=(ag ak))) (sgn 8 jy.nd) (ao (a9 (aH kW (six hr (sv 1) ar) aj (aC _)) (ai (fI (aW rV (six hr (sv 1) ar) aj) (ot hr.units (sv 1) ar))
   (ao (dC (mL (isT:=bU) eO QC QY Q7 dZ (sv 7) (aa (bW d35 hr (aa (sv 0) (aa (sv 1) (aa (sv 2) (aa (sv 3) (aa (sv 4) (aa (sv 5) af)))))) (P8 _)) af))))) aG)))
   (ao (au (vP cm B.b3 bg (aa (sv 7) af)))))))
  ·exact(a8 F2 dP fun cdv A outer s H E hr=>by(conv=>arg 2;whnf);with_reducible exact(ai (sset 6 dP.nd (bW d25 hr (aa (sv 0) (aa aj af)) (Qm (by decide) (QD _ _))))
   (ai (a9 (SW.st (eW (aH yf (sv 6) aj (aC _)) (dJ (SW.st (iV (aH (bp hr.units) (sv 3) aj (aC _)) (iU (aH yf (sv 6) aj (aC _)))))))) (ao (au (az (aa ar (aa (bW d26 hr (aa (sv 0) (aa (aW aU (six hr (sv 1) ar) (six hr (sv 1) ar)) af)) (Qm (by decide) (QD _ _))) af)) (ag (ag ak))))) aG)
   (ai (a9 (SW.st (eW (aH kW (sv 6) aj (aC _)) (dJ (aH (bp hr.units) (sv 3) aj (aC _))))) (ao (au (bW d32 hr (aa (sv 0) (aa (sv 1) (aa (sv 2) (aa (sv 4) af)))) (Qm (by decide) (QD _ _))))) aG)
   (ai (a9 (SW.st (iV (aH (bp hr.units) (sv 6) aj (aC _)) (iV (aH yf (sv 3) aj (aC _)) (iU (aH kW (six hr (sv 1) ar) aj (aC _)))))) (ao (au (bW d33 hr (aa (sv 0) (aa (sv 1) (aa (sv 2) (aa (sv 3) (aa (sv 4) (aa (sv 5) af)))))) (P8 _)))) aG)
   (ai (a9 (SW.st (eW (aH (bp hr.units) (sv 6) aj (aC _)) (dJ (aH (bp hr.units) (sv 6) aj (aC _))))) (ai (Jl 7 8 dP.nd (ag (ag ak)) rfl (by decide) (by with_unfolding_all exact(zD rfl dP.nd rfl rfl (by decide) rfl rfl (aa (bW d30 hr (aa (sv 0) (aa (six hr (six hr (sv 1) ar) (sv 2)) af)) (Qm (by decide) (QD _ _))) (aa (bW d30 hr (aa (sv 0) (aa (six hr (six hr (sv 1) ar) (sv 2)) af)) (Qm (by decide) (QD _ _))) af)) rfl)))
   (ai (g6 (i:=9) dP.nd (by ac_nf) (by ac_nf) (N':=["_law_k","_law_deed","_law_deep","_law_held","_law_state","_law_top","_law_world_here"]) (caps:=[none,some 2,some 3,some 5,some 0,some 4,some 1]) (aL (by ac_nf)) rfl (cb (by unfold Gl;ac_nf) B.b0 (aa aj af) (hl:=(ag ak))) (fun _ _ _ _ _=>(sgn 0 (by show(["_law_k","_law_deed","_law_deep","_law_held","_law_state","_law_top","_law_world_here"]:List Str).Nodup;decide+kernel))) (fun _ _ _ _ _=>bx) (fun _ _ _ _ _=>(bW d36 hr (aa (sv 4) (aa (sv 6) (aa (sv 1) (aa (aW aU (sv 2) aj) (aa (sv 5) (aa (sv 3) (aa aj af))))))) (P8 _))))
   (ao (au (aW aU (az (aa ar (aa (sv 7) (aa (sv 8) af))) (ag (ag (ag ak)))) (vP cm B.b3 bg (aa (sv 9) af))))))) aG)
   (ai (a9 (aH (bp hr.units) (sv 6) aj (aC _)) (ai (g6 (i:=9) dP.nd (by ac_nf) (by ac_nf) (N':=["_law_k","_law_deed","_law_deep","_law_held","_law_state","_law_top","_law_world_here"]) (caps:=[none,some 2,some 3,some 5,some 0,some 4,some 1]) (aL (by ac_nf)) rfl (cb (by unfold Gl;ac_nf) B.b0 (aa aj af) (hl:=(ag ak))) (fun _ _ _ _ _=>(sgn 0 (by show(["_law_k","_law_deed","_law_deep","_law_held","_law_state","_law_top","_law_world_here"]:List Str).Nodup;decide+kernel))) (fun _ _ _ _ _=>bx) (fun _ _ _ _ _=>(bW d36 hr (aa (sv 4) (aa (sv 6) (aa (sv 1) (aa (aW aU (sv 2) aj) (aa (sv 5) (aa (sv 3) (aa aj af))))))) (P8 _))))
   (ao (au (aW aU (az (aa ar af) (ag ak)) (vP cm B.b3 bg (aa (sv 9) af)))))) aG)
   (ai (a9 (aH (bp hr.units) (sv 6) aj (aC _)) (ao (au (az (aa ar (aa (bW d36 hr (aa (sv 0) (aa (sv 1) (aa (sv 2) (aa (aW aU (sv 3) aj) (aa (sv 4) (aa (sv 5) (aa aj af))))))) (P8 _)) af)) (ag (ag ak))))) aG)
   (ai (sset 10 dP.nd (bW d26 hr (aa (sv 0) (aa (fU 9 (by ac_nf)) af)) (Qm (by decide) (QD _ _))))
   (ao (au (bW d34 hr (aa (sv 0) (aa (sv 1) (aa (sv 2) (aa (sv 3) (aa (sv 4) (aa (sv 5) (aa (sv 10) af))))))) (P8 _)))))))))))))
  ·exact fA (a8 F3 bj fun cdv A outer s H E hr=>by(conv=>arg 2;whnf);with_reducible exact(ai (fI (bW d31 hr (aa (sv 0) (aa (sv 1) (aa (sv 2) (aa (sv 4) (aa (sv 5) af))))) (Qm (by decide) (QD _ _))) (cT rfl (aA (sgn 7 bj.nd) (aA (sgn 8 bj.nd) cc))))
   (ai (a9 (aH rX (sv 7) gH (aC _)) (ao (au (az (aa ar (aa (six hr (six hr (sv 1) ar) (sv 2)) af)) (ag (ag ak))))) aG)
   (ai (a9 (aH (bp hr.units) (sv 6) ar (aC _)) (ai (Jl 9 10 bj.nd (ag (ag ak)) rfl (by decide) (by with_unfolding_all exact(zD rfl bj.nd rfl rfl (by decide) rfl rfl (aa (gW.ob (bE (aa (sv 8) af) (ag ak))) (aa (sv 7) af)) rfl)))
   (ai (de QN rfl (cb (by unfold Gl;ac_nf) B.b0 (aa (bW d26 hr (aa (sv 0) (aa (fU 9 (by ac_nf)) af)) (Qm (by decide) (QD _ _))) af) (hl:=(ag ak))) (sgn 11 bj.nd) (ai (fI (bW d31 hr (aa (sv 0) (aa (sv 1) (aa (sv 2) (aa (sv 4) (aa (sv 5) af))))) (Qm (by decide) (QD _ _))) (cT rfl (aA (sgn 12 bj.nd) (aA (sgn 13 bj.nd) cc))))
   (ai (sset 10 bj.nd (dH (sH rfl) B.Nj sT (aa (sv 10) (aa (sv 12) af))))
   (ao (sset 9 bj.nd (gW.ob (Jr (sv 9) (aW Eu (gW.lv (bE (aa (sv 13) af) (ag ak))) (vP Ao B.IQ sU (aa (cU (mV hr.units) (sv 13) (sv 9) (by ac_nf)) af))))))))))
   (ai (a9 (aH (bp hr.units) (dH bI B.b5 bJ (aa (sv 9) af)) aj (aC _)) (ao (dC (mL (isT:=bU) eO QC QY Q7 dZ (sv 9) (aa (az (aa (six hr (sv 8) aj) (aa (az (aa (six hr (six hr (sv 8) aj) aj) (aa (aW rV (aW aU (six hr (six hr (sv 8) aj) aj) aj) (aW jd aj (vP Ao B.IQ sU (aa (cU kW (six hr (six hr (sv 8) aj) aj) aj (aC _)) af)))) af)) (ag (ag ak))) af)) (ag (ag ak))) af)))) aG)
   (ai (sset 10 bj.nd (aW aU (sv 10) (vP Ao B.IQ sU (aa (cU (bp hr.units) (six hr (sv 1) ar) aj (aC _)) af))))
   (ao (au (az (aa ar (aa (vP cm B.b3 bg (aa (sv 9) af)) (aa (bW d36 hr (aa (sv 0) (aa (sv 1) (aa (sv 2) (aa (aW aU (sv 3) aj) (aa (dH (sH rfl) B.Nj sT (aa (sv 4) (aa (sv 10) af))) (aa (aW aU (sv 5) (sv 9)) (aa aj af))))))) (P8 _)) af))) (ag (ag (ag ak)))))))))) aG)
   (ai (sset 14 bj.nd (bW d36 hr (aa (sv 0) (aa (sv 1) (aa (sv 2) (aa (aW aU (sv 3) aj) (aa (dH (sH rfl) B.Nj sT (aa (sv 4) (aa (sv 7) af))) (aa (aW aU (sv 5) (gW.lv (bE (aa (sv 8) af) (ag ak)))) (aa aj af))))))) (P8 _)))
   (ai (a9 (aH (bp hr.units) (sv 6) ar (aC _)) (ao (au (az (aa ar (aa (sv 8) (aa (sv 14) (aa (bW d36 hr (aa (sv 0) (aa (sv 1) (aa (sv 2) (aa (aW aU (sv 3) aj) (aa (sv 4) (aa (sv 5) (aa aj af))))))) (P8 _)) af)))) (ag (ag (ag (ag ak))))))) aG)
   (ao (au (az (aa ar (aa (sv 8) (aa (sv 14) af))) (ag (ag (ag ak))))))))))))
  ·exact fA (a8 F4 bw fun cdv A outer s H E hr=>by(conv=>arg 2;whnf);with_reducible exact(ai (sset 6 bw.nd (dH (sH rfl) B.Nj sT (aa (sv 4) (aa (six hr (six hr (sv 1) ar) (sv 2)) af))))
   (ai (a9 (aH (bp hr.units) (sv 6) (dH bI B.b5 bJ (aa (six hr (sv 1) ar) af)) (aC _)) (ao (au (az (aa ar (aa (six hr (six hr (sv 1) ar) (sv 2)) af)) (ag (ag ak))))) aG)
   (ai (a9 (aH (rW hr.units) (cf (N':=["_law_lock_here","_law_low","_law_world_here"]) (caps:=[none,some 6,some 1]) (aL (by ac_nf)) rfl (bP (sv 5)) (fun _ _ _ _ _=>(sgn 0 (by show(["_law_lock_here","_law_low","_law_world_here"]:List Str).Nodup;decide+kernel))) (fun _ _ _ _ _=>(qx (aH (bp hr.units) (six hr (sv 0) aj) (six hr (six hr (sv 2) ar) (sv 1)) (aC _)))) (fun _ _ _ _ _=>(sv 0))) (gW.lv (bE af ak)) (aC _)) (ao (au (az (aa ar (aa (six hr (six hr (sv 1) ar) (sv 2)) af)) (ag (ag ak))))) aG)
   (ai (sset 7 bw.nd (six hr (six hr (sv 1) ar) (sv 6)))
   (ai (fI (aW rV (six hr (sv 1) ar) aj) (ot hr.units (sv 1) ar))
   (ai (Jl 8 9 bw.nd (ag (ag ak)) rfl (by decide) (by with_unfolding_all exact(zD rfl bw.nd rfl rfl (by decide) rfl rfl (aa (bW d30 hr (aa (sv 0) (aa (six hr (six hr (sv 1) ar) (sv 2)) af)) (Qm (by decide) (QD _ _))) (aa (bW d30 hr (aa (sv 0) (aa (six hr (six hr (sv 1) ar) (sv 2)) af)) (Qm (by decide) (QD _ _))) af)) rfl)))
   (ai (sset 10 bw.nd (gW.ob (bE af ak)))
   (ai (de QN rfl (bP (gW.lv (bE (aa (az (aa (sv 8) (aa (sv 9) af)) (ag (ag ak))) (aa (az (aa (sv 9) (aa (sv 8) af)) (ag (ag ak))) af)) (ag (ag ak))))) (cT rfl (aA (sgn 11 bw.nd) (aA (sgn 12 bw.nd) cc))) (ai (sset 13 bw.nd (bW d36 hr (aa (sv 0) (aa (sv 1) (aa (sv 2) (aa (aW aU (sv 3) aj) (aa (sv 6) (aa (aW aU (sv 5) (gW.lv (bE (aa (az (aa (sv 7) (aa (sv 11) af)) (ag (ag ak))) (aa (az (aa (sv 7) (aa (sv 12) af)) (ag (ag ak))) af)) (ag (ag ak))))) (aa aj af))))))) (P8 _)))
   (ao (dC (mL (isT:=bU) eO QC QY Q7 dZ (sv 10) (aa (az (aa (az (aa ar (aa (az (aa (sv 7) (aa (sv 11) af)) (ag (ag ak))) (aa (az (aa (az (aa ar (aa (az (aa (sv 7) (aa (sv 12) af)) (ag (ag ak))) (aa (sv 13) af))) (ag (ag (ag ak)))) af) (ag ak)) af))) (ag (ag (ag ak)))) af) (ag ak)) af))))))
   (ao (au (az (aa ar (aa (sv 8) (aa (sv 9) (aa (six hr (sv 10) aj) (aa (az (aa (az (aa ar (aa (az (aa (sv 7) (aa (sv 8) af)) (ag (ag ak))) (aa (az af ak) af))) (ag (ag (ag ak)))) af) (ag ak)) (aa (six hr (sv 10) aj) af)))))) (ag (ag (ag (ag (ag (ag ak))))))))))))))))))
theorem qi(F:gg K "_law_program" "_law_program" gK f fd)(B:Bs P w K mg)(d28:nQ P w K mg base)(d36:tw P w K mg base)(d26:eA P w K mg base):bK P w K mg base fH 27 f fd gQ (gh K 3 fC):=
 fA (a8 F cA fun cdv A outer s H E hr=>by(conv=>arg 2;whnf);with_reducible exact(ai (sset 3 cA.nd (bW d28 hr (aa (sv 0) (aa (sv 1) (aa (sv 2) af)))))
   (ai (sset 4 cA.nd (gW.ob (bE af ak)))
   (ai (de QN rfl (mJ (by unfold Gl;ac_nf) B.Nk (aa (six hr (sv 3) ar) af) (ag ak)) (cT rfl (aA (sgn 5 cA.nd) (aA (sgn 6 cA.nd) cc))) (ai (sset 7 cA.nd (bW d36 hr (aa (sv 0) (aa (sv 3) (aa (sv 5) (aa aj (aa (uA oa aj) (aa (gW.lv (bE af ak)) (aa (bW d26 hr (aa (sv 0) (aa (fU 9 (by ac_nf)) af))) af)))))))))
   (ao (dC (mL (isT:=bU) eO QC QY Q7 dZ (sv 4) (aa (az (aa (sv 6) (aa (vP cm B.b3 bg (aa (six hr (six hr (sv 3) ar) (sv 5)) af)) (aa (sv 7) af))) (ag (ag (ag ak)))) af))))))
   (ao (au (az (aa (vP cm B.b3 bg (aa (dH Fj B.b1 pv (aa (six hr (sv 3) ar) af)) af)) (aa (vP cm B.b3 bg (aa (sv 4) af)) af)) (ag (ag ak)))))))))
theorem jW(F:gg K "_law_called" "_law_called" ip f fd)(B:Bs P w K mg)(kf:PySem.W.keepIn K (.ref f)=true)(bf:Binds K fd eJ [])(mf:mg "_law_called"=some (.ref f)):∀n,bK P w K mg base fH (1+n) f fd eJ (gh K 2 (aJ n))
 | 0=>g9
 | n+1=>by
  have d39:Df P w K mg base "_law_called" (1+n) eJ 2 (aJ n):=⟨f,fd,jW F B kf bf mf  n,kf,bf,mf⟩;exact(a8 F fk fun cdv A outer s H E hr=>by(conv=>arg 2;whnf);with_reducible exact(ai (a9 (bO (bA (dH cy B.b8 aB (aa (sv 0) (aa (qU B.b3 bg) af))))) (ao (au (gW.lv (bE af ak)))) aG)
   (ai (sset 2 fk.nd (gW.lv (bE af ak)))
   (ai (a9 (SW.st (iV (aH (bp hr.units) (dH bI B.b5 bJ (aa (sv 0) af)) aj (aC _)) (iV (aH (bp hr.units) (six hr (sv 0) aj) ar (aC _)) (iU (bA (dH cy B.b8 aB (aa (six hr (sv 0) aj) (aa (qU B.b3 bg) af)))))))) (ao (au (gW.lv (bE (aa (mL (isT:=bU) eO QC Vi PySem.F.type_list_index (Ck hr.units) (sv 1) (aa (six hr (sv 0) aj) af)) af) (ag ak))))) aG)
   (ai (de QN rfl (bP (sv 0)) (sgn 3 fk.nd) (ao (sset 2 fk.nd (aW aU (sv 2) (bW d39 hr (aa (sv 3) (aa (sv 1) af)) (P8 _))))))
   (ao (au (sv 2))))))))
theorem rY(F:gg K "is_tuple_of" "is_tuple_of" ij f fd)(B:Bs P w K mg):bK P w K mg base fH 1 f fd iu (gh K 2 cv):=
 (a8 F rg fun cdv A outer s H E hr=>by(conv=>arg 2;whnf);with_reducible exact(ao (au (fg (dH cy B.b8 aB (aa (sv 0) (aa (qU B.b3 bg) af))) (fJ (cU (bp hr.units) (dH bI B.b5 bJ (aa (sv 0) af)) (sv 1) (aC _)))))))
theorem zJ(F:gg K "is_word" "is_word" ox f fd)(B:Bs P w K mg):bK P w K mg base fH 1 f fd oO (gh K 1 gF):=
 (a8 F zq fun cdv A outer s H E hr=>by(conv=>arg 2;whnf);with_reducible exact(ai (a9 (SW.st (eW (bO (bA (dH cy B.b8 aB (aa (sv 0) (aa (qU B.Ic pj) af))))) (dJ (bO (qW pO pO aj (dH bI B.b5 bJ (aa (sv 0) af)) (gj B.tE (by unfold Gl;ac_nf))))))) (ao (au eD)) aG)
   (ao (au (dH (mm rfl) B.Gg mr (aa (cf (N':=["letter"]) (caps:=[none]) (aL (by ac_nf)) rfl (Jq (sv 0)) (fun _ _ _ _ _=>(sgn 0 (by show(["letter"]:List Str).Nodup;decide+kernel))) (fun _ _ _ _ _=>bx) (fun _ _ _ _ _=>(cU (uM hr.units) (sv 0) (gj B.Dk (by unfold Gl;ac_nf)) (by ac_nf)))) af))))))
theorem kQ(F:gg K "are_unlike_words" "are_unlike_words" eP f fd)(B:Bs P w K mg)(d2:kK P w K mg base):bK P w K mg base fH 2 f fd eQ (gh K 3 bT):=
 (a8 F kO fun cdv A outer s H E hr=>by(conv=>arg 2;whnf);with_reducible exact(ai (a9 (SW.st (eW (bO (bA (dH cy B.b8 aB (aa (sv 0) (aa (qU B.b3 bg) af))))) (dJ (bO (qW pO pO (sv 1) (dH bI B.b5 bJ (aa (sv 0) af)) (sv 2)))))) (ao (au eD)) aG)
   (ao (au (fg (dH (mm rfl) B.Gg mr (aa (cf (N':=["word"]) (caps:=[none]) (aL (by ac_nf)) rfl (bP (sv 0)) (fun _ _ _ _ _=>(sgn 0 (by show(["word"]:List Str).Nodup;decide+kernel))) (fun _ _ _ _ _=>bx) (fun _ _ _ _ _=>(bW d2 hr (aa (sv 0) af)))) af)) (fJ (cU (bp hr.units) (uB rfl hr.units (by unfold Gl;ac_nf) B.b5 (by unfold Gl;ac_nf) B.b2 (sv 0)) (dH bI B.b5 bJ (aa (sv 0) af)) (aC _))))))))
theorem wF(F:gg K "are_heads" "are_heads" jE f fd)(B:Bs P w K mg)(d1:dw P w K mg base)(d6:eU P w K mg base):bK P w K mg base fH 3 f fd jQ (gh K 1 ie):=
 (a8 F vS fun cdv A outer s H E hr=>by(conv=>arg 2;whnf);with_reducible exact(ai (a9 (SW.st (eW (bO (bA (dH cy B.b8 aB (aa (sv 0) (aa (qU B.b3 bg) af))))) (dJ (bO (bA (dH (mm rfl) B.Gg mr (aa (cf (N':=["deed"]) (caps:=[none]) (aL (by ac_nf)) rfl (bP (sv 0)) (fun _ _ _ _ _=>(sgn 0 (by show(["deed"]:List Str).Nodup;decide+kernel))) (fun _ _ _ _ _=>bx) (fun _ _ _ _ _=>(bW d1 hr (aa (sv 0) (aa aj af))))) af))))))) (ao (au eD)) aG)
   (ai (a9 (bO (bA (bW d6 hr (aa (vP cm B.b3 bg (aa (cf (N':=["deed"]) (caps:=[none]) (aL (by ac_nf)) rfl (bP (sv 0)) (fun _ _ _ _ _=>(sgn 0 (by show(["deed"]:List Str).Nodup;decide+kernel))) (fun _ _ _ _ _=>bx) (fun _ _ _ _ _=>(six hr (sv 0) aj))) af)) (aa aj (aa (gj B.xC (by unfold Gl;ac_nf)) af)))))) (ao (au eD)) aG)
   (ao (au (dH (mm rfl) B.Gg mr (aa (cf (N':=["deed"]) (caps:=[none]) (aL (by ac_nf)) rfl (bP (sv 0)) (fun _ _ _ _ _=>(sgn 0 (by show(["deed"]:List Str).Nodup;decide+kernel))) (fun _ _ _ _ _=>bx) (fun _ _ _ _ _=>(bW d6 hr (aa (six hr (sv 0) aj) (aa aj (aa (gj B.ur (by unfold Gl;ac_nf)) af)))))) af)))))))
theorem wC(F:gg K "are_names" "are_names" jC f fd)(B:Bs P w K mg)(d6:eU P w K mg base):bK P w K mg base fH 3 f fd jO (gh K 1 ib):=
 (a8 F vQ fun cdv A outer s H E hr=>by(conv=>arg 2;whnf);with_reducible exact(ao (au (fg (bW d6 hr (aa (sv 0) (aa aj (aa (gj B.xB (by unfold Gl;ac_nf)) af)))) (fJ (cU (bp hr.units) (gW.lv (mK (by unfold Gl;ac_nf) B.b4 kJ (aa (sv 0) af) (ag ak))) (dH CT B.b1 pv (aa (sv 0) af)) (aC _)))))))
theorem yh(F:gg K "is_whole" "is_whole" lC f fd)(B:Bs P w K mg):bK P w K mg base fH 1 f fd lT (gh K 1 mx):=
 (a8 F xP fun cdv A outer s H E hr=>by(conv=>arg 2;whnf);with_reducible exact(ao (au (fg (dH cy B.b8 aB (aa (sv 0) (aa (qU B.IQ sU) af))) (fJ (DN (dH cy B.b8 aB (aa (sv 0) (aa (qU B.b7 nI) af)))))))))
theorem zK(F:gg K "is_term" "is_term" oy f fd)(B:Bs P w K mg)(d1:dw P w K mg base)(d0:tq P w K mg base):bK P w K mg base fH 2 f fd oP (gh K 2 eY):=
 (a8 F lu fun cdv A outer s H E hr=>by(conv=>arg 2;whnf);with_reducible exact(ai (a9 (bO (bA (bW d1 hr (aa (sv 0) (aa aj af))))) (ao (au eD)) aG)
   (ai (fI (sv 0) (cT rfl (aA (sgn 2 lu.nd) (aA (sgn 3 lu.nd) cc))))
   (ai (a9 (SW.st (eW (bO (bA (dH cy B.b8 aB (aa (sv 2) (aa (qU B.Ic pj) af))))) (dJ (bO (bA (bW d0 hr (aa (sv 3) af))))))) (ao (au eD)) aG)
   (ao (au (fg (Ms (cU (bp hr.units) (sv 2) ar (aC _)) (fJ (cU (uM hr.units) (sv 2) (sv 1) (by ac_nf)))) (fJ (DQ pO pO (uA oa (gj B.k9 (by unfold Gl;ac_nf))) (sv 3) (gj B.k9 (by unfold Gl;ac_nf)))))))))))
theorem zM(F:gg K "is_call" "is_call" oA f fd)(B:Bs P w K mg)(d1:dw P w K mg base)(d2:kK P w K mg base)(d3:kM P w K mg base):bK P w K mg base fH 3 f fd oR (gh K 4 kN):=
 (a8 F zr fun cdv A outer s H E hr=>by(conv=>arg 2;whnf);with_reducible exact(ai (a9 (SW.st (eW (bO (bA (bW d2 hr (aa (sv 0) af)))) (eW (aH (mV hr.units) (sv 0) (sv 2) (by ac_nf)) (dJ (bO (bA (bW d1 hr (aa (sv 1) (aa (six hr (sv 2) (sv 0)) af))))))))) (ao (au eD)) aG)
   (ao (au (dH (mm rfl) B.Gg mr (aa (cf (N':=["term","params"]) (caps:=[none,some 3]) (aL (by ac_nf)) rfl (bP (sv 1)) (fun _ _ _ _ _=>(sgn 0 (by show(["term","params"]:List Str).Nodup;decide+kernel))) (fun _ _ _ _ _=>bx) (fun _ _ _ _ _=>(bW d3 hr (aa (sv 0) (aa (sv 1) af))))) af))))))
theorem zL(F:gg K "is_lock" "is_lock" oz f fd)(B:Bs P w K mg)(d1:dw P w K mg base)(d3:kM P w K mg base):bK P w K mg base fH 3 f fd oQ (gh K 3 iS):=
 (a8 F lx fun cdv A outer s H E hr=>by(conv=>arg 2;whnf);with_reducible exact(ai (a9 (bO (bA (bW d1 hr (aa (sv 0) (aa aj af))))) (ao (au eD)) aG)
   (ai (fI (sv 0) (cT rfl (aA (sgn 3 lx.nd) (aA (sgn 4 lx.nd) cc))))
   (ao (au (fg (dH cy B.b8 aB (aa (sv 3) (aa (qU B.Ic pj) af))) (fg (cU (uM hr.units) (sv 3) (sv 1) (by ac_nf)) (fJ (bW d3 hr (aa (sv 4) (aa (sv 2) af)))))))))))
theorem wD(F:gg K "are_locks" "are_locks" jD f fd)(B:Bs P w K mg)(d4:pF P w K mg base):bK P w K mg base fH 4 f fd jP (gh K 3 ic):=
 (a8 F vR fun cdv A outer s H E hr=>by(conv=>arg 2;whnf);with_reducible exact(ai (a9 (SW.st (eW (bO (bA (dH cy B.b8 aB (aa (sv 0) (aa (qU B.b3 bg) af))))) (dJ (bO (qW pO pO (gj B.qq (by unfold Gl;ac_nf)) (dH bI B.b5 bJ (aa (sv 0) af)) (gj B.uv (by unfold Gl;ac_nf))))))) (ao (au eD)) aG)
   (ao (au (fg (dH (mm rfl) B.Gg mr (aa (cf (N':=["lock","names","params"]) (caps:=[none,some 1,some 2]) (aL (by ac_nf)) rfl (bP (sv 0)) (fun _ _ _ _ _=>(sgn 0 (by show(["lock","names","params"]:List Str).Nodup;decide+kernel))) (fun _ _ _ _ _=>bx) (fun _ _ _ _ _=>(bW d4 hr (aa (sv 0) (aa (sv 1) (aa (sv 2) af)))))) af)) (fJ (cU (bp hr.units) (uB rfl hr.units (by unfold Gl;ac_nf) B.b5 (by unfold Gl;ac_nf) B.b2 (sv 0)) (dH bI B.b5 bJ (aa (sv 0) af)) (aC _))))))))
theorem mX(F:gg K "is_right_ahead" "is_right_ahead" fK f fd)(B:Bs P w K mg)(d2:kK P w K mg base)(d10:vE P w K mg base)(d9:p5 P w K mg base)(d4:pF P w K mg base)(d3:kM P w K mg base):bK P w K mg base fH 5 f fd fM (gh K 4 eB):=
 (a8 F g7 fun cdv A outer s H E hr=>by(conv=>arg 2;whnf);with_reducible exact(ai (sset 4 g7.nd (six hr (sv 0) aj))
   (ai (a9 (aH (bp hr.units) (sv 4) ar (aC _)) (ao (au (bW d2 hr (aa (six hr (sv 0) aj) af)))) aG)
   (ai (a9 (aH (bp hr.units) (sv 4) ar (aC _)) (ao (au (bW d10 hr (aa (six hr (sv 0) aj) (aa (six hr (sv 0) aj) (aa (sv 2) (aa (sv 3) af))))))) aG)
   (ai (a9 (aH (bp hr.units) (sv 4) ar (aC _)) (ao (au (bW d9 hr (aa (six hr (sv 0) aj) (aa (sv 1) (aa (sv 3) af)))))) aG)
   (ai (a9 (aH (uM hr.units) (sv 4) (az (aa ar (aa ar af)) (ag (ag ak))) (by ac_nf)) (ao (au (bW d4 hr (aa (six hr (sv 0) aj) (aa (sv 1) (aa (sv 3) af)))))) aG)
   (ai (a9 (aH (bp hr.units) (sv 4) ar (aC _)) (ao (au (fg (bW d3 hr (aa (six hr (sv 0) aj) (aa (sv 3) af))) (fJ (bW d3 hr (aa (six hr (sv 0) aj) (aa (sv 3) af))))))) aG)
   (ao (au eD)))))))))
theorem wB(F:gg K "is_shaped" "is_shaped" jB f fd)(B:Bs P w K mg):bK P w K mg base fH 1 f fd jN (gh K 1 ia):=
 (a8 F iX fun cdv A outer s H E hr=>by(conv=>arg 2;whnf);with_reducible exact(ai (a9 (SW.st (eW (bO (bA (dH cy B.b8 aB (aa (sv 0) (aa (qU B.b3 bg) af))))) (dJ (aH (bp hr.units) (dH bI B.b5 bJ (aa (sv 0) af)) aj (aC _))))) (ao (au eD)) aG)
   (ai (a9 (SW.st (eW (bO (bA (dH cy B.b8 aB (aa (six hr (sv 0) aj) (aa (qU B.Ic pj) af))))) (dJ (Gq B.tx (six hr (sv 0) aj))))) (ao (au eD)) aG)
   (ai (fI (DM B.tx (six hr (sv 0) aj)) (cT rfl (aA (sgn 1 iX.nd) (aA (sgn 2 iX.nd) cc))))
   (ao (au (cU (bp hr.units) (dH bI B.b5 bJ (aa (sv 0) af)) (aW aU (sv 1) (sv 2)) (aC _))))))))
theorem zI(F:gg K "lots_of" "lots_of" ow f fd)(B:Bs P w K mg):bK P w K mg base fH 1 f fd oN (gh K 1 gE):=
 (a8 F zp fun cdv A outer s H E hr=>by(conv=>arg 2;whnf);with_reducible exact(ao (au (rf (sv 0) (mH (six hr (DM B.tx (six hr (sv 0) aj)) aj)) mI))))
theorem mW(F:gg K "rows_left" "rows_left" jz f fd)(B:Bs P w K mg)(kf:PySem.W.keepIn K (.ref f)=true)(bf:Binds K fd f6 [])(mf:mg "rows_left"=some (.ref f))(d12:iP P w K mg base)(d11:pZ P w K mg base)(d5:pE P w K mg base):∀n,bK P w K mg base fH (6+n) f fd f6 (gh K 6 (c9 n))
 | 0=>g9
 | n+1=>by
  have d13:Df P w K mg base "rows_left" (6+n) f6 6 (c9 n):=⟨f,fd,mW F B kf bf mf d12 d11 d5 n,kf,bf,mf⟩;exact(a8 F fh fun cdv A outer s H E hr=>by(conv=>arg 2;whnf);with_reducible exact(ai (a9 (SW.st (eW (aH kW (sv 1) (gj B.y9 (by unfold Gl;ac_nf)) (aC _)) (eW (bO (bA (dH cy B.b8 aB (aa (sv 0) (aa (qU B.b3 bg) af))))) (dJ (aH kW (dH bI B.b5 bJ (aa (sv 0) af)) (gj B.uu (by unfold Gl;ac_nf)) (aC _)))))) (ao (au gH)) aG)
   (ai (de QN rfl (bP (sv 0)) (sgn 6 fh.nd) (ai (a9 (SW.st (eW (aH (bp hr.units) (sv 2) aj (aC _)) (eW (bO (bA (bW d11 hr (aa (sv 6) af) (Qm (by decide) (QD _ _))))) (dJ (bO (bA (bW d12 hr (aa (sv 6) (aa (sv 3) (aa (sv 4) (aa (sv 5) af)))) (Qm (by decide) (QD _ _))))))))) (ao (au gH)) aG)
   (ai (Oe 2 fh.nd aj Hz)
   (ao (de QN rfl (bP (bW d5 hr (aa (sv 6) af) (Qm (by decide) (QD _ _)))) (sgn 7 fh.nd) (ai (sset 2 fh.nd (bW d13 hr (aa (sv 7) (aa (aW aU (sv 1) aj) (aa (sv 2) (aa (sv 3) (aa (sv 4) (aa (sv 5) af)))))) (P8 _)))
   (ao (a9 (aH rX (sv 2) gH (aC _)) (ao (au gH)) aG))))))))
   (ao (au (sv 2))))))
theorem t4(F:gg K "is_program" "is_program" iZ f fd)(B:Bs P w K mg)(d1:dw P w K mg base)(d8:p6 P w K mg base)(d7:p4 P w K mg base)(d13:pX P w K mg base):bK P w K mg base fH 15 f fd i9 (gh K 1 gB):=
 (a8 F bV fun cdv A outer s H E hr=>by(conv=>arg 2;whnf);with_reducible exact(ai (a9 (bO (bA (bW d1 hr (aa (sv 0) (aa aj af))))) (ao (au eD)) aG)
   (ai (fI (sv 0) (cT rfl (aA (sgn 1 bV.nd) (aA (sgn 2 bV.nd) cc))))
   (ai (a9 (SW.st (eW (bO (bA (bW d7 hr (aa (sv 1) af)))) (dJ (bO (bA (bW d8 hr (aa (sv 2) af))))))) (ao (au eD)) aG)
   (ai (DH (i:=3) bV.nd (by ac_nf) (by ac_nf) (N':=["deed","params","rows"]) (caps:=[none,none,none]) (aL (by ac_nf)) rfl (bP (sv 2)) (fun _ _ _ _ _=>(cT rfl (aA (sgn 0 (by show(["deed","params","rows"]:List Str).Nodup;decide+kernel)) (aA (sgn 1 (by show(["deed","params","rows"]:List Str).Nodup;decide+kernel)) (aA (sgn 2 (by show(["deed","params","rows"]:List Str).Nodup;decide+kernel)) cc))))) (fun _ _ _ _ _=>bx) (fun _ _ _ _ _=>(sv 0)) (fun _ _ _ _ _=>(dH bI B.b5 bJ (aa (sv 1) af))))
   (ai (sset 4 bV.nd (gj B.y8 (by unfold Gl;ac_nf)))
   (ai (de QN rfl (bP (sv 2)) (cT rfl (aA (sgn 5 bV.nd) (aA (sgn 6 bV.nd) (aA (sgn 7 bV.nd) cc)))) (ai (sset 4 bV.nd (bW d13 hr (aa (sv 7) (aa aj (aa (sv 4) (aa (sv 1) (aa (sv 3) (aa (sv 6) af))))))))
   (ao (a9 (aH rX (sv 4) gH (aC _)) (ao (au eD)) aG))))
   (ao (au eD)))))))))
theorem mY(F:gg K "_law_same" "_law_same" jG f fd)(B:Bs P w K mg)(kf:PySem.W.keepIn K (.ref f)=true)(bf:Binds K fd f7 [])(mf:mg "_law_same"=some (.ref f)):∀n,bK P w K mg base fH (1+n) f fd f7 (gh K 2 (dc n))
 | 0=>g9
 | n+1=>by
  have d38:Df P w K mg base "_law_same" (1+n) f7 2 (dc n):=⟨f,fd,mY F B kf bf mf  n,kf,bf,mf⟩;exact(a8 F vT fun cdv A outer s H E hr=>by(conv=>arg 2;whnf);with_reducible exact(ai (a9 (bA (dH cy B.b8 aB (aa (sv 1) (aa (qU B.b3 bg) af)))) (ai (a9 (SW.st (eW (bO (bA (dH cy B.b8 aB (aa (sv 0) (aa (qU B.b3 bg) af))))) (dJ (aH (rW hr.units) (dH bI B.b5 bJ (aa (sv 0) af)) (dH bI B.b5 bJ (aa (sv 1) af)) (aC _))))) (ao (au eD)) aG)
   (ao (au (dH (mm rfl) B.Gg mr (aa (cf (N':=["_law_a","_law_b"]) (caps:=[none,none]) (aL (by ac_nf)) rfl (Jp (by unfold Gl;ac_nf) B.PV (aa (sv 0) (aa (sv 1) af)) (ag (ag ak))) (fun _ _ _ _ _=>(cT rfl (aA (sgn 0 (by show(["_law_a","_law_b"]:List Str).Nodup;decide+kernel)) (aA (sgn 1 (by show(["_law_a","_law_b"]:List Str).Nodup;decide+kernel)) cc)))) (fun _ _ _ _ _=>bx) (fun _ _ _ _ _=>(bW d38 hr (aa (sv 0) (aa (sv 1) af)) (P8 _)))) af))))) aG)
   (ai (a9 (aH rX (sv 1) gH (aC _)) (ao (au (cU rX (sv 0) gH (aC _)))) aG)
   (ai (a9 (bA (dH cy B.b8 aB (aa (sv 1) (aa (qU B.Ic pj) af)))) (ao (au (fg (dH cy B.b8 aB (aa (sv 0) (aa (qU B.Ic pj) af))) (fJ (cU (bp hr.units) (sv 0) (sv 1) (aC _)))))) aG)
   (ai (a9 (bA (dH cy B.b8 aB (aa (sv 1) (aa (qU B.b7 nI) af)))) (ao (au (fg (dH cy B.b8 aB (aa (sv 0) (aa (qU B.b7 nI) af))) (fJ (cU (bp hr.units) (sv 0) (sv 1) (aC _)))))) aG)
   (ao (au (fg (dH cy B.b8 aB (aa (sv 0) (aa (qU B.IQ sU) af))) (fg (DN (dH cy B.b8 aB (aa (sv 0) (aa (qU B.b7 nI) af)))) (fJ (cU (bp hr.units) (sv 0) (sv 1) (aC _))))))))))))
theorem qh(F:gg K "deed_numbers" "deed_numbers" gJ f fd)(B:Bs P w K mg):bK P w K mg base fH 1 f fd gP (gh K 1 dS):=
 (a8 F qb fun cdv A outer s H E hr=>by(conv=>arg 2;whnf);with_reducible exact(ao (au (DP (N':=["number","deed"]) (caps:=[none,none]) (aL (by ac_nf)) rfl (mJ (by unfold Gl;ac_nf) B.Nk (aa (six hr (sv 0) aj) af) (ag ak)) (fun _ _ _ _ _=>(cT rfl (aA (sgn 0 (by show(["number","deed"]:List Str).Nodup;decide+kernel)) (aA (sgn 1 (by show(["number","deed"]:List Str).Nodup;decide+kernel)) cc)))) (fun _ _ _ _ _=>bx) (fun _ _ _ _ _=>(six hr (sv 1) aj)) (fun _ _ _ _ _=>(sv 0))))))
theorem yj(F:gg K "calls_in" "calls_in" lE f fd)(B:Bs P w K mg)(d18:kj P w K mg base):bK P w K mg base fH 2 f fd lW (gh K 2 jl):=
 fA (a8 F fY fun cdv A outer s H E hr=>by(conv=>arg 2;whnf);with_reducible exact(ai (sset 2 fY.nd (bW d18 hr (aa (sv 0) af)))
   (ai (g6 (i:=3) fY.nd (by ac_nf) (by ac_nf) (N':=["deed"]) (caps:=[none]) (aL (by ac_nf)) rfl (bP (six hr (sv 0) aj)) (fun _ _ _ _ _=>(sgn 0 (by show(["deed"]:List Str).Nodup;decide+kernel))) (fun _ _ _ _ _=>bx) (fun _ _ _ _ _=>(gW.ob (bE af ak))))
   (ai (de QN rfl (bP (sv 1)) (cT rfl (aA (sgn 4 fY.nd) (aA (sgn 5 fY.nd) cc))) (ao (a9 (aH (bp hr.units) (six hr (sv 5) aj) ar (aC _)) (ao (dC (mL (isT:=bU) eO QC QY Q7 dZ (six hr (sv 3) (sv 4)) (aa (six hr (sv 2) (six hr (sv 5) aj)) af)))) aG)))
   (ao (au (vP cm B.b3 bg (aa (cf (N':=["some"]) (caps:=[none]) (aL (by ac_nf)) rfl (bP (sv 3)) (fun _ _ _ _ _=>(sgn 0 (by show(["some"]:List Str).Nodup;decide+kernel))) (fun _ _ _ _ _=>bx) (fun _ _ _ _ _=>(vP cm B.b3 bg (aa (q9 rfl (by unfold Gl;ac_nf) B.b1 (by unfold Gl;ac_nf) B.b2 (sv 0)) af)))) af))))))))
theorem pP(F:gg K "paths_in" "paths_in" ly f fd)(B:Bs P w K mg)(kf:PySem.W.keepIn K (.ref f)=true)(bf:Binds K fd gO [])(mf:mg "paths_in"=some (.ref f))(d5:pE P w K mg base):∀n,bK P w K mg base fH (2+n) f fd gO (gh K 2 (dR n))
 | 0=>g9
 | n+1=>by
  have d15:Df P w K mg base "paths_in" (2+n) gO 2 (dR n):=⟨f,fd,pP F B kf bf mf d5 n,kf,bf,mf⟩;exact fA (a8 F dO fun cdv A outer s H E hr=>by(conv=>arg 2;whnf);with_reducible exact(ai (sset 2 dO.nd (gW.ob (bE af ak)))
   (ai (de QN rfl (mJ (by unfold Gl;ac_nf) B.Nk (aa (sv 0) af) (ag ak)) (cT rfl (aA (sgn 3 dO.nd) (aA (sgn 4 dO.nd) cc))) (ai (sset 5 dO.nd (aW aU (sv 1) (az (aa (sv 3) af) (ag ak))))
   (ai (dC (mL (isT:=bU) eO QC QY Q7 dZ (sv 2) (aa (az (aa (sv 5) (aa (sv 4) af)) (ag (ag ak))) af)))
   (ao (de QN rfl (mJ (by unfold Gl;ac_nf) B.Nk (aa (bW d5 hr (aa (sv 4) af) (Qm (by decide) (QD _ _))) af) (ag ak)) (cT rfl (aA (sgn 6 dO.nd) (aA (sgn 7 dO.nd) cc))) (ao (dC (mL (isT:=bU) eO QC RQ SF oX (sv 2) (aa (bW d15 hr (aa (sv 7) (aa (aW aU (sv 5) (az (aa (sv 6) af) (ag ak))) af)) (P8 _)) af)))))))))
   (ao (au (sv 2))))))
theorem wA(F:gg K "places_of" "places_of" jA f fd)(B:Bs P w K mg)(d15:tj P w K mg base):bK P w K mg base fH 13 f fd jM (gh K 1 gc):=
 fA (a8 F dY fun cdv A outer s H E hr=>by(conv=>arg 2;whnf);with_reducible exact(ai (sset 1 dY.nd (gW.ob (bE af ak)))
   (ai (de QN rfl (mJ (by unfold Gl;ac_nf) B.Nk (aa (six hr (sv 0) aj) af) (ag ak)) (cT rfl (aA (sgn 2 dY.nd) (aA (cT rfl (aA (sgn 3 dY.nd) (aA (sgn 4 dY.nd) (aA (sgn 5 dY.nd) cc)))) cc))) (ao (dC (mL (isT:=bU) eO QC RQ SF oX (sv 1) (aa (cf (N':=["path","row","deed"]) (caps:=[none,none,some 2]) (aL (by ac_nf)) rfl (bP (bW d15 hr (aa (sv 5) (aa (az af ak) af)))) (fun _ _ _ _ _=>(cT rfl (aA (sgn 0 (by show(["path","row","deed"]:List Str).Nodup;decide+kernel)) (aA (sgn 1 (by show(["path","row","deed"]:List Str).Nodup;decide+kernel)) cc)))) (fun _ _ _ _ _=>bx) (fun _ _ _ _ _=>(az (aa (sv 2) (aa (sv 0) (aa (sv 1) af))) (ag (ag (ag ak)))))) af)))))
   (ao (au (sv 1))))))
theorem zH(F:gg K "rows_of" "rows_of" ou f fd)(B:Bs P w K mg)(d16:pY P w K mg base):bK P w K mg base fH 14 f fd oM (gh K 1 iR):=
 (a8 F zo fun cdv A outer s H E hr=>by(conv=>arg 2;whnf);with_reducible exact(ao (au (vP cm B.b3 bg (aa (cf (N':=["deed","path","row"]) (caps:=[none,none,none]) (aL (by ac_nf)) rfl (bP (bW d16 hr (aa (sv 0) af))) (fun _ _ _ _ _=>(cT rfl (aA (sgn 0 (by show(["deed","path","row"]:List Str).Nodup;decide+kernel)) (aA (sgn 1 (by show(["deed","path","row"]:List Str).Nodup;decide+kernel)) (aA (sgn 2 (by show(["deed","path","row"]:List Str).Nodup;decide+kernel)) cc))))) (fun _ _ _ _ _=>bx) (fun _ _ _ _ _=>(az (aa (sv 0) (aa (sv 2) af)) (ag (ag ak))))) af)))))
theorem yi(F:gg K "calls_of" "calls_of" lD f fd)(B:Bs P w K mg)(d19:tu P w K mg base)(d17:vD P w K mg base):bK P w K mg base fH 15 f fd lV (gh K 1 eV):=
 (a8 F xQ fun cdv A outer s H E hr=>by(conv=>arg 2;whnf);with_reducible exact(ao (au (bW d19 hr (aa (sv 0) (aa (bW d17 hr (aa (sv 0) af)) af))))))
theorem zN(F:gg K "come_to" "come_to" oB f fd)(B:Bs P w K mg):bK P w K mg base fH 1 f fd oU (gh K 2 gG):=
 fA (a8 F iY fun cdv A outer s H E hr=>by(conv=>arg 2;whnf);with_reducible exact(ai (sset 2 iY.nd (gW.ob (bE af ak)))
   (ai (sset 3 iY.nd (gW.ob (mK (by unfold Gl;ac_nf) B.b4 kJ (aa (six hr (sv 0) (sv 1)) af) (ag ak))))
   (ai (DG (n:=1000000) QN (bA (sv 3)) (ai (sset 4 iY.nd (Mt (isT:=bU) eO QC PySem.F.slot_list_pop PySem.F.type_list_pop KJ (sv 3)))
   (ao (a9 (aH (mV hr.units) (sv 4) (sv 2) (by ac_nf)) (ai (dC (mL (isT:=bU) eO QC QY Q7 dZ (sv 2) (aa (sv 4) af)))
   (ao (dC (mL (isT:=bU) eO QC RQ SF zU (sv 3) (aa (six hr (sv 0) (sv 4)) af))))) aG))))
   (ao (au (sv 2)))))))
theorem lY(F:gg K "comes_to_itself" "comes_to_itself" fq f fd)(B:Bs P w K mg)(d20:mw P w K mg base)(d21:vF P w K mg base):bK P w K mg base fH 16 f fd fx (gh K 1 cM):=
 (a8 F gI fun cdv A outer s H E hr=>by(conv=>arg 2;whnf);with_reducible exact(ai (sset 1 gI.nd (bW d20 hr (aa (sv 0) af)))
   (ao (au (dH (Fo rfl) B.b6 FI (aa (cf (N':=["deed","calls"]) (caps:=[none,some 1]) (aL (by ac_nf)) rfl (cb (by unfold Gl;ac_nf) B.b0 (aa (dH bI B.b5 bJ (aa (sv 1) af)) af) (hl:=(ag ak))) (fun _ _ _ _ _=>(sgn 0 (by show(["deed","calls"]:List Str).Nodup;decide+kernel))) (fun _ _ _ _ _=>bx) (fun _ _ _ _ _=>(cU (uM hr.units) (sv 0) (bW d21 hr (aa (sv 1) (aa (sv 0) af))) (by ac_nf)))) af))))))
theorem KD(F:gg K "law" "law" pK f fd)(B:Bs P w K mg)(d23:nS P w K mg base)(d40:km P w K mg base)(d25:cu P w K mg base)(d37:kl P w K mg base)(d26:eA P w K mg base)(d39:k7 P w K mg base)(d14:nP P w K mg base)(d38:p7 P w K mg base)(d20:mw P w K mg base)(d22:hY P w K mg base):bK P w K mg base fH 32 f fd IE (gh K 1 BF):=
 (a8 F gm fun cdv A outer s H E hr=>by(conv=>arg 2;whnf);with_reducible exact(ai (sset 1 gm.nd (bW d23 hr (aa (sv 0) af)))
   (ai (de QN rfl (cb (by unfold Gl;ac_nf) B.b0 (aa aj af) (hl:=(ag ak))) (sgn 2 gm.nd) (ai (sset 3 gm.nd (bW d40 hr (aa (sv 1) (aa (aW aU aj (bW d25 hr (aa (sv 1) (aa aj af)))) af))))
   (ai (a9 (aH (bp hr.units) (bW d25 hr (aa (sv 1) (aa aj af))) aj (aC _)) (ao (sset 3 gm.nd (bW d37 hr (aa (sv 1) (aa (bW d26 hr (aa (sv 1) (aa (gW.lv (bE (aa aj (aa aj af)) (ag (ag ak)))) af))) (aa (bW d26 hr (aa (sv 1) (aa (gW.lv (bE (aa aj (aa aj af)) (ag (ag ak)))) af))) af)))))) aG)
   (ai (sset 4 gm.nd (cf (N':=["_law_deed"]) (caps:=[none]) (aL (by ac_nf)) rfl (bP (six hr (sv 3) aj)) (fun _ _ _ _ _=>(sgn 0 (by show(["_law_deed"]:List Str).Nodup;decide+kernel))) (fun _ _ _ _ _=>bx) (fun _ _ _ _ _=>(six hr (sv 0) aj))))
   (ai (g6 (i:=5) gm.nd (by ac_nf) (by ac_nf) (N':=["_law_deed","_law_names"]) (caps:=[none,some 4]) (aL (by ac_nf)) rfl (bP (six hr (sv 3) aj)) (fun _ _ _ _ _=>(sgn 0 (by show(["_law_deed","_law_names"]:List Str).Nodup;decide+kernel))) (fun _ _ _ _ _=>bx) (fun _ _ _ _ _=>(vP cm B.b3 bg (aa (q9 rfl (by unfold Gl;ac_nf) B.b1 (by unfold Gl;ac_nf) B.b2 (bW d39 hr (aa (six hr (sv 0) aj) (aa (sv 1) af)))) af))))
   (ai (a9 (SW.st (eW (bO (bA (bW d38 hr (aa (bW d20 hr (aa (sv 3) af)) (aa (vP cm B.b3 bg (aa (sv 5) af)) af))))) (dJ (aH Hf (bW d14 hr (aa (sv 3) af)) eD (aC _))))) (ao (au eD)) aG)
   (ai (sset 6 gm.nd (cf (N':=["_law_some"]) (caps:=[none]) (aL (by ac_nf)) rfl (bP (sv 5)) (fun _ _ _ _ _=>(sgn 0 (by show(["_law_some"]:List Str).Nodup;decide+kernel))) (fun _ _ _ _ _=>bx) (fun _ _ _ _ _=>(gW.ob (mK (by unfold Gl;ac_nf) B.b4 kJ (aa (sv 0) af) (ag ak))))))
   (ai (de QN rfl (cb (by unfold Gl;ac_nf) B.b0 (aa (dH bI B.b5 bJ (aa (sv 4) af)) af) (hl:=(ag ak))) (sgn 7 gm.nd) (ao (de QN rfl (cb (by unfold Gl;ac_nf) B.b0 (aa (dH bI B.b5 bJ (aa (sv 4) af)) af) (hl:=(ag ak))) (sgn 8 gm.nd) (ao (de QN rfl (bP (gW.lv (mK (by unfold Gl;ac_nf) B.b4 kJ (aa (six hr (sv 6) (sv 8)) af) (ag ak)))) (sgn 9 gm.nd) (ao (dC (mL (isT:=bU) eO QC RQ SF oX (six hr (sv 6) (sv 8)) (aa (cf (N':=["_law_more","_law_far","_law_one"]) (caps:=[none,some 6,some 8]) (aL (by ac_nf)) rfl (bP (six hr (sv 6) (sv 9))) (fun _ _ _ _ _=>(sgn 0 (by show(["_law_more","_law_far","_law_one"]:List Str).Nodup;decide+kernel))) (fun _ _ _ _ _=>(qx (aH (mV hr.units) (sv 0) (six hr (sv 1) (sv 2)) (by ac_nf)))) (fun _ _ _ _ _=>(sv 0))) af)))))))))
   (ai (sset 10 gm.nd (bW d22 hr (aa (sv 3) af)))
   (ao (a9 (SW.st (eW (bO (bA (dH cy B.b8 aB (aa (sv 10) (aa (qU B.b7 nI) af))))) (dJ (aH (rW hr.units) (sv 10) (dH (Fo rfl) B.b6 FI (aa (cf (N':=["_law_one","_law_far"]) (caps:=[none,some 6]) (aL (by ac_nf)) rfl (cb (by unfold Gl;ac_nf) B.b0 (aa (dH bI B.b5 bJ (aa (sv 4) af)) af) (hl:=(ag ak))) (fun _ _ _ _ _=>(sgn 0 (by show(["_law_one","_law_far"]:List Str).Nodup;decide+kernel))) (fun _ _ _ _ _=>bx) (fun _ _ _ _ _=>(cU (uM hr.units) (sv 0) (six hr (sv 1) (sv 0)) (by ac_nf)))) af)) (aC _))))) (ao (au eD)) aG)))))))))))
   (ao (au eD)))))
end
theorem f9:Hd.freeOk view (["SHAPES"]:List Str) ["abs","all","any","bool","enumerate","int","isinstance","len","list","max","min","range","set","sorted","str","tuple","zip"]=true:=by decide+kernel
abbrev Rc(x:Str)(s:Stmt):Prop:=(recsOf view).find? (fun e=>e.name==x)=some (Hd.uF x s)
theorem rD:Rc "_law_drawn" i6:=by ac_nf
theorem tW:Rc "_law_load" jJ:=by ac_nf
theorem tU:Rc "_law_next" jH:=by ac_nf
theorem x3:Rc "_law_of" oC:=by ac_nf
theorem oI:Rc "_law_calling" gL:=by ac_nf
theorem rC:Rc "_law_words" i5:=by ac_nf
theorem rB:Rc "_law_world" i0:=by ac_nf
theorem qf:Rc "_law_is_odd" il:=by ac_nf
theorem tS:Rc "_law_term" jF:=by ac_nf
theorem tX:Rc "_law_call" jK:=by ac_nf
theorem tV:Rc "_law_lock" jI:=by ac_nf
theorem wc:Rc "_law_lot" lG:=by ac_nf
theorem wb:Rc "_law_row" lF:=by ac_nf
theorem qe:Rc "_law_locked" ik:=by ac_nf
theorem mP:Rc "_law_two_ways" gn:=by ac_nf
theorem oH:Rc "_law_program" gK:=by ac_nf
theorem qg:Rc "_law_called" ip:=by ac_nf
theorem qc:Rc "is_tuple_of" ij:=by ac_nf
theorem xV:Rc "is_word" ox:=by ac_nf
theorem jL:Rc "are_unlike_words" eP:=by ac_nf
theorem tR:Rc "are_heads" jE:=by ac_nf
theorem tP:Rc "are_names" jC:=by ac_nf
theorem vY:Rc "is_whole" lC:=by ac_nf
theorem xW:Rc "is_term" oy:=by ac_nf
theorem xY:Rc "is_call" oA:=by ac_nf
theorem xX:Rc "is_lock" oz:=by ac_nf
theorem tQ:Rc "are_locks" jD:=by ac_nf
theorem lN:Rc "is_right_ahead" fK:=by ac_nf
theorem tO:Rc "is_shaped" jB:=by ac_nf
theorem xU:Rc "lots_of" ow:=by ac_nf
theorem tL:Rc "rows_left" jz:=by ac_nf
theorem rA:Rc "is_program" iZ:=by ac_nf
theorem tT:Rc "_law_same" jG:=by ac_nf
theorem oG:Rc "deed_numbers" gJ:=by ac_nf
theorem wa:Rc "calls_in" lE:=by ac_nf
theorem vX:Rc "paths_in" ly:=by ac_nf
theorem tN:Rc "places_of" jA:=by ac_nf
theorem xT:Rc "rows_of" ou:=by ac_nf
theorem vZ:Rc "calls_of" lD:=by ac_nf
theorem xZ:Rc "come_to" oB:=by ac_nf
theorem kP:Rc "comes_to_itself" fq:=by ac_nf
theorem GB:Rc "law" pK:=by ac_nf
theorem all_mk{l:PySem.W.OpenLaw}{w:World}{h:Heap}{mg mb:Str->Option Value}{mean:ExcName->Option Value}(T:Top view (PySem.W.looseW view (["SHAPES"]:List Str)) mean mg mb h)
  (Y_SHAPES:Hd.tabAt h "SHAPES"=some (gD.map fun x=>(x.1,hashStr w x.1,x.2)))
  (hF:∀ns:List Int,ns.length≤63->∃h',BF [.ro (ns.map D.int)] []=some (.bl true,h')):
  ∃(fa:Addr)(fd:FuncData),mg "law"=some (.ref fa)∧(∀(s:Shared)(v:Value),BindsTo s fd ⟨[v],[]⟩ [("_law_script",v)])∧∀base:Heap,(Hd.bB h).In base->base.Ns mainGlobals mg->bK l.prog w (Hd.bB h) mg base fH 32 fa fd ["_law_script"] (spT (Hd.bB h)):=by
 have B:Bs l.prog w (Hd.bB h) mg:=⟨Hd.cJ T f9 (P6 (i:=0) rfl),Hd.cJ T f9 (P6 (i:=1) rfl),Hd.cJ T f9 (P6 (i:=2) rfl),Hd.cJ T f9 (P6 (i:=3) rfl),Hd.cJ T f9 (P6 (i:=4) rfl),Hd.cJ T f9 (P6 (i:=5) rfl),Hd.cJ T f9 (P6 (i:=6) rfl),Hd.cJ T f9 (P6 (i:=7) rfl),Hd.cJ T f9 (P6 (i:=8) rfl),Hd.cJ T f9 (P6 (i:=9) rfl),Hd.cJ T f9 (P6 (i:=10) rfl),Hd.cJ T f9 (P6 (i:=11) rfl),Hd.cJ T f9 (P6 (i:=12) rfl),Hd.cJ T f9 (P6 (i:=13) rfl),Hd.cJ T f9 (P6 (i:=14) rfl),Hd.cJ T f9 (P6 (i:=15) rfl),Hd.cJ T f9 (P6 (i:=16) rfl),Hd.fX T (by ac_nf),Hd.fX T (by ac_nf),Hd.fX T (by ac_nf),Hd.fX T (by ac_nf),Hd.HR T (by ac_nf) (by decide+kernel),Hd.fX T (by ac_nf),Hd.fX T (by ac_nf),Hd.fX T (by ac_nf),Hd.fX T (by ac_nf),Hd.fX T (by ac_nf),Hd.fX T (by ac_nf),Hd.tab_of Y_SHAPES T.g (by decide+kernel)⟩;obtain⟨f12,fd12,m12,F12⟩:=Hd.vg T wc;have k12:=F12.kp;have IQ:=F12.binds (ps:=fO) fun _ _ _ _ _ _=>Hd.u7 (fun _ _ _ _ _ _ _=>rfl);obtain⟨f13,fd13,m13,F13⟩:=Hd.vg T wb;have k13:=F13.kp;have NP:=F13.binds (ps:=fN) fun _ _ _ _ _ _=>Hd.u6 (fun _ _ _ _ _ _=>rfl);obtain⟨f14,fd14,m14,F14⟩:=Hd.vg T qe;have k14:=F14.kp;have Gg:=F14.binds (ps:=du) fun _ _ _ _ _ _=>Hd.u7 (fun _ _ _ _ _ _ _=>rfl);obtain⟨f15,fd15,m15,F15⟩:=Hd.vg T mP;have k15:=F15.kp;have Ic:=F15.binds (ps:=cB) fun _ _ _ _ _ _=>Hd.u6 (fun _ _ _ _ _ _=>rfl);obtain⟨f42,fd42,m42,F42⟩:=Hd.vg T GB;refine⟨f42,fd42,m42,F42.one fun _ _ _ _ _ _ _=>rfl,fun base _ _=>?_⟩;have d23:nS l.prog w (Hd.bB h) mg base:=Hd.bQ T rD (fun F=>F.binds fun _ _ _ _ _ _=>Hd.u1 (fun _=>rfl)) fun F _ _ _=>t7 F B;have d24:p9 l.prog w (Hd.bB h) mg base:=Hd.bQ T tW (fun F=>F.binds fun _ _ _ _ _ _=>Hd.u1 (fun _=>rfl)) fun F _ _ _=>wJ F B;have d25:cu l.prog w (Hd.bB h) mg base:=Hd.bQ T tU (fun F=>F.binds fun _ _ _ _ _ _=>Hd.u2 (fun _ _=>rfl)) fun F _ _ _=>wH F B d24;have d26:eA l.prog w (Hd.bB h) mg base:=Hd.bQ T x3 (fun F=>F.binds fun _ _ _ _ _ _=>Hd.u2 (fun _ _=>rfl)) fun F _ _ _=>zO F B d25;have d40:km l.prog w (Hd.bB h) mg base:=Hd.bQ T oI (fun F=>F.binds fun _ _ _ _ _ _=>Hd.u2 (fun _ _=>rfl)) fun F _ _ _=>qj F B d25 d26;have d27:nR l.prog w (Hd.bB h) mg base:=Hd.bQ T rC (fun F=>F.binds fun _ _ _ _ _ _=>Hd.u2 (fun _ _=>rfl)) fun F _ _ _=>t6 F B d26 d25;have d28:nQ l.prog w (Hd.bB h) mg base:=Hd.bQ T rB (fun F=>F.binds fun _ _ _ _ _ _=>Hd.u3 (fun _ _ _=>rfl)) fun F _ _ _=>t5 F B d27 d26 d25;have d29:iA l.prog w (Hd.bB h) mg base:=Hd.bQ T qf (fun F=>F.binds fun _ _ _ _ _ _=>Hd.u2 (fun _ _=>rfl)) fun F _ _ _=>rZ F B d25;have d30:hZ l.prog w (Hd.bB h) mg base:=Hd.bQ T tS (fun F=>F.binds fun _ _ _ _ _ _=>Hd.u2 (fun _ _=>rfl)) fun F _ _ _=>wG F B d25 d26;have d32:qa l.prog w (Hd.bB h) mg base:=Hd.bQ T tX (fun F=>F.binds fun _ _ _ _ _ _=>Hd.u4 (fun _ _ _ _=>rfl)) fun F _ _ _=>wK F B d29 d26 d30;have d31:p8 l.prog w (Hd.bB h) mg base:=Hd.bQ T tV (fun F=>F.binds fun _ _ _ _ _ _=>Hd.u5 (fun _ _ _ _ _=>rfl)) fun F _ _ _=>wI F B d25 d29 d30;have okr:=A9 (P:=l.prog) (w:=w) (base:=base) F12 k12 IQ m12 F13 k13 NP m13 F14 k14 Gg m14 F15 k15 Ic m15 B d25 d26 d32 d30 d31 20;have d36:tw l.prog w (Hd.bB h) mg base:=⟨f12,_,okr.1,k12,IQ,m12⟩;have d35:AH l.prog w (Hd.bB h) mg base:=⟨f13,_,okr.2.1,k13,NP,m13⟩;have d34:uo l.prog w (Hd.bB h) mg base:=⟨f14,_,okr.2.2.1,k14,Gg,m14⟩;have d33:qp l.prog w (Hd.bB h) mg base:=⟨f15,_,okr.2.2.2,k15,Ic,m15⟩;have d37:kl l.prog w (Hd.bB h) mg base:=Hd.bQ T oH (fun F=>F.binds fun _ _ _ _ _ _=>Hd.u3 (fun _ _ _=>rfl)) fun F _ _ _=>qi F B d28 d36 d26;have d39:k7 l.prog w (Hd.bB h) mg base:=Hd.bQ T qg (fun F=>F.binds fun _ _ _ _ _ _=>Hd.u2 (fun _ _=>rfl)) fun F k b m=>jW F B k b m  30;have d1:dw l.prog w (Hd.bB h) mg base:=Hd.bQ T qc (fun F=>F.binds fun _ _ _ _ _ _=>Hd.u2 (fun _ _=>rfl)) fun F _ _ _=>rY F B;have d2:kK l.prog w (Hd.bB h) mg base:=Hd.bQ T xV (fun F=>F.binds fun _ _ _ _ _ _=>Hd.u1 (fun _=>rfl)) fun F _ _ _=>zJ F B;have d6:eU l.prog w (Hd.bB h) mg base:=Hd.bQ T jL (fun F=>F.binds fun _ _ _ _ _ _=>Hd.u3 (fun _ _ _=>rfl)) fun F _ _ _=>kQ F B d2;have d8:p6 l.prog w (Hd.bB h) mg base:=Hd.bQ T tR (fun F=>F.binds fun _ _ _ _ _ _=>Hd.u1 (fun _=>rfl)) fun F _ _ _=>wF F B d1 d6;have d7:p4 l.prog w (Hd.bB h) mg base:=Hd.bQ T tP (fun F=>F.binds fun _ _ _ _ _ _=>Hd.u1 (fun _=>rfl)) fun F _ _ _=>wC F B d6;have d0:tq l.prog w (Hd.bB h) mg base:=Hd.bQ T vY (fun F=>F.binds fun _ _ _ _ _ _=>Hd.u1 (fun _=>rfl)) fun F _ _ _=>yh F B;have d3:kM l.prog w (Hd.bB h) mg base:=Hd.bQ T xW (fun F=>F.binds fun _ _ _ _ _ _=>Hd.u2 (fun _ _=>rfl)) fun F _ _ _=>zK F B d1 d0;have d10:vE l.prog w (Hd.bB h) mg base:=Hd.bQ T xY (fun F=>F.binds fun _ _ _ _ _ _=>Hd.u4 (fun _ _ _ _=>rfl)) fun F _ _ _=>zM F B d1 d2 d3;have d4:pF l.prog w (Hd.bB h) mg base:=Hd.bQ T xX (fun F=>F.binds fun _ _ _ _ _ _=>Hd.u3 (fun _ _ _=>rfl)) fun F _ _ _=>zL F B d1 d3;have d9:p5 l.prog w (Hd.bB h) mg base:=Hd.bQ T tQ (fun F=>F.binds fun _ _ _ _ _ _=>Hd.u3 (fun _ _ _=>rfl)) fun F _ _ _=>wD F B d4;have d12:iP l.prog w (Hd.bB h) mg base:=Hd.bQ T lN (fun F=>F.binds fun _ _ _ _ _ _=>Hd.u4 (fun _ _ _ _=>rfl)) fun F _ _ _=>mX F B d2 d10 d9 d4 d3;have d11:pZ l.prog w (Hd.bB h) mg base:=Hd.bQ T tO (fun F=>F.binds fun _ _ _ _ _ _=>Hd.u1 (fun _=>rfl)) fun F _ _ _=>wB F B;have d5:pE l.prog w (Hd.bB h) mg base:=Hd.bQ T xU (fun F=>F.binds fun _ _ _ _ _ _=>Hd.u1 (fun _=>rfl)) fun F _ _ _=>zI F B;have d13:pX l.prog w (Hd.bB h) mg base:=Hd.bQ T tL (fun F=>F.binds fun _ _ _ _ _ _=>Hd.u6 (fun _ _ _ _ _ _=>rfl)) fun F k b m=>mW F B k b m d12 d11 d5 8;have d14:nP l.prog w (Hd.bB h) mg base:=Hd.bQ T rA (fun F=>F.binds fun _ _ _ _ _ _=>Hd.u1 (fun _=>rfl)) fun F _ _ _=>t4 F B d1 d8 d7 d13;have d38:p7 l.prog w (Hd.bB h) mg base:=Hd.bQ T tT (fun F=>F.binds fun _ _ _ _ _ _=>Hd.u2 (fun _ _=>rfl)) fun F k b m=>mY F B k b m  20;have d18:kj l.prog w (Hd.bB h) mg base:=Hd.bQ T oG (fun F=>F.binds fun _ _ _ _ _ _=>Hd.u1 (fun _=>rfl)) fun F _ _ _=>qh F B;have d19:tu l.prog w (Hd.bB h) mg base:=Hd.bQ T wa (fun F=>F.binds fun _ _ _ _ _ _=>Hd.u2 (fun _ _=>rfl)) fun F _ _ _=>yj F B d18;have d15:tj l.prog w (Hd.bB h) mg base:=Hd.bQ T vX (fun F=>F.binds fun _ _ _ _ _ _=>Hd.u2 (fun _ _=>rfl)) fun F k b m=>pP F B k b m d5 10;have d16:pY l.prog w (Hd.bB h) mg base:=Hd.bQ T tN (fun F=>F.binds fun _ _ _ _ _ _=>Hd.u1 (fun _=>rfl)) fun F _ _ _=>wA F B d15;have d17:vD l.prog w (Hd.bB h) mg base:=Hd.bQ T xT (fun F=>F.binds fun _ _ _ _ _ _=>Hd.u1 (fun _=>rfl)) fun F _ _ _=>zH F B d16;have d20:mw l.prog w (Hd.bB h) mg base:=Hd.bQ T vZ (fun F=>F.binds fun _ _ _ _ _ _=>Hd.u1 (fun _=>rfl)) fun F _ _ _=>yi F B d19 d17;have d21:vF l.prog w (Hd.bB h) mg base:=Hd.bQ T xZ (fun F=>F.binds fun _ _ _ _ _ _=>Hd.u2 (fun _ _=>rfl)) fun F _ _ _=>zN F B;have d22:hY l.prog w (Hd.bB h) mg base:=Hd.bQ T kP (fun F=>F.binds fun _ _ _ _ _ _=>Hd.u1 (fun _=>rfl)) fun F _ _ _=>lY F B d20 d21;exact Ht (KD F42 B d23 d40 d25 d37 d26 d39 d14 d38 d20 d22) hF
end Mi
local macro_rules | `(tactic| walk_at "o") => `(tactic| with_reducible first
 | refine Sm.fu ?_ | refine Sm.lg ?_ | refine Sm.rG ?_ | refine Sm.MG ?_ | refine Sm.JL ?_ | refine Sm.uG ?_ | refine Sm.rE ?_ | refine Sm.iq ?_ | refine Sm.MB ?_ | refine Sm.JH ?_ | refine Sm.GG ?_
 | refine Sm.GH ?_ | refine Sm.Oi ?_ | refine Sm.PH ?_ | refine Sm.B7 ?_ | refine Sm.rH ?_ | refine Sm.x5 ?_ | refine Sm.Om ?_ | refine Sm.B6 ?_ | refine Sm.MC ?_ | refine Sm.Ot ?_ | refine Sm.Ou ?_
 | refine Sm.rJ ?_ | refine Sm.wg ?_ | refine Sm.lP ?_ | refine Sm.JG ?_ | refine Sm.D2 ?_ | refine Sm.D6 ?_ | refine Sm.Ol ?_ | refine Sm.MD ?_
 | refine Sm.Oj ?_ | refine Sm.Mz ?_ | refine Sm.MA ?_ | refine Sm.Oq ?_ | refine Sm.JK ?_ | refine Sm.D4 ?_ | refine Sm.GI ?_ | refine Sm.x6 ?_ | refine Sm.JM ?_
 | refine Sm.OH ?_ | refine Sm.OI ?_ | refine Sm.NX ?_ | refine Sm.NZ ?_ | refine Sm.NY ?_ | refine Sm.EL ?_ | refine Sm.ON ?_ | refine Sm.OO ?_ | refine Sm.OM ?_)
local macro_rules | `(tactic| walk_at "g") => `(tactic|(repeat(first | walk_at "o" | with_reducible refine Sm.D1 ?_ | with_reducible refine Sm.IB ?_));(try dsimp only))
local macro_rules | `(tactic| nofun) => `(tactic|(repeat(first | walk_at "o" | with_reducible refine Sm.D1 ?_ | with_reducible refine Sm.IB ?_ | with_reducible refine Sm.LZ ?_ | with_reducible refine Sm.L4 ?_ | with_reducible refine Sm.w_add ?_ | with_reducible refine Sm.w_sub ?_ | with_reducible refine Sm.w_lt ?_ | with_reducible refine Sm.NU ?_ | with_reducible refine Sm.NV ?_ | with_reducible refine Sm.NW ?_ | with_reducible refine Sm.Mb ?_ | with_reducible refine Sm.L6 ?_ | with_reducible refine Sm.Ma ?_ | with_reducible refine Sm.L5 ?_ | with_reducible refine Sm.L9 ?_ | with_reducible refine Sm.L8 ?_ | with_reducible refine Sm.L7 ?_ | with_reducible refine Sm.IX ?_ | with_reducible refine Sm.IY ?_ | with_reducible refine Sm.zA ?_));(try dsimp only))
namespace Mi
open PySem Sm
theorem lK(hb:0 < b)(q:Q (.int (a % b),h)):Rn (sC (.int a) (.int b) h) Q:=⟨_,by unfold sC;dsimp only;rw[P7 hb],q⟩
theorem JA(hb:0 < b)(hb2:b≤10^40)(q:Q (.int (a / b),h)):Rn (E8 (.int a) (.int b) h) Q:=⟨_,by unfold E8;dsimp only;rw[P7 ⟨hb,hb2⟩],q⟩
theorem oD(hb:m5 a b=true)(q:Q (.int (a*b),h)):Rn (j8 (.int a) (.int b) h) Q:=⟨_,by show(if m5 a b then _ else _)=_;rw[P7 hb],q⟩
theorem mul_r(h1:-(2^64) < b)(h2:b < 2^64):m5 a b=true:=by unfold m5;simp only[So,Qq,QT];exact .inr ⟨h1,h2⟩
theorem ED(h1:-(2^64) < a)(h2:a < 2^64):m5 a b=true:=by unfold m5;simp only[So,Qq,QT];exact .inl ⟨h1,h2⟩
theorem Cr{h:MH}{s c:Nat}{cs:List Int}{n t:Int}(hs:h[s]?=some (.lst [.int n,.ob c,.int t]))(hc:h[c]?=some (.lst (cs.map D.int)))(ne:c≠s)(t0:0≤t)(tB:t < 2^60):
  Rn (ig [.ob s] h) fun p=>∃n',0≤n'∧p=(.cC,h.set s (.lst [.int n',.ob c,.int (t+1)])):=by
 have hl:s < h.length:=(P4.mp hs).1;generalize hH:h.set s (.lst [.int n,.ob c,.int (t+1)])=H;have Hs:H[s]?=some (.lst [.int n,.ob c,.int (t+1)]):=by rw[←hH];exact Rh hl
 have Hc:H[c]?=some (.lst (cs.map D.int)):=by rw[←hH,Q4 (Ru ne)];exact hc
 have set0:∀v:Int,uc (.ob s) (.int 0) (.int v) H=some (h.set s (.lst [.int v,.ob c,.int (t+1)])):=fun v=>by
  rw[xb (p:=0) Hs rfl,←hH,List.set_set];rfl
 have e3:uc (.ob s) (.int 2) (.int (t+1)) h=some H:=by rw[xb (p:=2) hs rfl,←hH];rfl
 have e4:cx [.ob c] H=some (.int cs.length,H):=by rw[Bl Hc,P1]
 refine cq ?_;walk_at "g";refine rv (j9 hs rfl) ?_;walk_at "g";refine rv (j9 hs rfl) ?_;walk_at "g";refine rv rfl ?_;walk_at "g";refine rv e3 ?_;walk_at "g";refine rv (CJ Hc) ⟨_,rfl,fun hne=>?pos,fun hne=>?neg⟩
 case' pos=>
  have hpos:0 < cs.length:=by cases cs with | nil=>simp at hne | cons _ _=>simp
  walk_at "g";refine rv e4 (lK (by lia) ?_);obtain⟨z,hz⟩:=FO cs (t % (cs.length:Int)) (Rv _ (by lia)) (RJ _ (by lia));refine rv (j9 Hc hz) ?_
 all_goals
  walk_at "g";refine rv e4 (rv rfl ⟨_,rfl,?_⟩);refine(fun mix=>⟨fun c1=>?thenA,fun _=>⟨fun z=>(nomatch z),fun _=>mix⟩⟩) ?thenB
  case thenA=>
   walk_at "g";refine rv rfl ?_;walk_at "g";refine rv rfl (rv rfl ⟨_,rfl,fun c2=>?_,fun _=>mix⟩);walk_at "g";refine rv rfl ?_;walk_at "g";refine rv (set0 _) ?_;walk_at "g";exact⟨_,by split <;> lia,rfl⟩
  case thenB=>
   walk_at "g";refine lK (by decide) ?_;walk_at "g";refine oD (ED (by decide) (by decide)) ?_;walk_at "g";refine oD (mul_r (by lia) (by lia)) (rv rfl ?_);walk_at "g";refine rv rfl ?_;walk_at "g";refine oD (mul_r (by decide) (by decide)) ?_;walk_at "g";refine lK (by decide) ?_;walk_at "g";refine oD (ED (Int.lt_of_lt_of_le (by decide) (Rv _ (by decide))) (Int.lt_trans (RJ _ (by decide)) (by decide))) ?_;walk_at "g";refine lK (by decide) ?_;walk_at "g";refine oD (mul_r (by decide) (by decide)) ?_;walk_at "g";refine rv rfl ?_;walk_at "g";refine rv rfl ?_;walk_at "g";refine lK (by decide) ?_;walk_at "g";refine rv rfl (rv rfl ?_);walk_at "g";refine rv (set0 _) ?_;walk_at "g";exact⟨_,Int.add_nonneg (Rv _ (by decide)) (by decide),rfl⟩
structure St(s c:Nat)(cs:List Int)(R:Nat)(h:MH):Prop where
 st:∃n t:Int,h[s]?=some (.lst [.int n,.ob c,.int t])∧0≤n∧0≤t∧t+R≤2^60
 ce:h[c]?=some (.lst (cs.map D.int))
 ne:c≠s
def vG(s:Nat)(h h':MH):Prop:=h'.length=h.length∧∀k,k≠s->h'[k]?=h[k]?
theorem vG.refl(s:Nat)(h:MH):vG s h h:=⟨rfl,fun _ _=>rfl⟩
theorem vG.trans(a:vG s h h1)(b:vG s h1 h2):vG s h h2:=⟨b.1.trans a.1,fun k n=>(b.2 k n).trans (a.2 k n)⟩
theorem vG.set:vG s h (h.set s o):=⟨RF,fun k n=>Q4 (Ru n)⟩
section
variable {s c R:Nat} {cs:List Int} {h:MH}
theorem St.le(S:St s c cs R h)(hB:R'≤R):St s c cs R' h:=by
 obtain⟨n,t,e,a,b,d⟩:=S.st;exact⟨⟨n,t,e,a,b,by lia⟩,S.ce,S.ne⟩
theorem St.dn(k:Nat)(S:St s c cs (R+k) h):St s c cs R h:=S.le (QD _ _)
theorem St.set{R':Nat}{n t:Int}(S:St s c cs R h)(h1:0≤n)(h2:0≤t)(h3:t+R'≤2^60):St s c cs R' (h.set s (.lst [.int n,.ob c,.int t])):=by
 obtain⟨n0,t0,e,_⟩:=S.st;exact⟨⟨n,t,Rh (P4.mp e).1,h1,h2,h3⟩,by rw[Q4 (Ru S.ne)];exact S.ce,S.ne⟩
theorem St.more(S:St s c cs R h)(g:MH):St s c cs R (h++g):=by
 obtain⟨n,t,e,r⟩:=S.st;exact⟨⟨n,t,by rw[Qk (P4.mp e).1];exact e,r⟩,by rw[Qk (P4.mp S.ce).1];exact S.ce,S.ne⟩
theorem St.off(S:St s c cs R h)(h1:k≠s)(h2:k≠c):St s c cs R (h.set k o):=by
 obtain⟨n,t,e,r⟩:=S.st;exact⟨⟨n,t,by rw[Q4 h1];exact e,r⟩,by rw[Q4 h2];exact S.ce,S.ne⟩
theorem St.lt(S:St s c cs R h):s < h.length∧c < h.length:=by
 obtain⟨n,t,e,r⟩:=S.st;exact⟨(P4.mp e).1,(P4.mp S.ce).1⟩
structure Sb(s c:Nat)(cs:List Int)(h0:MH)(R:Nat)(h:MH):Prop where
 S:St s c cs R h
 b:vG s h0 h
theorem St.sb(S:St s c cs R h):Sb s c cs h R h:=⟨S,vG.refl _ _⟩
theorem Sb.dn(k:Nat)(A:Sb s c cs h0 (R+k) h):Sb s c cs h0 R h:=⟨A.S.dn k,A.b⟩
theorem Sb.le(A:Sb s c cs h0 R h)(hR:R'≤R):Sb s c cs h0 R' h:=⟨A.S.le hR,A.b⟩
theorem Sb.at_(A:Sb s c cs h0 R h)(e:h0[k]?=some o)(n:k≠s):h[k]?=some o:=(A.b.2 k n).trans e
theorem Sb.tr(A:Sb s c cs h0 R h)(b:vG s h1 h0):Sb s c cs h1 R h:=⟨A.S,b.trans A.b⟩
variable {h0:MH}
theorem eT{m:Int}{Q:D×MH->Prop}(A:Sb s c cs h0 (R+1) h)(m0:0 < m)(m1:m≤10^40)(k:∀(r:Int)(h1:MH),0≤r->r < m->Sb s c cs h0 R h1->Q (.int r,h1)):Rn (aE [.ob s,.int m] h) Q:=by
 have S:=A.S;obtain⟨n,t,hs,n0,t0,tB⟩:=S.st;refine cq ?_;walk_at "g";refine rv (j9 hs rfl) ?_;walk_at "g";refine rv rfl ⟨_,rfl,fun _=>?pos,fun _=>?neg⟩
 case' pos=>
  walk_at "g";obtain⟨p,ep,n',n0',rfl⟩:=Cr hs S.ce S.ne t0 (by lia);refine rv ep ?_;have S1:St s c cs R (h.set s (.lst [.int n',.ob c,.int (t+1)])):=S.set n0' (by lia) (by lia);have b1:vG s h (h.set s (.lst [.int n',.ob c,.int (t+1)])):=vG.set
 case' neg=>
  have S1:St s c cs R h:=S.dn 1;have b1:vG s h h:=vG.refl s h
 all_goals
  generalize h.set s (MO.lst [D.int _,D.ob c,D.int (t+1)])=h1 at*;obtain⟨n2,t2,hs2,n02,t02,tB2⟩:=S1.st;walk_at "g";refine rv (j9 hs2 rfl) ?_;walk_at "g";refine lK m0 ?_;walk_at "g";refine rv (j9 hs2 rfl) ?_;walk_at "g";refine JA m0 m1 ?_;walk_at "g";refine rv (xb (p:=0) hs2 rfl) ?_;walk_at "g";exact k _ _ (Rv _ (by lia)) (RJ _ m0) ⟨S1.set (Int.ediv_nonneg n02 (by lia)) t02 tB2,A.b.trans (b1.trans vG.set)⟩
theorem FG(A:Sb s c cs h0 (R+1) h)(hd:d=.lv xs∨d=.tup xs)(l0:0 < xs.length)(l1:xs.length≤1000000)(k:∀(x:D)(h1:MH),x∈xs->Sb s c cs h0 R h1->Q (x,h1)):Rn (aR [.ob s,d] h) Q:=by
 refine cq ?_;walk_at "g";have e1:cx [d] h=some (.int xs.length,h):=by rcases hd with rfl | rfl <;> rfl
 refine rv e1 ?_;walk_at "g";refine eT A (by lia) (by lia) fun r h' r0 r1 A1=>?_;obtain⟨v,e3,hv⟩:=FL r0 r1;have e4:aY d (.int r) h'=some (v,h'):=by rcases hd with rfl | rfl <;> simp only[aY,eu,cR,QB,e3,QA]
 refine rv e4 ?_;walk_at "g";exact k v h' hv A1
theorem k5{is:List Int}{Q:D×MH->Prop}(P:Int->Prop)(hP:∀i∈is,P i)(A:Sb s c cs h0 (R+1) h)(k:∀(i:Int)(h1:MH),P i->i∈is->Sb s c cs h0 R h1->Q (.int i,h1))(l0:0 < is.length:=by simp)(l1:is.length≤1000:=by simp):Rn (aR [.ob s,.lv (is.map D.int)] h) Q:=
 FG A (.inl rfl) (by rw[P1];exact l0) (by rw[P1];lia) fun x h1 hx A1=>by
  obtain⟨i,hi,rfl⟩:=Ql.mp hx;exact k i h1 (hP i hi) hi A1
end
theorem Ak(ns:List Int)(hn:ns.length≤63)(R:Nat)(hR:R≤2^60):∃cs:List Int,fD [.ro (ns.map D.int)] []=some (.ob 1,[.lst (cs.map D.int),.lst [.int 0,.ob 0,.int 0]])∧St 1 0 cs R [.lst (cs.map D.int),.lst [.int 0,.ob 0,.int 0]]:=by
 refine⟨(ns.drop (HT.dm ns.length 0 none)).take (HT.dm ns.length ns.length (some 63)-HT.dm ns.length 0 none),?_,⟨⟨0,0,rfl,by decide,by decide,by lia⟩,rfl,by decide⟩⟩;have e:Rn (fD [.ro (ns.map D.int)] []) fun p=>p=(.ob 1,[.lst (((ns.drop (HT.dm ns.length 0 none)).take (HT.dm ns.length ns.length (some 63)-HT.dm ns.length 0 none)).map D.int),.lst [.int 0,.ob 0,.int 0]]):=by
  refine cq ?_;walk_at "g";refine wk ?_;walk_at "g";refine⟨_,rfl,rv rfl ?_⟩;walk_at "g";refine⟨_,_,_,rfl,rfl,?_⟩;walk_at "g";simp only[cutD,P1,List.map_drop,List.map_take,RG,RX,Ue,Qv]
 obtain⟨p,ep,rfl⟩:=e;exact ep
end Mi
namespace Mi
open PySem Sm L2
theorem o7(hl:a.length+b.length≤10000):br (.str a) (.str b) h=some (.str (a++b),h):=by
 show(if a.length+b.length≤sizeLine then some (D.str (a++b),h) else none)=_;rw[P7 (by rw[show sizeLine=16777216 from rfl];lia)]
theorem yD(hl:a.length≤10000):cx [.str a] h=some (.int a.length,h):=by
 show(if a.length≤sizeLine then some (D.int a.length,h) else none)=_;rw[P7 (by rw[show sizeLine=16777216 from rfl];lia)]
theorem yC(hl:a.length≤10000):CI (.str a) lo hi h=some (.str (Txt.slice a lo hi),h):=by
 show(if a.length≤sizeLine then some (D.str (Txt.slice a lo hi),h) else none)=_;rw[P7 (by rw[show sizeLine=16777216 from rfl];lia)]
noncomputable def sN(z:Str)(i:Int):Str:=match iz z.cps.toList i with
 | some c=>⟨#[c]⟩
 | none=>""
theorem HJ(hl:z.length≤10000)(h0:0≤i)(h1:i < z.cps.toList.length):(sN z i).length=1∧aY (.str z) (.int i) h=some (.str (sN z i),h):=by
 obtain⟨v,e,_⟩:=FL (xs:=z.cps.toList) h0 h1;have e1:sN z i=⟨#[v]⟩:=by unfold sN;rw[e]
 rw[e1];refine⟨rfl,?_⟩;show(if z.length≤sizeLine then(iz z.cps.toList i).map fun c=>(D.str ⟨#[c]⟩,h) else none)=_;rw[P7 (by rw[show sizeLine=16777216 from rfl];lia),e];rfl
noncomputable def fW:Str:="abcdefghijklmnopqrstuvwxyz"
theorem md(h0:0≤i)(h1:i < 26):(sN fW i).length=1∧aY (.str "abcdefghijklmnopqrstuvwxyz") (.int i) h=some (.str (sN fW i),h):=
 HJ (z:=fW) (by decide) h0 (by rw[show(fW.cps.toList.length:Int)=26 by decide];exact h1)
def low(w:Str):Prop:=∀c∈w.cps,97≤c∧c≤122
theorem Hm:low "":=fun c hc=>absurd (show c∈(#[]:Array Nat) from hc) (by simp)
theorem wM(ha:low a)(hb:low b):low (a++b):=by
 intro c hc;have hc':c∈a.cps++b.cps:=hc;rcases Array.mem_append.mp hc' with z | z
 ·exact ha c z
 ·exact hb c z
theorem uU(l u:Option Int)(h:low x):low (Txt.slice x l u):=by
 unfold Txt.slice
 split
 ·exact h
 ·intro c hc;have hc':c∈(List.filterMap (x.cps[·]?) (Builtin.Str.strSliceIndices l u 1 x.length)).toArray:=hc;rw[List.mem_toArray] at hc';obtain⟨i,_,e⟩:=Sg.mp hc';exact h c (Us e)
theorem zW(h:low w):PyData.strOk w=true:=kr.mpr fun c hc=>by have:=(h c hc).2;lia
theorem zZ:fW.cps.toList=(List.range 26).map (97+·):=by decide+kernel
theorem xl(h0:0≤i)(h1:i < 26):sN fW i=⟨#[97+i.toNat]⟩:=by
 obtain⟨n,rfl⟩:=Rf h0;have:iz fW.cps.toList (n:Int)=some (97+n):=by
  rw[zZ];exact nK (by rw[Qi,R8 (by lia)];rfl)
 unfold sN;rw[this];rfl
theorem yP(h0:0≤i)(h1:i < 26):low (sN fW i):=by
 rw[xl h0 h1];intro c hc;have:c=97+i.toNat:=by simpa using hc
 lia
theorem xO(h0:0≤j):(Txt.slice x none (some j)).length≤j.toNat:=by
 have key:(Builtin.Str.strSliceIndices none (some j) 1 x.length).length≤j.toNat:=by
  unfold Builtin.Str.strSliceIndices sliceRange;simp only[show(1:Int) > 0 by decide,SR,P1,Qt]
  (split <;> (try split) <;> (try split) <;> (try simp only[Vt]) <;> lia)
 unfold Txt.slice
 split
 ·next z=>simp at z;have:x.cps.size=x.length:=rfl;lia
 ·show(List.filterMap _ (Builtin.Str.strSliceIndices none (some j) 1 x.length)).toArray.size≤_;rw[Qh];exact Qm (RK _ _) key
theorem xN(h0:0≤j):(Txt.slice x (some j) none).length≤x.length-j.toNat:=by
 have key:(Builtin.Str.strSliceIndices (some j) none 1 x.length).length≤x.length-j.toNat:=by
  unfold Builtin.Str.strSliceIndices sliceRange;simp only[show(1:Int) > 0 by decide,SR,P1,Qt]
  (split <;> (try split) <;> (try split) <;> (try simp only[Vt]) <;> lia)
 unfold Txt.slice
 split
 ·next z=>simp at z;have:x.cps.size=x.length:=rfl;lia
 ·show(List.filterMap _ (Builtin.Str.strSliceIndices (some j) none 1 x.length)).toArray.size≤_;rw[Qh];exact Qm (RK _ _) key
theorem AB{a b x y:Str}(e:a++x++b=a++y++b):x=y:=by
 have e1:(a.cps++x.cps)++b.cps=(a.cps++y.cps)++b.cps:=congrArg Str.cps e;have e2:=congrArg Array.toList e1;simp only[Array.toList_append] at e2;have e3:=List.append_cancel_left (List.append_cancel_right e2);cases x;cases y;exact congrArg Str.mk (Array.toList_inj.mp e3)
noncomputable def wordAt(stem:Str)(at_ first stride:Int)(k:Int):Str:=Txt.slice stem none (some at_)++sN fW ((first+stride*k) % 26)++Txt.slice stem (some at_) none
theorem Ds{stem:Str}{at_ first stride:Int}{k j:Nat}(hs:stride∈[1,3,5,7,9,11])(hk:k < 6)(hj:j < 6)(e:wordAt stem at_ first stride k=wordAt stem at_ first stride j):k=j:=by
 have e1:=AB (show Txt.slice stem none (some at_)++_++Txt.slice stem (some at_) none=Txt.slice stem none (some at_)++_++_ from e);rw[xl (Rv _ (by decide)) (RJ _ (by decide)),xl (Rv _ (by decide)) (RJ _ (by decide))] at e1;have e2:97+((first+stride*k) % 26).toNat=97+((first+stride*j) % 26).toNat:=by injection e1 with e1;injection e1 with e1;injection e1
 have e3:(first+stride*k) % 26=(first+stride*j) % 26:=by
  have a1:=Rv (first+stride*k) (show(26:Int)≠0 by decide);have a2:=Rv (first+stride*j) (show(26:Int)≠0 by decide)
  lia
 simp at hs;rcases hs with rfl | rfl | rfl | rfl | rfl | rfl <;> lia
theorem xt{h:MH}{s c R:Nat}{cs:List Int}{m:Int}{h0:MH}{Q:D×MH->Prop}(A:Sb s c cs h0 (R+20) h)(m0:0≤m)(m1:m≤6)
  (kk:∀(ws:List Str)(h1:MH),ws.length=m.toNat->(∀w∈ws,1≤w.length∧w.length≤7∧low w)->ws.Nodup->Sb s c cs h0 R h1->Q (.lv (ws.map D.str),h1)):Rn (eC [.ob s,.int m] h) Q:=by
 refine cq ?_;walk_at "g";refine fv ?_;walk_at "g";refine k5 (is:=[0,1,1,2,3,6]) (fun i=>0≤i∧i≤6) (by decide) A fun k h1 hk _ A1=>?_;walk_at "g";refine⟨k,rfl,by lia,by lia,?_⟩;refine cW (fun i δ h'=>∃stem d4,δ=[some (.ob s),some (.int m),some (.str "abcdefghijklmnopqrstuvwxyz"),some (.str stem),d4,none,none,none]∧stem.length≤i∧low stem∧Sb s c cs h0 (R+19-i) h')
  ⟨"",_,rfl,P8 _,Hm,A1⟩ (fun _ _ _ _ _=>rfl) ?_ ?_
 ·rintro i x δ h2 hx ⟨stem,d4,rfl,hst,bC,A2⟩;have hi:i < k.toNat:=by
   have:=(P4.mp hx).1
   simpa using this
  rw[show R+19-i=R+19-(i+1)+1 by lia] at A2;walk_at "g";refine eT A2 (by decide) (by decide) fun r h3 r0 r1 A3=>?_;walk_at "g";obtain⟨hc,e4⟩:=md (h:=h3) r0 r1;refine rv e4 ?_;walk_at "g";refine rv (o7 (by lia)) ?_;walk_at "g";exact⟨stem++sN fW r,_,rfl,by rw[SO];lia,wM bC (yP r0 r1),A3⟩
 ·rintro δ h2 ⟨stem,d4,rfl,hst,bC,A2⟩;rw[P1,Qt] at hst A2;have A2:Sb s c cs h0 (R+3) h2:=A2.le (by lia);walk_at "g";refine rv (yD (by lia)) ?_;walk_at "g";refine rv (a:=(.int ((stem.length:Int)+1),h2)) rfl ?_;walk_at "g";refine eT A2 (by lia) (by lia) fun at_ h3 a0 a1 A3=>?_
  walk_at "g";refine eT A3 (by decide) (by decide) fun first h4 f0 f1 A4=>?_
  walk_at "g";refine k5 (is:=[1,3,5,7,9,11]) (fun i=>0≤i∧i≤11) (by decide) A4 fun stride h5 ht tm A5=>?_;obtain⟨t0,t1⟩:=ht;walk_at "g";refine fv ?_;walk_at "g";refine⟨m,rfl,by lia,by lia,?_⟩;have hw:∀k:Int,1≤(wordAt stem at_ first stride k).length∧(wordAt stem at_ first stride k).length≤7∧low (wordAt stem at_ first stride k):=by
   intro k;have c0:=Rv (first+stride*k) (show(26:Int)≠0 by decide);have c1:=RJ (first+stride*k) (show(0:Int) < 26 by decide);obtain⟨hc,e⟩:=md (i:=(first+stride*k) % 26) (h:=[]) c0 c1;have s1:=xO (x:=stem) a0;have s2:=xN (x:=stem) a0;have s3:low (wordAt stem at_ first stride k):=wM (wM (uU _ _ bC) (yP c0 c1)) (uU _ _ bC);refine(fun(z:_∧_)=>⟨z.1,z.2,s3⟩) ?_;unfold wordAt;rw[SO,SO]
   lia
  refine rv (qD rfl (fun x=>match x with | .int k=>some (.str (wordAt stem at_ first stride k)) | _=>none) (fun δ=>∃d0,δ=[d0,some (.int at_),some (.int first),some (.str "abcdefghijklmnopqrstuvwxyz"),some (.str stem),some (.int stride)]) ⟨_,rfl⟩ ?_) ⟨?_,?_⟩
  ·rintro x hx δ ⟨d0,rfl⟩;obtain⟨k,hk,rfl⟩:=Ql.mp hx;refine rv rfl ⟨rfl,rv rfl ⟨rfl,⟨_,rfl⟩,fun _=>⟨_,rfl,?_⟩,fun z=>(nomatch z)⟩⟩;refine GH (GH (zA ?_));walk_at "g";refine⟨_,rfl,rv (yC (a:=stem) (by lia)) ?_⟩;walk_at "g";refine oD (ED (by lia) (by lia)) ?_;refine rv (a:=(.int (first+stride*(k:Int)),h5)) rfl ?_;walk_at "g";refine lK (by decide) ?_;obtain⟨hc,e⟩:=md (i:=(first+stride*(k:Int)) % 26) (h:=h5) (Rv _ (by decide)) (RJ _ (by decide));have s1:=Txt.slice_le stem none (some at_);have s2:=Txt.slice_le stem (some at_) none;refine rv e (rv (o7 (by lia)) ?_);refine zA ?_;walk_at "g";refine⟨_,rfl,?_⟩;walk_at "g";refine rv (yC (a:=stem) (by lia)) (rv (o7 (by rw[SO];lia)) ?_);rfl
  ·rw[Tv];exact Qm (RK _ _) (by rw[Qt,show sizeLine=16777216 from rfl];lia)
  ·walk_at "g";rw[show List.filterMap (fun x=>match x with | D.int k=>some (D.str (wordAt stem at_ first stride k)) | _=>none) ((List.range m.toNat).map fun(k:Nat)=>D.int k)=((List.range m.toNat).map fun(k:Nat)=>wordAt stem at_ first stride (k:Int)).map D.str by
    rw[Tv,QI];exact congrFun (Vz (f:=D.str∘fun(k:Nat)=>wordAt stem at_ first stride (k:Int))) _]
   refine kk _ h5 (by simp) (fun w hw'=>?_) ?_ A5
   ·obtain⟨k,_,rfl⟩:=Ql.mp hw';exact hw k
   ·rw[List.nodup_iff_pairwise_ne,List.pairwise_map];refine(List.nodup_range (n:=m.toNat)).imp_of_mem fun {a b} ha hb hab e=>hab ?_;have:=Q3.mp ha;have:=Q3.mp hb;exact Ds tm (by lia) (by lia) e
theorem St.cut{s c:Nat}{cs:List Int}{B:Nat}{hb g:MH}(S:Mi.St s c cs B (hb++g))(h1:s < hb.length)(h2:c < hb.length):Mi.St s c cs B hb:=by
 obtain⟨n,t,e,r⟩:=S.st;have e2:=S.ce;rw[Qk h1] at e;rw[Qk h2] at e2;exact⟨⟨n,t,e,r⟩,e2,S.ne⟩
def Cl(h:MH):Prop:=∀o∈h,zc h.length o=true
theorem Bv(n:Nat):∀js:List Int,gf n (js.map D.int)=true
 | []=>rfl
 | j::r=>by rw[Qd];show(iL n (.int _)&&gf n _)=true;rw[Bv n r];rfl
theorem Cl.but{s c:Nat}{cs:List Int}{B:Nat}{h h':MH}(C:Cl h)(S:Mi.St s c cs B h')(b:vG s h h'):Cl h':=by
 intro o ho;obtain⟨k,hk⟩:=RI.mp ho
 by_cases z:k=s
 ·subst z;obtain⟨n,t,e,_⟩:=S.st;rw[e] at hk;cases hk;show(true&&(decide (c < h'.length)&&(true&&true)))=true;rw[QO S.lt.2];rfl
 ·rw[b.2 k z] at hk;rw[b.1];exact C o (P6 hk)
theorem m8{h hb g:MH}{d:D}(hl:hb.length=h.length)(C:Cl hb)(h1:∀n,d≠.ob n)(h2:iL h.length d=true):leave h d (hb++g)=some (d,hb):=by
 have h3:vK h.length (hb++g) d=d:=by
  cases d with
  | ob n=>exact absurd rfl (h1 n)
  | _=>rfl
 unfold leave;rw[h3,←hl,Se (P8 _),QM,hl,h2];have:(hb.all (zc h.length))=true:=by
  rw[Rq];intro o ho;rw[←hl];exact C o ho
 rw[this,Bool.or_true];rfl
theorem Lr{n:Nat}{o:MO}{h:MH}(e:h[n]?=some o):ke [(n,o)] h=true:=by
 unfold ke;rw[e];dsimp only;rw[vw];rfl
theorem Cl.add{h:MH}(C:Cl h){o:MO}(ho:zc (h.length+1) o=true)(up:∀o∈h,zc h.length o=true->zc (h.length+1) o=true):Cl (h++[o]):=by
 intro x hx;rw[Qb,QQ];rcases Qx.mp hx with z | z
 ·exact up x z (C x z)
 ·rw[Qj.mp z];exact ho
mutual
theorem Fv{n m:Nat}(hm:n≤m):∀d:D,iL n d=true->iL m d=true
 | .cC,_=>rfl
 | .bl _,_=>rfl
 | .int _,_=>rfl
 | .str _,_=>rfl
 | .ty _,_=>rfl
 | .ob k,h=>by simp only[iL,QT] at h ⊢;lia
 | .tup xs,h=>by simp only[iL] at h ⊢;exact sM hm xs h
 | .lv xs,h=>by simp only[iL] at h ⊢;exact sM hm xs h
 | .ro xs,h=>by simp only[iL] at h ⊢;exact sM hm xs h
 | .dv xs,h=>by simp only[iL] at h ⊢;exact Ar hm xs h
theorem sM{n m:Nat}(hm:n≤m):∀d:List D,gf n d=true->gf m d=true
 | [],_=>rfl
 | x::r,h=>by
  simp only[gf,Qq] at h ⊢;exact⟨Fv hm x h.1,sM hm r h.2⟩
theorem Ar{n m:Nat}(hm:n≤m):∀d:List (Key×D),HV n d=true->HV m d=true
 | [],_=>rfl
 |(_,x)::r,h=>by
  simp only[HV,Qq] at h ⊢;exact⟨Fv hm x h.1,Ar hm r h.2⟩
end
theorem Fu{n m:Nat}(hm:n≤m)(o:MO)(h:zc n o=true):zc m o=true:=by
 cases o with
 | lst xs=>exact sM hm xs h
 | dct xs=>exact Ar hm xs h
theorem Cl.snoc{h:MH}(C:Cl h){o:MO}(ho:zc (h.length+1) o=true):Cl (h++[o]):=C.add ho fun x _ z=>Fu (Tf _) x z
theorem Cl.set{h:MH}(C:Cl h){n:Nat}{o:MO}(ho:zc h.length o=true):Cl (h.set n o):=by
 intro x hx;rw[RF];rcases List.mem_or_eq_of_mem_set hx with z | z
 ·exact C x z
 ·rw[z];exact ho
end Mi
namespace Sm
open PySem L2
theorem kI{e:EM}{h:MH}{t:DS}(f:D->D):∀(xs:List D)(o:Option D),(∀x∈xs,e (some x::t) h=some (f x,h))->bR [] (gN 0) bS e xs (o::t) h=some (xs.map f,h)
 | [],o,_=>rfl
 | x::r,o,hx=>by
  have e1:e (some x::t) h=some (f x,h):=hx x Qe;have e2:=kI f r (some x) fun y hy=>hx y (Qc _ hy);show((some ((o::t).set 0 (some x),h)).bind fun q=>(bS q.1 q.2).bind fun t=>if t.1=true then(e q.1 t.2).bind fun y=>(bR [] (gN 0) bS e r q.1 y.2).map fun z=>(y.1::z.1,z.2) else bR [] (gN 0) bS e r q.1 t.2)=_;show((e (some x::t) h).bind fun y=>(bR [] (gN 0) bS e r (some x::t) y.2).map fun z=>(y.1::z.1,z.2))=_;rw[e1];show((bR [] (gN 0) bS e r (some x::t) h).map fun z=>(f x::z.1,z.2))=_;rw[e2];rfl
theorem xv{α:Type}(f:α->Bool):∀(l:List α),sV (l.map fun x=>D.bl (f x))=some (l.map f)
 | []=>rfl
 | x::r=>by show(sV (r.map fun x=>D.bl (f x))).map _=_;rw[xv f r];rfl
theorem Bm{α:Type}(p:α->Bool)(xs:List α)(h:MH):qo [.lv (xs.map fun x=>.bl (p x))] h=some (.bl (xs.all p),h):=by
 show(sV (xs.map fun x=>D.bl (p x))).map (fun bs=>(D.bl (bs.all id),h))=_;rw[xv];show some (D.bl ((xs.map p).all id),h)=_;rw[List.all_map];rfl
theorem tf{caps:List (Option Nat)}{ei e:EM}{δ t:DS}{o:Option D}{h:MH}{d:D}{xs:List D}(f:D->D)(hi:ei δ h=some (d,h))(hs:cR d h=some (xs,[]))(hc:jn caps δ=o::t)(hl:xs.length≤100000)(he:∀x∈xs,e (some x::t) h=some (f x,h)):
  bD caps (cZ ei) (gN 0) bS e δ h=some (xs.map f,h):=by
 unfold bD cZ;rw[hi];dsimp only[Option.bind_some];rw[hs];dsimp only[Option.map_some,Option.bind_some];rw[hc,kI f xs o he];dsimp only[Option.bind_some];rw[P7 (by rw[P1,show sizeLine=16777216 from rfl];lia)]
theorem Ih{caps:List (Option Nat)}{ei e:EM}{δ t:DS}{o:Option D}{h:MH}{d:D}{xs:List D}(p:D->Bool)(hi:ei δ h=some (d,h))(hs:cR d h=some (xs,[]))(hc:jn caps δ=o::t)(hl:xs.length≤100000)(he:∀x∈xs,e (some x::t) h=some (.bl (p x),h)):
  aw qo (ab (eR (bD caps (cZ ei) (gN 0) bS e)) ah) δ h=some (.bl (xs.all p),h):=by
 unfold aw ab eR ah;rw[tf (fun x=>.bl (p x)) hi hs hc hl he];exact Bm p xs h
theorem c8{α:Type}{o:Option α}{a:α}(r:Rn o fun p=>p=a):o=some a:=let⟨_,e,q⟩:=r;by rw[e,q]
theorem EU{α:Type}{E:Bool->Prop}{x y:Option α}{X Y:α->Prop}(r:∃c,E c∧(c=true->Rn x Y)∧(c=false->Rn y Y))(f:∀p,Y p->X p):∃c,E c∧(c=true->Rn x X)∧(c=false->Rn y X):=
 let⟨c,e,a,b⟩:=r
 ⟨c,e,fun z=>(a z).imp f,fun z=>(b z).imp f⟩
theorem Fw{ea eb ec:EM}{δ:DS}{h:MH}{a n b:Int}(ha:ea δ h=some (.int a,h))(hn:eb δ h=some (.int n,h))(hb:ec δ h=some (.int b,h)):gS za za ea eb ec δ h=some (.bl (decide (a≤n)&&decide (n≤b)),h):=by
 refine c8 (D5 (rv ha (rv hn (rv rfl ⟨_,rfl,?_⟩))))
 by_cases c:a≤n
 ·rw[P7 (QO c),QO c];exact rv hb (rv rfl rfl)
 ·rw[Qa (by simpa using c),QS c];rfl
theorem tt(a:A):(true=true->A)∧(true=false->B):=⟨fun _=>a,fun z=>(nomatch z)⟩
theorem ff(b:B):(false=true->A)∧(false=false->B):=⟨fun z=>(nomatch z),fun _=>b⟩
theorem JI(r:Rn (e δ h) fun p=>Rn (f x p.1 p.2) fun q=>Q (.nx,δ.set i (some q.1),q.2))(hx:δ[i]?=some (some x):=by with_unfolding_all rfl):Rn (DW i f e δ h) Q:=by
 unfold DW;rw[hx];show Rn ((e δ h).bind fun p=>(f x p.1 p.2).bind fun q=>some (Fl.nx,δ.set i (some q.1),q.2)) Q;exact ba (r.imp fun _ r=>ba (r.imp fun _ q=>⟨_,rfl,q⟩))
end Sm
namespace Mi
open PySem Sm L2 Pg
noncomputable def nY(W:Wd)(fl:List Int)(left odd:Int):MO:=.dct [(.inr (Str.ofString "names"),.lv (W.names.map D.str)),(.inr (Str.ofString "deeds"),.lv (W.aq.map D.str)),(.inr (Str.ofString "params"),.lv (W.params.map fun ps=>.lv (ps.map D.str))),(.inr (Str.ofString "floors"),.lv (fl.map D.int)),(.inr (Str.ofString "left"),.int left),(.inr (Str.ofString "odd"),.int odd)]
structure um(W:Wd)(fl:List Int)(odd:Int):Prop where
 n1:1≤W.names.length
 n2:W.names.length≤6
 d1:1≤W.aq.length
 d2:W.aq.length≤6
 pl:W.params.length=W.aq.length
 p3:∀ps∈W.params,ps.length≤3
 NO:fl.length=W.aq.length
 f0:∀f∈fl,0≤f∧f < W.names.length
 o0:0≤odd
 o1:odd≤1000
 sn:∀w∈W.names,1≤w.length∧w.length≤7∧low w
 sd:∀w∈W.aq,1≤w.length∧w.length≤7∧low w
 sp:∀ps∈W.params,∀w∈ps,1≤w.length∧w.length≤7∧low w
 nn:W.names.Nodup
 nd:W.aq.Nodup
 np:∀ps∈W.params,ps.Nodup
section
variable {h:MH} {wd:Nat} {W:Wd} {fl:List Int} {left odd:Int}
theorem fc(hw:h[wd]?=some (nY W fl left odd)):aY (.ob wd) (.str (Str.ofString "names")) h=some (.lv (W.names.map D.str),h):=by simp only[aY,eu,hw,nY];rfl
theorem fe(hw:h[wd]?=some (nY W fl left odd)):aY (.ob wd) (.str (Str.ofString "deeds")) h=some (.lv (W.aq.map D.str),h):=by simp only[aY,eu,hw,nY];rfl
theorem dU(hw:h[wd]?=some (nY W fl left odd)):aY (.ob wd) (.str (Str.ofString "params")) h=some (.lv (W.params.map fun ps=>.lv (ps.map D.str)),h):=by simp only[aY,eu,hw,nY];rfl
theorem n5(hw:h[wd]?=some (nY W fl left odd)):aY (.ob wd) (.str (Str.ofString "floors")) h=some (.lv (fl.map D.int),h):=by simp only[aY,eu,hw,nY];rfl
theorem qr(hw:h[wd]?=some (nY W fl left odd)):aY (.ob wd) (.str (Str.ofString "left")) h=some (.int left,h):=by simp only[aY,eu,hw,nY];rfl
theorem zd(hw:h[wd]?=some (nY W fl left odd)):aY (.ob wd) (.str (Str.ofString "odd")) h=some (.int odd,h):=by simp only[aY,eu,hw,nY];rfl
theorem Dt(hw:h[wd]?=some (nY W fl left odd))(v:Int):uc (.ob wd) (.str (Str.ofString "left")) (.int v) h=some (h.set wd (nY W fl v odd)):=by
 have h1:(6:Nat) < sizeLine:=by decide
 simp only[uc,hw,nY,qk,QB,Qv,RG];rw[P7 h1];rfl
end
section
variable {h h0:MH} {s c wd R:Nat} {cs:List Int} {W:Wd} {fl:List Int} {left odd:Int} {Q:D×MH->Prop}
theorem FH(A:Sb s c cs h0 (R+1) h)(hw:h[wd]?=some (nY W fl left odd))(ok:um W fl odd)(k:∀(b:Bool)(h1:MH),Sb s c cs h0 R h1->Q (.bl b,h1)):Rn (dB [.ob s,.ob wd] h) Q:=by
 refine cq ?_;nofun;refine rv (zd hw) ?_;nofun;refine⟨_,rfl,fun z=>?_,fun z=>?_⟩
 ·nofun;refine rv (zd hw) ?_;nofun;refine eT A (QK z) (by have:=ok.o1;lia) fun m h1 _ _ A1=>?_;nofun;exact k _ _ A1
 ·nofun;exact k _ _ (A.dn 1)
theorem xu{ps:List Str}(A:Sb s c cs h0 (R+4) h)(hp:ps.length≤3)(k:∀(t:Term)(h1:MH),eG ps t->t.2≤40->Sb s c cs h0 R h1->Q (bG t,h1)):Rn (bZ [.ob s,.lv (ps.map D.str)] h) Q:=by
 refine cq ?_;nofun;refine eT A (by decide) (by decide) fun m h1 m0 m1 A1=>?_;nofun;have plain:∀{h2:MH} {P:D×MH->Prop},Sb s c cs h0 (R+1) h2->(∀(i:Int)(h3:MH),-40≤i∧i≤40->Sb s c cs h0 R h3->P (.int i,h3))->Rn (aR [.ob s,.lv [.int 0,.int 0,.int 1,.int 1,.int 2,.int 3,.int (-1),.int (m-40)]] h2) P:=fun A2 kk=>
  k5 (is:=[0,0,1,1,2,3,-1,m-40]) (fun i=>-40≤i∧i≤40) (by intro x hx;simp at hx;lia) A2 fun i h3 hi _ A3=>kk i h3 hi A3
 refine⟨_,rfl,fun z=>?_,fun z=>⟨fun z=>(nomatch z),fun _=>?_⟩⟩
 ·have z:0 < ps.length:=by simpa using z
  nofun;refine eT A1 (by decide) (by decide) fun m2 h2 _ _ A2=>?_;nofun;refine⟨_,rfl,fun _=>?_,fun _=>?_⟩
  ·nofun;refine FG A2 (.inl rfl) (by simpa using z) (by simp;lia) fun d3 h3 hd3 A3=>?_;obtain⟨w,hw,rfl⟩:=Ql.mp hd3;nofun;refine k5 (is:=[0,0,0,0,1,1,-1,2,m-40]) (fun i=>-40≤i∧i≤40) (by intro x hx;simp at hx;lia) A3 fun i h4 hi _ A4=>?_;nofun;exact k (w,i) h4 ⟨.inr hw,by dsimp only;lia,by dsimp only;lia⟩ hi.2 A4
  ·nofun;refine plain (A2.dn 1) fun i h3 hi A3=>?_;nofun;exact k (Str.ofString "",i) h3 ⟨.inl rfl,by dsimp only;lia,by dsimp only;lia⟩ hi.2 A3
 ·nofun;refine plain (A1.dn 2) fun i h3 hi A3=>?_;nofun;exact k (Str.ofString "",i) h3 ⟨.inl rfl,by dsimp only;lia,by dsimp only;lia⟩ hi.2 A3
end
theorem c7{α:Type}{xs:List α}{f:α->D}{h:MH}{j:Nat}{x:α}(e:xs[j]?=some x):aY (.lv (xs.map f)) (.int j) h=some (f x,h):=by
 have hj:j < xs.length:=by
  rcases Sf j xs.length with z | z
  ·exact z
  ·rw[QR z] at e;cases e
 show((iz (xs.map f) j).map fun z=>(z,h))=_;have:iz (xs.map f) j=some (f x):=by
  unfold iz;rw[show wN (xs.map f).length j=some j by unfold wN;simp;lia];show(xs.map f)[j]?=_;rw[Qi,e];rfl
 rw[this];rfl
theorem nu(i j:Int)(h:MH):xf [.int i,.int j] h=some (.int (max i j),h):=by
 show some (D.int (if j > i then j else i),h)=_;rw[show(if j > i then j else i)=max i j by split <;> lia]
theorem HH(i j:Int)(h:MH):E5 [.int i,.int j] h=some (.int (min i j),h):=by
 show some (D.int (if j < i then j else i),h)=_;rw[show(if j < i then j else i)=min i j by split <;> lia]
theorem Bg{α:Type}{o:Option Bool}{x y:Option α}{X Y:α->Prop}(r:∃c,o=some c∧(c=true->Rn x Y)∧(c=false->Rn y Y))(f:∀p,Y p->X p):∃c,o=some c∧(c=true->Rn x X)∧(c=false->Rn y X):=
 let⟨c,e,a,b⟩:=r
 ⟨c,e,fun z=>(a z).imp f,fun z=>(b z).imp f⟩
noncomputable def mC(t:Term):PyData:=.tuple [.str t.1,.int t.2]
theorem uH:∀ts:List Term,kT (ts.map bG)=some (ts.map mC)
 | []=>rfl
 | c::r=>by simp only[Qd,kT,uH r,bG,rN,QB,QA];rfl
theorem pT:∀ts:List Term,PyData.depthAll (ts.map mC)≤1
 | []=>by simp[PyData.depthAll]
 | c::r=>by
  have:=pT r;simp only[Qd,PyData.depthAll,mC,PyData.depth]
  lia
theorem Ae(ts:List Term)(h:MH):nr (.lv (ts.map bG)) (.lv []) h=some (.bl (!ts.isEmpty),h):=by
 have:=pT ts;simp only[nr,HN,eu,Lj,tZ,uH,rN,kT,QA,QB];rw[P7 ⟨show PyData.depthAll _+1≤64 by lia,by decide⟩];cases ts <;> rfl
section
variable {h h0:MH} {s c wd R:Nat} {cs:List Int} {W:Wd} {fl:List Int} {left odd:Int} {Q:D×MH->Prop}
theorem Lu{ps:List Str}{j:Nat}{top:Int}{held:List Lock}(A:Sb s c cs h0 (R+10) h)(hw0:h0[wd]?=some (nY W fl left odd))(hne:wd≠s)(ok:um W fl odd)(hp:W.params[j]?=some ps)(hj:j < W.aq.length)(ht:top≤W.names.length)(hh:∀l∈held,fP W ps l)(hl:held.length≤1000)
  (k1:∀(k:Int)(l:Lock)(h1:MH),max top (fl[j]?.getD 0) < W.names.length->0≤k->k < W.names.length->fP W ps l->Sb s c cs h0 R h1->Q (.tup [.int k,aO l],h1))
  (k2:∀(h1:MH),max top (fl[j]?.getD 0)=W.names.length->Sb s c cs h0 R h1->Q (.tup [.cC,.cC],h1)):Rn (eZ [.ob s,.ob wd,.int j,.int top,.lv (held.map aO)] h) Q:=by
 have hw:=A.at_ hw0 hne;obtain⟨f,hf⟩:∃f,fl[j]?=some f:=⟨_,P9 (by rw[ok.NO];exact hj)⟩;have hfm:=ok.f0 f (P6 hf);have n2:=ok.n2;rw[hf] at k1 k2;dsimp only[Option.getD_some] at k1 k2;refine cq ?_;nofun;refine rv (n5 hw) ?_;nofun;refine rv (c7 hf) ?_;nofun;refine rv (nu top f h) ?_;have lo0:0≤max top f:=by lia
 have lo1:max top f≤W.names.length:=by lia
 generalize max top f=lo at lo0 lo1 k1 k2 ⊢;nofun;refine rv (fc hw) ?_;nofun;refine⟨_,rfl,fun z=>?_,fun z=>?_⟩
 ·have z:lo=W.names.length:=by simpa using z
  nofun;exact k2 h z (A.dn 10)
 have z:lo≠W.names.length:=by simpa using z
 have z0:lo < W.names.length:=by lia
 have k1:=fun k l h1=>k1 k l h1 z0;clear k2;nofun;refine rv (fc hw) ?_;nofun;simp only[P1];refine eT A (by lia) (by lia) fun m h1 m0 m1 A1=>?_;nofun;refine FH A1 (A1.at_ hw0 hne) ok fun b h2 A2=>?_;nofun;refine Bg (Y:=fun r=>∃(k:Int)(h3:MH),r=(Fl.nx,[some (.ob s),some (.ob wd),some (.int j),some (.int top),some (.lv (held.map aO)),some (.int lo),some (.int k),none,none,none,none],h3)∧0≤k∧k < W.names.length∧Sb s c cs h0 (R+7) h3) ?_ ?_
 ·refine⟨b,rfl,fun _=>?_,fun _=>?_⟩
  ·nofun;refine rv (fc (A2.at_ hw0 hne)) ?_;nofun;simp only[P1];refine eT A2 (by lia) (by lia) fun k h3 k0 k1 A3=>?_;exact⟨k,h3,rfl,k0,k1,A3⟩
  ·nofun;exact⟨lo+m,h2,rfl,by lia,by lia,A2.dn 1⟩
 rintro _ ⟨k,h3,rfl,k0,kL,A3⟩;have hw3:=A3.at_ hw0 hne;have k1:=fun l h1=>k1 k l h1 k0 kL;obtain⟨kn,rfl⟩:=Rf k0;obtain⟨nm,hnm⟩:∃f,W.names[kn]?=some f:=⟨_,P9 (by lia)⟩;show Rn _ _;nofun;refine rv (fc hw3) ?_;nofun;refine rv (c7 hnm) ?_;nofun;refine cV ?_;nofun;refine⟨_,_,rfl,?_⟩;obtain⟨⟨ys,h4⟩,e4,hyl,hym,δ4,hh4,_⟩:=qB (ws:=[]) (g:=gN 0) (c:=aM (ay bY (ay aY (ae 0) (eK (D.int 0))) (ae 1))) (e:=ay aY (ae 0) (eK (D.int 1))) (fun x y=>∃l∈held,x=aO l∧y=bG l.2)
  (xs:=held.map aO) (δ:=[none,some (.str nm)]) (h:=h3) (fun j δ h'=>h'=h3∧∃d0,δ=[d0,some (.str nm)]) ⟨rfl,_,rfl⟩ (fun _ _ _ _ _=>rfl) (by
   rintro i x δ h' hx ⟨rfl,d0,rfl⟩;obtain⟨l,hl,rfl⟩:=Ql.mp (P6 hx);nofun;refine rv (a:=(.str l.1,_)) rfl ?_;nofun;refine⟨_,rfl,fun _=>?_,fun _=>⟨rfl,_,rfl⟩⟩;nofun;exact rv (a:=(bG l.2,_)) rfl ⟨⟨l,hl,rfl,rfl⟩,rfl,_,rfl⟩)
 dsimp only at hh4;subst hh4;refine rv e4 ⟨Qm hyl (by rw[P1,show sizeLine=16777216 from rfl];lia),?_⟩;obtain⟨ts,rfl,htm⟩:∃ts:List Term,ys=ts.map bG∧∀t∈ts,eG ps t:=by
  clear e4 hyl
  induction ys with
  | nil=>exact⟨[],rfl,fun _ z=>(nomatch z)⟩
  | cons y r ih=>
   obtain⟨js,rfl,h1⟩:=ih fun z hz=>hym z (Qc _ hz);obtain⟨x,hx,l,hl,rfl,rfl⟩:=hym y Qe;exact⟨l.2::js,rfl,List.forall_mem_cons.mpr ⟨(hh l hl).2,h1⟩⟩
 nofun;have pl:=ok.p3 ps (P6 hp);refine rv (Ae ts _) ⟨_,rfl,fun z=>?_,fun z=>⟨fun z=>(nomatch z),fun _=>?_⟩⟩
 ·nofun;refine FH A3 hw3 ok fun b' h5 A5=>⟨_,rfl,fun _=>?_,fun _=>?_⟩
  ·have hts:ts≠[]:=by rintro rfl;cases z
   obtain⟨us,last,rfl⟩:∃us last,ts=us++[last]:=⟨ts.dropLast,ts.getLast hts,(List.dropLast_concat_getLast hts).symm⟩;have hlast:=htm last (by simp);nofun;refine rv (a:=(bG last,_)) (by
    show((iz ((us++[last]).map bG) (-1)).map fun z=>(z,h5))=_;rw[Qr];show((iz (us.map bG++[bG last]) (-1)).map fun z=>(z,h5))=_;rw[FN];rfl) ?_
   nofun;refine rv (a:=_) rfl ?_;nofun;refine eT A5 (by decide) (by decide) fun m6 h6 m60 m61 A6=>?_;nofun;refine rv (HH _ _ _) ?_;nofun;exact k1 (nm,(last.1,min 99 (last.2+1+m6))) h6 ⟨P6 hnm,hlast.1,by dsimp only;have:=hlast.2;lia,by dsimp only;lia⟩ (A6.dn 5)
  ·nofun;refine rv (dU (A5.at_ hw0 hne)) ?_;nofun;refine rv (c7 hp) ?_;nofun;refine xu (A5.dn 2) pl fun t h6 tk _ A6=>?_;nofun;exact k1 (nm,t) h6 ⟨P6 hnm,tk⟩ A6
 ·nofun;refine rv (dU hw3) ?_;nofun;refine rv (c7 hp) ?_;nofun;refine xu (A3.dn 3) pl fun t h6 tk _ A6=>?_;nofun;exact k1 (nm,t) h6 ⟨P6 hnm,tk⟩ A6
end
theorem yG(cs:List Int)(h:MH):bY (.lv (cs.map D.int)) (.lv []) h=some (.bl cs.isEmpty,h):=by
 simp only[bY,HN,eu,Lj,tZ,rL,rN,kT,QA,QB,PyData.depth,mj];cases cs <;> rfl
theorem JN(r:Rn (m δ h) fun p=>∃j:Int,p.1=[.int j]∧0≤j∧j≤1000∧Q ((List.range j.toNat).map fun(k:Nat)=>D.int (k:Int),p.2)):Rn (Lz m δ h) Q:=ba (r.imp fun p ⟨j,e,h1,h2,q⟩=>by
 rw[e];dsimp only;rw[P7 ⟨h1,h2⟩];exact⟨_,rfl,q⟩)
section
variable {h h0:MH} {s c wd R:Nat} {cs:List Int} {W:Wd} {fl:List Int} {left odd:Int} {Q:D×MH->Prop}
theorem Lv{top:Int}(A:Sb s c cs h0 (R+14) h)(hw0:h0[wd]?=some (nY W fl left odd))(hne:wd≠s)(ok:um W fl odd)(hp:W.params[j]?=some ps)(hj:j < W.aq.length)
  (kk:∀(r:Row)(h1:MH),(∀n,bo W ps n r)->cnt r=1->Sb s c cs h0 R h1->Q (aP r,h1)):Rn (gd [.ob s,.ob wd,.int j,.int top] h) Q:=by
 have hw:=A.at_ hw0 hne;have d2:=ok.d2;have pl:=ok.p3 ps (P6 hp);obtain⟨dj,hdj⟩:∃f,W.aq[j]?=some f:=⟨_,P9 hj⟩;refine cq ?_;nofun;refine fv ?_;nofun;refine rv (fe hw) ?_;nofun;refine⟨(W.aq.map D.str).length,rfl,by rw[P1];lia,by rw[P1];lia,?_⟩;rw[P1,Qp];obtain⟨⟨ys,h1⟩,e1,hyl,hym,δ1,hh1,_⟩:=qB (ws:=[]) (g:=gN 0) (c:=mE (aM (ay CL (ay aY (ay aY (ae 3) (eK (.str "floors"))) (ae 0)) (ae 2))) (aM (ay M9 (ae 0) (ae 1)))) (e:=ae 0) (fun x y=>y=x)
  (xs:=(List.range W.aq.length).map fun(k:Nat)=>D.int (k:Int)) (δ:=[none,some (.int j),some (.int top),some (.ob wd)]) (h:=h) (fun i δ h'=>h'=h∧∃d0,δ=[d0,some (.int j),some (.int top),some (.ob wd)]) ⟨rfl,_,rfl⟩ (fun _ _ _ _ _=>rfl) (by
   rintro i x δ h' hx ⟨rfl,d0,rfl⟩;rw[Qi] at hx;obtain⟨k,hk,hk2⟩:=Qs.mp hx;subst hk2;have hkl:k < fl.length:=by rw[ok.NO];exact Q3.mp (P6 hk)
   obtain⟨f,hf⟩:∃f,fl[k]?=some f:=⟨_,P9 hkl⟩;nofun;refine rv (n5 hw) ?_;nofun;refine rv (c7 hf) ?_;nofun;refine⟨_,rfl,fun _=>?_,fun _=>⟨fun z=>(nomatch z),fun _=>⟨rfl,_,rfl⟩⟩⟩;nofun;refine⟨_,rfl,fun _=>?_,fun _=>⟨rfl,_,rfl⟩⟩;nofun;exact⟨rfl,rfl,_,rfl⟩)
 dsimp only at hh1;subst hh1;refine rv e1 ⟨Qm hyl (by rw[P1,Qt,show sizeLine=16777216 from rfl];lia),?_⟩;have hint:∀zs:List D,(∀y∈zs,∃x,x∈(List.range W.aq.length).map (fun(k:Nat)=>D.int (k:Int))∧y=x)->∃js:List Int,zs=js.map D.int∧∀k∈js,0≤k∧k < W.aq.length:=by
  intro zs hz
  induction zs with
  | nil=>exact⟨[],rfl,fun _ z=>(nomatch z)⟩
  | cons y r ih=>
   obtain⟨js,rfl,q⟩:=ih fun z hz'=>hz z (Qc _ hz');obtain⟨x,hx,rfl⟩:=hz y Qe;obtain⟨k,hk,rfl⟩:=Ql.mp hx;exact⟨k::js,rfl,fun i hi=>by
    rcases Qn.mp hi with rfl | hi
    ·have:=Q3.mp hk;lia
    ·exact q i hi⟩
 have hyn:ys.length≤6:=by
  have h9:ys.length≤_:=hyl;rw[P1,Qt] at h9
  lia
 obtain⟨js,rfl,hjs⟩:=hint ys hym;rw[P1] at hyn;nofun;refine FH A hw ok fun b h2 A2=>?_;have hw2:=A2.at_ hw0 hne;nofun;refine Bg (Y:=fun r=>∃(ks:List Int),r=(Fl.nx,[some (.ob s),some (.ob wd),some (.int j),some (.int top),some (.lv (ks.map D.int)),none,none],h2)∧ks.length≤6∧∀k∈ks,0≤k∧k < W.aq.length) ?_ ?_
 ·refine⟨b,rfl,fun _=>?_,fun _=>?_⟩
  ·nofun;refine JN ?_;nofun;refine rv (fe hw2) ?_;nofun;refine⟨(W.aq.map D.str).length,rfl,by rw[P1];lia,by rw[P1];lia,?_⟩;rw[P1,Qp];obtain⟨ks,hk1,hk2⟩:=hint _ fun y hy=>⟨y,hy,rfl⟩;refine⟨ks,?_,?_,hk2⟩
   ·show _=_;rw[←hk1];rfl
   ·have:=congrArg List.length hk1;rw[P1,P1,Qt] at this
    lia
  ·nofun;exact⟨js,rfl,hyn,hjs⟩
 rintro _ ⟨ks,rfl,kn,hks⟩;show Rn _ _;nofun;refine rv (yG ks _) ⟨_,rfl,fun z=>?_,fun z=>?_⟩
 ·nofun;refine rv (fe hw2) ?_;nofun;refine rv (c7 hdj) ?_;nofun;have:=kk (.say dj) h2 (fun n=>by unfold bo;exact Qu _ (P6 hdj)) (by rw[cnt]) (A2.dn 13);rw[aP] at this;exact this
 have z0:0 < ks.length:=by cases ks with | nil=>cases z | cons _ _=>simp
 nofun;refine FG A2 (.inl rfl) (by simpa using z0) (by simp;lia) fun d3 h3 hd3 A3=>?_;have hw3:=A3.at_ hw0 hne;obtain⟨k,hk,rfl⟩:=Ql.mp hd3;obtain⟨k0,k1⟩:=hks k hk;obtain⟨kn',rfl⟩:=Rf k0;have hkl:kn' < W.aq.length:=by lia
 obtain⟨dk,hdk⟩:∃f,W.aq[kn']?=some f:=⟨_,P9 hkl⟩;obtain⟨qs,hqs⟩:∃f,W.params[kn']?=some f:=⟨_,P9 (by rw[ok.pl];exact hkl)⟩;have ql:=ok.p3 qs (P6 hqs);nofun;refine cV ?_;nofun;refine rv (dU hw3) ?_;nofun;refine rv (c7 hqs) ?_;refine⟨_,_,rfl,?_⟩;obtain⟨⟨zs,h4⟩,e4,hzs,δ4,_,A4⟩:=qC (ws:=[]) (g:=gN 0) (e:=aw bZ (ab (ae 2) (ab (ay aY (ay aY (ae 3) (eK (.str "params"))) (ae 1)) ah))) (fun _ y=>∃t:Term,y=bG t∧eG ps t)
  (xs:=qs.map D.str) (δ:=[none,some (.int j),some (.ob s),some (.ob wd)]) (h:=h3) (fun i δ h'=>(∃d0,δ=[d0,some (.int j),some (.ob s),some (.ob wd)])∧Sb s c cs h0 (R+4*(3-i)) h') ⟨⟨_,rfl⟩,A3⟩ (fun _ _ _ _ _=>rfl) (by
   rintro i x δ h' hx ⟨⟨d0,rfl⟩,Ai⟩;have hi:i < 3:=by
    have:=(P4.mp hx).1;rw[P1] at this
    lia
   rw[show R+4*(3-i)=R+4*(3-(i+1))+4 by lia] at Ai;have hwi:=Ai.at_ hw0 hne;nofun;refine rv (dU hwi) ?_;nofun;refine rv (c7 hp) ?_;nofun;exact xu Ai pl fun t h6 tk _ A6=>⟨⟨t,rfl,tk⟩,⟨_,rfl⟩,A6⟩)
 obtain⟨ts,rfl,htm⟩:∃ts:List Term,zs=ts.map bG∧∀t∈ts,eG ps t:=by
  have hr:=hzs.right;clear e4 hzs A4;dsimp only at hr
  induction zs with
  | nil=>exact⟨[],rfl,fun _ z=>(nomatch z)⟩
  | cons y r ih=>
   obtain⟨js,rfl,h1⟩:=ih fun z hz=>hr z (Qc _ hz);obtain⟨x,hx,t,rfl,tk⟩:=hr y Qe;exact⟨t::js,rfl,fun j hj=>by
    rcases Qn.mp hj with rfl | hj
    ·exact tk
    ·exact h1 j hj⟩
 have hzl:=hzs.length;dsimp only at hzl;rw[P1,P1] at hzl;refine rv e4 ⟨by dsimp only;rw[P1,show sizeLine=16777216 from rfl];lia,?_⟩;have A4:Sb s c cs h0 R h4:=A4.le (QD _ _);have hw4:=A4.at_ hw0 hne;nofun;refine rv (fe hw4) ?_;nofun;refine rv (c7 hdk) ?_;nofun;refine rv (a:=(.tup (ts.map bG),_)) rfl ?_;nofun;have:=kk (.call dk ts) h4 (fun n=>by unfold bo;exact⟨⟨kn',qs,hdk,hqs,hzl⟩,htm⟩) (by rw[cnt]) A4;rw[aP] at this;exact this
end
def g0(s wd:Nat)(h h':MH):Prop:=h'.length=h.length∧∀k,k≠s->k≠wd->h'[k]?=h[k]?
theorem g0.refl(s wd:Nat)(h:MH):g0 s wd h h:=⟨rfl,fun _ _ _=>rfl⟩
theorem g0.trans(a:g0 s wd h h1)(b:g0 s wd h1 h2):g0 s wd h h2:=⟨b.1.trans a.1,fun k n m=>(b.2 k n m).trans (a.2 k n m)⟩
theorem vG.two(a:vG s h h1):g0 s wd h h1:=⟨a.1,fun k n _=>a.2 k n⟩
theorem g0.set:g0 s wd h (h.set wd o):=⟨RF,fun k _ n=>Q4 (Ru n)⟩
theorem g0.OW(b:g0 s wd (hb++g) h2)(hs:s < hb.length)(hw:wd < hb.length):∃hb',h2=hb'++g∧g0 s wd hb hb':=by
 have hl:h2.length=hb.length+g.length:=by rw[b.1];simp
 refine⟨h2.take hb.length,?_,by rw[Qy];lia,fun k hk hk'=>?_⟩
 ·refine TH fun k=>?_
  by_cases z:k < hb.length
  ·rw[Qk (by rw[Qy];lia),QH z]
  ·rw[b.2 _ (by lia) (by lia),Qw (by lia),Qw (by rw[Qy];lia),Qy];rw[show min hb.length h2.length=hb.length by lia]
 ·by_cases z:k < hb.length
  ·rw[QH z,b.2 k hk hk',Qk z]
  ·rw[QR (by rw[Qy];lia),QR (by lia)]
theorem iK(n:Nat):∀js:List Str,gf n (js.map D.str)=true
 | []=>rfl
 | j::r=>by rw[Qd];show(iL n (.str _)&&gf n _)=true;rw[iK n r];rfl
theorem vn(n:Nat):∀js:List (List Str),gf n (js.map fun ps=>.lv (ps.map D.str))=true
 | []=>rfl
 | j::r=>by rw[Qd];show(gf n (j.map D.str)&&gf n _)=true;rw[iK n j,vn n r];rfl
theorem Aq(n:Nat)(W:Wd)(fl:List Int)(l odd:Int):zc n (nY W fl l odd)=true:=by
 show(gf n _&&(gf n _&&(gf n _&&(gf n _&&(true&&(true&&true))))))=true;rw[iK,iK,vn,Bv];rfl
structure En where
 s:Nat
 c:Nat
 wd:Nat
 cs:List Int
 W:Wd
 fl:List Int
 odd:Int
 ok:um W fl odd
 ne:wd≠s
 nc:wd≠c
structure Wb(E:En)(h0:MH)(R l:Nat)(h:MH):Prop where
 S:St E.s E.c E.cs R h
 w:h[E.wd]?=some (nY E.W E.fl l E.odd)
 C:Cl h
 b:g0 E.s E.wd h0 h
section
variable {E:En} {h0 h h1 h' g:MH} {R R' l l' k:Nat} {Q:D×MH->Prop}
theorem Wb.lt(A:Wb E h0 R l h):E.s < h.length∧E.c < h.length∧E.wd < h.length:=⟨A.S.lt.1,A.S.lt.2,(P4.mp A.w).1⟩
theorem Wb.by(A:Wb E h0 R l h)(B:Sb E.s E.c E.cs h R' h1):Wb E h0 R' l h1:=⟨B.S,(B.b.2 _ E.ne).trans A.w,A.C.but B.S B.b,A.b.trans B.b.two⟩
theorem Wb.le(A:Wb E h0 R l h)(hR:R'≤R):Wb E h0 R' l h:=⟨A.S.le hR,A.w,A.C,A.b⟩
theorem Wb.here(A:Wb E h0 R l h):Wb E h R l h:=⟨A.S,A.w,A.C,g0.refl _ _ _⟩
theorem Wb.tr(A:Wb E h1 R l h)(b:g0 E.s E.wd h0 h1):Wb E h0 R l h:=⟨A.S,A.w,A.C,b.trans A.b⟩
theorem Wb.set(A:Wb E h0 R l h)(v:Nat):Wb E h0 R v (h.set E.wd (nY E.W E.fl v E.odd)):=
 ⟨A.S.off E.ne E.nc,Rh A.lt.2.2,A.C.set (Aq _ _ _ _ _),A.b.trans g0.set⟩
theorem Wb.push(A:Wb E h0 R l h)(ho:zc (h.length+1) o=true):Wb E (h++[o]) R l (h++[o]):=⟨A.S.more _,by rw[Qk A.lt.2.2];exact A.w,A.C.snoc ho,g0.refl _ _ _⟩
theorem Lq(C:Cl h)(S:St E.s E.c E.cs R h')(w:h'[E.wd]?=some (nY E.W E.fl l E.odd))(b:g0 E.s E.wd h h'):Cl h':=by
 intro o ho;obtain⟨k,hk⟩:=RI.mp ho
 by_cases z:k=E.s
 ·subst z;obtain⟨n,t,e,_⟩:=S.st;rw[e] at hk;cases hk;show(true&&(decide (E.c < h'.length)&&(true&&true)))=true;rw[QO S.lt.2];rfl
 ·by_cases z2:k=E.wd
  ·subst z2;rw[w] at hk;cases hk;exact Aq _ _ _ _ _
  ·rw[b.2 k z z2] at hk;rw[b.1];exact C o (P6 hk)
theorem Wb.pop(A0:Wb E h0 R0 l0 h)(A:Wb E (h++g) R l h'):∃hb,h'=hb++g∧hb.length=h.length∧Wb E h0 R l hb:=by
 obtain⟨h1,h2,h3⟩:=A0.lt;obtain⟨hb,rfl,b⟩:=A.b.OW h1 h3;have e:=b.1;have S:=A.S.cut (by lia) (by lia);have w:=A.w;rw[Qk (by lia)] at w;exact⟨hb,rfl,e,S,w,Lq A0.C S w b,A0.b.trans b⟩
theorem w_next(A:Wb E h0 (R+1) l h)(m0:0 < m)(m1:m≤10^40)(k:∀(r:Int)(h1:MH),0≤r->r < m->Wb E h0 R l h1->Q (.int r,h1)):Rn (aE [.ob E.s,.int m] h) Q:=
 eT A.S.sb m0 m1 fun r h1 r0 r1 S1=>k r h1 r0 r1 (A.by S1)
theorem L3(A:Wb E h0 (R+1) l h)(hd:d=.lv xs∨d=.tup xs)(l0:0 < xs.length)(l1:xs.length≤1000000)(k:∀(x:D)(h1:MH),x∈xs->Wb E h0 R l h1->Q (x,h1)):Rn (aR [.ob E.s,d] h) Q:=
 FG A.S.sb hd l0 l1 fun x h1 hx S1=>k x h1 hx (A.by S1)
theorem Du{is:List Int}(P:Int->Prop)(hP:∀i∈is,P i)(A:Wb E h0 (R+1) l h)(k:∀(i:Int)(h1:MH),P i->Wb E h0 R l h1->Q (.int i,h1))(l0:0 < is.length:=by simp)(l1:is.length≤1000:=by simp):Rn (aR [.ob E.s,.lv (is.map D.int)] h) Q:=
 k5 P hP A.S.sb (fun i h1 hi _ S1=>k i h1 hi (A.by S1)) l0 l1
theorem vH(A:Wb E h0 (R+4) l h)(hp:ps.length≤3)(k:∀(t:Term)(h1:MH),eG ps t->Wb E h0 R l h1->Q (bG t,h1)):Rn (bZ [.ob E.s,.lv (ps.map D.str)] h) Q:=
 xu A.S.sb hp fun t h1 ht _ S1=>k t h1 ht (A.by S1)
structure Cd(W:Wd)(j:Nat)(ps:List Str)(d:Nat)(top:Int)(held:List Lock):Prop where
 hp:W.params[j]?=some ps
 hj:j < W.aq.length
 d1:1≤d
 ht:top≤W.names.length
 hh:∀x∈held,fP W ps x
 hl:held.length≤4*d
variable {j d f:Nat} {ps:List Str} {top:Int} {held:List Lock}
theorem Cd.more{W:Wd}{n:Nat}{top':Int}{ls:List Lock}(G:Cd W j ps d top held)(ht:top'≤W.names.length)(hl:ls.length≤4*n)(ho:∀x∈ls,fP W ps x):Cd W j ps (d+n) top' (held++ls):=
 ⟨G.hp,G.hj,Qm G.d1 (QD _ _),ht,fun x hx=>(Qx.mp hx).elim (G.hh x) (ho x),by have:=G.hl;rw[Qb];lia⟩
theorem Cd.deep{W:Wd}(G:Cd W j ps d top held):Cd W j ps (d+1) top held:=⟨G.hp,G.hj,VW G.d1,G.ht,G.hh,by have:=G.hl;lia⟩
theorem Cd.pl(G:Cd E.W j ps d top held):ps.length≤3:=E.ok.p3 ps (P6 G.hp)
theorem Dv(A:Wb E h0 (R+10) l h)(G:Cd E.W j ps d top held)(hd:d≤5)(k1:∀(k:Int)(x:Lock)(h1:MH),max top (E.fl[j]?.getD 0) < E.W.names.length->0≤k->k < E.W.names.length->fP E.W ps x->Wb E h0 R l h1->Q (.tup [.int k,aO x],h1))
  (k2:∀(h1:MH),max top (E.fl[j]?.getD 0)=E.W.names.length->Wb E h0 R l h1->Q (.tup [.cC,.cC],h1)):Rn (eZ [.ob E.s,.ob E.wd,.int j,.int top,.lv (held.map aO)] h) Q:=
 Lu A.S.sb A.w E.ne E.ok G.hp G.hj G.ht G.hh (by have:=G.hl;lia) (fun k x h1 a b c e S1=>k1 k x h1 a b c e (A.by S1)) fun h1 a S1=>k2 h1 a (A.by S1)
theorem IZ(A:Wb E h0 (R+14) l h)(G:Cd E.W j ps d top held)(k:∀(r:Row)(h1:MH),(∀n,bo E.W ps n r)->cnt r=1->Wb E h0 R l h1->Q (aP r,h1)):Rn (gd [.ob E.s,.ob E.wd,.int j,.int top] h) Q:=
 Lv A.S.sb A.w E.ne E.ok G.hp G.hj fun r h1 a b S1=>k r h1 a b (A.by S1)
abbrev Gb(E:En)(h0:MH)(R l:Nat)(ps:List Str)(d:Nat)(Q:D×MH->Prop):Prop:=∀(r:Row)(l':Nat)(h':MH),bo E.W ps d r->l'+cnt r=l+1->Wb E h0 (R+100*l') l' h'->Q (aP r,h')
abbrev O1(E:En)(h0:MH)(R l:Nat)(ps:List Str)(d:Nat)(Q:D×MH->Prop):Prop:=∀(t:List Row)(l':Nat)(h':MH),bq E.W ps d t->t.length≤12->l'+aS t=l->Wb E h0 (R+100*l') l' h'->Q (.tup (bX t),h')
def Dj(E:En)(f:Nat):Prop:=∀{h0 h:MH} {R l j:Nat} {ps:List Str} {d:Nat} {top:Int} {held:List Lock} {most:Int} {Q:D×MH->Prop},Wb E h0 (R+100*l+4) l h->Cd E.W j ps d top held->d≤5->3*(5-d)+2≤f->1≤most->most≤12->O1 E h0 R l ps d Q->
 Rn (bN f [.ob E.s,.ob E.wd,.int j,.int d,.int top,.lv (held.map aO),.int most] h) Q
def LG(E:En)(f:Nat):Prop:=∀{h0 h:MH} {R l j:Nat} {ps:List Str} {d:Nat} {top:Int} {held:List Lock} {Q:D×MH->Prop},Wb E h0 (R+100*l+100) l h->Cd E.W j ps d top held->d≤5->3*(5-d)+1≤f->Gb E h0 R l ps d Q->
 Rn (fT f [.ob E.s,.ob E.wd,.int j,.int d,.int top,.lv (held.map aO)] h) Q
def F9(E:En)(f:Nat):Prop:=∀{h0 h:MH} {R l j:Nat} {ps:List Str} {d:Nat} {top:Int} {held:List Lock} {way:Str} {Q:D×MH->Prop},Wb E h0 (R+100*l+95) l h->Cd E.W j ps d top held->d < 5->3*(5-d)≤f->way∈[Str.ofString "within",Str.ofString "ask",Str.ofString "all"]->Gb E h0 R l ps d Q->
 Rn (dA f [.ob E.s,.ob E.wd,.int j,.int d,.int top,.lv (held.map aO),.str way] h) Q
def LB(E:En)(f:Nat):Prop:=∀{h0 h:MH} {R l j:Nat} {ps:List Str} {d:Nat} {top:Int} {held:List Lock} {Q:D×MH->Prop},Wb E h0 (R+100*l+95) l h->Cd E.W j ps d top held->d < 3->5 < l->3*(5-d)≤f->Gb E h0 R l ps d Q->
 Rn (cE f [.ob E.s,.ob E.wd,.int j,.int d,.int top,.lv (held.map aO)] h) Q
end
theorem mQ(r:Rn (b (entry len ds) h) (Gy fun p=>Rn (leave h p.1 p.2) Q)):Rn (EE len b ds h) Q:=by
 obtain⟨p,e,q⟩:=cq r;obtain⟨z,e2,k⟩:=q;refine⟨z,?_,k⟩;have e:((b (entry len ds) h).bind Gz)=some p:=e;show((b (entry len ds) h).bind Gz).bind _=_;rw[e];exact e2
theorem lQ{isT:D->MH->Bool}{f:F8}{o:EM}{m:AM}{δ:DS}{h:MH}{Q:D×MH->Prop}(r:Rn (o δ h) fun p=>isT p.1 p.2=true∧Rn (m δ p.2) fun q=>Rn (f p.1 q.1 q.2) Q):Rn (eM isT f o m δ h) Q:=
 ba (r.imp fun p ⟨e,r⟩=>by rw[P7 e];exact ba r)
theorem cI(e:h[n]?=some (.lst xs)):bU (.ob n) h=true:=by unfold bU fF;dsimp only;rw[e];rfl
theorem dh(e:h[n]?=some (.lst xs))(hl:xs.length < sizeLine):di (.ob n) [y] h=some (.cC,h.set n (.lst (xs++[y]))):=by unfold di;dsimp only;rw[e];dsimp only;rw[P7 hl]
theorem xj(n:Nat)(t:Term):iL n (bG t)=true:=rfl
theorem qN(n:Nat)(t:Lock):iL n (aO t)=true:=rfl
theorem fS(n:Nat)(f:α->D)(hf:∀x,iL n (f x)=true):∀xs:List α,gf n (xs.map f)=true
 | []=>rfl
 | x::r=>by rw[Qd];show(iL n (f x)&&gf n _)=true;rw[hf x,fS n f hf r];rfl
mutual
theorem sJ(n:Nat):∀r:Row,iL n (aP r)=true
 | .say w=>by rw[aP];rfl
 | .call d ts=>by rw[aP];show(true&&(true&&(gf n _&&true)))=true;rw[fS n _ (xj n)];rfl
 | .within l b=>by rw[aP];show(true&&(iL n (aO l)&&(gf n _&&true)))=true;rw[qN,fB n b];rfl
 | .all ls b=>by rw[aP];show(true&&(gf n _&&(gf n _&&true)))=true;rw[fS n _ (qN n),fB n b];rfl
 | .ask l b e=>by rw[aP];show(true&&(iL n (aO l)&&(gf n _&&(gf n _&&true))))=true;rw[qN,fB n b,fB n e];rfl
 | .qP s t a b c=>by rw[aP];show(true&&(iL n (bG s)&&(iL n (bG t)&&(gf n _&&(gf n _&&(gf n _&&true))))))=true;rw[xj,xj,fB n a,fB n b,fB n c];rfl
 | .either a b=>by rw[aP];show(true&&(gf n _&&(gf n _&&true)))=true;rw[fB n a,fB n b];rfl
 | .again a=>by rw[aP];show(true&&(gf n _&&true))=true;rw[fB n a];rfl
theorem fB(n:Nat):∀r:List Row,gf n (bX r)=true
 | []=>by rw[bX];rfl
 | r::rs=>by rw[bX];show(iL n _&&gf n _)=true;rw[sJ n r,fB n rs];rfl
end
theorem su(e:H.length=n):(H++[a])[n]?=some a:=by rw[←e];simp
theorem Jt(e:H.length=n):(H++[a]).set n b=H++[b]:=by rw[←e];simp
section
variable {E:En} {f:Nat}
theorem zX(hr:LG E f):Dj E (f+1):=by
 intro h0 h R l j ps d top held most Q A G d5 hf m0 m1 k;unfold bN;refine mQ ?_;nofun;refine fv ?_;nofun;refine rv (a:=(.lv (List.replicate 15 (D.int most)),_)) rfl ?_;nofun;refine rv (a:=(.lv ((List.replicate 15 most++[12]).map D.int),_)) rfl ?_;nofun;refine Du (fun i=>1≤i∧i≤12) (by intro x hx;simp at hx;lia) (A.push (o:=.lst []) rfl) fun i h2 hi A2=>?_;nofun;refine w_next (m:=i+1) A2 (by lia) (by lia) fun m h3 n0 n1 A3=>?_;nofun;refine⟨m,rfl,by lia,by lia,?_⟩;obtain⟨hb,rfl,hbl,A3⟩:=A.pop A3;refine cW (fun i δ h'=>∃(t:List Row)(l':Nat)(d8:Option D)(hb:MH),δ=[some (.ob E.s),some (.ob E.wd),some (.int j),some (.int d),some (.int top),some (.lv (held.map aO)),some (.int most),some (.ob h.length),d8]∧h'=hb++[.lst (bX t)]∧hb.length=h.length∧bq E.W ps d t∧t.length≤i∧l'+aS t=l∧Wb E h0 (R+100*l'+2) l' hb)
  ⟨[],l,_,hb,rfl,by rw[bX],hbl,by unfold bq;trivial,P8 _,by simp[aS],A3⟩ (fun _ _ _ _ _=>rfl) ?_ ?_
 ·rintro q x δ h' hx ⟨t,l',d8,hb,rfl,rfl,hbl,okl,hll,hc,A4⟩;have hq:q < 12:=by
   have:=(P4.mp hx).1;simp at this
   lia
  have A5:=A4.push (o:=.lst (bX t)) (fB _ t);nofun;refine rv (qr A5.w) ?_;nofun;refine⟨_,rfl,fun z=>?_,fun z=>?_⟩
  ·obtain⟨l1,rfl⟩:∃n,l'=n+1:=⟨l'-1,by have:=QK z;lia⟩;nofun;refine rv (qr A5.w) ?_;nofun;refine rv (Dt A5.w _) ?_;rw[show((l1+1:Nat):Int)-1=(l1:Int) by lia];have A6:=A5.set l1;nofun;refine lQ ?_;nofun;refine⟨cI (xs:=bX t) (by rw[Q4 (by have:=A4.lt;lia)];exact su hbl),?_⟩;nofun;refine hr (R:=R+2) (A6.le (by lia)) G d5 (by lia) fun r l6 h6 okr cr A7=>?_;obtain⟨hb6,rfl,hbl6,A8⟩:=A4.pop A7;nofun;have hl6:=hbl6.trans hbl;refine rv (dh (su hl6) (by rw[fz,P1,show sizeLine=16777216 from rfl];lia)) ?_;rw[Jt hl6];nofun;have hcn:aS (t++[r])=aS t+cnt r:=by rw[kd];simp[aS]
   exact⟨t++[r],l6,_,hb6,rfl,by rw[fz,fz,Qr];rfl,hl6,oW okl (by unfold bq;exact⟨okr,by unfold bq;trivial⟩),by simp;lia,by lia,A8.le (by lia)⟩
  ·nofun;exact⟨t,l',_,hb,rfl,rfl,hbl,okl,by lia,hc,A4⟩
 ·rintro δ h' ⟨t,l',d8,hb,rfl,rfl,hbl,okl,hll,hc,A4⟩;rw[P1,Qt] at hll;nofun;refine rv (a:=(.tup (bX t),hb++[.lst (bX t)])) (by simp only[ck,cR,su hbl,QA]) ?_;nofun;exact rv (m8 hbl A4.C (fun n z=>(nomatch z)) (fB _ t)) (k t l' hb okl (by lia) hc (A4.le (by lia)))
end
theorem AW:∀{xs:List D} {δ:DS} {h:MH} (J:List D->DS->MH->Prop),J [] δ h->(∀ys δ h,J ys δ h->ke ws h=true)->
  (∀x ys δ h,x∈xs->ys.length < xs.length->J ys δ h->Rn (g x δ h) fun q=>Rn (e q.1 q.2) fun y=>J (ys++[y.1]) q.1 y.2)->Rn (bR ws g bS e xs δ h) fun p=>p.1.length=xs.length∧∃δ',J p.1 δ' p.2
 | [],δ,h,J,hJ,hc,_=>by
  unfold bR;rw[P7 (hc [] δ h hJ)];exact⟨_,rfl,rfl,δ,hJ⟩
 | x::xs,δ,h,J,hJ,hc,ht=>by
  unfold bR;rw[P7 (hc [] δ h hJ)];obtain⟨⟨δ1,h1⟩,e1,⟨y,h2⟩,e2,J1⟩:=ht x [] δ h Qe (Nat.succ_pos _) hJ;obtain⟨⟨ys,h3⟩,e3,a,δ',J2⟩:=AW (ws:=ws) (g:=g) (e:=e) (xs:=xs) (fun ys=>J (y::ys)) J1 (fun ys δ h=>hc (y::ys) δ h) fun x ys δ h hx hl=>ht x (y::ys) δ h (Qc _ hx) (Nat.succ_lt_succ hl);refine⟨(y::ys,h3),?_,congrArg Nat.succ a,δ',J2⟩;rw[e1];dsimp only[Option.bind_some];show((some (true,h1)).bind _)=_;dsimp only[Option.bind_some] at e2 e3 ⊢;rw[P7 rfl,e2];dsimp only[Option.bind_some];rw[e3];rfl
theorem sD(f:α->D)(xs ys:List α)(h:MH)(hl:xs.length+ys.length≤1000):br (.lv (xs.map f)) (.lv (ys.map f)) h=some (.lv ((xs++ys).map f),h):=by
 rw[Qr];simp only[br,CN,fF,QB,P1];rw[P7 (by rw[show sizeLine=16777216 from rfl];lia)]
theorem MF(P:Prop)[Decidable P](e:Rn (t δ h) fun p=>p=(decide P,h))(q1:P->Rn (x δ h) Q)(q2:¬P->Rn (y δ h) Q):Rn (fb t x y δ h) Q:=by
 refine rE (e.imp ?_);rintro _ rfl;exact⟨fun z=>q1 (QK z),fun z=>q2 (of_decide_eq_false z)⟩
theorem gz(P:Prop)[Decidable P](e:Rn (t δ h) fun p=>p=(decide P,h))(q1:P->Rn (x δ h) (uz b Q))(q2:¬P->Rn (b δ h) Q):Rn (av (fb t x bM) b δ h) Q:=
 fu (MF P e q1 fun z=>⟨_,rfl,q2 z⟩)
theorem dT [Decidable P](p:P)(h:MH):(true,h)=(decide P,h):=by rw[QO p]
theorem dF [Decidable P](p:¬P)(h:MH):(false,h)=(decide P,h):=by rw[QS p]
section
variable {E:En} {f:Nat}
theorem uV{n:Nat}(hlot:Dj E f){h0 h:MH}{R l j:Nat}{ps:List Str}{d:Nat}{top:Int}{held:List Lock}{Q:List D×MH->Prop}
  (A:Wb E h0 (R+100*l+12) l h) (hn:n≤3) (G:Cd E.W j ps d top held) (d5:d < 5) (hf:3*(5-d)≤f) (k:∀(lots:List (List Row)) (l':Nat) (h':MH),lots.length=n->(∀t∈lots,t.length≤12∧bq E.W ps (d+1) t)->l'+(lots.map aS).sum=l->Wb E h0 (R+100*l') l' h'->Q (lots.map (fun t=>D.tup (bX t)),h')):
  Rn (bR [] (gN 0) Sm.bS (aw (bN f) (ab (ae 4) (ab (ae 6) (ab (ae 1) (ab (ay br (ae 2) (eK (.int 1))) (ab (ae 5) (ab (ae 3) (ab (eK (.int 2)) ah)))))))) ((List.range n).map fun(k:Nat)=>D.int k) [none,some (.int j),some (.int d),some (.lv (held.map aO)),some (.ob E.s),some (.int top),some (.ob E.wd)] h) Q:=by
 refine(AW (ws:=[]) (fun ys δ h'=>∃(d0:Option D)(lots:List (List Row)) (l':Nat),δ=[d0,some (.int j),some (.int d),some (.lv (held.map aO)),some (.ob E.s),some (.int top),some (.ob E.wd)]∧ys=lots.map (fun t=>D.tup (bX t))∧(∀t∈lots,t.length≤12∧bq E.W ps (d+1) t)∧l'+(lots.map aS).sum=l∧Wb E h0 (R+100*l'+(12-4*lots.length)) l' h') ⟨none,[],l,rfl,rfl,fun _ z=>(nomatch z),by simp,A⟩ (fun _ _ _ _=>rfl) ?_).imp ?_
 ·rintro x _ δ h' hx hys ⟨d0,lots,l',rfl,rfl,bC,hc,A1⟩;rw[P1,P1,Qt] at hys;nofun;refine hlot (R:=R+(8-4*lots.length)) (d:=d+1) (A1.le (by lia)) G.deep (by lia) (by lia) (by decide) (by decide) fun t l2 h2 okl hll cr A2=>?_;refine⟨_,lots++[t],l2,rfl,by rw[Qr];rfl,fun u z=>?_,by simp;lia,A2.le (by rw[Qb,QQ];lia)⟩;rcases Qx.mp z with z | z
  ·exact bC u z
  ·rw[Qj.mp z];exact⟨hll,okl⟩
 ·rintro⟨ys,h2⟩ ⟨hy,_,d0,lots,l',_,he,bC,hc,A1⟩;dsimp only at hy he;subst he;rw[P1,P1,Qt] at hy;exact k lots l' h2 hy bC hc (A1.le (by lia))
theorem Jy(hlot:Dj E f)(hlk:F9 E f)(htw:LB E f):LG E (f+1):=by
 intro h0 h R l j ps d top held Q A G d5 hf k;have pl:=G.pl;have n1:=E.ok.n1;have n2:=E.ok.n2;have d2:=E.ok.d2;unfold fT;refine cq ?_;nofun;refine w_next (m:=16) A (by decide) (by decide) fun w h1 w0 w1 A1=>?_;refine gz (w < 2∨(d=5∧w < 11)) ?_ (fun z=>?_) (fun z=>?_)
 ·nofun;refine⟨_,rfl,fun z=>?_,fun z=>?_⟩
  ·have z:w < 2:=by simpa using z
   exact dT (.inl z) _
  ·have z:¬w < 2:=by simpa using z
   nofun;refine⟨_,rfl,fun y=>?_,fun y=>?_⟩
   ·have y0:(d:Int)=5:=by simpa using y
    have y:d=5:=by lia
    nofun;refine⟨_,rfl,?_⟩;rw[show decide (w < 11)=decide (w < 2∨(d=5∧w < 11)) from decide_eq_decide.mpr (by lia)]
   ·have y0:(d:Int)≠5:=by simpa using y
    have y:d≠5:=by lia
    exact dF (by lia) _
 ·nofun;refine rv (fc A1.w) ?_;nofun;refine rv (fe A1.w) ?_;nofun;refine rv (sD D.str E.W.names E.W.aq _ (by lia)) ?_;nofun;refine L3 (xs:=(E.W.names++E.W.aq).map D.str) A1 (.inl rfl) (by simp;lia) (by simp;lia) fun x h2 hx A2=>?_;obtain⟨w',hw',rfl⟩:=Ql.mp hx;nofun;rw[show D.tup [.str "say",.str w']=aP (.say w') by rw[aP]];exact k (.say w') l h2 (by unfold bo;exact hw') (by rw[cnt]) (A2.le (by lia))
 have nd:d=5->11≤w:=by lia
 have w2:2≤w:=by lia
 refine gz (12 < w∨d=5) ?_ (fun z=>?_) (fun z=>?_)
 ·nofun;refine⟨_,rfl,fun y=>?_,fun y=>?_⟩
  ·have y:12 < w:=by simpa using y
   exact dT (.inl y) _
  ·have y:¬12 < w:=by simpa using y
   nofun;refine⟨_,rfl,?_⟩;rw[show((d:Int)==5)=decide (12 < w∨d=5) by
    rw[RN];simp only[SK,QT];lia]
 ·nofun;refine IZ (R:=R+100*l) (A1.le (by lia)) G fun r h2 okr cr A2=>?_;nofun;exact k r l h2 (okr d) (by rw[cr]) A2
 have d4:d < 5:=by lia
 refine gz (w=12∧d < 3∧5 < (l:Int)) ?_ (fun z=>?_) (fun z=>?_)
 ·nofun;refine⟨_,rfl,fun y=>?_,fun y=>?_⟩
  ·have y:w=12:=by simpa using y
   nofun;refine⟨_,rfl,fun x=>?_,fun x=>?_⟩
   ·have x0:(d:Int) < 3:=by simpa using x
    have x:d < 3:=by lia
    nofun;refine rv (qr A1.w) ?_;nofun;refine⟨_,rfl,?_⟩;rw[show decide (5 < (l:Int))=decide (w=12∧d < 3∧5 < (l:Int)) from decide_eq_decide.mpr (by lia)]
   ·have x0:¬(d:Int) < 3:=by simpa using x
    have x:¬d < 3:=by lia
    exact dF (by lia) _
  ·have y:w≠12:=by simpa using y
   exact dF (by lia) _
 ·nofun;refine htw (R:=R) (A1.le (by lia)) G z.2.1 (by lia) (by lia) fun r l2 h2 okr cr A2=>?_;nofun;exact k r l2 h2 okr cr A2
 refine gz (w=11∨w=12) ?_ (fun z=>?_) (fun z=>?_)
 ·nofun;refine⟨_,rfl,fun y=>?_,fun y=>?_⟩
  ·have y:w=11:=by simpa using y
   exact dT (.inl y) _
  ·have y:w≠11:=by simpa using y
   nofun;refine⟨_,rfl,?_⟩;rw[show(w==12)=decide (w=11∨w=12) by rw[RN];simp only[SK,QT];lia]
 ·show Rn (av _ _ _ _) _;nofun;refine rv (dU A1.w) ?_;nofun;refine rv (c7 G.hp) ?_;nofun;refine vH A1 pl fun t1 h2 tk1 A2=>?_;nofun;refine rv (dU A2.w) ?_;nofun;refine rv (c7 G.hp) ?_;nofun;refine vH A2 pl fun t2 h3 tk2 A3=>?_;nofun;refine⟨_,_,rfl,?_⟩;nofun;refine fv ?_;nofun;refine⟨3,rfl,by lia,by lia,?_⟩;refine uV (n:=3) (R:=R) hlot (A3.le (by lia)) (by lia) G d4 (by lia) fun lots l4 h4 hn bC cr A4=>?_
  match lots,hn with
  | [x,y,v],_=>
   refine⟨by show 3≤sizeLine;decide,?_⟩;nofun;refine rv (a:=(.tup [.tup (bX x),.tup (bX y),.tup (bX v)],_)) rfl ?_;nofun;refine rv (a:=(aP (.qP t1 t2 x y v),_)) (by rw[aP];rfl) ?_;nofun;simp only[Qd,Sh,UD,List.sum_nil] at cr;have hx:=bC x (by simp);have hy:=bC y (by simp);have hv:=bC v (by simp);exact k (.qP t1 t2 x y v) l4 h4 (by unfold bo;exact⟨tk1,tk2,d4,hx.1,hy.1,hv.1,hx.2,hy.2,hv.2⟩) (by rw[cnt];lia) A4
 refine gz (w=10) ?_ (fun z=>?_) (fun z=>?_)
 ·nofun;refine⟨_,rfl,?_⟩;rw[show(w==10)=decide (w=10) by rw[RN];simp only[SK,QT]]
 ·nofun;refine fv ?_;nofun;refine⟨2,rfl,by lia,by lia,?_⟩;refine uV (n:=2) (R:=R) hlot (A1.le (by lia)) (by lia) G d4 (by lia) fun lots l2 h2 hn bC cr A2=>?_
  match lots,hn with
  | [x,y],_=>
   refine⟨by show 2≤sizeLine;decide,?_⟩;nofun;refine rv (a:=(.tup [.tup (bX x),.tup (bX y)],_)) rfl ?_;nofun;refine rv (a:=(aP (.either x y),_)) (by rw[aP];rfl) ?_;nofun;simp only[Qd,Sh,UD,List.sum_nil] at cr;have hx:=bC x (by simp);have hy:=bC y (by simp);exact k (.either x y) l2 h2 (by unfold bo;exact⟨d4,hx.1,hy.1,hx.2,hy.2⟩) (by rw[cnt];lia) A2
 refine gz (w=9) ?_ (fun z=>?_) (fun z=>?_)
 ·nofun;refine⟨_,rfl,?_⟩;rw[show(w==9)=decide (w=9) by rw[RN];simp only[SK,QT]]
 ·nofun;refine hlot (R:=R) (d:=d+1) (A1.le (by lia)) G.deep (by lia) (by lia) (by decide) (by decide) fun t l2 h2 okl hll cr A2=>?_;nofun;rw[show D.tup [.str "again",.tup (bX t)]=aP (.again t) by rw[aP]];exact k (.again t) l2 h2 (by unfold bo;exact⟨d4,hll,okl⟩) (by rw[cnt];lia) A2
 nofun;refine L3 (xs:=[Str.ofString "within",Str.ofString "within",Str.ofString "within",Str.ofString "within",Str.ofString "ask",Str.ofString "all"].map D.str) A1 (.inl rfl) (by simp) (by simp) fun x h2 hx A2=>?_;obtain⟨w',hw',rfl⟩:=Ql.mp hx;nofun;refine hlk (R:=R) (A2.le (by lia)) G d4 (by lia) (by simp at hw' ⊢;lia) fun r l3 h3 okr cr A3=>?_;nofun;exact k r l3 h3 okr cr A3
end
noncomputable def dD(t:Lock):PyData:=.tuple [.str t.1,mC t.2]
theorem Ec(t:Term):rN (bG t)=some (mC t):=by simp only[bG,rN,kT,QB,QA];rfl
theorem x8(t:Lock):rN (aO t)=some (dD t):=by simp only[aO,rN,kT,Ec,QB,QA];rfl
theorem kA:∀ts:List Lock,kT (ts.map aO)=some (ts.map dD)
 | []=>rfl
 | c::r=>by simp only[Qd,kT,kA r,x8,QB,QA]
theorem hW:∀ts:List Lock,PyData.depthAll (ts.map dD)≤2
 | []=>by simp[PyData.depthAll]
 | c::r=>by
  have:=hW r;simp only[Qd,PyData.depthAll,dD,mC,PyData.depth]
  lia
theorem xc{h:MH}{n:Nat}{ls:List Lock}(x:Lock)(e:h[n]?=some (.lst (ls.map aO))):fR (aO x) (.ob n) h=some (.bl (!(ls.map dD).any fun b=>PyData.eqv b (dD x)),h):=by
 have h1:=hW ls;have h2:=hW [x];have h3:(dD x).depth≤60:=by
  simp only[Qd,Sh,PyData.depthAll] at h2
  lia
 unfold fR inD;simp only[eu,e];show((cR (.ob n) h).bind _).map _=_;simp only[cR,e,QB,kA];show(((tZ h (aO x)).bind _).map _)=_;rw[show tZ h (aO x)=some (dD x) from x8 x];dsimp only[Option.bind_some];rw[P7 ⟨h3,by lia⟩];rfl
theorem JO(r:Rn (ma δ h) fun p=>Rn (mb δ p.2) fun q=>∃xs ys,fF p.1 q.2=some xs∧fF q.1 q.2=some ys∧xs.length+ys.length≤sizeLine∧Q (xs++ys,q.2)):Rn (LA ma mb δ h) Q:=
 ba (r.imp fun p r=>ba (r.imp fun q ⟨xs,ys,e1,e2,hl,hq⟩=>⟨_,by rw[e1];dsimp only[Option.bind_some];rw[e2];dsimp only[Option.bind_some];rw[P7 hl],hq⟩))
theorem Fc(x:Lock):PyData.eqv (dD x) (dD x)=true:=by
 simp[dD,mC,PyData.eqv,PyData.eqvAll]
theorem Gx(r:Row)(n:Nat):aP r≠.ob n:=by cases r <;> rw[aP] <;> exact fun z=>(nomatch z)
theorem Wb.ext(A:Wb E h0 R l h)(C:Cl (h++g)):Wb E (h++g) R l (h++g):=⟨A.S.more _,by rw[Qk A.lt.2.2];exact A.w,C,g0.refl _ _ _⟩
theorem D3(b:g0 E.s E.wd h0 h)(k:Gb E h0 R l ps d Q)(r:Row)(ok:bo E.W ps d r)(hc:l'+cnt r=l+1)(A:Wb E h (R+100*l') l' hb)(e:aP r=x):Rn (leave h x (hb++g)) Q:=
 ⟨_,e ▸ m8 A.b.1 A.C (Gx r) (sJ _ r),k r l' hb ok hc (A.tr b)⟩
theorem wj(b:g0 E.s E.wd h0 h)(k:Gb E h0 R l ps d Q)(r:Row)(ok:bo E.W ps d r)(hc:l'+cnt r=l+1)(A:Wb E h (R+100*l') l' hb)(e:aP r=x):Rn (leave h x hb) Q:=by
 have:=D3 (g:=[]) b k r ok hc A e
 rwa [Ra] at this
section
variable {E:En} {f:Nat}
theorem Co(hlot:Dj E f):F9 E (f+1):=by
 intro h0 h R l j ps d top held way Q A G d5 hf hw k;obtain⟨dj,hdj⟩:∃f,E.W.aq[j]?=some f:=⟨_,P9 G.hj⟩;have hl:=G.hl;have ht:=G.ht;have b0:=A.b;replace A:=A.here;unfold dA;refine mQ ?_;nofun;refine Dv A G (by lia) (fun k1 lk h1 hmx k0 k2 okk A1=>?_) fun h1 _ A1=>?_
 ·nofun;refine rv (a:=(.bl false,_)) rfl ⟨_,rfl,fun z=>(nomatch z),fun _=>?_⟩;refine⟨_,rfl,?_⟩;show Rn (av _ _ _ _) _;refine gz (way=Str.ofString "all") ?_ (fun z=>?_) (fun z=>?_)
  ·nofun;refine⟨_,rfl,?_⟩;rw[show(way==Str.ofString "all")=decide (way=Str.ofString "all") by rw[RN];simp only[SK,QT]]
  ·show Rn (av _ _ _ _) _;nofun;refine⟨_,_,rfl,?_⟩;nofun;refine fv ?_;nofun;refine Du (is:=[1,1,2,3]) (fun i=>1≤i∧i≤3) (by decide) (A1.push (o:=.lst [aO lk]) rfl) fun i h2 hi A2=>?_;obtain⟨hb2,rfl,e2,A2'⟩:=A1.pop A2;nofun;refine⟨i,rfl,by lia,by lia,?_⟩;refine cW (fun i δ h'=>∃(ls:List Lock)(hi:Int)(n:Nat)(d11 d12 d13:Option D)(hb g:MH),δ=[some (.ob E.s),some (.ob E.wd),some (.int j),some (.int d),some (.int top),some (.lv (held.map aO)),some (.str way),some (.int k1),some (aO lk),some (.ob n),some (.int hi),d11,d12,d13,none]∧h'=hb++g∧h'[n]?=some (.lst (ls.map aO))∧h.length≤n∧lk∈ls∧ls.Nodup∧(∀x∈ls,fP E.W ps x)∧ls.length≤i+1∧0≤hi∧hi < E.W.names.length∧Wb E h (R+100*l+(80-10*i)) l hb∧Cl (hb++g))
    ⟨[lk],k1,h1.length,none,none,none,hb2,[.lst [aO lk]],rfl,rfl,su e2,by rw[A1.b.1];exact P8 _,by simp,by simp,by simpa using okk,P8 _,k0,k2,A2'.le (by lia),A2.C⟩ (fun _ _ _ _ _=>rfl) ?_ ?_
   ·rintro q x δ h' hx ⟨ls,hi',n,d11,d12,d13,hb,g,rfl,rfl,hn,hnl,hlk,nd,bC,hll,hi0,hi1,A3,C3⟩;have hq:q < 3:=by
     have:=(P4.mp hx).1;simp at this
     lia
    nofun;refine Dv (R:=R+100*l+(80-10*(q+1))) ((A3.ext C3).le (by lia)) G (by lia) (fun k4 lk4 h4 _ k40 k41 okk4 A4=>?_) fun h1 z4 _=>absurd z4 (by lia)
    ·have hn4:h4[n]?=some (.lst (ls.map aO)):=by
      have:=A.lt;rw[A4.b.2 n (by lia) (by lia)];exact hn
     obtain⟨hb4,rfl,e4,A4'⟩:=A3.pop A4;nofun;refine rv (nu _ _ _) ?_;nofun;refine JO ?_;nofun;refine rv (xc lk4 hn4) ?_;obtain⟨us,v,hv,hus,husl,hnd,hokk⟩:∃(us:List Lock)(v:Int),yE [.bl (!(ls.map dD).any fun b=>PyData.eqv b (dD lk4))] (hb4++g)=some (.int v,hb4++g)∧HF (.lv [aO lk4]) (.int v) (hb4++g)=some (.lv (us.map aO),hb4++g)∧us.length≤1∧(ls++us).Nodup∧∀x∈ls++us,fP E.W ps x:=by
      cases hb0:((ls.map dD).any fun b=>PyData.eqv b (dD lk4)) with
      | true=>exact⟨[],0,rfl,rfl,by simp,by simpa using nd,by simpa using bC⟩
      | false=>
       have hnot:lk4∉ls:=fun z=>by
        rw[TJ] at hb0;exact hb0 (dD lk4) (List.mem_map_of_mem z) (Fc lk4)
       refine⟨[lk4],1,rfl,rfl,by simp,?_,?_⟩
       ·rw[Rt];refine⟨nd,by simp,fun x hx y hy z=>hnot ?_⟩;rw[Qj.mp hy] at z;rw[←z];exact hx
       ·intro x hx;rcases Qx.mp hx with z | z
        ·exact bC x z
        ·rw[Qj.mp z];exact okk4
     nofun;refine rv hv ?_;nofun;refine rv hus ?_;refine⟨ls.map aO,us.map aO,by simp only[fF,hn4],rfl,by rw[P1,P1,show sizeLine=16777216 from rfl];lia,?_⟩;refine⟨ls++us,max hi' k4,(hb4++g).length,_,_,_,hb4,g++[.lst ((ls++us).map aO)],rfl,by rw[Qr];exact QV _ _ _,by rw[Qr];simp,?_,RL _ hlk,hnd,hokk,by simp;lia,by lia,by lia,A4',?_⟩
     ·have:=A4'.b.1;rw[Qb];lia
     ·rw[←QV];exact A4.C.snoc (o:=.lst _) (fS _ _ (qN _) _)
   ·rintro δ h' ⟨ls,hi',n,d11,d12,d13,hb,g,rfl,rfl,hn,hnl,hlk,nd,bC,hll,hi0,hi1,A3,C3⟩;rw[P1,Qt] at hll A3;replace A3:=A3.le (R':=R+100*l+10) (by lia);show Rn (av _ _ _ _) _;refine fu ?_;refine Rn.imp (Q:=fun r=>∃(ls:List Lock)(g:MH),r=(Fl.nx,[some (.ob E.s),some (.ob E.wd),some (.int j),some (.int d),some (.int top),some (.lv (held.map aO)),some (.str way),some (.int k1),some (aO lk),some (.ob n),some (.int hi'),d11,d12,d13,none],hb++g)∧(hb++g)[n]?=some (.lst (ls.map aO))∧2≤ls.length∧ls.length≤4∧ls.Nodup∧(∀x∈ls,fP E.W ps x)∧Cl (hb++g)) ?_ ?_
    ·nofun;refine rv (Bl hn) ?_;nofun;refine⟨_,rfl,fun z=>?_,fun z=>?_⟩
     ·have z:ls.length=1:=by
       have:((ls.map aO).length:Int)=1:=by simpa using z
       rw[P1] at this
       lia
      obtain⟨x0,rfl⟩:∃x0,ls=[x0]:=List.length_eq_one_iff.mp z;obtain rfl:lk=x0:=Qj.mp hlk;obtain⟨nm,wo,fi⟩:=lk;have hok0:=bC _ (Qj.mpr rfl);nofun;refine lQ ?_;nofun;refine⟨cI hn,?_⟩;nofun;refine rv (a:=(.str nm,_)) rfl ?_;nofun;refine rv (a:=(bG (wo,fi),_)) rfl ?_;nofun;refine rv (a:=(.str wo,_)) rfl ?_;nofun;refine rv (a:=(bG (wo,fi),_)) rfl ?_;nofun;refine rv (a:=(.int fi,_)) rfl ?_;nofun;refine rv (a:=(bG (wo,fi),_)) rfl ?_;nofun;refine rv (a:=(.int fi,_)) rfl ?_;nofun;obtain⟨v,hv,hm,v1,v0⟩:∃v:Int,yE [.bl (decide (90 < fi))] (hb++g)=some (.int v,hb++g)∧j8 (.int 2) (.int v) (hb++g)=some (.int (2*v),hb++g)∧(90 < fi->v=1)∧(¬90 < fi->v=0):=by
       by_cases z:90 < fi
       ·exact⟨1,by rw[QO z];rfl,rfl,fun _=>rfl,fun y=>absurd z y⟩
       ·exact⟨0,by rw[QS z];rfl,rfl,fun y=>absurd y z,fun _=>rfl⟩
      refine rv hv ?_;nofun;refine rv hm ?_;nofun;refine rv (dh hn (by rw[P1,show sizeLine=16777216 from rfl];simp)) ?_;nofun;have hlen:=A3.b.1;rw[S8 _ _ (by lia)];have okf:=hok0.2;have okn:=hok0.1;dsimp only at okn;unfold eG at okf;dsimp only at okf;have hvv:v=0∨v=1:=by by_cases z:90 < fi <;> lia
      refine⟨[(nm,wo,fi),(nm,wo,fi+1-2*v)],_,rfl,?_,by simp,by simp,?_,?_,?_⟩
      ·rw[Qw (by lia),Rh]
       ·rfl
       ·have:=(P4.mp hn).1;rw[Qb] at this
        lia
      ·simp;lia
      ·intro x hx;rcases Qn.mp hx with rfl | hx
       ·exact hok0
       ·rw[Qj.mp hx];exact⟨okn,okf.1,by dsimp only;lia,by dsimp only;lia⟩
      ·rw[←S8 _ _ (by lia)];exact C3.set (o:=.lst _) rfl
     ·have z:ls.length≠1:=by
       have:((ls.map aO).length:Int)≠1:=by simpa using z
       rw[P1] at this
       lia
      have:0 < ls.length:=Vq hlk;exact⟨_,rfl,ls,g,rfl,hn,by lia,by lia,nd,bC,C3⟩
    rintro _ ⟨ls,g,rfl,hn,l2,l4,nd,bC,C4⟩;have A4:=A3.ext C4;show Rn (av _ _ _ _) _;nofun;refine rv (zd A4.w) ?_;nofun;obtain⟨v,hv,v0,v1⟩:∃v:Int,yE [.bl (E.odd==0)] (hb++g)=some (.int v,hb++g)∧0≤v∧v≤1:=by
     cases E.odd==0
     ·exact⟨0,rfl,by lia,by lia⟩
     ·exact⟨1,rfl,by lia,by lia⟩
    refine rv hv ?_;nofun;refine rv (a:=(.tup (ls.map aO),_)) (by simp only[ck,cR,hn,QA];rfl) ?_;nofun;refine rv (nu _ _ _) ?_;nofun;refine rv (a:=(.lv ((held++ls).map aO),_)) (by
     rw[Qr];simp only[br,CN,fF,hn,QB,P1];rw[P7 (by rw[show sizeLine=16777216 from rfl];lia)]) ?_
    nofun;refine hlot (R:=R) (d:=d+1) (A4.le (by lia)) (G.more (n:=1) (by lia) (by lia) bC) (by lia) (by lia) (by decide) (by decide) fun t l5 h5 okl hll5 cr A5=>?_;obtain⟨hb5,rfl,_,A5'⟩:=A3.pop A5;nofun;exact D3 b0 k (.all ls t) (by unfold bo;exact⟨⟨l2,l4,nd,bC⟩,d5,hll5,okl⟩) (by rw[cnt];lia) A5' (by rw[aP])
  refine fu ?_;nofun;refine rv (nu _ _ _) ?_;nofun;refine rv (sD aO held [lk] _ (by simp;lia)) ?_;nofun;refine hlot (R:=R+10) (d:=d+1) (A1.le (by lia)) (G.more (n:=1) (ls:=[lk]) (by lia) (by simp) (by simpa using okk)) (by lia) (by lia) (by decide) (by decide) fun t l2 h2 okl hll cr A2=>?_;refine Rn.imp (Q:=_) (gz (way=Str.ofString "ask") ?_ (fun z=>?_) (fun z=>?_)) fun _ z=>z
  ·nofun;refine⟨_,rfl,?_⟩;rw[show(way==Str.ofString "ask")=decide (way=Str.ofString "ask") by rw[RN];simp only[SK,QT]]
  ·nofun;refine hlot (R:=R) (d:=d+1) (A2.le (by lia)) G.deep (by lia) (by lia) (by decide) (by decide) fun t3 l3 h3 okl3 hll3 cr3 A3=>?_;nofun;exact wj b0 k (.ask lk t t3) (by unfold bo;exact⟨okk,d5,hll,hll3,okl,okl3⟩) (by rw[cnt];lia) A3 (by rw[aP])
  ·nofun;exact wj b0 k (.within lk t) (by unfold bo;exact⟨okk,d5,hll,okl⟩) (by rw[cnt];lia) (A2.le (by lia)) (by rw[aP])
 ·nofun;refine rv (a:=(.bl true,_)) rfl ⟨_,rfl,fun _=>?_,fun z=>(nomatch z)⟩;nofun;refine rv (fe A1.w) ?_;nofun;refine rv (c7 hdj) ?_;nofun;exact wj b0 k (.say dj) (by unfold bo;exact Qu _ (P6 hdj)) (by rw[cnt]) (A1.le (by lia)) (by rw[aP])
end
theorem Af(ts:List Lock)(h:MH):nr (.lv (ts.map aO)) (.lv []) h=some (.bl (!ts.isEmpty),h):=by
 have:=hW ts;simp only[nr,HN,eu,Lj,tZ,kA,rN,kT,QA,QB];rw[P7 ⟨show PyData.depthAll _+1≤64 by lia,by decide⟩];cases ts <;> rfl
section
variable {E:En}
theorem Ja{f:Nat}(hlot:Dj E f):LB E (f+1):=by
 intro h0 h R l j ps d top held Q A G d3 l5 hf k;have pl:=G.pl;have hl:=G.hl;have ht:=G.ht;have b0:=A.b;replace A:=A.here;obtain⟨dj,hdj⟩:∃f,E.W.aq[j]?=some f:=⟨_,P9 G.hj⟩;obtain⟨fj,hfj⟩:∃f,E.fl[j]?=some f:=⟨_,P9 (by rw[E.ok.NO];exact G.hj)⟩;have hfm:=E.ok.f0 fj (P6 hfj);have hsay:Rn (leave h (.tup [.str "say",.str dj]) h) Q:=wj b0 k (.say dj) (by unfold bo;exact Qu _ (P6 hdj)) (by rw[cnt]) (A.le (by lia)) (by rw[aP]);unfold cE;refine mQ ?_;nofun;refine rv (n5 A.w) ?_;nofun;refine rv (c7 hfj) ?_;nofun;refine rv (nu top fj h) ?_;have lo0:0≤max top fj:=by lia
 have lo1:max top fj≤E.W.names.length:=by lia
 generalize max top fj=lo at lo0 lo1 ⊢;refine gz (lo=E.W.names.length) ?_ (fun z=>?_) (fun z=>?_)
 ·nofun;refine rv (fc A.w) ?_;nofun;refine⟨_,rfl,?_⟩;rw[P1,show(lo==(E.W.names.length:Int))=decide (lo=E.W.names.length) by rw[RN];simp only[SK,QT]]
 ·nofun;refine rv (fe A.w) ?_;nofun;refine rv (c7 hdj) ?_;nofun;exact hsay
 obtain⟨kn,rfl⟩:=Rf lo0;have hkn:kn < E.W.names.length:=by lia
 obtain⟨nm,hnm⟩:∃f,E.W.names[kn]?=some f:=⟨_,P9 hkn⟩;refine fu ?_;nofun;refine cV ?_;nofun;refine⟨_,_,rfl,?_⟩;obtain⟨⟨ys,h4⟩,e4,hyl,hym,δ4,hh4,_⟩:=qB (ws:=[]) (g:=gN 0) (c:=aM (ay bY (ay aY (ae 0) (eK (.int 0))) (ay aY (ay aY (ae 2) (eK (.str "names"))) (ae 1)))) (e:=ae 0) (fun x y=>∃l∈held,y=aO l)
  (xs:=held.map aO) (δ:=[none,some (.int kn),some (.ob E.wd)]) (h:=h) (fun j δ h'=>h'=h∧∃d0,δ=[d0,some (.int kn),some (.ob E.wd)]) ⟨rfl,_,rfl⟩ (fun _ _ _ _ _=>rfl) (by
   rintro i x δ h' hx ⟨rfl,d0,rfl⟩;obtain⟨l,hl,rfl⟩:=Ql.mp (P6 hx);nofun;refine rv (a:=(.str l.1,_)) rfl ?_;nofun;refine rv (fc A.w) ?_;nofun;refine rv (c7 hnm) ?_;nofun;refine⟨_,rfl,fun _=>?_,fun _=>⟨rfl,_,rfl⟩⟩;nofun;exact⟨⟨l,hl,rfl⟩,rfl,_,rfl⟩)
 dsimp only at hh4;subst hh4;refine rv e4 ⟨Qm hyl (by rw[P1,show sizeLine=16777216 from rfl];lia),?_⟩;obtain⟨ts,rfl⟩:∃ts:List Lock,ys=ts.map aO:=by
  clear e4 hyl
  induction ys with
  | nil=>exact⟨[],rfl⟩
  | cons y r ih=>
   obtain⟨js,rfl⟩:=ih fun z hz=>hym z (Qc _ hz);obtain⟨x,hx,l,hl,rfl⟩:=hym y Qe;exact⟨l::js,rfl⟩
 nofun;refine rv (Af ts _) ⟨_,rfl,fun z=>?_,fun z=>?_⟩
 ·nofun;refine rv (fe A.w) ?_;nofun;refine rv (c7 hdj) ?_;nofun;exact hsay
 nofun;refine rv (fc A.w) ?_;nofun;refine rv (c7 hnm) ?_;nofun;refine rv (qr A.w) ?_;nofun;refine rv (Dt A.w _) ?_;rw[show(l:Int)-5=((l-5:Nat):Int) by lia];have A1:=A.set (l-5);generalize h4.set E.wd (nY E.W E.fl ((l-5:Nat):Int) E.odd)=h5 at A1 ⊢;nofun;refine rv (dU A1.w) ?_;nofun;refine rv (c7 G.hp) ?_;nofun;refine vH A1 pl fun t1 h2 tk1 A2=>?_;nofun;refine rv (dU A2.w) ?_;nofun;refine rv (c7 G.hp) ?_;nofun;refine vH A2 pl fun t2 h3 tk2 A3=>?_;nofun;refine⟨_,_,rfl,?_⟩;nofun;refine cV ?_;nofun;refine⟨_,_,rfl,?_⟩;have hlen3:=A3.b.1;have okn:=P6 hnm;refine cW (fun i δ h'=>∃(rows:List Row)(l':Nat)(d11 d12 d13:Option D)(hb:MH),δ=[some (.ob E.s),some (.ob E.wd),some (.int j),some (.int d),some (.int top),some (.lv (held.map aO)),some (.int kn),some (.str nm),some (bG t1),some (bG t2),some (.ob h3.length),d11,d12,d13]∧h'=hb++[.lst (rows.map fun r=>.tup [aP r])]∧rows.length=i∧(∀r∈rows,bo E.W ps (d+1) r)∧l'+(rows.map cnt).sum+5=l+2*i∧Wb E h4 (R+100*l'+(8-4*i)) l' hb)
  ⟨[],l-5,_,_,_,h3,rfl,rfl,rfl,fun _ z=>(nomatch z),by simp;lia,A3.le (by lia)⟩ (fun _ _ _ _ _=>rfl) ?_ ?_
 ·rintro i x δ h' hx ⟨rows,l',d11,d12,d13,hb,rfl,rfl,hrl,hro,hc,A6⟩;have hi:i < 2:=(P4.mp hx).1;obtain⟨u,v,rfl,uk,vk⟩:∃u v:Term,x=.tup [bG u,bG v]∧eG ps u∧eG ps v:=by
   rcases Qn.mp (P6 hx) with rfl | hx
   ·exact⟨t1,t2,rfl,tk1,tk2⟩
   ·rw[Qj.mp hx];exact⟨t2,t1,rfl,tk2,tk1⟩
  have hlb:hb.length=h3.length:=A6.b.1.trans hlen3.symm;generalize hrs:rows.map (fun r=>D.tup [aP r])=rs;have hcl:gf (hb.length+1) rs=true:=by rw[←hrs];exact fS _ _ (fun r=>by show(iL _ (aP r)&&true)=true;rw[sJ];rfl) rows
  nofun;refine rv (sD aO held [(nm,u),(nm,v)] _ (by simp;lia)) ?_;nofun;refine hlot (R:=R+(8-4*(i+1))) (d:=d+3) ((A6.push (o:=.lst rs) hcl).le (by lia)) (G.more (n:=3) (ls:=[(nm,u),(nm,v)]) lo1 (by simp) (by
   intro x hx;rcases Qn.mp hx with rfl | z
   ·exact⟨okn,uk⟩
   ·rw[Qj.mp z];exact⟨okn,vk⟩)) (by lia) (by lia) (by decide) (by decide) fun t l7 h7 okl hll cr A7=>?_
  obtain⟨hb7,rfl,e7,A7'⟩:=A6.pop A7;have hl7:=e7.trans hlb;nofun;refine lQ ?_;nofun;refine⟨cI (su hl7),?_⟩;nofun;refine rv (dh (su hl7) (by rw[←hrs,P1,show sizeLine=16777216 from rfl];lia)) ?_;rw[Jt hl7];nofun;have hcn:((rows++[Row.within (nm,u) [Row.within (nm,v) t]]).map cnt).sum=(rows.map cnt).sum+(2+aS t):=by
   rw[Qr,Sl];simp[cnt,aS]
   lia
  refine⟨rows++[.within (nm,u) [.within (nm,v) t]],l7,_,_,_,hb7,rfl,?_,by simp[hrl],?_,by rw[hcn];lia,A7'.le (by lia)⟩
  ·rw[Qr,hrs];simp[aP,bX,aO]
  ·intro r hr;rcases Qx.mp hr with z | z
   ·exact hro r z
   ·rw[Qj.mp z];simp only[bo,bq];exact⟨⟨okn,uk⟩,by lia,by simp,⟨⟨okn,vk⟩,by lia,hll,okl⟩,trivial⟩
 ·rintro δ h' ⟨rows,l',d11,d12,d13,hb,rfl,rfl,hrl,hro,hc,A6⟩
  match rows,hrl with
  | [r0,r1],_=>
   have hc:l'+(([r0,r1]:List Row).map cnt).sum+5=l+2*2:=hc;have hat:(hb++[MO.lst [.tup [aP r0],.tup [aP r1]]])[h3.length]?=some (.lst [.tup [aP r0],.tup [aP r1]]):=su (A6.b.1.trans hlen3.symm);show Rn _ _;nofun;refine rv (j9 hat (d:=.tup [aP r0]) rfl) ?_;nofun;refine rv (j9 hat (d:=.tup [aP r1]) rfl) ?_;nofun;refine D3 b0 k (.qP t1 t2 [r0] [.within (nm,t1) []] [r1]) ?_ ?_ (A6.le (by lia)) (by simp[aP,bX,aO])
   ·simp only[bo,bq];exact⟨tk1,tk2,by lia,by simp,by simp,by simp,⟨hro r0 (by simp),trivial⟩,⟨⟨⟨okn,tk1⟩,by lia,by simp,trivial⟩,trivial⟩,⟨hro r1 (by simp),trivial⟩⟩
   ·simp[cnt,aS] at hc ⊢;lia
theorem ring:∀f,Dj E f∧LG E f∧F9 E f∧LB E f
 | 0=>⟨fun _ _ _ z=>absurd z (by lia),fun _ _ _ z=>absurd z (by lia),fun _ _ z1 z=>absurd z (by lia),fun _ _ z1 _ z=>absurd z (by lia)⟩
 | f+1=>let⟨a,b,c,d⟩:=ring f;⟨zX b,Jy a c d,Co a,Ja a⟩
end
theorem wR{P:Int->Prop}:∀{zs:List D},(∀y∈zs,∃i,y=.int i∧P i)->∃js:List Int,zs=js.map D.int∧∀j∈js,P j
 | [],_=>⟨[],rfl,fun _ z=>(nomatch z)⟩
 | y::r,h=>by
  obtain⟨js,rfl,q⟩:=wR (zs:=r) fun z hz=>h z (Qc _ hz);obtain⟨i,rfl,p⟩:=h y Qe;exact⟨i::js,rfl,fun j hj=>by
   rcases Qn.mp hj with rfl | hj
   ·exact p
   ·exact q j hj⟩
theorem CH(f:α->D)(xs:List α)(k:Nat)(h:MH):CI (.lv (xs.map f)) none (some (k:Int)) h=some (.lv ((xs.take k).map f),h):=by
 show some (D.lv (cutD (xs.map f) none (some (k:Int))),h)=_;unfold cutD;rw[HT.DV,HT.Gw,List.drop_zero,Nat.sub_zero,P1,←List.map_take]
 by_cases z:k≤xs.length
 ·rw[Uo z]
 ·rw[Nat.min_eq_right (by lia),Ui (P8 _),Ui (by lia)]
theorem HY{h h0:MH}{s c R:Nat}{cs:List Int}{most odd:Int}{Q:D×MH->Prop}(A:Sb s c cs h0 (R+80) h)(o0:0≤odd)(o1:odd≤1000)(k:∀(W:Wd)(fl:List Int)(hb:MH),um W fl odd->Sb s c cs h0 R hb->Q (.ob hb.length,hb++[nY W fl most odd])):Rn (gC [.ob s,.int most,.int odd] h) Q:=by
 refine cq ?_;nofun;refine k5 (is:=[1,2,2,3,4,6]) (fun i=>1≤i∧i≤6) (by decide) A fun n1 h1 hn1 _ A1=>?_;nofun;refine xt A1 (by lia) (by lia) fun ns h2 nl nk nnd A2=>?_;nofun;refine k5 (is:=[1,1,2,2,3,4,6]) (fun i=>1≤i∧i≤6) (by decide) A2 fun n2 h3 hn2 _ A3=>?_;nofun;refine xt A3 (by lia) (by lia) fun ds h4 dl dk dnd A4=>?_;nofun;refine xt A4 (by lia) (by lia) fun ps h5 pl pk pnd A5=>?_;nofun;refine cV ?_;nofun;refine⟨_,_,rfl,?_⟩;obtain⟨⟨ys,h6⟩,e6,a6,δ6,_,A6⟩:=qC (ws:=[]) (g:=gN 0) (e:=aw aR (ab (ae 1) (ab (eK (.lv [.int 0,.int 1,.int 1,.int 2,.int 2,.int 3])) ah))) (fun _ y=>∃i,y=.int i∧0≤i∧i≤3)
  (xs:=ds.map D.str) (δ:=[none,some (.ob s)]) (h:=h5) (fun i δ h'=>(∃d0,δ=[d0,some (.ob s)])∧Sb s c cs h0 (R+18-i) h') ⟨⟨_,rfl⟩,A5⟩ (fun _ _ _ _ _=>rfl) (by
   rintro i x δ h' hx ⟨⟨d0,rfl⟩,A6⟩;have hi:i < 6:=by
    have:=(P4.mp hx).1;rw[P1] at this
    lia
   nofun;exact k5 (R:=R+18-(i+1)) (is:=[0,1,1,2,2,3]) (fun i=>0≤i∧i≤3) (by decide) (A6.le (by lia)) fun i h7 hi _ A7=>⟨⟨i,rfl,hi⟩,⟨_,rfl⟩,A7⟩)
 have l6:=a6.length;obtain⟨many,rfl,hmany⟩:=wR (P:=fun i=>0≤i∧i≤3) fun y hy=>(let⟨_,_,r⟩:=a6.right y hy;r);dsimp only at l6;rw[P1,P1] at l6;rw[P1] at A6;refine rv e6 ⟨by dsimp only;rw[P1,show sizeLine=16777216 from rfl];lia,?_⟩;nofun;refine cV ?_;nofun;refine⟨_,_,rfl,?_⟩;obtain⟨⟨ys,h7⟩,e7,a7,δ7,_,A7⟩:=qC (ws:=[]) (g:=gN 0) (e:=aw aE (ab (ae 2) (ab (aw cx (ab (ae 1) ah)) ah))) (fun _ y=>∃i,y=.int i∧0≤i∧i < ns.length)
  (xs:=ds.map D.str) (δ:=[none,some (.lv (ns.map D.str)),some (.ob s)]) (h:=h6) (fun i δ h'=>(∃d0,δ=[d0,some (.lv (ns.map D.str)),some (.ob s)])∧Sb s c cs h0 (R+12-i) h') ⟨⟨_,rfl⟩,A6.le (by lia)⟩ (fun _ _ _ _ _=>rfl) (by
   rintro i x δ h' hx ⟨⟨d0,rfl⟩,A7⟩;have hi:i < 6:=by
    have:=(P4.mp hx).1;rw[P1] at this
    lia
   nofun;rw[P1];exact eT (R:=R+12-(i+1)) (A7.le (by lia)) (by lia) (by lia) fun r h8 r0 r1 A8=>⟨⟨r,rfl,r0,r1⟩,⟨_,rfl⟩,A8⟩)
 have l7:=a7.length;obtain⟨fls,rfl,hfls⟩:=wR (P:=fun i=>0≤i∧i < ns.length) fun y hy=>(let⟨_,_,r⟩:=a7.right y hy;r);dsimp only at l7;rw[P1,P1] at l7;rw[P1] at A7;refine rv e7 ⟨by dsimp only;rw[P1,show sizeLine=16777216 from rfl];lia,?_⟩;nofun;refine rv (a:=(.lv ((dM fls).map D.int),h7)) (by
  show(kZ (fls.map D.int)).bind _=_;rw[vc];show(if fls.length < 64 then _ else _)=_;rw[P7 (by lia)]) ?_
 nofun;refine cV ?_;nofun;refine⟨_,_,rfl,?_⟩;have e8:bR [] (gN 0) bS (yI (ae 1) IF (IG (ae 0))) (many.map D.int) [none,some (.lv (ps.map D.str))] h7=some ((many.map D.int).filterMap fun d=>match d with | .int k=>some (.lv ((ps.take k.toNat).map D.str)) | _=>none,h7):=
  qD rfl _ (fun δ=>∃d0,δ=[d0,some (.lv (ps.map D.str))]) ⟨_,rfl⟩ (by
   rintro x hx δ ⟨d0,rfl⟩;obtain⟨k,hk,rfl⟩:=Ql.mp hx;refine rv rfl ⟨rfl,rv rfl ⟨rfl,⟨_,rfl⟩,fun _=>⟨_,rfl,?_⟩,fun z=>(nomatch z)⟩⟩;obtain⟨n,rfl⟩:=Rf (hmany k hk).1;nofun;refine⟨_,rfl,rv (CH D.str ps n _) ?_⟩;rfl)
 have e9:((many.map D.int).filterMap fun d=>match d with | .int k=>some (D.lv ((ps.take k.toNat).map D.str)) | _=>none)=(many.map fun k=>ps.take k.toNat).map fun ps=>D.lv (ps.map D.str):=by
  rw[Tv,QI];exact congrFun (Vz (f:=(fun ps:List Str=>D.lv (ps.map D.str))∘fun k:Int=>ps.take k.toNat)) _
 rw[e9] at e8;refine rv e8 ⟨by dsimp only;rw[P1,P1,show sizeLine=16777216 from rfl];lia,?_⟩;nofun;have hfin:∀(a b c d e f:D),Rn (Aj (iE (eK (.str "names")) (ae 3) (iE (eK (.str "deeds")) (ae 4) (iE (eK (.str "params")) (ae 5) (iE (eK (.str "floors")) (ae 7) (iE (eK (.str "left")) (ae 1) (iE (eK (.str "odd")) (ae 2) Kp)))))) [some (.ob s),some (.int most),some (.int odd),some a,some b,some c,some d,some e] h7) fun p=>p=(.ob h7.length,h7++[.dct [(.inr (Str.ofString "names"),a),(.inr (Str.ofString "deeds"),b),(.inr (Str.ofString "params"),c),(.inr (Str.ofString "floors"),e),(.inr (Str.ofString "left"),.int most),(.inr (Str.ofString "odd"),.int odd)]]):=fun a b c d e f=>⟨_,rfl,rfl⟩;refine(hfin _ _ _ _ _ .cC).imp ?_;rintro _ rfl;nofun;refine k ⟨ns,ds,many.map fun k=>ps.take k.toNat⟩ (dM fls) h7 ⟨?_,?_,?_,?_,?_,?_,?_,?_,o0,o1,nk,dk,?_,nnd,dnd,?_⟩ (A7.le (by lia))
 ·show 1≤ns.length;lia
 ·show ns.length≤6;lia
 ·show 1≤ds.length;lia
 ·show ds.length≤6;lia
 ·show(many.map _).length=ds.length;rw[P1];lia
 ·intro q hq;obtain⟨k,hk,rfl⟩:=Ql.mp hq;rw[Qy];have:=pl
  lia
 ·show(dM fls).length=ds.length;rw[(df fls).length_eq];lia
 ·intro f hf;exact hfls f ((df fls).mem_iff.mp hf)
 ·intro q hq w hw;obtain⟨k,hk,rfl⟩:=Ql.mp hq;exact pk w (Tg hw)
 ·intro q hq;obtain⟨k,hk,rfl⟩:=Ql.mp hq;exact pnd.sublist (TC _ _)
end Mi
namespace Pg
open PySem Sm L2
abbrev fG:=Str×List Str×List Row
structure Prog where
 names:List Str
 aq:List fG
noncomputable def cg(d:fG):D:=.tup [.str d.1,.tup (d.2.1.map D.str),.tup (bX d.2.2)]
noncomputable def fZ(P:Prog):D:=.tup [.tup (P.names.map D.str),.tup (P.aq.map cg)]
structure LK(W:Wd)(most:Nat)(P:Prog):Prop where
 nm:P.names=dN W.names
 dl:P.aq.length=W.aq.length
 dd:∀(j:Nat)(d:fG),P.aq[j]?=some d->W.aq[j]?=some d.1∧W.params[j]?=some d.2.1∧bq W d.2.1 1 d.2.2∧d.2.2.length≤12
 ct:(P.aq.map fun d=>aS d.2.2).sum≤most
end Pg
namespace Mi
open PySem Sm L2 Pg
theorem xk(n:Nat)(d:fG):iL n (cg d)=true:=by
 show(true&&(gf n (d.2.1.map D.str)&&(gf n (bX d.2.2)&&true)))=true;rw[iK,fB];rfl
theorem Bt(n:Nat)(P:Prog):iL n (fZ P)=true:=by
 show(gf n (P.names.map D.str)&&(gf n (P.aq.map cg)&&true))=true;rw[iK,fS n _ (xk n)];rfl
theorem qK{α:Type}{f:α->D}{xs:List α}{i:Nat}{x:D}(h:(jm 0 (xs.map f))[i]?=some x):∃a,xs[i]?=some a∧x=.tup [.int (i:Int),f a]:=by
 rw[o8,Qi] at h;cases e:xs[i]? with
 | none=>rw[e] at h;cases h
 | some a=>
  rw[e] at h;cases h;exact⟨a,rfl,by rw[Sz]⟩
theorem Wb.out(C:Cl h)(B:Sb E.s E.c E.cs h R' h0)(e:E.wd=h0.length)(A:Wb E (h0++[o]) R l h1):∃hb o',h1=hb++[o']∧Sb E.s E.c E.cs h R hb∧Cl hb:=by
 have b:=A.b;obtain⟨hs,hc⟩:=B.S.lt;have hl:h1.length=h0.length+1:=by rw[b.1];simp
 have hx:h0.length < h1.length:=by lia
 have ee:h1=h1.take h0.length++[h1[h0.length]'hx]:=by rw[List.take_append_getElem,Ui (by lia)]
 have bb:vG E.s h0 (h1.take h0.length):=⟨by rw[Qy];lia,fun k hk=>by
  by_cases z:k < h0.length
  ·rw[QH z,b.2 k hk (by lia),Qk z]
  ·rw[QR (by rw[Qy];lia),QR (by lia)]⟩
 have S:=A.S;rw[ee] at S;have S':=S.cut (by rw[bb.1];exact hs) (by rw[bb.1];exact hc);exact⟨_,_,ee,⟨S',B.b.trans bb⟩,C.but S' (B.b.trans bb)⟩
theorem Dc{h h0:MH}{s c R most:Nat}{cs:List Int}{odd:Int}{Q:D×MH->Prop}(A:Sb s c cs h0 (R+100*most+120) h)(C:Cl h)(o0:0≤odd)(o1:odd≤1000)(k:∀(W:Wd)(fl:List Int)(P:Prog)(h1:MH),um W fl odd->LK W most P->Sb s c cs h0 R h1->Cl h1->Q (fZ P,h1)):Rn (fC [.ob s,.int most,.int odd] h) Q:=by
 refine mQ ?_;nofun;refine HY (R:=R+100*most+40) A.S.sb o0 o1 fun W fl hb ok A1=>?_;obtain⟨lt1,lt2⟩:=A1.S.lt;have d2:=ok.d2;have n1:=ok.n1;have n2:=ok.n2;have hlen:=A1.b.1;let E:En:=⟨s,c,hb.length,cs,W,fl,odd,ok,by lia,by lia⟩;have B0:Wb E (hb++[nY W fl most odd]) (R+100*most+40) most (hb++[nY W fl most odd]):=⟨A1.S.more _,su rfl,(C.but A1.S A1.b).snoc (Aq _ _ _ _ _),g0.refl _ _ _⟩;nofun;refine mR ?_;nofun;refine rv (fe (B0.push (o:=.lst []) rfl).w) ?_;nofun;refine⟨_,_,_,rfl,rfl,?_⟩;have hobl:(hb++[nY W fl most odd]).length=h.length+1:=by simp[hlen]
 rw[hobl];refine cW (fun i δ h'=>∃(dds:List fG)(l':Nat)(d5 d6 d7:Option D)(hw:MH),δ=[some (.ob s),some (.int most),some (.int odd),some (.ob hb.length),some (.ob (h.length+1)),d5,d6,d7]∧h'=hw++[.lst (dds.map cg)]∧hw.length=h.length+1∧dds.length=i∧(∀(j:Nat)(d:fG),dds[j]?=some d->W.aq[j]?=some d.1∧W.params[j]?=some d.2.1∧bq W d.2.1 1 d.2.2∧d.2.2.length≤12)∧l'+(dds.map fun d=>aS d.2.2).sum=most∧Wb E (hb++[nY W fl most odd]) (R+100*l'+(40-5*i)) l' hw)
  ⟨[],most,_,_,_,_,rfl,rfl,hobl,rfl,fun _ _ z=>by simp at z,by simp,B0⟩ (fun _ _ _ _ _=>rfl) ?_ ?_
 ·rintro i x δ h' hx ⟨dds,l',d5,d6,d7,hw,rfl,rfl,hwl,hdl,hdd,hc,A6⟩;obtain⟨dn,hdn,rfl⟩:=qK hx;have hi:i < W.aq.length:=(P4.mp hdn).1;obtain⟨ps,hps⟩:∃f,W.params[i]?=some f:=⟨_,P9 (by rw[ok.pl];exact hi)⟩;nofun;refine Du (E:=E) (R:=R+100*l'+(39-5*i)) (is:=[1,2,3,4,12]) (fun i=>1≤i∧i≤12) (by decide) ((A6.push (o:=.lst (dds.map cg)) (fS _ _ (xk _) dds)).le (by lia)) fun mo h7 hmo A7=>?_;nofun;refine(ring (E:=E) 20).1 (R:=R+(40-5*(i+1))) (d:=1) (held:=[]) (A7.le (by lia)) ⟨hps,hi,by decide,show(-1:Int)≤W.names.length by lia,fun _ z=>(nomatch z),by simp⟩ (by decide) (by decide) hmo.1 hmo.2 fun t l8 h8 okl hll cr A8=>?_;have w8:=A8.w;obtain⟨hw8,rfl,e8,A8'⟩:=A6.pop A8;have hl8:=e8.trans hwl;nofun;refine lQ ?_;nofun;refine⟨cI (su hl8),?_⟩;nofun;refine rv (dU w8) ?_;nofun;refine rv (c7 hps) ?_;nofun;refine rv (a:=(.tup (ps.map D.str),_)) rfl ?_;nofun;refine rv (dh (su hl8) (by rw[P1,show sizeLine=16777216 from rfl];lia)) ?_;rw[Jt hl8];nofun;have hcn:((dds++[(dn,ps,t)]).map fun d:fG=>aS d.2.2).sum=(dds.map fun d:fG=>aS d.2.2).sum+aS t:=by
   rw[Qr,Sl];simp
  refine⟨dds++[(dn,ps,t)],l8,_,_,_,hw8,rfl,by rw[Qr];rfl,hl8,by simp[hdl],?_,by rw[hcn];lia,A8'.le (by lia)⟩;intro j d hj
  by_cases z:j < dds.length
  ·rw[Qk z] at hj;exact hdd j d hj
  ·rw[Qw (by lia)] at hj;have hj0:j-dds.length=0:=by
    have:=(P4.mp hj).1;simp at this
    lia
   rw[hj0] at hj;cases hj;obtain rfl:j=i:=by lia
   exact⟨hdn,hps,okl,hll⟩
 ·rintro δ h' ⟨dds,l',d5,d6,d7,hw,rfl,rfl,hwl,hdl,hdd,hc,A6⟩;rw[et,P1] at hdl;have w6:=(A6.push (o:=.lst (dds.map cg)) (fS _ _ (xk _) dds)).w;have hat:(hw++[MO.lst (dds.map cg)])[h.length+1]?=some (.lst (dds.map cg)):=su hwl;obtain⟨hb',o',rfl,B9,C9⟩:=Wb.out (E:=E) C A1 rfl A6;nofun;refine rv (fc w6) ?_;nofun;refine rv (a:=(.lv ((dN W.names).map D.str),_)) (by
   show(mF (W.names.map D.str)).bind _=_;rw[oj];show(if W.names.length < 64 then _ else _)=_;rw[P7 (by lia)]) ?_
  nofun;refine rv (a:=(.tup ((dN W.names).map D.str),_)) rfl ?_;nofun;refine rv (a:=(.tup (dds.map cg),_)) (by simp only[ck,cR,hat,QA];rfl) ?_;nofun;rw[QV];exact rv (m8 B9.b.1 C9 (fun n z=>(nomatch z)) (Bt _ ⟨dN W.names,dds⟩)) (k W fl ⟨dN W.names,dds⟩ hb' ok ⟨rfl,hdl,hdd,by show _≤_;dsimp only;lia⟩ ⟨B9.S.le (by lia),A.b.trans B9.b⟩ C9)
end Mi
namespace Pg
open PySem Sm L2
noncomputable def KO(l:List Row):D:=.tup (bX l)
noncomputable def aI:Row->List (List Row)
 | .say _=>[]
 | .call _ _=>[]
 | .within _ b=>[b]
 | .all _ b=>[b]
 | .ask _ b e=>[b,e]
 | .qP _ _ a b c=>[a,b,c]
 | .either a b=>[a,b]
 | .again a=>[a]
noncomputable def zj:Row->Str
 | .say _=>"say"
 | .call _ _=>"call"
 | .within _ _=>"within"
 | .all _ _=>"all"
 | .ask _ _ _=>"ask"
 | .qP _ _ _ _ _=>"by"
 | .either _ _=>"either"
 | .again _=>"again"
mutual
noncomputable def cP(p:List Nat):Row->List (List Nat×Row)
 | .say _=>[]
 | .call _ _=>[]
 | .within _ b=>bc (p++[0]) 0 b
 | .all _ b=>bc (p++[0]) 0 b
 | .ask _ b e=>bc (p++[0]) 0 b++bc (p++[1]) 0 e
 | .qP _ _ a b c=>bc (p++[0]) 0 a++(bc (p++[1]) 0 b++bc (p++[2]) 0 c)
 | .either a b=>bc (p++[0]) 0 a++bc (p++[1]) 0 b
 | .again a=>bc (p++[0]) 0 a
noncomputable def bc(a:List Nat)(k:Nat):List Row->List (List Nat×Row)
 | []=>[]
 | r::rs=>(a++[k],r)::(cP (a++[k]) r++bc a (k+1) rs)
end
noncomputable def fy(p:List Nat):Nat->List (List Row)->List (List Nat×Row)
 | _,[]=>[]
 | k,l::ls=>bc (p++[k]) 0 l++fy p (k+1) ls
theorem Cb(p:List Nat)(r:Row):cP p r=fy p 0 (aI r):=by
 cases r <;> simp[cP,aI,fy]
theorem lR(a:List Nat):∀(k:Nat)(x y:List Row),bc a k (x++y)=bc a k x++bc a (k+x.length) y
 | k,[],y=>by simp[bc]
 | k,r::x,y=>by simp[bc,lR a (k+1) x y,UR,UQ]
theorem oY(p:List Nat):∀(k:Nat)(x y:List (List Row)),fy p k (x++y)=fy p k x++fy p (k+x.length) y
 | k,[],y=>by simp[fy]
 | k,r::x,y=>by simp[fy,oY p (k+1) x y,UR,UQ]
mutual
noncomputable def cX:Row->Nat
 | .say _=>0
 | .call _ _=>0
 | .within _ b=>cY b
 | .all _ b=>cY b
 | .ask _ b e=>max (cY b) (cY e)
 | .qP _ _ a b c=>max (cY a) (max (cY b) (cY c))
 | .either a b=>max (cY a) (cY b)
 | .again a=>cY a
noncomputable def cY:List Row->Nat
 | []=>1
 | r::rs=>max (1+cX r) (cY rs)
end
theorem uS{lot:List Row}{r:Row}(h:r∈lot):1+cX r≤cY lot:=by
 induction lot with
 | nil=>cases h
 | cons x xs ih=>
  rw[cY];rcases Qn.mp h with rfl | h
  ·lia
  ·have:=ih h;lia
theorem uR{r:Row}{l:List Row}(h:l∈aI r):cY l≤cX r:=by
 cases r <;> simp[aI] at h
 case within=>subst h;simp[cX]
 case all=>subst h;simp[cX]
 case ask=>rcases h with rfl | rfl <;> rw[cX] <;> lia
 case qP=>rcases h with rfl | rfl | rfl <;> rw[cX] <;> lia
 case either=>rcases h with rfl | rfl <;> rw[cX] <;> lia
 case again=>subst h;simp[cX]
theorem Fq{lot:List Row}{r:Row}(h:r∈lot):cnt r≤aS lot:=by
 induction lot with
 | nil=>cases h
 | cons x xs ih=>
  rw[aS];rcases Qn.mp h with rfl | h
  ·lia
  ·have:=ih h;lia
theorem yN(r:Row):cnt r=1+((aI r).map aS).sum:=by cases r <;> simp[cnt,aI] <;> lia
mutual
theorem zF(p:List Nat):∀r:Row,1+(cP p r).length=cnt r
 | .say _=>by simp[cP,cnt]
 | .call _ _=>by simp[cP,cnt]
 | .within _ b=>by simp[cP,cnt,bF (p++[0]) 0 b]
 | .all _ b=>by simp[cP,cnt,bF (p++[0]) 0 b]
 | .ask _ b e=>by simp[cP,cnt,bF (p++[0]) 0 b,bF (p++[1]) 0 e];lia
 | .qP _ _ a b c=>by simp[cP,cnt,bF (p++[0]) 0 a,bF (p++[1]) 0 b,bF (p++[2]) 0 c];lia
 | .either a b=>by simp[cP,cnt,bF (p++[0]) 0 a,bF (p++[1]) 0 b];lia
 | .again a=>by simp[cP,cnt,bF (p++[0]) 0 a]
theorem bF(a:List Nat):∀(k:Nat)(l:List Row),(bc a k l).length=aS l
 | k,[]=>by simp[bc,aS]
 | k,r::rs=>by
  have:=zF (a++[k]) r;have:=bF a (k+1) rs;simp[bc,aS];lia
end
mutual
theorem zP{W:Wd}{ps:List Str}:∀(n:Nat)(r:Row),bo W ps n r->n≤5->cX r≤5-n
 | n,.say _,_,_=>by simp[cX]
 | n,.call _ _,_,_=>by simp[cX]
 | n,.within _ b,h,hn=>by rw[bo] at h;have:=cj (n+1) b h.2.2.2 h.2.1;rw[cX];lia
 | n,.all _ b,h,hn=>by rw[bo] at h;have:=cj (n+1) b h.2.2.2 h.2.1;rw[cX];lia
 | n,.ask _ b e,h,hn=>by rw[bo] at h;have:=cj (n+1) b h.2.2.2.2.1 h.2.1;have:=cj (n+1) e h.2.2.2.2.2 h.2.1;rw[cX];lia
 | n,.qP _ _ a b c,h,hn=>by
  rw[bo] at h;obtain⟨_,_,h0,_,_,_,h1,h2,h3⟩:=h;have:=cj (n+1) a h1 h0;have:=cj (n+1) b h2 h0;have:=cj (n+1) c h3 h0;rw[cX];lia
 | n,.either a b,h,hn=>by
  rw[bo] at h;obtain⟨h0,_,_,h1,h2⟩:=h;have:=cj (n+1) a h1 h0;have:=cj (n+1) b h2 h0;rw[cX];lia
 | n,.again a,h,hn=>by
  rw[bo] at h;obtain⟨h0,_,h1⟩:=h;have:=cj (n+1) a h1 h0;rw[cX];lia
theorem cj{W:Wd}{ps:List Str}:∀(n:Nat)(l:List Row),bq W ps n l->n≤5->cY l≤6-n
 | n,[],_,hn=>by simp[cY];lia
 | n,r::rs,h,hn=>by
  rw[bq] at h;have:=zP n r h.1 hn;have:=cj n rs h.2 hn;rw[cY];lia
end
noncomputable def zR(n:Nat):D:=.int (n:Int)
noncomputable def kU(p:List Nat):D:=.tup (p.map zR)
noncomputable def pN(x:List Nat×Row):D:=.tup [kU x.1,aP x.2]
end Pg
namespace Mi
open PySem Sm L2 Pg
theorem HU(n:Nat)(x:List Nat×Row):iL n (pN x)=true:=by
 show(gf n (x.1.map zR)&&(iL n (aP x.2)&&true))=true;rw[fS n _ (fun _=>rfl),sJ];rfl
theorem pB(h:MH):xx h h=true:=by
 induction h with
 | nil=>rfl
 | cons o r ih=>show(Dg o o&&xx r r)=true;rw[vw,ih];rfl
theorem uX{H:MH}{xs:List D}(hc:gf H.length xs=true):leave H (.ob H.length) (H++[.lst xs])=some (.lv xs,H):=by
 have h3:vK H.length (H++[.lst xs]) (.ob H.length)=.lv xs:=by
  show(if H.length < H.length then _ else _)=_;rw[Qa (SJ _)];simp
 unfold leave;rw[h3,Se (P8 _),QM,pB];show(if(gf H.length xs&&_)=true then _ else _)=_;rw[hc];rfl
theorem m7(r:Row)(h:MH):gE [aP r] h=some (.tup ((aI r).map KO),h):=by
 have e:Rn (gE [aP r] h) fun p=>p=(.tup ((aI r).map KO),h):=by
  refine cq ?_;cases r <;> rw[aP] <;> (nofun;refine rv rfl ?_;nofun;refine rv rfl ?_;dsimp only;refine⟨_,rfl,?_⟩;nofun;refine rv rfl ?_;rfl)
 obtain⟨p,e1,rfl⟩:=e;exact e1
theorem CM{xs ys:List D}{h:MH}(hl:xs.length+ys.length≤10000):br (.tup xs) (.tup ys) h=some (.tup (xs++ys),h):=by
 cases xs with
 | nil=>rfl
 | cons x xs=>
  show(if xs.length+1+ys.length≤sizeLine then some (D.tup (x::xs++ys),h) else none)=_;rw[P7 (by rw[show sizeLine=16777216 from rfl];rw[Qv] at hl;lia)]
theorem sf{h:MH}{n:Nat}{xs ys:List D}(e:h[n]?=some (.lst xs))(hl:xs.length+ys.length≤1000000):fV (.ob n) [.lv ys] h=some (.cC,h.set n (.lst (xs++ys))):=by
 unfold fV;dsimp only;rw[e];show(if xs.length+ys.length≤sizeLine then _ else _)=_;rw[P7 (by rw[show sizeLine=16777216 from rfl];lia)]
theorem q0{H:MH}{o o':MO}:(H++[o]).set H.length o'=H++[o']:=by
 rw[S8 _ _ (P8 _),Vn];rfl
theorem iJ{H:MH}{o:MO}:(H++[o])[H.length]?=some o:=by simp
theorem vi(a:List Nat)(i:Nat)(hl:a.length≤1000)(h:MH):br (kU a) (.tup [.int (i:Int)]) h=some (kU (a++[i]),h):=by
 show br (.tup (a.map zR)) (.tup [zR i]) _=_;rw[CM (by rw[P1];simp;lia)];simp[kU]
theorem rR:∀(n:Nat)(lot:List Row)(ahead:List Nat)(h:MH),cY lot≤n->aS lot≤1000->ahead.length+2*n≤100->dR n [.tup (bX lot),kU ahead] h=some (.lv ((bc ahead 0 lot).map pN),h)
 | 0,lot,ahead,h,hn,hc,ha=>by
  exfalso;cases lot with
  | nil=>simp[cY] at hn
  | cons r rs=>rw[cY] at hn;lia
 | n+1,lot,ahead,h,hn,hc,ha=>by
  have e:Rn (dR (n+1) [.tup (bX lot),kU ahead] h) fun p=>p=(.lv ((bc ahead 0 lot).map pN),h):=by
   unfold dR;refine mQ ?_;nofun;refine mR ?_;nofun;refine⟨_,_,_,rfl,rfl,?_⟩;rw[fz];refine cW (fun i δ h'=>∃(d3 d4 d5 d6 d7:Option D),δ=[some (.tup (lot.map aP)),some (kU ahead),some (.ob h.length),d3,d4,d5,d6,d7]∧h'=h++[.lst ((bc ahead 0 (lot.take i)).map pN)])
    ⟨_,_,_,_,_,rfl,by simp[bc]⟩ (fun _ _ _ _ _=>rfl) ?_ ?_
   ·rintro i x δ h' hx ⟨d3,d4,d5,d6,d7,rfl,rfl⟩;obtain⟨r,hr,rfl⟩:=qK hx;have hrm:=P6 hr;have hi:i < lot.length:=(P4.mp hr).1;have htk:lot.take (i+1)=lot.take i++[r]:=by
     rw[Sv,hr];rfl
    have hpl:bc ahead 0 (lot.take (i+1))=bc ahead 0 (lot.take i)++((ahead++[i],r)::fy (ahead++[i]) 0 (aI r)):=by
     rw[htk,lR];simp only[bc,Cb,Qy,Ra,Sz];rw[Uo (by lia)]
    have hlen:(bc ahead 0 lot).length≤1000:=by rw[bF];exact hc
    have hsub:(bc ahead 0 (lot.take (i+1))).length≤1000:=by
     have:bc ahead 0 lot=bc ahead 0 (lot.take (i+1))++bc ahead (0+(lot.take (i+1)).length) (lot.drop (i+1)):=by
      rw[←lR,Ri]
     rw[this,Qb] at hlen
     lia
    generalize bc ahead 0 (lot.take i)=F0 at hpl ⊢;nofun;refine rv (vi ahead i (by lia) _) ?_;nofun;rw[hpl,Qb,Qv] at hsub;refine lQ ?_;nofun;refine⟨cI iJ,?_⟩;nofun;refine rv (dh iJ (by rw[P1,show sizeLine=16777216 from rfl];lia)) ?_;nofun;rw[q0];refine mR ?_;nofun;refine rv (m7 r _) ?_;nofun;refine⟨_,_,_,rfl,rfl,?_⟩;refine cW (fun j δ h'=>∃(d6 d7:Option D),δ=[some (.tup (lot.map aP)),some (kU ahead),some (.ob h.length),some (.int i),some (aP r),some (kU (ahead++[i])),d6,d7]∧h'=h++[.lst ((F0++((ahead++[i],r)::fy (ahead++[i]) 0 ((aI r).take j))).map pN)])
     ⟨_,_,rfl,by simp[fy,pN]⟩ (fun _ _ _ _ _=>rfl) ?_ ?_
    ·rintro j x δ h' hx ⟨d6,d7,rfl,rfl⟩;obtain⟨l,hl,rfl⟩:=qK hx;have hlm:=P6 hl;have hj:j < (aI r).length:=(P4.mp hl).1;have htk:(aI r).take (j+1)=(aI r).take j++[l]:=by
      rw[Sv,hl];rfl
     have hpj:fy (ahead++[i]) 0 ((aI r).take (j+1))=fy (ahead++[i]) 0 ((aI r).take j)++bc (ahead++[i]++[j]) 0 l:=by
      rw[htk,oY];simp only[fy,Qy,Ra,Sz];rw[Uo (by lia)]
     have hsub2:(fy (ahead++[i]) 0 ((aI r).take (j+1))).length≤(fy (ahead++[i]) 0 (aI r)).length:=by
      have:fy (ahead++[i]) 0 (aI r)=fy (ahead++[i]) 0 ((aI r).take (j+1))++fy (ahead++[i]) (0+((aI r).take (j+1)).length) ((aI r).drop (j+1)):=by
       rw[←oY,Ri]
      rw[this,Qb]
      lia
     rw[hpj,Qb] at hsub2;have ih:=fun hh=>rR n l (ahead++[i]++[j]) hh (by have:=uS hrm;have:=uR hlm;lia) (by rw[←bF (ahead++[i]++[j]) 0];lia) (by simp;lia);nofun;refine lQ ?_;nofun;refine⟨cI iJ,?_⟩;nofun;refine rv (vi (ahead++[i]) j (by simp;lia) _) ?_;nofun;refine rv (ih _) ?_;nofun;refine rv (sf iJ (by rw[P1,P1,Qb,Qv];lia)) ?_;nofun;rw[q0,←Qr];refine⟨_,_,rfl,?_⟩;rw[hpj];simp
    ·rintro δ h' ⟨d6,d7,rfl,rfl⟩;rw[et,P1,QM];nofun;exact⟨_,_,_,_,_,rfl,by rw[hpl]⟩
   ·rintro δ h' ⟨d3,d4,d5,d6,d7,rfl,rfl⟩;rw[et,P1,QM];nofun;exact rv (uX (fS _ _ (HU _) _)) rfl
  obtain⟨p,e1,rfl⟩:=e;exact e1
end Mi
namespace Pg
open PySem Sm L2
noncomputable def placesFrom:Nat->List fG->List (Nat×List Nat×Row)
 | _,[]=>[]
 | k,d::ds=>(bc [] 0 d.2.2).map (fun x=>(k,x.1,x.2))++placesFrom (k+1) ds
noncomputable def lS(x:Nat×List Nat×Row):D:=.tup [zR x.1,kU x.2.1,aP x.2.2]
noncomputable def rowAt(x:Nat×List Nat×Row):D:=.tup [zR x.1,aP x.2.2]
theorem gM:∀(k:Nat)(x y:List fG),placesFrom k (x++y)=placesFrom k x++placesFrom (k+x.length) y
 | k,[],y=>by simp[placesFrom]
 | k,d::x,y=>by simp[placesFrom,gM (k+1) x y,UR,UQ]
theorem fw:∀(k:Nat)(ds:List fG),(placesFrom k ds).length=(ds.map fun d=>aS d.2.2).sum
 | _,[]=>rfl
 | k,d::ds=>by simp[placesFrom,fw (k+1) ds,bF]
theorem qw:∀{ds:List fG} {d:fG},d∈ds->aS d.2.2≤(ds.map fun d=>aS d.2.2).sum
 | x::r,d,h=>by
  rw[Qd,UD];rcases Qn.mp h with rfl | h
  ·lia
  ·have:=qw h;lia
structure NT(P:Prog):Prop where
 nd:∀d∈P.aq,cY d.2.2≤6
 ct:(P.aq.map fun d=>aS d.2.2).sum≤1000
 dl:P.aq.length≤1000
theorem LK.fit{W:Wd}{m:Nat}{P:Prog}(o:LK W m P)(hm:m≤1000)(hd:W.aq.length≤6):NT P:=by
 refine⟨fun d hd=>?_,Qm o.ct hm,by rw[o.dl];lia⟩;obtain⟨j,hj⟩:=RI.mp hd;obtain⟨_,_,ok,_⟩:=o.dd j d hj;have:=cj 1 d.2.2 ok (by lia)
 lia
end Pg
namespace Mi
open PySem Sm L2 Pg
theorem Ft(n:Nat)(x:Nat×List Nat×Row):iL n (lS x)=true:=by
 show(true&&(gf n (x.2.1.map zR)&&(iL n (aP x.2.2)&&true)))=true;rw[fS n _ (fun _=>rfl),sJ];rfl
theorem qM{α:Type}{ws:W}{g:GM}{e:EM}{h:MH}(hc:ke ws h=true)(f k:α->D)(J:DS->Prop)(xs:List α){δ:DS}(h0:J δ)(ht:∀x∈xs,∀δ,J δ->Rn (g (f x) δ h) fun q=>q.2=h∧J q.1∧Rn (e q.1 h) fun p=>p=(k x,h)):
  bR ws g bS e (xs.map f) δ h=some (xs.map k,h):=by
 induction xs generalizing δ with
 | nil=>rw[Sh];unfold bR;rw[P7 hc];rfl
 | cons x r ih=>
  rw[Qd];unfold bR;rw[P7 hc];obtain⟨⟨δ1,h1⟩,e1,rfl,J1,p,e2,rfl⟩:=ht x Qe δ h0;rw[e1];dsimp only[Option.bind_some] at e2 ⊢;show((some (true,h1)).bind _)=_;dsimp only[Option.bind_some];rw[P7 rfl,e2];dsimp only[Option.bind_some];rw[ih J1 fun y hy=>ht y (Qc _ hy)];rfl
theorem yd{P:Prog}(fit:NT P)(h:MH):gc [fZ P] h=some (.lv ((placesFrom 0 P.aq).map lS),h):=by
 have e:Rn (gc [fZ P] h) fun p=>p=(.lv ((placesFrom 0 P.aq).map lS),h):=by
  refine mQ ?_;nofun;refine mR ?_;nofun;refine rv (a:=(.tup (P.aq.map cg),_)) rfl ?_;nofun;refine⟨_,_,_,rfl,rfl,?_⟩;refine cW (fun i δ h'=>∃(d2 d3 d4 d5:Option D),δ=[some (fZ P),some (.ob h.length),d2,d3,d4,d5]∧h'=h++[.lst ((placesFrom 0 (P.aq.take i)).map lS)])
   ⟨_,_,_,_,rfl,by simp[placesFrom]⟩ (fun _ _ _ _ _=>rfl) ?_ ?_
  ·rintro i x δ h' hx ⟨d2,d3,d4,d5,rfl,rfl⟩;obtain⟨d,hd,rfl⟩:=qK hx;have hdm:=P6 hd;have hi:i < P.aq.length:=(P4.mp hd).1;have htk:P.aq.take (i+1)=P.aq.take i++[d]:=by rw[Sv,hd];rfl
   have hpl:placesFrom 0 (P.aq.take (i+1))=placesFrom 0 (P.aq.take i)++(bc [] 0 d.2.2).map fun x=>(i,x.1,x.2):=by
    rw[htk,gM];simp only[placesFrom,Qy,Ra,Sz];rw[Uo (by lia)]
   have hc:=qw hdm;have ct:=fit.ct;have hlen:(placesFrom 0 P.aq).length≤1000:=by rw[fw];exact ct
   have hsub:(placesFrom 0 (P.aq.take (i+1))).length≤1000:=by
    have:placesFrom 0 P.aq=placesFrom 0 (P.aq.take (i+1))++placesFrom (0+(P.aq.take (i+1)).length) (P.aq.drop (i+1)):=by
     rw[←gM,Ri]
    rw[this,Qb] at hlen
    lia
   rw[hpl,Qb,P1] at hsub;unfold cg;nofun;refine lQ ?_;nofun;refine⟨cI iJ,?_⟩;nofun;refine cV ?_;nofun;refine rv (rR 10 d.2.2 [] _ (Qm (fit.nd d hdm) (by decide)) (by lia) (by simp)) ?_;refine⟨_,_,rfl,?_⟩;refine rv (qM rfl pN (fun x=>lS (i,x.1,x.2)) (fun δ=>∃a b,δ=[a,b,some (.int i)]) (bc [] 0 d.2.2) ⟨_,_,rfl⟩ ?_) ⟨?_,?_⟩
   ·rintro x hx δ ⟨a,b,rfl⟩;unfold pN;nofun;refine⟨rfl,⟨_,_,rfl⟩,?_⟩;nofun;rfl
   ·dsimp only;rw[P1,show sizeLine=16777216 from rfl]
    lia
   ·nofun;refine rv (sf iJ (by rw[P1,P1];lia)) ?_;nofun;rw[q0];refine⟨_,_,_,_,rfl,?_⟩;rw[hpl,Qr,QI];rfl
  ·rintro δ h' ⟨d2,d3,d4,d5,rfl,rfl⟩;rw[et,P1,QM];nofun;exact rv (uX (fS _ _ (Ft _) _)) rfl
 obtain⟨p,e1,rfl⟩:=e;exact e1
theorem BY{P:Prog}(fit:NT P)(h:MH):iR [fZ P] h=some (.tup ((placesFrom 0 P.aq).map rowAt),h):=by
 have e:Rn (iR [fZ P] h) fun p=>p=(.tup ((placesFrom 0 P.aq).map rowAt),h):=by
  refine cq ?_;nofun;refine cV ?_;nofun;refine rv (yd fit h) ?_;refine⟨_,_,rfl,?_⟩;refine rv (qM rfl lS rowAt (fun δ=>∃a b c,δ=[a,b,c]) (placesFrom 0 P.aq) ⟨_,_,_,rfl⟩ ?_) ⟨?_,?_⟩
  ·rintro x hx δ ⟨a,b,c,rfl⟩;unfold lS;nofun;refine⟨rfl,⟨_,_,_,rfl⟩,?_⟩;nofun;rfl
  ·dsimp only;rw[P1,fw,show sizeLine=16777216 from rfl];have:=fit.ct
   lia
  ·nofun;refine rv (a:=(.tup ((placesFrom 0 P.aq).map rowAt),h)) rfl ?_;nofun
 obtain⟨p,e1,rfl⟩:=e;exact e1
end Mi
namespace Mi
open PySem Sm L2
theorem Ct{H g:MH}{d:D}(h1:∀n,d≠.ob n)(h2:iL H.length d=true):leave H d (H++g)=some (d,H):=by
 have h3:vK H.length (H++g) d=d:=by
  cases d with
  | ob n=>exact absurd rfl (h1 n)
  | _=>rfl
 unfold leave;rw[h3,Se (P8 _),QM,h2,pB];rfl
theorem AQ{h:MH}{n:Nat}{xs:List D}(e:h[n]?=some (.lst xs)):cR (.ob n) h=some (xs,[(n,.lst xs)]):=by unfold cR;dsimp only;rw[e]
theorem we{c:TM}{b:SM}{Q:SQ}(I:Nat->DS->MH->Prop)(step:∀k δ h,I k δ h->Rn (c δ h) fun p=>(p.1=true->Rn (b δ p.2) (uW (fun δ h=>∃k',k' < k∧I k' δ h) Q))∧(p.1=false->Q (.nx,δ,p.2))):
  ∀(n k:Nat)(δ:DS)(h:MH),k < n->I k δ h->Rn (iT c b n δ h) Q
 | 0,k,δ,h,hk,_=>absurd hk (by lia)
 | n+1,k,δ,h,hk,hI=>by
  obtain⟨p,e1,q1,q2⟩:=step k δ h hI;unfold iT;rw[e1];dsimp only[Option.bind_some]
  by_cases z:p.1=true
  ·rw[P7 z];obtain⟨⟨f,δ',h'⟩,e2,q⟩:=q1 z;rw[e2];dsimp only[Option.bind_some];cases f with
   | nx=>obtain⟨k',hk',hI'⟩:=q;exact we I step n k' δ' h' (by lia) hI'
   | ct=>obtain⟨k',hk',hI'⟩:=q;exact we I step n k' δ' h' (by lia) hI'
   | bk=>exact⟨_,rfl,q⟩
   | rt d=>exact⟨_,rfl,q⟩
  ·rw[Qa z];exact⟨_,rfl,q2 (by simpa using z)⟩
end Mi
namespace Mi
open PySem Sm L2 Rc
noncomputable def nD(x:Nat):D:=.int (x:Int)
noncomputable def Bo(cs:List (List Nat)):D:=.tup (cs.map fun l=>.tup (l.map nD))
noncomputable def dI(cs:List (List Nat))(i:Nat):List Nat:=cs.getD i []
theorem mn{cs:List (List Nat)}{i:Nat}(h:i < cs.length):cs[i]?=some (dI cs i):=by
 unfold dI;rw[Rm,P9 h];rfl
theorem wu:∀ns:List Nat,kT (ns.map nD)=some (ns.map fun(n:Nat)=>PyData.int (n:Int))
 | []=>rfl
 | n::r=>by rw[Qd];show((rN (nD n)).bind _)=_;rw[show rN (nD n)=some (.int (n:Int)) from rfl];dsimp only[Option.bind_some];rw[wu r];rfl
theorem nz:∀ns:List Nat,PyData.depthAll (ns.map fun(n:Nat)=>PyData.int (n:Int))≤1
 | []=>by simp[PyData.depthAll]
 | n::r=>by
  have:=nz r;simp only[Qd,PyData.depthAll,PyData.depth]
  lia
theorem xy(x:Nat):∀ns:List Nat,((ns.map fun(n:Nat)=>PyData.int (n:Int)).any fun b=>PyData.eqv b (.int (x:Int)))=ns.any fun y=>decide (y=x)
 | []=>rfl
 | n::r=>by
  rw[Qd,R6,R6,xy x r];congr 1;simp only[PyData.eqv]
  by_cases h:n=x
  ·subst h;simp
  ·rw[QS h];simp only[Th,ne_eq]
   lia
theorem vh{h:MH}{n:Nat}{ns:List Nat}(x:Nat)(e:h[n]?=some (.lst (ns.map nD))):fR (nD x) (.ob n) h=some (.bl (!ns.any fun y=>decide (y=x)),h):=by
 have h1:=nz ns;unfold fR inD;simp only[eu,e];show((cR (.ob n) h).bind _).map _=_;simp only[cR,e,QB,wu];show(((tZ h (nD x)).bind _).map _)=_;rw[show tZ h (nD x)=some (.int (x:Int)) from rfl];dsimp only[Option.bind_some];rw[P7 ⟨by simp[PyData.depth],by lia⟩,←xy];rfl
theorem EI{H g:MH}{xs:List D}{m:Nat}(hm:H.length≤m)(e:(H++g)[m]?=some (.lst xs))(h2:iL H.length (.lv xs)=true):leave H (.ob m) (H++g)=some (.lv xs,H):=by
 have h3:vK H.length (H++g) (.ob m)=.lv xs:=by
  unfold vK;dsimp only;rw[Qa (U3.mpr hm),e]
 unfold leave;rw[h3,Se (P8 _),QM,h2,pB];rfl
theorem Bu(m:Nat):∀ns:List Nat,gf m (ns.map nD)=true
 | []=>rfl
 | n::r=>by rw[Qd];show(iL m (nD n)&&gf m (r.map nD))=true;rw[Bu m r];rfl
theorem E6{cs:List (List Nat)}{a:Nat}{h:MH}(ha:a < cs.length):aY (Bo cs) (nD a) h=some (.tup ((dI cs a).map nD),h):=by
 have q:iz (cs.map fun l=>D.tup (l.map nD)) (a:Int)=some (.tup ((dI cs a).map nD)):=nK (by rw[Qi,mn ha];rfl);show((iz (cs.map fun l=>D.tup (l.map nD)) (a:Int)).map fun z=>(z,h))=_;rw[q];rfl
theorem Bj(h:MH)(a b:MO):(h++[a,b])[h.length]?=some a:=by simp
theorem yB(h:MH)(a b:MO):(h++[a,b])[h.length+1]?=some b:=by simp
theorem Mq(h:MH)(a b x:MO):(h++[a,b]).set h.length x=h++[x,b]:=by simp
theorem Iy(h:MH)(a b x:MO):(h++[a,b]).set (h.length+1) x=h++[a,x]:=by simp[List.set_append]
theorem Hk{h:MH}{n:Nat}{r:List Nat}{x:Nat}(e:h[n]?=some (.lst ((r++[x]).map nD))):EG (.ob n) [] h=some (nD x,h.set n (.lst (r.map nD))):=by
 unfold EG;dsimp only;rw[e];dsimp only;rw[Qr,Qd,Sh,Qb,QQ,VP,List.getElem?_concat_length,List.dropLast_concat];rfl
theorem yp{h:MH}{n:Nat}{xs:List D}{zs:List D}(e:h[n]?=some (.lst xs))(hl:xs.length+zs.length≤sizeLine):j4 (.ob n) [.tup zs] h=some (.cC,h.set n (.lst (xs++zs))):=by
 unfold j4;dsimp only;rw[e];dsimp only;rw[P7 hl]
theorem xi{h:MH}{cs:List (List Nat)}{a:Nat}(ha:a < cs.length)(hn:cs.length≤100)(hc:∀l∈cs,l.length≤100∧∀x∈l,x < cs.length):
  ∃found:List Nat,(∀b,b∈found↔R (dI cs) a b)∧gG [Bo cs,nD a] h=some (.lv (found.map nD),h):=by
 have hlt:∀i x,x∈dI cs i->x < cs.length:=fun i x hx=>by
  by_cases z:i < cs.length
  ·exact(hc _ (P6 (mn z))).2 x hx
  ·unfold dI at hx;rw[Rm,QR (by lia)] at hx;cases hx
 have hlen:∀i,(dI cs i).length≤100:=fun i=>by
  by_cases z:i < cs.length
  ·exact(hc _ (P6 (mn z))).1
  ·unfold dI;rw[Rm,QR (by lia)];exact Q9 _
 suffices r:Rn (gG [Bo cs,nD a] h) fun p=>∃found:List Nat,(∀b,b∈found↔R (dI cs) a b)∧p=(.lv (found.map nD),h) by
  obtain⟨p,e,found,h1,rfl⟩:=r;exact⟨found,h1,e⟩
 refine mQ ?_;nofun;refine wk ?_;nofun;refine rv (E6 ha) ?_;nofun;refine⟨_,_,_,rfl,rfl,?_⟩;nofun;have h0:=hlen a;refine we (fun k δ h'=>∃(found ahead:List Nat)(o:Option D),δ=[some (Bo cs),some (nD a),some (.ob h.length),some (.ob (h.length+1)),o]∧h'=h++[.lst (found.map nD),.lst (ahead.map nD)]∧k=(cs.length-found.length)*101+ahead.length∧Cm (dI cs) cs.length a found ahead∧k≤20000) ?_ 1000000 (cs.length*101+(dI cs a).length) _ _ (by lia) ⟨[],dI cs a,none,?_,?_,rfl,Cm.init,by lia⟩
 ·rintro k δ h' ⟨found,ahead,o,rfl,rfl,rfl,C,hk⟩;nofun;refine⟨!ahead.isEmpty,?_,fun z=>?_,fun z=>?_⟩
  ·show(match (h++[MO.lst (found.map nD),MO.lst (ahead.map nD)])[h.length+1]? with | some (.lst xs)=>some (!xs.isEmpty) | some (.dct kvs)=>some (!kvs.isEmpty) | none=>none)=_;rw[yB];simp
  ·obtain⟨r,x,rfl⟩:∃r x,ahead=r++[x]:=by
    rcases List.eq_nil_or_concat ahead with q |⟨r,x,q⟩
    ·subst q;cases z
    ·exact⟨r,x,by simpa using q⟩
   nofun;refine lQ ?_;nofun;refine⟨cI (yB _ _ _),?_⟩;nofun;refine rv (Hk (yB _ _ _)) ?_;rw[Iy];nofun;refine rv (vh x (Bj _ _ _)) ?_;have hx:x < cs.length:=let⟨_,q⟩:=C.r2 x (Qu _ (Qj.mpr rfl));q.lt hlt;refine⟨_,rfl,fun q=>?_,fun q=>?_⟩
   ·have hnew:x∉found:=fun m=>by
     have:found.any (fun y=>decide (y=x))=true:=Rb.mpr ⟨x,m,QO rfl⟩;rw[this] at q;cases q
    have C2:=C.new hnew;have hl:=C2.len hlt;have hl2:=hlen x;rw[Qb,QQ] at hl;rw[Qb,QQ] at hk;have hz:=QL;nofun;refine lQ ?_;nofun;refine⟨cI (Bj _ _ _),?_⟩;nofun;refine rv (dh (Bj _ _ _) (by rw[P1];lia)) ?_;rw[Mq];nofun;refine lQ ?_;nofun;refine⟨cI (yB _ _ _),?_⟩;nofun;refine rv (E6 hx) ?_;nofun;refine rv (yp (yB _ _ _) (by rw[P1,P1];lia)) ?_;rw[Iy];nofun;refine⟨_,?_,found++[x],r++dI cs x,_,rfl,?_,rfl,C2,?_⟩
    ·rw[Qb,Qb,QQ,Qb,QQ];have e1:cs.length-found.length=(cs.length-(found.length+1))+1:=by lia
     rw[e1,Nat.add_mul]
     lia
    ·simp
    ·rw[Qb,QQ,Qb];have e1:cs.length-found.length=(cs.length-(found.length+1))+1:=by lia
     rw[e1,Nat.add_mul] at hk
     lia
   ·have hold:x∈found:=by
     have:found.any (fun y=>decide (y=x))=true:=by simpa using q
     obtain⟨y,hy,e⟩:=Rb.mp this;rw[←QK e];exact hy
    rw[Qb,QQ] at hk;nofun;exact⟨_,by rw[Qb,QQ];exact SD _,found,r,_,rfl,rfl,rfl,C.known hold,by lia⟩
  ·have e0:ahead=[]:=by simpa using z
   subst e0;nofun;exact⟨_,EI (P8 _) (Bj _ _ _) (Bu _ _),found,fun b=>C.done,rfl⟩
 ·simp[entry]
 ·simp
theorem Lh{h:MH}{ns:List Nat}(x:Nat):yF (nD x) (.lv (ns.map nD)) h=some (.bl (ns.any fun y=>decide (y=x)),h):=by
 have h1:=nz ns;unfold yF inD;simp only[eu];show((cR (.lv (ns.map nD)) h).bind _).map _=_;simp only[cR,QB,wu];show(((tZ h (nD x)).bind _).map _)=_;rw[show tZ h (nD x)=some (.int (x:Int)) from rfl];dsimp only[Option.bind_some];rw[P7 ⟨by simp[PyData.depth],by lia⟩,←xy];rfl
theorem BC(l:List Nat)(p:Nat->Bool)(h:MH):E9 [.lv (l.map fun w=>D.bl (p w))] h=some (.bl (l.any p),h):=by
 show(sV (l.map fun x=>D.bl (p x))).map (fun bs=>(D.bl (bs.any id),h))=_;rw[xv];show some (D.bl ((l.map p).any id),h)=_;rw[List.any_map];rfl
theorem HI:cx [Bo cs] h=some (.int (cs.length:Int),h):=by
 show some (D.int ((cs.map fun l=>D.tup (l.map nD)).length:Int),h)=_;rw[P1]
theorem Ap{h:MH}{cs:List (List Nat)}{P:D}(hP:eV [P] h=some (Bo cs,h))(hn:cs.length≤100)(hc:∀l∈cs,l.length≤100∧∀x∈l,x < cs.length):
  ∃c:Bool,(c=true↔∃i,i < cs.length∧R (dI cs) i i)∧cM [P] h=some (.bl c,h):=by
 suffices r:Rn (cM [P] h) fun p=>∃c:Bool,(c=true↔∃i,i < cs.length∧R (dI cs) i i)∧p=(.bl c,h) by
  obtain⟨p,e,c,h1,rfl⟩:=r;exact⟨c,h1,e⟩
 refine cq ?_;nofun;refine rv hP ?_;nofun;refine fv ?_;nofun;refine rv HI ?_;nofun;refine⟨(cs.length:Int),rfl,by lia,by lia,?_⟩;rw[Qp];have fo:∀i,i < cs.length->(ay yF (ae 0) (aw gG (ab (ae 1) (ab (ae 0) ah)))) [some (nD i),some (Bo cs)] h=some (.bl (@decide (R (dI cs) i i) (Classical.propDecidable _)),h):=fun i hi=>by
  obtain⟨found,h1,h2⟩:=xi (h:=h) hi hn hc;refine c8 ?_;nofun;refine rv h2 ?_;nofun;refine rv (Lh i) ?_;congr 2;rw[RN,Rb,@decide_eq_true_iff _ (Classical.propDecidable _),←h1];constructor
  ·rintro⟨y,hy,e⟩;rw[←QK e];exact hy
  ·exact fun hy=>⟨i,hy,QO rfl⟩
 refine rv (kI (t:=[some (Bo cs)]) (fun d=>match d with | .int i=>.bl (@decide (R (dI cs) i.toNat i.toNat) (Classical.propDecidable _)) | d=>d) _ _ fun x hx=>?_) ?_
 ·obtain⟨i,hi,rfl⟩:=Ql.mp hx;exact fo i (Q3.mp hi)
 ·refine⟨by rw[P1,P1,Qt,QL];lia,?_⟩;nofun;rw[QI];refine rv (BC (List.range cs.length) (fun i=>@decide (R (dI cs) i i) (Classical.propDecidable _)) h) ?_;nofun;refine⟨_,?_,rfl⟩;rw[Rb];constructor
  ·rintro⟨i,hi,e⟩;exact⟨i,Q3.mp hi,@QK _ (Classical.propDecidable _) e⟩
  ·rintro⟨i,hi,e⟩;exact⟨i,Q3.mpr hi,@QO _ (Classical.propDecidable _) e⟩
noncomputable def dr(l:List Nat):MO:=.lst (l.map nD)
noncomputable def jX(b n:Nat):D:=.lv ((List.range n).map fun i=>.ob (b+i))
theorem t9{h:MH}{far:List (List Nat)}{i:Nat}(hi:i < far.length):(h++far.map dr)[h.length+i]?=some (.lst ((dI far i).map nD)):=by
 rw[Qw (by lia),R9,Qi,mn hi];rfl
theorem Mp{h:MH}{far:List (List Nat)}{i:Nat}{l:List Nat}:(h++far.map dr).set (h.length+i) (.lst (l.map nD))=h++(far.set i l).map dr:=by
 rw[S8 _ _ (by lia),R9,List.map_set];rfl
theorem By(hi:i < far.length):dI (far.set i l)=LN (dI far) i l:=by
 funext k
 unfold dI LN;rw[Rm,VX]
 by_cases e:i=k
 ·subst e;simp[hi]
 ·rw[Qa e,Qa (fun z=>e z.symm)];show far[k]?.getD []=far.getD k [];rw[Rm]
theorem kG(hi:i < n):aY (jX b n) (nD i) h=some (.ob (b+i),h):=by
 have q:iz ((List.range n).map fun i=>D.ob (b+i)) (i:Int)=some (.ob (b+i)):=nK (by rw[Qi,R8 hi];rfl);show((iz ((List.range n).map fun i=>D.ob (b+i)) (i:Int)).map fun z=>(z,h))=_;rw[q];rfl
noncomputable def wY:SM:=ft (eM bU fV (ay aY (ae 6) (ae 8)) (ab (eR (bD [none,some 6,some 8] (cZ (ay aY (ae 6) (ae 9))) (gN 0) (aM (ay fR (ae 0) (ay aY (ae 1) (ae 2)))) (ae 0))) ah))
theorem zV(e:h[n]?=some (.lst xs))(hl:xs.length+zs.length≤sizeLine):fV (.ob n) [.lv zs] h=some (.cC,h.set n (.lst (xs++zs))):=by
 unfold fV;dsimp only;rw[e];show((fF (.lv zs) h).bind _)=_;dsimp only[fF,Option.bind_some];rw[P7 hl]
noncomputable def EN(l:List Nat):D->Option D
 | .int i=>if(!l.any fun y=>decide (y=i.toNat))=true then some (.int i) else none
 | _=>none
theorem yz(l:List Nat)(i:Nat):EN l (nD i)=if(!l.any fun y=>decide (y=i))=true then some (nD i) else none:=by
 show(if(!l.any fun y=>decide (y=((i:Int)).toNat))=true then some (nD i) else none)=_;rw[Qp]
theorem u9(f:List Nat):∀l:List Nat,(l.map nD).filterMap (EN f)=(l.filter fun m=>!f.any fun x=>decide (x=m)).map nD
 | []=>rfl
 | m::r=>by
  rw[Qd,QG,List.filter_cons,u9 f r,yz];cases(!f.any fun x=>decide (x=m)) <;> rfl
theorem HZ{h:MH}{far:List (List Nat)}{one o:Nat}{v0 v1 v2 v3 v4 v5 v7 v10:Option D}(h1:one < far.length)(ho:o < far.length)(hz1:(dI far one).length≤1000)(hz2:(dI far o).length≤1000):
  wY [v0,v1,v2,v3,v4,v5,some (jX h.length far.length),v7,some (nD one),some (nD o),v10] (h++far.map dr)=
   some (.nx,[v0,v1,v2,v3,v4,v5,some (jX h.length far.length),v7,some (nD one),some (nD o),v10],h++(far.set one (uh (dI far one) (dI far o))).map dr):=by
 refine c8 ?_;unfold wY;nofun;refine lQ ?_;nofun;refine rv (kG h1) ?_;refine⟨cI (t9 h1),?_⟩;nofun;refine cV ?_;nofun;refine rv (kG ho) ?_;refine⟨_,_,AQ (t9 ho),?_⟩;have hw:∀x:Nat,fR (nD x) (.ob (h.length+one)) (h++far.map dr)=some (.bl (!(dI far one).any fun y=>decide (y=x)),h++far.map dr):=fun x=>vh x (t9 h1);refine rv (qD (Lr (t9 ho)) (EN (dI far one)) (fun δ=>∃v,δ=[v,some (jX h.length far.length),some (nD one)]) ⟨_,rfl⟩ ?_) ?_
 ·rintro x hx δ ⟨v,rfl⟩;obtain⟨i,hi,rfl⟩:=Ql.mp hx;nofun;refine⟨rfl,?_⟩;nofun;refine rv (kG h1) ?_;refine rv (hw i) ?_;rw[yz];refine⟨_,rfl,rfl,⟨_,rfl⟩,fun z=>⟨_,P7 z,?_⟩,fun z=>Qa (by rw[z];simp)⟩;nofun
 ·rw[u9];have hf:=List.length_filter_le (fun m=>!(dI far one).any fun x=>decide (x=m)) (dI far o);refine⟨by rw[P1,QL];lia,?_⟩;nofun;refine rv (zV (t9 h1) (by rw[P1,P1,QL];lia)) ?_;rw[←Qr,Mp];rfl
noncomputable def Aa:SM:=fL (iI (ab (aw cx (ab (ae 4) ah)) ah)) (gN 7) (fL (iI (ab (aw cx (ab (ae 4) ah)) ah)) (gN 8) (fL (cZ (eR (k6 (ab (ay aY (ae 6) (ae 8)) ah)))) (gN 9) wY))
theorem E1{h:MH}{v0 v1 v2 v3 v5 v7 v8 v9 v10:Option D}{Q:SQ}(hnm:names.length=cs.length)(hn:cs.length≤100)(hc:∀l∈cs,l.Nodup∧∀x∈l,x < cs.length)
  (k:∀far v7 v8 v9,far.length=cs.length->(∀i x,i < cs.length->(x∈dI far i↔R (dI cs) i x))->Q (.nx,[v0,v1,v2,v3,some (.lv names),v5,some (jX h.length cs.length),v7,v8,v9,v10],h++far.map dr)):
  Rn (Aa [v0,v1,v2,v3,some (.lv names),v5,some (jX h.length cs.length),v7,v8,v9,v10] (h++cs.map dr)) Q:=by
 have hlt:∀i x,x∈dI cs i->x < cs.length:=fun i x hx=>by
  by_cases z:i < cs.length
  ·exact(hc _ (P6 (mn z))).2 x hx
  ·unfold dI at hx;rw[Rm,QR (by lia)] at hx;cases hx
 unfold Aa;refine x6 (fv ?_);nofun;refine⟨(cs.length:Int),by rw[←hnm],by lia,by lia,?_⟩;rw[Qp];refine cW (fun t δ h'=>∃far v7 v8 v9,far.length=cs.length∧Fr (dI cs) cs.length (t+1) (dI far)∧δ=[v0,v1,v2,v3,some (.lv names),v5,some (jX h.length cs.length),v7,v8,v9,v10]∧h'=h++far.map dr) ⟨cs,_,_,_,rfl,Fr.init fun i hi=>(hc _ (P6 (mn hi))).1,rfl,rfl⟩ (fun _ _ _ _ _=>rfl) ?_ ?_
 ·rintro t x δ h' hx ⟨far,v7,v8,v9,hl,F,rfl,rfl⟩;nofun;refine fv ?_;nofun;refine⟨(cs.length:Int),by rw[←hnm],by lia,by lia,?_⟩;rw[Qp];refine cW (fun one δ h'=>∃far v8 v9,far.length=cs.length∧Tn (dI cs) cs.length (t+1) one (dI far)∧δ=[v0,v1,v2,v3,some (.lv names),v5,some (jX h.length cs.length),some x,v8,v9,v10]∧h'=h++far.map dr) ⟨far,_,_,hl,Tn.start F,rfl,rfl⟩ (fun _ _ _ _ _=>rfl) ?_ ?_
  ·rintro one y δ h' hy ⟨far,v8,v9,hl,T,rfl,rfl⟩;have h1:one < cs.length:=by
    have:=(P4.mp hy).1
    simpa using this
   obtain rfl:y=nD one:=by
    rw[Qi,R8 h1] at hy;cases hy;rfl
   nofun;refine cV ?_;nofun;refine wk ?_;nofun;refine rv (kG h1) ?_;nofun;refine⟨_,_,_,rfl,AQ (t9 (by lia)),_,_,rfl,?_⟩;have up:∀l:List Nat,LN (dI far) one l one=l:=fun l=>P7 rfl;refine cW (fun j δ h'=>∃far' v9,far'.length=cs.length∧Tn (dI cs) cs.length (t+1) one (dI far')∧(∀x∈dI far one,x∈dI far' one)∧(∀o∈(dI far one).take j,∀x,iQ (dI cs) (t+1) o x->x∈dI far' one)∧δ=[v0,v1,v2,v3,some (.lv names),v5,some (jX h.length cs.length),some x,some (nD one),v9,v10]∧h'=h++far'.map dr) ⟨far,_,hl,T,fun _ h=>h,fun o ho=>by simp at ho,rfl,rfl⟩ (fun _ _ _ _ _=>rfl) ?_ ?_
   ·rintro j z δ h' hz ⟨far',v9,hl',T',hin,hdone,rfl,rfl⟩;rw[Qi] at hz;obtain⟨o,ho1,rfl⟩:=Qs.mp hz;have hr:=T.only one h1 o (P6 ho1);have ho:o < cs.length:=let⟨_,q⟩:=hr;q.lt hlt;have sz:∀i,i < cs.length->(dI far' i).length≤1000:=fun i hi=>Qm (iF (T'.nd i hi) fun x hx=>let⟨_,q⟩:=T'.only i hi x hx;q.lt hlt) (by lia);have e:=HZ (h:=h) (far:=far') (one:=one) (o:=o) (v0:=v0) (v1:=v1) (v2:=v2) (v3:=v3) (v4:=some (.lv names)) (v5:=v5) (v7:=some x) (v10:=v10) (by lia) (by lia) (sz _ h1) (sz _ ho);rw[hl'] at e;nofun;refine rv e ?_;have hs:=By (far:=far') (i:=one) (l:=uh (dI far' one) (dI far' o)) (by lia);have up':dI (far'.set one (uh (dI far' one) (dI far' o))) one=uh (dI far' one) (dI far' o):=by rw[hs];exact P7 rfl
    refine EL ⟨far'.set one (uh (dI far' one) (dI far' o)),_,by rw[RF];exact hl',by rw[hs];exact T'.other h1 ho hr,fun x hx=>by rw[up'];exact jZ.mpr (.inl (hin x hx)),fun o' ho' x hx=>?_,rfl,rfl⟩;rw[up'];rw[take_snoc ho1] at ho';rcases Qx.mp ho' with q | q
    ·exact jZ.mpr (.inl (hdone o' q x hx))
    ·rw[Qj] at q;subst q;exact jZ.mpr (.inr (T'.has o' ho x hx))
   ·rintro δ h' ⟨far',v9,hl',T',hin,hdone,rfl,rfl⟩;rw[P1,QM] at hdone;exact EL ⟨far',_,_,hl',T'.step hlt h1 (dI far one) (fun x hx=>⟨T.has one h1 x (.one hx),hin x (T.has one h1 x (.one hx))⟩) (fun o ho _=>hdone o ho),rfl,rfl⟩
  ·rintro δ h' ⟨far,v8,v9,hl,T,rfl,rfl⟩;rw[P1,Qt] at T;exact⟨far,_,_,_,hl,T.fin,rfl,rfl⟩
 ·rintro δ h' ⟨far,v7,v8,v9,hl,F,rfl,rfl⟩;rw[P1,Qt] at F;exact k far _ _ _ hl fun i x hi=>F.told hlt (Tf _) hi
theorem yk:∀(xs:List D)(h:MH)(o:Option D),bR [] (gN 0) bS (sE ah) xs [o] h=some ((List.range xs.length).map fun i=>.ob (h.length+i),h++(List.replicate xs.length []).map dr)
 | [],h,o=>by
  show some (([]:List D),h)=_;simp
 | x::r,h,o=>by
  show((sE ah [some x] h).bind fun y=>(bR [] (gN 0) bS (sE ah) r [some x] y.2).map fun z=>(y.1::z.1,z.2))=_;show((bR [] (gN 0) bS (sE ah) r [some x] (h++[.lst []])).map fun z=>(D.ob h.length::z.1,z.2))=_;rw[yk r (h++[MO.lst ([]:List D)]) (some x)];simp only[QA,Qb,QQ,Qv,Vp,Qd,QI,RD,QV,Vw,Vo];congr 2;congr 1;apply Uv;intro i _;show D.ob (h.length+1+i)=D.ob (h.length+(i+1));congr 1
  lia
noncomputable def lh(ns:List Nat):List Nat:=(dM (eF (ns.map fun(n:Nat)=>(n:Int)))).map Int.toNat
theorem lj(hm:m δ h=some (d,h))(hd:fF d h=some (ns.map nD))(hl:ns.length≤1000)(hk:∀x∈ns,x < 60):
  (lh ns).Nodup∧(∀x,x∈lh ns↔x∈ns)∧gb m δ h=some (.lv ((lh ns).map nD),h):=by
 have e1:kZ (ns.map nD)=some (ns.map fun(n:Nat)=>(n:Int)):=by
  clear hd hl hk
  induction ns with
  | nil=>rfl
  | cons n r ih=>rw[Qd];show(kZ (r.map nD)).map _=_;rw[ih];rfl
 have hmem:∀z,z∈dM (eF (ns.map fun(n:Nat)=>(n:Int)))↔∃n∈ns,(n:Int)=z:=fun z=>by
  rw[(df _).mem_iff,Cj,Ql]
 have hnd:(dM (eF (ns.map fun(n:Nat)=>(n:Int)))).Nodup:=(df _).nodup_iff.mpr (yY _);have back:∀l:List Int,(∀z∈l,0≤z)->l=(l.map Int.toNat).map fun(n:Nat)=>(n:Int):=fun l=>by
  induction l with
  | nil=>intro _;rfl
  | cons z r ih=>intro hz;rw[Qd,Qd,←ih fun y hy=>hz y (Qc _ hy)];congr 1;have:=hz z Qe;lia
 have hpos:∀z∈dM (eF (ns.map fun(n:Nat)=>(n:Int))),0≤z:=fun z hz=>by obtain⟨n,_,rfl⟩:=(hmem z).mp hz;lia
 have hb:=back _ hpos;unfold lh;refine⟨?_,fun x=>?_,?_⟩
 ·rw[hb] at hnd;exact VG (S:=fun a b:Int=>a≠b) (fun(n:Nat)=>(n:Int)) (fun a b h z=>h (by rw[z])) hnd
 ·rw[Ql];constructor
  ·rintro⟨z,hz,rfl⟩;obtain⟨n,hn,rfl⟩:=(hmem z).mp hz;rw[Qp];exact hn
  ·exact fun hx=>⟨_,(hmem _).mpr ⟨x,hx,rfl⟩,Qp x⟩
 ·have h64:(eF (ns.map fun(n:Nat)=>(n:Int))).length < 64:=by
   have h1:=iF (m:=60) (l:=(dM (eF (ns.map fun(n:Nat)=>(n:Int)))).map Int.toNat) (by rw[hb] at hnd;exact VG (S:=fun a b:Int=>a≠b) (fun(n:Nat)=>(n:Int)) (fun a b h z=>h (by rw[z])) hnd) fun x hx=>by
    obtain⟨z,hz,rfl⟩:=Ql.mp hx;obtain⟨n,hn,rfl⟩:=(hmem z).mp hz;rw[Qp];exact hk n hn
   rw[P1,(df _).length_eq] at h1
   lia
  unfold gb;rw[hm];dsimp only[Option.bind_some];rw[hd];dsimp only[Option.bind_some];rw[e1];dsimp only[Option.bind_some];rw[P7 ⟨by rw[P1];exact hl,h64⟩];congr 3
  conv=>lhs;rw[hb]
  rw[QI];rfl
end Mi
namespace Mi
open PySem Sm L2 Rc Pg
noncomputable def cQ:Row->Option Str
 | .call w _=>some w
 | _=>none
noncomputable def my(num:Str->Nat)(k:Nat)(rs:List (Nat×Row)):List Nat:=rs.filterMap fun x=>if x.1=k then(cQ x.2).map num else none
noncomputable def ph:SM:=fb (aM (ay bY (ay aY (ae 5) (eK (.int 0))) (eK (.str "call")))) (ft (eM bU di (ay aY (ae 3) (ae 4)) (ab (ay aY (ae 2) (ay aY (ae 5) (eK (.int 1)))) ah))) bM
theorem Lf(e:gX kvs (.inr w)=some d):aY (.dv kvs) (.str w) h=some (d,h):=by
 simp only[aY,eu,qk,QB,e,QA]
theorem Fx{h:MH}{v0 v1:Option D}(hd:d < called.length)(hz:(dI called d).length≤2000)(hk:∀w,cQ r=some w->gX kvs (.inr w)=some (nD (num w))):
  ph [v0,v1,some (.dv kvs),some (jX h.length called.length),some (nD d),some (aP r)] (h++called.map dr)=
   some (.nx,[v0,v1,some (.dv kvs),some (jX h.length called.length),some (nD d),some (aP r)],h++(called.set d (dI called d++((cQ r).map num).toList)).map dr):=by
 have same:called.set d (dI called d++[])=called:=by
  rw[Ra];refine TH fun k=>?_;rw[VX]
  by_cases e:d=k
  ·subst e;rw[P7 rfl,P7 hd];exact(mn hd).symm
  ·rw[Qa e]
 have hs:∀r:Row,aY (aP r) (.int 0) (h++called.map dr)=some (.str (match r with | .say _=>"say" | .call _ _=>"call" | .within _ _=>"within" | .all _ _=>"all" | .ask _ _ _=>"ask" | .qP _ _ _ _ _=>"by" | .either _ _=>"either" | .again _=>"again"),h++called.map dr):=fun r=>by cases r <;> rw[aP] <;> rfl
 refine c8 ?_;unfold ph;nofun;refine rv (hs r) ?_
 by_cases c:∃w ts,r=.call w ts
 ·obtain⟨w,ts,rfl⟩:=c;refine⟨_,rfl,?_⟩;refine rv (a:=(.bl true,h++called.map dr)) (by ac_nf) ?_;refine⟨true,rfl,fun _=>?_,fun z=>(nomatch z)⟩;nofun;refine lQ ?_;nofun;refine rv (kG hd) ?_;refine⟨cI (t9 hd),?_⟩;nofun;refine rv (a:=(.str w,h++called.map dr)) (by rw[aP];rfl) ?_;refine rv (Lf (hk w rfl)) ?_;nofun;refine rv (dh (t9 hd) (by rw[P1,QL];lia)) ?_;show _=_;rw[show(dI called d).map nD++[nD (num w)]=(dI called d++[num w]).map nD by rw[Qr];rfl,Mp];rfl
 ·have e0:cQ r=none:=by
   cases r with
   | call w ts=>exact absurd ⟨w,ts,rfl⟩ c
   | _=>rfl
  rw[e0];refine⟨_,rfl,?_⟩;refine rv (a:=(.bl false,h++called.map dr)) (by
   cases r with
   | call w ts=>exact absurd ⟨w,ts,rfl⟩ c
   | _=>ac_nf) ?_
  refine⟨false,rfl,fun z=>(nomatch z),fun _=>?_⟩;refine⟨_,rfl,?_⟩;show _=_;rw[show((none:Option Str).map num).toList=[] from rfl,same]
noncomputable def JP(x:Nat×Row):D:=.tup [nD x.1,aP x.2]
noncomputable def sQ:SM:=fL (cZ (ae 1)) (gT 2 (aN (gN 4) (aN (gN 5) dE))) ph
theorem Au{h:MH}{v0 v4 v5:Option D}{Q:SQ}(hr:∀x∈rs,x.1 < n)(hl:rs.length≤2000)(hk:∀x∈rs,∀w,cQ x.2=some w->gX kvs (.inr w)=some (nD (num w)))
  (k:∀called v4 v5,called.length=n->(∀k,k < n->dI called k=my num k rs)->Q (.nx,[v0,some (.tup (rs.map JP)),some (.dv kvs),some (jX h.length n),v4,v5],h++called.map dr)):
  Rn (sQ [v0,some (.tup (rs.map JP)),some (.dv kvs),some (jX h.length n),v4,v5] (h++(List.replicate n []).map dr)) Q:=by
 unfold sQ;refine x6 (cV ?_);nofun;refine⟨_,_,rfl,?_⟩;refine cW (fun i δ h'=>∃called v4 v5,called.length=n∧(∀k,k < n->dI called k=my num k (rs.take i))∧δ=[v0,some (.tup (rs.map JP)),some (.dv kvs),some (jX h.length n),v4,v5]∧h'=h++called.map dr) ⟨List.replicate n [],_,_,Vx,fun k hk=>?_,rfl,rfl⟩ (fun _ _ _ _ _=>rfl) ?_ ?_
 ·unfold dI;rw[Rm,Sd,P7 hk];rfl
 ·rintro i y δ h' hy ⟨called,v4,v5,hn,hi,rfl,rfl⟩;rw[Qi] at hy;obtain⟨⟨d,r⟩,hx,rfl⟩:=Qs.mp hy;have hm:=P6 hx;have hd:d < n:=hr _ hm;have hz:(dI called d).length≤2000:=by
   rw[hi d hd];unfold my;have h1:=RK (fun x:Nat×Row=>if x.1=d then(cQ x.2).map num else none) (rs.take i);have h2:(rs.take i).length≤rs.length:=by rw[Qy];lia
   lia
  have e:=Fx (h:=h) (called:=called) (kvs:=kvs) (num:=num) (d:=d) (r:=r) (v0:=v0) (v1:=some (.tup (rs.map JP))) (by lia) hz (hk _ hm);rw[hn] at e;unfold JP;nofun;refine rv e ?_;refine EL ⟨called.set d (dI called d++((cQ r).map num).toList),_,_,by rw[RF];exact hn,fun k hk'=>?_,rfl,rfl⟩;rw[By (by lia),take_snoc hx];have ea:my num k (rs.take i++[(d,r)])=my num k (rs.take i)++my num k [(d,r)]:=by unfold my;rw[VA]
  rw[ea];unfold LN
  by_cases z:k=d
  ·subst z;rw[P7 rfl,hi k hk'];congr 1;unfold my;rw[QG];dsimp only;rw[P7 rfl];cases cQ r <;> rfl
  ·rw[Qa z,hi k hk'];have e2:my num k [(d,r)]=[]:=by
    unfold my;rw[QG];dsimp only;rw[Qa fun q=>z q.symm];rfl
   rw[e2,Ra]
 ·rintro δ h' ⟨called,v4,v5,hn,hi,rfl,rfl⟩;rw[P1,QM] at hi;exact k called _ _ hn hi
theorem IL(m:Nat):∀cs:List (List Nat),gf m (cs.map fun l=>.tup (l.map nD))=true
 | []=>rfl
 | l::r=>by rw[Qd];show(gf m (l.map nD)&&gf m (r.map fun l=>.tup (l.map nD)))=true;rw[Bu,IL m r];rfl
theorem uf(hN:dS [.tup [a,.tup ds]] h=some (.dv kvs,h))(hr:∀x∈rs,x.1 < ds.length)(hl:rs.length≤1000)(hn:ds.length≤60)(hk:∀x∈rs,∀w,cQ x.2=some w->gX kvs (.inr w)=some (nD (num w))∧num w < ds.length):
  jl [.tup [a,.tup ds],.tup (rs.map JP)] h=some (Bo ((List.range ds.length).map fun k=>lh (my num k rs)),h):=by
 refine c8 (mQ ?_);nofun;refine rv hN ?_;nofun;refine cV ?_;nofun;refine⟨_,_,rfl,?_⟩;refine rv (yk ds h none) ?_;refine⟨by rw[P1,Qt,QL];lia,?_⟩;show Rn (av sQ _ _ _) _;refine fu (Au (n:=ds.length) (num:=num) hr (by lia) (fun x hx w e=>(hk x hx w e).1) fun called v4 v5 hc1 hc2=>?_);have one:∀i,i < ds.length->aw ck (ab (gb (ae 0)) ah) [some (.ob (h.length+i))] (h++called.map dr)=some (.tup ((lh (my num i rs)).map nD),h++called.map dr):=fun i hi=>by
  have hf:(my num i rs).length≤rs.length:=RK _ _;have e:=(lj (m:=ae 0) (δ:=[some (.ob (h.length+i))]) (h:=h++called.map dr) (d:=.ob (h.length+i)) (ns:=my num i rs) rfl (by show(match (h++called.map dr)[h.length+i]? with | some (.lst xs)=>some xs | _=>none)=_;rw[t9 (by lia),hc2 i hi]) (by lia) (fun x hx=>by
   unfold my at hx;obtain⟨y,hy,e⟩:=Sg.mp hx
   by_cases z:y.1=i
   ·rw[P7 z] at e;obtain⟨w,e1,rfl⟩:=Qs.mp e;have:=(hk y hy w e1).2
    lia
   ·rw[Qa z] at e;cases e)).2.2
  refine c8 ?_;nofun;refine rv e ?_;nofun;exact⟨_,rfl,rfl⟩
 nofun;refine cV ?_;nofun;refine⟨_,_,rfl,?_⟩;refine rv (kI (t:=[]) (fun d=>match d with | .ob m=>.tup ((lh (my num (m-h.length) rs)).map nD) | d=>d) _ none fun x hx=>?_) ?_
 ·obtain⟨i,hi,rfl⟩:=Ql.mp hx;dsimp only;rw[R9];exact one i (Q3.mp hi)
 ·refine⟨by rw[P1,P1,Qt,QL];lia,?_⟩;nofun;refine⟨_,rfl,?_⟩;have em:((List.range ds.length).map fun i=>D.ob (h.length+i)).map (fun d=>match d with | D.ob m=>D.tup ((lh (my num (m-h.length) rs)).map nD) | d=>d)=((List.range ds.length).map fun k=>lh (my num k rs)).map fun l=>D.tup (l.map nD):=by
   rw[QI,QI];refine Uv fun i _=>?_;show D.tup ((lh (my num (h.length+i-h.length) rs)).map nD)=_;rw[R9];rfl
  rw[em];nofun;exact⟨_,Ct (fun n z=>(nomatch z)) (IL _ _),rfl⟩
noncomputable def nums:Nat->List Str->List (Key×D)
 | _,[]=>[]
 | k,w::r=>(.inr w,nD k)::nums (k+1) r
theorem ym:∀(k:Nat)(x y:List Str),nums k (x++y)=nums k x++nums (k+x.length) y
 | k,[],y=>by simp[nums]
 | k,w::x,y=>by simp only[Ue,nums,ym (k+1) x y,Qv];congr 3;lia
theorem uP:∀(k:Nat)(x:List Str),(nums k x).map (·.1)=x.map Sum.inr
 | _,[]=>rfl
 | k,w::r=>by rw[nums,Qd,Qd,uP (k+1) r]
theorem yl:∀(k:Nat)(x:List Str),(nums k x).length=x.length
 | _,[]=>rfl
 | k,w::r=>by rw[nums,Qv,Qv,yl (k+1) r]
theorem Ba:∀(k i:Nat)(x:List Str)(w:Str),x.Nodup->x[i]?=some w->gX (nums k x) (.inr w)=some (nD (k+i))
 | k,0,v::r,w,_,e=>by
  cases e;unfold gX nums;rw[Vr (by simp)];rfl
 | k,i+1,v::r,w,hn,e=>by
  have hne:v≠w:=fun z=>(RW.mp hn).1 (z ▸ P6 (by simpa using e));have:=Ba (k+1) i r w (RW.mp hn).2 (by simpa using e);unfold gX at this ⊢;rw[nums,Uj (by simpa using hne),this];congr 2
  lia
theorem x9{kvs:List (Key×D)}{k:Key}{v:D}(h:k∉kvs.map (·.1)):putD kvs k v=kvs++[(k,v)]:=by
 unfold putD;rw[Qa];intro z;obtain⟨kv,hkv,e⟩:=Rb.mp z;exact h (Ql.mpr ⟨kv,hkv,QK e⟩)
theorem nB{h:MH}{a:D}{ds:List D}{ws:List Str}(hd:ds.length=ws.length)(hw:∀(i:Nat)(d:D),ds[i]?=some d->∃(w:Str)(rest:List D),ws[i]?=some w∧d=D.tup (.str w::rest))(hn:ws.Nodup)(hl:ws.length≤1000):
  dS [.tup [a,.tup ds]] h=some (.dv (nums 0 ws),h):=by
 refine c8 (cq ?_);nofun;refine IC (mR ?_);nofun;refine⟨_,_,_,rfl,rfl,?_⟩;refine qE (jm 0 ds) (fun r δ h' acc=>∃i v0 v1,i≤ds.length∧r=jm i (ds.drop i)∧h'=h∧δ=[v0,v1]∧acc=nums 0 (ws.take i)) _ _ _ ⟨0,_,_,Q9 _,by rw[List.drop_zero],rfl,rfl,by rw[Sa];rfl⟩ ?_ ?_
 ·rintro x r δ h' acc ⟨i,v0,v1,hi,hr,rfl,rfl,rfl⟩;have hlt:i < ds.length:=by
   rcases Sf i ds.length with z | z
   ·exact z
   ·rw[List.drop_eq_nil_of_le z] at hr;cases hr
  rw[Va hlt] at hr;obtain⟨w,rest,e1,e2⟩:=hw i ds[i] (P9 hlt);rw[e2] at hr;injection hr with hx hr
  subst hx;refine⟨rfl,?_⟩;nofun;refine⟨_,rfl,?_⟩;dsimp only;rw[P7 rfl];refine ME ?_;nofun;have hw1:w∉ws.take i:=fun m=>by
   obtain⟨j,hj⟩:=RI.mp m;rw[UG] at hj
   by_cases z:j < i
   ·rw[P7 z] at hj;have h1:=(P4.mp hj);have h2:=(P4.mp e1);obtain⟨a1,b1⟩:=h1;obtain⟨a2,b2⟩:=h2;have:=(U9.mp hn) j i a1 a2 z;exact this (b1.trans b2.symm)
   ·rw[Qa z] at hj;cases hj
  refine⟨.inr w,rfl,by rw[yl,Qy,QL];lia,i+1,_,_,hlt,hr,rfl,rfl,?_⟩;show putD (nums 0 (ws.take i)) (.inr w) (nD i)=_;have hli:(ws.take i).length=i:=by rw[Qy];lia
  rw[x9 (by rw[uP];intro m;obtain⟨y,hy,e⟩:=Ql.mp m;cases e;exact hw1 hy),take_snoc e1,ym,hli,Sz];rfl
 ·rintro δ h' acc ⟨i,v0,v1,hi,hr,rfl,rfl,rfl⟩;have he:i=ds.length:=by
   rcases Sf i ds.length with z | z
   ·rw[Va z] at hr;cases hr
   ·lia
  refine⟨rfl,?_⟩;show _=_;dsimp only;rw[he,hd,QM]
end Mi
namespace Mi
open PySem L2 Sm PySem.Spec PyProof.Rows Pg
def Wo(w:Str):Prop:=1≤w.length∧w.length≤7∧low w
theorem KQ:∀c < 128,97≤c->(c≤122->(!(Builtin.Str.occurrences (Str.ofString "abcdefghijklmnopqrstuvwxyz") ⟨#[c]⟩ 0 (Str.ofString "abcdefghijklmnopqrstuvwxyz").length 1).isEmpty)=true):=by decide+kernel
theorem qO(ha:ea δ h=some (.int a,h))(hn:eb δ h=some (.int n,h))(hb:ec δ h=some (.int b,h))(h1:a≤n)(h2:n≤b):gS za za ea eb ec δ h=some (.bl true,h):=by
 rw[Fw ha hn hb,QO h1,QO h2];rfl
theorem sX(hi:ei δ h=some (d,h))(hs:cR d h=some (xs,[]))(hc:jn caps δ=o::t)(hl:xs.length≤100000)(he:∀x∈xs,e (some x::t) h=some (.bl true,h)):
  aw qo (ab (eR (bD caps (cZ ei) (gN 0) bS e)) ah) δ h=some (.bl true,h):=by
 rw[Ih (fun _=>true) hi hs hc hl he,Rq.mpr fun _ _=>rfl]
theorem Wo.asc(o:Wo w):w.cps.all (· < 128)=true:=by
 rw[R3];intro c hc;have:=o.2.2 c hc;simp;lia
theorem Wo.ok(o:Wo w):PyData.strOk w=true:=zW o.2.2
theorem zB(o:Wo w):gF [.str w] h=some (.bl true,h):=by
 have e1:HD (ae 0) [some (.str w)] h=some (w.cps.toList.map fun c=>D.str ⟨#[c]⟩,[],h):=by
  show(if w.cps.all (· < 128)=true then _ else _)=_;rw[P7 o.asc]
 have e2:bD [none] (HD (ae 0)) (gN 0) bS (ay yF (ae 0) (eK (.str "abcdefghijklmnopqrstuvwxyz"))) [some (.str w)] h=some ((w.cps.toList.map fun c=>D.str ⟨#[c]⟩).map fun _=>D.bl true,h):=by
  unfold bD;rw[e1];show((bR [] (gN 0) bS _ (w.cps.toList.map fun c=>D.str ⟨#[c]⟩) [none] h).bind _)=_;rw[kI (t:=[]) (fun _=>D.bl true) _ none fun x hx=>?_]
  ·show(if _≤sizeLine then _ else _)=_;rw[P7 (by rw[P1,P1,RE,QL];have:w.cps.size=w.length:=rfl;have:=o.2.1;lia)]
  ·obtain⟨c,hc,rfl⟩:=Ql.mp hx;have hc:=o.2.2 c (Ro.mp hc);show some (D.bl (!(Builtin.Str.occurrences _ _ _ _ _).isEmpty),h)=_;rw[KQ c (by lia) hc.1 hc.2]
 refine c8 (cq ?_);nofun;refine rv (a:=(.bl true,h)) rfl ⟨true,rfl,ff (lP (rJ (rv (qO (n:=w.length) rfl (yD (by have:=o.2.1;lia)) rfl (by have:=o.1;lia) (by have:=o.2.1;lia)) ⟨true,rfl,ff ?_⟩)))⟩;refine iq (lg (uG (B7 (rH (B6 (rv e2 (x5 ?_)))))));refine rv (Bm (fun _=>true) _ h) ?_;nofun;rw[Rq.mpr fun _ _=>rfl]
theorem mS:∀ws:List Str,kT (ws.map D.str)=some (ws.map PyData.str)
 | []=>rfl
 | c::r=>by simp only[Qd,kT,rN,mS r,QB,QA]
theorem jg:∀ws:List Str,PyData.depthAll (ws.map PyData.str)=0
 | []=>rfl
 | c::r=>by simp only[Qd,PyData.depthAll,jg r,PyData.depth];rfl
theorem Bf{w:Str}{ps:List Str}{h:MH}(m:w∈ps):yF (.str w) (.tup (ps.map D.str)) h=some (.bl true,h):=by
 have e2:inD (.str w) (.tup (ps.map D.str)) h=some true:=by
  show((kT (ps.map D.str)).bind fun bs=>if(PyData.str w).depth≤60∧PyData.depthAll bs≤60 then some (bs.any fun b=>PyData.eqv b (.str w)) else none)=_;rw[mS];show(if(PyData.str w).depth≤60∧PyData.depthAll (ps.map PyData.str)≤60 then some ((ps.map PyData.str).any fun b=>PyData.eqv b (.str w)) else none)=_;rw[P7 ⟨by simp[PyData.depth],by rw[jg];lia⟩,Rb.mpr ⟨.str w,Ql.mpr ⟨w,m,rfl⟩,by simp[PyData.eqv]⟩]
 unfold yF;rw[e2];rfl
theorem wm{t:Term}{ps:List Str}{h:MH}(o:eG ps t):eY [bG t,.tup (ps.map D.str)] h=some (.bl true,h):=by
 obtain⟨w,f⟩:=t;have fin:gS za za (Bn vI (eK (.int 99))) (ae 3) (eK (.int 99)) [some (bG (w,f)),some (.tup (ps.map D.str)),some (.str w),some (.int f)] h=some (.bl true,h):=qO (a:=-99) (n:=f) (b:=99) rfl rfl rfl o.2.1 o.2.2;refine c8 (cq ?_);nofun;refine rv (a:=(.bl true,h)) rfl ⟨true,rfl,ff ?_⟩;unfold bG at*;nofun;refine rv (a:=(.bl true,h)) rfl ⟨true,rfl,ff ?_⟩;nofun;refine rv (a:=(.bl true,h)) rfl ⟨true,rfl,ff ?_⟩;nofun;refine⟨_,rfl,fun z=>⟨true,rfl,tt (rv fin ?_)⟩,fun z=>?_⟩
 ·nofun
 ·nofun;rcases o.1 with q | q
  ·dsimp only at q;rw[q] at z;exact absurd z (by decide)
  ·refine rv (Bf q) ⟨true,rfl,tt (rv fin ?_)⟩;nofun
theorem zC{l:Lock}{ns ps:List Str}{h:MH}(o1:l.1∈ns)(o2:eG ps l.2):iS [aO l,.tup (ns.map D.str),.tup (ps.map D.str)] h=some (.bl true,h):=by
 refine c8 (cq ?_);nofun;refine rv (a:=(.bl true,h)) rfl ⟨true,rfl,ff ?_⟩;unfold aO;nofun;refine rv (a:=(.bl true,h)) rfl ⟨true,rfl,tt ?_⟩;nofun;refine rv (Bf o1) ⟨true,rfl,tt ?_⟩;nofun;refine rv (wm o2) ?_;nofun
theorem xI(hi:ei δ h=some (.tup xs,h))(hs:je (.tup xs)=some xs.length):ay bY (ny ei) (aw cx (ab ei ah)) δ h=some (.bl true,h):=by
 unfold ay ny aw ab ah;rw[hi];dsimp only[Option.bind_some];rw[hs];dsimp only[Option.map_some,Option.bind_some];rw[hi];show bY (.int xs.length) (.int xs.length) h=_;rw[E7,RP]
theorem sh:∀ws:List Str,si (ws.map D.str)=some (ws.map .inr)
 | []=>rfl
 | w::r=>by show((si (r.map D.str)).map fun ks=>Sum.inr w::ks)=_;rw[sh r];rfl
theorem vA:∀(ws:List Str)(acc:List Key),(acc++ws.map Sum.inr).Nodup->(ws.map (Sum.inr:Str->Key)).foldl jo acc=acc++ws.map Sum.inr
 | [],acc,_=>by simp
 | w::r,acc,h=>by
  have e:jo acc (.inr w)=acc++[.inr w]:=by
   unfold jo;rw[Qa];intro q;obtain⟨x,hx,e⟩:=Rb.mp q;rw[Rt] at h;exact h.2.2 x hx x (by rw[QK e];simp) rfl
  have ih:=vA r (acc++[.inr w]) (by rw[QV];exact h);rw[Qd,RY,e];refine ih.trans ?_;rw[QV];rfl
theorem len_strs{ws:List Str}(hl:ws.length≤1000)(hn:ws.Nodup):je (.tup (ws.map D.str))=some (ws.map D.str).length:=by
 unfold je;dsimp only;rw[sh];dsimp only;rw[P7 (by rw[P1];exact hl),P1];show some ((ws.map Sum.inr).foldl jo []).length=_;rw[vA ws [] (by rw[RX];exact hn.map Sum.inr fun a b h=>by simpa using h),RX,P1]
theorem rK{ws:List Str}{a b:Int}{h:MH}(ha:a≤ws.length)(hb:(ws.length:Int)≤b)(h6:ws.length≤6)(ho:∀w∈ws,Wo w)(hn:ws.Nodup):bT [.tup (ws.map D.str),.int a,.int b] h=some (.bl true,h):=by
 refine c8 (cq ?_);nofun;refine rv (a:=(.bl true,h)) rfl ⟨true,rfl,ff (lP (rJ (rv (qO (n:=ws.length) rfl (show some (D.int ((ws.map D.str).length:Int),h)=_ by rw[P1]) rfl ha hb) ⟨true,rfl,ff ?_⟩)))⟩;refine iq (lg (uG (D6 (rv (sX (t:=[]) rfl rfl rfl (by rw[P1];lia) fun x hx=>?_) ⟨true,rfl,tt (rv (xI rfl (len_strs (by lia) hn)) ?_)⟩))))
 ·obtain⟨w,hw,rfl⟩:=Ql.mp hx;exact zB (ho w hw)
 ·nofun
theorem vC:∀(ds acc:List PyData),(∀d∈acc++ds,dq 8 d=true)->(acc++ds).Nodup->ds.foldl pD acc=acc++ds
 | [],acc,_,_=>by simp
 | d::r,acc,hp,nd=>by
  have e:pD acc d=acc++[d]:=by
   unfold pD;rw[Qa];intro q;unfold CF at q;obtain⟨x,hx,e⟩:=Rb.mp q;have:=wx 8 (hp x (by simp[hx])) (hp d (by simp)) e;subst this;rw[Rt] at nd;exact nd.2.2 x hx x (by simp) rfl
  rw[RY,e,vC r (acc++[d]) (fun x hx=>hp x (by simpa using hx)) (by rw[QV];exact nd),QV];rfl
theorem Cq{a b:Lock}(h:dD a=dD b):a=b:=by
 obtain⟨x,y,z⟩:=a;obtain⟨u,v,w⟩:=b;simp only[dD,mC,PyData.tuple.injEq,List.cons.injEq,PyData.str.injEq,PyData.int.injEq,and_true] at h;obtain⟨h1,h2,h3⟩:=h;rw[h1,h2,h3]
theorem Cs{ls:List Lock}(h2:2≤ls.length)(h4:ls.length≤4)(nd:ls.Nodup)(hs:∀l∈ls,PyData.strOk l.1=true∧PyData.strOk l.2.1=true):je (.tup (ls.map aO))=some (ls.map aO).length:=by
 have hk:si (ls.map aO)=none:=by
  cases ls with
  | nil=>simp at h2
  | cons l r=>rfl
 have hp:∀x∈ls.map dD,dq 8 x=true:=fun x hx=>by
  obtain⟨l,hl,rfl⟩:=Ql.mp hx;obtain⟨a,b⟩:=hs l hl;simp[dD,mC,dq,a,b]
 unfold je;dsimp only;rw[hk];dsimp only;rw[kA];dsimp only[Option.bind_some];rw[P7]
 ·show some ((ls.map dD).foldl pD []).length=_;rw[vC (ls.map dD) [] (by simpa using hp) (by rw[RX];exact nd.map dD fun a b h=>fun z=>h (Cq z)),RX,P1,P1]
 ·rw[Qq,Qq];refine⟨⟨Rq.mpr hp,Rq.mpr fun x hx=>?_⟩,by rw[P1];exact QO h4⟩;obtain⟨l,hl,rfl⟩:=Ql.mp hx;rfl
theorem KC:PyData.strOk (Str.ofString "")=true:=by decide+kernel
theorem Jc(xs:List D)(n:Int)(h:MH):cv [.tup xs,.int n] h=some (.bl ((xs.length:Int)==n),h):=rfl
end Mi
namespace Mi
open PySem L2 Sm Pg
structure Wr(W:Wd)(ns ps:List Str)(kvs:List (Key×D)):Prop where
 hn:∀w∈W.names,Wo w
 hd:∀w∈W.aq,Wo w
 hp:∀w∈ps,Wo w
 hs:∀w∈W.names,w∈ns
 hc:∀(j:Nat)(d:Str)(qs:List Str),W.aq[j]?=some d->W.params[j]?=some qs->gX kvs (.inr d)=some (.int (qs.length:Int))
 h3:∀qs∈W.params,qs.length≤3
section
variable {W:Wd} {ns ps:List Str} {kvs:List (Key×D)} (E:Wr W ns ps kvs)
include E
theorem GN{ls:List Lock}{h:MH}(h2:2≤ls.length)(h4:ls.length≤4)(nd:ls.Nodup)(hl:∀l∈ls,fP W ps l):ic [.tup (ls.map aO),.tup (ns.map D.str),.tup (ps.map D.str)] h=some (.bl true,h):=by
 refine c8 (cq ?_);nofun;refine rv (a:=(.bl true,h)) rfl ⟨true,rfl,ff (lP (rJ (rv (qO (a:=2) (n:=ls.length) (b:=4) rfl (show some (D.int ((ls.map aO).length:Int),h)=_ by rw[P1]) rfl (by lia) (by lia)) ⟨true,rfl,ff ?_⟩)))⟩;refine iq (lg (uG (D6 (rv (sX (t:=[some (.tup (ns.map D.str)),some (.tup (ps.map D.str))]) rfl rfl rfl (by rw[P1];lia) fun x hx=>?_) ⟨true,rfl,tt (rv (xI rfl (Cs h2 h4 nd fun l hm=>⟨(E.hn _ (hl l hm).1).ok,?_⟩)) ?_)⟩))))
 ·obtain⟨l,hm,rfl⟩:=Ql.mp hx;exact zC (E.hs _ (hl l hm).1) (hl l hm).2
 ·rcases(hl l hm).2.1 with e | e
  ·rw[e];exact KC
  ·exact(E.hp _ e).ok
 ·nofun
theorem JQ{w:Str}{ts:List Term}{h:MH}{j:Nat}{qs:List Str}(h1:W.aq[j]?=some w)(h2:W.params[j]?=some qs)(hl:ts.length=qs.length)(ht:∀t∈ts,eG ps t):kN [.str w,.tup (ts.map bG),.dv kvs,.tup (ps.map D.str)] h=some (.bl true,h):=by
 have hv:=E.hc j w qs h1 h2;have h3:=E.h3 qs (P6 h2);refine c8 (cq ?_);nofun;refine rv (zB (E.hd w (P6 h1))) ⟨true,rfl,ff ?_⟩;nofun;refine rv (Ab (kvs:=kvs) rfl) ?_;rw[hv];refine⟨_,rfl,ff ?_⟩;nofun;refine rv (HK (kvs:=kvs) rfl hv) ?_;nofun;refine rv (Jc _ _ _) ?_;rw[P1,hl,RP];refine⟨true,rfl,ff ?_⟩;have hx:∀x∈ts.map bG,eY [x,.tup (ps.map D.str)] h=some (.bl true,h):=fun x hx=>by
  obtain⟨t,hm,rfl⟩:=Ql.mp hx;exact wm (ht t hm)
 refine iq (lg (uG (rv (sX (t:=[some (.tup (ps.map D.str))]) rfl rfl rfl (by rw[P1];lia) hx) ?_)));nofun
theorem GQ{n:Nat}{r:Row}{h:MH}(o:bo W ps n r):eB [aP r,.tup (ns.map D.str),.dv kvs,.tup (ps.map D.str)] h=some (.bl true,h):=by
 refine c8 (cq ?_);cases r <;> rw[bo] at o <;> rw[aP] <;> nofun
 case say w=>
  refine⟨_,rfl,fun _=>?_,fun z=>absurd z (by decide)⟩;nofun;refine rv (zB ?_) ?_
  ·rcases Qx.mp o with q | q
   ·exact E.hn w q
   ·exact E.hd w q
  ·nofun
 all_goals
  refine⟨_,rfl,fun z=>absurd z (by decide),fun _=>?_⟩;nofun
 case call w ts=>
  refine⟨_,rfl,fun _=>?_,fun z=>absurd z (by decide)⟩;nofun;obtain⟨⟨j,qs,h1,h2,h3⟩,h4⟩:=o;refine rv (JQ E h1 h2 h3 h4) ?_;nofun
 all_goals
  refine⟨_,rfl,fun z=>absurd z (by decide),fun _=>?_⟩;nofun
 case all ls b=>
  refine⟨_,rfl,fun _=>?_,fun z=>absurd z (by decide)⟩;nofun;obtain⟨⟨h2,h4,nd,hl⟩,_⟩:=o;refine rv (GN E h2 h4 nd hl) ?_;nofun
 all_goals
  refine⟨_,rfl,fun z=>absurd z (by decide),fun _=>?_⟩;nofun
 case within l b=>
  refine rv (a:=(.bl true,h)) (by ac_nf) ⟨true,rfl,tt ?_⟩;nofun;refine rv (zC (E.hs _ o.1.1) o.1.2) ?_;nofun
 case ask l b c=>
  refine rv (a:=(.bl true,h)) (by ac_nf) ⟨true,rfl,tt ?_⟩;nofun;refine rv (zC (E.hs _ o.1.1) o.1.2) ?_;nofun
 all_goals
  refine rv (a:=(.bl false,h)) (by ac_nf) ⟨false,rfl,ff ?_⟩;nofun
 case qP s t a b c=>
  refine⟨_,rfl,fun _=>?_,fun z=>absurd z (by decide)⟩;nofun;refine rv (wm o.1) ⟨true,rfl,tt ?_⟩;nofun;refine rv (wm o.2.1) ?_;nofun
 all_goals
  refine⟨_,rfl,fun z=>absurd z (by decide),fun _=>?_⟩;nofun
omit E in
theorem D8(r:Row)(h:MH):ia [aP r] h=some (.bl true,h):=by cases r <;> rw[aP] <;> ac_nf
omit E in
theorem Jz{n:Nat}{r:Row}(h:bo W ps n r):∀l∈aI r,n < 5∧l.length≤12∧bq W ps (n+1) l:=by
 intro x hx;cases r <;> simp[aI] at hx <;> rw[bo] at h
 case within l b=>subst hx;exact h.2
 case all l b=>subst hx;exact h.2
 case ask l b e=>
  obtain⟨_,h5,h1,h2,h3,h4⟩:=h;rcases hx with rfl | rfl
  ·exact⟨h5,h1,h3⟩
  ·exact⟨h5,h2,h4⟩
 case qP s t a b c=>
  obtain⟨_,_,h5,h1,h2,h3,h4,h6,h7⟩:=h;rcases hx with rfl | rfl | rfl
  ·exact⟨h5,h1,h4⟩
  ·exact⟨h5,h2,h6⟩
  ·exact⟨h5,h3,h7⟩
 case either a b=>
  obtain⟨h5,h1,h2,h3,h4⟩:=h;rcases hx with rfl | rfl
  ·exact⟨h5,h1,h3⟩
  ·exact⟨h5,h2,h4⟩
 case again a=>subst hx;exact h
theorem D9:∀(f n:Nat)(lot:List Row)(left:Nat)(h:MH),6≤n+f->n≤5->bq W ps n lot->lot.length≤12->aS lot≤left->c9 f [.tup (bX lot),.int n,.int left,.tup (ns.map D.str),.dv kvs,.tup (ps.map D.str)] h=some (.int ((left-aS lot:Nat):Int),h)
 | 0,n,lot,left,h,e,h5,_,_,_=>by lia
 | f+1,n,lot,left,h,e,h5,o,h12,hc=>by
  refine c8 ?_;unfold c9;refine cq ?_;nofun;refine⟨_,rfl,fun z=>absurd (QK z) (by lia),fun _=>?_⟩;nofun;refine rv (a:=(.bl true,h)) rfl ⟨true,rfl,ff ?_⟩;nofun;refine⟨_,rfl,fun z=>absurd (QK z) (by rw[fz,P1];lia),fun _=>?_⟩;nofun;refine cV ?_;nofun;refine⟨_,_,rfl,?_⟩;rw[fz];refine cW (fun i δ h'=>h'=h∧∃(v6 v7:Option D),δ=[some (.tup (lot.map aP)),some (.int n),some (.int ((left-aS (lot.take i):Nat):Int)),some (.tup (ns.map D.str)),some (.dv kvs),some (.tup (ps.map D.str)),v6,v7]) ⟨rfl,none,none,by rw[Sa];rfl⟩ (fun _ _ _ _ _=>rfl) ?_ ?_
  ·rintro i x δ h' hx ⟨rfl,v6,v7,rfl⟩;rw[Qi] at hx;obtain⟨r,hr,rfl⟩:=Qs.mp hx;have htk:lot.take (i+1)=lot.take i++[r]:=by rw[Sv,hr];rfl
   have hcn:aS (lot.take (i+1))=aS (lot.take i)+cnt r:=by rw[htk,kd];simp[aS]
   have hle:aS (lot.take (i+1))≤aS lot:=by
    conv=>rhs;rw[←Ri (i+1) lot,kd]
    lia
   have ho:=uN o r (P6 hr);have hcr:=yN r;generalize aS (lot.take i)=c0 at*;nofun;refine⟨_,rfl,fun z=>absurd (eq_of_beq z) (by lia),fun _=>?_⟩;nofun;refine rv (D8 r _) ⟨true,rfl,ff ?_⟩;nofun;refine rv (GQ E ho) ⟨true,rfl,ff ?_⟩;nofun;refine JI ?_;nofun;refine cV ?_;nofun;refine rv (m7 r _) ?_;nofun;refine⟨_,_,rfl,?_⟩;refine cW (fun j δ h2=>h2=h'∧∃(v7:Option D),δ=[some (.tup (lot.map aP)),some (.int n),some (.int ((left-c0-1-(((aI r).take j).map aS).sum:Nat):Int)),some (.tup (ns.map D.str)),some (.dv kvs),some (.tup (ps.map D.str)),some (aP r),v7]) ⟨rfl,v7,by rw[Sa];show[_,_,some (D.int _),_,_,_,_,_]=_;congr 4;simp;lia⟩ (fun _ _ _ _ _=>rfl) ?_ ?_
   ·rintro j y δ h2 hy ⟨rfl,v7,rfl⟩;rw[Qi] at hy;obtain⟨l,hl,rfl⟩:=Qs.mp hy;have hm:=P6 hl;obtain⟨a5,a12,al⟩:=Jz ho l hm;have ht2:(((aI r).take (j+1)).map aS).sum=(((aI r).take j).map aS).sum+aS l:=by rw[take_snoc hl,Qr,Sl];simp
    have hle2:(((aI r).take (j+1)).map aS).sum≤((aI r).map aS).sum:=by
     conv=>rhs;rw[←Ri (j+1) (aI r),Qr,Sl]
     lia
    rw[ht2] at hle2 ⊢;generalize (((aI r).take j).map aS).sum=s0 at*;nofun;refine rv (D9 f (n+1) l _ h2 (by lia) (by lia) al a12 (by lia)) ?_;nofun;refine rv (a:=(.bl false,h2)) rfl ⟨false,rfl,ff ?_⟩;nofun;rw[show left-c0-1-(s0+aS l)=left-c0-1-s0-aS l by lia];exact⟨rfl,some (KO l),rfl⟩
   ·rintro δ h2 ⟨rfl,v7,rfl⟩;rw[P1,QM];nofun;rw[show left-aS (lot.take (i+1))=left-c0-1-((aI r).map aS).sum by lia];exact⟨rfl,some (aP r),v7,rfl⟩
  ·rintro δ h' ⟨rfl,v6,v7,rfl⟩;rw[P1,QM];nofun
theorem GO(lot:List Row)(left:Nat)(h:MH)(o:bq W ps 1 lot)(h12:lot.length≤12)(hc:aS lot≤left):c9 8 [.tup (bX lot),.int 1,.int left,.tup (ns.map D.str),.dv kvs,.tup (ps.map D.str)] h=some (.int ((left-aS lot:Nat):Int),h):=D9 E 8 1 lot left h (by decide) (by decide) o h12 hc
end
end Mi
namespace Mi
open PySem L2 Sm PySem.Spec PyProof.Rows Pg
theorem yH:∀A:List Str,PyData.eqvAll (A.map PyData.str) (A.map PyData.str)=true
 | []=>by simp[PyData.eqvAll]
 | a::A=>by rw[Qd,PyData.eqvAll,yH A];simp[PyData.eqv]
theorem Fe(A:List Str)(h:MH):bY (.lv (A.map D.str)) (.lv (A.map D.str)) h=some (.bl true,h):=by
 show((((kT (A.map D.str)).map PyData.list).bind fun a=>((kT (A.map D.str)).map PyData.list).bind fun b=>if a.depth≤64∧b.depth≤64 then some (PyData.eqv a b) else none)).map (fun c=>(D.bl c,h))=_;rw[mS];show(if(PyData.list (A.map PyData.str)).depth≤64∧(PyData.list (A.map PyData.str)).depth≤64 then some (PyData.eqv (.list (A.map PyData.str)) (.list (A.map PyData.str))) else none).map _=_;have hd:(PyData.list (A.map PyData.str)).depth≤64:=by rw[PyData.depth,jg];lia
 rw[P7 ⟨hd,hd⟩,PyData.eqv,yH];rfl
theorem BP(ws:List Str):dN (dN ws)=dN ws:=
 TR (fun a b _ _=>yw a b) (iW _) (iW _) (cw _)
theorem yu{α:Type}:∀{a b:List α},a.length=b.length->(∀(j:Nat) x,a[j]?=some x->b[j]?=some x)->a=b
 | [],[],_,_=>rfl
 | [],_::_,h,_=>by simp at h
 | _::_,[],h,_=>by simp at h
 | x::a,y::b,h,q=>by
  have h0:=q 0 x rfl;simp at h0;rw[h0,yu (a:=a) (b:=b) (by simpa using h) fun j z hz=>by simpa using q (j+1) z (by simpa using hz)]
noncomputable def Gf(ds:List fG):List (Key×D):=ds.map fun d=>(.inr d.1,.int (d.2.1.length:Int))
theorem IK:∀{ds:List fG} {j:Nat} {d:fG},(ds.map (·.1)).Nodup->ds[j]?=some d->gX (Gf ds) (.inr d.1)=some (.int (d.2.1.length:Int))
 | x::r,0,d,_,e=>by
  cases e;unfold gX Gf;rw[Qd,Vr (by simp)];rfl
 | x::r,j+1,d,hn,e=>by
  rw[Qd,RW] at hn;have e:r[j]?=some d:=by simpa using e
  have hne:x.1≠d.1:=fun z=>hn.1 (z ▸ Ql.mpr ⟨d,P6 e,rfl⟩);have:=IK hn.2 e;unfold gX Gf at this ⊢;rw[Qd,Uj (by simpa using hne),this]
theorem CU(hi:ei δ h=some (.tup (ds.map cg),h))(hn:(ds.map (·.1)).Nodup)(h6:ds.length≤6):
  IJ [none,none,none] (cZ ei) (gT 3 (aN (gN 0) (aN (gN 1) (aN (gN 2) dE)))) bS (mD (ae 0) (aw cx (ab (ae 1) ah))) [] .dv δ h=some (.dv (Gf ds),h):=by
 refine c8 (IC (cV (rv hi ⟨_,_,rfl,?_⟩)));refine qE (ds.map cg) (fun r δ' h' a=>h'=h∧(∃v0 v1 v2,δ'=[v0,v1,v2])∧∃l r',l++r'=ds∧r=r'.map cg∧a=Gf l) _ _ _ ⟨rfl,⟨none,none,none,rfl⟩,[],ds,rfl,rfl,rfl⟩ ?_ ?_
 ·rintro x r δ' h' a ⟨rfl,⟨v0,v1,v2,rfl⟩,l,r',e,er,rfl⟩;obtain⟨d,r',rfl⟩:∃d r'',r'=d::r'':=by
   cases r' with
   | nil=>cases er
   | cons d r''=>exact⟨d,r'',rfl⟩
  rw[Qd] at er;injection er with ex er
  subst ex;refine⟨rfl,?_⟩;unfold cg;nofun;refine rv (a:=(true,h')) rfl ?_;rw[P7 rfl];refine ME ?_;nofun;have hlen:l.length < 6:=by have:=congrArg List.length e;simp at this;lia
  refine⟨_,rfl,by unfold Gf;rw[P1,QL];lia,rfl,⟨_,_,_,rfl⟩,l++[d],r',by rw[QV];exact e,er,?_⟩;rw[P1,x9]
  ·unfold Gf;rw[Qr];rfl
  ·intro q;rw[←e,Qr,Rt] at hn;unfold Gf at q;rw[QI] at q;obtain⟨y,hy,z⟩:=Ql.mp q;injection z with z
   exact hn.2.2 y.1 (Ql.mpr ⟨y,hy,rfl⟩) d.1 (by simp) z
 ·rintro δ' h' a ⟨rfl,_,l,r',e,er,rfl⟩;obtain rfl:r'=[]:=by cases r' with | nil=>rfl | cons d r''=>cases er
  rw[Ra] at e;subst e;exact⟨rfl,rfl⟩
section
variable {W:Wd} {fl:List Int} {odd:Int} {P:Prog} {m:Nat} (ok:um W fl odd) (o:LK W m P)
include o
theorem kc:P.aq.map (·.1)=W.aq:=yu (by rw[P1];exact o.dl) fun j x hx=>by
 rw[Qi] at hx;obtain⟨d,e1,e2⟩:=Qs.mp hx;rw[←e2];exact(o.dd j d e1).1
include ok
theorem GL:ib [.tup (P.names.map D.str)] h=some (.bl true,h):=by
 have hl:=(cw W.names).length_eq;have n1:=ok.n1;have n2:=ok.n2;rw[o.nm];refine c8 (cq ?_);nofun;refine rv (rK (a:=1) (b:=6) (by lia) (by lia) (by lia) (fun w hw=>ok.sn w ((cw _).mem_iff.mp hw)) ((cw _).nodup_iff.mpr ok.nn)) ⟨true,rfl,tt ?_⟩;nofun;refine wk ?_;nofun;refine⟨_,_,_,rfl,rfl,?_⟩;nofun;refine rv (a:=(.lv ((dN W.names).map D.str),h)) (by
  unfold xa;dsimp only;rw[oj];dsimp only[Option.bind_some];rw[P7 (by lia),BP]) ?_
 refine rv (Fe _ h) ?_;nofun
theorem GP:ie [.tup (P.aq.map cg)] h=some (.bl true,h):=by
 have d1:=ok.d1;have d2:=ok.d2;have dl:=o.dl;refine c8 (cq ?_);refine fu (rE (D2 ?_));nofun;refine rv (a:=(.bl true,h)) rfl ⟨true,rfl,ff ?_⟩;refine lP (wg (rv (sX (t:=[]) rfl rfl rfl (by rw[P1];lia) fun x hx=>?_) ⟨true,rfl,ff ?_⟩))
 ·obtain⟨d,hd,rfl⟩:=Ql.mp hx;rfl
 refine iq (lg (fu (rE (lP (wg (B7 (rH (B7 (rH (B6 (rv (tf (t:=[]) (fun d=>match d with | .tup (a::_)=>a | d=>d) rfl rfl rfl (by rw[P1];lia) fun x hx=>?_) ?_)))))))))))
 ·obtain⟨d,hd,rfl⟩:=Ql.mp hx;rfl
 nofun;refine rv (a:=(.tup (W.aq.map D.str),h)) (by rw[QI,←kc o,QI];rfl) ?_;nofun;refine rv (rK (a:=1) (b:=6) (by lia) (by lia) (by lia) ok.sd ok.nd) ⟨true,rfl,ff ?_⟩;refine iq (lg (uG (rv (sX (t:=[]) rfl rfl rfl (by rw[P1];lia) fun x hx=>?_) ?_)))
 ·obtain⟨d,hd,rfl⟩:=Ql.mp hx;obtain⟨j,hj⟩:=Ut hd;have hm:=P6 (o.dd j d hj).2.1;have h3:=ok.p3 _ hm;exact rK (a:=0) (b:=3) (by lia) (by lia) (by lia) (ok.sp _ hm) (ok.np _ hm)
 ·nofun
theorem Lk{j:Nat}{d:fG}(hj:P.aq[j]?=some d):Wr W P.names d.2.1 (Gf P.aq) where
 hn:=ok.sn
 hd:=ok.sd
 hp:=fun w hw=>ok.sp d.2.1 (P6 (o.dd j d hj).2.1) w hw
 hs:=fun w hw=>by rw[o.nm];exact(cw _).mem_iff.mpr hw
 h3:=ok.p3
 hc:=fun i e qs h1 h2=>by
  have hi:i < P.aq.length:=by rw[o.dl];exact(P4.mp h1).1
  have hx:P.aq[i]?=some P.aq[i]:=P9 hi;obtain⟨a1,a2,_⟩:=o.dd i _ hx;rw[a1] at h1;rw[a2] at h2;cases h1;cases h2;exact IK (by rw[kc o];exact ok.nd) hx
theorem B8{h:MH}(hm:m≤60):gB [fZ P] h=some (.bl true,h):=by
 have d2:=ok.d2;have dl:=o.dl;refine c8 (cq ?_);nofun;refine rv (a:=(.bl true,h)) rfl ⟨true,rfl,ff ?_⟩;unfold fZ;nofun;refine rv (GL ok o) ⟨true,rfl,ff ?_⟩;nofun;refine rv (GP ok o) ⟨true,rfl,ff ?_⟩;refine iq (lg (fu (rG (rv (CU rfl (by rw[kc o];exact ok.nd) (by lia)) ?_))));nofun;refine cV ?_;nofun;refine⟨_,_,rfl,?_⟩;refine cW (fun i δ h'=>h'=h∧∃(v5 v6 v7:Option D),δ=[some (.tup [.tup (P.names.map D.str),.tup (P.aq.map cg)]),some (.tup (P.names.map D.str)),some (.tup (P.aq.map cg)),some (.dv (Gf P.aq)),some (.int ((60-((P.aq.take i).map fun d=>aS d.2.2).sum:Nat):Int)),v5,v6,v7]) ⟨rfl,none,none,none,by rw[Sa];rfl⟩ (fun _ _ _ _ _=>rfl) ?_ ?_
 ·rintro i x δ h' hx ⟨rfl,v5,v6,v7,rfl⟩;rw[Qi] at hx;obtain⟨d,hd,rfl⟩:=Qs.mp hx;obtain⟨_,_,a3,a4⟩:=o.dd i d hd;have hcn:((P.aq.take (i+1)).map fun d=>aS d.2.2).sum=((P.aq.take i).map fun d=>aS d.2.2).sum+aS d.2.2:=by rw[take_snoc hd,Qr,Sl];simp
  have hle:((P.aq.take (i+1)).map fun d=>aS d.2.2).sum≤(P.aq.map fun d=>aS d.2.2).sum:=by
   conv=>rhs;rw[←Ri (i+1) P.aq,Qr,Sl]
   lia
  have ct:=o.ct;rw[hcn] at hle ⊢;generalize ((P.aq.take i).map fun d=>aS d.2.2).sum=s0 at*;unfold cg;nofun;refine rv (GO (Lk ok o hd) d.2.2 _ h' a3 a4 (by lia)) ?_;nofun;refine rv (a:=(.bl false,h')) rfl ⟨false,rfl,ff ?_⟩;nofun;rw[show 60-(s0+aS d.2.2)=60-s0-aS d.2.2 by lia];exact⟨rfl,_,_,_,rfl⟩
 ·rintro δ h' ⟨rfl,v5,v6,v7,rfl⟩;nofun
end
end Mi
namespace Pg
open PySem Sm L2
mutual
noncomputable def gv:Row->List Row
 | .say _=>[]
 | .call _ _=>[]
 | .within _ b=>dG b
 | .all _ b=>dG b
 | .ask _ b e=>dG b++dG e
 | .qP _ _ a b c=>dG a++(dG b++dG c)
 | .either a b=>dG a++dG b
 | .again a=>dG a
noncomputable def dG:List Row->List Row
 | []=>[]
 | r::rs=>r::(gv r++dG rs)
end
mutual
theorem ye(p:List Nat):∀r:Row,(cP p r).map (·.2)=gv r
 | .say _=>by simp[cP,gv]
 | .call _ _=>by simp[cP,gv]
 | .within _ b=>by simp only[cP,gv,cG]
 | .all _ b=>by simp only[cP,gv,cG]
 | .ask _ b e=>by simp only[cP,gv,Qr,cG]
 | .qP _ _ a b c=>by simp only[cP,gv,Qr,cG]
 | .either a b=>by simp only[cP,gv,Qr,cG]
 | .again a=>by simp only[cP,gv,cG]
theorem cG(a:List Nat):∀(k:Nat)(l:List Row),(bc a k l).map (·.2)=dG l
 | k,[]=>by simp[bc,dG]
 | k,r::rs=>by simp only[bc,dG,Qd,Qr,ye (a++[k]) r,cG a (k+1) rs]
end
theorem z9(r:Row):gv r=(aI r).flatMap dG:=by
 cases r <;> simp[gv,aI]
theorem sy:∀l:List Row,dG l=l.flatMap fun r=>r::gv r
 | []=>by simp[dG]
 | r::rs=>by rw[dG,sy rs];simp
end Pg
namespace Mi
open PySem Sm L2 Rc Pg
noncomputable def gp(k:Nat)(ds:List fG):List (Nat×Row):=(placesFrom k ds).map fun x=>(x.1,x.2.2)
theorem g8(k:Nat)(d:fG)(ds:List fG):gp k (d::ds)=(dG d.2.2).map (fun r=>(k,r))++gp (k+1) ds:=by
 unfold gp;rw[placesFrom,Qr,QI,←cG [] 0 d.2.2,QI];rfl
theorem yT(num:Str->Nat)(k:Nat):∀l:List Row,my num k (l.map fun r=>(k,r))=(l.filterMap cQ).map num
 | []=>rfl
 | r::l=>by
  have ih:=yT num k l;unfold my at ih ⊢;rw[Qd,QG,ih,QG];dsimp only;rw[P7 rfl];cases cQ r <;> rfl
theorem xq(h:j≠k):∀l:List Row,my num k (l.map fun r=>(j,r))=[]
 | []=>rfl
 | r::l=>by
  have ih:=xq (num:=num) h l;unfold my at ih ⊢;rw[Qd,QG,ih];dsimp only;rw[Qa h]
theorem xr(num:Str->Nat)(k:Nat)(a b:List (Nat×Row)):my num k (a++b)=my num k a++my num k b:=by unfold my;rw[VA]
theorem Bw:∀(ds:List fG)(j:Nat),k < j->my num k (gp j ds)=[]
 | [],_,_=>rfl
 | d::ds,j,h=>by rw[g8,xr,xq (by lia),Bw ds (j+1) (by lia)];rfl
noncomputable def cz(l:List Row):List Str:=(dG l).filterMap cQ
theorem yU:∀(ds:List fG)(j i:Nat)(d:fG),ds[i]?=some d->my num (j+i) (gp j ds)=(cz d.2.2).map num
 | x::ds,j,0,d,e=>by
  cases e;rw[g8,xr,Vo,yT,Bw ds (j+1) (by lia),Ra];rfl
 | x::ds,j,i+1,d,e=>by
  rw[g8,xr,xq (by lia),show j+(i+1)=j+1+i by lia,yU ds (j+1) i d (by simpa using e)];rfl
theorem lI:∀{ds:List fG} {j:Nat} {x:Nat×Row},x∈gp j ds->x.1 < j+ds.length∧∃d∈ds,x.2∈dG d.2.2
 | [],_,_,h=>by cases h
 | d::ds,j,x,h=>by
  rw[g8] at h;rw[Qv];rcases Qx.mp h with h | h
  ·obtain⟨r,hr,rfl⟩:=Ql.mp h;exact⟨by dsimp only;lia,d,Qe,hr⟩
  ·obtain⟨a,e,he,hx⟩:=lI h;exact⟨by lia,e,Qc _ he,hx⟩
noncomputable def mZ(P:Prog)(w:Str):Nat:=(P.aq.map (·.1)).idxOf w
noncomputable def xE(P:Prog):List (List Nat):=P.aq.map fun d=>lh ((cz d.2.2).map (mZ P))
theorem Lo(P:Prog):(List.range P.aq.length).map (fun k=>lh (my (mZ P) k (gp 0 P.aq)))=xE P:=by
 unfold xE;refine TH fun i=>?_;rw[Qi,Qi]
 by_cases h:i < P.aq.length
 ·rw[R8 h,P9 h];have:=yU (num:=mZ P) P.aq 0 i _ (P9 h);rw[Sz] at this;simp only[QA,this]
 ·rw[QR (by simpa using h),QR (by simpa using h)];rfl
theorem qG(h:w∈P.aq.map (·.1)):mZ P w < P.aq.length∧(P.aq.map (·.1))[mZ P w]?=some w:=by
 have:=List.idxOf_lt_length_iff.mpr h;refine⟨by simpa [mZ] using this,?_⟩;unfold mZ;rw[P9 this,List.getElem_idxOf]
theorem ue(fit:NT P)(hn:(P.aq.map (·.1)).Nodup)(h6:P.aq.length≤6)(hk:∀d∈P.aq,∀w∈cz d.2.2,w∈P.aq.map (·.1))(h:MH):eV [fZ P] h=some (Bo (xE P),h):=by
 have hk':∀x∈gp 0 P.aq,∀w,cQ x.2=some w->w∈P.aq.map (·.1):=fun x hx w hw=>by
  obtain⟨_,d,hd,hr⟩:=lI hx;exact hk d hd w (Sg.mpr ⟨x.2,hr,hw⟩)
 have e:=uf (h:=h) (a:=.tup (P.names.map D.str)) (ds:=P.aq.map cg) (rs:=gp 0 P.aq) (num:=mZ P) (nB (ws:=P.aq.map (·.1)) (by rw[P1,P1]) (fun i d hd=>by
   rw[Qi] at hd;obtain⟨x,hx,rfl⟩:=Qs.mp hd;exact⟨x.1,_,by rw[Qi,hx];rfl,rfl⟩) hn (by rw[P1];lia))
  (fun x hx=>by rw[P1];simpa using (lI hx).1) (by unfold gp;rw[P1,fw];exact fit.ct) (by rw[P1];lia) (fun x hx w hw=>by
   obtain⟨h1,h2⟩:=qG (hk' x hx w hw);exact⟨by rw[Ba 0 _ _ w hn h2,Sz],by rw[P1];exact h1⟩)
 rw[P1,Lo] at e;refine c8 (cq ?_);nofun;refine rv (BY fit h) ?_;nofun;rw[show(placesFrom 0 P.aq).map rowAt=(gp 0 P.aq).map JP by unfold gp;rw[QI];rfl];refine rv e ?_;nofun
def Py(n:Nat)(d:D):Prop:=∃a,rN d=some a∧a.depth≤n
theorem Py.up(p:Py n d)(h:n≤m):Py m d:=let⟨a,e,q⟩:=p;⟨a,e,Qm q h⟩
theorem Py.all:∀{xs:List D},(∀x∈xs,Py n x)->∃as,kT xs=some as∧PyData.depthAll as≤n
 | [],_=>⟨[],rfl,by simp[PyData.depthAll]⟩
 | x::r,h=>by
  obtain⟨a,e1,d1⟩:=h x Qe;obtain⟨as,e2,d2⟩:=Py.all fun y hy=>h y (Qc _ hy);exact⟨a::as,by simp[kT,e1,e2],by simp[PyData.depthAll];lia⟩
theorem Py.tup(h:∀x∈xs,Py n x):Py (n+1) (.tup xs):=by
 obtain⟨as,e,hd⟩:=Py.all h;exact⟨.tuple as,by simp[rN,e],by simp[PyData.depth];lia⟩
theorem Py.str(n:Nat)(w:Str):Py n (.str w):=⟨.str w,rfl,by simp[PyData.depth]⟩
theorem Py.cons(h:Py n x)(q:∀y∈xs,Py n y):∀y∈x::xs,Py n y:=fun y hy=>by
 rcases Qn.mp hy with rfl | hy
 ·exact h
 ·exact q y hy
theorem Py.no:∀y∈([]:List D),Py n y:=fun _ z=>(nomatch z)
theorem wq(t:Term):Py 1 (bG t):=⟨_,rfl,by simp[PyData.depth,PyData.depthAll]⟩
theorem wt(t:Lock):Py 2 (aO t):=⟨_,rfl,by simp[PyData.depth,PyData.depthAll]⟩
theorem Eb{α:Type}{n:Nat}{f:α->D}(h:∀x,Py n (f x))(xs:List α):Py (n+1) (.tup (xs.map f)):=Py.tup fun y hy=>by obtain⟨x,_,rfl⟩:=Ql.mp hy;exact h x
mutual
theorem Ea:∀r:Row,Py (2*cX r+4) (aP r)
 | .say w=>by rw[aP];exact Py.tup (.cons (.str _ _) (.cons (.str _ _) .no))
 | .call w ts=>by rw[aP];exact Py.tup (.cons (.str _ _) (.cons (.str _ _) (.cons ((Eb wq ts).up (by lia)) .no)))
 | .within l b=>by rw[aP,cX];exact Py.tup (.cons (.str _ _) (.cons ((wt l).up (by lia)) (.cons (ir b) .no)))
 | .all ls b=>by rw[aP,cX];exact Py.tup (.cons (.str _ _) (.cons ((Eb wt ls).up (by lia)) (.cons (ir b) .no)))
 | .ask l b e=>by rw[aP,cX];exact Py.tup (.cons (.str _ _) (.cons ((wt l).up (by lia)) (.cons ((ir b).up (by lia)) (.cons ((ir e).up (by lia)) .no))))
 | .qP s t a b c=>by rw[aP,cX];exact Py.tup (.cons (.str _ _) (.cons ((wq s).up (by lia)) (.cons ((wq t).up (by lia)) (.cons ((ir a).up (by lia)) (.cons ((ir b).up (by lia)) (.cons ((ir c).up (by lia)) .no))))))
 | .either a b=>by rw[aP,cX];exact Py.tup (.cons (.str _ _) (.cons ((ir a).up (by lia)) (.cons ((ir b).up (by lia)) .no)))
 | .again a=>by rw[aP,cX];exact Py.tup (.cons (.str _ _) (.cons (ir a) .no))
theorem AX:∀l:List Row,∀x∈bX l,Py (2*cY l+2) x
 | [],x,hx=>by rw[bX] at hx;cases hx
 | r::rs,x,hx=>by
  rw[bX] at hx;rw[cY];rcases Qn.mp hx with rfl | hx
  ·exact(Ea r).up (by lia)
  ·exact(AX rs x hx).up (by lia)
theorem ir:∀l:List Row,Py (2*cY l+3) (.tup (bX l))
 | l=>Py.tup (AX l)
end
theorem Ah(p:Py n (.tup xs))(hn:n≤60):bY (.tup xs) (.str w) h=some (.bl false,h):=by
 obtain⟨a,e,hd⟩:=p;obtain⟨as,e1,rfl⟩:∃as,kT xs=some as∧a=.tuple as:=by
  simp only[rN] at e;obtain⟨as,e1,e2⟩:=Qs.mp e;exact⟨as,e1,e2.symm⟩
 unfold bY HN;simp only[eu,Lj,tZ,e1,rN,QB,QA];rw[P7 ⟨by lia,by simp[PyData.depth]⟩];rfl
theorem nq(w:Str):∀ws:List Str,w∈ws->(ws.map PyData.str).findIdx? (fun b=>PyData.eqv b (.str w))=some (ws.idxOf w)
 | x::r,h=>by
  rw[Qd,UI,List.idxOf_cons]
  by_cases z:x=w
  ·subst z;simp[PyData.eqv]
  ·have hm:w∈r:=(Qn.mp h).resolve_left fun q=>z q.symm;have zb:(x==w)=false:=Th.mpr z;rw[nq w r hm,zb];simp[PyData.eqv,z]
theorem z7{ws:List Str}{w:Str}{h:MH}(m:w∈ws):qI (.lv (ws.map D.str)) [.str w] h=some (nD (ws.idxOf w),h):=by
 unfold qI;simp only[fF,tZ,rN,mS,QB];rw[P7 ⟨by simp[PyData.depth],by rw[jg];lia⟩,nq w ws m];rfl
theorem kg{n:Nat}{N:D}{ys:List (D×List D)}{h:MH}(ht:ys.length≠3∨∃y r,ys=y::r∧bY y.1 (.str "call") h=some (.bl false,h))(hy:∀y∈ys,aJ n [y.1,N] h=some (.lv y.2,h))(hl:(ys.flatMap (·.2)).length≤10000):
  aJ (n+1) [.tup (ys.map (·.1)),N] h=some (.lv (ys.flatMap (·.2)),h):=by
 refine c8 ?_;unfold aJ;refine cq ?_;refine fu (rE (rv (a:=(false,h)) rfl ⟨fun z=>(nomatch z),fun _=>iq (lg (fu (rG (B6 (x5 (lg (fu (rE (rv (a:=(false,h)) ?_ ⟨fun z=>(nomatch z),fun _=>iq (lg ?_)⟩)))))))))⟩))
 ·refine c8 ?_;nofun;refine⟨_,rfl,fun z=>?_,fun z=>rfl⟩;have z3:ys.length=3:=by
   have:=eq_of_beq z;rw[P1] at this
   lia
  obtain⟨y,r,rfl,e⟩:=ht.resolve_left fun q=>q z3;rw[Qd];nofun;refine rv e ⟨_,rfl,ff ?_⟩;rfl
 ·refine fu (x6 (cV ?_));nofun;refine⟨_,_,rfl,?_⟩;refine cW (fun i δ h'=>∃v3,δ=[some (.tup (ys.map (·.1))),some N,some (.lv ((ys.take i).flatMap (·.2))),v3]∧h'=h) ⟨_,by rw[Sa];rfl,rfl⟩ (fun _ _ _ _ _=>rfl) ?_ ?_
  ·rintro i x δ h' hx ⟨v3,rfl,rfl⟩;rw[Qi] at hx;obtain⟨y,hy1,rfl⟩:=Qs.mp hx;have ht:(ys.take (i+1)).flatMap (·.2)=(ys.take i).flatMap (·.2)++y.2:=by rw[take_snoc hy1,Ti];simp
   have hle:((ys.take (i+1)).flatMap (·.2)).length≤(ys.flatMap (·.2)).length:=by
    conv=>rhs;rw[←Ri (i+1) ys,Ti,Qb]
    lia
   rw[ht,Qb] at hle;nofun;refine rv (hy y (P6 hy1)) ?_;nofun;refine rv (a:=(.lv ((ys.take i).flatMap (·.2)++y.2),h')) (by
    show(if _+_≤sizeLine then some (D.lv _,h') else none)=_;rw[P7 (by rw[QL];lia)]) ?_
   nofun;exact⟨some y.1,by rw[ht];rfl,rfl⟩
  ·rintro δ h' ⟨v3,rfl,rfl⟩;rw[P1,QM];nofun
theorem called_str(n:Nat)(w:Str)(N:D)(h:MH):aJ (n+1) [.str w,N] h=some (.lv [],h):=rfl
theorem yR(n:Nat)(t:Term)(N:D)(h:MH):aJ (n+2) [bG t,N] h=some (.lv [],h):=by ac_nf
theorem kh(n:Nat)(l:Lock)(N:D)(h:MH):aJ (n+3) [aO l,N] h=some (.lv [],h):=by ac_nf
theorem j7{α:Type}(f:α->D):∀ls:List α,(ls.map fun l=>(f l,([]:List D))).flatMap (·.2)=[]
 | []=>rfl
 | l::r=>by rw[Qd,TF,j7 f r];rfl
theorem xm(n:Nat)(ls:List Lock)(N:D)(h:MH):aJ (n+4) [.tup (ls.map aO),N] h=some (.lv [],h):=by
 have:=kg (n:=n+3) (N:=N) (ys:=ls.map fun l=>(aO l,[])) (h:=h) (by
  cases ls with
  | nil=>exact .inl (by simp)
  | cons l r=>exact .inr ⟨_,_,rfl,by ac_nf⟩) (fun y hy=>by
   obtain⟨l,_,rfl⟩:=Ql.mp hy;exact kh n l N h) (by rw[j7];simp)
 rw[j7,QI] at this;exact this
theorem EJ:∀{l:List Nat} {x:Nat},x∈l->x≤l.sum
 | y::r,x,h=>by
  rw[UD];rcases Qn.mp h with rfl | h
  ·lia
  ·have:=EJ h;lia
noncomputable def LQ:Row->List D
 | .say w=>[.str w]
 | .call w ts=>[.str w,.tup (ts.map bG)]
 | .within l _=>[aO l]
 | .all ls _=>[.tup (ls.map aO)]
 | .ask l _ _=>[aO l]
 | .qP s t _ _ _=>[bG s,bG t]
 | .either _ _=>[]
 | .again _=>[]
theorem uD(r:Row):aP r=.tup (.str (zj r)::(LQ r++(aI r).map fun l=>.tup (bX l))):=by cases r <;> rw[aP] <;> rfl
theorem CC(n:Nat)(N:D)(h:MH):∀r:Row,cQ r=none->∀x∈LQ r,aJ (n+4) [x,N] h=some (.lv [],h):=fun r hr x hx=>by
 cases r <;> simp[LQ] at hx
 case say w=>subst hx;exact called_str _ _ _ _
 case call w ts=>cases hr
 case within l b=>subst hx;exact kh _ _ _ _
 case all ls b=>subst hx;exact xm _ _ _ _
 case ask l b e=>subst hx;exact kh _ _ _ _
 case qP s t a b c=>rcases hx with rfl | rfl <;> exact yR _ _ _ _
noncomputable def sS(names ws:List Str):List D:=ws.map fun w=>nD (names.idxOf w)
theorem jj(l:List Row):(cz l).length≤aS l:=by
 have h1:=RK cQ (dG l);have h2:(dG l).length=aS l:=by rw[←cG [] 0 l,P1,bF]
 unfold cz
 lia
noncomputable def gr(r:Row):List Str:=(r::gv r).filterMap cQ
theorem eX(l:List Row):cz l=l.flatMap gr:=by
 unfold cz gr;rw[sy,Vs]
theorem cK(r:Row)(h:cQ r=none):gr r=(aI r).flatMap cz:=by
 unfold cz gr;rw[z9,QG,h,Vs]
theorem Av(r:Row):(gr r).length≤cnt r:=by
 have:=jj [r];rw[eX] at this
 simpa [aS] using this
theorem nG{α:Type}(names:List Str)(f:α->List Str)(l:List α):sS names (l.flatMap f)=l.flatMap fun x=>sS names (f x):=by unfold sS;rw[List.map_flatMap]
theorem pW(names:List Str)(h:MH):∀n:Nat,(∀lot:List Row,2*cY lot+5≤n->aS lot≤1000->2*cY lot≤40->(∀w∈cz lot,w∈names)->aJ n [.tup (bX lot),.lv (names.map D.str)] h=some (.lv (sS names (cz lot)),h))∧(∀r:Row,2*cX r+6≤n->cnt r≤1000->2*cX r≤40->(∀w∈gr r,w∈names)->aJ n [aP r,.lv (names.map D.str)] h=some (.lv (sS names (gr r)),h))
 | 0=>⟨fun _ z=>absurd z (by lia),fun _ z=>absurd z (by lia)⟩
 | n+1=>by
  obtain⟨ihL,ihR⟩:=pW names h n;constructor
  ·intro lot hn hc h40 hw;have key:=kg (n:=n) (N:=.lv (names.map D.str)) (ys:=lot.map fun r=>(aP r,sS names (gr r))) (h:=h) (by
     cases lot with
     | nil=>exact .inl (by simp)
     | cons r rs=>
      rw[cY] at h40;refine .inr ⟨_,_,rfl,?_⟩;have:=Ea r;dsimp only;rw[uD] at this ⊢;exact Ah this (by lia)) (fun y hy=>by
     obtain⟨r,hr,rfl⟩:=Ql.mp hy;have h1:=uS hr;have h2:=Fq hr;exact ihR r (by lia) (by lia) (by lia) fun w hw'=>hw w (by rw[eX];exact List.mem_flatMap.mpr ⟨r,hr,hw'⟩)) (by
     rw[Ud,←nG,←eX];unfold sS;rw[P1];have:=jj lot
     lia)
   rw[Ud,←nG,←eX,QI] at key;rw[fz];exact key
  ·intro r hn hc h40 hw
   by_cases c:∃w ts,r=.call w ts
   ·obtain⟨w,ts,rfl⟩:=c;have hm:w∈names:=hw w (by unfold gr;rw[QG];simp[cQ]);refine c8 ?_;unfold aJ;rw[aP];refine cq ?_;nofun;refine rv (a:=(.bl true,h)) rfl ⟨true,rfl,ff ?_⟩;nofun;refine⟨true,rfl,tt ?_⟩;nofun;refine⟨_,rfl,fun _=>?_,fun z=>absurd z (by decide)⟩;nofun;refine rv (a:=(.bl true,h)) rfl ⟨true,rfl,tt ?_⟩;nofun;refine lQ ?_;nofun;refine⟨rfl,?_⟩;nofun;refine rv (z7 hm) ?_;nofun;rfl
   ·have e0:cQ r=none:=by
     cases r with
     | call w ts=>exact absurd ⟨w,ts,rfl⟩ c
     | _=>rfl
    have es:bY (.str (zj r)) (.str "call") h=some (.bl false,h):=by
     cases r with
     | call w ts=>exact absurd ⟨w,ts,rfl⟩ c
     | _=>ac_nf
    obtain⟨k,rfl⟩:∃k,n=k+4:=⟨n-4,by lia⟩;have key:=kg (n:=k+4) (N:=.lv (names.map D.str)) (ys:=(.str (zj r),[])::((LQ r).map (fun x=>(x,[]))++(aI r).map fun l=>(.tup (bX l),sS names (cz l)))) (h:=h) (.inr ⟨_,_,rfl,es⟩) (fun y hy=>by
     rcases Qn.mp hy with rfl | hy
     ·exact called_str _ _ _ _
     rcases Qx.mp hy with hy | hy
     ·obtain⟨x,hx,rfl⟩:=Ql.mp hy;exact CC k _ h r e0 x hx
     ·obtain⟨l,hl,rfl⟩:=Ql.mp hy;have h1:=uR hl;have h2:aS l≤cnt r:=by
       rw[yN];have:=EJ (Ql.mpr ⟨l,hl,rfl⟩:aS l∈(aI r).map aS)
       lia
      exact ihL l (by lia) (by lia) (by lia) fun w hw'=>hw w (by rw[cK r e0];exact List.mem_flatMap.mpr ⟨l,hl,hw'⟩)) (by
     rw[TF,Ti,j7 (fun x=>x),Ud,←nG,←cK r e0];unfold sS;simp only[RX,P1];have:=Av r
     lia)
    rw[TF,Ti,j7 (fun x=>x),Ud,←nG,←cK r e0,Qd,Qr,QI,QI] at key;rw[show(LQ r).map ((fun x:D×List D=>x.1)∘fun x=>(x,[]))=LQ r from List.map_id'' (fun _=>rfl) _] at key;simp only[RX] at key;rw[uD];exact key
theorem Sb.tail{s c R:Nat}{cs:List Int}{hb g h1:MH}(A:Sb s c cs (hb++g) R h1)(hs:s < hb.length)(hc:c < hb.length):∃hb1,h1=hb1++g∧Sb s c cs hb R hb1:=by
 have hl:h1.length=hb.length+g.length:=by rw[A.b.1,Qb]
 have e:h1=h1.take hb.length++g:=by
  conv=>lhs;rw[←Ri hb.length h1]
  congr 1;refine TH fun k=>?_;rw[UH,A.b.2 _ (by lia),Qw (by lia),R9]
 have ht:(h1.take hb.length).length=hb.length:=by rw[Qy];lia
 have S:=A.S;rw[e] at S;refine⟨_,e,S.cut (by lia) (by lia),ht,fun k hk=>?_⟩
 by_cases z:k < hb.length
 ·rw[QH z,A.b.2 k hk,Qk z]
 ·rw[QR (by lia),QR (by lia)]
section
variable {s c R:Nat} {cs:List Int} {h0 hb g:MH} {Q:D×MH->Prop}
theorem Bx{m:Int}(A:Sb s c cs h0 (R+1) hb)(m0:0 < m)(m1:m≤10^40)(k:∀(r:Int)(h1:MH),0≤r->r < m->Sb s c cs h0 R h1->Q (.int r,h1++g)):Rn (aE [.ob s,.int m] (hb++g)) Q:=
 eT (A.S.more g).sb m0 m1 fun r h1 r0 r1 A1=>by
  obtain⟨hb1,rfl,B⟩:=A1.tail A.S.lt.1 A.S.lt.2;exact k r hb1 r0 r1 (B.tr A.b)
theorem Ni{xs:List D}(A:Sb s c cs h0 (R+1) hb)(l0:0 < xs.length)(l1:xs.length≤1000000)(k:∀(x:D)(h1:MH),x∈xs->Sb s c cs h0 R h1->Q (x,h1++g)):Rn (aR [.ob s,.lv xs] (hb++g)) Q:=
 FG (A.S.more g).sb (.inl rfl) l0 l1 fun x h1 hx A1=>by
  obtain⟨hb1,rfl,B⟩:=A1.tail A.S.lt.1 A.S.lt.2;exact k x hb1 hx (B.tr A.b)
end
noncomputable def BD:List Str:=["a","b","c","d","e","f"]
noncomputable def WC(n:Nat):Wd:=⟨["x"],BD.take n,List.replicate n []⟩
theorem KN{w:Str}(h:w.cps.all (fun c=>decide (97≤c)&&decide (c≤122))=true):low w:=fun c hc=>by
 rw[R3] at h
 simpa using h c hc
theorem F5:∀w∈(Str.ofString "x")::BD,1≤w.length∧w.length≤7∧low w:=by
 have:∀w∈(Str.ofString "x")::BD,1≤w.length∧w.length≤7∧w.cps.all (fun c=>decide (97≤c)&&decide (c≤122))=true:=by decide+kernel
 exact fun w hw=>⟨(this w hw).1,(this w hw).2.1,KN (this w hw).2.2⟩
theorem Ly:BD.Nodup:=by decide+kernel
theorem Nn{n:Nat}(h1:1≤n)(h6:n≤6):um (WC n) (List.replicate n 0) 0 where
 n1:=by simp[WC]
 n2:=by simp[WC]
 d1:=by simp[WC,BD];lia
 d2:=by simp[WC,BD];lia
 pl:=by simp[WC,BD];lia
 p3:=fun ps hp=>by rw[(Tu.mp hp).2];simp
 NO:=by simp[WC,BD];lia
 f0:=fun f hf=>by rw[(Tu.mp hf).2];simp[WC]
 o0:=by decide
 o1:=by decide
 sn:=fun w hw=>F5 w (by rw[Qj.mp hw];exact Qe)
 sd:=fun w hw=>F5 w (Qc _ (Tg hw))
 sp:=fun ps hp w hw=>by rw[(Tu.mp hp).2] at hw;cases hw
 nn:=by simp[WC]
 nd:=Ly.sublist (TC _ _)
 np:=fun ps hp=>by rw[(Tu.mp hp).2];simp
theorem F6{k:Nat}{h:MH}(hk:k < 6):∃w,BD[k]?=some w∧aY (.str (Str.ofString "abcdef")) (.int (k:Int)) h=some (.str w,h):=by
 obtain rfl | rfl | rfl | rfl | rfl | rfl:k=0∨k=1∨k=2∨k=3∨k=4∨k=5:=by lia
 all_goals exact⟨_,rfl,by ac_nf⟩
theorem DJ{n:Nat}{w:Str}{t:Nat}{x:D}{j:Nat}(hj:j < n)(hw:BD[j]?=some w)(ht:t < 4)
  (hx:x∈[D.tup [.str "call",.str w,.tup []],.tup [.str "within",.tup [.str "x",.tup [.str "",.int (t:Int)]],.tup [.tup [.str "call",.str w,.tup []]]],.tup [.str "again",.tup [.tup [.str "call",.str w,.tup []]]],.tup [.str "either",.tup [],.tup [.tup [.str "call",.str w,.tup []]]],.tup [.str "ask",.tup [.str "x",.tup [.str "",.int (t:Int)]],.tup [],.tup [.tup [.str "call",.str w,.tup []]]],.tup [.str "by",.tup [.str "",.int 1],.tup [.str "",.int 1],.tup [.tup [.str "call",.str w,.tup []]],.tup [],.tup []]]):
  ∃r:Row,x=aP r∧bo (WC n) [] 1 r∧cnt r≤2:=by
 have hc:∀m,bo (WC n) [] m (.call w []):=fun m=>by
  rw[bo];exact⟨⟨j,[],by show(BD.take n)[j]?=_;rw[QH hj];exact hw,by show(List.replicate n [])[j]?=_;rw[Sd,P7 hj],rfl⟩,fun _ z=>(nomatch z)⟩
 have hl:∀m,bq (WC n) [] m [.call w []]:=fun m=>by rw[bq,bq];exact⟨hc m,trivial⟩
 have h0:∀m,bq (WC n) [] m []:=fun m=>by rw[bq];trivial
 have hk:fP (WC n) [] (Str.ofString "x",(Str.ofString "",(t:Int))):=⟨Qj.mpr rfl,.inl rfl,by show(-99:Int)≤t;lia,by show(t:Int)≤99;lia⟩;have h1:eG [] (Str.ofString "",1):=⟨.inl rfl,by decide,by decide⟩;simp only[Qn,S9,UK] at hx;rcases hx with rfl | rfl | rfl | rfl | rfl | rfl
 ·exact⟨.call w [],by simp only[aP];rfl,hc 1,by simp[cnt]⟩
 ·exact⟨.within (Str.ofString "x",(Str.ofString "",(t:Int))) [.call w []],by simp only[aP,bX];rfl,by rw[bo];exact⟨hk,by decide,by simp,hl _⟩,by simp[cnt,aS]⟩
 ·exact⟨.again [.call w []],by simp only[aP,bX];rfl,by rw[bo];exact⟨by simp,by simp,hl _⟩,by simp[cnt,aS]⟩
 ·exact⟨.either [] [.call w []],by simp only[aP,bX];rfl,by rw[bo];exact⟨by simp,by simp,by simp,h0 _,hl _⟩,by simp[cnt,aS]⟩
 ·exact⟨.ask (Str.ofString "x",(Str.ofString "",(t:Int))) [] [.call w []],by simp only[aP,bX];rfl,by rw[bo];exact⟨hk,by decide,by simp,by simp,h0 _,hl _⟩,by simp[cnt,aS]⟩
 ·exact⟨.qP (Str.ofString "",1) (Str.ofString "",1) [.call w []] [] [],by simp only[aP,bX];rfl,by rw[bo];exact⟨h1,h1,by decide,by simp,by simp,by simp,hl _,h0 _,h0 _⟩,by simp[cnt,aS]⟩
theorem EX(hb:MH)(o:MO)(g:MH):(hb++o::g)[hb.length]?=some o:=by simp
theorem Js(hb:MH)(o o':MO)(g:MH):(hb++o::g).set hb.length o'=hb++o'::g:=by simp
theorem BR(w:Str):dN [w]=[w]:=List.perm_singleton.mp (cw [w])
theorem Ir{h:MH}{n:Nat}{xs:List D}(e:h[n]?=some (.lst xs)):ck [.ob n] h=some (.tup xs,h):=by simp only[ck,cR,e,QA]
theorem La{hb g:MH}{o:MO}{n:Nat}(e:hb.length+g.length=n):(hb++(g++[o]))[n]?=some o:=by rw[←QV,←e,←Qb];simp
theorem Od{hb g:MH}{o o':MO}{n:Nat}(e:hb.length+g.length=n):(hb++(g++[o])).set n o'=hb++(g++[o']):=by rw[←QV,←e,←Qb];simp
noncomputable def vV:SM:=av (aZ 6 (aw aV (ab (eK (.str "call")) (ab (ay aY (eK (.str "abcdef")) (aw aE (ab (ae 0) (ab (ae 1) ah)))) (ab (aw aV ah) ah)))))
  (av (aZ 7 (aw aV (ab (eK (.str "within")) (ab (aw aV (ab (eK (.str "x")) (ab (aw aV (ab (eK (.str "")) (ab (ae 5) ah))) ah))) (ab (aw aV (ab (ae 6) ah)) ah)))))
  (av (aZ 8 (aw aV (ab (eK (.str "by")) (ab (aw aV (ab (eK (.str "")) (ab (eK (.int 1)) ah))) (ab (aw aV (ab (eK (.str "")) (ab (eK (.int 1)) ah))) (ab (aw aV (ab (ae 6) ah)) (ab (aw aV ah) (ab (aw aV ah) ah))))))))
  (av (aZ 9 (eR (ab (ae 6) (ab (ae 7) (ab (aw aV (ab (eK (.str "again")) (ab (aw aV (ab (ae 6) ah)) ah))) (ab (aw aV (ab (eK (.str "either")) (ab (aw aV ah) (ab (aw aV (ab (ae 6) ah)) ah)))) (ab (aw aV (ab (eK (.str "ask")) (ab (ay aY (ae 7) (eK (.int 1))) (ab (aw aV ah) (ab (aw aV (ab (ae 6) ah)) ah))))) (ab (ae 8) ah))))))))
  (av (aZ 6 (aw aR (ab (ae 0) (ab (ae 9) ah))))
  (ft (eM bU di (ae 4) (ab (ae 6) ah)))))))
section
variable {s c:Nat} {cs:List Int} {h0 hb g:MH} {Q:SQ} {many q:Nat} {v2 v3 v5 v6 v7 v8 v9:Option D}
theorem Nh{R t:Nat}{rows:List Row}(B:Sb s c cs h0 (R+2) hb)(h1:1≤many)(h6:many≤6)(ht:t < 4)(hl:rows.length≤4)(hq:h0.length+g.length=q)
  (k:∀(r:Row)(hb:MH)(v6 v7 v8 v9:Option D),bo (WC many) [] 1 r->cnt r≤2->Sb s c cs h0 R hb->Q (.nx,[some (.ob s),some (.int (many:Int)),v2,v3,some (.ob q),some (.int (t:Int)),v6,v7,v8,v9],hb++(g++[.lst ((rows++[r]).map aP)]))):
  Rn (vV [some (.ob s),some (.int (many:Int)),v2,v3,some (.ob q),some (.int (t:Int)),v6,v7,v8,v9] (hb++(g++[.lst (rows.map aP)]))) Q:=by
 unfold vV;nofun;refine Bx (R:=R+1) B (by lia) (by lia) fun j hb2 j0 j1 B2=>?_;obtain⟨j,rfl⟩:=Rf j0;obtain⟨w,hw,ew⟩:=F6 (k:=j) (h:=hb2++(g++[.lst (rows.map aP)])) (by lia);nofun;refine rv ew ?_;nofun;refine Ni (R:=R) B2 (by simp) (by simp) fun x hb3 hx B3=>?_;obtain⟨r,rfl,okr,hc2⟩:=DJ (n:=many) (j:=j) (by lia) hw ht hx;have hg:=B3.b.1;nofun;refine lQ ?_;nofun;refine⟨cI (La (by lia)),?_⟩;nofun;refine rv (dh (La (by lia)) (by rw[P1,QL];lia)) ?_;rw[Od (by lia)];nofun;rw[show rows.map aP++[aP r]=(rows++[r]).map aP by rw[Qr];rfl];exact k r hb3 _ _ _ _ okr hc2 B3
noncomputable def AR:SM:=fL (iI (ab (aw aE (ab (ae 0) (ab (eK (.int 4)) ah))) ah)) (gN 5) vV
theorem Ls{R:Nat}(B:Sb s c cs h0 (R+7) hb)(h1:1≤many)(h6:many≤6)(hq:h0.length+g.length=q)
  (k:∀(rows:List Row)(hb:MH)(v5 v6 v7 v8 v9:Option D),rows.length≤3->aS rows≤6->bq (WC many) [] 1 rows->Sb s c cs h0 R hb->Q (.nx,[some (.ob s),some (.int (many:Int)),v2,v3,some (.ob q),v5,v6,v7,v8,v9],hb++(g++[.lst (rows.map aP)]))):
  Rn (AR [some (.ob s),some (.int (many:Int)),v2,v3,some (.ob q),v5,v6,v7,v8,v9] (hb++(g++[.lst []]))) Q:=by
 unfold AR;refine x6 (fv ?_);nofun;refine Bx (R:=R+6) B (by decide) (by decide) fun m hb1 r0 r4 B1=>?_;obtain⟨m,rfl⟩:=Rf r0;nofun;refine⟨(m:Int),rfl,by lia,by lia,?_⟩;rw[Qp];refine cW (fun t δ h'=>∃(rows:List Row)(v5 v6 v7 v8 v9:Option D)(hb:MH),δ=[some (.ob s),some (.int (many:Int)),v2,v3,some (.ob q),v5,v6,v7,v8,v9]∧h'=hb++(g++[.lst (rows.map aP)])∧Sb s c cs h0 (R+6-2*t) hb∧rows.length=t∧aS rows≤2*t∧bq (WC many) [] 1 rows)
  ⟨[],_,_,_,_,_,hb1,rfl,rfl,B1,rfl,by simp[aS],by rw[bq];trivial⟩ (fun _ _ _ _ _=>rfl) ?_ ?_
 ·rintro t x δ h' hx ⟨rows,v5,v6,v7,v8,v9,hb,rfl,rfl,B,hrl,hcn,bC⟩;have ht:t < m:=by
   have:=(P4.mp hx).1
   simpa using this
  obtain rfl:x=.int (t:Int):=by
   rw[Qi,R8 ht] at hx;cases hx;rfl
  nofun;refine Nh (R:=R+6-2*(t+1)) (B.le (by lia)) h1 h6 (by lia) (by lia) hq fun r hb v6 v7 v8 v9 okr hc2 B3=>EL ?_;exact⟨rows++[r],_,_,_,_,_,hb,rfl,rfl,B3,by rw[Qb];simp[hrl],by rw[kd];simp[aS];lia,oW bC (by rw[bq,bq];exact⟨okr,trivial⟩)⟩
 ·rintro δ h' ⟨rows,v5,v6,v7,v8,v9,hb,rfl,rfl,B,hrl,hcn,bC⟩;rw[P1,Qt] at B hrl hcn;exact k rows hb _ _ _ _ _ (by lia) (by lia) bC (B.le (by lia))
end
theorem Dd{h h0:MH}{s c R many:Nat}{cs:List Int}{Q:D×MH->Prop}(A:Sb s c cs h0 (R+48) h)(C:Cl h)(h1:1≤many)(h6:many≤6)(k:∀(P:Prog)(h1:MH),LK (WC many) 60 P->Sb s c cs h0 R h1->Cl h1->Q (fZ P,h1)):Rn (fE [.ob s,.int (many:Int)] h) Q:=by
 refine mQ ?_;nofun;refine fv ?_;nofun;refine⟨(many:Int),rfl,by lia,by lia,?_⟩;rw[Qp];refine cW (fun i δ h'=>∃(dds:List fG)(v3 v4 v5 v6 v7 v8 v9:Option D)(hb g:MH),δ=[some (.ob s),some (.int (many:Int)),some (.ob h.length),v3,v4,v5,v6,v7,v8,v9]∧h'=hb++.lst (dds.map cg)::g∧Sb s c cs h (R+48-8*i) hb∧dds.length=i∧(dds.map fun d=>aS d.2.2).sum≤6*i∧∀(j:Nat)(d:fG),dds[j]?=some d->BD[j]?=some d.1∧d.2.1=[]∧bq (WC many) [] 1 d.2.2∧d.2.2.length≤12)
  ⟨[],_,_,_,_,_,_,_,h,[],rfl,rfl,A.S.sb,rfl,by simp,fun _ _ z=>by simp at z⟩ (fun _ _ _ _ _=>rfl) ?_ ?_
 ·rintro i x δ h' hx ⟨dds,v3,v4,v5,v6,v7,v8,v9,hb,g,rfl,rfl,B,hdl,hsum,hdd⟩;have hi:i < many:=by
   have:=(P4.mp hx).1
   simpa using this
  obtain rfl:x=.int (i:Int):=by
   rw[Qi,R8 hi] at hx;cases hx;rfl
  have hbl:=B.b.1;refine rv (a:=(_,_)) rfl ?_;refine fu (rG (MC (x5 (lg ?_))));rw[QV];refine fu (Ls (R:=R+48-8*(i+1)) (g:=MO.lst (dds.map cg)::g) (B.le (by lia)) h1 h6 (q:=(hb++MO.lst (dds.map cg)::g).length) (by rw[Qb];lia) fun rows hb w5 w6 w7 w8 w9 hrl hcn bC B=>?_);have hbl2:=B.b.1;have hg0:(hb++(MO.lst (dds.map cg)::g++[.lst (rows.map aP)]))[h.length]?=some (.lst (dds.map cg)):=by rw[←hbl2];exact EX _ _ _
  obtain⟨w,hw,ew⟩:=F6 (k:=i) (h:=hb++(MO.lst (dds.map cg)::g++[.lst (rows.map aP)])) (by lia);show Rn _ _;nofun;refine lQ ?_;nofun;refine⟨cI hg0,?_⟩;nofun;refine rv ew ?_;nofun;refine rv (Ir (La (by rw[Qb];lia))) ?_;nofun;refine rv (dh hg0 (by rw[P1,QL];lia)) ?_;rw[←hbl2,Ue,Js];nofun;have hcs:((dds++[(w,[],rows)]).map fun d:fG=>aS d.2.2).sum=(dds.map fun d:fG=>aS d.2.2).sum+aS rows:=by
   rw[Qr,Sl];simp
  refine⟨dds++[(w,[],rows)],_,_,_,_,_,_,_,hb,g++[.lst (rows.map aP)],by rw[hbl2],by rw[Qr,List.map_singleton];unfold cg;rw[fz];rfl,B,by rw[Qb];simp[hdl],by rw[hcs];lia,fun j d hj=>?_⟩
  by_cases z:j < dds.length
  ·rw[Qk z] at hj;exact hdd j d hj
  ·rw[Qw (by lia)] at hj;have hj0:j-dds.length=0:=by
    have:=(P4.mp hj).1;simp at this
    lia
   rw[hj0] at hj;cases hj;obtain rfl:j=i:=by lia
   exact⟨hw,rfl,bC,by show rows.length≤12;lia⟩
 ·rintro δ h' ⟨dds,v3,v4,v5,v6,v7,v8,v9,hb,g,rfl,rfl,B,hdl,hsum,hdd⟩;rw[P1,Qt] at B hdl hsum;have hbl:=B.b.1;have hg0:(hb++MO.lst (dds.map cg)::g)[h.length]?=some (.lst (dds.map cg)):=by rw[←hbl];exact EX _ _ _
  nofun;refine rv (Ir hg0) ?_;nofun;have C1:Cl hb:=C.but B.S B.b;refine rv (m8 hbl C1 (fun n z=>(nomatch z)) (Bt _ ⟨[Str.ofString "x"],dds⟩)) (k ⟨[Str.ofString "x"],dds⟩ hb ⟨(BR _).symm,?_,fun j d hj=>?_,by show _≤_;dsimp only;lia⟩ ⟨B.S.le (by lia),A.b.trans B.b⟩ C1)
  ·show dds.length=(BD.take many).length;rw[Qy,hdl];show many=min many 6
   lia
  ·obtain⟨a1,a2,a3,a4⟩:=hdd j d hj;have hjl:j < many:=by
    have:=(P4.mp hj).1;dsimp only at this
    lia
   rw[a2];exact⟨by show(BD.take many)[j]?=_;rw[QH hjl];exact a1,by show(List.replicate many [])[j]?=_;rw[Sd,P7 hjl],a3,a4⟩
end Mi
namespace Pg
open PySem Sm L2
def plain:Nat->D->Prop
 | 0,_=>False
 | n+1,.tup xs=>xs.length≤100000∧∀x∈xs,plain n x
 | _+1,.str _=>True
 | _+1,.int _=>True
 | _+1,.cC=>True
 | _+1,.bl _=>True
 | _+1,_=>False
theorem yc:∀{n m:Nat} {d:D},plain n d->n≤m->plain m d
 | 0,_,_,h,_=>h.elim
 | n+1,0,_,_,hm=>absurd hm (by lia)
 | n+1,m+1,.tup xs,h,hm=>⟨h.1,fun x hx=>yc (h.2 x hx) (by lia)⟩
 | n+1,m+1,.str _,h,hm=>trivial
 | n+1,m+1,.int _,h,hm=>trivial
 | n+1,m+1,.cC,h,hm=>trivial
 | n+1,m+1,.bl _,h,hm=>trivial
 | n+1,m+1,.lv _,h,hm=>h.elim
 | n+1,m+1,.ro _,h,hm=>h.elim
 | n+1,m+1,.dv _,h,hm=>h.elim
 | n+1,m+1,.ob _,h,hm=>h.elim
 | n+1,m+1,.ty _,h,hm=>h.elim
theorem uJ{α:Type}{n:Nat}{f:α->D}{xs:List α}(hl:xs.length≤100000)(h:∀x∈xs,plain n (f x)):plain (n+1) (.tup (xs.map f)):=
 ⟨by rw[P1];exact hl,fun y hy=>by obtain⟨x,hx,rfl⟩:=Ql.mp hy;exact h x hx⟩
end Pg
namespace Mi
open PySem Sm L2 Pg
theorem uw:∀xs:List D,n4 xs xs=xs.map fun x=>.tup [x,x]
 | []=>rfl
 | x::r=>by rw[Qd,←uw r];rfl
theorem yV{α:Type}:∀xs:List α,sV (xs.map fun _=>D.bl true)=some (xs.map fun _=>true)
 | []=>rfl
 | x::r=>by rw[Qd];show(sV (r.map _)).map _=_;rw[yV r];rfl
theorem Fb{α:Type}(xs:List α)(h:MH):qo [.lv (xs.map fun _=>D.bl true)] h=some (.bl true,h):=by
 show(sV (xs.map fun _=>D.bl true)).map _=_;rw[yV];simp
theorem same_refl:∀(n:Nat)(d:D)(h:MH),plain n d->dc n [d,d] h=some (.bl true,h)
 | 0,_,_,hp=>hp.elim
 | n+1,d,h,hp=>by
  have e:Rn (dc (n+1) [d,d] h) fun p=>p=(.bl true,h):=by
   unfold dc;refine cq ?_;cases d with
   | tup xs=>
    nofun;refine rv rfl ⟨true,rfl,fun _=>?_,fun z=>(nomatch z)⟩;nofun;refine rv rfl ⟨true,rfl,fun z=>(nomatch z),fun _=>?_⟩;nofun;refine⟨false,by simp,fun z=>(nomatch z),fun _=>?_⟩;nofun;refine JJ ?_;nofun;refine⟨_,_,_,_,_,_,rfl,rfl,rfl,?_⟩;rw[uw];refine rv (qM rfl (fun x=>.tup [x,x]) (fun _=>.bl true) (fun δ=>∃a b,δ=[a,b]) xs ⟨_,_,rfl⟩ ?_) ⟨?_,?_⟩
    ·rintro x hx δ ⟨a,b,rfl⟩;nofun;refine⟨rfl,⟨_,_,rfl⟩,?_⟩;nofun;exact rv (same_refl n x h (hp.2 x hx)) rfl
    ·dsimp only;rw[P1,show sizeLine=16777216 from rfl];have:=hp.1
     lia
    ·nofun;refine rv (Fb xs h) ?_;nofun
   | str x=>
    nofun;refine rv rfl ⟨false,rfl,fun z=>(nomatch z),fun _=>?_⟩;nofun;refine rv rfl ⟨false,rfl,fun z=>(nomatch z),fun _=>?_⟩;nofun;refine rv rfl ⟨true,rfl,fun _=>?_,fun z=>(nomatch z)⟩;nofun;refine rv rfl ⟨true,rfl,fun _=>?_,fun z=>(nomatch z)⟩;nofun;simp
   | int x=>
    nofun;refine rv rfl ⟨false,rfl,fun z=>(nomatch z),fun _=>?_⟩;nofun;refine rv rfl ⟨false,rfl,fun z=>(nomatch z),fun _=>?_⟩;nofun;refine rv rfl ⟨false,rfl,fun z=>(nomatch z),fun _=>?_⟩;nofun;refine rv rfl ⟨false,rfl,fun z=>(nomatch z),fun _=>?_⟩;nofun;refine rv rfl ⟨true,rfl,fun _=>?_,fun z=>(nomatch z)⟩;nofun;refine rv rfl ⟨false,rfl,⟨_,rfl,fun _=>?_,fun z=>(nomatch z)⟩⟩;nofun;simp
   | cC=>
    nofun;refine rv rfl ⟨false,rfl,fun z=>(nomatch z),fun _=>?_⟩;nofun;refine rv rfl ⟨true,rfl,fun _=>?_,fun z=>(nomatch z)⟩;nofun;exact rv rfl rfl
   | bl x=>
    nofun;refine rv rfl ⟨false,rfl,fun z=>(nomatch z),fun _=>?_⟩;nofun;refine rv rfl ⟨false,rfl,fun z=>(nomatch z),fun _=>?_⟩;nofun;refine rv rfl ⟨false,rfl,fun z=>(nomatch z),fun _=>?_⟩;nofun;refine rv rfl ⟨true,rfl,fun _=>?_,fun z=>(nomatch z)⟩;nofun;refine rv rfl ⟨true,rfl,fun _=>?_,fun z=>(nomatch z)⟩;nofun;refine rv (HL x x h) ?_;nofun;simp
   | lv _=>exact hp.elim
   | ro _=>exact hp.elim
   | dv _=>exact hp.elim
   | ob _=>exact hp.elim
   | ty _=>exact hp.elim
  obtain⟨p,e1,rfl⟩:=e;exact e1
end Mi
namespace Mi
open PySem Sm L2 Rc Pg
theorem uO:∀(cs:List (List Nat)) (h:MH) (o:Option D),bR [] (gN 0) bS (sE (k6 (ab (ae 0) ah))) (cs.map fun l=>D.tup (l.map nD)) [o] h=some ((List.range cs.length).map fun i=>.ob (h.length+i),h++cs.map dr)
 | [],h,o=>by
  show some (([]:List D),h)=_;simp
 | x::r,h,o=>by
  show((bR [] (gN 0) bS (sE (k6 (ab (ae 0) ah))) (r.map fun l=>D.tup (l.map nD)) [some (.tup (x.map nD))] (h++[.lst (x.map nD)])).map fun z=>(D.ob h.length::z.1,z.2))=_;rw[uO r (h++[MO.lst (x.map nD)]) _];simp only[QA,Qb,QQ,Qv,Vp,Qd,QI,QV,Vw,Vo];congr 2;congr 1;apply Uv;intro i _;show D.ob (h.length+1+i)=D.ob (h.length+(i+1));congr 1
  lia
theorem Lg{h:MH}{n:Nat}{ns:List Nat}(x:Nat)(e:h[n]?=some (.lst (ns.map nD))):yF (nD x) (.ob n) h=some (.bl (ns.any fun y=>decide (y=x)),h):=by
 have h1:=nz ns;unfold yF inD;simp only[eu,e];show((cR (.ob n) h).bind _).map _=_;simp only[cR,e,QB,wu];show(((tZ h (nD x)).bind _).map _)=_;rw[show tZ h (nD x)=some (.int (x:Int)) from rfl];dsimp only[Option.bind_some];rw[P7 ⟨by simp[PyData.depth],by lia⟩,←xy];rfl
theorem Cl.lists{h:MH}(C:Cl h)(far:List (List Nat)):Cl (h++far.map dr):=by
 intro o ho;rcases Qx.mp ho with z | z
 ·exact Fu (by rw[Qb];lia) o (C o z)
 ·obtain⟨l,_,rfl⟩:=Ql.mp z;exact Bu _ _
theorem Ek{cs:List (List Nat)}(h1:cs.length≤100)(h2:∀l∈cs,l.length≤100):plain 20 (Bo cs):=
 yc (uJ (n:=2) (by lia) fun l hl=>uJ (n:=1) (by have:=h2 l hl;lia) fun _ _=>trivial) (by lia)
mutual
theorem CW{W:Wd}{ps:List Str}:∀(n:Nat)(r:Row),bo W ps n r->∀w∈gr r,w∈W.aq
 | n,.say _,_,w,h=>by simp[gr,gv,cQ] at h
 | n,.call d ts,o,w,h=>by
  rw[bo] at o;obtain⟨⟨j,qs,h1,_⟩,_⟩:=o;have:w=d:=by simpa [gr,gv,cQ] using h
  rw[this];exact P6 h1
 | n,.within l b,o,w,h=>by rw[bo] at o;rw[cK _ rfl] at h;simp[aI] at h;exact cD (n+1) b o.2.2.2 w h
 | n,.all l b,o,w,h=>by rw[bo] at o;rw[cK _ rfl] at h;simp[aI] at h;exact cD (n+1) b o.2.2.2 w h
 | n,.ask l b e,o,w,h=>by
  rw[bo] at o;rw[cK _ rfl] at h;simp[aI] at h;rcases h with h | h
  ·exact cD (n+1) b o.2.2.2.2.1 w h
  ·exact cD (n+1) e o.2.2.2.2.2 w h
 | n,.qP s t a b c,o,w,h=>by
  rw[bo] at o;rw[cK _ rfl] at h;simp[aI] at h;obtain⟨_,_,_,_,_,_,h1,h2,h3⟩:=o;rcases h with h | h | h
  ·exact cD (n+1) a h1 w h
  ·exact cD (n+1) b h2 w h
  ·exact cD (n+1) c h3 w h
 | n,.either a b,o,w,h=>by
  rw[bo] at o;rw[cK _ rfl] at h;simp[aI] at h;obtain⟨_,_,_,h1,h2⟩:=o;rcases h with h | h
  ·exact cD (n+1) a h1 w h
  ·exact cD (n+1) b h2 w h
 | n,.again a,o,w,h=>by rw[bo] at o;rw[cK _ rfl] at h;simp[aI] at h;exact cD (n+1) a o.2.2 w h
theorem cD{W:Wd}{ps:List Str}:∀(n:Nat)(l:List Row),bq W ps n l->∀w∈cz l,w∈W.aq
 | n,[],_,w,h=>by simp[cz,dG] at h
 | n,r::rs,o,w,h=>by
  rw[bq] at o;rw[eX,TF,←eX] at h;rcases Qx.mp h with h | h
  ·exact CW n r o.1 w h
  ·exact cD n rs o.2 w h
end
section
variable {W:Wd} {fl:List Int} {odd:Int} {P:Prog} {m:Nat} (ok:um W fl odd) (o:LK W m P) (hm:m≤60)
include ok o
theorem sP:∀d∈P.aq,∀w∈cz d.2.2,w∈P.aq.map (·.1):=fun d hd w hw=>by
 obtain⟨j,hj⟩:=Ut hd;rw[kc o];exact cD 1 d.2.2 (o.dd j d hj).2.2.1 w hw
theorem Am:P.aq.length≤6:=by rw[o.dl];exact ok.d2
include hm
theorem Ll{h:MH}:∀d∈P.aq,aw ck (ab (gb (aw (aJ 30) (ab (ay aY (ae 0) (eK (.int 2))) (ab (ae 1) ah)))) ah) [some (cg d),some (.lv ((P.aq.map (·.1)).map D.str))] h=some (.tup ((lh ((cz d.2.2).map (mZ P))).map nD),h):=fun d hd=>by
 have hc:=sP ok o d hd;have fit:=o.fit (by lia) ok.d2;have hn:=fit.nd d hd;have h6:=Am ok o;have hcn:aS d.2.2≤60:=Qm (qw hd) (Qm o.ct hm);have hl:=jj d.2.2;have e1:=(pW (P.aq.map (·.1)) h 30).1 d.2.2 (by lia) (by lia) (by lia) hc;have e2:aw (aJ 30) (ab (ay aY (ae 0) (eK (.int 2))) (ab (ae 1) ah)) [some (cg d),some (.lv ((P.aq.map (·.1)).map D.str))] h=some (.lv (sS (P.aq.map (·.1)) (cz d.2.2)),h):=e1;have e3:=(lj (ns:=(cz d.2.2).map (mZ P)) e2 (by show some _=_;unfold sS;rw[QI];rfl) (by rw[P1];lia) (fun x hx=>by
  obtain⟨w,hw,rfl⟩:=Ql.mp hx;have:=(qG (hc w hw)).1
  lia)).2.2
 refine c8 (B7 (rH (rv e3 (x5 ?_))));exact⟨_,rfl,rfl⟩
omit hm in
theorem Nd(hm:m≤60):(xE P).length=P.aq.length∧∀l∈xE P,l.Nodup∧l.length≤100∧∀x∈l,x < (xE P).length:=by
 have h6:=Am ok o;have e:(xE P).length=P.aq.length:=by unfold xE;rw[P1]
 refine⟨e,fun l hl=>?_⟩;rw[e];unfold xE at hl;obtain⟨d,hd,rfl⟩:=Ql.mp hl;have hc:=sP ok o d hd;have hcn:aS d.2.2≤60:=Qm (qw hd) (Qm o.ct hm);have hll:=jj d.2.2;have key:=lj (m:=eK (.lv (((cz d.2.2).map (mZ P)).map nD))) (δ:=[]) (h:=[]) (ns:=(cz d.2.2).map (mZ P)) rfl rfl (by rw[P1];lia) (fun x hx=>by
  obtain⟨w,hw,rfl⟩:=Ql.mp hx;have:=(qG (hc w hw)).1
  lia)
 have lt:∀x∈lh ((cz d.2.2).map (mZ P)),x < P.aq.length:=fun x hx=>by
  obtain⟨w,hw,rfl⟩:=Ql.mp ((key.2.1 x).mp hx);exact(qG (hc w hw)).1
 exact⟨key.1,Qm (iF key.1 lt) (by lia),lt⟩
end
theorem PY(cs:List Int):Cl [.lst (cs.map D.int),.lst [.int 0,.ob 0,.int 0]]:=by
 intro o ho;rcases Qn.mp ho with rfl | ho
 ·exact fS _ D.int (fun _=>rfl) _
 ·rw[Qj.mp ho];rfl
theorem He{h:MH}{far:List (List Nat)}(hl:far.length≤100){names:List D}(hn:names.length=far.length){v0 v1 v2 v3 v5 v7 v8 v9 v10:Option D}:aw E9 (ab (eR (bD [none,some 6] (iI (ab (aw cx (ab (ae 4) ah)) ah)) (gN 0) bS (ay yF (ae 0) (ay aY (ae 1) (ae 0))))) ah) [v0,v1,v2,v3,some (.lv names),v5,some (jX h.length far.length),v7,v8,v9,v10] (h++far.map dr)=some (.bl ((List.range far.length).any fun i=>(dI far i).any fun y=>decide (y=i)),h++far.map dr):=by
 refine c8 ?_;nofun;refine fv ?_;nofun;refine⟨(far.length:Int),by rw[←hn],by lia,by lia,?_⟩;rw[Qp];have fo:∀i,i < far.length->(ay yF (ae 0) (ay aY (ae 1) (ae 0))) [some (nD i),some (jX h.length far.length)] (h++far.map dr)=some (.bl ((dI far i).any fun y=>decide (y=i)),h++far.map dr):=fun i hi=>by
  refine c8 ?_;nofun;refine rv (kG hi) ?_;exact rv (Lg i (t9 hi)) rfl
 refine rv (kI (t:=[some (jX h.length far.length)]) (fun d=>match d with | .int i=>.bl ((dI far i.toNat).any fun y=>decide (y=i.toNat)) | d=>d) _ _ fun x hx=>?_) ?_
 ·obtain⟨i,hi,rfl⟩:=Ql.mp hx;exact fo i (Q3.mp hi)
 ·refine⟨by rw[P1,P1,Qt,QL];lia,?_⟩;nofun;rw[QI];exact rv (BC (List.range far.length) (fun i=>(dI far i).any fun y=>decide (y=i)) _) rfl
theorem law_true(ns:List Int)(hn:ns.length≤63):∃h',BF [.ro (ns.map D.int)] []=some (.bl true,h'):=by
 have e:Rn (BF [.ro (ns.map D.int)] []) fun p=>p.1=.bl true:=by
  obtain⟨cs,ed,S0⟩:=Ak ns hn 90000 (by decide);refine cq ?_;nofun;refine rv ed ?_;nofun;refine fv ?_;nofun;refine⟨8,rfl,by decide,by decide,?_⟩;refine cW (fun i δ h=>∃(v2 v3 v4 v5 v6 v7 v8 v9 v10:Option D),δ=[some (.ro (ns.map D.int)),some (.ob 1),v2,v3,v4,v5,v6,v7,v8,v9,v10]∧St 1 0 cs (90000-10000*i) h∧Cl h)
   ⟨_,_,_,_,_,_,_,_,_,rfl,S0,PY cs⟩ (fun _ _ _ _ _=>rfl) ?_ ?_
  ·rintro i x δ h hx ⟨v2,v3,v4,v5,v6,v7,v8,v9,v10,rfl,S,C⟩;have hi:i < 8:=by
    have:=(P4.mp hx).1
    simpa using this
   nofun;refine eT (R:=90000-10000*(i+1)+9000) ((S.le (by lia)).sb) (by decide) (by decide) fun r h1 r0 r6 A1=>?_;obtain⟨r,rfl⟩:=Rf r0;nofun;rw[show(1:Int)+(r:Int)=((1+r:Nat):Int) by lia];refine Dd (R:=90000-10000*(i+1)+8000) (A1.le (by lia)) (C.but A1.S A1.b) (by lia) (by lia) fun P0 h2 okp0 A2 C2=>?_;nofun;refine eT (R:=90000-10000*(i+1)+7999) (A2.le (by lia)) (by decide) (by decide) fun r3 h3 r30 r31 A3=>?_;have C3:Cl h3:=C.but A3.S A3.b;nofun;refine EU (E:=fun c=>D.bl (r3==0)=D.bl c) (Y:=fun q=>∃(W:Wd)(fl:List Int)(odd:Int)(P:Prog)(h4:MH),q=(Fl.nx,[some (.ro (ns.map D.int)),some (.ob 1),some x,some (fZ P),v4,v5,v6,v7,v8,v9,v10],h4)∧um W fl odd∧LK W 60 P∧St 1 0 cs (90000-10000*(i+1)) h4∧Cl h4) ?_ ?_
   ·refine⟨_,rfl,fun _=>?_,fun _=>?_⟩
    ·nofun;refine k5 (R:=90000-10000*(i+1)+7998) (is:=[14,60]) (fun i=>0≤i∧i≤60) (by decide) (A3.le (by lia)) fun most h5 hm _ A5=>?_;nofun;refine k5 (R:=90000-10000*(i+1)+7997) (is:=[0,4]) (fun i=>0≤i∧i≤12) (by decide) (A5.le (by lia)) fun odd h6 ho _ A6=>?_;nofun;obtain⟨most,rfl⟩:=Rf hm.1;have hmm:most≤60:=by lia
     refine Dc (R:=90000-10000*(i+1)) (A6.le (by lia)) (C.but A6.S A6.b) ho.1 (by lia) fun W fl P h7 ok okp A7 C7=>?_;exact⟨W,fl,odd,P,h7,rfl,ok,⟨okp.nm,okp.dl,okp.dd,Qm okp.ct hmm⟩,A7.S,C7⟩
    ·nofun;exact⟨WC (1+r),_,0,P0,h3,rfl,Nn (by lia) (by lia),okp0,A3.S.le (by lia),C3⟩
   ·rintro _ ⟨W,fl,odd,P,h4,rfl,ok,okp,S4,C4⟩;show Rn _ _;have h6:=Am ok okp;obtain⟨ecs,hcs⟩:=Nd ok okp (P8 _);have ecalls:∀h:MH,eV [fZ P] h=some (Bo (xE P),h):=fun h=>ue (okp.fit (by lia) ok.d2) (by rw[kc okp];exact ok.nd) h6 (sP ok okp) h;have e1:bD [none] (cZ (ay aY (ae 3) (eK (.int 1)))) (gN 0) bS (ay aY (ae 0) (eK (.int 0))) [some (.ro (ns.map D.int)),some (.ob 1),some x,some (fZ P),v4,v5,v6,v7,v8,v9,v10] h4=some ((P.aq.map (·.1)).map D.str,h4):=by
     rw[tf (t:=[]) (o:=none) (d:=.tup (P.aq.map cg)) (fun d=>match d with | .tup (a::_)=>a | d=>d) rfl rfl rfl (by rw[P1];lia) (fun x hx=>by
      obtain⟨d,hd,rfl⟩:=Ql.mp hx;rfl),QI,QI]
     rfl
    have e2:bD [none,some 4] (cZ (ay aY (ae 3) (eK (.int 1)))) (gN 0) bS (aw ck (ab (gb (aw (aJ 30) (ab (ay aY (ae 0) (eK (.int 2))) (ab (ae 1) ah)))) ah)) [some (.ro (ns.map D.int)),some (.ob 1),some x,some (fZ P),some (.lv ((P.aq.map (·.1)).map D.str)),v5,v6,v7,v8,v9,v10] h4=some ((xE P).map fun l=>D.tup (l.map nD),h4):=by
     unfold bD cZ;show((bR [] (gN 0) bS _ (P.aq.map cg) [none,some (.lv ((P.aq.map (·.1)).map D.str))] h4).bind _)=_;rw[qM (h:=h4) rfl cg (fun d=>D.tup ((lh ((cz d.2.2).map (mZ P))).map nD)) (fun δ=>∃v,δ=[v,some (.lv ((P.aq.map (·.1)).map D.str))]) P.aq ⟨_,rfl⟩ (by
      rintro d hd δ ⟨v,rfl⟩;refine⟨_,rfl,rfl,⟨_,rfl⟩,?_⟩;exact⟨_,Ll ok okp (P8 _) d hd,rfl⟩)]
     show(if _≤sizeLine then _ else _)=_;rw[P7 (by rw[P1,QL];lia)];unfold xE;rw[QI];rfl
    refine fu (rG (B6 (rv e1 (lg ?_))));refine fu (rG (B6 (rv e2 (lg ?_))));nofun;refine rv (ecalls h4) ?_;nofun;refine rv (a:=(Bo (xE P),h4)) rfl ?_;nofun;refine rv (same_refl 20 (Bo (xE P)) h4 (Ek (by lia) fun l hl=>(hcs l hl).2.1)) ⟨true,rfl,ff ?_⟩;nofun;refine rv (B8 ok okp (P8 _)) ?_;nofun;refine rv (a:=(.bl false,h4)) rfl ⟨false,rfl,ff ?_⟩;nofun;refine cV ?_;nofun;refine⟨_,_,rfl,?_⟩;refine rv (uO (xE P) h4 none) ?_;refine⟨by rw[P1,Qt,QL];lia,?_⟩;show Rn (av Aa _ _ _) _;refine fu (E1 (h:=h4) (cs:=xE P) (by rw[P1,P1,ecs]) (by lia) (fun l hl=>⟨(hcs l hl).1,(hcs l hl).2.2⟩) fun far w7 w8 w9 hfl hfar=>?_);obtain⟨c,hc,ec⟩:=Ap (h:=h4++far.map dr) (ecalls _) (by lia) (fun l hl=>(hcs l hl).2);have own:=He (h:=h4) (far:=far) (by lia) (names:=(P.aq.map (·.1)).map D.str) (by rw[P1,P1,hfl,ecs]) (v0:=some (.ro (ns.map D.int))) (v1:=some (.ob 1)) (v2:=some x) (v3:=some (fZ P)) (v5:=some (.lv ((xE P).map fun l=>D.tup (l.map nD)))) (v7:=w7) (v8:=w8) (v9:=w9) (v10:=some (.bl c));have ecc:c=((List.range far.length).any fun i=>(dI far i).any fun y=>decide (y=i)):=by
     rw[RN,hc,Rb];constructor
     ·rintro⟨i,hi,q⟩;exact⟨i,Q3.mpr (by lia),Rb.mpr ⟨i,(hfar i i hi).mpr q,QO rfl⟩⟩
     ·rintro⟨i,hi,q⟩;obtain⟨y,hy,q⟩:=Rb.mp q;have hi:i < (xE P).length:=by have:=Q3.mp hi;lia
      exact⟨i,hi,(hfar i i hi).mp (QK q ▸ hy)⟩
    rw[←ecc] at own;rw[hfl] at own;show Rn _ _;refine fu (rG (B7 (rv (a:=([fZ P],h4++far.map dr)) rfl (rv ec (lg ?_)))));refine rE (D2 (lP (wg (rv (a:=(.bl true,h4++far.map dr)) rfl ⟨true,rfl,ff ?_⟩))));refine rJ (GH (rv (a:=(.bl c,h4++far.map dr)) rfl (rv own ?_)));refine rv (a:=(.bl false,h4++far.map dr)) (by cases c <;> rfl) ⟨false,rfl,ff ?_⟩;nofun;exact⟨_,_,_,_,_,_,_,_,_,rfl,S4.more _,C4.lists far⟩
  ·rintro δ h ⟨v2,v3,v4,v5,v6,v7,v8,v9,v10,rfl,S,C⟩;nofun
 obtain⟨⟨d,h'⟩,e1,rfl⟩:=e;exact⟨h',e1⟩
end Mi
open PySem PySem.W PyProof.Rows
theorem Mi.OQ:defOf Mi.view "law"=some (Hd.uF "law" Mi.pK,[]):=by ac_nf
theorem Mi.hp:PySem.Program.theDef Mi.pw "law"=some (L2.nA Mi.pK,L2.jh Mi.pK,L2.ax Mi.pK):=by ac_nf
theorem PySem.Challenge.cw_neverstuck_k05_calls_holds : PySem.Challenge.rw_neverstuck_k05_calls.Holds := by
 refine holds_law Mi.Jv fun Jv=>?_;refine PySem.W.holds_open (q:=Mi.view) (loose:=["SHAPES"]) (Xt:=Mi.Xt) (XP:=XL Mi.view []) (Yf:=Mi.Yf) (Ya:=Mi.ya) (YP:=fun w h=>Hd.tabAt h "SHAPES"=Mi.ya w) (N:=20000) (d:=Hd.uF "law" Mi.pK) (kwd:=[]) Mi.left (fun _ _ e=>e) (fun _ _ _ y k=>Hd.zg k y) (fun s e=>xl_of s (QP.mp e).1) XL.keeps Mi.OQ Mi.hp (by ac_nf) (fun s e=>recFacts_of (QP.mp e).2) (by ac_nf) Jv (by decide+kernel) ⟨rfl,rfl,rfl,rfl,rfl,by decide+kernel⟩ (by w_witness2) ?_;exact Hd.K9 (k:=32) (by ac_nf) (by ac_nf) ⟨rfl,by decide,by decide⟩ fun w s₀ mg mb h G Y=>Mi.all_mk G.T Y Mi.law_true
