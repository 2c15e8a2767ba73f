import PyProof.Rows.All
import Wide.All
import OpenK.AllK
import Wide.FinOn
import Lean
import PyProof.EqAt
import PyProof.EqKinds
import PyProof.TupleCall
import PyProof.AttrMissHeap
import KE.KDictOf
import PyProof.ConsumeWalk
import PyProof.ZipIter
import PyProof.EnumMake
import KE.KEqDict
import KE.KDictList
import KE.KDictSum
import KE.KIsAll
import KE.KItemsList
import KE.KLam
import KE.KSortTup
import PyProof.CallStr
import PyProof.CollectIter
import PyProof.DictFindH
import PyProof.DictRoadsH
import PyProof.ExcArgsOwn
import PyProof.ExcAttrAll.ValueError
import PyProof.ExcBaseAll.ValueError
import PyProof.ExcClass3
import PyProof.FString
import PyProof.FString5
import PyProof.FactsAll.tuple_2
import PyProof.FactsAll.zip_1
import PyProof.ListMulRoad
import PyProof.ListRange
import PyProof.MeetsStr
import PyProof.NeKinds
import PyProof.P3Eq
import PyProof.RaisesMany
import PyProof.Rows.CatchOwn
import PyProof.Rows.OwnQ
import PyProof.Rows.Range3
import PyProof.Rows.ReprOcc
import PyProof.Rows.RuleDivmod
import PyProof.Rows.SortShell
import PyProof.Rows.StrWeight2
import PyProof.Rows.Top
import PyProof.Rows.TopTwo
import PyProof.RulesAs
import PyProof.RulesDel
import PyProof.RulesTry
import PyProof.StationsW
import PyProof.StrCalls2
import PyProof.StrCalls5
import PyProof.StrWalks
import PyProof.WalksMore
import PySem.Challenge.RW_neverstuck_k70_locks_taken_out
set_option Elab.async false
set_option linter.all false
set_option maxRecDepth 100000
set_option maxHeartbeats 4000000
set_option compiler.small 0
set_option compiler.extract_closed false
set_option compiler.reuse false
noncomputable section
local macro_rules | `(tactic| ac_nf) => `(tactic| kernel_rfl)
local macro_rules | `(tactic| nofun) => `(tactic| walk_at "r")
abbrev Qb:=@List.length_map
abbrev Qc:=@List.getElem?_eq_some_iff
abbrev Qd:=@List.mem_of_getElem?
abbrev Qe:=@PySem.wpAny_bind
abbrev Qf:=@if_pos
abbrev Qg:=@Nat.le_refl
abbrev Qh:=@List.mem_cons_self
abbrev Qi:=@List.mem_cons_of_mem
abbrev Qj:=@List.length_cons
abbrev Qk:=@List.length_append
abbrev Ql:=@List.mem_cons
abbrev Qm:=@PySem.Heap.get?_push_of_some
abbrev Qo:=@if_neg
abbrev Qp:=@List.map_cons
abbrev Qq:=@List.mem_append_right
abbrev Qr:=@Nat.le_trans
abbrev Qs:=@List.map_append
abbrev Qt:=@List.getElem?_append_left
abbrev Qu:=@List.size_toArray
abbrev Qv:=@List.getElem?_append_right
abbrev Qw:=@List.mem_singleton
abbrev Qx:=@List.getElem?_map
abbrev Qy:=@List.mem_append
abbrev Qz:=@PySem.Heap.lt_size
abbrev QA:=@List.getElem?_eq_getElem
abbrev QB:=@List.length_take
abbrev QC:=@PySem.wpAny_pure
abbrev QD:=@Option.map_eq_some_iff
abbrev QE:=@Bool.and_eq_true_iff
abbrev QF:=@Nat.lt_of_lt_of_le
abbrev QG:=@List.append_assoc
abbrev QH:=@List.mem_append_left
abbrev QI:=@PySem.Heap.get?_push_size
abbrev QJ:=@Nat.ne_of_lt
abbrev QK:=@Nat.le_add_right
abbrev QL:=@List.cons_append
abbrev QM:=@Option.bind_some
abbrev QN:=@Bool.and_eq_true
abbrev QO:=@List.length_range
abbrev QP:=@decide_eq_true
abbrev QQ:=@List.getElem?_take_of_lt
abbrev QR:=@List.getElem?_set_self
abbrev QS:=@beq_self_eq_true
abbrev QT:=@PySem.mem_of_lookup
abbrev QU:=@Option.map_some
abbrev QV:=@PySem.Str.length_append
abbrev QW:=@List.lookup_cons
abbrev QX:=@List.getElem?_set_ne
abbrev QY:=@decide_eq_true_eq
abbrev QZ:=@decide_eq_false
abbrev Q0:=@PySem.PassesOwn.never
abbrev Q1:=@Nat.zero_add
abbrev Q2:=@List.mem_map
abbrev Q3:=@List.sum_cons
abbrev Q4:=@PySem.wpAny_mono
abbrev Q5:=@PyProof.Rows.slot_tuple_getitem
abbrev Q6:=@List.append_nil
abbrev Q7:=@List.getElem?_eq_none
abbrev Q8:=@of_decide_eq_true
abbrev Q9:=@List.take_length
abbrev Ra:=@List.map_map
abbrev Rb:=@List.take_append_drop
abbrev Rf:=@List.length_set
abbrev Rg:=@PySem.F.plainAttrs_list
abbrev Rh:=@PyProof.Rows.callWith_type1
abbrev Ri:=@List.filterMap_cons
abbrev Rj:=@List.nil_append
abbrev Rk:=@Int.emod_nonneg
abbrev Rl:=@Nat.lt_of_le_of_lt
abbrev Rm:=@PySem.wpAny_field
abbrev Ro:=@Int.le_trans
abbrev Rp:=@PySem.W.hideAll_none
abbrev Rq:=@List.getElem?_cons_succ
abbrev Rr:=@Int.eq_ofNat_of_zero_le
abbrev Rt:=@beq_iff_eq
abbrev Ru:=@List.replicate_succ
abbrev Rv:=@PySem.F.plainAttrs_str
abbrev Rw:=@List.drop_of_length_le
abbrev Rx:=@PySem.wpAny_newObj_type
abbrev Ry:=@PySem.wpAny_callSpecial?_slot
abbrev Rz:=@Nat.add_assoc
abbrev RA:=@Nat.le_of_not_lt
abbrev RB:=@List.mem_filterMap
abbrev RC:=@Int.emod_lt_of_pos
abbrev RD:=@List.mem_iff_getElem?
abbrev RE:=@PySem.wpAny_execs_cons
abbrev RG:=@Nat.min_eq_left
abbrev RH:=@List.sum_append
abbrev RI:=@List.length_nil
abbrev RJ:=@Bool.or_eq_true
abbrev RK:=@Bool.eq_iff_iff
abbrev RL:=@PySem.wpAny_Call_Name_kw
abbrev RM:=@Ne.symm
abbrev RN:=@Nat.le_succ
abbrev RO:=@List.flatten_cons
abbrev RP:=@Option.isSome_iff_exists
abbrev RQ:=@List.mem_range
abbrev RS:=@List.length_drop
abbrev RT:=@List.filter_cons
abbrev RU:=@List.all_eq_true
abbrev RV:=@Nat.zero_le
abbrev RW:=@Nat.le_of_lt
abbrev RX:=@List.take_of_length_le
abbrev RY:=@List.map_nil
abbrev RZ:=@List.length_eq_one_iff
abbrev R3:=@Int.lt_of_le_of_lt
abbrev R6:=@Bool.false_ne_true
abbrev R7:=@PySem.wpAny_call_entry
abbrev R8:=@List.find?_cons
abbrev R9:=@List.any_cons
abbrev Sa:=@PySem.F.slot_dict_get
abbrev Sd:=@List.set_append_right
abbrev Se:=@List.reverse_cons
abbrev Sf:=@PySem.tupleKind_room_in1
abbrev Si:=@List.forall_mem_cons
abbrev Sj:=@PySem.F.slot_enumerate_next
abbrev Sk:=@Nat.sub_self
abbrev Sl:=@List.drop_append
abbrev Sn:=@beq_eq_false_iff_ne
abbrev So:=@List.mem_map_of_mem
abbrev Sq:=@Array.length_toList
abbrev Sr:=@PySem.sizeLine_eq
abbrev Ss:=@PySem.call_meets
abbrev Su:=@PySem.F.slot_tuple_iterator_next
abbrev Sv:=@Nat.lt_irrefl
abbrev Sw:=@Nat.max_le
abbrev Sx:=@Option.bind_eq_some_iff
abbrev Sy:=@PySem.F.slot_str_split
abbrev Sz:=@PySem.SeqAt.eqAt_reads
abbrev SD:=@PySem.F.slot_list_append
abbrev SF:=@PySem.F.entry_dict_get
abbrev SH:=@Nat.le_of_lt_succ
abbrev SJ:=@List.take_left
abbrev SK:=@List.take_add_one
abbrev SN:=@Int.toNat_natCast
abbrev SO:=@PySem.wpAny_execs_nil
abbrev SR:=@PySem.wpAny_getItem_str_slice
abbrev SU:=@PySem.F.type_str_join
abbrev SV:=@PySem.F.slot_str_join
abbrev SX:=@Nat.succ_le_succ
abbrev SY:=@PySem.wpAny_truthy_bool
abbrev S8:=@List.take_append_of_le_length
abbrev S9:=@Array.mem_toList_iff
abbrev Ta:=@PySem.W.hideAll_get
abbrev Tb:=@Int.toNat_of_nonneg
abbrev Tc:=@Array.toList_append
abbrev Td:=@PySem.wpAny_holding
abbrev Te:=@PySem.W.of_hideAll
abbrev Tf:=@PySem.F.excBase_ValueError
abbrev Tg:=@List.filterMap_map
abbrev Th:=@Array.getElem?_eq_some_iff
abbrev Ti:=@PySem.wpAny_passesOwn
abbrev Tj:=@if_true
abbrev Tn:=@List.flatMap_cons
abbrev To:=@PySem.F.type_list_append
abbrev Tp:=@PySem.F.args_tuple_add_2
abbrev Tq:=@List.length_filterMap_le
abbrev Tr:=@PySem.wpAny_pyIter_tuple
abbrev Ts:=@PySem.F.entry_tuple_add
abbrev Tt:=@PySem.F.slot_tuple_add
abbrev Tu:=@PyProof.Rows.split_pos
abbrev Tv:=@Nat.ne_of_gt
abbrev Tw:=@Int.ofNat_lt
abbrev Tx:=@Nat.not_lt_zero
abbrev Tz:=@Nat.min_le_left
abbrev TB:=@List.nodup_cons
abbrev TC:=@PySem.wpAny_standAt
abbrev TF:=@PySem.F.slot_list_extend
abbrev TH:=@List.length_singleton
abbrev TJ:=@List.mem_of_mem_take
abbrev TL:=@List.getElem?_of_mem
abbrev TN:=@ne_true_of_eq_false
abbrev TQ:=@PySem.wpAny_Name
abbrev TR:=@PySem.typeIs_str
abbrev TU:=@PySem.codeAny_mono
abbrev TV:=@List.length_reverse
abbrev TX:=@List.flatMap_append
abbrev TY:=@PySem.post_val_or_str
abbrev TZ:=@List.map_take
abbrev T8:=@of_decide_eq_false
abbrev T9:=@List.getElem_range
abbrev Ua:=@PySem.Heap.size_push
abbrev Ub:=@Option.isSome_map
abbrev Uc:=@Nat.lt_trans
abbrev Ud:=@Nat.le_succ_of_le
abbrev Ue:=@Nat.add_left_comm
abbrev Ug:=@Nat.add_comm
abbrev Uh:=@List.take_sublist
abbrev Ui:=@List.nodup_append
abbrev Uj:=@List.not_mem_nil
abbrev Uk:=@PySem.wpAny_attempt
abbrev Ul:=@PySem.wpAny_rule
abbrev Um:=@PySem.F.args_str_split_2
abbrev Uo:=@PySem.Calls.spliced_cons
abbrev Up:=@List.of_mem_zip
abbrev Uq:=@PySem.wpAny_loadPart_at
abbrev Ur:=@PySem.call_meetsIn
abbrev Us:=@PySem.F.entry_str_split
abbrev Ut:=@PySem.Calls.spliced_nil
abbrev Uu:=@List.take_succ
abbrev Uv:=@List.drop_zero
abbrev Uw:=@PySem.F.slot_dict_getitem
abbrev Ux:=@List.mem_of_find?_eq_some
abbrev Uy:=@List.drop_eq_getElem_cons
abbrev Uz:=@PySem.noFill_tuple_add
abbrev UA:=@PySem.F.type_list_extend
abbrev UB:=@List.map_drop
abbrev UC:=@List.Perm.eq_of_pairwise
abbrev UD:=@decide_eq_false_iff_not
abbrev UE:=@PySem.F.slot_list_index
abbrev UG:=@PySem.F.slot_list_count
abbrev UH:=@PySem.F.args_dict_get_3
abbrev UI:=@PySem.F.args_dict_get_2
abbrev UJ:=@Option.join_eq_some_iff
abbrev UK:=@List.pairwise_mergeSort
abbrev UL:=@List.getElem?_replicate
abbrev UM:=@PySem.W.cellsFrom_some
abbrev UN:=@PySem.F.type_str_split
abbrev UO:=@PySem.F.args_tuple_iterator_next_1
abbrev UP:=@Nat.lt_of_succ_lt_succ
abbrev UQ:=@Nat.le_of_eq
abbrev UR:=@Nat.add_zero
abbrev US:=@Int.ediv_one
abbrev UT:=@PySem.F.entry_tuple_iterator_next
abbrev UU:=@PyProof.Rows.assignInOrder_cons
abbrev UW:=@List.filterMap_eq_map
abbrev UX:=@Array.mem_of_getElem?
abbrev UY:=@if_false
abbrev UZ:=@PySem.wpAny_newFunctionEnv_cells
abbrev U0:=@PySem.wpAny_bindName
abbrev U1:=@PySem.Calls.Name_function_global
abbrev U2:=@Nat.pow_le_pow_right
abbrev U3:=@List.length_dropLast
abbrev U4:=@List.mergeSort_perm
abbrev U5:=@List.map_congr_left
abbrev U6:=@PySem.wpAny_comprehension_free
abbrev U7:=@PySem.seq_tuple_add
abbrev U8:=@PySem.W.callWith_K
abbrev U9:=@List.pairwise_cons
abbrev Va:=@List.findIdx?_cons
abbrev Vb:=@List.filter_append
abbrev Vc:=@Array.all_eq_true'
abbrev Vd:=@PySem.F.args_enumerate_next_1
abbrev Ve:=@List.map_inj_left
abbrev Vf:=@List.getElem?_inj
abbrev Vg:=@List.ext_getElem?
abbrev Vh:=@Bool.not_eq_true'
abbrev Vi:=@Array.isEmpty_iff
set_option hygiene false
set_option hygiene true
abbrev FR:=PySem.W.Frag
namespace Hd
open PySem PySem.W PySem.Spec PyProof.Rows
noncomputable def Av:List Value->Option (List Int)
 | []=>some []
 | .int i _::r=>(Av r).map λis=>i::is
 | _=>none
noncomputable def AI(v:Value)(t:String):Bool:=match v with
 | .type s=>decide (s=t)
 | _=>false
noncomputable def rowAt(h:Heap)(e:DictEntry):Option (Str×Int×List Int):=match e.key with
 | .str x _=>match e.val with
  | .ref t=>match h.get? t with
   | some u=>if AI u.cls "tuple"&&u.dict.isNone then(match u.data with
     | .seq its _=>if its.size<=100 then(Av its.toList).map λis=>(x,e.hash,is) else none
     | _=>none) else none
   | none=>none
  | _=>none
 | _=>none
noncomputable def kQ(h:Heap):List DictEntry->Option (List (Str×Int×List Int))
 | []=>some []
 | e::r=>(rowAt h e).bind λx=>(kQ h r).map λxs=>x::xs
noncomputable def tabAt(h:Heap)(nm:Str):Option (List (Str×Int×List Int)):=match h.nsMap mainGlobals nm with
 | some (.ref a)=>if a==sysModules then none else(match h.get? a with
  | some o=>if AI o.cls "dict"&&o.dict.isNone&&decide (o.slots=#[]) then(match o.data with
    | .dict es _=>kQ h es.toList
    | _=>none) else none
  | none=>none)
 | _=>none
noncomputable def uq(h:Heap)(ns:Addr)(name:Str):Option (Option Value):=match h.get? ns with
 | some ⟨_,_,.dict es _,_⟩=>(match es.toList.find? (·.key.isStr name) with
   | some e=>some (some e.val)
   | none=>if es.toList.any (·.refKey) then none else some none)
 | _=>none
noncomputable def jw(h:Heap)(name:Str):Value->Option (Option Value)
 | .type n=>some (fastBuiltinOwn n name)
 | .ref a=>(match h.get? a with
   | some ⟨_,_,.cls cd,_⟩=>uq h cd.ns name
   | _=>none)
 | _=>some none
noncomputable def cA(h:Heap)(name:Str):List Value->Option (Option Value)
 | []=>some none
 | c::r=>match jw h name c with
  | some (some v)=>some (some v)
  | some none=>cA h name r
  | none=>none
noncomputable def clsAt(h:Heap)(c:Str):Option (Addr×ClassData):=match h.nsMap mainGlobals c with
 | some (.ref C)=>match h.get? C with
  | some ⟨.type "type",_,.cls cd,_⟩=>some (C,cd)
  | _=>none
 | _=>none
noncomputable def isAt(h:Heap)(cd:ClassData)(n:Str):Option Bool:=(clsAt h n).map λp=>cd.mro.contains (.ref p.1)
noncomputable def kG(h:Heap)(ns:List Str)(c:Str):Option (List (Option Bool)):=(clsAt h c).bind λp=>
 if(cA h "__getattribute__" p.2.mro==some (some (.builtin "BaseException.__getattribute__"))&&cA h "__getattr__" p.2.mro==some none&&cA h "__class__" p.2.mro==some (some (.builtin "object.__class__"))&&
  p.2.mro.contains (.type "object")&&p.2.mro.contains (.type "BaseException")&&p.2.mro.contains (.type "ValueError")&&p.2.mro.contains (.ref p.1))=true then some (ns.map (isAt h p.2)) else none
noncomputable def pV(h:Heap)(cs ns:List Str):List (Option (List (Option Bool))):=cs.map (kG h ns)
theorem GN(row:String)(h0:∀w:World,(fencedOpening treeTable p w N).map (λs₀=>(topFrom treeTable p (w.withFollow row false) N s₀).map (λs=>(openSeen q loose (importedModules p.main.body) Xt true s,Yf s)))=some (some (openGood q loose,Ya (w.withFollow row false))))(h1:∀w:World,(fencedOpening treeTable p w N).map (λs₀=>(topFrom treeTable p (w.withFollow row true) N s₀).map (λs=>(openSeen q loose (importedModules p.main.body) Xt true s,Yf s)))=some (some (openGood q loose,Ya (w.withFollow row true)))):LeftO p q loose Xt Yf Ya N true:=λw=>by
 obtain⟨s₀,a,b0⟩:=QD.mp (h0 w);obtain⟨s₁,a1,b1⟩:=QD.mp (h1 w);have e:=World.withFollow_self w row;unfold openEnds;cases hb:w.params.followText row <;> rw[hb] at e
 ·rw[a];rw[e] at b0;exact b0
 ·rw[a1];rw[e] at b1;exact b1
end Hd
namespace Mi
open PySem
abbrev pw:Program:=PySem.Challenge.pw_neverstuck_k70_locks_taken_out
noncomputable def top(i:Nat):Stmt:=pw.main.body.getD i (.Pass ⟨0,0,0,0⟩)
noncomputable def eQ:List (Str×List Int):=[("say",[2,0]),("call",[3,0]),("within",[2,1]),("all",[2,1]),("ask",[2,2]),("by",[3,3]),("either",[1,2]),("again",[1,1])]
noncomputable def gA:List (Str×List Str):=[("NoRow",["NoRow","StuckError","ValueError"])]
noncomputable def pQ:List Str:=["StuckError","NoStep","NoRow","NoLock","NoText","NoLine"]
noncomputable def uL:List Str:=["NoRow"]
noncomputable def view:Program:={pw with main:={pw.main with body:=[top 1,top 2,top 3,top 4,top 5,top 6,top 8,top 9,top 10,top 11,top 12,top 13,top 15,top 16,top 18,top 19,top 20,top 21,top 22,top 24,top 25,top 26,top 27,top 28,top 29,top 30,top 31,top 32,top 33,top 34,top 35,top 36,top 37,top 38,top 39,top 40,top 41,top 42,top 43,top 44,top 45,top 46,top 47,top 48,top 49,top 50,top 51]}}
end Mi
local macro_rules | `(tactic| walk_at "s") => `(tactic| exact⟨rfl, rfl, rfl, by decide +kernel, rfl, by decide +kernel, by decide +kernel⟩)
namespace Mi
open PySem PySem.W PyProof.Rows
abbrev ext:List (Option (List (Option Bool))):=gA.map λp=>some (pQ.map λn=>some (decide (n∈p.2)))
abbrev ya(w:World):=(some (eQ.map λx:Str×List Int=>(x.1,hashStr w x.1,x.2)),ext)
abbrev Xt:Shared->Bool:=λs=>xlAt view [] s&&recOk (RowW.records (OpenRow.toRowW PySem.Challenge.rw_neverstuck_k70_locks_taken_out.row)) s
abbrev Yf:Shared->Option (List (Str×Int×List Int))×List (Option (List (Option Bool))):=λs=>(Hd.tabAt s.heap "SHAPES",Hd.pV s.heap (gA.map (·.1)) pQ)
theorem MR(w:World):(fencedOpening treeTable pw w 20000).map (λs₀=>(topFrom treeTable pw (w.withFollow "special-get-raises" false) 20000 s₀).map (λs=>(openSeen view (["SHAPES"]:List Str) (importedModules pw.main.body) Xt true s,Yf s)))=some (some (openGood view (["SHAPES"]:List Str),(ya) (w.withFollow "special-get-raises" false))):=by ac_nf
theorem MQ(w:World):(fencedOpening treeTable pw w 20000).map (λs₀=>(topFrom treeTable pw (w.withFollow "special-get-raises" true) 20000 s₀).map (λs=>(openSeen view (["SHAPES"]:List Str) (importedModules pw.main.body) Xt true s,Yf s)))=some (some (openGood view (["SHAPES"]:List Str),(ya) (w.withFollow "special-get-raises" true))):=by ac_nf
theorem left:LeftO pw view (["SHAPES"]:List Str) Xt Yf (ya) 20000:=Hd.GN "special-get-raises" MR MQ
theorem IV:PySem.Challenge.rw_neverstuck_k70_locks_taken_out.wellSaid=true:=by
 unfold OpenLaw.wellSaid
 repeat(with_reducible refine look_both ?_ (by decide+kernel))
 unfold OpenRow.wellSaid
 repeat(with_reducible refine look_both ?_ (by decide+kernel))
 unfold OpenRow.partSaid
 repeat(with_reducible refine look_both ?_ (by decide+kernel))
 unfold looksOpen
 repeat(with_reducible refine look_both ?_ (by decide+kernel))
 decide+kernel
end Mi
theorem bW{α:Type}{p:α}{C:Prop}(h:none=some p):C:=nomatch h
namespace L2
open PySem PySem.Spec PyProof.Rows
abbrev Key:=Sum Int Str
noncomputable def uC:Key->Value->Bool
 | .inl k,v=>Value.isInt k v
 | .inr x,v=>Value.isStrOf x v
noncomputable def Kk(w:World):Key->Int
 | .inl k=>hashInt k
 | .inr x=>hashStr w x
theorem ck:∀{k:Key} {v:Value},uC k v=true->(∃i t,k=Sum.inl i/\v=Value.int i t)\/(∃x t,k=Sum.inr x/\v=Value.str x t)
 | .inl i,v,h=>by
  obtain⟨t,e⟩:=Value.isInt_shape (k:=i) (v:=v) h;exact .inl ⟨i,t,rfl,e⟩
 | .inr x,v,h=>by
  obtain⟨t,e⟩:=Value.isStrOf_shape (x:=x) (v:=v) h;exact .inr ⟨x,t,rfl,e⟩
theorem BL(i:Int)(t:Tok):uC (.inl i) (.int i t)=true:=by simp[uC,Value.isInt]
theorem BK(x:Str)(t:Tok):uC (.inr x) (.str x t)=true:=by simp[uC,Value.isStrOf]
theorem Kj(a b:Int):decide ((Sum.inl a:Key)=Sum.inl b)=(a==b):=by
 by_cases e:a=b
 ·subst e;simp
 ·have h:¬(Sum.inl a:Key)=Sum.inl b:=λq=>e (Sum.inl.inj q);rw[QZ h];exact(Sn.mpr e).symm
theorem Kg(a b:Str):decide ((Sum.inr a:Key)=Sum.inr b)=decide (a=b):=by
 by_cases e:a=b
 ·subst e;simp
 ·have h:¬(Sum.inr a:Key)=Sum.inr b:=λq=>e (Sum.inr.inj q);rw[QZ h,QZ e]
theorem Ki(a:Int)(b:Str):decide ((Sum.inl a:Key)=Sum.inr b)=false:=QZ (λq=>nomatch q)
theorem Kh(a:Str)(b:Int):decide ((Sum.inr a:Key)=Sum.inl b)=false:=QZ (λq=>nomatch q)
noncomputable def bO(prog:Program)(w:World):PySem.KeyKind prog w Key where
 is:=uC
 hash:=Kk w
 inj:=λv a b ha hb=>by
  rcases ck ha with⟨i,t,rfl,rfl⟩ |⟨x,t,rfl,rfl⟩
  ·rcases ck hb with⟨j,u,rfl,e⟩ |⟨y,u,rfl,e⟩
   ·injection e with e1 _;rw[e1]
   ·exact nomatch e
  ·rcases ck hb with⟨j,u,rfl,e⟩ |⟨y,u,rfl,e⟩
   ·exact nomatch e
   ·injection e with e1 _;rw[e1]
 byValue:=λk v h=>by
  rcases ck h with⟨i,t,rfl,rfl⟩ |⟨x,t,rfl,rfl⟩ <;> rfl
 pyHash:=λhv h=>by
  rcases ck hv with⟨i,t,rfl,rfl⟩ |⟨x,t,rfl,rfl⟩
  ·exact wpAny_pyHash_int h
  ·exact wpAny_pyHash_str h
 eqBool:=λhu hv h=>by
  rcases ck hu with⟨i,t,rfl,rfl⟩ |⟨x,t,rfl,rfl⟩
  ·rcases ck hv with⟨j,u,rfl,rfl⟩ |⟨y,u,rfl,rfl⟩
   ·rw[Kj] at h;exact wpAny_eqBool_int h
   ·rw[Ki] at h;exact SeqAt.EqAt.int_str i t y u _ _ _ _ h
  ·rcases ck hv with⟨j,u,rfl,rfl⟩ |⟨y,u,rfl,rfl⟩
   ·rw[Kh] at h;exact SeqAt.EqAt.str_int x t j u _ _ _ _ h
   ·rw[Kg] at h;exact wpAny_eqBool_str h
 «strs»:=λk x t v h=>by
  rcases ck h with⟨i,u,rfl,e⟩ |⟨y,u,rfl,e⟩
  ·exact nomatch e
  ·injection e with e1 _
   subst e1;cases v <;> rfl
theorem xN(prog:Program)(w:World)(i:Int)(t:Tok):(bO prog w).is (.inl i) (.int i t)=true:=BL i t
theorem xM(prog:Program)(w:World)(x:Str)(t:Tok):(bO prog w).is (.inr x) (.str x t)=true:=BK x t
inductive V where
 | cu | bl (b:Bool) | int (i:Int) | str (x:Str) | byt (b:Array UInt8) | flt (b:UInt64) | ref (a:Addr) | ty (n:String)
 deriving DecidableEq
def RelV:V->Value->Prop
 | .cu,u=>u=Value.none
 | .bl b,u=>u=Value.bool b
 | .int i,u=>∃t,u=Value.int i t
 | .str x,u=>∃t,u=Value.str x t
 | .byt b,u=>∃t,u=Value.bytes b t
 | .flt b,u=>∃t,u=Value.float b t
 | .ref a,u=>u=Value.ref a
 | .ty n,u=>u=Value.type n
abbrev Vals:List V->List Value->Prop:=Paired RelV
theorem Vals.length(r:Vals xs us):xs.length=us.length:=Paired.length r
theorem Vals.get:∀{xs:List V} {us:List Value} {i:Nat} {x:V},Vals xs us->xs[i]?=some x->∃u,us[i]?=some u/\RelV x u
 | _,_,_,_,.nil,e=>by simp at e
 | _,_,0,_,.cons r _,e=>by simp at e;subst e;exact⟨_,rfl,r⟩
 | _,_,i+1,x,.cons _ t,e=>by
  obtain⟨u,h1,h2⟩:=Vals.get (i:=i) (x:=x) t (by simpa using e);exact⟨u,by simpa using h1,h2⟩
theorem Vals.set(r:RelV x u):∀{xs:List V} {us:List Value} (i:Nat),Vals xs us->Vals (xs.set i x) (us.set i u)
 | _,_,_,.nil=>.nil
 | _,_,0,.cons _ t=>.cons r t
 | _,_,i+1,.cons q t=>.cons q (Vals.set r i t)
theorem Vals.append{xs ys:List V}{us ws:List Value}(a:Vals xs us)(s:Vals ys ws):Vals (xs++ys) (us++ws):=by
 induction a with
 | nil=>exact s
 | cons r t ih=>exact .cons r ih
theorem Vals.take:∀{xs:List V} {us:List Value} (n:Nat),Vals xs us->Vals (xs.take n) (us.take n)
 | _,_,0,_=>.nil
 | _,_,_+1,.nil=>.nil
 | _,_,n+1,.cons r t=>.cons r (Vals.take n t)
theorem Vals.drop:∀{xs:List V} {us:List Value} (n:Nat),Vals xs us->Vals (xs.drop n) (us.drop n)
 | _,_,0,r=>r
 | _,_,_+1,.nil=>.nil
 | _,_,n+1,.cons _ t=>Vals.drop n t
def pY:Option V->Option Value->Prop
 | some v,some u=>RelV v u
 | none,none=>True
 | _,_=>False
def KV{κ:Type}:List (κ×V)->List (κ×Value)->Prop:=Paired λ(p:κ×V)(q:κ×Value)=>p.1=q.1/\RelV p.2 q.2
noncomputable def kV:Key->V
 | .inl i=>.int i
 | .inr x=>.str x
inductive HO where
 | lst (xs:List V)
 | tup (xs:List V)
 | dK (kvs:List (Key×V)) | dT (kvs:List (List Key×V))
 | set (S:Int->Bool) (n:Nat)
 | ins (C dx:Addr) (fs:List (Str×V))
 | own (x:Addr)
 | xd (fs:List (Str×V))
 | met (f x:Addr)
 | yA (lo hi:Int)
 | pq (o:Obj) (u:HO)
 | Hv (ps:Array Value)
 | ext (φ:Heap->Prop)
 | AB (φ:World->Heap->Prop)
 | tb
abbrev Hp:=Addr->Option HO
noncomputable def upd(H:Hp)(a:Addr)(o:HO):Hp:=λb=>if b=a then some o else H b
theorem aO:upd H a o a=some o:=by unfold upd;rw[Qf rfl]
theorem av(h:b≠a):upd H a o b=H b:=by unfold upd;rw[Qo h]
theorem MA{H:Hp}{a b:Addr}{o u:HO}(h:H a=some o)(h':H b=some u)(d:o≠u):a≠b:=by
 intro e;subst e;rw[h] at h';exact d (Option.some.inj h')
theorem aH{H:Hp}{a b:Addr}{o:HO}(h:H a=some o)(h':H b=none):a≠b:=by
 intro e;subst e;rw[h] at h';cases h'
def yw(h:Heap)(a:Addr)(items:Array Value):Prop:=∃o,h.get? a=some o/\o.cls=.type "tuple"/\(∃n,o.data=.seq items n)/\o.dict=none
theorem yw.tup(x:yw h a items):IsTup h a items:=let⟨o,e,c,d,_⟩:=x;⟨o,e,c,d⟩
theorem yw.new(h:Heap)(items:Array Value):yw (h.push {cls:=.type "tuple",data:=.seq items}) h.objs.size items:=⟨_,QI _ rfl,rfl,⟨_,rfl⟩,rfl⟩
section
variable (P:Program) (w:World)
def cf(H:Hp)(h:Heap)(a:Addr):HO->Prop
 | .lst xs=>xs.length<=sizeLine/\∃(its:List Value)(n:Nat),Vals xs its/\h.get? a=some {cls:=.type "list",data:=.seq its.toArray n}
 | .tup xs=>xs.length<=sizeLine/\∃its:List Value,Vals xs its/\yw h a its.toArray
 | .dK kvs=>kvs.length<=sizeLine/\(a==sysModules)=false/\∃vs,KV kvs vs/\h.DictOf (bO P w) a vs
 | .dT kvs=>kvs.length<=sizeLine/\(a==sysModules)=false/\∃xs:List (List Key×Addr×Value),
   Paired (λ(p:List Key×V)(q:List Key×Addr×Value)=>p.1=q.1/\H q.2.1=some (.tup (p.1.map kV))/\RelV p.2 q.2.2) kvs xs/\
   ∃o es ep,h.get? a=some o/\o.ExactDict/\o.data=.dict es ep/\es.toList=xs.map (entryOfKey (tupleKind (bO P w)))/\(xs.map (·.1)).Nodup
 | .set S n=>h.SetOf (intKind P w) a S n
 | .ins C dx fs=>H dx=some (.own a)/\fs.length<=1000/\dx≠a/\h.get? a=some (PySem.W.instObj C dx)/\
   ∃mA,h.Ns1 dx mA/\(∀f,pY (fs.lookup f) (mA f))/\PySem.Within mA (fs.map (·.1))
 | .own _=>∃o,h.get? a=some o
 | .xd fs=>∃mA,h.Ns1 a mA/\∀f,pY (fs.lookup f) (mA f)
 | .yA lo hi=>∃t u v,h.get? a=some {cls:=.type "range",data:=.fields #[.int lo t,.int hi u,.int 1 v]}
 | .pq o u=>h.get? a=some o/\cf H h a u
 | .Hv ps=>h.get? a=some {cls:=.none,data:=.fields ps}
 | .met f x=>h.get? a=some (PySem.W.methodObj (.ref f) (.ref x))
 | .ext φ=>φ h/\(∃o,h.get? a=some o)/\∀h1 h2:Heap,φ h1->(∀o,h1.get? a=some o->h2.get? a=some o)->φ h2
 | .AB φ=>φ w h/\(∃o,h.get? a=some o)/\∀h1 h2:Heap,φ w h1->(∀o,h1.get? a=some o->h2.get? a=some o)->φ w h2
 | .tb=>∃ps:Array Value,h.get? a=some {cls:=.none,data:=.fields ps}/\TriplesOk ps.toList/\∀pos c,codeAmong pos ps.toList=some c->∃c' oc vs q t,c=.ref c'/\H c'=some (.pq oc (.own a))/\oc.data=.fields vs/\vs[1]?=some (.str q t)
def kh(H:Hp)(h:Heap):Prop:=∀a o,H a=some o->cf P w H h a o
end
theorem cf.lt(x:cf P w H h a o):a < h.objs.size:=by
 cases o with
 | lst xs=>obtain⟨_,_,_,_,e⟩:=x;exact Qz e
 | tup xs=>obtain⟨_,_,_,p⟩:=x;exact p.tup.lt
 | dK kvs=>obtain⟨_,_,_,_,o,_,_,e,_⟩:=x;exact Qz e
 | dT kvs=>obtain⟨_,_,_,_,o,_,_,e,_⟩:=x;exact Qz e
 | set S n=>obtain⟨o,_,_,_,e,_⟩:=x;exact Qz e
 | ins C dx fs=>obtain⟨_,_,_,e,_⟩:=x;exact Qz e
 | own y=>obtain⟨_,e⟩:=x;exact Qz e
 | xd fs=>obtain⟨_,⟨_,_,_,e,_⟩,_⟩:=x;exact Qz e
 | yA lo hi=>obtain⟨_,_,_,e⟩:=x;exact Qz e
 | pq ob u=>obtain⟨e,_⟩:=x;exact Qz e
 | Hv ps=>exact Qz (show h.get? a=some _ from x)
 | met f y=>exact Qz (show h.get? a=some _ from x)
 | ext φ=>obtain⟨_,⟨_,e⟩,_⟩:=x;exact Qz e
 | AB φ=>obtain⟨_,⟨_,e⟩,_⟩:=x;exact Qz e
 | tb=>obtain⟨_,e,_⟩:=x;exact Qz e
theorem Paired.MC{α β:Type}{F G:α->β->Prop}{l₁:List α}{l₂:List β}(a:Paired F l₁ l₂)(f:∀a b,F a b->G a b):Paired G l₁ l₂:=by
 induction a with
 | nil=>exact .nil
 | cons r t ih=>exact .cons (f _ _ r) ih
theorem cf.nJ(x:cf P w H h a o)(k:∀b u,(b=a\/H b=some (.own a))->h.get? b=some u->h'.get? b=some u)
  (ho:∀b,H b=some (.own a)->H' b=some (.own a)) (ht:∀b xs,H b=some (.tup xs)->H' b=some (.tup xs)) (hf:∀b o,H b=some (.pq o (.own a))->H' b=some (.pq o (.own a)):=by exactλ_ _ q=>q):cf P w H' h' a o:=by
 induction o with
 | lst xs=>obtain⟨z,its,n,r,e⟩:=x;exact⟨z,its,n,r,k _ _ (.inl rfl) e⟩
 | tup xs=>obtain⟨z,its,r,ob,e,c⟩:=x;exact⟨z,its,r,ob,k _ _ (.inl rfl) e,c⟩
 | dK kvs=>obtain⟨z,y,vs,r,ob,es,ep,e,c⟩:=x;exact⟨z,y,vs,r,ob,es,ep,k _ _ (.inl rfl) e,c⟩
 | dT kvs=>
  obtain⟨z,y,xs,r,ob,es,ep,e,c⟩:=x;exact⟨z,y,xs,Paired.MC r λp q z=>⟨z.1,ht _ _ z.2.1,z.2.2⟩,ob,es,ep,k _ _ (.inl rfl) e,c⟩
 | set S n=>obtain⟨ob,es,ep,t,e,c⟩:=x;exact⟨ob,es,ep,t,k _ _ (.inl rfl) e,c⟩
 | ins C dx fs=>
  obtain⟨d,z,ne,e,mA,⟨od,es,ep,e2,c⟩,r⟩:=x;exact⟨ho _ d,z,ne,k _ _ (.inl rfl) e,mA,⟨od,es,ep,k _ _ (.inr d) e2,c⟩,r⟩
 | own y=>obtain⟨ob,e⟩:=x;exact⟨ob,k _ _ (.inl rfl) e⟩
 | xd fs=>obtain⟨mA,⟨od,es,ep,e,c⟩,r⟩:=x;exact⟨mA,⟨od,es,ep,k _ _ (.inl rfl) e,c⟩,r⟩
 | yA lo hi=>obtain⟨t,u,v,e⟩:=x;exact⟨t,u,v,k _ _ (.inl rfl) e⟩
 | pq ob u ih=>obtain⟨e,q⟩:=x;exact⟨k _ _ (.inl rfl) e,ih q⟩
 | Hv ps=>
  have e:h.get? a=some {cls:=.none,data:=.fields ps}:=x;show h'.get? a=some {cls:=.none,data:=.fields ps};exact k a _ (.inl rfl) e
 | met f y=>
  have e:h.get? a=some (PySem.W.methodObj (.ref f) (.ref y)):=x;show h'.get? a=some (PySem.W.methodObj (.ref f) (.ref y));exact k a _ (.inl rfl) e
 | ext φ=>obtain⟨p,⟨o,e⟩,st⟩:=x;exact⟨st _ _ p λo q=>k _ _ (.inl rfl) q,⟨o,k _ _ (.inl rfl) e⟩,st⟩
 | AB φ=>obtain⟨p,⟨o,e⟩,st⟩:=x;exact⟨st _ _ p λo q=>k _ _ (.inl rfl) q,⟨o,k _ _ (.inl rfl) e⟩,st⟩
 | tb=>
  obtain⟨ps,e,t,f⟩:=x;exact⟨ps,k _ _ (.inl rfl) e,t,λpos c ec=>let⟨c',oc,vs,q,tk,e1,e2,r⟩:=f pos c ec;⟨c',oc,vs,q,tk,e1,hf _ _ e2,r⟩⟩
theorem kh.lt(x:kh P w H h)(e:H a=some o):a < h.objs.size:=(x a o e).lt
theorem kh.fresh(x:kh P w H h)(e:h.objs.size<=a):H a=none:=by
 cases q:H a with
 | none=>rfl
 | some u=>exact absurd (QF (x.lt q) e) (Sv _)
theorem kh.kept(x:kh P w H h)(k:∀b u,h.get? b=some u->h'.get? b=some u):kh P w H h':=λa o e=>
 (x a o e).nJ (λb u _ q=>k b u q) (λ_ q=>q) λ_ _ q=>q
theorem kh.laid(x:kh P w H h)(k:∀b u,h.get? b=some u->h'.get? b=some u)(hp:h.objs.size<=a)(new:cf P w (upd H a o) h' a o):kh P w (upd H a o) h':=λb u e=>by
 have hn:=x.fresh hp
 by_cases hb:b=a
 ·subst hb;rw[aO] at e;cases e;exact new
 ·rw[av hb] at e;exact(x b u e).nJ (λc v _ q=>k c v q) (λc q=>by rw[av (aH q hn)];exact q) (λc xs q=>by rw[av (aH q hn)];exact q) λc xs q=>by rw[av (aH q hn)];exact q
def Rd(H:Hp)(a:Addr)(u:HO):Prop:=H a=some u\/∃o,H a=some (.pq o u)
theorem Rd.ok(r:Rd H a u)(x:kh P w H h):cf P w H h a u:=by
 rcases r with r |⟨o,r⟩
 ·exact x a u r
 ·obtain⟨_,q⟩:=x a _ r;exact q
def Nz:Option HO->Prop
 | some (.lst _)=>True
 | some (.dK _)=>True
 | some (.dT _)=>True
 | some (.set _ _)=>True
 | some (.ins _ _ _)=>True
 | some (.ext _)=>True
 | some (.AB _)=>True
 | _=>False
theorem kh.write(ok:kh P w H h)(mu:Nz (H x))(he:e=x\/H e=some (.own x))(k:∀b u,b≠e->h.get? b=some u->h'.get? b=some u)(heo:∃u,h'.get? e=some u)
  (new:cf P w (upd H x o') h' x o'):kh P w (upd H x o') h':=λb u q=>by
 have nown:∀c y,H c=some (.own y)->c≠x:=λc y r z=>by subst z;rw[r] at mu;exact mu
 have ntup:∀c xs,H c=some (.tup xs)->c≠x:=λc xs r z=>by subst z;rw[r] at mu;exact mu
 by_cases hb:b=x
 ·subst hb;rw[aO] at q;cases q;exact new
 ·rw[av hb] at q
  by_cases hbe:b=e
  ·have q':H b=some (.own x):=by
    rcases he with z | z
    ·exact absurd (hbe.trans z) hb
    ·rw[hbe];exact z
   rw[q] at q';cases q';obtain⟨v,hv⟩:=heo;exact⟨v,by rw[hbe];exact hv⟩
  ·refine(ok b u q).nJ (λc v hc r=>k c v ?_ r) (λc r=>by rw[av (nown c b r)];exact r) (λc xs r=>by rw[av (ntup c xs r)];exact r) λc o r=>by rw[av (λz=>by subst z;rw[r] at mu;exact mu)];exact r
   rcases hc with rfl | hc
   ·exact hbe
   ·rintro rfl;rcases he with z | z
    ·exact nown c b hc z
    ·rw[hc] at z;cases z;exact hb rfl
structure Un(fs ex:List Addr)(H H':Hp)(h h':Heap):Prop where
 keep:∀b o,h.get? b=some o->H b=none->b∉fs->b∉ex->h'.get? b=some o
 slot:∀b o,h.get? b=some o->H b=none->b∈fs->b∉ex->∃sl,h'.get? b=some {o with slots:=sl}
 free:∀b o,h.get? b=some o->H b=none->b∉ex->H' b=none
 there:∀b o,h.get? b=some o->b∉ex->∃o',h'.get? b=some o'
 nD:∀b xs,H b=some (.tup xs)->H' b=some (.tup xs)
 mR:∀b o u,H b=some (.pq o u)->H' b=some (.pq o u)
 nE:∀b ps,H b=some (.Hv ps)->∃more,H' b=some (.Hv (ps++more))
theorem Un.any(u:Un fs ex H H1 h h1)(q:h.get? b=some ob)(n:H b=none)(hx:b∉ex):∃sl,h1.get? b=some {ob with slots:=sl}:=by
 by_cases hb:b∈fs
 ·exact u.slot b ob q n hb hx
 ·exact⟨ob.slots,u.keep b ob q n hb hx⟩
theorem Un.kept(k:∀b u,h.get? b=some u->h'.get? b=some u):Un fs ex H H h h':=
 ⟨λb ob q _ _ _=>k b ob q,λb ob q _ _ _=>⟨ob.slots,k b ob q⟩,λ_ _ _ n _=>n,λb ob q _=>⟨ob,k b ob q⟩,λ_ _ q=>q,λ_ _ _ q=>q,λ_ ps q=>⟨#[],by rw[q];simp⟩⟩
theorem Un.refl:Un fs ex H H h h:=Un.kept λ_ _ q=>q
theorem Un.laid(k:∀b u,h.get? b=some u->h'.get? b=some u)(hp:h.objs.size<=a)(hn:H a=none):Un fs ex H (upd H a o) h h' where
 keep:=λb u q _ _ _=>k b u q
 slot:=λb u q _ _ _=>⟨u.slots,k b u q⟩
 free:=λb u q n _=>by rw[av (QJ (QF (Qz q) hp))];exact n
 there:=λb u q _=>⟨u,k b u q⟩
 nD:=λb xs q=>by rw[av (aH q hn)];exact q
 mR:=λb u xs q=>by rw[av (aH q hn)];exact q
 nE:=λb ps q=>⟨#[],by rw[av (aH q hn),q];simp⟩
theorem Un.write(mu:Nz (H x))(he:e=x\/H e=some (.own x))(k:∀b u,b≠e->h.get? b=some u->h'.get? b=some u)(heo:∃u,h'.get? e=some u):Un fs ex H (upd H x o) h h':=by
 have hx:∀b,H b=none->b≠x:=λb n z=>by subst z;rw[n] at mu;exact mu
 have hb:∀b,H b=none->b≠e:=λb n z=>by
  subst z;rcases he with r | r
  ·exact hx b n r
  ·rw[n] at r;cases r
 have hm:∀b u,H b=some u->¬Nz (some u)->b≠x:=λb u q nm z=>by subst z;rw[q] at mu;exact nm mu
 refine⟨λb u q n _ _=>k b u (hb b n) q,λb u q n _ _=>⟨u.slots,k b u (hb b n) q⟩,λb u q n _=>by rw[av (hx b n)];exact n,λb u q _=>?_,
  λb xs q=>by rw[av (hm b _ q λz=>z)];exact q,λb u xs q=>by rw[av (hm b _ q λz=>z)];exact q,λb ps q=>⟨#[],by rw[av (hm b _ q λz=>z),q];simp⟩⟩
 by_cases hbe:b=e
 ·subst hbe;exact heo
 ·exact⟨u,k b u hbe q⟩
noncomputable def NI(h:Heap)(H:Hp):List Addr:=(List.range h.objs.size).filter λa=>(H a).isSome
noncomputable def wc(h:Heap)(H:Hp):Heap:=PySem.W.hideAll h (NI h H)
theorem BN(h:Heap)(H:Hp):(wc h H).objs.size=h.objs.size:=PySem.W.hideAll_size _ _
theorem Ez(e:h.get? b=some o)(n:H b=none):(wc h H).get? b=some o:=
 Ta _ e λhm=>by
  have q:(H b).isSome=true:=(List.mem_filter.mp hm).2;rw[n] at q;simp at q
theorem GG(e:(wc h H).get? b=some o):h.get? b=some o/\H b=none:=by
 have e':h.get? b=some o:=Te (NI h H) e;refine⟨e',?_⟩;cases q:H b with
 | none=>rfl
 | some x=>
  have hm:b∈NI h H:=List.mem_filter.mpr ⟨RQ.mpr (Qz e'),by simp[q]⟩;have z:(wc h H).get? b=none:=Rp (NI h H) hm;rw[z] at e;cases e
structure Mod(K:FR)(mg:Str->Option Value)(base:Heap):Prop where
 NM:K.In base
 glob:base.Ns mainGlobals mg
 blt:∃mb,base.Ns builtinsNs mb/\∀x:Str,x≠"__name__"->mb x=bootBuiltins x
 nolimit:base.NoLimit
structure Cx where
 prog:Program
 w:World
 K:FR
 mg:Str->Option Value
 base:Heap
 A:Around
 N:List Str
 s₀:Shared
 H₀:Hp
 env:Env
 outer:List Env
 stack:List Env
 ex:List Addr
 fn:Str->Bool
 calm:Bool
 pn:List (Addr×Obj)
 xe:Value->Shared->Prop
noncomputable def j9(l:List Env):List Addr:=l.filterMap (·.frame)
abbrev Cx.fs(X:Cx):List Addr:=j9 X.outer
def K6(sc:Scope)(x:Str):Prop:=sc.names.lookup x=some .local\/sc.names.lookup x=some .cell\/sc.names.lookup x=some .free
def Loc(sc:Scope)(x:Str):Prop:=sc.names.lookup x=some .local\/sc.names.lookup x=some .cell
def Look(env:Env)(h:Heap)(m:Str->Option Value)(x:Str)(u:Value):Prop:=
 (env.kindOf x=some .local/\m x=some u)\/((env.kindOf x=some .cell\/env.kindOf x=some .free)/\∃c,env.cells.lookup x=some c/\h.IsCell c (some u))
structure Cx.Ok(X:Cx):Prop where
 mod:Mod X.K X.mg X.base
 kind:X.env.scope.kind=.function
 glob:X.env.globals=mainGlobals
 blt:X.env.builtins=builtinsNs
 above:X.s₀.heap.objs.size<=X.env.locals
 inj:∀x y c,X.env.cells.lookup x=some c->X.env.cells.lookup y=some c->x=y
 has:∀x,(X.env.kindOf x=some .cell\/X.env.kindOf x=some .free)->∃c,X.env.cells.lookup x=some c
 Lj:∀x c,X.fn x=true->X.env.cells.lookup x=some c->X.s₀.heap.objs.size<=c
 hd:X.calm=true->X.A.handled=none
 frames:X.A.frames=some X.stack
 LQ:X.stack=X.outer\/(X.stack=X.env::X.outer/\X.env.frame=some X.env.locals)
 OX:∀b∈X.ex,b≠X.env.locals/\∀x c,X.env.cells.lookup x=some c->c≠b
 bs:∀b o,X.base.get? b=some o->X.s₀.heap.get? b=some o/\X.H₀ b=none
 Fz:X.base.objs.size<=X.s₀.heap.objs.size
 BB:∀b o,X.base.get? b=some o->b∉X.ex
 EL:∀b∈X.ex,b∉X.fs
 og:X.s₀.heap.FunFrames X.base X.outer
 HS:∀b∈X.fs,X.H₀ b=none
structure Inv(X:Cx)(pins:List (Addr×Obj))(σ:List (Option V))(H:Hp)(s:Shared):Prop where
 ok:X.Ok
 os:s.os=X.s₀.os
 bare:AllBare s.gens
 base:Un X.fs X.ex X.H₀ H X.s₀.heap s.heap
 loc:∃m,s.heap.Ns X.env.locals m/\∀(i:Nat)(x:Str)(v:V),X.N[i]?=some x->σ[i]?=some (some v)->K6 X.env.scope x->∃u,RelV v u/\Look X.env s.heap m x u
 cell:∀x c,X.env.cells.lookup x=some c->∃v,s.heap.IsCell c v
 free:H X.env.locals=none
 gm:∀x c,X.env.cells.lookup x=some c->H c=none
 pin:∀p∈X.pn++pins,s.heap.get? p.1=some p.2/\H p.1=none/\p.1≠X.env.locals/\p.1∉X.fs/\∀v,p.2.data≠.cell v
 a8:kh X.prog X.w H s.heap
 len:σ.length=X.N.length
section
variable {X:Cx} {pins:List (Addr×Obj)} {σ:List (Option V)} {H H':Hp} {s:Shared} {h':Heap}
theorem Cx.Ok.OO(ok:X.Ok)(e:X.base.get? b=some o):b∉X.fs:=λhb=>by
 have:=(ok.og.mem hb).1;rw[e] at this;cases this
theorem Inv.bs(I:Inv X pins σ H s):∀b o,X.base.get? b=some o->s.heap.get? b=some o/\H b=none:=λb o e=>
 ⟨I.base.keep b o (I.ok.bs b o e).1 (I.ok.bs b o e).2 (I.ok.OO e) (I.ok.BB b o e),I.base.free b o (I.ok.bs b o e).1 (I.ok.bs b o e).2 (I.ok.BB b o e)⟩
theorem Inv.bk(I:Inv X pins σ H s):∀b o,X.base.get? b=some o->s.heap.get? b=some o:=λb o e=>(I.bs b o e).1
theorem Inv.mod(I:Inv X pins σ H s):Mod X.K X.mg X.base:=I.ok.mod
theorem Inv.As(I:Inv X pins σ H s):X.K.In s.heap:=I.ok.mod.NM.keeps I.bk
theorem Inv.nolimit(I:Inv X pins σ H s):s.heap.NoLimit:=I.ok.mod.nolimit.keeps I.bk
theorem Inv.lt(I:Inv X pins σ H s):X.env.locals < s.heap.objs.size:=let⟨_,hn,_⟩:=I.loc;hn.lt
theorem Inv.sz(I:Inv X pins σ H s):X.s₀.heap.objs.size<=s.heap.objs.size:=Qr I.ok.above (RW I.lt)
theorem Inv.ON(I:Inv X pins σ H s)(h:s.heap.objs.size<=a):a∉X.fs:=λhb=>by
 obtain⟨_,o,ho,_⟩:=I.ok.og.mem hb;exact absurd (QF (Qz ho) (Qr I.sz h)) (Sv _)
theorem Inv.E4(I:Inv X pins σ H s):∀x c,X.env.cells.lookup x=some c->c≠X.env.locals:=λx c e z=>by
 obtain⟨v,o,ho,hd⟩:=I.cell x c e;obtain⟨m,⟨o',es,ep,ho',hd',_⟩,_⟩:=I.loc;rw[z,ho'] at ho;cases ho;rw[hd'] at hd;cases hd
theorem Inv.og(I:Inv X pins σ H s):s.heap.FunFrames X.base X.outer:=by
 have all:∀(l:List Env),(∀b∈j9 l,b∈X.fs)->X.s₀.heap.FunFrames X.base l->s.heap.FunFrames X.base l:=by
  intro l
  induction l with
  | nil=>intro _ _;trivial
  | cons env r ih=>
   intro hs hl;obtain⟨hk,⟨L,o,hf,hn,ho,hd⟩,hr⟩:=hl;have hL:L∈X.fs:=hs L (by unfold j9;rw[Ri,hf];exact Qh);obtain⟨sl,e⟩:=I.base.slot L o ho (I.ok.HS L hL) hL λz=>I.ok.EL L z hL;exact⟨hk,⟨L,_,hf,hn,e,hd⟩,ih (λb hb=>hs b (by unfold j9;rw[Ri,hf];exact Qi _ hb)) hr⟩
 exact all X.outer (λ_ hb=>hb) I.ok.og
theorem Inv.stack(I:Inv X pins σ H s):s.heap.FunFrames X.base X.stack:=by
 rcases I.ok.LQ with e |⟨e,hf⟩
 ·rw[e];exact I.og
 ·rw[e];obtain⟨m,hn,_⟩:=I.loc;refine .cons (by rw[I.ok.kind];decide) hf hn ?_ I.og;exact Heap.get?_none_of_le (Qr I.ok.Fz I.ok.above)
theorem Inv.qJ(I:Inv X pins σ H s):∀b∈j9 X.stack,b∈X.env.locals::X.fs:=λb hb=>by
 rcases I.ok.LQ with e |⟨e,hf⟩
 ·rw[e] at hb;exact Qi _ hb
 ·rw[e] at hb;unfold j9 at hb;rw[Ri,hf] at hb;exact hb
theorem Inv.qc(I:Inv X pins σ H s):∀b∈j9 X.stack,H b=none:=λb hb=>by
 rcases Ql.mp (I.qJ b hb) with e | hb
 ·rw[e];exact I.free
 ·obtain⟨_,o,ho,_⟩:=I.ok.og.mem hb;exact I.base.free b o ho (I.ok.HS b hb) λz=>I.ok.EL b z hb
theorem Inv.step{g':Array GenState}{t':Nat}{d':Drawn}{ch:List Addr}(I:Inv X pins σ H s)
  (hch:∀b∈ch,(b∈X.ex\/X.s₀.heap.objs.size<=b)/\b≠X.env.locals/\(∀x c,X.env.cells.lookup x=some c->c≠b)/\∀p∈X.pn++pins,p.1≠b)
  (keep:∀b o,b≠X.env.locals->b∉X.fs->b∉ch->s.heap.get? b=some o->H b=none->h'.get? b=some o)
  (slot:∀b o,b≠X.env.locals->b∈X.fs->b∉ch->s.heap.get? b=some o->H b=none->∃sl,h'.get? b=some {o with slots:=sl}) (free:∀b o,b∉ch->s.heap.get? b=some o->H b=none->H' b=none)
  (there:∀b o,b∉ch->s.heap.get? b=some o->∃o',h'.get? b=some o')
  (nD:∀b xs,H b=some (.tup xs)->H' b=some (.tup xs)) (mR:∀b o u,H b=some (.pq o u)->H' b=some (.pq o u)) (nE:∀b ps,H b=some (.Hv ps)->∃more,H' b=some (.Hv (ps++more)))
  (ns:∀m,s.heap.Ns X.env.locals m->h'.Ns X.env.locals m) (a8:kh X.prog X.w H' h') (hg:AllBare g'):
  Inv X pins σ H' {s with heap:=h',gens:=g',drawn:=d',toks:=t'}:=by
 have neL:∀b o,X.s₀.heap.get? b=some o->b≠X.env.locals:=λb o e=>QJ (QF (Qz e) I.ok.above);have neC:∀b o,X.s₀.heap.get? b=some o->b∉X.ex->b∉ch:=λb o e hx hb=>by
  rcases(hch b hb).1 with z | z
  ·exact hx z
  ·exact absurd (QF (Qz e) z) (Sv _)
 have cellK:∀x c,X.env.cells.lookup x=some c->∀v,s.heap.IsCell c v->h'.IsCell c v:=λx c e v ⟨o,ho,hd⟩=>by
  have nch:c∉ch:=λz=>(hch c z).2.2.1 x c e rfl
  by_cases hc:c∈X.fs
  ·obtain⟨sl,q⟩:=slot c o (I.E4 x c e) hc nch ho (I.gm x c e);exact⟨_,q,hd⟩
  ·exact⟨o,keep c o (I.E4 x c e) hc nch ho (I.gm x c e),hd⟩
 refine⟨I.ok,I.os,hg,⟨λb o e n hb hx=>?_,λb o e n hb hx=>?_,λb o e n hx=>?_,λb o e hx=>?_,λb xs e=>nD b xs (I.base.nD b xs e),λb o xs e=>mR b o xs (I.base.mR b o xs e),λb ps e=>?_⟩,?_,λx c e=>?_,?_,λx c e=>?_,λp hp=>?_,a8,I.len⟩
 ·exact keep b o (neL b o e) hb (neC b o e hx) (I.base.keep b o e n hb hx) (I.base.free b o e n hx)
 ·obtain⟨sl,e1⟩:=I.base.slot b o e n hb hx;obtain⟨sl',e2⟩:=slot b _ (neL b o e) hb (neC b o e hx) e1 (I.base.free b o e n hx);exact⟨sl',e2⟩
 ·obtain⟨o',e1⟩:=I.base.there b o e hx;exact free b o' (neC b o e hx) e1 (I.base.free b o e n hx)
 ·obtain⟨o',e1⟩:=I.base.there b o e hx;exact there b o' (neC b o e hx) e1
 ·obtain⟨m1,e1⟩:=I.base.nE b ps e;obtain⟨m2,e2⟩:=nE b _ e1;exact⟨m1++m2,by rw[e2,Array.append_assoc]⟩
 ·obtain⟨m,hn,hl⟩:=I.loc;refine⟨m,ns m hn,λi x v e1 e2 e3=>?_⟩;obtain⟨u,r,l⟩:=hl i x v e1 e2 e3;refine⟨u,r,?_⟩;rcases l with l |⟨k,c,e,z⟩
  ·exact .inl l
  ·exact .inr ⟨k,c,e,cellK x c e _ z⟩
 ·obtain⟨v,z⟩:=I.cell x c e;exact⟨v,cellK x c e v z⟩
 ·obtain⟨m,⟨o,_,_,ho,_⟩,_⟩:=I.loc;exact free _ o (λz=>(hch _ z).2.1 rfl) ho I.free
 ·obtain⟨v,o,ho,hd⟩:=I.cell x c e;exact free c o (λz=>(hch c z).2.2.1 x c e rfl) ho (I.gm x c e)
 ·obtain⟨e,n,ne,nf,d⟩:=I.pin p hp;have nch:p.1∉ch:=λz=>(hch p.1 z).2.2.2 p hp rfl;exact⟨keep p.1 p.2 ne nf nch e n,free p.1 p.2 nch e n,ne,nf,d⟩
theorem Inv.un{t':Nat}(I:Inv X pins σ H s)(u:Un X.fs [] H H' s.heap h')(a8:kh X.prog X.w H' h'):Inv X pins σ H' {s with heap:=h',toks:=t'}:=by
 obtain⟨m,⟨o,es,ep,ho,r⟩,_⟩:=id I.loc;obtain⟨sl,hL⟩:=u.any ho I.free (by simp);exact I.step (g':=s.gens) (d':=s.drawn) (ch:=[]) (λ_ z=>nomatch z) (λb o _ hb _ e n=>u.keep b o e n hb (by simp)) (λb o _ hb _ e n=>u.slot b o e n hb (by simp)) (λb o _ e n=>u.free b o e n (by simp)) (λb o _ e=>u.there b o e (by simp)) u.nD u.mR u.nE (λm' hm=>by
  obtain⟨o',es',ep',ho',r'⟩:=hm;rw[ho] at ho';cases ho';exact⟨_,es',ep',hL,r'⟩) a8 I.bare
theorem Inv.call{g':Array GenState}{t':Nat}{d':Drawn}{ch:List Addr}(I:Inv X pins σ H s)(u:Un (j9 X.stack) ch H H' s.heap h')(a8:kh X.prog X.w H' h')(hg:AllBare g')
  (hch:∀b∈ch,(b∈X.ex\/X.s₀.heap.objs.size<=b)/\b≠X.env.locals/\(∀x c,X.env.cells.lookup x=some c->c≠b)/\∀p∈X.pn++pins,p.1≠b):
  Inv X pins σ H' {s with heap:=h',gens:=g',drawn:=d',toks:=t'}:=by
 obtain⟨m,⟨o,es,ep,ho,r⟩,_⟩:=id I.loc;obtain⟨sl,hL⟩:=u.any ho I.free λz=>(hch _ z).2.1 rfl;exact I.step (ch:=ch) hch (λb o hL hb hc e n=>u.keep b o e n (λz=>(Ql.mp (I.qJ b z)).elim hL hb) hc) (λb o _ _ hc e n=>u.any e n hc) (λb o hc e n=>u.free b o e n hc) (λb o hc e=>u.there b o e hc) u.nD u.mR u.nE (λm' hm=>by
  obtain⟨o',es',ep',ho',r'⟩:=hm;rw[ho] at ho';cases ho';exact⟨_,es',ep',hL,r'⟩) a8 hg
theorem Inv.turned{t':Nat}{it:Addr}(I:Inv X pins σ H s)(k:∀b o,b≠it->s.heap.get? b=some o->h'.get? b=some o)(hn:H it=none)(hL:it≠X.env.locals)
  (h1:it∈X.ex\/X.s₀.heap.objs.size<=it) (h2:∀x c,X.env.cells.lookup x=some c->c≠it) (h3:∀p∈X.pn++pins,p.1≠it):Inv X pins σ H {s with heap:=h',toks:=t'}:=by
 have nit:∀b u,H b=some u->b≠it:=λb u e z=>by rw[z,hn] at e;cases e
 refine I.step (g':=s.gens) (d':=s.drawn) (ch:=[it]) (λb hb=>?_) (λb o _ _ hc e _=>k b o (λz=>hc (by simp[z])) e) (λb o _ _ hc e _=>⟨o.slots,k b o (λz=>hc (by simp[z])) e⟩) (λ_ _ _ _ n=>n)
  (λb o hc e=>⟨o,k b o (λz=>hc (by simp[z])) e⟩) (λ_ _ e=>e) (λ_ _ _ e=>e) (λb ps e=>⟨#[],by rw[e];simp⟩) (λm hm=>?_) (λb u e=>?_) I.bare
 ·have e:b=it:=by simpa using hb
  subst e;exact⟨h1,hL,h2,h3⟩
 ·obtain⟨o,es,ep,ho,r⟩:=hm;exact⟨o,es,ep,k _ o (RM hL) ho,r⟩
 ·refine(I.a8 b u e).nJ (λc v hc q=>k c v ?_ q) (λ_ q=>q) λ_ _ q=>q;rcases hc with z | z
  ·rw[z];exact nit b u e
  ·exact nit c _ z
theorem Inv.tok(I:Inv X pins σ H s)(t:Nat):Inv X pins σ H {s with toks:=t}:=I.un (h':=s.heap) (t':=t) Un.refl I.a8
theorem Inv.kept(I:Inv X pins σ H s)(k:∀b u,s.heap.get? b=some u->h'.get? b=some u):Inv X pins σ H {s with heap:=h',toks:=t'}:=I.un (Un.kept k) (I.a8.kept k)
theorem Inv.laid(I:Inv X pins σ H s)(k:∀b u,s.heap.get? b=some u->h'.get? b=some u)(hp:s.heap.objs.size<=a)(new:cf X.prog X.w (upd H a o) h' a o):
  Inv X pins σ (upd H a o) {s with heap:=h',toks:=t'}:=I.un (Un.laid k hp (I.a8.fresh hp)) (I.a8.laid k hp new)
theorem Inv.write(I:Inv X pins σ H s)(mu:Nz (H x))(he:e=x\/H e=some (.own x))(k:∀b u,b≠e->s.heap.get? b=some u->h'.get? b=some u)(heo:∃u,h'.get? e=some u)(new:cf X.prog X.w (upd H x o) h' x o):Inv X pins σ (upd H x o) {s with heap:=h',toks:=t'}:=I.un (Un.write mu he k heo) (I.a8.write mu he k heo new)
theorem Inv.Ab(I:Inv X pins σ H s)(h:∀p∈pins',s.heap.get? p.1=some p.2/\H p.1=none/\p.1≠X.env.locals/\p.1∉X.fs/\∀v,p.2.data≠.cell v):Inv X pins' σ H s:=
 ⟨I.ok,I.os,I.bare,I.base,I.loc,I.cell,I.free,I.gm,λp hp=>(Qy.mp hp).elim (λz=>I.pin p (QH _ z)) (h p),I.a8,I.len⟩
theorem rN{N:List Str}(hN:N.Nodup){i j:Nat}{x:Str}(a:N[i]?=some x)(b:N[j]?=some x):i=j:=by
 obtain⟨h1,e1⟩:=Qc.mp a;obtain⟨h2,e2⟩:=Qc.mp b;exact(List.getElem_inj hN).mp (e1.trans e2.symm)
theorem t4{M:Model}{A:Around}{E:Value->Shared->Prop}{i:Nat}{x:Str}{v:V}{u:Value}{Q:Unit->Shared->Prop}(I:Inv X pins σ H s)(hN:X.N.Nodup)(hi:X.N[i]?=some x)(hx:Loc X.env.scope x)(r:RelV v u)
  (h:∀s',Inv X pins (σ.set i (some v)) H s'->(∃a,Heap.SameBut a s.heap s'.heap/\(a=X.env.locals\/X.env.cells.lookup x=some a))->Q () s') (hf:X.fn x=true\/X.env.scope.names.lookup x=some .local:=by first | exact .inl rfl | exact .inr rfl | assumption):wpAny M A (storeName X.env x u) Q E s:=by
 obtain⟨m,hn,hl⟩:=id I.loc;have hcls:(X.env.scope.kind==.class||(X.env.scope.kind==.module&&X.env.locals !=X.env.globals))=false:=by rw[I.ok.kind];rfl
 have hiσ:i < σ.length:=by rw[I.len];exact(Qc.mp hi).1
 have E4:=I.E4;have tracked:∀{a:Addr} {h':Heap},(∃o,s.heap.get? a=some o/\H a=none)->Heap.SameBut a s.heap h'->kh X.prog X.w H h':=λ{a h'} ha hs b ob e=>by
  obtain⟨_,_,hfree⟩:=ha;refine(I.a8 b ob e).nJ (λc w' hc q=>(hs.2 c ?_).trans q) (λ_ q=>q) λ_ _ q=>q;rintro rfl;rcases hc with rfl | hc
  ·rw[hfree] at e;cases e
  ·rw[hfree] at hc;cases hc
 rcases hx with hk | hk
 ·refine wpAny_storeName_local hk hn (λh' hn' hs=>?_) hcls;obtain⟨oL,_,_,hoL,_⟩:=id hn;refine h _ ⟨I.ok,I.os,I.bare,⟨λb o e n hb hx=>?_,λb o e n hb hx=>?_,I.base.free,λb o e hx=>?_,I.base.nD,I.base.mR,I.base.nE⟩,⟨_,hn',λj y v' e1 e2 e3=>?_⟩,λy c e=>?_,I.free,I.gm,λp hp=>?_,tracked ⟨oL,hoL,I.free⟩ hs,by simpa using I.len⟩ ⟨_,hs,.inl rfl⟩
  ·exact(hs.2 b (QJ (QF (Qz e) I.ok.above))).trans (I.base.keep b o e n hb hx)
  ·obtain⟨sl,e1⟩:=I.base.slot b o e n hb hx;exact⟨sl,(hs.2 b (QJ (QF (Qz e) I.ok.above))).trans e1⟩
  ·obtain⟨o',e1⟩:=I.base.there b o e hx;exact⟨o',(hs.2 b (QJ (QF (Qz e) I.ok.above))).trans e1⟩
  ·by_cases hj:j=i
   ·subst hj;rw[hi] at e1;cases e1;rw[QR hiσ] at e2;cases e2;exact⟨u,r,.inl ⟨hk,by simp⟩⟩
   ·rw[QX (RM hj)] at e2;obtain⟨u',r',q⟩:=hl j y v' e1 e2 e3;refine⟨u',r',?_⟩;rcases q with⟨k,e⟩ |⟨k,c,e,z⟩
    ·refine .inl ⟨k,?_⟩;have:y≠x:=λe=>hj (rN hN e1 (e ▸ hi));simp[this,e]
    ·exact .inr ⟨k,c,e,z.sameBut hs (E4 y c e)⟩
  ·obtain⟨w',z⟩:=I.cell y c e;exact⟨w',z.sameBut hs (E4 y c e)⟩
  ·obtain⟨e,n,ne,nf,d⟩:=I.pin p hp;exact⟨(hs.2 p.1 ne).trans e,n,ne,nf,d⟩
 ·have hfn:X.fn x=true:=by
   rcases hf with z | z
   ·exact z
   ·rw[z] at hk;cases hk
  obtain⟨c,hc⟩:=I.ok.has x (.inl hk);obtain⟨w',z⟩:=I.cell x c hc;refine wpAny_storeName_cell I.ok.kind hk hc z (λh' hc' hs=>?_);obtain⟨oc,hoc,hocd⟩:=id z;refine h {s with heap:=h'} ⟨I.ok,I.os,I.bare,⟨λb o e n hb hx=>?_,λb o e n hb hx=>?_,I.base.free,λb o e hx=>?_,I.base.nD,I.base.mR,I.base.nE⟩,⟨m,hn.sameBut hs (RM (E4 x c hc)),λj y v' e1 e2 e3=>?_⟩,λy c' e=>?_,I.free,I.gm,λp hp=>?_,tracked ⟨oc,hoc,I.gm x c hc⟩ hs,by simpa using I.len⟩ ⟨c,hs,.inr hc⟩
  ·exact(hs.2 b (QJ (QF (Qz e) (I.ok.Lj x c hfn hc)))).trans (I.base.keep b o e n hb hx)
  ·obtain⟨sl,e1⟩:=I.base.slot b o e n hb hx;exact⟨sl,(hs.2 b (QJ (QF (Qz e) (I.ok.Lj x c hfn hc)))).trans e1⟩
  ·obtain⟨o',e1⟩:=I.base.there b o e hx;exact⟨o',(hs.2 b (QJ (QF (Qz e) (I.ok.Lj x c hfn hc)))).trans e1⟩
  ·by_cases hj:j=i
   ·subst hj;rw[hi] at e1;cases e1;rw[QR hiσ] at e2;cases e2;exact⟨u,r,.inr ⟨.inl hk,c,hc,hc'⟩⟩
   ·rw[QX (RM hj)] at e2;obtain⟨u',r',q⟩:=hl j y v' e1 e2 e3;refine⟨u',r',?_⟩;rcases q with q |⟨k,c',e,z'⟩
    ·exact .inl q
    ·refine .inr ⟨k,c',e,z'.sameBut hs ?_⟩;rintro rfl;exact hj (rN hN e1 (I.ok.inj _ _ _ e hc ▸ hi))
  ·by_cases hcc:c'=c
   ·subst hcc;exact⟨_,hc'⟩
   ·obtain⟨w2,z2⟩:=I.cell y c' e;exact⟨w2,z2.sameBut hs hcc⟩
  ·obtain⟨e,n,ne,nf,d⟩:=I.pin p hp;refine⟨(hs.2 p.1 ?_).trans e,n,ne,nf,d⟩;intro q;rw[q,hoc] at e;have q':oc=p.2:=Option.some.inj e;exact d w' (by rw[<-q'];exact hocd)
theorem g5(I:Inv X pins σ H s)(hN:X.N.Nodup)(hi:X.N[i]?=some x)(hx:Loc X.env.scope x)(r:RelV v u)(h:∀s',Inv X pins (σ.set i (some v)) H s'->Q () s')(hf:X.fn x=true\/X.env.scope.names.lookup x=some .local:=by first | exact .inl rfl | exact .inr rfl | assumption):wpAny M A (storeName X.env x u) Q E s:=
 t4 I hN hi hx r (λs' I' _=>h s' I') hf
theorem Inv.call'(I:Inv X pins σ H s)(ho:s'.os=s.os)(u:Un (j9 X.stack) ch H H' s.heap s'.heap)(a8:kh X.prog X.w H' s'.heap)(hg:AllBare s'.gens)(hch:∀b∈ch,(b∈X.ex\/X.s₀.heap.objs.size<=b)/\b≠X.env.locals/\(∀x c,X.env.cells.lookup x=some c->c≠b)/\∀p∈X.pn++pins,p.1≠b):Inv X pins σ H' s':=by
 obtain⟨h',g',d',t',o'⟩:=s';have e:o'=s.os:=ho;subst e;exact I.call (g':=g') (t':=t') (d':=d') u a8 hg hch
end
abbrev XK:=Value->Option Addr->Hp->Prop
abbrev St:=List (Option V)
abbrev VK:=V->Hp->Prop
abbrev TE:=St->Hp->VK->Prop
abbrev TT:=St->Hp->(Bool->Hp->Prop)->Prop
abbrev TA:=St->Hp->(List V->Hp->Prop)->Prop
structure Ends where
 nx:St->Hp->Prop
 rt:VK
 bk:St->Hp->Prop:=λ_ _=>False
 ct:St->Hp->Prop:=λ_ _=>False
abbrev TS:=Ends->St->Hp->Prop
inductive PL(X:Cx)(pins:List (Addr×Obj))(σ:St)(Q:VK)(u:Value)(s':Shared):Prop where
 | mk (v H'):Inv X pins σ H' s'->RelV v u->Q v H'->PL X pins σ Q u s'
def EP(X:Cx)(pins:List (Addr×Obj))(σ:St)(Q:VK)(u:Value)(s':Shared):Prop:=PL X pins σ Q u s'
def TP(X:Cx)(pins:List (Addr×Obj))(σ:St)(Q:Bool->Hp->Prop)(b:Bool)(s':Shared):Prop:=∃H',Inv X pins σ H' s'/\Q b H'
inductive PN(X:Cx)(pins:List (Addr×Obj))(σ:St)(Q:List V->Hp->Prop)(us:List Value)(s':Shared):Prop where
 | mk (vs H'):Inv X pins σ H' s'->Vals vs us->Q vs H'->PN X pins σ Q us s'
def AP(X:Cx)(pins:List (Addr×Obj))(σ:St)(Q:List V->Hp->Prop)(us:List Value)(s':Shared):Prop:=PN X pins σ Q us s'
def SP(X:Cx)(pins:List (Addr×Obj))(D:Ends)(f:Flow)(s':Shared):Prop:=
 match f with
 | .next=>∃σ' H',Inv X pins σ' H' s'/\D.nx σ' H'
 | .brk=>∃σ' H',Inv X pins σ' H' s'/\D.bk σ' H'
 | .cont=>∃σ' H',Inv X pins σ' H' s'/\D.ct σ' H'
 | .ret u=>∃v σ' H',Inv X pins σ' H' s'/\RelV v u/\D.rt v H'
def PE(X:Cx)(e:Expr)(t:TE):Prop:=
 ∀(pins:List (Addr×Obj)) (s:Shared) (σ:St) (H:Hp) (Q:VK),Inv X pins σ H s->t σ H Q->wpAny (model X.prog X.w) X.A (eval e X.env) (EP X pins σ Q) X.xe s
def PT(X:Cx)(e:Expr)(t:TT):Prop:=
 ∀(pins:List (Addr×Obj)) (s:Shared) (σ:St) (H:Hp) (Q:Bool->Hp->Prop),Inv X pins σ H s->t σ H Q->wpAny (model X.prog X.w) X.A (isTrue e X.env (eval e X.env)) (TP X pins σ Q) X.xe s
def PW(X:Cx)(e:Expr)(t:TT):Prop:=
 ∀(whole:Sem Value)(pins:List (Addr×Obj)) (s:Shared) (σ:St) (H:Hp) (Q:Bool->Hp->Prop),Inv X pins σ H s->t σ H Q->wpAny (model X.prog X.w) X.A (isTrue e X.env whole) (TP X pins σ Q) X.xe s
theorem PW.pt(h:PW X e t):PT X e t:=h _
def PA(X:Cx)(es:List Expr)(t:TA):Prop:=
 ∀(pos:Pos)(pins:List (Addr×Obj)) (s:Shared) (σ:St) (H:Hp) (Q:List V->Hp->Prop),Inv X pins σ H s->t σ H Q->wpAny (model X.prog X.w) X.A (spliced (backTo pos (starEach es X.env))) (AP X pins σ Q) X.xe s
def PS(X:Cx)(st:Stmt)(t:TS):Prop:=
 ∀(pins:List (Addr×Obj)) (s:Shared) (σ:St) (H:Hp) (D:Ends),Inv X pins σ H s->t D σ H->wpAny (model X.prog X.w) X.A (exec st X.env) (SP X pins D) X.xe s
def wQ(X:Cx)(st:List Stmt)(t:TS):Prop:=
 ∀(pins:List (Addr×Obj)) (s:Shared) (σ:St) (H:Hp) (D:Ends),Inv X pins σ H s->t D σ H->wpAny (model X.prog X.w) X.A (execs st X.env) (SP X pins D) X.xe s
theorem cQ(h:wpAny M A t Q E s)(hQ:∀a s,Q a s->Q' a s):wpAny M A t Q' E s:=Q4 h hQ λ_ _ x=>x
section
variable {X:Cx}
def NZ(i:Nat):TE:=λσ H Q=>∃v,σ[i]?=some (some v)/\Q v H
def tC(v:V):TE:=λ_ H Q=>Q v H
theorem DW(hN:X.N[i]?=some x)(hv:K6 X.env.scope x)(hd:(x==("__debug__":Str))=false:=by decide)(hcd:(x==("__classdict__":Str))=false:=by decide):PE X (.Name x pos) (NZ i):=by
 intro pins s σ H Q I h;obtain⟨v,e,h⟩:=h;obtain⟨m,hn,hl⟩:=I.loc;obtain⟨u,r,l⟩:=hl i x v hN e hv;have fin:EP X pins σ Q u s:=⟨v,H,I,r,h⟩;rcases l with⟨hk,hm⟩ |⟨hk,c,hc,hcell⟩
 ·exact TQ (wpAny_loadName_local I.ok.kind hk hn hm fin) hd
 ·rcases hk with hk | hk
  ·exact TQ (wpAny_loadName_cell I.ok.kind hk hc hcell fin) hd
  ·exact TQ (wpAny_loadName_free I.ok.kind hk hc hcell fin hcd) hd
theorem Jz{i j pos}:PE X (.Constant (.int i) j pos) (tC (.int i)):=λ_ _ _ H _ I h=>wpAny_Constant_int ⟨.int i,H,I.tok _,⟨_,rfl⟩,h⟩
theorem Mp{b j pos}:PE X (.Constant (.bool b) j pos) (tC (.bl b)):=λ_ _ _ H _ I h=>Constant_bool ⟨.bl b,H,I,rfl,h⟩
theorem DY{j pos}:PE X (.Constant .none j pos) (tC .cu):=λ_ _ _ H _ I h=>Constant_none ⟨.cu,H,I,rfl,h⟩
theorem Jv{x j pos}:PE X (.Constant (.str x) j pos) (tC (.str x)):=λ_ _ _ H _ I h=>Calls.Constant_str ⟨.str x,H,I.tok _,⟨_,rfl⟩,h⟩
def Gl(X:Cx)(x:Str):Prop:=X.env.kindOf x=some .globalImplicit
theorem j4(I:Inv X pins σ H s)(hg:Gl X x)(hm:X.mg x=some u)(h:Q u s)(hd:(x==("__debug__":Str))=false:=by decide):wpAny (model X.prog X.w) X.A (eval (.Name x pos) X.env) Q E s:=
 U1 I.ok.kind hg (Calls.loadGlobal_global (by rw[I.ok.glob];exact I.mod.glob.keeps I.bk) hm h) hd
theorem jD(I:Inv X pins σ H s)(hg:Gl X x)(hm:X.mg x=none)(hv:bootBuiltins x=some u)(h:Q u s)(hn:x≠"__name__":=by decide)(hd:(x==("__debug__":Str))=false:=by decide):wpAny (model X.prog X.w) X.A (eval (.Name x pos) X.env) Q E s:=by
 obtain⟨mb,h1,h2⟩:=I.mod.blt;exact U1 I.ok.kind hg (Calls.loadGlobal_builtin (by rw[I.ok.glob];exact I.mod.glob.keeps I.bk) hm (by rw[I.ok.blt];exact h1.keeps I.bk) ((h2 x hn).trans hv) h) hd
theorem Ae(hg:Gl X x)(hm:X.mg x=some u)(r:RelV v u)(hd:(x==("__debug__":Str))=false:=by decide):PE X (.Name x pos) (tC v):=
 λ_ _ _ H _ I h=>j4 I hg hm ⟨v,H,I,r,h⟩ hd
theorem Gy(hg:Gl X x)(hm:X.mg x=none)(hv:bootBuiltins x=some u)(r:RelV v u)(hn:x≠"__name__":=by decide)(hd:(x==("__debug__":Str))=false:=by decide):PE X (.Name x pos) (tC v):=
 λ_ _ _ H _ I h=>jD I hg hm hv ⟨v,H,I,r,h⟩ hn hd
variable {a b:Expr} {ta tb:TE} {pos:Pos}
variable {tA tB':TT} {rest:List Expr}
def lM(t u:TT):TT:=λσ H Q=>t σ H λc H1=>if c=true then u σ H1 Q else Q false H1
def FJ(t u:TT):TT:=λσ H Q=>t σ H λc H1=>if c=true then Q true H1 else u σ H1 Q
def nF(t:TT):TT:=λσ H Q=>t σ H λc H1=>Q (!c) H1
theorem Gf(ha:PT X a tA):PW X (.BoolOp .And [a] pos) tA:=by
 intro wh pins s σ H Q I h;refine isTrue_and (cQ (ha pins s σ H Q I h) λc s1 e=>?_);cases c with
 | true=>exact isTrue_and_nil e
 | false=>exact e
theorem Jl(ha:PT X a tA):PW X (.BoolOp .Or [a] pos) tA:=by
 intro wh pins s σ H Q I h;refine isTrue_or (cQ (ha pins s σ H Q I h) λc s1 e=>?_);cases c with
 | false=>exact isTrue_or_nil e
 | true=>exact e
theorem Jm(ha:PT X a tA)(hb:PW X (.BoolOp .And (b::rest) pos) tB'):PW X (.BoolOp .And (a::b::rest) pos) (lM tA tB'):=by
 intro wh pins s σ H Q I h;refine isTrue_and (cQ (ha pins s σ H _ I h) λc s1 ⟨H1,I1,q1⟩=>?_);cases c with
 | true=>exact hb wh pins s1 σ H1 Q I1 q1
 | false=>exact⟨H1,I1,q1⟩
theorem Ml(ha:PT X a tA)(hb:PW X (.BoolOp .Or (b::rest) pos) tB'):PW X (.BoolOp .Or (a::b::rest) pos) (FJ tA tB'):=by
 intro wh pins s σ H Q I h;refine isTrue_or (cQ (ha pins s σ H _ I h) λc s1 ⟨H1,I1,q1⟩=>?_);cases c with
 | true=>exact⟨H1,I1,q1⟩
 | false=>exact hb wh pins s1 σ H1 Q I1 q1
theorem Jn(ha:PT X a tA):PT X (.UnaryOp .Not a pos) (nF tA):=by
 intro pins s σ H Q I h;exact isTrue_not (ha pins s σ H (λc H1=>Q (!c) H1) I h)
def LP(ta tb:TE):TE:=λσ H Q=>ta σ H λx H1=>∃c,x=.bl c/\if c=true then tb σ H1 Q else Q (.bl false) H1
theorem Jx{op}(h:PE X a t):PE X (.BoolOp op [a] pos) t:=λpins s σ H Q I hw=>BoolOp_one (h pins s σ H Q I hw)
theorem JB(ha:PE X a ta)(hb:PE X (.BoolOp .And (b::rest) pos) tb):PE X (.BoolOp .And (a::b::rest) pos) (LP ta tb):=by
 intro pins s σ H Q I h;refine BoolOp_and (cQ (ha pins s σ H _ I h) λv s1 ⟨x,H1,I1,r1,q1⟩=>?_);obtain⟨c,rfl,q1⟩:=q1;cases r1;refine SY ?_;cases c with
 | true=>exact hb pins s1 σ H1 Q I1 q1
 | false=>exact⟨.bl false,H1,I1,rfl,q1⟩
def PZ(t:TT)(ta tb:TE):TE:=λσ H Q=>t σ H λc H1=>if c=true then ta σ H1 Q else tb σ H1 Q
theorem D0(hc:PT X c tA)(ha:PE X a ta)(hb:PE X b tb):PE X (.IfExp c a b pos) (PZ tA ta tb):=by
 intro pins s σ H Q I h;refine wpAny_IfExp (cQ (hc pins s σ H _ I h) λd s1 ⟨H1,I1,q1⟩=>?_);cases d with
 | true=>exact ha pins s1 σ H1 Q I1 q1
 | false=>exact hb pins s1 σ H1 Q I1 q1
end
def gZ(K:FR)(H:Hp)(a:Addr)(xs:List V):Prop:=
 Rd H a (.lst xs)\/
  ∃(o:Obj)(its:Array Value)(n:Nat),K.lookup a=some o/\o.cls=.type "list"/\o.dict=none/\o.data=.seq its n/\its.size<=sizeLine/\Vals xs its.toList
def kJ(K:FR)(H:Hp)(a:Addr)(xs:List V):Prop:=
 Rd H a (.tup xs)\/
  ∃(o:Obj)(its:Array Value)(n:Nat),K.lookup a=some o/\o.cls=.type "tuple"/\o.data=.seq its n/\its.size<=sizeLine/\Vals xs its.toList/\o.dict=none
noncomputable def Pa:Value->Option V
 | .none=>some .cu
 | .bool b=>some (.bl b)
 | .int i _=>some (.int i)
 | .str x _=>some (.str x)
 | .bytes b _=>some (.byt b)
 | .float b _=>some (.flt b)
 | .ref a=>some (.ref a)
 | .type n=>some (.ty n)
 | _=>none
theorem RelV.abs(r:RelV x u):Pa u=some x:=by
 cases x with
 | cu=>cases r;rfl
 | bl _=>cases r;rfl
 | int _=>obtain⟨t,rfl⟩:=r;rfl
 | str _=>obtain⟨t,rfl⟩:=r;rfl
 | byt _=>obtain⟨t,rfl⟩:=r;rfl
 | flt _=>obtain⟨t,rfl⟩:=r;rfl
 | ref _=>cases r;rfl
 | ty _=>cases r;rfl
theorem RelV.inj(r:RelV x u)(q:RelV y u):x=y:=Option.some.inj (r.abs.symm.trans q.abs)
theorem Vals.inj{xs ys:List V}{us:List Value}(a:Vals xs us)(b:Vals ys us):xs=ys:=by
 induction a generalizing ys with
 | nil=>cases b;rfl
 | cons r t ih=>cases b with | cons r' t'=>rw[r.inj r',ih t']
theorem gZ.of{K:FR}(h:H a=some (.lst xs)):gZ K H a xs:=.inl (.inl h)
theorem Inv.list(I:Inv X pins σ H s)(h:gZ X.K H a xs):∃its:List Value,Vals xs its/\PlainL s.heap a its.toArray/\xs.length<=sizeLine:=by
 rcases h with h |⟨o,its,n,hk,hc,hd,hs,hz,r⟩
 ·obtain⟨z,its,n,r,e⟩:=h.ok I.a8;exact⟨its,r,⟨_,n,e,rfl,rfl,rfl⟩,z⟩
 ·refine⟨its.toList,r,⟨o,n,I.As a o hk,hc,hd,by simpa using hs⟩,?_⟩;have e:=r.length;simp only[Sq] at e
  lia
theorem Inv.tuple(I:Inv X pins σ H s)(h:kJ X.K H a xs):∃its:List Value,Vals xs its/\IsTup s.heap a its.toArray/\xs.length<=sizeLine:=by
 rcases h with h |⟨o,its,n,hk,hc,hs,hz,r,_⟩
 ·obtain⟨z,its,r,p⟩:=h.ok I.a8;exact⟨its,r,p.tup,z⟩
 ·refine⟨its.toList,r,⟨o,I.As a o hk,hc,n,by simpa using hs⟩,?_⟩;have e:=r.length;simp only[Sq] at e
  lia
theorem Inv.xS(I:Inv X pins σ H s)(h:gZ X.K H a xs)(h':gZ X.K H a ys):xs=ys:=by
 obtain⟨its,r,⟨o,n,e,_,_,d⟩,_⟩:=I.list h;obtain⟨its',r',⟨o',n',e',_,_,d'⟩,_⟩:=I.list h';rw[e] at e';cases e';rw[d] at d';injection d' with d1 _
 have:its=its':=by simpa using congrArg Array.toList d1
 subst this;exact r.inj r'
theorem Inv.tY(I:Inv X pins σ H s)(h:kJ X.K H a xs)(h':kJ X.K H a ys):xs=ys:=by
 obtain⟨its,r,⟨o,e,_,n,d⟩,_⟩:=I.tuple h;obtain⟨its',r',⟨o',e',_,n',d'⟩,_⟩:=I.tuple h';rw[e] at e';cases e';rw[d] at d';injection d' with d1 _
 have:its=its':=by simpa using congrArg Array.toList d1
 subst this;exact r.inj r'
abbrev Cx.qB(X:Cx)(E:Value->Shared->Prop):Cx:={X with xe:=E}
abbrev Cx.Ef(X:Cx):Cx:=X.qB λ_ _=>False
theorem Cx.Ok.qB{X:Cx}(ok:X.Ok)(E:Value->Shared->Prop):(X.qB E).Ok:=
 ⟨ok.mod,ok.kind,ok.glob,ok.blt,ok.above,ok.inj,ok.has,ok.Lj,ok.hd,ok.frames,ok.LQ,ok.OX,ok.bs,ok.Fz,ok.BB,ok.EL,ok.og,ok.HS⟩
theorem Cx.Ok.gS{X:Cx}{E:Value->Shared->Prop}(ok:(X.qB E).Ok):X.Ok:=
 ⟨ok.mod,ok.kind,ok.glob,ok.blt,ok.above,ok.inj,ok.has,ok.Lj,ok.hd,ok.frames,ok.LQ,ok.OX,ok.bs,ok.Fz,ok.BB,ok.EL,ok.og,ok.HS⟩
theorem Inv.qB(I:Inv X pins σ H s)(E:Value->Shared->Prop):Inv (X.qB E) pins σ H s:=⟨I.ok.qB E,I.os,I.bare,I.base,I.loc,I.cell,I.free,I.gm,I.pin,I.a8,I.len⟩
theorem Inv.gS(I:Inv (X.qB E) pins σ H s):Inv X pins σ H s:=⟨I.ok.gS,I.os,I.bare,I.base,I.loc,I.cell,I.free,I.gm,I.pin,I.a8,I.len⟩
theorem SP.gS(h:SP (X.qB E) pins D f s'):SP X pins D f s':=by
 cases f with
 | next=>obtain⟨σ',H',I,q⟩:=h;exact⟨σ',H',I.gS,q⟩
 | brk=>obtain⟨σ',H',I,q⟩:=h;exact⟨σ',H',I.gS,q⟩
 | cont=>obtain⟨σ',H',I,q⟩:=h;exact⟨σ',H',I.gS,q⟩
 | ret u=>obtain⟨v,σ',H',I,r,q⟩:=h;exact⟨v,σ',H',I.gS,r,q⟩
theorem wQ.Ef{st:List Stmt}{t:TS}(h:wQ X.Ef st t):wQ X st t:=λpins s σ H D I hw=>
 Q4 (h pins s σ H D (I.qB _) hw) (λ_ _ q=>q.gS) λ_ _ z=>False.elim z
section
variable {X:Cx} {st:Stmt} {rest:List Stmt} {t u:TS} {e:Expr} {te:TE} {pos:Pos}
def LJ:TS:=λD σ H=>D.nx σ H
def LF(t u:TS):TS:=λD σ H=>t {D with nx:=u D} σ H
theorem Gi:wQ X [] LJ:=λ_ _ σ H _ I h=>SO ⟨σ,H,I,h⟩
theorem xx(h1:PS X st t)(h2:wQ X rest u):wQ X (st::rest) (LF t u):=by
 intro pins s σ H D I h;refine RE (cQ (h1 pins s σ H {D with nx:=u D} I h) λf s1 q=>?_);cases f with
 | next=>
  obtain⟨σ',H',I',q⟩:=q;exact h2 pins s1 σ' H' D I' q
 | ret v=>exact q
 | brk=>exact q
 | cont=>exact q
theorem Gh(h1:PS X st t):wQ X [st] t:=by
 intro pins s σ H D I h;refine RE (cQ (h1 pins s σ H D I h) λf s1 q=>?_);cases f with
 | next=>exact SO q
 | ret v=>exact q
 | brk=>exact q
 | cont=>exact q
theorem Inv.quiet(I:Inv X pins σ H s):interactive X.env=false:=by simp[interactive,I.ok.kind]
def LM(te:TE):TS:=λD σ H=>te σ H λ_ H1=>D.nx σ H1
theorem Gk(he:PE X e te)(hs:swapsWith e none pos.line X.env=pure false:=by rfl):PS X (.Expr e pos) (LM te):=by
 intro pins s σ H D I h;exact wpAny_Expr_any (cQ (he pins s σ H _ I h) λv s1 ⟨x,H1,I1,r1,q1⟩=>⟨σ,H1,I1,q1⟩) I.quiet hs
def N3(te:TE):TS:=λD σ H=>te σ H D.rt
theorem Jo(he:PE X e te):PS X (.Return (some e) pos) (N3 te):=by
 intro pins s σ H D I h;exact wpAny_Return_some (cQ (he pins s σ H _ I h) λv s1 ⟨x,H1,I1,r1,q1⟩=>⟨x,σ,H1,I1,r1,q1⟩)
def N8(c:TT)(t u:TS):TS:=λD σ H=>c σ H λb H1=>if b=true then t D σ H1 else u D σ H1
theorem HJ(hc:PT X c tc)(ha:wQ X a t)(hb:wQ X b u):PS X (.If c a b pos) (N8 tc t u):=by
 intro pins s σ H D I h;refine wpAny_If (cQ (hc pins s σ H _ I h) λd s1 ⟨H1,I1,q1⟩=>?_);cases d with
 | true=>exact ha pins s1 σ H1 D I1 q1
 | false=>exact hb pins s1 σ H1 D I1 q1
def ID:TS:=λ_ _ _=>False
theorem DO:PS X st ID:=λ_ _ _ _ _ _ h=>h.elim
end
abbrev TG:=V->St->Hp->(St->Hp->Prop)->Prop
abbrev K9:=List V->St->Hp->(St->Hp->Prop)->Prop
def PG(X:Cx)(target:Expr)(t:TG):Prop:=
 ∀(pins:List (Addr×Obj)) (s:Shared) (σ:St) (H:Hp) (v:V) (u:Value) (Q:St->Hp->Prop),Inv X pins σ H s->RelV v u->t v σ H Q->
  wpAny (model X.prog X.w) X.A (assign target X.env u) (λ_ s'=>∃σ' H',Inv X pins σ' H' s'/\Q σ' H') X.xe s
def Ii(X:Cx)(ts:List Expr)(t:K9):Prop:=
 ∀(pins:List (Addr×Obj)) (s:Shared) (σ:St) (H:Hp) (vs:List V) (us:List Value) (Q:St->Hp->Prop),Inv X pins σ H s->Vals vs us->t vs σ H Q->
  wpAny (model X.prog X.w) X.A (assignInOrder ((assignEach ts X.env).map (·.2)) us) (λ_ s'=>∃σ' H',Inv X pins σ' H' s'/\Q σ' H') X.xe s
abbrev Nj:=V->V->V->Hp->(Hp->Prop)->Prop
def Ld(X:Cx)(t:Nj):Prop:=
 ∀(pins:List (Addr×Obj)) (s:Shared) (σ:St) (H:Hp) (o i v:V) (ov iv u:Value) (Q:Hp->Prop),Inv X pins σ H s->RelV o ov->RelV i iv->RelV v u->t o i v H Q->
  wpAny (model X.prog X.w) X.A (setItem ov iv u) (λ_ s'=>∃H',Inv X pins σ H' s'/\Q H') X.xe s
def x5(i:Nat):TG:=λv σ H Q=>Q (σ.set i (some v)) H
theorem Gw(hN:X.N.Nodup)(hi:X.N[i]?=some x)(hx:Loc X.env.scope x)(hf:X.fn x=true\/X.env.scope.names.lookup x=some .local:=by first | exact .inl rfl | exact .inr rfl | assumption):PG X (.Name x pos) (x5 i):=by
 intro pins s σ H v u Q I r h;exact wpAny_assign_Name (g5 I hN hi hx r (λs' I'=>⟨_,H,I',h⟩) hf)
noncomputable def OV:K9:=λvs σ H Q=>vs=[]/\Q σ H
def MT(t:TG)(u:K9):K9:=λvs σ H Q=>∃v r,vs=v::r/\t v σ H λσ' H'=>u r σ' H' Q
theorem Gv:Ii X [] OV:=by
 intro pins s σ H vs us Q I r h;obtain⟨e,h⟩:=h;subst e;cases r;exact assignInOrder_nil ⟨σ,H,I,h⟩
theorem DV(h1:PG X e t)(h2:Ii X es u)(hs:(assignEach (e::es) X.env).map (·.2)=assign e X.env::(assignEach es X.env).map (·.2):=by rfl):Ii X (e::es) (MT t u):=by
 intro pins s σ H vs us Q I r h;obtain⟨v,vr,e1,h⟩:=h;subst e1;cases r with
 | cons r rr=>
  rw[hs];refine UU (cQ (h1 pins s σ H _ _ _ I r h) λ_ s1 ⟨σ1,H1,I1,q1⟩=>?_);exact h2 pins s1 σ1 H1 _ _ Q I1 rr q1
def OU(K:FR)(n:Nat)(t:K9):TG:=λv σ H Q=>∃a xs,v=.ref a/\kJ K H a xs/\xs.length=n/\t xs σ H Q
theorem Jr(hc:X.calm=true)(h:Ii X es t)(hn:(assignEach es X.env).length=n:=by rfl)(hst:(assignEach es X.env).findIdx? (·.1)=none:=by rfl):PG X (.Tuple es k pos) (OU X.K n t):=by
 intro pins s σ H v u Q I r hw;obtain⟨a,xs,e1,hq,hl,hw⟩:=hw;subst e1;cases r;obtain⟨its,rv,ht,hz⟩:=I.tuple hq;refine assign_Tuple_tuple (I.ok.hd hc) ht (by simp[hn,<-hl,rv.length]) hst λh' hx=>?_;have I1:Inv X pins σ H {s with heap:=h'}:=I.kept (t':=s.toks) λb o e=>hx b o (QJ (Qz e)) e;exact h pins _ σ H xs _ Q I1 (by simpa using rv) hw
def pU(to ti:TE)(t:Nj):TG:=λv σ H Q=>to σ H λo H1=>ti σ H1 λi H2=>t o i v H2 λH3=>Q σ H3
theorem Js (ho:PE X o to) (hi:PE X i ti) (hs:Ld X t) (ha:∀v,assign (.Subscript o i pos) X.env v=(do
   let ov<-holding [v] (eval o X.env);let iv<-holding [v,ov] (eval i X.env)
   standAt pos
   holding [v,ov,iv] (setItem ov iv v)
   release [v,ov,iv] []):=by intro _;rfl):PG X (.Subscript o i pos) (pU to ti t):=by
 intro pins s σ H v u Q I r h;rw[ha];refine Qe (Td (cQ (ho pins s σ H _ I h) λov s1 ⟨x,H1,I1,r1,q1⟩=>?_));refine Qe (Td (cQ (hi pins s1 σ H1 _ I1 q1) λiv s2 ⟨y,H2,I2,r2,q2⟩=>?_));refine Qe (TC (Qe (Td (cQ (hs pins s2 σ H2 x y v ov iv u _ I2 r1 r2 r q2) λ_ s3 ⟨H3,I3,q3⟩=>?_))));exact wpAny_release ⟨σ,H3,I3,q3⟩
def FN(te:TE)(g:TG):TS:=λD σ H=>te σ H λx H1=>g x σ H1 D.nx
theorem DQ(he:PE X e te)(hg:PG X tg g)(hs:swapsWithSole [tg] e pos.line X.env=pure false:=by rfl)(hw:swappedStores [tg] e X.env=pure none:=by rfl)(h1:(assignEach [tg] X.env).map (·.2)=[assign tg X.env]:=by rfl):PS X (.Assign [tg] e pos) (FN te g):=by
 intro pins s σ H D I h;refine wpAny_Assign_stores (cQ (he pins s σ H _ I h) λv s1 ⟨x,H1,I1,r1,q1⟩=>?_) hs hw;rw[h1];exact cQ (hg pins s1 σ H1 x v _ I1 r1 q1) λ_ s2 q=>q
theorem y4(hN:X.N.Nodup)(hi:X.N[i]?=some x)(hx:Loc X.env.scope x)(he:PE X e te)(hs:swapsWith e (some (.Name x pos')) pos.line X.env=pure false:=by rfl)(hf:X.fn x=true\/X.env.scope.names.lookup x=some .local:=by first | exact .inl rfl | exact .inr rfl | assumption):
  PS X (.Assign [.Name x pos'] e pos) (FN te (x5 i)):=by
 intro pins s σ H D I h;refine wpAny_Assign_Name (cQ (he pins s σ H _ I h) λv s1 ⟨y,H1,I1,r1,q1⟩=>?_) hs;exact g5 I1 hN hi hx r1 (λs2 I2=>⟨_,H1,I2,q1⟩) hf
def LH(i j:Nat)(ta:TA):TS:=λD σ H=>ta σ H λvs H1=>∃v w,vs=[v,w]/\D.nx ((σ.set i (some v)).set j (some w)) H1
theorem kW{kt k2 pt2}(hc:X.calm=true)(hN:X.N.Nodup)(hi:X.N[i]?=some x)(hj:X.N[j]?=some y)(hij:i≠j)(hx:X.env.scope.names.lookup x=some .local)(hy:X.env.scope.names.lookup y=some .local)(ha:PA X [a,b] ta)(hw:swappedStores [.Tuple [.Name x px,.Name y py] kt pt] (.Tuple [a,b] k2 pt2) X.env=pure (some [x,y]))(hs:swapsWithSole [.Tuple [.Name x px,.Name y py] kt pt] (.Tuple [a,b] k2 pt2) pos.line X.env=pure false:=by rfl):
  PS X (.Assign [.Tuple [.Name x px,.Name y py] kt pt] (.Tuple [a,b] k2 pt2) pos) (LH i j ta):=by
 intro pins s σ H D I h;rw[exec_Assign_arm];refine Qe (TC ?_);rw[hs];refine Qe (QC ?_);rw[Qo (by decide)];refine Qe (Tuple_ (cQ (ha _ pins s σ H _ I h) λus s1 ⟨vs,H1,I1,r1,q1⟩=>?_));obtain⟨v,w,e1,q1⟩:=q1;subst e1;obtain⟨u1,u2,rfl,rv,rw'⟩:∃u1 u2,us=[u1,u2]/\RelV v u1/\RelV w u2:=by
  cases r1 with
  | cons p q=>
   cases q with
   | cons p' q'=>
    cases q';exact⟨_,_,rfl,p,p'⟩
 refine Rx ?_ (by show 2<=sizeLine;decide);have I2:Inv X pins σ H1 {s1 with heap:=s1.heap.push {cls:=.type "tuple",data:=.seq [u1,u2].toArray}}:=I1.kept (t':=s1.toks) λb o e=>Qm _ e;rw[hw];refine Qe (QC ?_);show wpAny (model X.prog X.w) X.A (do rule "assign.swapped-stores";let items<-unpackItems (.ref s1.heap.objs.size) 2 none;assignInOrder [λv=>bindName X.env y v,λv=>bindName X.env x v] items.reverse;pure Flow.next) _ _ _;refine Qe (Ul (Qe (unpackItems_tuple (items:=#[u1,u2]) (I.ok.hd hc) (IsTup.new s1.heap _) λh' hx'=>?_)));have I3:=I2.kept (h':=h') (t':=s1.toks) λb o e=>hx' b o (QJ (Qz e)) e;show wpAny _ _ (assignInOrder [λv=>bindName X.env y v,λv=>bindName X.env x v] [u2,u1] >>=λ_=>pure Flow.next) _ _ _;refine Qe (UU (U0 (g5 I3 hN hj (.inl hy) rw' (λs2 I4=>?_) (.inr hy))));refine UU (U0 (g5 I4 hN hi (.inl hx) rv (λs3 I5=>assignInOrder_nil (QC ?_)) (.inr hx)));rw[List.set_comm _ _ (RM hij)] at I5;exact⟨_,H1,I5,q1⟩
structure It where
 go:Nat->Hp->Prop
 Ij:Nat->Hp->V->Hp->Prop
 stop:Nat->Hp->Prop
def kj(X:Cx)(pins:List (Addr×Obj))(H:Hp)(b:Addr):Prop:=
 H b=none/\b≠X.env.locals/\b∉X.fs/\(b∈X.ex\/X.s₀.heap.objs.size<=b)/\(∀x c,X.env.cells.lookup x=some c->c≠b)/\∀p∈X.pn++pins,p.1≠b
theorem Inv.BP(I:Inv X pins σ H s)(hb:s.heap.objs.size<=b)(hn:H' b=none):kj X pins H' b:=by
 refine⟨hn,Tv (QF I.lt hb),I.ON hb,.inr (Qr I.sz hb),λx c e z=>?_,λp hp z=>?_⟩
 ·obtain⟨v,q⟩:=I.cell x c e;exact absurd (QF q.lt (by rw[z];exact hb)) (Sv _)
 ·exact absurd (QF (Qz (I.pin p hp).1) (by rw[z];exact hb)) (Sv _)
structure Turn(P:Program)(w:World)(K:FR)(tg:Expr)(J:It)(fp:List Addr)(it:Addr)(tn:Nat->Heap->Prop):Prop where
 mem:it∈fp
 obj:∀i h,tn i h->∀b∈fp,∃o,h.get? b=some o/\∀v,o.data≠.cell v
 keep:∀i h h',tn i h->(∀b∈fp,∀o,h.get? b=some o->h'.get? b=some o)->tn i h'
 item:∀(X:Cx),X.prog=P->X.w=w->X.K=K->X.calm=true->∀(i:Nat)(pins:List (Addr×Obj)) (s:Shared) (σ:St) (H:Hp) (E:Value->Shared->Prop),Inv X pins σ H s->(∀b∈fp,kj X pins H b)->tn i s.heap->J.go i H->
  wpAny (model P w) X.A (pyNext (.ref it)) (λr s1=>∃u,r=some u/\
   wpAny (model P w) X.A (letOwnedTupleGo tg (.ref it) u) (λ_ s2=>∃x H',Inv X pins σ H' s2/\RelV x u/\J.Ij i H x H'/\tn (i+1) s2.heap/\∀b∈fp,H' b=none) E s1) E s
 done:∀(X:Cx),X.prog=P->X.w=w->X.K=K->X.calm=true->∀(i:Nat)(pins:List (Addr×Obj)) (s:Shared) (σ:St) (H:Hp) (E:Value->Shared->Prop),Inv X pins σ H s->(∀b∈fp,kj X pins H b)->tn i s.heap->J.stop i H->
  wpAny (model P w) X.A (pyNext (.ref it)) (λr s1=>r=none/\Inv X pins σ H s1) E s
 self:∀(A:Around)(i:Nat)(s:Shared)(Q:Value->Shared->Prop)(E:Value->Shared->Prop),tn i s.heap->Q (.ref it) s->wpAny (model P w) A (pyIter (.ref it)) Q E s
abbrev TI:=St->Hp->(It->Hp->Prop)->Prop
def Pc(X:Cx)(pins:List (Addr×Obj))(σ:St)(tg:Expr)(R:It->Hp->Prop)(itv:Value)(s2:Shared):Prop:=
 ∃(it:Addr)(fp:List Addr)(tn:Nat->Heap->Prop)(J:It)(H':Hp),itv=.ref it/\Inv X pins σ H' s2/\Turn X.prog X.w X.K tg J fp it tn/\tn 0 s2.heap/\(∀b∈fp,kj X pins H' b)/\R J H'
def PI(X:Cx)(tg iter:Expr)(wi:TI):Prop:=
 ∀(pins:List (Addr×Obj)) (s:Shared) (σ:St) (H:Hp) (R:It->Hp->Prop),Inv X pins σ H s->wi σ H R->
  wpAny (model X.prog X.w) X.A (eval iter X.env) (λv s1=>wpAny (model X.prog X.w) X.A (pyIter v) (Pc X pins σ tg R) X.xe s1) X.xe s
theorem Ax(ho:s.heap.get? it=some o)(hc:o.cls=.type n)(hd:o.data=.fields vs)(hn:["enumerate","zip","dict_itemiterator","dict_reverseitemiterator","odict_iterator","itertools.zip_longest","itertools.pairwise"].contains n=false)(hQ:Q () s):wpAny M A (letOwnedTupleGo tg (.ref it) u) Q E s:=by
 unfold letOwnedTupleGo;cases tg <;> first
  | exact QC hQ
  |(cases u <;> first
    | exact QC hQ
    |(refine Qe (wpAny_load ho ?_);rw[hc,hd];show wpAny M A (if(["enumerate","zip","dict_itemiterator","dict_reverseitemiterator","odict_iterator","itertools.zip_longest","itertools.pairwise"].contains n&&vs[0]?==some (rawInt _))=true then _ else _) Q E s;rw[Qo (by intro h;rw[hn,Bool.false_and] at h;cases h)];exact QC hQ))
noncomputable def Ph(K:FR)(a:Addr):It:=
 ⟨λi H=>∃xs x,gZ K H a xs/\xs[i]?=some x,λi H x H'=>H'=H/\∀xs,gZ K H a xs->xs[i]?=some x,λi H=>∃xs,gZ K H a xs/\xs.length<=i⟩
noncomputable def Pf(K:FR)(a:Addr):It:=
 ⟨λi H=>∃xs x,kJ K H a xs/\xs[i]?=some x,λi H x H'=>H'=H/\∀xs,kJ K H a xs->xs[i]?=some x,λi H=>∃xs,kJ K H a xs/\xs.length<=i⟩
noncomputable def NR(lo:Int)(n:Nat):It:=⟨λi _=>i < n,λi H x H'=>H'=H/\x=.int (lo+i),λi _=>n<=i⟩
theorem Bb{P:Program}{w:World}{K:FR}{tg:Expr}(a it:Addr):Turn P w K tg (Ph K a) [it] it (λi h=>h.IsListIter it a i) where
 mem:=by simp
 obj:=λi h st b hb=>by
  have e:b=it:=by simpa using hb
  subst e;obtain⟨o,e,c,d⟩:=st;exact⟨o,e,λv z=>by rw[d] at z;cases z⟩
 keep:=λi h h' st k=>st.at λo e=>k it (by simp) o e
 item:=by
  intro X hP hw hK hc i pins s σ H E I hf st hg;subst hP hw hK;obtain⟨xs,x,hq,hx⟩:=hg;obtain⟨its,rv,p,hz⟩:=I.list hq;obtain⟨u,hu,ru⟩:=rv.get hx;obtain⟨f0,f1,f2,f3,f4,f5⟩:=hf it (by simp);refine wpAny_pyNext_list_item st p.isList (x:=u) (by simpa using hu) λh' st' sb=>?_;have I1:Inv X pins σ H {s with heap:=h'}:=I.turned (t':=s.toks) (λb o hb e=>(sb.2 b hb).trans e) f0 f1 f3 f4 f5;obtain⟨o,e,c,d⟩:=id st';exact⟨u,rfl,Ax (s:={s with heap:=h'}) e c d (by decide) ⟨x,H,I1,ru,⟨rfl,λys hy=>by rw[I.xS hy hq];exact hx⟩,st',λb hb=>(hf b hb).1⟩⟩
 done:=by
  intro X hP hw hK hc i pins s σ H E I hf st hg;subst hP hw hK;obtain⟨xs,hq,hx⟩:=hg;obtain⟨its,rv,p,hz⟩:=I.list hq;obtain⟨f0,f1,f2,f3,f4,f5⟩:=hf it (by simp);have hl:=rv.length;exact wpAny_pyNext_list_end (I.ok.hd hc) st p.isList (by simp;lia) λh' eb=>⟨rfl,I.turned (t':=s.toks) (λb o hb e=>eb b o hb e) f0 f1 f3 f4 f5⟩
 self:=λ_ _ _ _ _ st h=>wpAny_pyIter_listiter st h
theorem yH{P:Program}{w:World}{K:FR}{tg:Expr}(a it:Addr):Turn P w K tg (Pf K a) [it] it (λi h=>h.IsTupleIter it a i) where
 mem:=by simp
 obj:=λi h st b hb=>by
  have e:b=it:=by simpa using hb
  subst e;obtain⟨o,e,c,d⟩:=st;exact⟨o,e,λv z=>by rw[d] at z;cases z⟩
 keep:=λi h h' st k=>st.at λo e=>k it (by simp) o e
 item:=by
  intro X hP hw hK hc i pins s σ H E I hf st hg;subst hP hw hK;obtain⟨xs,x,hq,hx⟩:=hg;obtain⟨its,rv,p,hz⟩:=I.tuple hq;obtain⟨u,hu,ru⟩:=rv.get hx;obtain⟨f0,f1,f2,f3,f4,f5⟩:=hf it (by simp);refine wpAny_pyNext_tuple_item st (show s.heap.IsTuple a its.toArray from p) (x:=u) (by simpa using hu) λh' st' sb=>?_;have I1:Inv X pins σ H {s with heap:=h'}:=I.turned (t':=s.toks) (λb o hb e=>(sb.2 b hb).trans e) f0 f1 f3 f4 f5;obtain⟨o,e,c,d⟩:=id st';exact⟨u,rfl,Ax (s:={s with heap:=h'}) e c d (by decide) ⟨x,H,I1,ru,⟨rfl,λys hy=>by rw[I.tY hy hq];exact hx⟩,st',λb hb=>(hf b hb).1⟩⟩
 done:=by
  intro X hP hw hK hc i pins s σ H E I hf st hg;subst hP hw hK;obtain⟨xs,hq,hx⟩:=hg;obtain⟨its,rv,p,hz⟩:=I.tuple hq;obtain⟨f0,f1,f2,f3,f4,f5⟩:=hf it (by simp);have hl:=rv.length;exact wpAny_pyNext_tuple_end (I.ok.hd hc) st (show s.heap.IsTuple a its.toArray from p) (by simp;lia) λh' eb=>⟨rfl,I.turned (t':=s.toks) (λb o hb e=>eb b o hb e) f0 f1 f3 f4 f5⟩
 self:=λ_ _ _ _ _ st h=>wpAny_pyIter_tupleiter st h
theorem yI{P:Program}{w:World}{K:FR}{tg:Expr}(it:Addr)(lo:Int)(n:Nat):Turn P w K tg (NR lo n) [it] it (λi h=>IsRangeIter h it (lo+(i:Nat)*1) ((n:Int)-(i:Nat)) 1) where
 mem:=by simp
 obj:=λi h st b hb=>by
  have e:b=it:=by simpa using hb
  subst e;exact⟨_,st,λv z=>by
   have z':Data.fields _=Data.cell v:=z;cases z'⟩
 keep:=λi h h' st k=>k it (by simp) _ st
 item:=by
  intro X hP hw hK hc i pins s σ H E I hf st hg;subst hP hw hK;obtain⟨f0,f1,f2,f3,f4,f5⟩:=hf it (by simp);have W:=Walks.range (prog:=X.prog) (w:=X.w) (I.ok.hd hc) it lo 1 n;refine W.item i s _ _ hg st λv h' tk hv st' kk=>?_;obtain⟨t,rfl⟩:=hv;have I1:Inv X pins σ H {s with heap:=h',toks:=tk}:=I.turned (λb o hb e=>kk b o (by simpa using hb) e) f0 f1 f3 f4 f5;refine⟨_,rfl,Ax (s:={s with heap:=h',toks:=tk}) (n:="range_iterator") st' rfl rfl (by decide) ⟨.int (lo+i),H,I1,⟨t,?_⟩,⟨rfl,rfl⟩,st',λb hb=>(hf b hb).1⟩⟩;rw[Int.mul_one]
 done:=by
  intro X hP hw hK hc i pins s σ H E I hf st hg;subst hP hw hK;obtain⟨f0,f1,f2,f3,f4,f5⟩:=hf it (by simp);exact wpAny_pyNext_range_end (I.ok.hd hc) st (by have:n<=i:=hg;lia) λh' eb=>⟨rfl,I.turned (t':=s.toks) (λb o hb e=>eb b o hb e) f0 f1 f3 f4 f5⟩
 self:=λ_ _ _ _ _ st h=>wpAny_pyIter_rangeiter st h
theorem Dz{pins:List (Addr×Obj)}{σ:St}{H:Hp}{s:Shared}{R:It->Hp->Prop}{E:Value->Shared->Prop}{lo hi:Int}{t u v:Tok}{tk:Nat}(I:Inv X pins σ H s)(h1:-(2^62)<=lo)(h2:lo < 2^62)(h3:-(2^62)<=hi)(h4:hi < 2^62)
  (q:R (NR lo (hi-lo).toNat) H):wpAny (model X.prog X.w) X.A (pyIter (.ref s.heap.objs.size)) (Pc X pins σ tg R) E {s with heap:=s.heap.push {cls:=.type "range",data:=.fields #[.int lo t,.int hi u,.int 1 v]},toks:=tk}:=by
 refine wpAny_pyIter_range (IsRange.new ..) (small_one h1 h2 h3 h4) ?_;have I1:Inv X pins σ H {s with heap:=s.heap.push {cls:=.type "range",data:=.fields #[.int lo t,.int hi u,.int 1 v]},toks:=tk}:=I.kept λb o e=>Qm _ e;refine⟨(s.heap.push {cls:=.type "range",data:=.fields #[.int lo t,.int hi u,.int 1 v]}).objs.size,[(s.heap.push {cls:=.type "range",data:=.fields #[.int lo t,.int hi u,.int 1 v]}).objs.size],_,_,H,rfl,
  I1.kept (t':=tk) λb o e=>Qm _ e,yI _ lo (hi-lo).toNat,?_,λb hb=>?_,q⟩
 ·have e1:lo+((0:Nat):Int)*1=lo:=by simp
  have e2:(((hi-lo).toNat:Nat):Int)-((0:Nat):Int)=Builtin.Range.rangeSize lo hi 1:=by rw[rangeSize_one];split <;> lia
  show IsRangeIter _ _ (lo+((0:Nat):Int)*1) ((((hi-lo).toNat:Nat):Int)-((0:Nat):Int)) 1;rw[e1,e2];exact QI _ rfl
 ·have e:b=(s.heap.push {cls:=.type "range",data:=.fields #[.int lo t,.int hi u,.int 1 v]}).objs.size:=by simpa using hb
  subst e;exact I1.BP (Qg _) (I1.a8.fresh (Qg _))
def MM(ta:TA):TI:=λσ H R=>ta σ H λvs H1=>∃j:Int,vs=[.int j]/\-(2^62)<=j/\j < 2^62/\R (NR 0 j.toNat) H1
theorem Bw{a:Expr}{ta:TA}{p pos:Pos}(hg:Gl X "range")(hm:X.mg "range"=none)(ha:PA X [a] ta)(hs:starEach [a] X.env=[(false,eval a X.env)]:=by rfl):PI X tg (.Call (.Name "range" p) [a] [] pos) (MM ta):=by
 intro pins s σ H R I h;refine Call_ (jD I hg hm boot_range (Rh (cQ (ha pos pins s σ H _ I h) λus s1 ⟨vs,H1,I1,r1,q1⟩=>?_) hs rfl));obtain⟨j,e,q1,q2,q⟩:=q1;subst e;cases r1 with
 | cons r rr=>
  cases rr;obtain⟨t,rfl⟩:=r;exact call_range_1 (Dz I1 (by lia) (by lia) q1 q2 (by simpa using q))
def LL(wi:TI)(g:TG)(tb:TS):TS:=λD σ H=>wi σ H λJ H1=>∃W:Nat->Nat->St->Hp->Prop,(∃m,W 0 m σ H1)/\∀i m σ H,W i m σ H->
 (J.stop i H/\D.nx σ H)\/(J.go i H/\∃N:St->Hp->Prop,(∀σ' H',N σ' H'->∃m',m' < m/\W (i+1) m' σ' H')/\∀x H',J.Ij i H x H'->g x σ H' λσ2 H2=>tb {D with nx:=N,ct:=N,bk:=D.nx} σ2 H2)
noncomputable def rC(fp:List Addr)(h:Heap):List (Addr×Obj):=fp.filterMap λb=>(h.get? b).map λo=>(b,o)
theorem iM(hb:b∈fp)(e:h.get? b=some o):(b,o)∈rC fp h:=RB.mpr ⟨b,hb,by rw[e];rfl⟩
theorem Bz(hp:p∈rC fp h):p.1∈fp/\h.get? p.1=some p.2:=by
 obtain⟨b,hb,e⟩:=RB.mp hp;cases q:h.get? b with
 | none=>rw[q] at e;cases e
 | some o=>
  rw[q] at e;have e':(b,o)=p:=Option.some.inj e;subst e';exact⟨hb,q⟩
theorem Inv.pinned(I:Inv X pins σ H s)(hf:∀b∈fp,kj X pins H b)(ho:∀b∈fp,∃o,s.heap.get? b=some o/\∀v,o.data≠.cell v):Inv X (pins++rC fp s.heap) σ H s:=
 I.Ab λp hp=>(Qy.mp hp).elim (λz=>I.pin p (Qq _ z)) λz=>by
  obtain⟨hb,e⟩:=Bz z;obtain⟨f0,f1,f2,_⟩:=hf p.1 hb;obtain⟨o,e',d⟩:=ho p.1 hb;rw[e] at e';cases e';exact⟨e,f0,f1,f2,d⟩
theorem Inv.lJ(I:Inv X (pins++pl) σ H s):Inv X pins σ H s:=I.Ab λp hp=>I.pin p (Qq _ (QH _ hp))
theorem Jp(hp:PassesOwn (model X.prog X.w) X.A X.env X.xe)(hc:X.calm=true)(hi:PI X tg iter wi)(hg:PG X tg g)(hb:wQ X body tb)(hs:∀x,foldedSetIterable iter X.env x=pure x:=by intro _;rfl):PS X (.For tg iter body [] pos) (LL wi g tb):=by
 intro pins s σ H D I h;refine wpAny_For (cQ (hi pins s σ H _ I h) λv s1 h1=>cQ h1 λitv s2 h2=>?_) hs;obtain⟨it,fp,tn,J,H2,e,I2,T,st2,f2,W,⟨m0,w0⟩,turn⟩:=h2;subst e;have stat:∀{H':Hp},(∀b∈fp,H' b=none)->∀b∈fp,kj X pins H' b:=λhn b hb=>⟨hn b hb,(f2 b hb).2⟩;refine codeAny_forLoop_any (λn s'=>∃i σ' H',Inv X pins σ' H' s'/\tn i s'.heap/\(∀b∈fp,H' b=none)/\W i n σ' H') ?_ m0 ⟨0,σ,H2,I2,st2,λb hb=>(f2 b hb).1,w0⟩;rintro n s3 ⟨i,σ3,H3,I3,st3,fr3,w3⟩;rcases turn i n σ3 H3 w3 with⟨stop,qn⟩ |⟨go,N,hN,step⟩
 ·refine Ti hp (cQ (T.done X rfl rfl rfl hc i pins s3 σ3 H3 X.xe I3 (stat fr3) st3 stop) λr s4 ⟨hr,I4⟩=>?_);subst hr;exact SO ⟨σ3,H3,I4,qn⟩
 ·refine Ti hp (cQ (T.item X rfl rfl rfl hc i pins s3 σ3 H3 X.xe I3 (stat fr3) st3 go) λr s4 ⟨u,hr,h4⟩=>?_);subst hr;refine Ti hp (cQ h4 λ_ s5 ⟨x,H5,I5,r5,y5,st5,fr5⟩=>?_);have I5':=I5.pinned (stat fr5) (T.obj _ _ st5);refine Ti hp (cQ (hg _ s5 σ3 H5 x u _ I5' r5 (step x H5 y5)) λ_ s6 ⟨σ6,H6,I6,q6⟩=>?_);refine Ti hp (cQ (hb _ s6 σ6 H6 _ I6 q6) λf s7 q7=>?_);have again:∀{σ7:St} {H7:Hp},Inv X (pins++rC fp s5.heap) σ7 H7 s7->N σ7 H7->∃m,m < n/\∃i σ' H',Inv X pins σ' H' s7/\tn i s7.heap/\(∀b∈fp,H' b=none)/\W i m σ' H':=λ{σ7 H7} I7 n7=>by
   obtain⟨m',hm,w7⟩:=hN σ7 H7 n7;refine⟨m',hm,i+1,σ7,H7,I7.lJ,T.keep _ _ _ st5 λb hb o e=>(I7.pin (b,o) (Qq _ (Qq _ (iM hb e)))).1,λb hb=>?_,w7⟩;obtain⟨o,e,d⟩:=T.obj _ _ st5 b hb;exact(I7.pin (b,o) (Qq _ (Qq _ (iM hb e)))).2.1
  cases f with
  | next=>obtain⟨σ7,H7,I7,n7⟩:=q7;exact again I7 n7
  | cont=>obtain⟨σ7,H7,I7,n7⟩:=q7;exact again I7 n7
  | brk=>obtain⟨σ7,H7,I7,q7⟩:=q7;exact⟨σ7,H7,I7.lJ,q7⟩
  | ret v=>obtain⟨x7,σ7,H7,I7,r7,q7⟩:=q7;exact⟨x7,σ7,H7,I7.lJ,r7,q7⟩
abbrev R2:=V->V->Hp->VK->Prop
def oA(X:Cx)(f:Value->Value->Sem Value)(r:R2):Prop:=
 ∀(pins:List (Addr×Obj)) (s:Shared) (σ:St) (H:Hp) (x y:V) (v u:Value) (Q:VK),Inv X pins σ H s->RelV x v->RelV y u->r x y H Q->
  wpAny (model X.prog X.w) X.A (f v u) (EP X pins σ Q) X.xe s
def Nh(X:Cx)(f:Value->Sem Value)(r:V->Hp->VK->Prop):Prop:=
 ∀(pins:List (Addr×Obj)) (s:Shared) (σ:St) (H:Hp) (x:V) (v:Value) (Q:VK),Inv X pins σ H s->RelV x v->r x H Q->
  wpAny (model X.prog X.w) X.A (f v) (EP X pins σ Q) X.xe s
def gy(X:Cx)(f:Value)(r:List V->Hp->VK->Prop):Prop:=
 ∀(pins:List (Addr×Obj)) (s:Shared) (σ:St) (H:Hp) (xs:List V) (us:List Value) (Q:VK),Inv X pins σ H s->Vals xs us->r xs H Q->
  wpAny (model X.prog X.w) X.A (call f us) (EP X pins σ Q) X.xe s
def Pb(X:Cx)(r:V->Hp->(Bool->Hp->Prop)->Prop):Prop:=
 ∀(pins:List (Addr×Obj)) (s:Shared) (σ:St) (H:Hp) (x:V) (v:Value) (Q:Bool->Hp->Prop),Inv X pins σ H s->RelV x v->r x H Q->
  wpAny (model X.prog X.w) X.A (truthy v) (TP X pins σ Q) X.xe s
def LI(r:R2)(ta tb:TE):TE:=λσ H Q=>ta σ H λx H1=>tb σ H1 λy H2=>r x y H2 Q
def PU(r:V->Hp->VK->Prop)(ta:TE):TE:=λσ H Q=>ta σ H λx H1=>r x H1 Q
def rI(C:Int->Int->Prop)(g:Int->Int->V):R2:=λx y H Q=>∃i j,x=.int i/\y=.int j/\C i j/\Q (g i j) H
def Gb(g:Int->Int->V):R2:=λx y H Q=>∃i j,x=.int i/\y=.int j/\Q (g i j) H
def rU(g:Int->V):V->Hp->VK->Prop:=λx H Q=>∃i,x=.int i/\Q (g i) H
theorem K4(ha:PE X a ta)(hb:PE X b tb){pins:List (Addr×Obj)}{s:Shared}{σ:St}{H:Hp}{R:V->V->Hp->Prop}(I:Inv X pins σ H s)
  (h:ta σ H λx H1=>tb σ H1 λy H2=>R x y H2) {Q:Value->Shared->Prop} {f:Value->Value->Sem Value}
  (hf:∀v u s2 x y H2,Inv X pins σ H2 s2->RelV x v->RelV y u->R x y H2->wpAny (model X.prog X.w) X.A (f v u) Q X.xe s2):
  wpAny (model X.prog X.w) X.A (eval a X.env) (λv s₁=>wpAny (model X.prog X.w) X.A (eval b X.env) (λu s₂=>wpAny (model X.prog X.w) X.A (f v u) Q X.xe s₂) X.xe s₁) X.xe s:=by
 refine cQ (ha pins s σ H _ I h) λv s1 ⟨x,H1,I1,r1,q1⟩=>?_;refine cQ (hb pins s1 σ H1 _ I1 q1) λu s2 ⟨y,H2,I2,r2,q2⟩=>?_;exact hf v u s2 x y H2 I2 r1 r2 q2
theorem HK{op:Operator}{r:R2}(ho:oA X (binaryOp op) r)(ha:PE X a ta)(hb:PE X b tb):PE X (.BinOp a op b pos) (LI r ta tb):=by
 intro pins s σ H Q I h;exact wpAny_BinOp (K4 ha hb I h λv u s2 x y H2 I2 rx ry q=>ho pins s2 σ H2 x y v u Q I2 rx ry q)
theorem Mm(ho:Nh X (unaryOp op) r)(ha:PE X a ta):PE X (.UnaryOp op a pos) (PU r ta):=by
 intro pins s σ H Q I h;exact UnaryOp_ (cQ (ha pins s σ H _ I h) λv s1 ⟨x,H1,I1,r1,q1⟩=>ho pins s1 σ H1 x v Q I1 r1 q1)
theorem NL{f:Value->Value->Sem Value}{C:Int->Int->Prop}{g:Int->Int->Int}
  (rule:∀(i j:Int)(t u:Tok)(s:Shared)(Q:Value->Shared->Prop)(E:Value->Shared->Prop),C i j->Q (.int (g i j) s.toks) {s with toks:=s.toks+1}->wpAny (model X.prog X.w) X.A (f (.int i t) (.int j u)) Q E s):
  oA X f (rI C λi j=>.int (g i j)):=by
 intro pins s σ H x y v u Q I rx ry h;obtain⟨i,j,rfl,rfl,hc,q⟩:=h;obtain⟨t,rfl⟩:=rx;obtain⟨t',rfl⟩:=ry;exact rule i j t t' s _ _ hc ⟨.int (g i j),H,I.tok _,⟨_,rfl⟩,q⟩
theorem Mw{f:Value->Value->Sem Value}{g:Int->Int->Int}
  (rule:∀(i j:Int)(t u:Tok)(s:Shared)(Q:Value->Shared->Prop)(E:Value->Shared->Prop),Q (.int (g i j) s.toks) {s with toks:=s.toks+1}->wpAny (model X.prog X.w) X.A (f (.int i t) (.int j u)) Q E s):
  oA X f (Gb λi j=>.int (g i j)):=by
 intro pins s σ H x y v u Q I rx ry h;obtain⟨i,j,rfl,rfl,q⟩:=h;obtain⟨t,rfl⟩:=rx;obtain⟨t',rfl⟩:=ry;exact rule i j t t' s _ _ ⟨.int (g i j),H,I.tok _,⟨_,rfl⟩,q⟩
theorem GF{f:Value->Value->Sem Value}{g:Int->Int->Bool}
  (rule:∀(i j:Int)(t u:Tok)(s:Shared)(Q:Value->Shared->Prop)(E:Value->Shared->Prop),Q (.bool (g i j)) s->wpAny (model X.prog X.w) X.A (f (.int i t) (.int j u)) Q E s):
  oA X f (Gb λi j=>.bl (g i j)):=by
 intro pins s σ H x y v u Q I rx ry h;obtain⟨i,j,rfl,rfl,q⟩:=h;obtain⟨t,rfl⟩:=rx;obtain⟨t',rfl⟩:=ry;exact rule i j t t' s _ _ ⟨.bl (g i j),H,I,rfl,q⟩
def Pm(i j:Int):Prop:=0<=j/\j<=1000000/\i.natAbs < 2^64
def Lg(i j:Int):Prop:=(-(2^64) < i/\i < 2^64)\/(-(2^64) < j/\j < 2^64)
theorem Lg.ok(h:Lg i j):IntMulOk i j:=by
 rcases h with⟨h1,h2⟩ |⟨h1,h2⟩
 ·exact .of_left (intBits_le_64 h1 h2)
 ·exact .of_right (intBits_le_64 h1 h2)
theorem JP:oA X (binaryOp .Add) (Gb λi j=>.int (i+j)):=Mw λ_ _ _ _ _ _ _ q=>add_int q
theorem JJ:oA X (binaryOp .Sub) (Gb λi j=>.int (i-j)):=Mw λ_ _ _ _ _ _ _ q=>sub_int q
theorem JM:oA X (binaryOp .Mult) (rI Lg λi j=>.int (i*j)):=NL λ_ _ _ _ _ _ _ hc q=>mul_int q hc.ok
theorem JN:oA X (binaryOp .Mod) (rI (λ_ j=>0 < j) λi j=>.int (i % j)):=NL λi j _ _ _ _ _ hc q=>by
 have h1:(0:Int) < j:=hc;exact mod_int' (by lia) (by rw[Int.fmod_eq_emod_of_nonneg i (by lia)];exact q)
theorem JL:oA X (binaryOp .Pow) (rI Pm λi j=>.int (i^j.toNat)):=NL λ_ _ _ _ _ _ _ hc q=>pow_int_small hc.1 hc.2.1 hc.2.2 q
theorem PQ{f:Value->Sem Value}{g:Int->Int}
  (rule:∀(i:Int)(t:Tok)(s:Shared)(Q:Value->Shared->Prop)(E:Value->Shared->Prop),Q (.int (g i) s.toks) {s with toks:=s.toks+1}->wpAny (model X.prog X.w) X.A (f (.int i t)) Q E s):
  Nh X f (rU λi=>.int (g i)):=by
 intro pins s σ H x v Q I rx h;obtain⟨i,rfl,q⟩:=h;obtain⟨t,rfl⟩:=rx;exact rule i t s _ _ ⟨.int (g i),H,I.tok _,⟨_,rfl⟩,q⟩
theorem Iy:Nh X (unaryOp .USub) (rU λi=>.int (-i)):=PQ λ_ _ _ _ _ q=>neg_int q
theorem Kw(I:Inv X pins σ H s)(q:Q (.bl k) H)(e:k=k'):EP X pins σ Q (.bool k') s:=by
 subst e;exact⟨.bl k,H,I,rfl,q⟩
theorem Ms:oA X (compareOp .Lt) (Gb λi j=>.bl (decide (i < j))):=GF λ_ _ _ _ _ _ _ q=>lt_int q
theorem Mt:oA X (compareOp .LtE) (Gb λi j=>.bl (decide (i<=j))):=GF λ_ _ _ _ _ _ _ q=>le_int q
theorem Mu:oA X (compareOp .Gt) (Gb λi j=>.bl (decide (j < i))):=GF λ_ _ _ _ _ _ _ q=>gt_int q
theorem Mv:oA X (compareOp .GtE) (Gb λi j=>.bl (decide (j<=i))):=GF λ_ _ _ _ _ _ _ q=>ge_int q
theorem JO:oA X (compareOp .Is) (λx y H Q=>y=.cu/\Q (.bl (decide (x=.cu))) H):=by
 intro pins s σ H x y v u Q I rx ry h;obtain⟨rfl,q⟩:=h;cases ry;refine is_none_gen (Kw I q ?_);cases x <;> first
  |(cases rx;rfl)
  |(obtain⟨t,rfl⟩:=rx;rfl)
theorem jy(b:Expr)(h:op≠.In:=by decide)(h2:op≠.NotIn:=by decide):behindInMarks op b=false:=by
 have e1:(op==CmpOp.In)=false:=by cases op <;> first | rfl | exact absurd rfl h
 have e2:(op==CmpOp.NotIn)=false:=by cases op <;> first | rfl | exact absurd rfl h2
 cases b <;> simp[behindInMarks,e1,e2]
theorem Gx{op:CmpOp}{r:R2}(ho:oA X (compareOp op) r)(ha:PE X a ta)(hb:PE X b tb)(hm:behindInMarks op b=false):PE X (.Compare a [op] [b] pos) (LI r ta tb):=by
 intro pins s σ H Q I h;exact wpAny_Compare1 (K4 ha hb I h λv u s2 x y H2 I2 rx ry q=>ho pins s2 σ H2 x y v u Q I2 rx ry q) hm
def Hw(t:TE):TT:=λσ H Q=>t σ H λx H'=>∃k,x=.bl k/\Q k H'
theorem Gg(ho:oA X (compareOp op) r)(ha:PE X a ta)(hb:PE X b tb)(hm:behindInMarks op b=false):PT X (.Compare a [op] [b] pos) (Hw (LI r ta tb)):=by
 intro pins s σ H Q I h;refine wpAny_isTrue_Compare1 (cQ (ha pins s σ H _ I h) λv s1 ⟨x,H1,I1,r1,q1⟩=>cQ (hb pins s1 σ H1 _ I1 q1) λu s2 ⟨y,H2,I2,r2,q2⟩=>
  cQ (ho pins s2 σ H2 x y v u _ I2 r1 r2 q2) λc s3 ⟨z,H3,I3,r3,k,e,q3⟩=>?_) hm
 subst e;cases r3;exact SY ⟨H3,I3,q3⟩
def CM(r r':R2)(ta tb tc:TE):TE:=λσ H Q=>ta σ H λx H1=>tb σ H1 λy H2=>r x y H2 λz H3=>∃k,z=.bl k/\
 (if k=true then tc σ H3 λw' H4=>r' y w' H4 Q else Q (.bl false) H3)
theorem DM(ho:oA X (compareOp op) r)(ho':oA X (compareOp op') r')(ha:PE X a ta)(hb:PE X b tb)(hc:PE X c tc)(hm:lastMarks [op,op'] [b,c]=false:=by with_unfolding_all rfl):PT X (.Compare a [op,op'] [b,c] pos) (Hw (CM r r' ta tb tc)):=by
 intro pins s σ H Q I h;refine isTrue_chain (cQ (ha pins s σ H _ I h) λv s1 ⟨x,H1,I1,r1,q1⟩=>test_link (cQ (hb pins s1 σ H1 _ I1 q1) λu s2 ⟨y,H2,I2,r2,q2⟩=>
  cQ (ho pins s2 σ H2 x y v u _ I2 r1 r2 q2) λd s3 ⟨z,H3,I3,r3,k,e,q3⟩=>?_)) hm
 subst e;cases r3;refine SY ?_;cases k with
 | false=>
  obtain⟨k',e',q'⟩:=q3;cases e';exact ite_ff ⟨H3,I3,q'⟩
 | true=>
  refine ite_tt (test_last (cQ (hc pins s3 σ H3 _ I3 q3) λw' s4 ⟨z',H4,I4,r4,q4⟩=>cQ (ho' pins s4 σ H4 y z' u w' _ I4 r2 r4 q4) λd' s5 ⟨z2,H5,I5,r5,k2,e2,q5⟩=>?_));subst e2;cases r5;exact SY ⟨H5,I5,q5⟩
def Hm(K:FR)(x:V)(H:Hp)(k:Bool):Prop:=
 match x with
 | .cu=>k=false
 | .bl b=>k=b
 | .int i=>k=(i !=0)
 | .str y=>y.length<=sizeLine/\k=((y.length:Int) !=0)
 | .byt y=>y.size<=sizeLine/\k=((y.size:Int) !=0)
 | .ref p=>(∃xs,gZ K H p xs/\k=!xs.isEmpty)\/(∃xs,kJ K H p xs/\k=!xs.isEmpty)\/∃kvs,H p=some (.dK kvs)/\k=!kvs.isEmpty
 | _=>False
theorem zu(r:KV kvs vs):(!vs.isEmpty)=!kvs.isEmpty:=by
 cases r <;> rfl
theorem r8(r:Vals xs its):(!its.toArray.isEmpty)=!xs.isEmpty:=by
 cases r <;> simp
theorem lh:(sizeLine:Nat) < 2^63:=by rw[Sr];decide
theorem CH:Pb X (λx H Q=>∃k,Hm X.K x H k/\Q k H):=by
 intro pins s σ H x v Q I rx h;obtain⟨k,e,q⟩:=h;have hl:=lh;have hs:sizeLine=16777216:=Sr;cases x with
 | cu=>
  cases rx;have e':k=false:=e;subst e';exact truthy_none ⟨H,I,q⟩
 | bl b=>
  cases rx;have e':k=b:=e;subst e';exact SY ⟨H,I,q⟩
 | int i=>
  obtain⟨t,rfl⟩:=rx;have e':k=(i !=0):=e;subst e';exact PySem.P.truthy_int ⟨H,I,q⟩
 | str y=>
  obtain⟨t,rfl⟩:=rx;obtain⟨hy,e'⟩:y.length<=sizeLine/\k=((y.length:Int) !=0):=e;subst e';exact PySem.P.truthy_str (by lia) ⟨H,I.tok _,q⟩
 | byt y=>
  obtain⟨t,rfl⟩:=rx;obtain⟨hy,e'⟩:y.size<=sizeLine/\k=((y.size:Int) !=0):=e;subst e';exact PySem.W.truthy_bytes (by lia) ⟨H,I.tok _,q⟩
 | ref p=>
  cases rx;have e':(∃xs,gZ X.K H p xs/\k=!xs.isEmpty)\/(∃xs,kJ X.K H p xs/\k=!xs.isEmpty)\/∃kvs,H p=some (.dK kvs)/\k=!kvs.isEmpty:=e;rcases e' with⟨xs,hx,e'⟩ |⟨xs,hx,e'⟩ |⟨kvs,hx,e'⟩
  ·subst e';obtain⟨its,r,pl,hz⟩:=I.list hx;have hlen:=r.length;exact wpAny_truthy_list pl.isList (by simp only[Qu];lia) ⟨H,I.tok _,by rw[r8 r];exact q⟩
  ·subst e';obtain⟨its,r,pl,hz⟩:=I.tuple hx;have hlen:=r.length;exact truthy_tuple pl (by simp only[Qu];lia) ⟨H,I.tok _,by rw[r8 r];exact q⟩
  ·subst e';obtain⟨hz,hS,vs,r,m⟩:kvs.length<=sizeLine/\(p==sysModules)=false/\∃vs,KV kvs vs/\s.heap.DictOf (bO X.prog X.w) p vs:=I.a8 p _ hx;have hlen:kvs.length=vs.length:=Paired.length r;exact wpAny_truthy_dict hS m (by lia) ⟨H,I.tok _,by rw[zu r];exact q⟩
 | _=>exact(show False from e).elim
theorem DL(ha:PE X a ta)(he:∀whole,isTrue a X.env whole=(do let v<-whole;standAt a.pos;holding [v] (truthy v))):
  PT X a (λσ H Q=>ta σ H λx H'=>∃k,Hm X.K x H' k/\Q k H'):=by
 intro pins s σ H Q I h;exact isTrue_plain (cQ (ha pins s σ H _ I h) λv s1 ⟨x,H1,I1,r1,q1⟩=>CH pins s1 σ H1 x v Q I1 r1 q1) (he _)
theorem zc:oA X (binaryOp .Add) (λx y H Q=>∃i j,x=.str i/\y=.str j/\i.length+j.length<=sizeLine/\Q (.str (i++j)) H):=by
 intro pins s σ H x y v u Q I rx ry h;obtain⟨i,j,rfl,rfl,hz,q⟩:=h;obtain⟨t,rfl⟩:=rx;obtain⟨t',rfl⟩:=ry;exact add_str (λt' tk=>⟨.str (i++j),H,I.tok _,⟨_,rfl⟩,q⟩) hz
theorem vals1(r:Vals [x] us):∃u,us=[u]/\RelV x u:=by
 cases r with
 | cons r1 r2=>cases r2;exact⟨_,rfl,r1⟩
theorem vals2(r:Vals [x,y] us):∃u w',us=[u,w']/\RelV x u/\RelV y w':=by
 cases r with
 | cons r1 r2=>
  cases r2 with
  | cons r3 r4=>cases r4;exact⟨_,_,rfl,r1,r3⟩
theorem Fc:gy X (.builtin "abs") (λxs H Q=>∃i,xs=[.int i]/\Q (.int (if i < 0 then -i else i)) H):=by
 intro pins s σ H xs us Q I r h;obtain⟨i,rfl,q⟩:=h;obtain⟨u,rfl,t,rfl⟩:=vals1 r;exact call_abs_int λu tk=>⟨.int (if i < 0 then -i else i),H,I.tok _,⟨_,rfl⟩,q⟩
theorem B4(hc:X.calm=true):gy X (.builtin "max") (λxs H Q=>∃i j,xs=[.int i,.int j]/\Q (.int (if j > i then j else i)) H):=by
 intro pins s σ H xs us Q I r h;obtain⟨i,j,rfl,q⟩:=h;obtain⟨u,w',rfl,⟨t,rfl⟩,⟨t',rfl⟩⟩:=vals2 r;refine max_two_ints (I.ok.hd hc) λh' tk k=>⟨_,H,I.kept k,?_,q⟩
 by_cases hj:j > i
 ·rw[Qf hj,Qf hj];exact⟨_,rfl⟩
 ·rw[Qo hj,Qo hj];exact⟨_,rfl⟩
theorem B3(hc:X.calm=true):gy X (.builtin "min") (λxs H Q=>∃i j,xs=[.int i,.int j]/\Q (.int (if j < i then j else i)) H):=by
 intro pins s σ H xs us Q I r h;obtain⟨i,j,rfl,q⟩:=h;obtain⟨u,w',rfl,⟨t,rfl⟩,⟨t',rfl⟩⟩:=vals2 r;refine min_two_ints (I.ok.hd hc) λh' tk k=>⟨_,H,I.kept k,?_,q⟩
 by_cases hj:j < i
 ·rw[Qf hj,Qf hj];exact⟨_,rfl⟩
 ·rw[Qo hj,Qo hj];exact⟨_,rfl⟩
theorem wy:gy X (.type "str") (λxs H Q=>∃i,xs=[.int i]/\i.natAbs.log2 < 1920/\Q (.str (toString i)) H):=by
 intro pins s σ H xs us Q I r h;obtain⟨i,rfl,hz,q⟩:=h;obtain⟨u,rfl,t,rfl⟩:=vals1 r;exact PySem.P.str_of_int hz ⟨.str _,H,I.tok _,⟨_,rfl⟩,q⟩
section
variable {prog:Program} {w:World} {A:Around} {E:Value->Shared->Prop} {s:Shared} {K:FR} {x dx C f:Addr} {mA:Str->Option Value} {name:Str} {v:Value}
end
theorem pY.some_of(r:pY (some v) o):∃u,o=some u/\RelV v u:=by
 cases o with
 | none=>exact(show False from r).elim
 | some u=>exact⟨u,rfl,r⟩
structure cH(k:Nat)(A:Around):Prop where
 hd:A.handled=none
 dp:A.depth+3*k+5 < recursionLimit
 un:A.units+16*k+200 < cLine
theorem cH.mono(r:cH k A)(h:j<=k):cH j A:=⟨r.hd,by have:=r.dp;lia,by have:=r.un;lia⟩
theorem cH.deeper(r:cH (k+1) A)(env:Env):cH k (A.deeper env):=
 ⟨r.hd,by have:=r.dp;show A.depth+1+3*k+5 < _;lia,by have:=r.un;show A.units+3+16*k+200 < _;lia⟩
theorem cH.depth(r:cH k A):A.depth < recursionLimit:=by have:=r.dp;lia
theorem cH.units(r:cH k A):A.units+64 < cLine:=by have:=r.un;lia
def N4:TA:=λ_ H Q=>Q [] H
def LN(ta:TE)(tr:TA):TA:=λσ H Q=>ta σ H λx H1=>tr σ H1 λxs H2=>Q (x::xs) H2
theorem D2:PA X [] N4:=λ_ _ _ _ H Q I h=>Ut ⟨[],H,I,.nil,h⟩
theorem vI(ha:PE X e te)(hr:PA X es t)(hs:starEach (e::es) X.env=(false,eval e X.env)::starEach es X.env:=by rfl):PA X (e::es) (LN te t):=by
 intro pos pins s σ H Q I h;rw[hs];show wpAny _ _ (spliced ((false,eval e X.env)::backTo pos (starEach es X.env))) _ _ s;refine Uo (cQ (ha pins s σ H _ I h) λu s1 ⟨x,H1,I1,r1,q1⟩=>?_);exact cQ (hr pos pins s1 σ H1 _ I1 q1) λus s2 ⟨xs,H2,I2,r2,q2⟩=>⟨x::xs,H2,I2,.cons r1 r2,q2⟩
def N0(t:TA):TE:=λσ H Q=>t σ H λxs H1=>xs.length<=sizeLine/\∀p,H1 p=none->Q (.ref p) (upd H1 p (.tup xs))
def N7(t:TA):TE:=λσ H Q=>t σ H λxs H1=>xs.length<=sizeLine/\∀p,H1 p=none->Q (.ref p) (upd H1 p (.lst xs))
theorem Jt{x1}(h:PA X es t):PE X (.Tuple es x1 pos) (N0 t):=by
 intro pins s σ H Q I hq;refine wpAny_Tuple_spliced (cQ (h pos pins s σ H _ I hq) λus s1 ⟨xs,H1,I1,r,z,q⟩=>⟨by rw[<-r.length];exact z,?_⟩);have hf:H1 s1.heap.objs.size=none:=I1.a8.fresh (Qg _);refine⟨.ref s1.heap.objs.size,upd H1 s1.heap.objs.size (.tup xs),I1.laid (t':=s1.toks) (λb u e=>Qm _ e) (Qg _) ?_,rfl,q _ hf⟩;exact⟨z,us,r,⟨_,QI _ rfl,rfl,⟨_,rfl⟩,rfl⟩⟩
theorem Jy(h:PA X es t):PE X (.List es pos) (N7 t):=by
 intro pins s σ H Q I hq;refine wpAny_List_spliced (cQ (h pos pins s σ H _ I hq) λus s1 ⟨xs,H1,I1,r,z,q⟩=>⟨by rw[<-r.length];exact z,?_⟩);have hf:H1 s1.heap.objs.size=none:=I1.a8.fresh (Qg _);refine⟨.ref s1.heap.objs.size,upd H1 s1.heap.objs.size (.lst xs),I1.laid (t':=s1.toks) (λb u e=>Qm _ e) (Qg _) ?_,rfl,q _ hf⟩;exact⟨z,us,0,r,QI _ rfl⟩
abbrev Sp:=List V->Hp->VK->XK->Prop
abbrev AY:=List Env->Hp->Shared->XK->Value->Shared->Prop
structure Fv(P:Program)(w:World)(K:FR)(mg:Str->Option Value)(base:Heap)(A:Around)(outer:List Env)(s:Shared)(H:Hp):Prop where
 frames:A.frames=some outer
 mod:Mod K mg base
 bs:∀b o,base.get? b=some o->s.heap.get? b=some o/\H b=none
 Fz:base.objs.size<=s.heap.objs.size
 og:s.heap.FunFrames base outer
 HS:∀b∈j9 outer,H b=none
 a8:kh P w H s.heap
 bare:AllBare s.gens
def CE(outer:List Env)(P:Program)(w:World)(H:Hp)(s:Shared)(Q:VK)(u:Value)(s':Shared):Prop:=
 ∃v H',s'.os=s.os/\AllBare s'.gens/\Un (j9 outer) [] H H' s.heap s'.heap/\kh P w H' s'.heap/\RelV v u/\Q v H'
def CR(CX:AY)(outer:List Env)(P:Program)(w:World)(H:Hp)(s:Shared)(Q:VK)(E:XK)(r:Result)(s':Shared):Prop:=
 match r with
 | .ok (.ret u)=>CE outer P w H s Q u s'
 | .ok _=>False
 | .error e=>CX outer H s E e s'
structure eO(P:Program)(w:World)(K:FR)(mg:Str->Option Value)(base:Heap)(CX:AY)(k:Nat)(f:Addr)(fd:FuncData)(ps:List Str)(sp:Sp):Prop where
 len:∀vs H Q E,sp vs H Q E->vs.length=ps.length
 run:∀(A:Around)(outer:List Env)(s:Shared)(H:Hp)(args:Args)(us:List Value)(vs:List V)(Q:VK)(E:XK),cH k A->Fv P w K mg base A outer s H->BindsTo s fd args (ps.zip us)->Vals vs us->sp vs H Q E->
  codeAny (model P w) A (.call (.ref f) args) (CR CX outer P w H s Q E) s
theorem eO.imp{P:Program}{w:World}{K:FR}{mg:Str->Option Value}{base:Heap}{CX:AY}{k:Nat}{f:Addr}{fd:FuncData}{ps:List Str}{sp sp':Sp}(F:eO P w K mg base CX k f fd ps sp)
  (h:∀vs H Q E,sp' vs H Q E->sp vs H Q E):eO P w K mg base CX k f fd ps sp':=
 ⟨λvs H Q E q=>F.len vs H Q E (h _ _ _ _ q),λA outer s H args us vs Q E hr he hb hv hs=>F.run A outer s H args us vs Q E hr he hb hv (h _ _ _ _ hs)⟩
theorem Inv.KC(I:Inv X pins σ H s):Fv X.prog X.w X.K X.mg X.base X.A X.stack s H:=
 ⟨I.ok.frames,I.ok.mod,I.bs,Qr I.ok.Fz I.sz,I.stack,I.qc,I.a8,I.bare⟩
theorem Inv.after(I:Inv X pins σ H s)(h:CE X.stack X.prog X.w H s Q u s'):EP X pins σ Q u s':=by
 obtain⟨v,H',os,bare,un,a8,r,q⟩:=h;obtain⟨hh,g,d,t,os'⟩:=s';obtain rfl:os'=s.os:=os;exact⟨v,H',I.call (h':=hh) (g':=g) (d':=d) (t':=t) (ch:=[]) un a8 bare (λb z=>absurd z (by simp)),r,q⟩
def LO(sp:Sp)(dvs:List V)(E:XK)(t:TA):TE:=λσ H Q=>t σ H λvs H1=>sp (vs++dvs) H1 Q E
def Binds(K:FR)(fd:FuncData)(ps:List Str)(ds:List Value):Prop:=
 ∀(s:Shared)(us:List Value),K.In s.heap->(us++ds).length=ps.length->BindsTo s fd ⟨us,[]⟩ (ps.zip (us++ds))
theorem Binds.all{K:FR}{fd:FuncData}{ps:List Str}(h:∀us:List Value,us.length=ps.length->bindArgs fd ⟨us,[]⟩=pure (ps.zip us)):Binds K fd ps []:=λs us _ hl=>by
 rw[Q6] at hl ⊢;exact .of_eq (h us hl)
def Passes(CX:AY)(X:Cx)(E:XK):Prop:=∀(pins:List (Addr×Obj)) (σ:St) (H:Hp) (s:Shared) (e:Value) (s':Shared),Inv X pins σ H s->CX X.stack H s E e s'->X.xe e s'
theorem IX(F:eO X.prog X.w X.K X.mg X.base CX k f fd ps sp)(hr:cH k X.A)(hb:Binds X.K fd ps ds)(hd:Vals dvs ds)(hx:Passes CX X E)(I:Inv X pins σ H s)(r:Vals vs us)(h:sp (vs++dvs) H Q E):wpAny (model X.prog X.w) X.A (call (.ref f) us) (EP X pins σ Q) X.xe s:=by
 have r2:Vals (vs++dvs) (us++ds):=r.append hd;have hl:(us++ds).length=ps.length:=by rw[<-r2.length];exact F.len _ _ _ _ h
 refine wpAny_call (TU (F.run X.A X.stack s H ⟨us,[]⟩ (us++ds) (vs++dvs) Q E hr I.KC (hb s us I.As hl) r2 h) λr s' hq=>?_);cases r with
 | error e=>exact hx pins σ H s e s' I hq
 | ok fl=>
  cases fl with
  | ret u=>exact I.after hq
  | next=>exact False.elim hq
  | brk=>exact False.elim hq
  | cont=>exact False.elim hq
theorem Ag(F:eO X.prog X.w X.K X.mg X.base CX k f fd ps sp)(hr:cH k X.A)(hg:Gl X x)(hm:X.mg x=some (.ref f))(hk:PySem.W.keepIn X.K (.ref f)=true)(hb:Binds X.K fd ps ds)(hd:Vals dvs ds)(hx:Passes CX X E)
  (ha:PA X (e::es) t) (hdb:(x==("__debug__":Str))=false:=by decide) (he:starEach (e::es) X.env=(false,eval e X.env)::starEach es X.env:=by rfl) (hpl:(backTo pos (starEach es X.env)).any (·.1)=false:=by rfl):
  PE X (.Call (.Name x p) (e::es) [] pos) (LO sp dvs E t):=by
 intro pins s σ H Q I h;refine RL (j4 I hg hm ?_ hdb);refine U8 (h₀:=X.base) I.ok.mod.NM hk (cQ (ha pos pins s σ H _ I h) λus s1 ⟨vs,H1,I1,r,q⟩=>⟨I1.As,?_⟩) he hpl;exact IX F hr hb hd hx I1 r q
structure aA(N P:List Str)(sc:Scope):Prop where
 kind:sc.kind=.function
 co:sc.isCoroutine=false
 gen:sc.isGenerator=false
 nd:N.Nodup
 pre:N.take P.length=P
 par:∀x∈P,sc.names.lookup x=some .local\/sc.names.lookup x=some .cell
 JT:∀y∈sc.names,y.2≠.free
theorem uO{kindOf:Str->Option NameKind}{x:Str}:∀{binds:List (Str×Value)} {m:Str->Option Value},(∀v,(x,v)∉binds)->bindL kindOf binds m x=m x
 | [],_,_=>rfl
 |(n,v)::r,m,h=>by
  unfold bindL;rw[uO λw hw=>h w (Qi _ hw)]
  split
  ·have:x≠n:=by rintro rfl;exact h v Qh
   simp[this]
  ·rfl
theorem uQ{kindOf:Str->Option NameKind}{x:Str}:∀{binds:List (Str×Value)} {m:Str->Option Value},(∀v,(x,v)∉binds)->bindC kindOf binds m x=m x
 | [],_,_=>rfl
 |(n,v)::r,m,h=>by
  unfold bindC;rw[uQ λw hw=>h w (Qi _ hw)]
  split
  ·rfl
  ·have:x≠n:=by rintro rfl;exact h v Qh
   simp[this]
theorem uP{kindOf:Str->Option NameKind}{x:Str}{v:Value}:∀{P:List Str} {vs:List Value} {i:Nat} {m:Str->Option Value},P.Nodup->P[i]?=some x->vs[i]?=some v->kindOf x=some .local->
  bindL kindOf (P.zip vs) m x=some v
 | [],_,_,_,_,h,_,_=>by simp at h
 | _::_,[],_,_,_,_,h,_=>by simp at h
 | p::P,w::vs,0,m,nd,h1,h2,hk=>by
  simp at h1 h2;subst h1;subst h2;show bindL kindOf ((p,w)::P.zip vs) m p=_;unfold bindL;rw[uO λv hv=>(TB.mp nd).1 (Up hv).1,Qf hk];simp
 | p::P,w::vs,i+1,m,nd,h1,h2,hk=>by
  show bindL kindOf ((p,w)::P.zip vs) m x=_;unfold bindL;exact uP (i:=i) (TB.mp nd).2 (by simpa using h1) (by simpa using h2) hk
theorem uR{kindOf:Str->Option NameKind}{x:Str}{v:Value}:∀{P:List Str} {vs:List Value} {i:Nat} {m:Str->Option Value},P.Nodup->P[i]?=some x->vs[i]?=some v->kindOf x≠some .local->
  bindC kindOf (P.zip vs) m x=some v
 | [],_,_,_,_,h,_,_=>by simp at h
 | _::_,[],_,_,_,_,h,_=>by simp at h
 | p::P,w::vs,0,m,nd,h1,h2,hk=>by
  simp at h1 h2;subst h1;subst h2;show bindC kindOf ((p,w)::P.zip vs) m p=_;unfold bindC;rw[uQ λv hv=>(TB.mp nd).1 (Up hv).1,Qo hk];simp
 | p::P,w::vs,i+1,m,nd,h1,h2,hk=>by
  show bindC kindOf ((p,w)::P.zip vs) m x=_;unfold bindC;exact uR (i:=i) (TB.mp nd).2 (by simpa using h1) (by simpa using h2) hk
noncomputable def start(N:List Str)(vs:List V):St:=vs.map some++List.replicate (N.length-vs.length) none
abbrev eV(CX:AY)(P:Program)(w:World)(K:FR)(mg:Str->Option Value)(base:Heap)(N:List Str)(qual:Str)(scope:Scope)(f:Addr)(cd:Value)(A:Around)(outer:List Env)(s:Shared)(H:Hp)(E:XK):Cx where
 prog:=P
 w:=w
 K:=K
 mg:=mg
 base:=base
 A:=A.deeper (envOfC qual scope s.heap.objs.size f cd)
 N:=N
 s₀:=s
 H₀:=H
 env:=envOfC qual scope s.heap.objs.size f cd
 outer:=outer
 stack:=envOfC qual scope s.heap.objs.size f cd::outer
 ex:=[]
 calm:=true
 fn:=λ_=>true
 pn:=[]
 xe:=λe s'=>wpAny (model P w) (A.deeper (envOfC qual scope s.heap.objs.size f cd)) (leaving (envOfC qual scope s.heap.objs.size f cd) e) (λ_ s''=>CX outer H s E e s'') (λe' s''=>CX outer H s E e' s'') s'
theorem yp{sc:Scope}{n:Nat}{x:Str}(h:sc.names.lookup x=some .cell):∃c,(cellsFrom n sc.names []).lookup x=some c:=by
 have q:=UM sc.names n [] (.inl h);exact RP.mp q
theorem uE{CX:AY}{P:Program}{w:World}{K:FR}{mg:Str->Option Value}{base:Heap}{N ps:List Str}{qual:Str}{scope:Scope}{f:Addr}{cd:Value}{A:Around}{outer:List Env}{s s1:Shared}{H:Hp}{E:XK}{us:List Value}{vs:List V}
  (S:aA N ps scope) (hd:A.handled=none) (e0:Fv P w K mg base A outer s H) (hl:vs.length=ps.length) (r:Vals vs us)
  (x:InCallC s s.heap.objs.size (bindL (envOfC qual scope s.heap.objs.size f cd).kindOf (ps.zip us) λ_=>none) (cellsFrom (s.heap.objs.size+1) scope.names []) (bindC (envOfC qual scope s.heap.objs.size f cd).kindOf (ps.zip us) λ_=>none) s1):
  Inv (eV CX P w K mg base N qual scope f cd A outer s H E) [] (start N vs) H s1:=by
 have hpl:ps.length<=N.length:=by have:=congrArg List.length S.pre;rw[QB] at this;lia
 obtain⟨h1,tk,rfl,hk⟩:=x.done;have noA:∀b:Addr,b∉(eV CX P w K mg base N qual scope f cd A outer s H E).ex:=λb z=>absurd (show b∈([]:List Addr) from z) (by simp);refine⟨⟨e0.mod,S.kind,rfl,rfl,Qg _,λy z c h1 h2=>?_,λy hy=>?_,λy c _ h=>?_,λ_=>hd,Around.frames_deeper e0.frames,.inr ⟨rfl,rfl⟩,λb z=>absurd z (noA b),e0.bs,e0.Fz,λb _ _=>noA b,λb z=>absurd z (noA b),e0.og,e0.HS⟩,
  rfl,e0.bare,Un.kept hk,⟨_,x.toInCall.ns,λi y v h1 h2 h3=>?_⟩,λy c h=>⟨_,x.cell y c h⟩,e0.a8.fresh (Qg _),λy c h=>?_,λp hp=>absurd (show p∈([]:List (Addr×Obj)) from hp) (by simp),e0.a8.kept hk,?_⟩
 ·exact name_of_addr x.apart (QT h1) (QT h2)
 ·have hy:scope.names.lookup y=some .cell\/scope.names.lookup y=some .free:=hy;rcases hy with hy | hy
  ·exact yp hy
  ·exact absurd rfl (S.JT _ (QT hy))
 ·exact RW (x.above y c (QT h))
 ·have hi:i < vs.length:=by
   unfold start at h2
   by_cases hi:i < vs.length
   ·exact hi
   ·rw[Qv (by simpa using hi)] at h2;rw[UL] at h2
    split at h2 <;> cases h2
  have ha:vs[i]?=some v:=by
   unfold start at h2;rw[Qt (by simpa using hi),Qx] at h2;cases e:vs[i]? with
   | none=>rw[e] at h2;cases h2
   | some a=>rw[e] at h2;cases h2;rfl
  obtain⟨u,hu,rv⟩:=r.get ha;have hp:ps[i]?=some y:=by
   rw[<-S.pre,QQ (by lia)];exact h1
  have ndP:ps.Nodup:=by rw[<-S.pre];exact S.nd.sublist (Uh _ _)
  refine⟨u,rv,?_⟩;rcases S.par y (Qd hp) with k | k
  ·exact .inl ⟨k,uP ndP hp hu k⟩
  ·obtain⟨c,e⟩:=yp (n:=s.heap.objs.size+1) k;refine .inr ⟨.inl k,c,e,?_⟩;have q:=x.cell y c e;rw[uR ndP hp hu (by show scope.names.lookup y≠_;rw[k];decide)] at q;exact q
 ·exact e0.a8.fresh (RW (x.above y c (QT h)))
 ·unfold start;show _=N.length;rw[Qk,Qb,List.length_replicate]
  lia
theorem EB{CX:AY}{P:Program}{w:World}{K:FR}{mg:Str->Option Value}{base:Heap}{k:Nat}{f:Addr}{name qual:Str}{params:Arguments}{body:List Stmt}{scope:Scope}{dV kV doc pm cdv ct oc:Value}{an od:Option Addr}
  {osl:Array (Option Value)} {N ps:List Str} {sp:Sp} (lk:K.lookup f=some ⟨oc,od,.func (PySem.W.fnOf name qual params body scope dV kV doc pm an cdv ct),osl⟩) (hcd:PySem.W.codeIn K cdv qual=true) (S:aA N ps scope)
  (len:∀vs H Q E,sp vs H Q E->vs.length=ps.length)
  (hbody:∀(A:Around)(outer:List Env)(s:Shared)(H:Hp)(vs:List V)(Q:VK)(E:XK),cH k (A.deeper (envOfC qual scope s.heap.objs.size f cdv))->sp vs H Q E->
   ∃t,wQ (eV CX P w K mg base N qual scope f cdv A outer s H E) body t/\t {nx:=λ_ H'=>Q .cu H',rt:=Q} (start N vs) H):
  eO P w K mg base CX (k+1) f (PySem.W.fnOf name qual params body scope dV kV doc pm an cdv ct) ps sp:=by
 refine⟨len,λA outer s H args us vs Q E hr e0 hb r hsp=>?_⟩;have hl:=len _ _ _ _ hsp;have KX:K.In s.heap:=e0.mod.NM.keeps λb o e=>(e0.bs b o e).1;have lim:s.heap.NoLimit:=e0.mod.nolimit.keeps λb o e=>(e0.bs b o e).1;have hkind:∀y∈ps.zip us,scope.names.lookup y.1=some .local\/(scope.names.lookup y.1=some .cell/\((cellsFrom (s.heap.objs.size+1) scope.names []).lookup y.1).isSome=true):=λ⟨n,v⟩ hy=>by
  rcases S.par n (Up hy).1 with q | q
  ·exact .inl q
  ·exact .inr ⟨q,UM _ _ _ (.inl q)⟩
 refine codeAny_call_function hr.depth (KX _ _ lk) rfl S.co S.gen rfl (PySem.W.codeRec_of KX hcd) (hb _ _ _ _ ?_);refine UZ S.kind hkind λenv he s1 x=>?_;subst he;refine⟨lim.keeps x.toInCall.keep,codeAny_func ?_⟩;obtain⟨t,ht,hq⟩:=hbody A outer s H vs Q E (hr.deeper _) hsp;have I:Inv (eV CX P w K mg base N qual scope f cdv A outer s H E) [] (start N vs) H s1:=uE S hr.hd e0 hl r x;refine Q4 (ht [] s1 (start N vs) H _ I hq) (λfl s' hs=>?_) λe s' hs=>hs;have fin:∀{σ':St} {H':Hp} {v:V} {u:Value},Inv (eV CX P w K mg base N qual scope f cdv A outer s H E) [] σ' H' s'->RelV v u->Q v H'->CE outer P w H s Q u s':=
  λ{σ' H' v u} J rv q=>⟨v,H',J.os,J.bare,J.base,J.a8,rv,q⟩
 cases fl with
 | ret u=>
  obtain⟨v,σ',H',J,rv,q⟩:=hs;exact fin J rv q
 | next=>
  obtain⟨σ',H',J,q⟩:=hs;exact fin (v:=V.cu) (u:=Value.none) J rfl q
 | brk=>
  obtain⟨_,_,_,q⟩:=hs;exact False.elim q
 | cont=>
  obtain⟨_,_,_,q⟩:=hs;exact False.elim q
section
variable {X:Cx} {x:Str} {p pos:Pos} {e:Expr} {es:List Expr} {t:TA} {id T:String} {r:List V->Hp->VK->Prop}
def Pp(r:List V->Hp->VK->Prop)(t:TA):TE:=λσ H Q=>t σ H λvs H1=>r vs H1 Q
theorem xy(hc:gy X (.builtin id) r)(hg:Gl X x)(hm:X.mg x=none)(hv:bootBuiltins x=some (.builtin id))(ha:PA X (e::es) t)(hn:x≠"__name__":=by decide)(hdb:(x==("__debug__":Str))=false:=by decide)
  (he:starEach (e::es) X.env=(false,eval e X.env)::starEach es X.env:=by rfl) (hpl:(backTo pos (starEach es X.env)).any (·.1)=false:=by rfl):PE X (.Call (.Name x p) (e::es) [] pos) (Pp r t):=by
 intro pins s σ H Q I h;refine RL (jD I hg hm hv ?_ hn hdb);exact PyProof.Rows.callWith_builtin1 (cQ (ha pos pins s σ H _ I h) λus s1 ⟨vs,H1,I1,r1,q1⟩=>hc pins s1 σ H1 vs us Q I1 r1 q1) he hpl
theorem uf(hc:gy X (.type T) r)(hg:Gl X x)(hm:X.mg x=none)(hv:bootBuiltins x=some (.type T))(ha:PA X (e::es) t)(hn:x≠"__name__":=by decide)(hdb:(x==("__debug__":Str))=false:=by decide)
  (he:starEach (e::es) X.env=(false,eval e X.env)::starEach es X.env:=by rfl) (hpl:(backTo pos (starEach es X.env)).any (·.1)=false:=by rfl):PE X (.Call (.Name x p) (e::es) [] pos) (Pp r t):=by
 intro pins s σ H Q I h;refine RL (jD I hg hm hv ?_ hn hdb);exact Rh (cQ (ha pos pins s σ H _ I h) λus s1 ⟨vs,H1,I1,r1,q1⟩=>hc pins s1 σ H1 vs us Q I1 r1 q1) he hpl
end
end L2
namespace HT
open PySem PyProof.Rows
section
open PySem.SeqAt
open PySem.AutoSeq1 (wpAny_loadPart')
open PySem.MeetsSeq PySem.MeetsSeq2 PySem.MeetsSeq3
end
theorem Hh(ht:IsTup s.heap t vs.toArray)(hb:IsTup s.heap b ws.toArray)(hv:vs≠[])(h1:ws=[]->Q (.ref t) s)(h2:ws≠[]->Q (.ref s.heap.objs.size) {s with heap:=s.heap.push {cls:=.type "tuple",data:=.seq (vs++ws).toArray}})(hsz:vs.length+ws.length<=sizeLine):wpAny (model prog w) A (binaryOp .Add (.ref t) (.ref b)) Q E s:=by
 obtain⟨⟨cls,dd,data,sl⟩,ho,hc,n,hd⟩:=id ht;obtain⟨⟨cls2,dd2,data2,sl2⟩,ho2,hc2,n2,hd2⟩:=id hb;simp only at hc hd hc2 hd2;subst hc hd hc2 hd2;have e:vs.toArray++ws.toArray=(vs++ws).toArray:=by simp
 by_cases hw:ws=[]
 ·exact concat_meets ⟨_,ho,rfl⟩ ⟨_,ho2,rfl⟩ Uz U7 Tt Ts (Tp _ _)
   (tuple_addW1 t b vs.toArray ws.toArray n n2 dd dd2 sl sl2 (by simpa using hv) (by simp[hw])) ⟨ho,ho2,h1 hw⟩
 ·refine concat_meets ⟨_,ho,rfl⟩ ⟨_,ho2,rfl⟩ Uz U7 Tt Ts (Tp _ _)
   (tuple_addW2 t b vs.toArray ws.toArray n n2 dd dd2 sl sl2 (by simpa using hv) (by simpa using hw) (by rw[Qu,Qu];exact hsz)) ⟨ho,ho2,?_⟩
  rw[e];exact h2 hw
noncomputable def cI(n d:Nat):Option Int->Nat
 | none=>d
 | some v=>if v < 0 then(v+(n:Int)).toNat else min v.toNat n
theorem lZ(n d:Nat):cI n d none=d:=rfl
theorem qh(n d k:Nat):cI n d (some (k:Int))=min k n:=by
 show(if(k:Int) < 0 then((k:Int)+(n:Int)).toNat else min (k:Int).toNat n)=min k n;rw[Qo (by lia),SN]
theorem IW(n d:Nat)(hd:d<=n)(o:Option Int):cI n d o<=n:=by
 cases o with
 | none=>exact hd
 | some v=>
  show(if v < 0 then(v+(n:Int)).toNat else min v.toNat n)<=n
  by_cases hv:v < 0
  ·rw[Qf hv];lia
  ·rw[Qo hv];exact Nat.min_le_right _ _
theorem AJ(v:Int)(n d:Nat):(if v < 0 then max (v+(n:Int)) 0 else min v (n:Int))=((cI n d (some v):Nat):Int):=by
 show(if v < 0 then max (v+(n:Int)) 0 else min v (n:Int))=(((if v < 0 then(v+(n:Int)).toNat else min v.toNat n):Nat):Int)
 by_cases hv:v < 0
 ·simp only[Qf hv];lia
 ·simp only[Qo hv];lia
theorem zL(lo hi:Option Int)(n:Nat):Builtin.Slice.sliceAdjust lo hi 1 (n:Int)=(((cI n 0 lo:Nat):Int),((cI n n hi:Nat):Int)):=by
 have h1:¬((1:Int) < 0):=by lia
 unfold Builtin.Slice.sliceAdjust;simp only[h1,UY];refine Prod.ext ?_ ?_
 ·cases lo with
  | none=>rfl
  | some v=>exact AJ v n 0
 ·cases hi with
  | none=>rfl
  | some v=>exact AJ v n n
theorem y7(i j:Nat):Builtin.Slice.slicePlaces (i:Int) (j:Int) 1=j-i:=by
 unfold Builtin.Slice.slicePlaces;have h1:(1:Int) > 0:=by lia
 simp only[h1,Tj,US]
 split <;> lia
theorem qO(p:IsPart v o)(h:Q o s):wpAny (model prog w) A (Builtin.Slice.slicePartIndex v) Q E s:=by
 cases p with
 | none=>exact slicePart_none h
 | int i t=>exact slicePart_int h
theorem g7{sl:Addr}{vl vu:Value}{lo hi:Option Int}{n:Nat}{Q:Int×Int×Nat->Shared->Prop}(hs:s.heap.IsSliceOf sl vl vu .none)(pl:IsPart vl lo)(pu:IsPart vu hi)
  (h:Q (((cI n 0 lo:Nat):Int),1,cI n n hi-cI n 0 lo) s):wpAny (model prog w) A (Builtin.Slice.sliceApplied (.ref sl) (pure (n:Int))) Q E s:=by
 obtain⟨os,hos,hcs,si⟩:=id hs;unfold Builtin.Slice.sliceApplied Builtin.Slice.sliceFields;refine Qe (Qe (Rm hos si (x:=vl) rfl (Qe (Rm hos si (x:=vu) rfl (Qe (Rm hos si (x:=.none) rfl (QC ?_)))))));refine Qe (slicePart_none ?_);show wpAny _ _ (if((1:Int)==0)=true then _ else _) _ _ s;rw[Qo (by decide)];refine Qe (qO pl (Qe (qO pu (Qe (QC ?_)))));show wpAny _ _ (match Builtin.Slice.sliceAdjust lo hi 1 (n:Int) with |(lo,hi)=>pure (lo,(1:Int),Builtin.Slice.slicePlaces lo hi 1)) _ _ s;rw[zL lo hi n];show wpAny _ _ (pure (((cI n 0 lo:Nat):Int),(1:Int),Builtin.Slice.slicePlaces ((cI n 0 lo:Nat):Int) ((cI n n hi:Nat):Int) 1)) _ _ s;rw[y7];exact QC h
theorem DU(xs:Array Value)(i k:Nat):((List.range k).filterMap λ(m:Nat)=>xs[((i:Int)+(m:Int)*1).toNat]?).toArray=((xs.toList.drop i).take k).toArray:=by
 have e:(λ(m:Nat)=>xs[((i:Int)+(m:Int)*1).toNat]?)=λm=>xs[i+m]?:=by
  funext m
  have:((i:Int)+(m:Int)*1).toNat=i+m:=by lia
  rw[this]
 rw[e];have:=pick_run xs i k;rw[Tg] at this;have e2:((λx=>xs[x]?)∘λx=>i+x)=λm=>xs[i+m]?:=rfl;rw[e2] at this;rw[this]
theorem mQ{t sl:Addr}{items:Array Value}{vl vu:Value}{lo hi:Option Int}{Q:Value->Shared->Prop}(ht:IsTup s.heap t items)(hs:s.heap.IsSliceOf sl vl vu .none)(pl:IsPart vl lo)(pu:IsPart vu hi)
  (hw:¬(cI items.size 0 lo=0/\cI items.size items.size hi=items.size))
  (h:Q (.ref s.heap.objs.size) {s with heap:=s.heap.push {cls:=.type "tuple",data:=.seq ((items.toList.drop (cI items.size 0 lo)).take (cI items.size items.size hi-cI items.size 0 lo)).toArray}})
  (hsz:items.size<=sizeLine):wpAny (model prog w) A (getItem (.ref t) (.ref sl)) Q E s:=by
 have htake:sizeOk (.seq ((items.toList.drop (cI items.size 0 lo)).take (cI items.size items.size hi-cI items.size 0 lo)).toArray):=by
  show((items.toList.drop (cI items.size 0 lo)).take (cI items.size items.size hi-cI items.size 0 lo)).toArray.size<=sizeLine;rw[Qu,QB,RS,Sq]
  lia
 have hj:cI items.size items.size hi<=items.size:=IW _ _ (Qg _) hi;obtain⟨os,hos,hcs,si⟩:=id hs;have hTs:s.TypeIs (.ref sl) "slice":=⟨os,hos,hcs⟩;unfold getItem
 try with_reducible refine Td ?_
 first | refine Qe (QC ?_) | skip
 refine Qe (wpAny_sequenceKey ht.typeIs (by decide) ?_);refine Qe (Ry (name:=Str.ofString "__getitem__") ht.typeIs Q5
  (R7 Q5 ht.typeIs entry_tuple_getitem ?_ (args_tuple_getitem _ _)))
 show wpAny _ _ (Builtin.Tuple.tupleItemsOf (.ref t) >>=_) _ _ s;refine Qe (tupleItemsOf_ ht ?_);refine Qe (wpAny_typeOf hTs ?_);rw[Qf (by decide)];refine Qe (g7 hs pl pu ?_);have hno:¬((((cI items.size 0 lo:Nat):Int)==0&&(1:Int)==1&&(cI items.size items.size hi-cI items.size 0 lo)==items.size)=true):=by
  intro q;rw[QN,QN] at q;have q1:((cI items.size 0 lo:Nat):Int)=0:=eq_of_beq q.1.1;have q2:cI items.size items.size hi-cI items.size 0 lo=items.size:=eq_of_beq q.2;exact hw ⟨by lia,by lia⟩
 show wpAny _ _ (if(((cI items.size 0 lo:Nat):Int)==0&&(1:Int)==1&&(cI items.size items.size hi-cI items.size 0 lo)==items.size)=true then _ else _) _ _ s;rw[Qo hno,DU]
 first
  | exact Qe (m:=Builtin.Tuple.tupleExact _) (Rx (QC ⟨_,rfl,QC h⟩) htake)
  | exact Qe (m:=Builtin.Tuple.tupleExact _) (Rx (Qe (QC (QC ⟨_,rfl,QC h⟩))) htake)
  | exact Qe (Qe (m:=Builtin.Tuple.tupleExact _) (Rx (QC (QC ⟨_,rfl,QC h⟩)) htake))
  | exact Qe (Qe (m:=Builtin.Tuple.tupleExact _) (Rx (QC ⟨_,rfl,QC h⟩) htake))
end HT
namespace L2
open PySem PySem.Spec PyProof.Rows
abbrev TO:=St->Hp->(Option Int->Hp->Prop)->Prop
def PO(X:Cx)(e:Option Expr)(t:TO):Prop:=
 ∀(pins:List (Addr×Obj)) (s:Shared) (σ:St) (H:Hp) (Q:Option Int->Hp->Prop),Inv X pins σ H s->t σ H Q->
  wpAny (model X.prog X.w) X.A (evalPart e X.env) (λu s'=>∃o H',Inv X pins σ H' s'/\IsPart u o/\Q o H') X.xe s
noncomputable def FK:TO:=λ_ H Q=>Q none H
def LG(t:TE):TO:=λσ H Q=>t σ H λx H1=>∃i,x=.int i/\Q (some i) H1
theorem intsAre_of:∀{us:List Value},Vals (ns.map V.int) us->IntsAre us ns:=by
 induction ns with
 | nil=>intro us r;rw[RY] at r;cases r;exact .nil
 | cons n ns ih=>
  intro us r;rw[Qp] at r;cases r with
  | cons r1 r2=>
   obtain⟨t,e⟩:=r1;subst e;exact .cons n t (ih r2)
section
variable {X:Cx} {e:Expr} {te:TE} {lo hi:Option Expr} {tl th:TO} {pos p2:Pos}
theorem Gq:PO X none FK:=by
 intro pins s σ H Q I h;rw[evalPart_none];exact QC ⟨none,H,I,.none,h⟩
theorem Gp(h:PE X e te):PO X (some e) (LG te):=by
 intro pins s σ H Q I hw;rw[evalPart_some];refine cQ (h pins s σ H _ I hw) λu s1 ⟨x,H1,I1,r1,q1⟩=>?_;obtain⟨i,rfl,q⟩:=q1;obtain⟨t,rfl⟩:=r1;exact⟨some i,H1,I1,.int i t,q⟩
def La(X:Cx)(r:V->Option Int->Option Int->Hp->VK->Prop):Prop:=
 ∀(pins:List (Addr×Obj)) (s:Shared) (σ:St) (H:Hp) (x:V) (v vl vu:Value) (lo hi:Option Int) (sl:Addr) (Q:VK),Inv X pins σ H s->RelV x v->s.heap.IsSliceOf sl vl vu .none->IsPart vl lo->IsPart vu hi->r x lo hi H Q->
  ∃T id,typeLookup (.type T) "__getitem__"=pure (some (.builtin id))/\s.TypeIs v T/\wpAny (model X.prog X.w) X.A (getItem v (.ref sl)) (EP X pins σ Q) X.xe s
def PV(r:V->Option Int->Option Int->Hp->VK->Prop)(te:TE)(tl th:TO):TE:=λσ H Q=>te σ H λx H1=>tl σ H1 λl H2=>th σ H2 λu H3=>r x l u H3 Q
theorem DX(hr:La X r)(he:PE X e te)(hl:PO X lo tl)(hu:PO X hi th):PE X (.Subscript e (.Slice lo hi none p2) pos) (PV r te tl th):=by
 intro pins s σ H Q I h;refine Subscript_ (cQ (he pins s σ H _ I h) λv s1 ⟨x,H1,I1,r1,q1⟩=>?_);refine wpAny_Slice (cQ (hl pins s1 σ H1 _ I1 q1) λvl s2 ⟨l,H2,I2,pl,q2⟩=>cQ (hu pins s2 σ H2 _ I2 q2) λvu s3 ⟨u,H3,I3,pu,q3⟩=>?_);rw[evalPart_none];refine QC ?_;have I4:Inv X pins σ H3 {s3 with heap:=s3.heap.push {cls:=.type "slice",data:=.fields #[vl,vu,.none]}}:=I3.kept (t':=s3.toks) λb ob q=>Qm _ q;obtain⟨T,id,hT,ht,hg⟩:=hr pins {s3 with heap:=s3.heap.push {cls:=.type "slice",data:=.fields #[vl,vu,.none]}} σ H3 x v vl vu l u s3.heap.objs.size Q I4 r1 (Heap.IsSliceOf.new ..) pl pu q3;show wpAny (model X.prog X.w) X.A (subscriptTail e (.Slice lo hi none p2) v (.ref s3.heap.objs.size)) (EP X pins σ Q) X.xe {s3 with heap:=s3.heap.push {cls:=.type "slice",data:=.fields #[vl,vu,.none]}};exact tail_any (ops:=[.ref s3.heap.objs.size,v]) ht hT hg (by with_unfolding_all rfl)
noncomputable def sI(xs:List V)(lo hi:Option Int):List V:=(xs.drop (HT.cI xs.length 0 lo)).take (HT.cI xs.length xs.length hi-HT.cI xs.length 0 lo)
theorem pA(xs:List V)(lo hi:Option Int):(sI xs lo hi).length<=xs.length:=by
 unfold sI;rw[QB,RS]
 lia
def Ox(K:FR):V->Option Int->Option Int->Hp->VK->Prop:=λx lo hi H Q=>∃a xs,x=.ref a/\kJ K H a xs/\
 ¬(HT.cI xs.length 0 lo=0/\HT.cI xs.length xs.length hi=xs.length)/\∀p,H p=none->Q (.ref p) (upd H p (.tup (sI xs lo hi)))
theorem II:La X (Ox X.K):=by
 intro pins s σ H x v vl vu lo hi sl Q I rx hs pl pu h;obtain⟨a,xs,rfl,hx,hw,q⟩:=h;cases rx;obtain⟨its,r,ht,hz⟩:=I.tuple hx;have hlen:its.toArray.size=xs.length:=by rw[Qu];exact r.length.symm
 refine⟨"tuple",_,Q5.lookup,ht.typeIs,?_⟩;refine HT.mQ ht hs pl pu (by rw[hlen];exact hw) ?_ (by rw[hlen];exact hz);rw[hlen];refine⟨.ref s.heap.objs.size,_,I.laid (t':=s.toks) (o:=.tup (sI xs lo hi)) (λb ob q=>Qm _ q) (Qg _) ?_,rfl,q _ (I.a8.fresh (Qg _))⟩;exact⟨Qr (pA xs lo hi) hz,_,(r.drop (HT.cI xs.length 0 lo)).take (HT.cI xs.length xs.length hi-HT.cI xs.length 0 lo),yw.new _ _⟩
def Mk(K:FR):R2:=λx y H Q=>∃a b xs ys,x=.ref a/\y=.ref b/\kJ K H a xs/\kJ K H b ys/\xs≠[]/\xs.length+ys.length<=sizeLine/\
 (ys=[]->Q (.ref a) H)/\(ys≠[]->∀p,H p=none->Q (.ref p) (upd H p (.tup (xs++ys))))
theorem Vals.qm(r:Vals xs us):us=[]↔xs=[]:=by
 cases r with
 | nil=>simp
 | cons _ _=>simp
theorem GD:oA X (binaryOp .Add) (Mk X.K):=by
 intro pins s σ H x y v u Q I rx ry h;obtain⟨a,b,xs,ys,rfl,rfl,ha,hb,hx,hz,q1,q2⟩:=h;cases rx;cases ry;obtain⟨its,r1,p1,_⟩:=I.tuple ha;obtain⟨its2,r2,p2,_⟩:=I.tuple hb;refine HT.Hh p1 p2 (λz=>hx (r1.qm.mp z)) (λz=>⟨.ref a,H,I,rfl,q1 (r2.qm.mp z)⟩) (λz=>?_) (by rw[<-r1.length,<-r2.length];exact hz);refine⟨.ref s.heap.objs.size,_,I.laid (t':=s.toks) (o:=.tup (xs++ys)) (λb ob q=>Qm _ q) (Qg _) ?_,rfl,q2 (λw=>z (r2.qm.mpr w)) _ (I.a8.fresh (Qg _))⟩;exact⟨by rw[Qk];exact hz,_,r1.append r2,yw.new _ _⟩
end
noncomputable def rZ(n:Nat)(i:Int):Option Nat:=if 0<=i then(if i < n then some i.toNat else none) else if -(n:Int)<=i then some (i+n).toNat else none
noncomputable def gz{α:Type}(xs:List α)(i:Int):Option α:=(rZ xs.length i).bind λj=>xs[j]?
theorem Au(h:rZ n i=some j):seqIndex? i n=some j/\j < n/\-(n:Int)<=i/\i < n:=by
 unfold rZ at h
 by_cases h0:0<=i
 ·rw[Qf h0] at h
  by_cases h1:i < n
  ·rw[Qf h1] at h;have e:i.toNat=j:=Option.some.inj h;exact⟨by rw[seqIndex_of h0 h1,e],by lia,by lia,h1⟩
  ·rw[Qo h1] at h;cases h
 ·rw[Qo h0] at h
  by_cases h1:-(n:Int)<=i
  ·rw[Qf h1] at h;have e:(i+n).toNat=j:=Option.some.inj h;exact⟨by rw[seqIndex_neg (by lia) h1,e],by lia,h1,by lia⟩
  ·rw[Qo h1] at h;cases h
theorem qz(h:gz xs i=some v):∃j,seqIndex? i xs.length=some j/\xs[j]?=some v/\j < xs.length/\-(xs.length:Int)<=i/\i < xs.length:=by
 unfold gz at h;cases e:rZ xs.length i with
 | none=>rw[e] at h;cases h
 | some j=>
  rw[e] at h;obtain⟨h1,h2,h3,h4⟩:=Au e;exact⟨j,h1,h,h2,h3,h4⟩
theorem qy{α:Type}{xs:List α}{j:Nat}{v:α}(h:xs[j]?=some v):gz xs (j:Int)=some v:=by
 have hj:j < xs.length:=(Qc.mp h).1;have e:rZ xs.length (j:Int)=some j:=by
  unfold rZ;rw[Qf (by lia),Qf (by lia)];simp
 unfold gz;rw[e];exact h
theorem Fo(xs:List α)(v:α):gz (xs++[v]) (-1)=some v:=by
 have hl:(xs++[v]).length=xs.length+1:=by simp
 have e:rZ (xs++[v]).length (-1)=some xs.length:=by
  unfold rZ;rw[hl,Qo (by decide),Qf (by lia)];congr 1
  lia
 unfold gz;rw[e];show(xs++[v])[xs.length]?=some v;simp
def nu(b:Expr):Prop:=∀o i,subscripted b false o i=operate [o,i] (getItem o i)
def NA(X:Cx)(r:R2):Prop:=
 ∀(value slice:Expr)(pins:List (Addr×Obj)) (s:Shared) (σ:St) (H:Hp) (x y:V) (v u:Value) (Q:VK),Inv X pins σ H s->RelV x v->RelV y u->r x y H Q->
  subscripted slice false v u=operate [v,u] (getItem v u)->wpAny (model X.prog X.w) X.A (subscriptTail value slice v u) (EP X pins σ Q) X.xe s
def AW(X:Cx)(id:String)(r:V->List V->Hp->VK->Prop):Prop:=
 ∀(pins:List (Addr×Obj)) (s:Shared) (σ:St) (H:Hp) (x:V) (xs:List V) (v:Value) (us:List Value) (Q:VK),Inv X pins σ H s->RelV x v->Vals xs us->r x xs H Q->
  wpAny (model X.prog X.w) X.A (call (.builtin id) (v::us)) (EP X pins σ Q) X.xe s
section
variable {X:Cx} {a b:Expr} {ta tb:TE} {pos:Pos}
theorem Mn(hr:NA X r)(ha:PE X a ta)(hb:PE X b tb)(hs:nu b):PE X (.Subscript a b pos) (LI r ta tb):=by
 intro pins s σ H Q I h;exact Subscript_ (K4 ha hb I h λv u s2 x y H2 I2 rx ry q=>hr a b pins s2 σ H2 x y v u Q I2 rx ry q (hs _ _))
def OI(K:FR):R2:=λx y H Q=>∃p xs i v,x=.ref p/\y=.int i/\gZ K H p xs/\gz xs i=some v/\Q v H
def OG(K:FR):R2:=λx y H Q=>∃p xs i v,x=.ref p/\y=.int i/\kJ K H p xs/\gz xs i=some v/\Q v H
def OH:R2:=λx y H Q=>∃z i c,x=.str z/\y=.int i/\z.length<=sizeLine/\gz z.cps.toList i=some c/\Q (.str ⟨#[c]⟩) H
theorem GR:NA X (OI X.K):=by
 intro value slice pins s σ H x y v u Q I rx ry h hs;obtain⟨p,xs,i,z,rfl,rfl,hq,he,q⟩:=h;cases rx;obtain⟨t,rfl⟩:=ry;obtain⟨its,r,pl,hz⟩:=I.list hq;obtain⟨j,h1,h2,h3,h4,h5⟩:=qz he;obtain⟨w,ew,rw'⟩:=r.get h2;have hl:=r.length;have hn:=lh;have fin:EP X pins σ Q w s:=⟨z,H,I,rw',q⟩
 by_cases h0:0<=i
 ·have hj:i.toNat=j:=by
   rw[seqIndex_of h0 h5] at h1;exact Option.some.inj h1
  exact item_listR pl.isList h0 (by lia) (by rw[hj];simpa using ew) fin hs
 ·have hj:(i+(its.toArray.size:Int)).toNat=j:=by
   rw[seqIndex_neg (by lia) h4] at h1;rw[Qu,<-hl];exact Option.some.inj h1
  exact subscriptTail_builtinR (x:=w) pl.isList.typeIs slot_list_getitem.lookup
   (wpAny_getItem_list_neg (Q:=λr s'=>r=w/\EP X pins σ Q r s') pl.isList (by lia) (by rw[Qu] <;> lia) (by lia) (by rw[hj];simpa using ew) ⟨rfl,fin⟩) hs
theorem Kl:NA X (OG X.K):=by
 intro value slice pins s σ H x y v u Q I rx ry h hs;obtain⟨p,xs,i,z,rfl,rfl,hq,he,q⟩:=h;cases rx;obtain⟨t,rfl⟩:=ry;obtain⟨its,r,pl,hz⟩:=I.tuple hq;obtain⟨j,h1,h2,h3,h4,h5⟩:=qz he;obtain⟨w,ew,rw'⟩:=r.get h2;have hl:=r.length;have hn:=lh;have fin:EP X pins σ Q w s:=⟨z,H,I,rw',q⟩;exact subscriptTail_builtinR (x:=w) pl.typeIs Q5.lookup
  (getItem_tuple (j:=j) (Q:=λr s'=>r=w/\EP X pins σ Q r s') pl (by lia) (by lia) (by rw[Qu,<-hl];exact h1) (by simpa using ew) ⟨rfl,fin⟩) hs
theorem Km:NA X OH:=by
 intro value slice pins s σ H x y v u Q I rx ry h hs;obtain⟨z,i,c,rfl,rfl,hz,he,q⟩:=h;obtain⟨t,rfl⟩:=rx;obtain⟨t',rfl⟩:=ry;obtain⟨j,h1,h2,h3,h4,h5⟩:=qz he;have hl:z.cps.toList.length=z.length:=by simp[Str.length]
 rw[hl] at h1 h4 h5;have hn:=lh;exact tail_any (TR s z t) slot_str_getitem.lookup (getItem_str (c:=c) (by
  have e1:decide (i < -(2^63:Int))=false:=QZ (by lia);have e2:decide (i≥2^63)=false:=QZ (by lia);rw[e1,e2,Bool.or_false]) (by rw[h1];simpa using h2) ⟨.str ⟨#[c]⟩,H,I.tok _,⟨_,rfl⟩,q⟩) hs
theorem zl(its:List Value)(n j:Nat)(u:Value):Obj.mapSeq (·.setIfInBounds j u) {cls:=.type "list",data:=.seq its.toArray n}={cls:=.type "list",data:=.seq (its.set j u).toArray n}:=by
 simp[Obj.mapSeq]
theorem Inv.lst(I:Inv X pins σ H s)(h:H p=some (.lst xs)):
  ∃(its:List Value)(n:Nat),Vals xs its/\s.heap.get? p=some {cls:=.type "list",data:=.seq its.toArray n}/\xs.length<=sizeLine:=by
 obtain⟨z,its,n,r,e⟩:=I.a8 p _ h;exact⟨its,n,r,e,z⟩
theorem Inv.Ka{pins:List (Addr×Obj)}{σ:St}{H:Hp}{s:Shared}{p:Addr}{xs ys:List V}{its its':List Value}{n n':Nat}{f:Obj->Obj}(I:Inv X pins σ H s)(h:H p=some (.lst xs))
  (ho:s.heap.get? p=some {cls:=.type "list",data:=.seq its.toArray n}) (hf:f {cls:=.type "list",data:=.seq its.toArray n}={cls:=.type "list",data:=.seq its'.toArray n'}) (r:Vals ys its') (hz:ys.length<=sizeLine) (t:Nat):
  Inv X pins σ (upd H p (.lst ys)) {s with heap:=s.heap.update p f,toks:=t}:=by
 have e:(s.heap.update p f).get? p=some {cls:=.type "list",data:=.seq its'.toArray n'}:=by
  rw[Heap.get?_update_self f ho (by rw[hf] <;> rfl),hf]
 refine I.write (x:=p) (e:=p) (by rw[h];trivial) (.inl rfl) (λb u hb q=>(Heap.get?_update_other _ _ (RM hb)).trans q) ⟨_,e⟩ ?_;exact⟨hz,its',n',r,e⟩
def Mj:V->V->V->Hp->(Hp->Prop)->Prop:=λo i v H Q=>∃p xs k j,o=.ref p/\i=.int k/\H p=some (.lst xs)/\rZ xs.length k=some j/\Q (upd H p (.lst (xs.set j v)))
theorem set_list:Ld X Mj:=by
 intro pins s σ H o i v ov iv u Q I ro ri rv h;obtain⟨p,xs,k,j,rfl,rfl,hp,hj,q⟩:=h;cases ro;obtain⟨t,rfl⟩:=ri;obtain⟨its,n,r,ho,hz⟩:=I.lst hp;obtain⟨h1,h2,h3,h4⟩:=Au hj;have hl:=r.length;have hn:=lh;have I':Inv X pins σ (upd H p (.lst (xs.set j v))) {s with heap:=s.heap.update p (Obj.mapSeq (·.setIfInBounds j u))}:=
  I.Ka hp ho (zl its n j u) (r.set rv j) (by rw[Rf];exact hz) s.toks
 by_cases h0:0<=k
 ·have hk:k.toNat=j:=by
   rw[seqIndex_of h0 h4] at h1;exact Option.some.inj h1
  exact PySem.W.ki_setAt ho h0 (by lia) (by rw[Qu,<-hl];exact h4) (by rw[hk];exact⟨_,I',q⟩)
 ·have hk:(k+(its.toArray.size:Int)).toNat=j:=by
   rw[seqIndex_neg (by lia) h3] at h1;rw[Qu,<-hl];exact Option.some.inj h1
  exact PySem.W.ki_setBack ho (by lia) (by rw[Qu,<-hl];exact h3) (by lia) (by rw[hk];exact⟨_,I',q⟩)
theorem vf(lo hi:Option Int)(n:Nat):(sliceBounds lo hi none n).1=((HT.cI n 0 lo:Nat):Int)/\(sliceBounds lo hi none n).2.1=((HT.cI n n hi:Nat):Int)/\(sliceBounds lo hi none n).2.2=1:=by
 refine⟨?_,?_,rfl⟩
 ·cases lo with
  | none=>simp[sliceBounds,HT.cI]
  | some i=>
   simp only[sliceBounds,HT.cI,Option.getD_none,show(1:Int) > 0 by decide,Tj]
   by_cases h:i < 0
   ·simp only[h,Tj] <;> lia
   ·simp only[h,UY] <;> lia
 ·cases hi with
  | none=>simp[sliceBounds,HT.cI]
  | some i=>
   simp only[sliceBounds,HT.cI,Option.getD_none,show(1:Int) > 0 by decide,Tj]
   by_cases h:i < 0
   ·simp only[h,Tj] <;> lia
   ·simp only[h,UY] <;> lia
theorem sZ(its:List Value)(lo hi:Option Int):slicePick its.toArray lo hi none=((its.drop (HT.cI its.length 0 lo)).take (HT.cI its.length its.length hi-HT.cI its.length 0 lo)).toArray:=by
 obtain⟨h1,h2,h3⟩:=vf lo hi its.toArray.size;unfold slicePick;rw[h1,h2,h3];simp only[sliceRange_one,pick_run,Qu] <;> rfl
def Oz(K:FR):V->Option Int->Option Int->Hp->VK->Prop:=λx lo hi H Q=>∃a xs,x=.ref a/\gZ K H a xs/\∀p,H p=none->Q (.ref p) (upd H p (.lst (sI xs lo hi)))
theorem FT:La X (Oz X.K):=by
 intro pins s σ H x v vl vu lo hi sl Q I rx hs pl pu h;obtain⟨a,xs,rfl,hx,q⟩:=h;cases rx;obtain⟨its,r,ht,hz⟩:=I.list hx;have hlen:=r.length;refine⟨"list",_,slot_list_getitem.lookup,ht.isList.typeIs,?_⟩;refine wpAny_getItem_list_slice ht.isList hs pl pu .none (by simp) ?_ (by rw[Qu] <;> lia);rw[sZ,<-hlen];refine⟨.ref s.heap.objs.size,_,I.laid (t':=s.toks) (o:=.lst (sI xs lo hi)) (λb ob q=>Qm _ q) (Qg _) ?_,rfl,q _ (I.a8.fresh (Qg _))⟩;exact⟨Qr (pA xs lo hi) hz,_,0,(r.drop (HT.cI xs.length 0 lo)).take (HT.cI xs.length xs.length hi-HT.cI xs.length 0 lo),QI _ rfl⟩
theorem wB:gy X (.builtin "len") (λxs H Q=>∃p ys,xs=[.ref p]/\(gZ X.K H p ys\/kJ X.K H p ys)/\Q (.int ys.length) H):=by
 intro pins s σ H xs us Q I r h;obtain⟨p,ys,rfl,hq,q⟩:=h;obtain⟨u,rfl,rx⟩:=vals1 r;cases rx;have hn:=lh;rcases hq with hq | hq
 ·obtain⟨its,r',pl,hz⟩:=I.list hq;have hlen:=r'.length;exact Calls.call_len_list pl.isList (by simp only[Qu] <;> lia) ⟨.int ys.length,H,I.tok _,⟨s.toks+1,by rw[Qu,hlen]⟩,q⟩
 ·obtain⟨its,r',pl,hz⟩:=I.tuple hq;have hlen:=r'.length;exact len_tuple pl (by simp only[Qu] <;> lia) ⟨.int ys.length,H,I.tok _,⟨s.toks+1,by rw[Qu,hlen]⟩,q⟩
theorem wA:gy X (.builtin "len") (λxs H Q=>∃z,xs=[.str z]/\z.length<=sizeLine/\Q (.int z.length) H):=by
 intro pins s σ H xs us Q I r h;obtain⟨z,rfl,hz,q⟩:=h;obtain⟨u,rfl,t,rfl⟩:=vals1 r;have hn:=lh;exact len_str (by lia) ⟨.int z.length,H,I.tok _,⟨_,rfl⟩,q⟩
theorem wz:gy X (.type "list") (λxs H Q=>∃p ys,xs=[.ref p]/\(gZ X.K H p ys\/kJ X.K H p ys)/\∀l,H l=none->Q (.ref l) (upd H l (.lst ys))):=by
 intro pins s σ H xs us Q I r h;obtain⟨p,ys,rfl,hq,q⟩:=h;obtain⟨u,rfl,rx⟩:=vals1 r;cases rx;have fin:∀(its:List Value),Vals ys its->ys.length<=sizeLine->∀(h':Heap)(c':Nat),(∀b o',s.heap.get? b=some o'->h'.get? b=some o')->
   h'.get? s.heap.objs.size=some {cls:=.type "list",dict:=none,data:=.seq its.toArray c',slots:=#[]}->EP X pins σ Q (.ref s.heap.objs.size) {s with heap:=h'}:=λits r' hz h' c' kp e=>
  ⟨.ref s.heap.objs.size,_,I.laid (t':=s.toks) kp (Qg _) (show cf X.prog X.w _ h' _ (.lst ys) from⟨hz,its,c',r',e⟩),rfl,q _ (I.a8.fresh (Qg _))⟩
 rcases hq with hq | hq
 ·obtain⟨its,r',pl,hz⟩:=I.list hq;have hlen:=r'.length;obtain⟨o,ho,hc,n,hd⟩:=pl.isList;exact call_list_seq p (.inl rfl) ho hc hd (λh' c' kp e=>fin its r' hz h' c' kp e) (by simp only[Qu] <;> lia)
 ·obtain⟨its,r',pl,hz⟩:=I.tuple hq;have hlen:=r'.length;obtain⟨o,ho,hc,n,hd⟩:=pl;exact call_list_seq p (.inr rfl) ho hc hd (λh' c' kp e=>fin its r' hz h' c' kp e) (by simp only[Qu] <;> lia)
theorem tW:gy X (.type "tuple") (λxs H Q=>∃p ys,xs=[.ref p]/\((gZ X.K H p ys/\∀l,H l=none->Q (.ref l) (upd H l (.tup ys)))\/(kJ X.K H p ys/\Q (.ref p) H))):=by
 intro pins s σ H xs us Q I r h;obtain⟨p,ys,rfl,h⟩:=h;obtain⟨u,rfl,rx⟩:=vals1 r;cases rx;rcases h with⟨hq,q⟩ |⟨hq,q⟩
 ·obtain⟨its,r',pl,hz⟩:=I.list hq;have hlen:=r'.length;refine call_tuple_list pl.isList (λh' kp=>?_) (by simp only[Qu] <;> lia);have I1:Inv X pins σ H {s with heap:=h'}:=I.kept (t':=s.toks) kp;have I2:Inv X pins σ (upd H h'.objs.size (.tup ys)) {s with heap:=h'.push {cls:=.type "tuple",data:=.seq its.toArray}}:=
   I1.laid (t':=s.toks) (λb o e=>Qm _ e) (Qg _) (show cf X.prog X.w _ _ _ (.tup ys) from⟨hz,its,r',yw.new _ _⟩)
  exact⟨.ref h'.objs.size,_,I2,rfl,q _ (I1.a8.fresh (Qg _))⟩
 ·obtain⟨its,r',pl,hz⟩:=I.tuple hq;exact call_tuple_same pl ⟨.ref p,H,I,rfl,q⟩
def Hu(K:FR)(T:String)(x:V)(H:Hp):Prop:=match x with
 | .str _=>T="str"
 | .int _=>T="int"
 | .ref p=>(T="list"/\∃xs,gZ K H p xs)\/(T="tuple"/\∃o,K.lookup p=some o/\o.cls=.type "tuple"/\o.dict=none)\/
   (T="dict"/\((∃kvs,H p=some (.dK kvs))\/(∃kvs,H p=some (.dT kvs))\/∃φ,H p=some (.AB φ)/\∀w h,φ w h->∃o,h.get? p=some o/\o.ExactDict))\/(T="set"/\∃S n,H p=some (.set S n))
 | _=>False
theorem CF(I:Inv X pins σ H s)(r:RelV x v)(ty:Hu X.K T x H):
  s.TypeIs v T/\∀a,v=.ref a->∃ob,s.heap.get? a=some ob/\ob.dict=none:=by
 cases x with
 | str z=>
  obtain⟨t,rfl⟩:=r;cases(show T="str" from ty);exact⟨TR s z t,λ_ e=>nomatch e⟩
 | int i=>
  obtain⟨t,rfl⟩:=r;cases(show T="int" from ty);exact⟨typeIs_int s i t,λ_ e=>nomatch e⟩
 | ref p=>
  cases r;rcases ty with⟨rfl,xs,hq⟩ |⟨rfl,o,hk,hc,hd⟩ |⟨rfl,hk⟩ |⟨rfl,S,n,hk⟩
  ·obtain⟨its,_,pl,_⟩:=I.list hq;refine⟨pl.isList.typeIs,λa e=>?_⟩;cases e;obtain⟨o,n,e,c,hd,_⟩:=pl;exact⟨o,e,hd⟩
  ·refine⟨⟨o,I.As p o hk,hc⟩,λa e=>?_⟩;cases e;exact⟨o,I.As _ o hk,hd⟩
  ·have z:∃o,s.heap.get? p=some o/\o.ExactDict:=by
    rcases hk with⟨kvs,hk⟩ |⟨kvs,hk⟩ |⟨φ,hk,hφ⟩
    ·obtain⟨_,_,_,_,o,_,_,e,ex,_⟩:=I.a8 p _ hk;exact⟨o,e,ex⟩
    ·obtain⟨_,_,_,_,o,_,_,e,ex,_⟩:=I.a8 p _ hk;exact⟨o,e,ex⟩
    ·obtain⟨q,_⟩:=I.a8 p _ hk;exact hφ _ _ q
   obtain⟨o,e,ex⟩:=z;refine⟨⟨o,e,ex.1⟩,λa e2=>?_⟩;cases e2;exact⟨o,e,ex.2.1⟩
  ·obtain⟨o,_,_,_,e,ex,_⟩:=I.a8 p _ hk;refine⟨⟨o,e,ex.1⟩,λa e2=>?_⟩;cases e2;exact⟨o,e,ex.2.1⟩
 | _=>exact False.elim ty
def N9(K:FR)(T:String)(r:V->List V->Hp->VK->Prop)(to:TE):TE:=λσ H Q=>to σ H λx H1=>Hu K T x H1/\r x [] H1 Q
def P1(K:FR)(T:String)(r:V->List V->Hp->VK->Prop)(to:TE)(t:TA):TE:=λσ H Q=>to σ H λx H1=>Hu K T x H1/\t σ H1 λxs H2=>r x xs H2 Q
variable {o e:Expr} {es:List Expr} {to:TE} {t:TA} {name:Str} {apos cpos:Pos} {T id:String} {r:V->List V->Hp->VK->Prop}
theorem JA(pa:PlainAttrs T)(slot:Slot T name id)(hty:typeOf (.builtin id)=pure (.type "method_descriptor"))(hm:AW X id r)(ho:PE X o to)
  (hbase:attributeBase o name X.env (eval o X.env)=eval o X.env:=by rfl) (hline:(apos.endLine==cpos.line)=true:=by rfl):PE X (.Call (.Attribute o name apos) [] [] cpos) (N9 X.K T r to):=by
 intro pins s σ H Q I h;refine wpAny_Call_method0_late hbase hline (cQ (ho pins s σ H _ I h) λv s1 ⟨x,H1,I1,r1,ty,q1⟩=>?_);obtain⟨h1,h2⟩:=CF I1 r1 ty;exact⟨T,id,pa,slot,hty,h1,h2,Calls.callWith_builtin rfl (PySem.evalArgs_none (hm pins s1 σ H1 x [] v [] Q I1 r1 .nil q1))⟩
theorem Mo(pa:PlainAttrs T)(slot:Slot T name id)(hty:typeOf (.builtin id)=pure (.type "method_descriptor"))(hm:AW X id r)(ho:PE X o to)(ha:PA X (e::es) t)
  (hbase:attributeBase o name X.env (eval o X.env)=eval o X.env:=by rfl)
  (hfew:((backTo cpos (starEach (e::es) X.env)).all (λx=>!x.1)&&(backToKw cpos (keywordEach [] X.env)).all (λx=>x.1.isSome)
   &&decide ((e::es).length+([]:List Keyword).length+(if([]:List Keyword).isEmpty then 0 else 1) < 30))=true:=by rfl)
  (hline:(apos.endLine==cpos.line)=true:=by rfl) (hs:starEach (e::es) X.env=(false,eval e X.env)::starEach es X.env:=by rfl) (hplain:(backTo cpos (starEach es X.env)).any (·.1)=false:=by rfl):
  PE X (.Call (.Attribute o name apos) (e::es) [] cpos) (P1 X.K T r to t):=by
 intro pins s σ H Q I h;refine wpAny_Call_method_late hbase hfew hline rfl (cQ (ho pins s σ H _ I h) λv s1 ⟨x,H1,I1,r1,ty,q1⟩=>?_);obtain⟨h1,h2⟩:=CF I1 r1 ty;refine⟨T,id,pa,slot,hty,h1,h2,?_⟩;have hA:=ha cpos pins s1 σ H1 _ I1 q1;rw[hs] at hA ⊢;refine Calls.callWith_builtin (by show(false||(backTo cpos (starEach es X.env)).any (·.1))=false;rw[hplain] <;> rfl) (Calls.evalArgs_plain ?_);exact cQ hA λus s2 ⟨vs,H2,I2,r2,q2⟩=>hm pins s2 σ H2 x vs v us Q I2 r1 r2 q2
end
def Pd(X:Cx)(id:String)(r:V->List V->Hp->VK->Prop):Prop:=
 ∀(pins:List (Addr×Obj)) (s:Shared) (σ:St) (H:Hp) (x:V) (xs:List V) (v:Value) (us:List Value) (Q:VK),Inv X pins σ H s->RelV x v->Vals xs us->r x xs H Q->
  wpAny (model X.prog X.w) X.A (call (.builtin id) (v::us)) (EP X pins σ Q) X.xe s
theorem Vals.one{x:V}{us:List Value}(h:Vals [x] us):∃u,us=[u]/\RelV x u:=by
 cases h with
 | cons r t=>cases t;exact⟨_,rfl,r⟩
theorem Vals.two{x y:V}{us:List Value}(h:Vals [x,y] us):∃u v,us=[u,v]/\RelV x u/\RelV y v:=by
 cases h with
 | cons r t=>cases t with
  | cons q z=>cases z;exact⟨_,_,rfl,r,q⟩
theorem Vals.zero:∀{us:List Value},Vals [] us->us=[]
 | _,.nil=>rfl
theorem Vals.dropLast(h:Vals xs us):Vals xs.dropLast us.dropLast:=by
 induction h with
 | nil=>exact .nil
 | cons r t ih=>
  cases t with
  | nil=>exact .nil
  | cons q t'=>exact .cons r ih
theorem Vals.rep(h:Vals xs us):∀k:Nat,Vals (List.replicate k xs).flatten (List.replicate k us).flatten
 | 0=>.nil
 | k+1=>by
  rw[Ru,Ru,RO,RO];exact Vals.append h (Vals.rep h k)
theorem zy(l:List α):l.eraseIdx (l.length-1)=l.dropLast:=by
 induction l with
 | nil=>rfl
 | cons a r ih=>
  cases r with
  | nil=>rfl
  | cons b r=>
   have e:(a::b::r).length-1=((b::r).length-1)+1:=by
    have h1:(a::b::r).length=r.length+2:=rfl;have h2:(b::r).length=r.length+1:=rfl
    lia
   rw[e,List.eraseIdx_cons_succ,ih]
   all_goals rfl
theorem foldl_rep(its:List Value):∀(k:Nat)(acc:List Value),
  List.foldl (λx1 x2=>x1++x2) acc.toArray (List.replicate k its.toArray)=(acc++(List.replicate k its).flatten).toArray
 | 0,acc=>by simp
 | k+1,acc=>by
  have e:acc.toArray++its.toArray=(acc++its).toArray:=by simp
  have e2:(acc++its)++(List.replicate k its).flatten=acc++(List.replicate (k+1) its).flatten:=by
   rw[Ru,RO,QG]
  rw[<-e2,<-foldl_rep its k (acc++its),<-e,Ru,List.foldl_cons]
theorem Inv.Kb{its its':List Value}{n:Nat}{f:Array Value->Array Value}{t':Nat}(I:Inv X pins σ H s)(hH:H l=some (.lst xs))
  (e:s.heap.get? l=some {cls:=.type "list",data:=.seq its.toArray n}) (hf:f its.toArray=its'.toArray) (hv:Vals ys its') (hz:ys.length<=sizeLine):
  Inv X pins σ (upd H l (.lst ys)) {s with heap:=s.heap.update l (Obj.mapSeq f),toks:=t'}:=by
 have q:=PySem.IsL.update e f;rw[hf] at q;refine I.write (x:=l) (e:=l) (by rw[hH];exact trivial) (.inl rfl) (λb' u hb hu=>(Heap.get?_update_other s.heap (Obj.mapSeq f) (RM hb)).trans hu) ⟨_,q⟩ ?_;exact⟨hz,its',_,hv,q⟩
theorem Inv.Kd(I:Inv X pins σ H s)(hv:Vals ys its)(hz:ys.length<=sizeLine):
  Inv X pins σ (upd H s.heap.objs.size (.lst ys)) {s with heap:=s.heap.push {cls:=.type "list",data:=.seq its.toArray},toks:=t'}:=
 I.laid (λ_ _ q=>Qm _ q) (Qg _) ⟨hz,its,0,hv,QI _ rfl⟩
theorem Inv.fresh(I:Inv X pins σ H s):H s.heap.objs.size=none:=I.a8.fresh (Qg _)
theorem Inv.zm(I:Inv X pins σ H s)(hH:H l=some (.lst xs)):xs.length<=sizeLine/\∃(its:List Value)(n:Nat),Vals xs its/\xs.length=its.length/\s.heap.get? l=some {cls:=.type "list",data:=.seq its.toArray n}:=by
 obtain⟨z,its,n,r,e⟩:=I.a8 l _ hH;exact⟨z,its,n,r,r.length,e⟩
theorem xK(h:n<=sizeLine):Builtin.List.listTooLong n=false:=by
 unfold Builtin.List.listTooLong;exact QZ (by lia)
def Ge:V->List V->Hp->VK->Prop:=λx vs H Q=>∃l xs y,x=.ref l/\vs=[y]/\H l=some (.lst xs)/\xs.length < sizeLine/\Q .cu (upd H l (.lst (xs++[y])))
theorem uw:Pd X "list.append" Ge:=by
 intro pins s σ H x vs v us Q I rx rv h;obtain⟨l,xs,y,rfl,rfl,hH,hz,q⟩:=h;cases rx;obtain⟨u,rfl,ru⟩:=rv.one;obtain⟨z,its,n,r,hl,e⟩:=I.zm hH;refine Ss SD ⟨_,e,rfl⟩ F.entry_list_append (F.args_list_append_2 _ _) (PySem.list_append l its.toArray n u (by rw[Qu];lia)) ⟨e,?_⟩;refine⟨.cu,_,I.Kb (its':=its++[u]) hH e (by simp) (r.append (.cons ru .nil)) ?_,rfl,q⟩;rw[Qk,TH]
 lia
def Gd:V->List V->Hp->VK->Prop:=λx vs H Q=>∃l b xs zs,x=.ref l/\vs=[.ref b]/\H l=some (.lst xs)/\H b=some (.lst zs)/\xs.length+zs.length<=sizeLine/\Q .cu (upd H l (.lst (xs++zs)))
theorem BC:Pd X "list.extend" Gd:=by
 intro pins s σ H x vs v us Q I rx rv h;obtain⟨l,b,xs,zs,rfl,rfl,hH,hB,hz,q⟩:=h;cases rx;obtain⟨u,rfl,ru⟩:=rv.one;cases ru;obtain⟨z,its,n,r,hl,e⟩:=I.zm hH;obtain⟨z2,its2,n2,r2,hl2,e2⟩:=I.zm hB;have hsz:its.toArray.size+its2.toArray.size<=sizeLine:=by rw[Qu,Qu];lia
 have hlong:¬(!its.toArray.isEmpty&&Builtin.List.listTooLong (its.toArray.size+its2.toArray.size))=true:=by
  rw[xK hsz,Bool.and_false];exact R6
 refine Ss TF ⟨_,e,rfl⟩ F.entry_list_extend (F.args_list_extend_2 _ _)
  (AutoSeq1.list_extend_list_list_0 l its.toArray n b its2.toArray n2 hlong (by rw[Qu];lia) (by lia)) ⟨e,e2,?_⟩
 refine⟨.cu,_,I.Kb (its':=its++its2) hH e (by simp) (r.append r2) ?_,rfl,q⟩;rw[Qk]
 lia
def OF:V->List V->Hp->VK->Prop:=λx vs H Q=>∃l xs y,x=.ref l/\vs=[]/\H l=some (.lst xs)/\xs[xs.length-1]?=some y/\Q y (upd H l (.lst xs.dropLast))
theorem JU:Pd X "list.pop" OF:=by
 intro pins s σ H x vs v us Q I rx rv h;obtain⟨l,xs,y,rfl,rfl,hH,hy,q⟩:=h;cases rx;have hus:=rv.zero;subst hus;obtain⟨z,its,n,r,hl,e⟩:=I.zm hH;obtain⟨u,hu,ru⟩:=r.get hy;have hy':its.toArray[its.toArray.size-1]?=some u:=by
  show its.toArray[its.length-1]?=some u;rw[<-Array.getElem?_toList,<-hl];exact hu
 refine Ss F.slot_list_pop ⟨_,e,rfl⟩ F.entry_list_pop (F.args_list_pop_1 _) (MeetsSeq.list_pop_last l its.toArray n u hy' (by rw[Qu];lia)) ⟨e,?_⟩;refine⟨y,_,I.Kb (its':=its.dropLast) hH e ?_ r.dropLast ?_,ru,q⟩
 ·show its.toArray.eraseIdxIfInBounds (its.toArray.size-1)=its.dropLast.toArray;rw[Qu,List.eraseIdxIfInBounds_toArray,zy]
 ·rw[U3]
  lia
def OJ:R2:=λx y H Q=>∃l b xs zs,x=.ref l/\y=.ref b/\H l=some (.lst xs)/\H b=some (.lst zs)/\xs.length+zs.length<=sizeLine/\∀p,H p=none->Q (.ref p) (upd H p (.lst (xs++zs)))
theorem Ed:oA X (binaryOp .Add) OJ:=by
 intro pins s σ H x y v u Q I rx ry h;obtain⟨l,b,xs,zs,rfl,rfl,hH,hB,hz,q⟩:=h;cases rx;cases ry;obtain⟨z,its,n,r,hl,e⟩:=I.zm hH;obtain⟨z2,its2,n2,r2,hl2,e2⟩:=I.zm hB;refine PySem.P.add_list e e2 ?_ (by rw[Qu,Qu];lia);have ea:its.toArray++its2.toArray=(its++its2).toArray:=by simp
 rw[ea];exact⟨.ref _,_,I.Kd (t':=s.toks) (r.append r2) (by rw[Qk];lia),rfl,q _ I.fresh⟩
def OE:R2:=λx y H Q=>∃l k xs,x=.ref l/\y=.int k/\H l=some (.lst xs)/\-(2^63)<=k/\k < 2^63/\xs.length*k.toNat<=sizeLine/\
 ∀p,H p=none->Q (.ref p) (upd H p (.lst (List.replicate k.toNat xs).flatten))
theorem len_rep(xs:List α)(k:Nat):(List.replicate k xs).flatten.length=k*xs.length:=by
 induction k with
 | zero=>simp
 | succ k ih=>rw[Ru,RO,Qk,ih,Nat.succ_mul,Ug]
theorem JK:oA X (binaryOp .Mult) OE:=by
 intro pins s σ H x y v u Q I rx ry h;obtain⟨l,k,xs,rfl,rfl,hH,h1,h2,hz,q⟩:=h;cases rx;obtain⟨t,rfl⟩:=ry;obtain⟨z,its,n,r,hl,e⟩:=I.zm hH;have hlen:its.toArray.size*k.toNat<=sizeLine:=by rw[Qu,<-hl];exact hz
 have hcap:¬its.toArray.size*k.toNat > (2^63-1) / 8:=by
  have:(sizeLine:Nat)<=(2^63-1) / 8:=by decide
  lia
 have hfit:¬(!Builtin.List.listFitsIndex k)=true:=by
  rw[fitsIndex_both h1 h2];exact R6
 have hlong:¬Builtin.List.listTooLong (its.toArray.size*k.toNat)=true:=by
  rw[xK hlen];exact R6
 have hnew:List.foldl (λx1 x2=>x1++x2) #[] (List.replicate (if its.toArray.isEmpty=true then 0 else k.toNat) its.toArray)=(List.replicate k.toNat its).flatten.toArray:=by
  have f0:∀m:Nat,List.foldl (λx1 x2=>x1++x2) #[] (List.replicate m its.toArray)=(List.replicate m its).flatten.toArray:=λm=>by
   have:=foldl_rep its m [];rw[Rj] at this;exact this
  rw[f0];cases its with
  | nil=>simp
  | cons a r'=>rw[Qo (by simp)]
 refine wpAny_binaryOp_repeat_ref (T:="list") (U:="int") (by decide) ⟨_,e,rfl⟩ (λs'=>typeIs_int s' k t) noFill_list_mul F.fills_int_mul F.slot_int_rmul repeat_list F.slot_int_index.lookup
  (Ss F.slot_int_rmul (typeIs_int s k t) F.entry_int_rmul (F.args_int_rmul_2 _ _) (int___rmul___int_list k t l its.toArray n)
   ⟨e,rfl,⟨_,e,rfl⟩,Ss F.slot_list_mul ⟨_,e,rfl⟩ F.entry_list_mul (F.args_list_mul_2 _ _) (AutoListH.list___mul___list_int_3 l its.toArray n k t hfit hcap hlong) ⟨e,?_⟩⟩)
 rw[hnew];exact⟨.ref _,_,I.Kd (t':=s.toks) (r.rep k.toNat) (by rw[len_rep,Nat.mul_comm];exact hz),rfl,q _ I.fresh⟩
section
variable {κ:Type} [DecidableEq κ]
noncomputable def jb(kvs:List (κ×V))(k:κ):Option V:=(kvs.find? λkv=>decide (kv.1=k)).map (·.2)
noncomputable def putK(kvs:List (κ×V))(k:κ)(v:V):List (κ×V):=
 if(kvs.any λkv=>decide (kv.1=k))=true then kvs.map (λkv=>if kv.1=k then(kv.1,v) else kv) else kvs++[(k,v)]
theorem qD{p:κ×V}{r:List (κ×V)}{k:κ}(e:p.1=k):jb (p::r) k=some p.2:=by simp[jb,R8,e]
theorem lI{p:κ×V}{r:List (κ×V)}{k:κ}(e:¬p.1=k):jb (p::r) k=jb r k:=by simp[jb,R8,e]
theorem wU(k:κ):∀kvs:List (κ×V),(kvs.any λkv=>decide (kv.1=k))=(jb kvs k).isSome
 | []=>rfl
 | p::r=>by
  rw[R9]
  by_cases e:p.1=k
  ·simp only[qD e,QP e,Bool.true_or,Option.isSome_some]
  ·rw[lI e,QZ e,Bool.false_or];exact wU k r
theorem jC(kvs:List (κ×V))(k:κ)(v:V):(putK kvs k v).length<=kvs.length+1:=by
 unfold putK
 split
 ·rw[Qb];lia
 ·rw[Qk,Qj,RI];lia
theorem pY.ig(r:pY o u):o.isSome=u.isSome:=by
 cases o with
 | none=>cases u with
  | none=>rfl
  | some _=>exact(show False from r).elim
 | some _=>cases u with
  | none=>exact(show False from r).elim
  | some _=>rfl
theorem pY.getD(r:pY o u)(rd:RelV d d'):RelV (o.getD d) (u.getD d'):=by
 cases o with
 | none=>cases u with
  | none=>exact rd
  | some _=>exact(show False from r).elim
 | some _=>cases u with
  | none=>exact(show False from r).elim
  | some _=>exact r
theorem KV.val{kvs:List (κ×V)}{vs:List (κ×Value)}(r:KV kvs vs)(k:κ):pY (jb kvs k) (valueAt vs k):=by
 unfold KV at r
 induction r with
 | nil=>exact True.intro
 | @cons p q ps qs h t ih=>
  obtain⟨h1,h2⟩:=h
  by_cases e:p.1=k
  ·have e':q.1=k:=h1.symm.trans e;have b:valueAt (q::qs) k=some q.2:=by simp[valueAt,R8,e']
   rw[qD e,b];exact h2
  ·have e':¬q.1=k:=λz=>e (h1.trans z);have b:valueAt (q::qs) k=valueAt qs k:=by simp[valueAt,R8,e']
   rw[lI e,b];exact ih
theorem KV.any(r:KV kvs vs)(k:κ):(kvs.any λkv=>decide (kv.1=k))=vs.any λkv=>decide (kv.1=k):=by
 unfold KV at r
 induction r with
 | nil=>rfl
 | cons h t ih=>rw[R9,R9,ih,h.1]
theorem KV.I0(r:KV kvs vs)(k:κ)(ry:RelV y u):
  KV (kvs.map λkv=>if kv.1=k then(kv.1,y) else kv) (vs.map λkv=>if kv.1=k then(kv.1,u) else kv):=by
 unfold KV at r ⊢
 induction r with
 | nil=>exact .nil
 | @cons p q ps qs h t ih=>
  rw[Qp,Qp];refine .cons ?_ ih;obtain⟨h1,h2⟩:=h
  by_cases e:p.1=k
  ·rw[Qf e,Qf (h1.symm.trans e)];exact⟨h1,ry⟩
  ·rw[Qo e,Qo (λz=>e (h1.trans z))];exact⟨h1,h2⟩
theorem KV.put(r:KV kvs vs)(k:κ)(ry:RelV y u):KV (putK kvs k y) (stored vs k u):=by
 unfold putK stored;rw[r.any k]
 by_cases e:(vs.any λkv=>decide (kv.1=k))=true
 ·rw[Qf e,Qf e];exact r.I0 k ry
 ·rw[Qo e,Qo e];exact Paired.snoc r ⟨rfl,ry⟩
theorem KV.length(r:KV kvs vs):kvs.length=vs.length:=Paired.length r
end
theorem pj(r:RelV (kV k) u):(bO P w).is k u=true:=by
 cases k with
 | inl i=>obtain⟨t,e⟩:=(show ∃t,u=Value.int i t from r);subst e;exact xN P w i t
 | inr x=>obtain⟨t,e⟩:=(show ∃t,u=Value.str x t from r);subst e;exact xM P w x t
theorem uD:∀{ks:List Key} {us:List Value},Vals (ks.map kV) us->ItemsAre (bO P w) ks us
 | [],_,r=>by rw[RY] at r;cases r;exact .nil
 | k::ks,_,r=>by
  rw[Qp] at r;cases r with
  | cons h t=>exact .cons (pj h) (uD t)
abbrev KT(H:Hp):List (List Key×V)->List (List Key×Addr×Value)->Prop:=Paired λp q=>p.1=q.1/\H q.2.1=some (.tup (p.1.map kV))/\RelV p.2 q.2.2
theorem KT.val{H:Hp}{kvs:List (List Key×V)}{xs:List (List Key×Addr×Value)}(r:KT H kvs xs)(k:List Key):pY (jb kvs k) ((atKey xs k).map (·.2)):=by
 induction r with
 | nil=>exact True.intro
 | @cons p q ps qs h t ih=>
  obtain⟨h1,_,h2⟩:=h
  by_cases e:p.1=k
  ·have e':q.1=k:=h1.symm.trans e;have b:atKey (q::qs) k=some q.2:=by simp[atKey,R8,e']
   rw[qD e,b];exact h2
  ·have e':¬q.1=k:=λz=>e (h1.trans z);have b:atKey (q::qs) k=atKey qs k:=by simp[atKey,R8,e']
   rw[lI e,b];exact ih
theorem KT.I0(r:KT H kvs xs)(k:List Key)(ry:RelV y u):
  KT H (kvs.map λkv=>if kv.1=k then(kv.1,y) else kv) (xs.map (putAt k u)):=by
 induction r with
 | nil=>exact .nil
 | @cons p q ps qs h t ih=>
  rw[Qp,Qp];refine .cons ?_ ih;obtain⟨h1,h2,h3⟩:=h;unfold putAt
  by_cases e:p.1=k
  ·rw[Qf e,Qf (h1.symm.trans e)];exact⟨h1,h2,ry⟩
  ·rw[Qo e,Qo (λz=>e (h1.trans z))];exact⟨h1,h2,h3⟩
theorem KT.put(r:KT H kvs xs)(k:List Key)(hb:H b=some (.tup (k.map kV)))(ry:RelV y u):
  KT H (putK kvs k y) (storedH xs k b u):=by
 have e:(kvs.any λkv=>decide (kv.1=k))=(atKey xs k).isSome:=by
  rw[wU,(r.val k).ig,Ub]
 unfold putK storedH;rw[e]
 by_cases q:(atKey xs k).isSome=true
 ·rw[Qf q,Qf q];exact r.I0 k ry
 ·rw[Qo q,Qo q];exact Paired.snoc r ⟨rfl,hb,ry⟩
theorem KT.keeps(r:KT H kvs xs)(ht:∀b ys,H b=some (.tup ys)->H' b=some (.tup ys)):KT H' kvs xs:=
 Paired.MC r λ_ _ z=>⟨z.1,ht _ _ z.2.1,z.2.2⟩
theorem HF(ok:kh P w H h)(e:Rd H a u):cf P w H h a u:=e.ok ok
theorem pv(ok:kh P w H h)(e:Rd H a (.dK kvs)):kvs.length<=sizeLine/\(a==sysModules)=false/\∃vs,KV kvs vs/\h.DictOf (bO P w) a vs:=
 show cf P w H h a (.dK kvs) from HF ok e
theorem AE(ok:kh P w H h)(e:H a=some (.dK kvs)):kvs.length<=sizeLine/\(a==sysModules)=false/\∃vs,KV kvs vs/\h.DictOf (bO P w) a vs:=pv ok (.inl e)
theorem ll(ok:kh P w H h)(e:H a=some (.tup (ks.map kV))):(tupleKind (bO P w)).is h ks a:=by
 obtain⟨_,its,r,o,h1,h2,⟨n,h3⟩,_⟩:=(show cf P w H h a (.tup (ks.map kV)) from ok a _ e);exact⟨o,its.toArray,n,h1,h2,h3,by simpa using uD r⟩
theorem sE(ok:kh P w H h)(e:Rd H a (.dT kvs)):kvs.length<=sizeLine/\(a==sysModules)=false/\
  ∃xs,KT H kvs xs/\h.DictOfH (tupleKind (bO P w)) a xs:=by
 obtain⟨z,y,xs,r,o,es,ep,h1,h2,h3,h4,h5⟩:=(show cf P w H h a (.dT kvs) from HF ok e);refine⟨z,y,xs,r,o,es,ep,h1,h2,h3,h4,λx hx=>?_,h5⟩;have all:∀{l:List (List Key×V)} {m:List (List Key×Addr×Value)},KT H l m->∀x∈m,(tupleKind (bO P w)).is h x.1 x.2.1:=by
  intro l m q
  induction q with
  | nil=>intro x hx;exact nomatch hx
  | @cons p q ps qs hq t ih=>
   intro x hx;rcases Ql.mp hx with e | hx
   ·subst e;exact ll ok (by rw[<-hq.1];exact hq.2.1)
   ·exact ih x hx
 exact all r x hx
theorem MY(ok:kh P w H h)(e:H a=some (.dT kvs)):kvs.length<=sizeLine/\(a==sysModules)=false/\
  ∃xs,KT H kvs xs/\h.DictOfH (tupleKind (bO P w)) a xs:=sE ok (.inl e)
def nv(H:Hp)(a:Addr)(y:V)(r:Option V):Prop:=
 (∃kvs k,Rd H a (.dK kvs)/\y=kV k/\r=jb kvs k)\/∃kvs k b,Rd H a (.dT kvs)/\y=.ref b/\H b=some (.tup (k.map kV))/\r=jb kvs k
def Hr(H:Hp)(a:Addr)(y v:V)(H':Hp):Prop:=
 (∃kvs k,H a=some (.dK kvs)/\y=kV k/\kvs.length < sizeLine/\H'=upd H a (.dK (putK kvs k v)))\/
 ∃kvs k b,H a=some (.dT kvs)/\y=.ref b/\H b=some (.tup (k.map kV))/\kvs.length < sizeLine/\H'=upd H a (.dT (putK kvs k v))
theorem nv.k{H:Hp}{a:Addr}{kvs:List (Key×V)}{k:Key}(e:H a=some (.dK kvs)):nv H a (kV k) (jb kvs k):=.inl ⟨kvs,k,.inl e,rfl,rfl⟩
theorem Hr.k{H:Hp}{a:Addr}{kvs:List (Key×V)}{k:Key}{v:V}(e:H a=some (.dK kvs))(hl:kvs.length < sizeLine):Hr H a (kV k) v (upd H a (.dK (putK kvs k v))):=.inl ⟨kvs,k,e,rfl,hl,rfl⟩
theorem Inv.big(I:Inv X pins σ H s):sysModules < s.heap.objs.size:=by
 have h:mainGlobals < s.heap.objs.size:=(I.mod.glob.keeps I.bk).lt;exact Uc (by decide) h
theorem BZ(hu:A.units+1 < cLine)(I:Inv X pins σ H s)(g:nv H a y (some v))(ry:RelV y u)(h:∀w' s',Inv X pins σ H s'->RelV v w'->Q w' s'):
  wpAny (model X.prog X.w) A (getItem (.ref a) u) Q E s:=by
 rcases g with⟨kvs,k,e,ey,l⟩ |⟨kvs,k,b,e,ey,eb,l⟩
 ·subst ey;obtain⟨z,hd,vs,rel,dd⟩:=pv I.a8 e;obtain⟨w',hw,rw'⟩:=pY.some_of (v:=v) (o:=valueAt vs k) (by rw[l];exact rel.val k);exact wpAny_getItem_of (pj ry) dd.mapOf hw (h w' _ (I.tok _) rw')
 ·subst ey;cases(show u=Value.ref b from ry);obtain⟨z,hd,xs,rel,dd⟩:=sE I.a8 e;obtain⟨w',hw,rw'⟩:=pY.some_of (v:=v) (o:=(atKey xs k).map (·.2)) (by rw[l];exact rel.val k);obtain⟨p,hp,hp2⟩:=QD.mp hw;refine wpAny_getItem_heap (Sf hu) (ll I.a8 eb) dd hp ?_;rw[hp2];exact h w' _ (I.tok _) rw'
theorem OZ(hu:A.units+1 < cLine)(I:Inv X pins σ H s)(g:nv H a y o)(ry:RelV y u)(h:∀s',Inv X pins σ H s'->Q (.bool o.isSome) s'):
  wpAny (model X.prog X.w) A (compareOp .In u (.ref a)) Q E s:=by
 rcases g with⟨kvs,k,e,ey,l⟩ |⟨kvs,k,b,e,ey,eb,l⟩
 ·subst ey;obtain⟨z,hd,vs,rel,dd⟩:=pv I.a8 e;refine wpAny_in_of (pj ry) hd dd.mapOf ?_;rw[<-(rel.val k).ig,<-l];exact h _ (I.tok _)
 ·subst ey;cases(show u=Value.ref b from ry);obtain⟨z,hd,xs,rel,dd⟩:=sE I.a8 e;refine wpAny_in_heap (Sf hu) (ll I.a8 eb) hd dd ?_;have q:=(rel.val k).ig;rw[Ub] at q;rw[<-q,<-l];exact h _ (I.tok _)
theorem G6(hu:A.units+1 < cLine)(I:Inv X pins σ H s)(g:nv H a y o)(ry:RelV y u)(h:∀s',Inv X pins σ H s'->Q (.bool (!o.isSome)) s'):
  wpAny (model X.prog X.w) A (compareOp .NotIn u (.ref a)) Q E s:=by
 rcases g with⟨kvs,k,e,ey,l⟩ |⟨kvs,k,b,e,ey,eb,l⟩
 ·subst ey;obtain⟨z,hd,vs,rel,dd⟩:=pv I.a8 e;refine wpAny_notIn_of (pj ry) hd dd.mapOf ?_;rw[<-(rel.val k).ig,<-l];exact h _ (I.tok _)
 ·subst ey;cases(show u=Value.ref b from ry);obtain⟨z,hd,xs,rel,dd⟩:=sE I.a8 e;refine wpAny_notIn_heap (Sf hu) (ll I.a8 eb) hd dd ?_;have q:=(rel.val k).ig;rw[Ub] at q;rw[<-q,<-l];exact h _ (I.tok _)
theorem wm(I:Inv X pins σ H s)(mu:Nz (H a))(hs:Heap.SameBut a s.heap h')(he:∃q,h'.get? a=some q)(new:cf X.prog X.w (upd H a ob) h' a ob):
  Inv X pins σ (upd H a ob) {s with heap:=h',toks:=t'}:=
 I.write (x:=a) (e:=a) mu (.inl rfl) (λb q hb z=>(hs.2 b hb).trans z) he new
theorem ET(z:kvs.length<=sizeLine)(hd:(a==sysModules)=false)(rel:KV kvs vs)(dd:h'.DictOf (bO P w) a vs):
  cf P w H' h' a (.dK kvs):=⟨z,hd,vs,rel,dd⟩
theorem BY(hu:A.units+1 < cLine)(I:Inv X pins σ H s)(g:Hr H a y v H')(ry:RelV y u)(rv:RelV v r)(h:∀s',Inv X pins σ H' s'->Q () s'):
  wpAny (model X.prog X.w) A (setItem (.ref a) u r) Q E s:=by
 rcases g with⟨kvs,k,e,ey,l,eH⟩ |⟨kvs,k,b,e,ey,eb,l,eH⟩
 ·subst ey eH;obtain⟨z,hd,vs,rel,dd⟩:=AE I.a8 e;have hz:vs.length<=sizeLine:=by rw[<-rel.length];exact z
  have hl:(putK kvs k v).length<=sizeLine:=by have:=jC kvs k v;lia
  refine wpAny_setItem_pairs (hsz:=hz) (pj ry) dd λh' dd' hs=>h _ ?_;have he:∃q,h'.get? a=some q:=by obtain⟨q,_,_,hq,_⟩:=dd';exact⟨q,hq⟩
  exact wm I (by rw[e];exact True.intro) hs he (ET hl hd (rel.put k rv) dd')
 ·subst ey eH;cases(show u=Value.ref b from ry);obtain⟨z,hd,xs,rel,dd⟩:=MY I.a8 e;have hz:xs.length<=sizeLine:=by rw[<-Paired.length rel];exact z
  have hl:(putK kvs k v).length<=sizeLine:=by have:=jC kvs k v;lia
  refine wpAny_setItem_heap (hsz:=hz) (Sf hu) (ll I.a8 eb) dd λh' dd' hs=>h _ ?_;obtain⟨q,es,ep,hq,h2,h3,h4,_,h5⟩:=dd';refine wm I (by rw[e];exact True.intro) hs ⟨q,hq⟩ ⟨hl,hd,_,(rel.put k eb rv).keeps λc ys ec=>?_,q,es,ep,hq,h2,h3,h4,h5⟩;rw[av (MA ec e (λz=>nomatch z))];exact ec
theorem MZ(I:Inv X pins σ H s)(e:Rd H a (.dK kvs))(h:∀t s',Inv X pins σ H s'->Q (.int kvs.length t) s'):wpAny (model X.prog X.w) A (call (.builtin "len") [.ref a]) Q E s:=by
 obtain⟨z,hd,vs,rel,dd⟩:=pv I.a8 e;refine call_len_dict hd dd (by rw[<-rel.length];rw[Sr] at z;lia) ?_;rw[<-rel.length];exact h _ _ (I.tok _)
def Hn(i:Expr):Prop:=∀ov iv,subscripted i false ov iv=operate [ov,iv] (getItem ov iv)
theorem FO{prog:Program}{w:World}{A:Around}{E:Value->Shared->Prop}{s:Shared}{env:Env}{value slice:Expr}{pos:Pos}{T id:String}{Q:Value->Shared->Prop}
  (hl:typeLookup (.type T) "__getitem__"=pure (some (.builtin id))) (hs:Hn slice)
  (h:wpAny (model prog w) A (eval value env) (λo s₁=>wpAny (model prog w) A (eval slice env) (λi s₂=>s₂.TypeIs o T/\wpAny (model prog w) A (getItem o i) Q E s₂) E s₁) E s):
  wpAny (model prog w) A (eval (.Subscript value slice pos) env) Q E s:=by
 refine Subscript_ (Q4 h (λo s₁ h₁=>Q4 h₁ (λi s₂ h₂=>?_) λ_ _ x=>x) λ_ _ x=>x);obtain⟨hT,h₂⟩:=h₂;unfold subscriptTail;refine Qe ?_;rw[getitemInPython_of_ne hT.not_modules];refine Qe (wpAny_specialOf hT hl ?_);have fin:wpAny (model prog w) A (subscripted slice false o i) (λr s₃=>wpAny (model prog w) A (letTemporaryGo value o r >>=λ_=>pure r) Q E s₃) E s₂:=by
  rw[hs o i];exact wpAny_operating (Q4 h₂ (λr s₃ h₃=>Qe (wpAny_letTemporaryGo (QC h₃))) λ_ _ x=>x)
 first
  | exact QC (Qe fin)
  | exact Qe (QC (Qe fin))
  | exact Qe fin
theorem yg(I:Inv X pins σ H s)(g:nv H a y o):s.TypeIs (.ref a) "dict":=by
 rcases g with⟨kvs,k,e,_,_⟩ |⟨kvs,k,b,e,_,_,_⟩
 ·obtain⟨_,_,vs,_,dd⟩:=pv I.a8 e;exact dd.typeIs
 ·obtain⟨_,_,xs,_,dd⟩:=sE I.a8 e;exact dd.typeIs
theorem yf(h:Heap)(hb:sysModules < h.objs.size):cf P w H (h.push {cls:=.type "dict",data:=.dict #[]}) h.objs.size (.dK []):=
 ⟨RV _,Sn.mpr (RM (QJ hb)),[],.nil,Heap.DictOf.new h⟩
def IF:TE:=λ_ H Q=>∀p,H p=none->Q (.ref p) (upd H p (.dK []))
theorem D1:PE X (.Dict [] [] pos) IF:=λpins s σ H Q I h=>
 wpAny_Dict_empty ⟨.ref s.heap.objs.size,_,I.laid (a:=s.heap.objs.size) (o:=.dK []) (t':=s.toks) (λ_ _ q=>Qm _ q) (Qg _) (yf s.heap I.big),rfl,h _ (I.a8.fresh (Qg _))⟩
def vc:List (TE×TE)->St->Hp->(List (V×V)->Hp->Prop)->Prop
 | [],_,H,Q=>Q [] H
 |(tk,tv)::r,σ,H,Q=>tk σ H λx H1=>tv σ H1 λy H2=>vc r σ H2 λps H3=>Q ((x,y)::ps) H3
abbrev VV:List (V×V)->List (Value×Value)->Prop:=Paired λp q=>RelV p.1 q.1/\RelV p.2 q.2
def Le(X:Cx)(pos:Pos)(keys:List (Option Expr))(values:List Expr)(trs:List (TE×TE)):Prop:=
 ∀(pins:List (Addr×Obj)) (s:Shared) (σ:St) (H:Hp) (Q:List (V×V)->Hp->Prop),Inv X pins σ H s->vc trs σ H Q->
  wpAny (model X.prog X.w) X.A (evalPairs (pairTrees keys values X.env pos)) (λvs s'=>∃ps H',Inv X pins σ H' s'/\VV ps vs/\Q ps H') X.xe s
theorem Gn:Le X pos [] [] []:=λpins s σ H Q I h=>pairTrees_nil_walk ⟨[],H,I,.nil,h⟩
theorem DR(hk:PE X k tk)(hv:PE X v tv)(hr:Le X pos ks vs trs):
  Le X pos (some k::ks) (v::vs) ((tk,tv)::trs):=λpins s σ H Q I h=>
 pairTrees_cons_walk (cQ (hk pins s σ H _ I h) λu s1 ⟨x,H1,I1,rx,q1⟩=>cQ (hv pins s1 σ H1 _ I1 q1) λw2 s2 ⟨y,H2,I2,ry,q2⟩=>
  cQ (hr pins s2 σ H2 _ I2 q2) λws s3 ⟨ps,H3,I3,rel,q3⟩=>⟨(x,y)::ps,H3,I3,.cons ⟨rx,ry⟩ rel,q3⟩)
noncomputable def gj(kvs more:List (Key×V)):List (Key×V):=more.foldl (λacc kv=>putK acc kv.1 kv.2) kvs
theorem KV.merge:∀{more:List (Key×V)} {rs:List (Key×Value)} {kvs:List (Key×V)} {vs:List (Key×Value)},KV more rs->KV kvs vs->KV (gj kvs more) (merged vs rs):=by
 intro more rs kvs vs r;unfold KV at r
 induction r generalizing kvs vs with
 | nil=>intro q;exact q
 | @cons p q ps qs h t ih=>
  intro r0;have e:KV (putK kvs p.1 p.2) (stored vs q.1 q.2):=by
   have:=r0.put p.1 h.2;rw[<-h.1];exact this
  exact ih e
theorem kF:∀(more kvs:List (Key×V)),(gj kvs more).length<=kvs.length+more.length
 | [],kvs=>by show kvs.length<=kvs.length+0;lia
 | p::r,kvs=>by
  have h1:=kF r (putK kvs p.1 p.2);have h2:=jC kvs p.1 p.2;show(gj (putK kvs p.1 p.2) r).length<=_;rw[Qj];lia
theorem sP:∀{kvs:List (Key×V)} {ws:List (Value×Value)},VV (kvs.map λkv=>(kV kv.1,kv.2)) ws->∃rs,Carries (bO P w) ws rs/\KV kvs rs
 | [],_,r=>by rw[RY] at r;cases r;exact⟨[],True.intro,.nil⟩
 | p::kvs,_,r=>by
  rw[Qp] at r;cases r with
  | @cons a b as bs h t=>
   obtain⟨rs,c,q⟩:=sP (P:=P) (w:=w) t;obtain⟨b1,b2⟩:=b;exact⟨(p.1,b2)::rs,⟨pj h.1,rfl,c⟩,.cons ⟨rfl,h.2⟩ q⟩
def CK(trs:List (TE×TE)):TE:=λσ H Q=>∀p,H p=none->vc trs σ (upd H p (.dK [])) λps H2=>H2 p=some (.dK [])/\∃kvs:List (Key×V),ps=kvs.map (λkv=>(kV kv.1,kv.2))/\kvs.length<=15/\Q (.ref p) (upd H2 p (.dK (gj [] kvs)))
theorem Af(h:Le X pos keys values trs)(hall:keys.all (·.isSome)=true)(hl:keys.length=values.length)(h0:keys≠[])(h15:keys.length<=15):PE X (.Dict keys values pos) (CK trs):=by
 intro pins s σ H Q I q;have hn:=I.a8.fresh (Qg s.heap.objs.size);have I1:=I.laid (a:=s.heap.objs.size) (o:=.dK []) (h':=s.heap.push {cls:=.type "dict",data:=.dict #[]}) (t':=s.toks) (λ_ _ q=>Qm _ q) (Qg _) (yf s.heap I.big);refine wpAny_Dict_walk (knd:=bO X.prog X.w) hall hl h0 h15 (cQ (h pins _ σ _ _ I1 (q _ hn)) λws s2 ⟨ps,H2,I2,rel,e,kvs,ep,lk,q2⟩=>?_);subst ep;obtain⟨rs,c,rk⟩:=sP (P:=X.prog) (w:=X.w) rel;obtain⟨z,hd,vs0,r0,dd⟩:=AE I2.a8 e;cases r0;refine⟨rs,c,dd,λh' dd' hs=>⟨.ref s.heap.objs.size,_,?_,rfl,q2⟩⟩;have hz:(gj [] kvs).length<=sizeLine:=by
  have h1:=kF kvs [];rw[RI] at h1;rw[Sr];lia
 have he:∃q,h'.get? s.heap.objs.size=some q:=by obtain⟨q,_,_,hq,_⟩:=dd';exact⟨q,hq⟩
 exact wm I2 (by rw[e];exact True.intro) hs he (ET hz hd (rk.merge .nil) dd')
theorem KI(hu:A.units+1 < cLine)(I:Inv X pins σ H s)(g:nv H a y o)(ry:RelV y u)(h:∀w' s',Inv X pins σ H s'->RelV (o.getD .cu) w'->Q w' s'):
  wpAny (model X.prog X.w) A (call (.builtin "dict.get") [.ref a,u]) Q E s:=by
 rcases g with⟨kvs,k,e,ey,l⟩ |⟨kvs,k,b,e,ey,eb,l⟩
 ·subst ey;obtain⟨z,hd,vs,rel,dd⟩:=pv I.a8 e;refine Ur Sa dd.typeIs SF (UI _ _) (meets_dict_get (bO X.prog X.w) a (pj ry) hd) ⟨_,dd.mapOf,h _ _ (I.tok _) ?_⟩;rw[l];exact(rel.val k).getD rfl
 ·subst ey;cases(show u=Value.ref b from ry);obtain⟨z,hd,xs,rel,dd⟩:=sE I.a8 e;refine Ur Sa dd.typeIs SF (UI _ _) (meetsH_dict_get (tupleKind (bO X.prog X.w)) a b hd) ⟨Sf hu,k,xs,ll I.a8 eb,dd,h _ _ (I.tok _) ?_⟩;rw[l];exact(rel.val k).getD rfl
theorem KH(hu:A.units+1 < cLine)(I:Inv X pins σ H s)(g:nv H a y o)(ry:RelV y u)(rd:RelV d r)(h:∀w' s',Inv X pins σ H s'->RelV (o.getD d) w'->Q w' s'):
  wpAny (model X.prog X.w) A (call (.builtin "dict.get") [.ref a,u,r]) Q E s:=by
 rcases g with⟨kvs,k,e,ey,l⟩ |⟨kvs,k,b,e,ey,eb,l⟩
 ·subst ey;obtain⟨z,hd,vs,rel,dd⟩:=pv I.a8 e;refine Ur Sa dd.typeIs SF (UH _ _ _) (meets_dict_get_default (bO X.prog X.w) a (pj ry) hd r) ⟨_,dd.mapOf,h _ _ (I.tok _) ?_⟩;rw[l];exact(rel.val k).getD rd
 ·subst ey;cases(show u=Value.ref b from ry);obtain⟨z,hd,xs,rel,dd⟩:=sE I.a8 e;refine Ur Sa dd.typeIs SF (UH _ _ _) (meetsH_dict_get_default (tupleKind (bO X.prog X.w)) a b hd r) ⟨Sf hu,k,xs,ll I.a8 eb,dd,h _ _ (I.tok _) ?_⟩;rw[l];exact(rel.val k).getD rd
end L2
namespace Att
open PySem PySem.W PySem.Calls PyProof.Rows
theorem pS:∀(ns:List Int)(vs:List Value),WellAll P h vs (ns.map WData.int)->IntsAre vs ns:=by
 intro ns
 induction ns with
 | nil=>
  intro vs w;rw[RY] at w;cases w;exact .nil
 | cons n ns ih=>
  intro vs w;rw[Qp] at w;cases w with
  | cons a b=>
   cases a;exact .cons _ _ (ih _ b)
theorem Bm{l:OpenLaw}{n:Nat}(hn:l.most=some n){P:Params}{h:Heap}{args:List WData}{vals:List Value}
  (hpre:l.row.toRowW.claim.pre args=true) (hwl:WellAll P h vals args):
  ∃a vs ns,vals=[Value.ref a]/\args=[WData.list (ns.map WData.int)]/\h.get? a=some {cls:=.type "list",data:=.seq vs.toArray}/\IntsAre vs ns/\ns.length<=n:=by
 have hsh:WShape.hasAll [] args [.list .int]=true:=(pre_splitW hpre).1;have hc:l.pre.holds [] {args:=args}=true:=(pre_splitW hpre).2;obtain⟨d,r,rfl,h1,h2⟩:=hasAllW_cons hsh;obtain rfl:=hasAllW_nil h2;obtain⟨xs,rfl,h3⟩:=hasW_list h1;obtain⟨ns,rfl⟩:=items_int h3;have hlen:ns.length<=n:=by
  unfold OpenLaw.pre at hc;have h4:(WTm.not (.lt (.lit (.int (n:Int))) (.len (.arg 0)))).holds [] {args:=[.list (ns.map .int)]}=true:=by
   have h4:=(holds_andW hc).1;rw[hn] at h4;exact h4
  have h5:=condW_of h4 (w_not (w_lt w_lit (w_len_list (w_arg rfl))));rw[Qb] at h5;refine RA λq=>?_;have q':(n:Int) < ((ns.length:Nat):Int):=by lia
  first
   |(rw[QP q'] at h5;exact absurd h5 (by decide))
   |(simp at h5;lia)
 cases hwl with
 | cons w1 w2=>
  cases w2;cases w1 with
  | list ho hall=>exact⟨_,_,ns,rfl,rfl,ho,pS ns _ hall,hlen⟩
theorem Bu(l:OpenLaw)(args:List WData):l.row.toRowW.claim.post args (.bool true) args=true:=
 postW_of (r:=l.row.toRowW) (X:=(true==true))
  (show WShape.has [] (.bool true) .bool=true by first | rfl | decide | simp[WShape.has,WShape.arms,WShape.armsAll])
  (show(WTm.eq .res (.lit (.bool true))).value [] {args:=args,res:=some (.bool true),after:=args}=some (.bool (true==true)) from w_eq_bool (w_res rfl) w_lit) rfl
theorem yt{l:OpenLaw}{n:Nat}{q:Program}{loose:List Str}{XP:(Str->Option Value)->Heap->Prop}{YP:World->Heap->Prop}{d:DefRec}
  (hn:l.most=some n) (hdf:d.params.defaults=[])
  (call:∀(w:World)(s₀ s₁:Shared)(mg mb:Str->Option Value)(fa:Addr)(o:Obj)(pm cd doc:Value)(a:Addr)(vs:List Value)(ns:List Int),
   Ground q loose [] XP w s₀ mg mb s₁.heap->YP w s₁.heap->
   s₁.heap.get? fa=some o->o.data=.func (docDef d.name d.params d.body d.scope pm cd doc)->s₁.heap.CodeRec cd d.name->mg d.name=some (.ref fa)->
   s₁.heap.get? a=some {cls:=.type "list",data:=.seq vs.toArray}->IntsAre vs ns->ns.length<=n->s₁.gens=#[]->
   codeAny (model l.prog w) callerA (.call (.ref fa) ⟨[.ref a],[]⟩) (λr s'=>r=.ok (.ret (.bool true))/\OldK s₁.heap s'.heap/\s'.os=s₁.os/\AllBare s'.gens) s₁):
  WalkO q loose XP YP l.row.toRowW d [] (λf vs=>PySem.call f vs):=by
 intro w s₀ s₁ mg mb G Y fa o pm cd doc dV kV ho hd hcd hD hmg hg args vals as hpre hlay hrd hwl hlo;obtain rfl:dV=.none:=Dflts.none hD hdf;obtain rfl:kV=.none:=Dflts.noKw hD;obtain⟨a,vs,ns,rfl,rfl,hobj,hints,hlen⟩:=Bm hn hpre hwl;refine enter_call (TU (call w s₀ s₁ mg mb fa o pm cd doc a vs ns G Y ho (fd_plain hd) hcd hmg hobj hints hlen hg) λr s' hq=>?_);obtain⟨rfl,h2,h3,h4⟩:=hq;exact⟨.inl ⟨.bool true,.bool true,[],rfl,λ_=>rfl,.bool true,Bu l _,λ_=>⟨List.Pairwise.nil,λ_ hm=>(nomatch hm)⟩⟩,h2,h3,h4⟩
section
variable {prog:Program} {w:World} {A:Around} {E:Value->Shared->Prop} {s:Shared} {K:Frag}
end
end Att
namespace L2
open PySem PySem.Spec PyProof.Rows
theorem nC{vs:List Value}{ns:List Int}(a:IntsAre vs ns):Vals (ns.map V.int) vs:=by
 induction a with
 | nil=>exact .nil
 | cons n t h ih=>exact .cons ⟨t,rfl⟩ ih
def ix(K:FR)(P:Addr):Prop:=∃vs:Array Value,(mainGlobals,({cls:=.none,data:=.fields vs}:Obj))∈K/\.ref P∈vs.toList
open Classical in
theorem Et{P:Program}{w:World}{K:FR}{mg mb:Str->Option Value}{CX:AY}{k:Nat}{fa a:Addr}{fd:FuncData}{x:Str}{sp:Sp}{s₁:Shared}{vs:List Value}{ns:List Int}
  (KX:K.In s₁.heap) (hns:s₁.heap.Ns mainGlobals mg) (hb:s₁.heap.Ns builtinsNs mb) (hbb:∀x:Str,x≠"__name__"->mb x=bootBuiltins x) (hlim:s₁.heap.NoLimit) (hg:s₁.gens=#[])
  (ha:s₁.heap.get? a=some {cls:=.type "list",data:=.seq vs.toArray}) (hi:IntsAre vs ns) (hl:ns.length<=sizeLine) (hr:cH k callerA)
  (F:∀base:Heap,K.In base->base.Ns mainGlobals mg->eO P w K mg base CX k fa fd [x] sp) (hbind:∀(s:Shared)(u:Value),BindsTo s fd ⟨[u],[]⟩ [(x,u)])
  (hT:∀b,ix K b->isCodeTable s₁.heap b/\s₁.heap.get? b=some {cls:=.none,data:=.fields #[]}/\K.lookup b=none)
  (hsp:∀H:Hp,gZ K H a (ns.map V.int)->(∀b,ix K b->H b=some .tb)->sp [.ref a] H (λv H'=>v=.bl true/\∀b,ix K b->H' b=some .tb) λ_ _ _=>False)
  (hCX:∀H e s',CX [] H s₁ (λ_ _ _=>False) e s'->False):
  codeAny (model P w) callerA (.call (.ref fa) ⟨[.ref a],[]⟩) (λr s'=>r=.ok (.ret (.bool true))/\OldK s₁.heap s'.heap/\s'.os=s₁.os/\AllBare s'.gens) s₁:=by
 have rv:=nC hi;have lenV:=hi.length;have hTa:¬ix K a:=λz=>by rw[(hT a z).2.1] at ha;cases ha
 have core:∀H:Hp,gZ K H a (ns.map V.int)->kh P w H s₁.heap->(∀b,ix K b->H b=some .tb)->(∀b u,H b=some u->ix K b\/(b=a/\K.lookup a=none/\∃o xs,u=.pq o (.lst xs)))->
   codeAny (model P w) callerA (.call (.ref fa) ⟨[.ref a],[]⟩) (λr s'=>r=.ok (.ret (.bool true))/\OldK s₁.heap s'.heap/\s'.os=s₁.os/\AllBare s'.gens) s₁:=by
  intro H hS a8 hTb hA;have base_of:∀{b:Addr} {o:Obj},s₁.heap.get? b=some o->H b=none->(wc s₁.heap H).get? b=some o:=λe n=>Ez e n;have noA:∀{b:Addr} {o:Obj} {es:Array DictEntry} {ep:Nat},s₁.heap.get? b=some o->o.data=.dict es ep->H b=none:=λ{b o es ep} e d=>by
   cases q:H b with
   | none=>rfl
   | some u=>
    rcases hA b u q with z |⟨rfl,_⟩
    ·rw[(hT b z).2.1] at e;cases e;cases d
    ·rw[ha] at e;cases e;have d':Data.seq vs.toArray _=Data.dict es ep:=d;cases d'
  have nsK:∀{b:Addr} {m:Str->Option Value},s₁.heap.Ns b m->(wc s₁.heap H).Ns b m:=λ{b m} ⟨o,es,ep,e,d,r⟩=>⟨o,es,ep,base_of e (noA e d),d,r⟩;have hKb:K.In (wc s₁.heap H):=λb o e=>base_of (KX b o e) (by
   cases q:H b with
   | none=>rfl
   | some u=>
    rcases hA b u q with z |⟨rfl,hk,_⟩
    ·rw[(hT b z).2.2] at e;cases e
    ·rw[hk] at e;cases e)
  have hM:Mod K mg (wc s₁.heap H):=⟨hKb,nsK hns,⟨mb,nsK hb,hbb⟩,let⟨mc,h1,h2⟩:=hlim;⟨mc,nsK h1,h2⟩⟩;have e0:Fv P w K mg (wc s₁.heap H) callerA [] s₁ H:=⟨rfl,hM,λb o e=>GG e,UQ (BN _ _),trivial,λb hb=>absurd (show b∈([]:List Addr) from hb) (by simp),a8,.of_eq hg⟩;refine TU ((F _ hKb (nsK hns)).run callerA [] s₁ H ⟨[.ref a],[]⟩ [.ref a] [.ref a] _ _ hr e0 (hbind s₁ (.ref a)) (.cons rfl .nil) (hsp H hS hTb)) λr s' h=>?_;cases r with
  | error e=>exact(hCX H e s' h).elim
  | ok fl=>
   cases fl with
   | next=>exact False.elim h
   | brk=>exact False.elim h
   | cont=>exact False.elim h
   | ret u=>
    obtain⟨v,H',os,bare,un,hok',r',q⟩:=h;obtain⟨q',q2⟩:v=.bl true/\∀b,ix K b->H' b=some .tb:=q;subst q';obtain rfl:u=Value.bool true:=r';have pq:∀b o xs,H b=some (.pq o (.lst xs))->s₁.heap.get? b=some o/\s'.heap.get? b=some o:=λb o xs z=>by
     obtain⟨e1,_⟩:=a8 b _ z;obtain⟨e2,_⟩:=hok' b _ (un.mR b _ _ z);exact⟨e1,e2⟩
    refine⟨rfl,⟨λb o e=>?_,λb o e=>un.there b o e (by simp)⟩,os,bare⟩;cases q:H b with
    | none=>exact .inl (un.keep b o e q (by intro z;exact absurd (show b∈([]:List Addr) from z) (by simp)) (by simp))
    | some u=>
     rcases hA b u q with z |⟨_,_,ob,xs,rfl⟩
     ·obtain⟨ps,e2,_⟩:=hok' b _ (q2 b z);have e1:=(hT b z).2.1;rw[e] at e1;cases e1;exact .inr (.inl ⟨(hT b z).1,rfl,#[],ps,rfl,by rw[e2];simp⟩)
     ·obtain⟨e1,e2⟩:=pq b ob xs q;rw[e] at e1;cases e1;exact .inl e2
 have tbOk:∀(H:Hp) b,ix K b->cf P w H s₁.heap b .tb:=λH b z=>⟨#[],(hT b z).2.1,trivial,λpos c e=>by simp[codeAmong] at e⟩;cases hk:K.lookup a with
 | some o=>
  have e:=KX a o hk;rw[ha] at e;cases e;refine core (λb=>if ix K b then some .tb else none) (.inr ⟨_,vs.toArray,_,hk,rfl,rfl,rfl,by rw[Qu,lenV];exact hl,by simpa using rv⟩) (λb u z=>?_) (λb z=>Qf z) λb u z=>?_
  ·by_cases hb:ix K b
   ·have z':=(Qf hb).symm.trans z;cases z';exact tbOk _ b hb
   ·have z':=(Qo hb).symm.trans z;cases z'
  ·by_cases hb:ix K b
   ·exact .inl hb
   ·have z':=(Qo hb).symm.trans z;cases z'
 | none=>
  refine core (λb=>if ix K b then some .tb else if b=a then some (.pq {cls:=.type "list",data:=.seq vs.toArray} (.lst (ns.map V.int))) else none) (.inl (.inr ⟨{cls:=.type "list",data:=.seq vs.toArray},(Qo hTa).trans (Qf rfl)⟩)) (λb u z=>?_) (λb z=>Qf z) λb u z=>?_
  ·by_cases hb:ix K b
   ·have z':=(Qf hb).symm.trans z;cases z';exact tbOk _ b hb
   ·have z':=(Qo hb).symm.trans z
    by_cases hb:b=a
    ·have z':=(Qf hb).symm.trans z';cases z';subst hb;exact⟨ha,by rw[Qb];exact hl,vs,_,rv,ha⟩
    ·have z':=(Qo hb).symm.trans z';cases z'
  ·by_cases hb:ix K b
   ·exact .inl hb
   ·have z':=(Qo hb).symm.trans z
    by_cases hb:b=a
    ·have z':=(Qf hb).symm.trans z';cases z';exact .inr ⟨hb,hk,_,_,rfl⟩
    ·have z':=(Qo hb).symm.trans z';cases z'
noncomputable def mX(s:Stmt):Arguments:=match s with
 | .FunctionDef _ a _ _ _ _ _ _ _ _=>a
 | _=>{posonlyargs:=[],args:=[],vararg:=none,kwonlyargs:=[],kw_defaults:=[],kwarg:=none,defaults:=[]}
noncomputable def df(s:Stmt):List Stmt:=match s with
 | .FunctionDef _ _ b _ _ _ _ _ _ _=>b
 | _=>[]
noncomputable def aj(s:Stmt):Scope:=match s with
 | .FunctionDef _ _ _ _ _ _ sc _ _ _=>sc
 | _=>{kind:=.function,names:=[],isGenerator:=false,isCoroutine:=false}
abbrev nz:AY:=λ_ _ _ _ _ _=>False
abbrev E0:XK:=λ_ _ _=>False
theorem Mq:Passes nz X E0:=λ_ _ _ _ _ _ _ h=>h.elim
structure sW(K:FR)(x qual:Str)(st:Stmt)(f:Addr)(fd:FuncData):Prop where
 ex:∃(oc:Value)(od:Option Addr)(kV doc pm:Value)(an:Option Addr)(cdv ct:Value)(osl:Array (Option Value)),
  fd=PySem.W.fnOf x qual (mX st) (df st) (aj st) .none kV doc pm an cdv ct/\K.lookup f=some ⟨oc,od,.func fd,osl⟩/\PySem.W.codeIn K cdv qual=true
 kp:PySem.W.keepIn K (.ref f)=true
section
variable {P:Program} {w:World} {K:FR} {mg:Str->Option Value} {base:Heap}
theorem sW.ok{x qual:Str}{st:Stmt}{f:Addr}{fd:FuncData}{N ps:List Str}{k:Nat}{sp:Sp}(F:sW K x qual st f fd)(S:aA N ps (aj st))(len:∀vs H Q E,sp vs H Q E->vs.length=ps.length)
  (hbody:∀(cdv:Value)(A:Around)(outer:List Env)(s:Shared)(H:Hp)(vs:List V)(Q:VK)(E:XK),cH k (A.deeper (envOfC qual (aj st) s.heap.objs.size f cdv))->sp vs H Q E->
   ∃t,wQ (eV nz P w K mg base N qual (aj st) f cdv A outer s H E).Ef (df st) t/\t {nx:=λ_ H'=>Q .cu H',rt:=Q} (start N vs) H):eO P w K mg base nz (k+1) f fd ps sp:=by
 obtain⟨oc,od,kV,doc,pm,an,cdv,ct,osl,rfl,lk,hcd⟩:=F.ex;refine EB lk hcd S len λA outer s H vs Q E hr hsp=>?_;obtain⟨t,h,q⟩:=hbody cdv A outer s H vs Q E hr hsp;exact⟨t,h.Ef,q⟩
theorem sW.binds{x qual:Str}{st:Stmt}{f:Addr}{fd:FuncData}{ps:List Str}(F:sW K x qual st f fd)
  (h:∀(kV doc pm:Value)(an:Option Addr)(cdv ct:Value)(us:List Value),us.length=ps.length->bindArgs (PySem.W.fnOf x qual (mX st) (df st) (aj st) .none kV doc pm an cdv ct) ⟨us,[]⟩=pure (ps.zip us)):Binds K fd ps []:=by
 obtain⟨oc,od,kV,doc,pm,an,cdv,ct,osl,rfl,lk,hcd⟩:=F.ex;exact .all (h kV doc pm an cdv ct)
end
theorem MN(hr:cH k A):A.units+1 < cLine:=Rl (Nat.add_le_add_left (by decide:1<=64) _) hr.units
theorem B5:gy X (.builtin "len") (λxs H Q=>∃a kvs,xs=[V.ref a]/\H a=some (.dK kvs)/\Q (.int kvs.length) H):=by
 intro pins s σ H xs us Q I r h;obtain⟨a,kvs,rfl,ha,q⟩:=h;obtain⟨u,rfl,ru⟩:=vals1 r;cases ru;exact MZ I (.inl ha) λt s' I'=>⟨.int kvs.length,H,I',⟨t,rfl⟩,q⟩
theorem MG{A B:Prop}(h:B):if false=true then A else B:=by
 rw[Qo R6];exact h
theorem MF{A B:Prop}(h:A):if true=true then A else B:=by
 rw[Qf rfl];exact h
section
variable {κ:Type} [DecidableEq κ]
end
theorem kh.off(ok:kh P w H h)(hC:H C=none)(k:∀b u,b≠C->h.get? b=some u->h'.get? b=some u):kh P w H h':=by
 intro a o e;have ne:a≠C:=by rintro rfl;rw[hC] at e;cases e
 refine(ok a o e).nJ (λb u hb q=>k b u ?_ q) (λ_ x=>x) (λ_ _ x=>x);rcases hb with rfl | hb
 ·exact ne
 ·rintro rfl;rw[hC] at hb;cases hb
noncomputable def gp(env:Env):List (Str×NameKind)->List (Str×Addr)->List (Str×Addr)
 | [],acc=>acc
 |(n,k)::r,acc=>if(k==NameKind.free)=true then gp env r ((n,(env.cells.lookup n).getD 0)::acc) else gp env r acc
theorem lu(h:∀y∈scope.names,y.2=.free->∃c,env.cells.lookup y.1=some c):closureFor scope env=pure (gp env scope.names []):=by
 have key:∀(names:List (Str×NameKind)) (acc:List (Str×Addr)),(∀y∈names,y.2=.free->∃c,env.cells.lookup y.1=some c)->
   (forIn names acc (λ(x:Str×NameKind)(r:List (Str×Addr))=>match x with
    |(name,kind)=>if(kind==NameKind.free)=true then do let a<-cellOf env name;pure (ForInStep.yield ((name,a)::r)) else pure (ForInStep.yield r)):Sem (List (Str×Addr)))=pure (gp env names acc):=by
  intro names
  induction names with
  | nil=>intro acc _;rfl
  | cons y r ih=>
   intro acc hy;obtain⟨n,k⟩:=y;have hr:=λa=>ih a λz hz=>hy z (Qi _ hz);rw[List.forIn_cons];unfold gp
   by_cases hk:(k==NameKind.free)=true
   ·have hk':k=.free:=by simpa using hk
    obtain⟨c,hc⟩:=hy (n,k) Qh hk';have e:cellOf env n=pure c:=by unfold cellOf;rw[hc]
    simp only[hk,Tj,e,hc,Option.getD_some];exact hr _
   ·simp only[hk,UY];exact hr _
 have k:=key scope.names [] h;unfold closureFor;dsimp only;rw[k];rfl
theorem ou:∀(names:List (Str×NameKind)) (acc:List (Str×Addr)),(∀y∈names,y.2=.free->∃c,env.cells.lookup y.1=some c)->
  (∀d,acc.lookup x=some d->env.cells.lookup x=some d)->(gp env names acc).lookup x=some c->env.cells.lookup x=some c
 | [],acc,_,ha,h=>ha c h
 |(n,k)::r,acc,hy,ha,h=>by
  unfold gp at h;have hr:=λz hz=>hy z (Qi _ hz)
  by_cases hk:(k==NameKind.free)=true
  ·rw[Qf hk] at h;refine ou r _ hr (λd hd=>?_) h;have hk':k=.free:=by simpa using hk
   obtain⟨c',hc⟩:=hy (n,k) Qh hk';rw[QW] at hd;cases hx:x==n with
   | true=>
    rw[hx] at hd;have e:x=n:=by simpa using hx
    rw[e,hc];rw[hc] at hd;exact hd
   | false=>
    rw[hx] at hd;exact ha d hd
  ·rw[Qo hk] at h;exact ou r _ hr ha h
theorem sM:∀(names:List (Str×NameKind)) (acc:List (Str×Addr)),(∃c,acc.lookup x=some c)->∃c,(gp env names acc).lookup x=some c
 | [],_,h=>h
 |(n,k)::r,acc,h=>by
  unfold gp
  by_cases hk:(k==NameKind.free)=true
  ·rw[Qf hk];refine sM r _ ?_;rw[QW];cases hx:x==n with
   | true=>exact⟨_,rfl⟩
   | false=>exact h
  ·rw[Qo hk];exact sM r _ h
theorem ir:∀(names:List (Str×NameKind)) (acc:List (Str×Addr)),(x,NameKind.free)∈names->∃c,(gp env names acc).lookup x=some c
 | [],_,h=>by cases h
 |(n,k)::r,acc,h=>by
  unfold gp;rcases Ql.mp h with e | h'
  ·injection e with e1 e2
   subst e1 e2;rw[Qf (by rfl)];refine sM r _ ⟨(env.cells.lookup x).getD 0,?_⟩;rw[QW,QS]
  ·by_cases hk:(k==NameKind.free)=true
   ·rw[Qf hk];exact ir r _ h'
   ·rw[Qo hk];exact ir r _ h'
theorem iI{env:Env}:∀{names:List (Str×NameKind)} {x:Str} {j:NameKind},
  (names.map λ(n,k)=>if(k==NameKind.free&&env.scope.kind==.function&&env.kindOf n==some .cell) then(n,NameKind.cell) else(n,k)).lookup x=some j->
  ∃k,names.lookup x=some k/\(j=k\/(k=.free/\j=.cell))
 | [],_,_,h=>by simp at h
 |(n,k)::r,x,j,h=>by
  have h':List.lookup x ((if(k==NameKind.free&&env.scope.kind==.function&&env.kindOf n==some .cell)=true then(n,NameKind.cell) else(n,k))::_)=some j:=h;rw[QW];cases hx:x==n with
  | true=>
   refine⟨k,rfl,?_⟩
   by_cases hc:(k==NameKind.free&&env.scope.kind==.function&&env.kindOf n==some .cell)=true
   ·rw[Qf hc,QW,hx] at h';simp only[QN,Rt] at hc;exact .inr ⟨hc.1.1,(Option.some.inj h').symm⟩
   ·rw[Qo hc,QW,hx] at h';exact .inl (Option.some.inj h').symm
  | false=>
   by_cases hc:(k==NameKind.free&&env.scope.kind==.function&&env.kindOf n==some .cell)=true
   ·rw[Qf hc,QW,hx] at h';exact iI h'
   ·rw[Qo hc,QW,hx] at h';exact iI h'
theorem iJ{env:Env}:∀{names:List (Str×NameKind)} {x:Str},names.lookup x=some .free->
  (names.map λ(n,k)=>if(k==NameKind.free&&env.scope.kind==.function&&env.kindOf n==some .cell) then(n,NameKind.cell) else(n,k)).lookup x=some .cell\/
  (names.map λ(n,k)=>if(k==NameKind.free&&env.scope.kind==.function&&env.kindOf n==some .cell) then(n,NameKind.cell) else(n,k)).lookup x=some .free
 | [],_,h=>by simp at h
 |(n,k)::r,x,h=>by
  rw[Qp];show List.lookup x ((if(k==NameKind.free&&env.scope.kind==.function&&env.kindOf n==some .cell)=true then(n,NameKind.cell) else(n,k))::_)=_\/List.lookup x ((if(k==NameKind.free&&env.scope.kind==.function&&env.kindOf n==some .cell)=true then(n,NameKind.cell) else(n,k))::_)=_;rw[QW] at h;cases hx:x==n with
  | true=>
   rw[hx] at h;have hk:k=.free:=Option.some.inj h
   by_cases hc:(k==NameKind.free&&env.scope.kind==.function&&env.kindOf n==some .cell)=true
   ·rw[Qf hc,QW,hx];exact .inl rfl
   ·rw[Qo hc,QW,hx,hk];exact .inr rfl
  | false=>
   rw[hx] at h
   by_cases hc:(k==NameKind.free&&env.scope.kind==.function&&env.kindOf n==some .cell)=true
   ·rw[Qf hc,QW,hx];exact iJ h
   ·rw[Qo hc,QW,hx];exact iJ h
abbrev ng(X:Cx)(N':List Str)(scope:Scope)(C:Addr)(s₃:Shared)(H₃:Hp)(fp:List Addr)(pl:List (Addr×Obj)):Cx:=
 {X with N:=N',s₀:=s₃,H₀:=H₃,env:=compEnvC scope (gp X.env scope.names []) C X.env,outer:=X.stack,ex:=fp,fn:=λ_=>false,calm:=true,pn:=X.pn++pl,xe:=λ_ _=>False}
structure bA(X:Cx)(N':List Str)(caps:List (Option Nat))(scope:Scope):Prop where
 kind:scope.kind=.function
 rO:∀y∈scope.names,y.2≠.cell
 names:∀y∈scope.names,y.2=.local->scope.names.lookup y.1=some .local
 sO:∀y∈scope.names,y.2=.free->X.env.kindOf y.1=some .cell\/X.env.kindOf y.1=some .free
 len:caps.length=N'.length
 Pw:∀(j i:Nat)(x:Str),caps[j]?=some (some i)->N'[j]?=some x->X.N[i]?=some x/\scope.names.lookup x=some .free
 nd:N'.Nodup
noncomputable def m9(caps:List (Option Nat))(σ:St):St:=caps.map λo=>o.bind λi=>(σ[i]?).join
theorem bA.has(S:bA X N' caps scope)(ok:X.Ok):∀y∈scope.names,y.2=.free->∃c,X.env.cells.lookup y.1=some c:=λy hy e=>ok.has y.1 (S.sO y hy e)
theorem bA.look(S:bA X N' caps scope)(ok:X.Ok)(h:(gp X.env scope.names []).lookup x=some c):X.env.cells.lookup x=some c:=
 ou scope.names [] (S.has ok) (λ_ z=>by simp at z) h
theorem Inv.block(S:bA X N' caps scope)(I:Inv X pins σ H s₃)(hc:X.calm=true)(hf:∀b∈fp,kj X pins H b)(hlt:∀b∈fp,b < s₃.heap.objs.size){h₄:Heap}{t₄:Nat}{m₄:Str->Option Value}
  (hn:h₄.Ns s₃.heap.objs.size m₄) (hk:∀b o,s₃.heap.get? b=some o->h₄.get? b=some o):
  Inv (ng X N' scope s₃.heap.objs.size s₃ H fp pins) [] (m9 caps σ) H {s₃ with heap:=h₄,toks:=t₄}:=by
 have ok:=I.ok;have fresh:∀b o,s₃.heap.get? b=some o->b≠s₃.heap.objs.size:=λb o e=>QJ (Qz e);have cellOk:∀x c,(gp X.env scope.names []).lookup x=some c->∃v,s₃.heap.IsCell c v:=λx c e=>I.cell x c (S.look ok e);refine⟨⟨ok.mod,?_,ok.glob,ok.blt,Qg _,?_,?_,?_,λ_=>ok.hd hc,ok.frames,.inl rfl,?_,I.bs,?_,?_,?_,I.stack,I.qc⟩,rfl,I.bare,Un.kept hk,?_,?_,I.a8.fresh (Qg _),?_,?_,I.a8.kept hk,?_⟩
 ·show(relabel scope X.env).kind=.function;exact S.kind
 ·intro x y c h1 h2;exact ok.inj x y c (S.look ok h1) (S.look ok h2)
 ·intro x hx;have hx':(relabel scope X.env).names.lookup x=some .cell\/(relabel scope X.env).names.lookup x=some .free:=hx;have key:∀j,(relabel scope X.env).names.lookup x=some j->j=.cell\/j=.free->∃c,(gp X.env scope.names []).lookup x=some c:=by
   intro j hj hjk;obtain⟨k,hk1,hk2⟩:=iI hj;have hm:=QT hk1;have hkf:k=.free:=by
    rcases hk2 with rfl |⟨e,_⟩
    ·rcases hjk with rfl | e
     ·exact absurd rfl (S.rO _ hm)
     ·exact e
    ·exact e
   subst hkf;exact ir scope.names [] hm
  rcases hx' with h | h
  ·exact key _ h (.inl rfl)
  ·exact key _ h (.inr rfl)
 ·intro x c h _;exact absurd (show false=true from h) (by decide)
 ·intro b hb;refine⟨QJ (hlt b hb),λx c h=>(hf b hb).2.2.2.2.1 x c (S.look ok h)⟩
 ·exact Qr ok.Fz I.sz
 ·intro b o e hb;rcases(hf b hb).2.2.2.1 with z | z
  ·exact ok.BB b o e z
  ·exact absurd (QF (Qz e) ok.Fz) (Nat.not_lt.mpr z)
 ·intro b hb z;rcases Ql.mp (I.qJ b z) with e | e
  ·exact(hf b hb).2.1 e
  ·exact(hf b hb).2.2.1 e
 ·refine⟨m₄,hn,λj x v e1 e2 e3=>?_⟩;have e2':(caps.map λo=>o.bind λi=>(σ[i]?).join)[j]?=some (some v):=e2;rw[Qx] at e2';cases hcj:caps[j]? with
  | none=>rw[hcj] at e2';cases e2'
  | some oi=>
   rw[hcj] at e2';have e2'':(oi.bind λi=>(σ[i]?).join)=some v:=Option.some.inj e2';cases oi with
   | none=>cases e2''
   | some i=>
    have hσ:(σ[i]?).join=some v:=e2'';have hσ':σ[i]?=some (some v):=by
     cases hs:σ[i]? with
     | none=>rw[hs] at hσ;cases hσ
     | some w=>rw[hs] at hσ;rw[show w=some v from hσ]
    obtain⟨hX,hfr⟩:=S.Pw j i x hcj e1;obtain⟨m,_,hl⟩:=I.loc;have hcgt:=S.sO _ (QT hfr) rfl;have hvis:K6 X.env.scope x:=by
     rcases hcgt with z | z
     ·exact .inr (.inl z)
     ·exact .inr (.inr z)
    obtain⟨u,ru,lk⟩:=hl i x v hX hσ' hvis;refine⟨u,ru,.inr ⟨?_,?_⟩⟩
    ·exact iJ hfr
    ·obtain⟨c,hcc⟩:=ir (env:=X.env) scope.names [] (QT hfr);refine⟨c,hcc,?_⟩;rcases lk with⟨z,_⟩ |⟨_,c',hc',hcell⟩
     ·have z':X.env.kindOf x=some .local:=z;rcases hcgt with q | q
      ·rw[z'] at q;cases q
      ·rw[z'] at q;cases q
     ·have:=S.look I.ok hcc;rw[this] at hc';cases hc';obtain⟨o,ho,hd⟩:=hcell;exact⟨o,hk _ _ ho,hd⟩
 ·intro x c h;obtain⟨v,o,ho,hd⟩:=cellOk x c h;exact⟨v,o,hk _ _ ho,hd⟩
 ·intro x c h;exact I.gm x c (S.look ok h)
 ·intro p hp;have hp':p∈X.pn++pins:=by
   rcases Qy.mp hp with z | z
   ·exact z
   ·cases z
  obtain⟨e,n,ne,nf,d⟩:=I.pin p hp';refine⟨hk _ _ e,n,fresh _ _ e,λz=>?_,d⟩;rcases Ql.mp (I.qJ p.1 z) with q | q
  ·exact ne q
  ·exact nf q
 ·show(caps.map _).length=N'.length;rw[Qb];exact S.len
theorem Inv.zR(S:bA X N' caps scope)(I:Inv X pins σ H s₃)(hf:∀b∈fp,kj X pins H b)(J:Inv (ng X N' scope s₃.heap.objs.size s₃ H fp pins) [] τ H' s')(hs:∀b u,b≠s₃.heap.objs.size->s'.heap.get? b=some u->h''.get? b=some u):Inv X pins σ H' {s' with heap:=h''}:=by
 have hC:H' s₃.heap.objs.size=none:=J.free;have u:Un (j9 X.stack) fp H H' s₃.heap h'':=by
  have b:=J.base;have ne:∀x o,s₃.heap.get? x=some o->x≠s₃.heap.objs.size:=λx o e=>QJ (Qz e);refine⟨λx o e n hx hb=>hs _ _ (ne x o e) (b.keep x o e n hx hb),λx o e n hx hb=>?_,b.free,λx o e hb=>?_,b.nD,b.mR,b.nE⟩
  ·obtain⟨sl,q⟩:=b.slot x o e n hx hb;exact⟨sl,hs _ _ (ne x o e) q⟩
  ·obtain⟨o',q⟩:=b.there x o e hb;exact⟨o',hs _ _ (ne x o e) q⟩
 exact I.call' (s':={s' with heap:=h''}) (ch:=fp) J.os u (J.a8.off hC hs) J.bare λb hb=>⟨(hf b hb).2.2.2.1,(hf b hb).2.1,(hf b hb).2.2.2.2.1,(hf b hb).2.2.2.2.2⟩
def Lf(X:Cx)(ifs:List Expr)(t:TT):Prop:=
 ∀(pins:List (Addr×Obj)) (s:Shared) (σ:St) (H:Hp) (Q:Bool->Hp->Prop),Inv X pins σ H s->t σ H Q->
  wpAny (model X.prog X.w) X.A (forIn ifs true λc r=>if r=true then do let ok<-isTrue c X.env (eval c X.env);pure (ForInStep.yield ok) else pure (ForInStep.yield r)) (TP X pins σ Q) X.xe s
def dQ:TT:=λ_ H Q=>Q true H
theorem Gs:Lf X [] dQ:=λpins s σ H Q I h=>wpAny_tests_nil ⟨H,I,h⟩
theorem Gr(h:PT X c t):Lf X [c] t:=λpins s σ H Q I q=>wpAny_tests_one (h pins s σ H Q I q)
def NB(J:It)(g:TG)(tc:TT)(te:TE)(l:Addr)(Q:VK)(τ0:St)(H0:Hp):Prop:=
 ∃W:Nat->Nat->St->Hp->Prop,(∃m,W 0 m τ0 H0)/\∀i m τ H2,W i m τ H2->
  (J.stop i H2/\Q (.ref l) H2)\/(J.go i H2/\∃N:St->Hp->Prop,(∀τ' H',N τ' H'->∃m',m' < m/\W (i+1) m' τ' H')/\∀x H',J.Ij i H2 x H'->g x τ H' λτ2 H3=>
   tc τ2 H3 λb H4=>if b=true then te τ2 H4 λy H5=>∃xs,H5 l=some (.lst xs)/\xs.length < sizeLine/\N τ2 (upd H5 l (.lst (xs++[y]))) else N τ2 H4)
def CL(caps:List (Option Nat))(wi:TI)(g:TG)(tc:TT)(te:TE):TE:=λσ H Q=>wi σ H λJ H1=>∀l,H1 l=none->NB J g tc te l Q (m9 caps σ) (upd H1 l (.lst []))
theorem NH(h:wpAny M A t Q (λ_ _=>False) s):wpAny M A t Q E s:=Q4 h (λ_ _ q=>q) λ_ _ f=>f.elim
theorem B1(S:bA X N' caps scope)(hc:X.calm=true)(hg:∀C s₃ H₃ fp pl,PG (ng X N' scope C s₃ H₃ fp pl) tg g)(hif:∀C s₃ H₃ fp pl,Lf (ng X N' scope C s₃ H₃ fp pl) ifs tc)
  (he:∀C s₃ H₃ fp pl,PE (ng X N' scope C s₃ H₃ fp pl) elt te) {pins:List (Addr×Obj)} {σ:St} {H3:Hp} {s3:Shared} {h₁:Heap} {t₁:Nat} {m₁:Str->Option Value} {it l:Addr} {fp:List Addr} {tn:Nat->Heap->Prop} {J:It}
  (I3:Inv X pins σ H3 s3) (T:Turn X.prog X.w X.K tg J fp it tn) (st3:tn 0 h₁) (hf3:∀b∈fp,kj X pins H3 b) (hlt3:∀b∈fp,b < s3.heap.objs.size) (hns₁:h₁.Ns s3.heap.objs.size m₁) (keep3:∀b o,s3.heap.get? b=some o->h₁.get? b=some o)
  {Q:VK} {RR:Value->Addr->Result->Shared->Prop} {W:Nat->Nat->St->Hp->Prop} {m0:Nat} (w0:W 0 m0 (m9 caps σ) H3) (turn:∀i m τ H2,W i m τ H2->
   (J.stop i H2/\Q (.ref l) H2)\/(J.go i H2/\∃N:St->Hp->Prop,(∀τ' H',N τ' H'->∃m',m' < m/\W (i+1) m' τ' H')/\∀x H',J.Ij i H2 x H'->g x τ H' λτ2 H3=>
    tc τ2 H3 λb H4=>if b=true then te τ2 H4 λy H5=>∃xs,H5 l=some (.lst xs)/\xs.length < sizeLine/\N τ2 (upd H5 l (.lst (xs++[y]))) else N τ2 H4))
  (hRR:∀(l C:Addr)(H':Hp)(s':Shared),H' C=none->C≠X.env.locals->X.s₀.heap.objs.size<=C->(∀x c,X.env.cells.lookup x=some c->c≠C)->(∀p∈X.pn++pins,p.1≠C)->(∃m,s'.heap.Ns C m)->Inv X pins σ H' s'->
   (∀h'':Heap,(∀b u,b≠C->s'.heap.get? b=some u->h''.get? b=some u)->Inv X pins σ H' {s' with heap:=h''})->Q (.ref l) H'->RR (.ref l) C (.ok .next) s'):
  codeAny (model X.prog X.w) X.A (.compStart (.ListComp elt [⟨tg,iter,ifs,0⟩] scope pos) 0 (.ref it) (.ref l) (compEnvC scope (gp X.env scope.names []) s3.heap.objs.size X.env))
   (RR (.ref l) s3.heap.objs.size) {s3 with heap:=h₁,toks:=t₁}:=by
 have J0:Inv (ng X N' scope s3.heap.objs.size s3 H3 fp pins) [] (m9 caps σ) H3 {s3 with heap:=h₁,toks:=t₁}:=Inv.block S I3 hc hf3 hlt3 hns₁ keep3;have fpB:∀{H':Hp},(∀b∈fp,H' b=none)->∀b∈fp,kj (ng X N' scope s3.heap.objs.size s3 H3 fp pins) [] H' b:=λ{H'} hn b hb=>by
  obtain⟨f0,f1,f2,f3,f4,f5⟩:=hf3 b hb;refine⟨hn b hb,QJ (hlt3 b hb),λz=>?_,.inl hb,λx c e=>f4 x c (S.look I3.ok e),λp hp=>?_⟩
  ·rcases Ql.mp (I3.qJ b z) with q | q
   ·exact f1 q
   ·exact f2 q
  ·rcases Qy.mp hp with q | q
   ·exact f5 p q
   ·cases q
 have fin:∀{τ:St} {H':Hp} {s':Shared},Inv (ng X N' scope s3.heap.objs.size s3 H3 fp pins) [] τ H' s'->Q (.ref l) H'->RR (.ref l) s3.heap.objs.size (.ok .next) s':=λ{τ H' s'} J q=>by
  refine hRR _ _ H' s' J.free ?_ ?_ ?_ ?_ ?_ ?_ ?_ q
  ·exact(QJ I3.lt).symm
  ·exact I3.sz
  ·intro x c e z;obtain⟨v,o,ho,_⟩:=I3.cell x c e;exact QJ (Qz ho) z
  ·intro p hp z;obtain⟨e,_⟩:=I3.pin p hp;exact QJ (Qz e) z
  ·obtain⟨m,hm,_⟩:=J.loc;exact⟨m,hm⟩
  ·have:=Inv.zR S I3 hf3 J (h'':=s'.heap) λb u _ e=>e;exact this
  ·exactλh'' hs=>Inv.zR S I3 hf3 J hs
 have loop:codeAny (model X.prog X.w) X.A (.compLoop (.ListComp elt [⟨tg,iter,ifs,0⟩] scope pos) 0 (.ref it) (.ref l) (compEnvC scope (gp X.env scope.names []) s3.heap.objs.size X.env))
   (RR (.ref l) s3.heap.objs.size) {s3 with heap:=h₁,toks:=t₁}:=by
  refine codeAny_loop rfl (λn s'=>∃i τ H',Inv (ng X N' scope s3.heap.objs.size s3 H3 fp pins) [] τ H' s'/\tn i s'.heap/\(∀b∈fp,H' b=none)/\W i n τ H') ?_ m0 ⟨0,_,_,J0,st3,λb hb=>(hf3 b hb).1,w0⟩;rintro n s4 ⟨i,τ,H4,J4,st4,fr4,w4⟩;show wpAny _ X.A ((compTurn (.ListComp elt [⟨tg,iter,ifs,0⟩] scope pos) 0 (.ref it) (.ref l) (compEnvC scope (gp X.env scope.names []) s3.heap.objs.size X.env)).onRaise (λx=>do noteFrame x (compEnvC scope (gp X.env scope.names []) s3.heap.objs.size X.env);theTreesLotGoes x)) _ _ s4;refine wpAny_noted ?_;rw[compTurn_list];rcases turn i n τ H4 w4 with⟨stop,qn⟩ |⟨go,N,hN,step⟩
  ·refine Qe (TC (Qe (Q4 (T.done (ng X N' scope s3.heap.objs.size s3 H3 fp pins) rfl rfl rfl rfl i [] s4 τ H4 _ J4 (fpB fr4) st4 stop) (λr s5 h5=>?_) λ_ _ e=>e)));obtain⟨hr,J5⟩:=h5;subst hr;exact QC (fin J5 qn)
  ·refine Qe (TC (Qe (Q4 (T.item (ng X N' scope s3.heap.objs.size s3 H3 fp pins) rfl rfl rfl rfl i [] s4 τ H4 _ J4 (fpB fr4) st4 go) (λr s5 h5=>?_) λ_ _ e=>e)));obtain⟨u,hr,h5⟩:=h5;subst hr;refine Qe (Q4 h5 (λ_ s6 h6=>?_) λ_ _ e=>e);obtain⟨x,H6,J6,r6,y6,st6,fr6⟩:=h6;have J6':=J6.pinned (fpB fr6) (T.obj _ _ st6);refine Qe (Q4 (NH (hg _ _ _ _ _ _ s6 τ H6 x u _ J6' r6 (step x H6 y6))) (λ_ s7 h7=>?_) λ_ _ e=>e);obtain⟨τ7,H7,J7,q7⟩:=h7;have again:∀{τ8:St} {H8:Hp} {s8:Shared},Inv (ng X N' scope s3.heap.objs.size s3 H3 fp pins) ([]++rC fp s6.heap) τ8 H8 s8->N τ8 H8->
     ∃m,m < n/\∃i τ' H',Inv (ng X N' scope s3.heap.objs.size s3 H3 fp pins) [] τ' H' s8/\tn i s8.heap/\(∀b∈fp,H' b=none)/\W i m τ' H':=λ{τ8 H8 s8} J8 n8=>by
    obtain⟨m',hm,w8⟩:=hN τ8 H8 n8;refine⟨m',hm,i+1,τ8,H8,J8.lJ,T.keep _ _ _ st6 λb hb o e=>(J8.pin (b,o) (Qq _ (Qq _ (iM hb e)))).1,λb hb=>?_,w8⟩;obtain⟨o,e,d⟩:=T.obj _ _ st6 b hb;exact(J8.pin (b,o) (Qq _ (Qq _ (iM hb e)))).2.1
   refine Qe (Q4 (NH (hif _ _ _ _ _ _ s7 τ7 H7 _ J7 q7)) (λok s8 h8=>?_) λ_ _ e=>e);obtain⟨H8,J8,q8⟩:=h8;cases ok with
   | false=>exact QC ⟨rfl,again J8 (by simpa using q8)⟩
   | true=>
    have q8':te τ7 H8 λy H5=>∃xs,H5 l=some (.lst xs)/\xs.length < sizeLine/\N τ7 (upd H5 l (.lst (xs++[y]))):=by simpa using q8
    refine Qe (Qe (Q4 (NH (he _ _ _ _ _ _ s8 τ7 H8 _ J8 q8')) (λy s9 h9=>?_) λ_ _ e=>e));obtain⟨yv,H9,J9,r9,xs,hx,hz,n9⟩:=h9;refine Qe (Q4 (NH (uw (X:=ng X N' scope s3.heap.objs.size s3 H3 fp pins) _ s9 τ7 H9 (.ref l) [yv] (.ref l) [y] (λ_ H'=>N τ7 H') J9 rfl (.cons r9 .nil) ⟨_,xs,yv,rfl,rfl,hx,hz,n9⟩)) (λ_ s10 h10=>?_) λ_ _ e=>e);obtain⟨_,H10,J10,_,n10⟩:=h10;exact QC (QC ⟨rfl,again J10 n10⟩)
 exact codeAny_compStart_list loop (T.self X.A 0 _ _ _ st3 loop)
theorem sJ(S:bA X N' caps scope)(hc:X.calm=true)(hg:∀C s₃ H₃ fp pl,PG (ng X N' scope C s₃ H₃ fp pl) tg g)(hif:∀C s₃ H₃ fp pl,Lf (ng X N' scope C s₃ H₃ fp pl) ifs tc)
  (he:∀C s₃ H₃ fp pl,PE (ng X N' scope C s₃ H₃ fp pl) elt te) {pins:List (Addr×Obj)} {σ:St} {H:Hp} {s:Shared} {it:Addr} {fp:List Addr} {tn:Nat->Heap->Prop} {J:It}
  (I:Inv X pins σ H s) (T:Turn X.prog X.w X.K tg J fp it tn) (st:tn 0 s.heap) (hf:∀b∈fp,kj X pins H b) {Q:VK} {RR:Value->Addr->Result->Shared->Prop} {E:Value->Shared->Prop}
  (h:∀l,H l=none->∃W:Nat->Nat->St->Hp->Prop,(∃m,W 0 m (m9 caps σ) (upd H l (.lst [])))/\∀i m τ H2,W i m τ H2->
   (J.stop i H2/\Q (.ref l) H2)\/(J.go i H2/\∃N:St->Hp->Prop,(∀τ' H',N τ' H'->∃m',m' < m/\W (i+1) m' τ' H')/\∀x H',J.Ij i H2 x H'->g x τ H' λτ2 H3=>
    tc τ2 H3 λb H4=>if b=true then te τ2 H4 λy H5=>∃xs,H5 l=some (.lst xs)/\xs.length < sizeLine/\N τ2 (upd H5 l (.lst (xs++[y]))) else N τ2 H4))
  (hRR:∀(l C:Addr)(H':Hp)(s':Shared),H' C=none->C≠X.env.locals->X.s₀.heap.objs.size<=C->(∀x c,X.env.cells.lookup x=some c->c≠C)->(∀p∈X.pn++pins,p.1≠C)->(∃m,s'.heap.Ns C m)->Inv X pins σ H' s'->
   (∀h'':Heap,(∀b u,b≠C->s'.heap.get? b=some u->h''.get? b=some u)->Inv X pins σ H' {s' with heap:=h''})->Q (.ref l) H'->RR (.ref l) C (.ok .next) s'):
  wpAny (model X.prog X.w) X.A (newList []) (λacc s₃=>wpAny (model X.prog X.w) X.A (newFunctionEnv scope X.env.globals (gp X.env scope.names []) [] X.env.qual none .none (some X.env)) (λcenv s₄=>
   codeAny (model X.prog X.w) X.A (.compStart (.ListComp elt [⟨tg,iter,ifs,0⟩] scope pos) 0 (.ref it) acc {cenv with scope:=relabel scope X.env}) (RR acc cenv.locals) s₄) E s₃) E s:=by
 obtain⟨W,⟨m0,w0⟩,turn⟩:=h s.heap.objs.size I.fresh;refine Rx (wpAny_newFunctionEnv S.rO (by intro y hy;simp at hy) (λh₁ hns₁ hsb₁=>?_) S.kind);have I3:Inv X pins σ (upd H s.heap.objs.size (.lst [])) {s with heap:=s.heap.push {cls:=.type "list",data:=.seq ([]:List Value).toArray}}:=I.Kd (t':=s.toks) (its:=[]) (ys:=[]) .nil (RV _);have hltf:∀b∈fp,b < s.heap.objs.size:=λb hb=>by
  obtain⟨o,e,_⟩:=T.obj 0 _ st b hb;exact Qz e
 have hf3:∀b∈fp,kj X pins (upd H s.heap.objs.size (.lst [])) b:=λb hb=>⟨by rw[av (QJ (hltf b hb))];exact(hf b hb).1,(hf b hb).2⟩;have keep3:∀b o,(s.heap.push {cls:=.type "list",data:=.seq ([]:List Value).toArray}).get? b=some o->h₁.get? b=some o:=λb o e=>hsb₁.extBut b o (QJ (Qz e)) (Qm _ e);have st3:tn 0 h₁:=T.keep 0 _ _ st λb hb o e=>keep3 b o (Qm _ e);have hlt3:∀b∈fp,b < (s.heap.push {cls:=.type "list",data:=.seq ([]:List Value).toArray}).objs.size:=λb hb=>by
  have:=hltf b hb;rw[Ua];exact Nat.lt_succ_of_lt this
 exact B1 (s3:={s with heap:=s.heap.push {cls:=.type "list",data:=.seq ([]:List Value).toArray}}) S hc hg hif he I3 T st3 hf3 hlt3 hns₁ keep3 w0 turn hRR
theorem DZ(S:bA X N' caps scope)(hc:X.calm=true)(hi:PI X tg iter wi)(hg:∀C s₃ H₃ fp pl,PG (ng X N' scope C s₃ H₃ fp pl) tg g)(hif:∀C s₃ H₃ fp pl,Lf (ng X N' scope C s₃ H₃ fp pl) ifs tc)
  (he:∀C s₃ H₃ fp pl,PE (ng X N' scope C s₃ H₃ fp pl) elt te) (hs:∀x,foldedSetIterable iter X.env x=pure x:=by intro _;rfl):PE X (.ListComp elt [⟨tg,iter,ifs,0⟩] scope pos) (CL caps wi g tc te):=by
 intro pins s σ H Q I h;rw[eval_ListComp];refine U6 (use:=none) rfl hs (lu (S.has I.ok)) S.kind S.names (cQ (hi pins s σ H _ I h) λv s1 h1=>cQ h1 λitv s2 h2=>?_);obtain⟨it,fp,tn,J,H2,e,I2,T,st2,f2,hQ⟩:=h2;subst e;refine sJ (RR:=λacc C=>compPost (model X.prog X.w) X.A X.xe none (EP X pins σ Q) acc C) S hc hg hif he I2 T st2 f2 hQ ?_;intro l C H' s' _ _ _ _ _ hm _ hI q;obtain⟨m,hm⟩:=hm;exact⟨m,hm,λh'' hs''=>⟨.ref l,H',hI h'' λb u hb e=>hs''.extBut b u hb e,rfl,q⟩⟩
theorem DP(hN:X.N.Nodup)(hi':X.N[i]?=some y)(hy:X.env.scope.names.lookup y=some .local)(S:bA X N' caps scope)(hc:X.calm=true)(hi:PI X tg iter wi)(hg:∀C s₃ H₃ fp pl,PG (ng X N' scope C s₃ H₃ fp pl) tg g)(hif:∀C s₃ H₃ fp pl,Lf (ng X N' scope C s₃ H₃ fp pl) ifs tc)(he:∀C s₃ H₃ fp pl,PE (ng X N' scope C s₃ H₃ fp pl) elt te)(hsw:swapsWith (.ListComp elt [⟨tg,iter,ifs,0⟩] scope pos) (some (.Name y py)) spos.line X.env=pure true:=by rfl)(hs:∀x,foldedSetIterable iter X.env x=pure x:=by intro _;rfl):
  PS X (.Assign [.Name y py] (.ListComp elt [⟨tg,iter,ifs,0⟩] scope pos) spos) (FN (CL caps wi g tc te) (x5 i)):=by
 intro pins s σ H D I h;rw[exec_Assign_Name_used _ _ _ _ hsw];refine Qe (TC (Qe ?_));show wpAny _ X.A (do let _<-comprehension (.ListComp elt [⟨tg,iter,ifs,0⟩] scope pos) scope X.env _ (newList []) false (eval iter X.env) (some (assign (.Name y py) X.env))) _ _ s;refine Qe (Q4 (U6 (use:=some (assign (.Name y py) X.env)) (Q:=λ_ s'=>SP X pins D .next s') rfl hs (lu (S.has I.ok)) S.kind S.names
  (cQ (hi pins s σ H _ I h) λv s1 h1=>cQ h1 λitv s2 h2=>?_)) (λ_ s' hq=>QC (QC hq)) λ_ _ e=>e)
 obtain⟨it,fp,tn,J,H2,e,I2,T,st2,f2,hQ⟩:=h2;subst e;refine sJ (Q:=λx H1=>x5 i x σ H1 D.nx) (RR:=λacc C=>compPost (model X.prog X.w) X.A X.xe (some (assign (.Name y py) X.env)) (λ_ s'=>SP X pins D .next s') acc C) S hc hg hif he I2 T st2 f2 hQ ?_;intro l C H' s' hC hCL hC0 hCc hCp hm hI0 hI q;obtain⟨m,hm⟩:=hm;show wpAny _ X.A (assign (.Name y py) X.env (.ref l)) _ _ s';refine wpAny_assign_Name (t4 (v:=.ref l) hI0 hN hi' (.inl hy) rfl (λs5 I5 hch=>?_) (.inr hy));obtain⟨a,hsa,ha⟩:=hch;have hCa:C≠a:=by
  rcases ha with z | z
  ·rw[z];exact hCL
  ·exact(hCc _ _ z).symm
 refine⟨m,hm.sameBut hsa hCa,λh'' hs''=>?_⟩;have I6:=I5.turned (t':=s5.toks) (h':=h'') (it:=C) (λb o hb e=>hs''.extBut b o hb e) hC hCL (.inr hC0) hCc hCp;exact⟨_,H',I6,q⟩
def ND(_ j:Int):Prop:=0 < j/\j<=10^40
theorem log2_small(h:n<=10^40):n.log2 < 9000:=by
 by_cases h0:n=0
 ·rw[h0];decide
 ·refine(Nat.log2_lt h0).mpr (Rl h ?_);exact QF (show 10^40 < 2^200 by decide) (U2 (by decide) (by decide))
theorem Eb:oA X (binaryOp .FloorDiv) (rI ND λi j=>.int (i / j)):=NL λi j _ _ _ _ _ hc q=>by
 have h1:(0:Int) < j:=hc.1;have h2:j<=10^40:=hc.2;exact floordiv_int (by lia) (by rw[Int.fdiv_eq_ediv_of_nonneg i (by lia)];exact q) (.inl (PyProof.noPylong_of_log2 (log2_small (by lia))))
mutual
inductive Cm(K:FR)(H:Hp):V->PyData->Prop where
 | cu:Cm K H .cu .none
 | bl (b:Bool):Cm K H (.bl b) (.bool b)
 | int (i:Int):Cm K H (.int i) (.int i)
 | str (x:Str):Cm K H (.str x) (.str x)
 | tup {a:Addr} {xs:List V} {ds:List PyData}:kJ K H a xs->sT K H xs ds->Cm K H (.ref a) (.tuple ds)
 | lst {a:Addr} {xs:List V} {ds:List PyData}:gZ K H a xs->sT K H xs ds->Cm K H (.ref a) (.list ds)
inductive sT(K:FR)(H:Hp):List V->List PyData->Prop where
 | nil:sT K H [] []
 | cons {x:V} {xs:List V} {d:PyData} {ds:List PyData}:Cm K H x d->sT K H xs ds->sT K H (x::xs) (d::ds)
end
mutual
theorem Cm.reads(I:Inv X pins σ H s){x:V}{u:Value}{d:PyData}(z:Cm X.K H x d)(r:RelV x u):∃as,Reads s.heap u d as:=by
 cases z with
 | cu=>cases(show _=Value.none from r);exact⟨_,.none⟩
 | bl b=>cases(show _=Value.bool b from r);exact⟨_,.bool b⟩
 | int i=>obtain⟨t,e⟩:=(show ∃t,_=Value.int i t from r);cases e;exact⟨_,.int i t⟩
 | str x=>obtain⟨t,e⟩:=(show ∃t,_=Value.str x t from r);cases e;exact⟨_,.str x t⟩
 | tup hq hl=>
  cases(show _=Value.ref _ from r);obtain⟨its,rv,⟨o,h1,h2,n,h3⟩,_⟩:=I.tuple hq;obtain⟨as,q⟩:=sT.reads I hl rv;exact⟨_,.tuple h1 h2 h3 (by simpa using q)⟩
 | lst hq hl=>
  cases(show _=Value.ref _ from r);obtain⟨its,rv,pl,_⟩:=I.list hq;obtain⟨o,h1,h2,n,h3⟩:=pl.isList;obtain⟨as,q⟩:=sT.reads I hl rv;exact⟨_,.list h1 h2 h3 (by simpa using q)⟩
theorem sT.reads(I:Inv X pins σ H s){xs:List V}{us:List Value}{ds:List PyData}(z:sT X.K H xs ds)(v:Vals xs us):∃as,ReadsAll s.heap us ds as:=by
 cases z with
 | nil=>cases v;exact⟨_,.nil⟩
 | cons h t=>
  cases v with
  | cons r q=>
   obtain⟨as,p⟩:=Cm.reads I h r;obtain⟨bs,p'⟩:=sT.reads I t q;exact⟨_,.cons p p'⟩
end
def Oy:V->Option Int->Option Int->Hp->VK->Prop:=λx lo hi H Q=>∃z,x=.str z/\z.length<=sizeLine/\Q (.str (Txt.slice z lo hi)) H
theorem IJ:La X Oy:=by
 intro pins s σ H x v vl vu lo hi sl Q I rx hs pl pu h;obtain⟨z,rfl,hz,q⟩:=h;obtain⟨t,rfl⟩:=(show ∃t,v=Value.str z t from rx);refine⟨"str",_,F.slot_str_getitem.lookup,TR _ _ _,?_⟩;obtain⟨o,h1,h2,h3⟩:=hs;have fin:(Txt.slice z lo hi).length<=sizeLine/\∀t' k,EP X pins σ Q (.str (Txt.slice z lo hi) t') {s with toks:=k}:=⟨Qr (Txt.slice_le z _ _) hz,λt' k=>⟨.str _,H,I.tok k,⟨t',rfl⟩,q⟩⟩;cases pl with
 | none=>
  cases pu with
  | none=>exact SR (l:=none) (u:=none) (st:=none) ⟨o,h1,h2,h3⟩ rfl (TY fin)
  | int j uj=>exact SR (l:=none) (u:=some (j,uj)) (st:=none) ⟨o,h1,h2,h3⟩ rfl (TY fin)
 | int i ui=>
  cases pu with
  | none=>exact SR (l:=some (i,ui)) (u:=none) (st:=none) ⟨o,h1,h2,h3⟩ rfl (TY fin)
  | int j uj=>exact SR (l:=some (i,ui)) (u:=some (j,uj)) (st:=none) ⟨o,h1,h2,h3⟩ rfl (TY fin)
noncomputable def xR(out:List (Str×NameKind))(N N':List Str)(caps:List (Option Nat))(scope:Scope):Bool:=
 decide (scope.kind=.function)&&scope.names.all (λy=>decide (y.2≠.cell))&&scope.names.all (λy=>!decide (y.2=.local)||decide (scope.names.lookup y.1=some .local))&&
 scope.names.all (λy=>!decide (y.2=.free)||decide (out.lookup y.1=some .cell)||decide (out.lookup y.1=some .free))&&decide (caps.length=N'.length)&&
 (List.range caps.length).all (λj=>match caps[j]?,N'[j]? with
  | some (some i),some x=>decide (N[i]?=some x)&&decide (scope.names.lookup x=some .free)
  | _,_=>true)&&decide N'.Nodup
theorem bz(h:xR X.env.scope.names X.N N' caps scope=true):bA X N' caps scope:=by
 unfold xR at h;simp only[QN,QY,RU,RJ,Vh,UD] at h;obtain⟨⟨⟨⟨⟨⟨h1,h2⟩,h3⟩,h4⟩,h5⟩,h6⟩,h7⟩:=h;refine⟨h1,h2,λy hy e=>?_,λy hy e=>?_,h5,λj i x hj hx=>?_,h7⟩
 ·rcases h3 y hy with z | z
  ·exact absurd e z
  ·exact z
 ·rcases h4 y hy with(z | z) | z
  ·exact absurd e z
  ·exact .inl z
  ·exact .inr z
 ·have hlt:j < caps.length:=(Qc.mp hj).1;have:=h6 j (RQ.mpr hlt);rw[hj,hx] at this;simp only[QN,QY] at this;exact this
end L2
namespace L2
end L2
namespace L2
open PySem PySem.Spec PyProof.Rows
theorem jO:PyData.strOk x=true↔∀c∈x.cps,c < 0x110000:=by
 unfold PyData.strOk;rw[Array.all_eq_true_iff_forall_mem];simp
theorem g0(ha:PyData.strOk a=true)(hb:PyData.strOk b=true):PyData.strOk (a++b)=true:=by
 rw[jO] at*;intro c hc;have hc':c∈a.cps++b.cps:=hc;rcases Array.mem_append.mp hc' with z | z
 ·exact ha c z
 ·exact hb c z
theorem wX(l u:Option Int)(h:PyData.strOk x=true):PyData.strOk (Txt.slice x l u)=true:=by
 unfold Txt.slice
 split
 ·exact h
 ·rw[jO] at*;intro c hc;have hc':c∈(List.filterMap (x.cps[·]?) (Builtin.Str.strSliceIndices l u 1 x.length)).toArray:=hc;rw[List.mem_toArray] at hc';obtain⟨i,_,e⟩:=RB.mp hc';exact h c (UX e)
theorem Bg(h:PyData.strOk z=true)(hc:gz z.cps.toList i=some c):PyData.strOk (⟨#[c]⟩:Str)=true:=by
 rw[jO] at*;intro d hd;have e:d=c:=by simpa using hd
 subst e;obtain⟨j,_,hj,_⟩:=qz hc;exact h d (by have:=Qd hj;simpa using this)
end L2
namespace L2
open PySem PySem.Spec PyProof.Rows PySem.SeqAt
noncomputable def Pq:Nat->PyData->Bool
 | _,.int _=>true
 | _,.str x=>PyData.strOk x
 | n+1,.tuple xs=>xs.all (Pq n)
 | _,_=>false
noncomputable def MP(w:World):Nat->PyData->Int
 | _,.int i=>Kk w (.inl i)
 | _,.str x=>Kk w (.inr x)
 | n+1,.tuple xs=>reduceHash (Builtin.Tuple.tupleHashOf (xs.map (MP w n)))
 | _,_=>0
noncomputable def Kt(K:FR)(x:Str):Option Value:=match K.lookup mainGlobals with
 | some o=>match o.data with
  | .dict es _=>(es.toList.find? (λe=>Value.isStrOf x e.key)).map (·.val)
  | _=>none
 | none=>none
def yC(h:Heap)(x D:Addr):Prop:=∃o,h.get? x=some o/\o.cls=.ref D
def Pj(a:Addr)(us:List (Addr×V))(ps:List PyData):World->Heap->Prop:=λw h=>us.length<=sizeLine/\(a==sysModules)=false/\ps.all (Pq 8)=true/\ps.Nodup/\
 ∃ys:List (PyData×Addr×Value),Paired (λ(u:Addr×V)(y:PyData×Addr×Value)=>u.1=y.2.1/\RelV u.2 y.2.2) us ys/\ys.map (·.1)=ps/\
 ∃o es ep,h.get? a=some o/\o.ExactDict/\o.data=.dict es ep/\es.toList=ys.map λy=>⟨MP w 8 y.1,.ref y.2.1,y.2.2⟩
end L2
namespace Sm
open PySem L2
inductive D where
 | cu | bl (b:Bool) | int (i:Int) | str (x:Str) | ty (n:String)
 | tup (xs:List D) | lv (xs:List D) | ro (xs:List D) | dv (kvs:List (Key×D)) | ob (n:Nat)
inductive MO where
 | lst (xs:List D) | dct (kvs:List (Key×D)) | dcH (kvs:List (D×D)) | exc (c:Str)
abbrev MH:=List MO
mutual
noncomputable def vH:D->Option PyData
 | .cu=>some .none
 | .bl b=>some (.bool b)
 | .int i=>some (.int i)
 | .str x=>some (.str x)
 | .tup xs=>(oO xs).map .tuple
 | .lv xs=>(oO xs).map .list
 | .ro xs=>(oO xs).map .list
 | _=>none
noncomputable def oO:List D->Option (List PyData)
 | []=>some []
 | x::r=>(vH x).bind λa=>(oO r).map λb=>a::b
end
abbrev DS:=List (Option D)
abbrev Pr:Hp:=λ_=>none
structure Ad where
 ob:List Addr
 rs:List Addr
def Ad.has(ρ:Ad)(a:Addr):Prop:=a∈ρ.ob\/a∈ρ.rs
def TupAt(K:FR)(ρ:Ad)(H:Hp)(a:Addr)(vs:List V):Prop:=(Rd H a (.tup vs)/\¬ρ.has a)\/kJ K Pr a vs
def Lc(K:FR)(ρ:Ad)(H:Hp)(a:Addr)(vs:List V):Prop:=(Rd H a (.lst vs)/\¬ρ.has a)\/gZ K Pr a vs
mutual
inductive Rep(K:FR)(ρ:Ad)(H:Hp):V->D->Prop where
 | cu:Rep K ρ H .cu .cu
 | bl (b:Bool):Rep K ρ H (.bl b) (.bl b)
 | int (i:Int):Rep K ρ H (.int i) (.int i)
 | str {x:Str} (h:PyData.strOk x=true):Rep K ρ H (.str x) (.str x)
 | ty (n:String):Rep K ρ H (.ty n) (.ty n)
 | tup {a:Addr} {vs:List V} {ds:List D}:TupAt K ρ H a vs->aD K ρ H vs ds->Rep K ρ H (.ref a) (.tup ds)
 | lv {a:Addr} {vs:List V} {ds:List D}:H a=some (.lst vs)->¬ρ.has a->aD K ρ H vs ds->Rep K ρ H (.ref a) (.lv ds)
 | ro {a:Addr} {vs:List V} {ds:List D}:Lc K ρ H a vs->aD K ρ H vs ds->Rep K ρ H (.ref a) (.ro ds)
 | dv {a:Addr} {us:List (Key×V)} {kvs:List (Key×D)}:H a=some (.dK us)->¬ρ.has a->bC K ρ H us kvs->Rep K ρ H (.ref a) (.dv kvs)
 | ob {a:Addr} {n:Nat}:ρ.ob[n]?=some a->Rep K ρ H (.ref a) (.ob n)
inductive aD(K:FR)(ρ:Ad)(H:Hp):List V->List D->Prop where
 | nil:aD K ρ H [] []
 | cons {v:V} {vs:List V} {d:D} {ds:List D}:Rep K ρ H v d->aD K ρ H vs ds->aD K ρ H (v::vs) (d::ds)
inductive bC(K:FR)(ρ:Ad)(H:Hp):List (Key×V)->List (Key×D)->Prop where
 | nil:bC K ρ H [] []
 | cons {k:Key} {v:V} {vs:List (Key×V)} {d:D} {ds:List (Key×D)}:Rep K ρ H v d->bC K ρ H vs ds->bC K ρ H ((k,v)::vs) ((k,d)::ds)
end
structure Ch(ρ:Ad)(H:Hp)(ρ':Ad)(H':Hp):Prop where
 pre:∀(n:Nat) a,ρ.ob[n]?=some a->ρ'.ob[n]?=some a
 old:∀b o,¬ρ.has b->H b=some o->¬ρ'.has b/\H' b=some o
theorem Ch.refl(ρ:Ad)(H:Hp):Ch ρ H ρ H:=⟨λ_ _ e=>e,λ_ _ n e=>⟨n,e⟩⟩
theorem Ch.trans(a:Ch ρ H ρ1 H1)(b:Ch ρ1 H1 ρ2 H2):Ch ρ H ρ2 H2:=
 ⟨λn x e=>b.pre n x (a.pre n x e),λx o n e=>let⟨n',e'⟩:=a.old x o n e;b.old x o n' e'⟩
structure dh(ρ:Ad)(H:Hp)(ρ':Ad)(H':Hp):Prop extends Ch ρ H ρ' H' where
 rs:ρ'.rs=ρ.rs
 res:∀b∈ρ.rs,H' b=H b
theorem dh.refl(ρ:Ad)(H:Hp):dh ρ H ρ H:=⟨.refl _ _,rfl,λ_ _=>rfl⟩
theorem dh.trans(a:dh ρ H ρ1 H1)(b:dh ρ1 H1 ρ2 H2):dh ρ H ρ2 H2:=
 ⟨a.toCh.trans b.toCh,b.rs.trans a.rs,λx hx=>(b.res x (by rw[a.rs];exact hx)).trans (a.res x hx)⟩
instance {ρ ρ':Ad} {H H':Hp}:CoeOut (dh ρ H ρ' H') (Ch ρ H ρ' H'):=⟨dh.toCh⟩
theorem Ch.rd(S:Ch ρ H ρ' H')(h:Rd H a u)(n:¬ρ.has a):Rd H' a u/\¬ρ'.has a:=by
 rcases h with h |⟨o,h⟩
 ·obtain⟨q,e⟩:=S.old a _ n h;exact⟨.inl e,q⟩
 ·obtain⟨q,e⟩:=S.old a _ n h;exact⟨.inr ⟨o,e⟩,q⟩
mutual
theorem Rep.mono(S:Ch ρ H ρ' H'){v:V}{d:D}(r:Rep K ρ H v d):Rep K ρ' H' v d:=by
 cases r with
 | cu=>exact .cu
 | bl b=>exact .bl b
 | int i=>exact .int i
 | str x=>exact .str x
 | ty n=>exact .ty n
 | tup h l=>exact .tup (h.elim (λ⟨a,n⟩=>.inl (S.rd a n)) .inr) (aD.mono S l)
 | lv h n l=>have ⟨n',h'⟩:=S.old _ _ n h;exact .lv h' n' (aD.mono S l)
 | ro h l=>exact .ro (h.elim (λ⟨a,n⟩=>.inl (S.rd a n)) .inr) (aD.mono S l)
 | dv h n l=>have ⟨n',h'⟩:=S.old _ _ n h;exact .dv h' n' (bC.mono S l)
 | ob e=>exact .ob (S.pre _ _ e)
theorem aD.mono(S:Ch ρ H ρ' H'){vs:List V}{ds:List D}(r:aD K ρ H vs ds):aD K ρ' H' vs ds:=by
 cases r with
 | nil=>exact .nil
 | cons h t=>exact .cons (Rep.mono S h) (aD.mono S t)
theorem bC.mono(S:Ch ρ H ρ' H'){vs:List (Key×V)}{ds:List (Key×D)}(r:bC K ρ H vs ds):bC K ρ' H' vs ds:=by
 cases r with
 | nil=>exact .nil
 | cons h t=>exact .cons (Rep.mono S h) (bC.mono S t)
end
theorem aD.length:∀{vs:List V} {ds:List D},aD K ρ H vs ds->vs.length=ds.length:=by
 intro vs
 induction vs with
 | nil=>intro ds a;cases a;rfl
 | cons v vs ih=>intro ds a;cases a with | cons _ t=>rw[Qj,Qj,ih t]
theorem aD.got:∀{vs:List V} {ds:List D} {i:Nat} {d:D},aD K ρ H vs ds->ds[i]?=some d->∃v,vs[i]?=some v/\Rep K ρ H v d
 | _,_,_,_,.nil,e=>by simp at e
 | _,_,0,_,.cons r _,e=>by simp at e;subst e;exact⟨_,rfl,r⟩
 | _,_,i+1,d,.cons _ t,e=>by
  obtain⟨u,h1,h2⟩:=aD.got (i:=i) (d:=d) t (by simpa using e);exact⟨u,by simpa using h1,h2⟩
theorem aD.append:∀{vs ws:List V} {ds es:List D},aD K ρ H vs ds->aD K ρ H ws es->aD K ρ H (vs++ws) (ds++es):=by
 intro vs ws
 induction vs with
 | nil=>intro ds es a s;cases a;exact s
 | cons v vs ih=>intro ds es a s;cases a with | cons r t=>exact .cons r (ih t s)
theorem aD.take:∀{vs:List V} {ds:List D} (n:Nat),aD K ρ H vs ds->aD K ρ H (vs.take n) (ds.take n)
 | _,_,0,_=>.nil
 | _,_,_+1,.nil=>.nil
 | _,_,n+1,.cons r t=>.cons r (aD.take n t)
theorem aD.drop:∀{vs:List V} {ds:List D} (n:Nat),aD K ρ H vs ds->aD K ρ H (vs.drop n) (ds.drop n)
 | _,_,0,r=>r
 | _,_,_+1,.nil=>.nil
 | _,_,n+1,.cons _ t=>aD.drop n t
theorem aD.set(r:Rep K ρ H v d):∀{vs:List V} {ds:List D} (i:Nat),aD K ρ H vs ds->aD K ρ H (vs.set i v) (ds.set i d)
 | _,_,_,.nil=>.nil
 | _,_,0,.cons _ t=>.cons r t
 | _,_,i+1,.cons q t=>.cons q (aD.set r i t)
theorem aD.snoc(t:aD K ρ H vs ds)(r:Rep K ρ H v d):aD K ρ H (vs++[v]) (ds++[d]):=t.append (.cons r .nil)
theorem aD.dropLast:∀{vs:List V} {ds:List D},aD K ρ H vs ds->aD K ρ H vs.dropLast ds.dropLast:=by
 intro vs
 induction vs with
 | nil=>intro ds a;cases a;exact .nil
 | cons v vs ih=>intro ds a;cases a with | cons r t=>cases t with
  | nil=>exact .nil
  | cons q t=>exact .cons r (ih (.cons q t))
theorem aD.isEmpty(t:aD K ρ H vs ds):vs.isEmpty=ds.isEmpty:=by cases t <;> rfl
theorem TupAt.sq(h:TupAt K ρ H a vs):kJ K H a vs:=by
 rcases h with⟨h,_⟩ | h
 ·exact .inl h
 ·rcases h with(h |⟨o,h⟩) | h
  ·cases h
  ·cases h
  ·exact .inr h
theorem Lc.sq(h:Lc K ρ H a vs):gZ K H a vs:=by
 rcases h with⟨h,_⟩ | h
 ·exact .inl h
 ·rcases h with(h |⟨o,h⟩) | h
  ·cases h
  ·cases h
  ·exact .inr h
def AV(K:FR)(ρ:Ad)(H:Hp)(a:Addr):MO->Prop
 | .lst ds=>∃vs,H a=some (.lst vs)/\aD K ρ H vs ds
 | .dct kvs=>∃us,H a=some (.dK us)/\bC K ρ H us kvs
 | .dcH kvs=>∃us ps,H a=some (.AB (Pj a us ps))/\aD K ρ H (us.map λu=>V.ref u.1) (kvs.map (·.1))/\aD K ρ H (us.map (·.2)) (kvs.map (·.2))/\oO (kvs.map (·.1))=some ps
 | .exc c=>∃C,Kt K c=some (.ref C)/\H a=some (.AB λ_ h=>yC h a C)
structure bN(K:FR)(ρ:Ad)(h:MH)(H:Hp):Prop where
 len:ρ.ob.length=h.length
 nd:ρ.ob.Nodup
 at_:∀(n:Nat) a o,ρ.ob[n]?=some a->h[n]?=some o->AV K ρ H a o
 tq:∀b∈ρ.rs,(∃o,H b=some o)/\b∉ρ.ob
 tb:∀P,ix K P->¬ρ.has P/\H P=some .tb
theorem bN.IB{K:FR}{ρ ρ':Ad}{h:MH}{H H':Hp}(S:bN K ρ h H)(T:Ch ρ H ρ' H'):∀P,ix K P->¬ρ'.has P/\H' P=some .tb:=λP t=>T.old P _ (S.tb P t).1 (S.tb P t).2
theorem AV.has(x:AV K ρ H a o):∃u,H a=some u:=by
 cases o with
 | lst ds=>obtain⟨vs,e,_⟩:=x;exact⟨_,e⟩
 | dct ds=>obtain⟨vs,e,_⟩:=x;exact⟨_,e⟩
 | dcH ds=>obtain⟨vs,_,e,_⟩:=x;exact⟨_,e⟩
 | exc c=>obtain⟨_,_,e⟩:=x;exact⟨_,e⟩
theorem AV.mono(x:AV K ρ H a o)(T:Ch ρ H ρ' H')(e:H' a=H a):AV K ρ' H' a o:=by
 cases o with
 | lst ds=>obtain⟨vs,x,r⟩:=x;exact⟨vs,e.trans x,r.mono T⟩
 | dct ds=>obtain⟨vs,x,r⟩:=x;exact⟨vs,e.trans x,r.mono T⟩
 | dcH ds=>obtain⟨us,ps,x,r,r2,p⟩:=x;exact⟨us,ps,e.trans x,r.mono T,r2.mono T,p⟩
 | exc c=>obtain⟨C,g,x⟩:=x;exact⟨C,g,e.trans x⟩
theorem bN.mem(S:bN K ρ h H)(ha:a∈ρ.ob):∃(n:Nat)(o:MO),ρ.ob[n]?=some a/\h[n]?=some o/\AV K ρ H a o:=by
 obtain⟨n,hn,e⟩:=List.mem_iff_getElem.mp ha;have hn':n < h.length:=by rw[<-S.len];exact hn
 have e1:ρ.ob[n]?=some a:=by rw[QA hn,e]
 exact⟨n,h[n],e1,QA hn',S.at_ n a _ e1 (QA hn')⟩
theorem bN.has(S:bN K ρ h H)(ha:ρ.has a):∃u,H a=some u:=by
 rcases ha with ha | ha
 ·obtain⟨_,_,_,_,x⟩:=S.mem ha;exact x.has
 ·exact(S.tq a ha).1
theorem bN.fresh(S:bN K ρ h H)(hp:H p=none):¬ρ.has p:=λm=>by
 obtain⟨u,e⟩:=S.has m;rw[hp] at e;cases e
theorem dh.laid(S:bN K ρ h H)(hp:H p=none):dh ρ H ρ (upd H p o):=
 ⟨⟨λ_ _ e=>e,λb u n e=>⟨n,by rw[av (aH e hp)];exact e⟩⟩,rfl,λb hb=>by
  obtain⟨u,e⟩:=(S.tq b hb).1;rw[av (aH e hp)]⟩
theorem bN.same(S:bN K ρ h H)(T:dh ρ H ρ H')(k:∀a∈ρ.ob,H' a=H a):bN K ρ h H':=
 ⟨S.len,S.nd,λn a o e1 e2=>(S.at_ n a o e1 e2).mono T.toCh (k a (Qd e1)),λb hb=>⟨by rw[T.res b hb];exact(S.tq b hb).1,(S.tq b hb).2⟩,S.IB T.toCh⟩
theorem bN.laid(S:bN K ρ h H)(hp:H p=none):bN K ρ h (upd H p o):=
 S.same (dh.laid S hp) λa ha=>by
  obtain⟨u,e⟩:=S.has (.inl ha);rw[av (aH e hp)]
abbrev Ad.more(ρ:Ad)(p:Addr):Ad:=⟨ρ.ob++[p],ρ.rs⟩
theorem dh.made(S:bN K ρ h H)(hp:H p=none):dh ρ H (ρ.more p) (upd H p o):=by
 refine⟨⟨λn a e=>?_,λb u n e=>?_⟩,rfl,(dh.laid S hp).res⟩
 ·show(ρ.ob++[p])[n]?=_;rw[Qt (Qc.mp e).1];exact e
 ·refine⟨λm=>?_,by rw[av (aH e hp)];exact e⟩;rcases m with m | m
  ·rcases Qy.mp m with m | m
   ·exact n (.inl m)
   ·exact aH e hp (Qw.mp m)
  ·exact n (.inr m)
theorem bN.made(S:bN K ρ h H)(hp:H p=none)(ho:AV K (ρ.more p) (upd H p u) p o):bN K (ρ.more p) (h++[o]) (upd H p u):=by
 refine⟨by simp[S.len],?_,λn a x e1 e2=>?_,λb hb=>?_,S.IB (dh.made S hp).toCh⟩
 ·show(ρ.ob++[p]).Nodup;rw[Ui];refine⟨S.nd,by simp,λa ha b hb z=>?_⟩;rw[Qw.mp hb] at z;exact S.fresh hp (.inl (z ▸ ha))
 ·by_cases hn:n < ρ.ob.length
  ·have e1:(ρ.ob++[p])[n]?=some a:=e1;rw[Qt hn] at e1;rw[Qt (by rw[<-S.len];exact hn)] at e2;have q:=S.at_ n a x e1 e2;obtain⟨w,ew⟩:=q.has;exact q.mono (dh.made S hp).toCh (av (aH ew hp))
  ·have l1:=(Qc.mp e1).1;simp at l1;have hn':n=ρ.ob.length:=by lia
   subst hn';have e1:(ρ.ob++[p])[ρ.ob.length]?=some a:=e1;rw[Qv (Qg _)] at e1;rw[Qv (by rw[S.len];exact Qg _)] at e2;simp at e1;rw[S.len] at e2;simp at e2;subst e1;subst e2;exact ho
 ·obtain⟨⟨v,e⟩,n⟩:=S.tq b hb;have z:=aH e hp;refine⟨⟨v,by rw[av z];exact e⟩,λm=>?_⟩;rcases Qy.mp m with m | m
  ·exact n m
  ·exact z (Qw.mp m)
theorem dh.wrote(S:bN K ρ h H)(ha:a∈ρ.ob):dh ρ H ρ (upd H a o):=
 ⟨⟨λ_ _ e=>e,λb u n e=>⟨n,by rw[av (λ(z:b=a)=>n (.inl (by rw[z];exact ha)))];exact e⟩⟩,rfl,λb hb=>av λ(z:b=a)=>(S.tq b hb).2 (by rw[z];exact ha)⟩
theorem bN.wrote(S:bN K ρ h H)(e:ρ.ob[n]?=some a)(ho:AV K ρ (upd H a u) a o):bN K ρ (h.set n o) (upd H a u):=by
 have ha:=Qd e;have T:dh ρ H ρ (upd H a u):=dh.wrote S ha;refine⟨by rw[Rf];exact S.len,S.nd,λm b x e1 e2=>?_,λb hb=>⟨by rw[T.res b hb];exact(S.tq b hb).1,(S.tq b hb).2⟩,S.IB T.toCh⟩
 by_cases hm:n=m
 ·subst hm;have l2:n < h.length:=by rw[<-S.len];exact(Qc.mp e).1
  rw[e] at e1;cases e1;rw[QR l2] at e2;cases e2;exact ho
 ·rw[QX hm] at e2;have q:=S.at_ m b x e1 e2;have hb:b≠a:=by
   intro z;subst z;exact hm ((Vf (Qc.mp e).1 S.nd).mp (e.trans e1.symm))
  exact q.mono T.toCh (av hb)
abbrev Ad.keep(ρ:Ad)(l:Addr):Ad:=⟨ρ.ob,l::ρ.rs⟩
theorem Ch.keep(hl:H l=none):Ch ρ H (ρ.keep l) (upd H l o):=by
 refine⟨λn a e=>e,λb u n e=>⟨λm=>?_,by rw[av (aH e hl)];exact e⟩⟩;rcases m with m | m
 ·exact n (.inl m)
 ·rcases Ql.mp m with m | m
  ·exact aH e hl m
  ·exact n (.inr m)
theorem bN.keep(S:bN K ρ h H)(hl:H l=none):bN K (ρ.keep l) h (upd H l o):=by
 refine⟨S.len,S.nd,λn a x e1 e2=>?_,λb hb=>?_,S.IB (Ch.keep hl)⟩
 ·have q:=S.at_ n a x e1 e2;obtain⟨w,ew⟩:=q.has;exact q.mono (Ch.keep hl) (av (aH ew hl))
 ·rcases Ql.mp hb with rfl | hb
  ·exact⟨⟨_,aO⟩,λm=>S.fresh hl (.inl m)⟩
  ·obtain⟨⟨v,e⟩,n⟩:=S.tq b hb;exact⟨⟨v,by rw[av (aH e hl)];exact e⟩,n⟩
theorem Ch.put(hl:l∈ρ.rs):Ch ρ H ρ (upd H l o):=⟨λn a e=>e,λb u n e=>⟨n,by rw[av (λ(z:b=l)=>n (.inr (by rw[z];exact hl)))];exact e⟩⟩
theorem bN.put(S:bN K ρ h H)(hl:l∈ρ.rs):bN K ρ h (upd H l o):=by
 refine⟨S.len,S.nd,λn a x e1 e2=>(S.at_ n a x e1 e2).mono (Ch.put hl) (av λ(z:a=l)=>(S.tq l hl).2 (by rw[<-z];exact Qd e1)),λb hb=>⟨?_,(S.tq b hb).2⟩,S.IB (Ch.put hl)⟩
 by_cases z:b=l
 ·subst z;exact⟨_,aO⟩
 ·rw[av z];exact(S.tq b hb).1
theorem Ch.free{os rs rs':List Addr}{H:Hp}(hs:∀b∈rs',b∈rs):Ch ⟨os,rs⟩ H ⟨os,rs'⟩ H:=⟨λn a e=>e,λb u n e=>⟨λm=>n (m.elim .inl λm=>.inr (hs b m)),e⟩⟩
theorem bN.free{os rs rs':List Addr}{H:Hp}(S:bN K ⟨os,rs⟩ h H)(hs:∀b∈rs',b∈rs):bN K ⟨os,rs'⟩ h H:=
 ⟨S.len,S.nd,λn a x e1 e2=>(S.at_ n a x e1 e2).mono (Ch.free hs) rfl,λb hb=>S.tq b (hs b hb),S.IB (Ch.free hs)⟩
structure cK(K:FR)(ρ:Ad)(H:Hp)(σ:St)(δ:DS):Prop where
 len:σ.length=δ.length
 at_:∀(i:Nat) d,δ[i]?=some (some d)->∃v,σ[i]?=some (some v)/\Rep K ρ H v d
theorem cK.mono(R:cK K ρ H σ δ)(S:Ch ρ H ρ' H'):cK K ρ' H' σ δ:=⟨R.len,λi d e=>let⟨v,a,b⟩:=R.at_ i d e;⟨v,a,b.mono S⟩⟩
theorem cK.set(R:cK K ρ H σ δ)(r:Rep K ρ H v d)(i:Nat):cK K ρ H (σ.set i (some v)) (δ.set i (some d)):=by
 refine⟨by rw[Rf,Rf];exact R.len,λj e he=>?_⟩
 by_cases hij:i=j
 ·subst hij;have hl:i < δ.length:=by
   have:=(Qc.mp he).1;rw[Rf] at this;exact this
  rw[QR hl] at he;cases he;exact⟨v,by rw[QR (by rw[R.len];exact hl)],r⟩
 ·rw[QX hij] at he ⊢;exact R.at_ j e he
abbrev EM:=DS->MH->Option (D×MH)
abbrev TM:=DS->MH->Option (Bool×MH)
abbrev AM:=DS->MH->Option (List D×MH)
inductive Fl where
 | nx | bk | ct | rt (d:D)
abbrev SM:=DS->MH->Option (Fl×DS×MH)
abbrev GM:=D->DS->MH->Option (DS×MH)
abbrev Fn:=List D->MH->Option (D×MH)
inductive Ih(K:FR)(ρ:Ad)(H:Hp)(h':MH)(d:D)(v:V)(H':Hp):Prop where
 | mk (ρ'):dh ρ H ρ' H'->bN K ρ' h' H'->Rep K ρ' H' v d->Ih K ρ H h' d v H'
noncomputable def du(K:FR)(ρ:Ad)(H:Hp)(h':MH)(d:D):VK:=λv H'=>Ih K ρ H h' d v H'
inductive Py(K:FR)(m:EM)(σ:L2.St)(H:Hp)(Q:VK):Prop where
 | mk (ρ δ h d h'):cK K ρ H σ δ->bN K ρ h H->(m δ h=some (d,h'))->(∀v H',du K ρ H h' d v H'->Q v H')->Py K m σ H Q
def tM(K:FR)(m:EM):TE:=λσ H Q=>Py K m σ H Q
inductive Nm(K:FR)(m:TM)(σ:L2.St)(H:Hp)(Q:Bool->Hp->Prop):Prop where
 | mk (ρ δ h b h'):cK K ρ H σ δ->bN K ρ h H->(m δ h=some (b,h'))->(∀ρ' H',dh ρ H ρ' H'->bN K ρ' h' H'->Q b H')->Nm K m σ H Q
def IE(K:FR)(m:TM):TT:=λσ H Q=>Nm K m σ H Q
inductive Nu(K:FR)(m:AM)(σ:L2.St)(H:Hp)(Q:List V->Hp->Prop):Prop where
 | mk (ρ δ h ds h'):cK K ρ H σ δ->bN K ρ h H->(m δ h=some (ds,h'))->(∀vs ρ' H',dh ρ H ρ' H'->bN K ρ' h' H'->aD K ρ' H' vs ds->Q vs H')->Nu K m σ H Q
def Po(K:FR)(m:AM):TA:=λσ H Q=>Nu K m σ H Q
inductive Np(K:FR)(m:SM)(E:Ends)(σ:L2.St)(H:Hp):Prop where
 | mk (ρ δ h fl δ' h'):cK K ρ H σ δ->bN K ρ h H->(m δ h=some (fl,δ',h'))->(∀ρ' H',dh ρ H ρ' H'->bN K ρ' h' H'->
 match fl with
 | .nx=>∀σ',cK K ρ' H' σ' δ'->E.nx σ' H'
 | .bk=>∀σ',cK K ρ' H' σ' δ'->E.bk σ' H'
 | .ct=>∀σ',cK K ρ' H' σ' δ'->E.ct σ' H'
 | .rt d=>∀v,Rep K ρ' H' v d->E.rt v H')->Np K m E σ H
def Hx(K:FR)(m:SM):TS:=λE σ H=>Np K m E σ H
inductive Nt(K:FR)(m:GM)(v:V)(σ:L2.St)(H:Hp)(Q:L2.St->Hp->Prop):Prop where
 | mk (ρ δ h d δ' h'):cK K ρ H σ δ->bN K ρ h H->Rep K ρ H v d->(m d δ h=some (δ',h'))->(∀ρ' H' σ',dh ρ H ρ' H'->bN K ρ' h' H'->cK K ρ' H' σ' δ'->Q σ' H')->Nt K m v σ H Q
def LK(K:FR)(m:GM):TG:=λv σ H Q=>Nt K m v σ H Q
def SE(X:Cx)(e:Expr)(m:EM):Prop:=PE X e (tM X.K m)
def ST(X:Cx)(e:Expr)(m:TM):Prop:=PT X e (IE X.K m)
def SW(X:Cx)(e:Expr)(m:TM):Prop:=PW X e (IE X.K m)
def SA(X:Cx)(es:List Expr)(m:AM):Prop:=PA X es (Po X.K m)
def SS(X:Cx)(s:Stmt)(m:SM):Prop:=PS X s (Hx X.K m)
def Ce(X:Cx)(s:List Stmt)(m:SM):Prop:=wQ X s (Hx X.K m)
def SG(X:Cx)(e:Expr)(m:GM):Prop:=PG X e (LK X.K m)
theorem _root_.L2.PE.imp(h:PE X e t)(i:∀σ H Q,t' σ H Q->t σ H Q):PE X e t':=λpins s σ H Q I q=>h pins s σ H Q I (i σ H Q q)
theorem _root_.L2.PT.imp(h:PT X e t)(i:∀σ H Q,t' σ H Q->t σ H Q):PT X e t':=λpins s σ H Q I q=>h pins s σ H Q I (i σ H Q q)
theorem _root_.L2.PW.imp(h:PW X e t)(i:∀σ H Q,t' σ H Q->t σ H Q):PW X e t':=λwh pins s σ H Q I q=>h wh pins s σ H Q I (i σ H Q q)
theorem _root_.L2.PA.imp(h:PA X e t)(i:∀σ H Q,t' σ H Q->t σ H Q):PA X e t':=λpos pins s σ H Q I q=>h pos pins s σ H Q I (i σ H Q q)
theorem _root_.L2.PS.imp(h:PS X e t)(i:∀E σ H,t' E σ H->t E σ H):PS X e t':=λpins s σ H E I q=>h pins s σ H E I (i E σ H q)
theorem _root_.L2.wQ.imp(h:wQ X e t)(i:∀E σ H,t' E σ H->t E σ H):wQ X e t':=λpins s σ H E I q=>h pins s σ H E I (i E σ H q)
theorem _root_.L2.PG.imp(h:PG X e t)(i:∀v σ H Q,t' v σ H Q->t v σ H Q):PG X e t':=λpins s σ H v u Q I r q=>h pins s σ H v u Q I r (i v σ H Q q)
theorem bB(h:o.bind f=some b):∃a,o=some a/\f a=some b:=Sx.mp h
theorem gM(h:o.map f=some b):∃a,o=some a/\f a=b:=QD.mp h
theorem Fg{x:D}{α:Type}{g:Bool->Option α}{z:α}(e:(match x with | .bl c=>g c | _=>none)=some z):∃c,x=.bl c/\g c=some z:=by
 cases x <;> first | exact absurd e (by intro z;cases z) | exact⟨_,rfl,e⟩
theorem du.here(S:bN K ρ h H)(r:Rep K ρ H v d):du K ρ H h d v H:=⟨ρ,.refl _ _,S,r⟩
theorem du.step(T:dh ρ H ρ1 H1)(p:du K ρ1 H1 h' d v H'):du K ρ H h' d v H':=let⟨ρ2,T2,S2,r2⟩:=p;⟨ρ2,T.trans T2,S2,r2⟩
theorem du.tup(S:bN K ρ h H)(r:aD K ρ H vs ds)(hp:H p=none):du K ρ H h (.tup ds) (.ref p) (upd H p (.tup vs)):=
 ⟨ρ,dh.laid S hp,S.laid hp,.tup (.inl ⟨.inl aO,S.fresh hp⟩) (r.mono (dh.laid S hp).toCh)⟩
theorem du.lv(S:bN K ρ h H)(r:aD K ρ H vs ds)(hp:H p=none):du K ρ H h (.lv ds) (.ref p) (upd H p (.lst vs)):=
 ⟨ρ,dh.laid S hp,S.laid hp,.lv aO (S.fresh hp) (r.mono (dh.laid S hp).toCh)⟩
theorem du.dv(S:bN K ρ h H)(r:bC K ρ H us ds)(hp:H p=none):du K ρ H h (.dv ds) (.ref p) (upd H p (.dK us)):=
 ⟨ρ,dh.laid S hp,S.laid hp,.dv aO (S.fresh hp) (r.mono (dh.laid S hp).toCh)⟩
noncomputable def ax(i:Nat):EM:=λδ h=>(δ[i]?).join.map λd=>(d,h)
noncomputable def eK(d:D):EM:=λ_ h=>some (d,h)
noncomputable def ao(f:D->D->MH->Option (D×MH))(a b:EM):EM:=λδ h=>(a δ h).bind λp=>(b δ p.2).bind λq=>f p.1 q.1 q.2
noncomputable def yd(f:D->MH->Option (D×MH))(a:EM):EM:=λδ h=>(a δ h).bind λp=>f p.1 p.2
noncomputable def aM:AM:=λ_ h=>some ([],h)
noncomputable def ag(a:EM)(r:AM):AM:=λδ h=>(a δ h).bind λp=>(r δ p.2).bind λq=>some (p.1::q.1,q.2)
noncomputable def ay(f:Fn)(a:AM):EM:=λδ h=>(a δ h).bind λp=>f p.1 p.2
noncomputable def OY(t:TM)(a b:EM):EM:=λδ h=>(t δ h).bind λp=>if p.1 then a δ p.2 else b δ p.2
noncomputable def aE(a:EM):TM:=λδ h=>(a δ h).bind λp=>match p.1 with
 | .bl b=>some (b,p.2)
 | _=>none
noncomputable def nF(t:TM):TM:=λδ h=>(t δ h).map λp=>(!p.1,p.2)
noncomputable def lM(a b:TM):TM:=λδ h=>(a δ h).bind λp=>if p.1 then b δ p.2 else some (false,p.2)
noncomputable def FJ(a b:TM):TM:=λδ h=>(a δ h).bind λp=>if p.1 then some (true,p.2) else b δ p.2
noncomputable def KG(a b:EM):EM:=λδ h=>(a δ h).bind λp=>match p.1 with
 | .bl c=>if c then b δ p.2 else some (.bl false,p.2)
 | _=>none
noncomputable def aX:Fn:=λds h=>some (.tup ds,h)
inductive PC(K:FR)(f:D->D->MH->Option (D×MH))(x y:V)(H:Hp)(Q:VK):Prop where
 | mk (ρ h d e z h'):bN K ρ h H->Rep K ρ H x d->Rep K ρ H y e->(f d e h=some (z,h'))->(∀v H',du K ρ H h' z v H'->Q v H')->PC K f x y H Q
def rS(K:FR)(f:D->D->MH->Option (D×MH)):R2:=λx y H Q=>PC K f x y H Q
def oz(X:Cx)(g:Value->Value->Sem Value)(f:D->D->MH->Option (D×MH)):Prop:=oA X g (rS X.K f)
inductive PB(K:FR)(f:D->MH->Option (D×MH))(x:V)(H:Hp)(Q:VK):Prop where
 | mk (ρ h d z h'):bN K ρ h H->Rep K ρ H x d->(f d h=some (z,h'))->(∀v H',du K ρ H h' z v H'->Q v H')->PB K f x H Q
def rU(K:FR)(f:D->MH->Option (D×MH)):V->Hp->VK->Prop:=λx H Q=>PB K f x H Q
inductive PF(K:FR)(f:Fn)(vs:List V)(H:Hp)(Q:VK):Prop where
 | mk (ρ h ds z h'):bN K ρ h H->aD K ρ H vs ds->(f ds h=some (z,h'))->(∀v H',du K ρ H h' z v H'->Q v H')->PF K f vs H Q
def rF(K:FR)(f:Fn):List V->Hp->VK->Prop:=λvs H Q=>PF K f vs H Q
def iC(X:Cx)(g:Value)(f:Fn):Prop:=gy X g (rF X.K f)
section
variable {X:Cx} {a b c e:Expr} {es:List Expr} {pos:Pos} {ma mb mc:EM} {mt mu:TM} {m:AM} {f:D->D->MH->Option (D×MH)}
theorem IP(hN:X.N[i]?=some x)(hv:K6 X.env.scope x)(hd:(x==("__debug__":Str))=false:=by ac_nf)(hcd:(x==("__classdict__":Str))=false:=by ac_nf):SE X (.Name x pos) (ax i):=
 (DW hN hv hd hcd).imp λσ H Q ⟨ρ,δ,h,d,h',R,S,e,k⟩=>by
  obtain⟨d',e1,e2⟩:=gM e;cases e2;obtain⟨v,ev,r⟩:=R.at_ i _ (UJ.mp e1);exact⟨v,ev,k v H (.here S r)⟩
theorem Dl(hp:PE X e (tC v))(hr:∀ρ H,Rep X.K ρ H v d):SE X e (eK d):=hp.imp λσ H Q ⟨ρ,δ,h,d',h',R,S,ee,k⟩=>by
 cases ee;exact k v H (.here S (hr _ _))
theorem aJ{i j}:SE X (.Constant (.int i) j pos) (eK (.int i)):=Dl Jz λ_ _=>.int i
theorem Dm{b j}:SE X (.Constant (.bool b) j pos) (eK (.bl b)):=Dl Mp λ_ _=>.bl b
theorem De{j}:SE X (.Constant .none j pos) (eK .cu):=Dl DY λ_ _=>.cu
theorem bc{x j}(h:PyData.strOk x=true:=by decide+kernel):SE X (.Constant (.str x) j pos) (eK (.str x)):=Dl Jv λ_ _=>.str h
theorem F1(hg:Gl X x)(hm:X.mg x=some u)(r:RelV v u)(hr:∀ρ H,Rep X.K ρ H v d)(hd:(x==("__debug__":Str))=false:=by ac_nf):SE X (.Name x pos) (eK d):=
 Dl (Ae hg hm r hd) hr
theorem z7(h:tM X.K (ao f ma mb) σ H Q):LI (rS X.K f) (tM X.K ma) (tM X.K mb) σ H Q:=by
 obtain⟨ρ,δ,h,d,h',R,S,e,k⟩:=h;obtain⟨⟨x,h1⟩,e1,e⟩:=bB e;obtain⟨⟨y,h2⟩,e2,e3⟩:=bB e;refine⟨ρ,δ,h,x,h1,R,S,e1,λv H1 ⟨ρ1,T1,S1,r1⟩=>?_⟩;refine⟨ρ1,δ,h1,y,h2,R.mono T1,S1,e2,λu H2 ⟨ρ2,T2,S2,r2⟩=>?_⟩;exact⟨ρ2,h2,x,y,d,h',S2,r1.mono T2,r2,e3,λw H3 p=>k w H3 (p.step (T1.trans T2))⟩
theorem aZ(ho:oz X (binaryOp op) f)(ha:SE X a ma)(hb:SE X b mb):SE X (.BinOp a op b pos) (ao f ma mb):=(HK ho ha hb).imp λ_ _ _=>z7
theorem Di(ho:oz X (compareOp op) f)(ha:SE X a ma)(hb:SE X b mb)(hm:behindInMarks op b=false):SE X (.Compare a [op] [b] pos) (ao f ma mb):=(Gx ho ha hb hm).imp λ_ _ _=>z7
theorem kN{op:CmpOp}(ho:oz X (compareOp op) f)(ha:SE X a ma)(hb:SE X b mb)(hm:behindInMarks op b=false):ST X (.Compare a [op] [b] pos) (aE (ao f ma mb)):=
 (Gg ho ha hb hm).imp λσ H Q ⟨ρ,δ,h,c,h',R,S,e,k⟩=>by
  obtain⟨⟨x,h1⟩,e1,e2⟩:=bB e;obtain⟨c',rfl,e2⟩:=Fg e2;cases e2;refine z7 ⟨ρ,δ,h,.bl c,h1,R,S,e1,λv H' ⟨ρ',T,S',r⟩=>?_⟩;cases r;exact⟨c,rfl,k ρ' H' T S'⟩
theorem zZ{op:UnaryOp}{f:D->MH->Option (D×MH)}(ho:Nh X (unaryOp op) (rU X.K f))(ha:SE X a ma):SE X (.UnaryOp op a pos) (yd f ma):=(Mm ho ha).imp λσ H Q ⟨ρ,δ,h,d,h',R,S,e,k⟩=>by
 obtain⟨⟨x,h1⟩,e1,e⟩:=bB e;exact⟨ρ,δ,h,x,h1,R,S,e1,λv H1 ⟨ρ1,T1,S1,r1⟩=>⟨ρ1,h1,x,d,h',S1,r1,e,λw H3 p=>k w H3 (p.step T1)⟩⟩
theorem aq:SA X [] aM:=D2.imp λσ H Q ⟨ρ,δ,h,d,h',R,S,e,k⟩=>by
 cases e;exact k [] ρ H (.refl _ _) S .nil
theorem aa(ha:SE X e ma)(hr:SA X es m)(hs:starEach (e::es) X.env=(false,eval e X.env)::starEach es X.env:=by ac_nf):SA X (e::es) (ag ma m):=
 (vI ha hr hs).imp λσ H Q ⟨ρ,δ,h,d,h',R,S,e,k⟩=>by
  obtain⟨⟨x,h1⟩,e1,e⟩:=bB e;obtain⟨⟨ys,h2⟩,e2,e3⟩:=bB e;cases e3;refine⟨ρ,δ,h,x,h1,R,S,e1,λv H1 ⟨ρ1,T1,S1,r1⟩=>?_⟩;exact⟨ρ1,δ,h1,ys,h2,R.mono T1,S1,e2,λvs ρ2 H2 T2 S2 rs=>k _ ρ2 H2 (T1.trans T2) S2 (.cons (r1.mono T2) rs)⟩
def kl(m:AM)(n:Nat):Prop:=∀δ h ds h',m δ h=some (ds,h')->ds.length=n
theorem aC:kl aM 0:=λδ h ds h' e=>by cases e;rfl
theorem ah(hr:kl m n):kl (ag ma m) (n+1):=λδ h ds h' e=>by
 obtain⟨⟨x,h1⟩,e1,e⟩:=bB e;obtain⟨⟨ys,h2⟩,e2,e3⟩:=bB e;cases e3;rw[Qj,hr _ _ _ _ e2]
theorem cp{x1}(h:SA X es m)(hl:kl m n)(hn:n<=sizeLine:=by decide):SE X (.Tuple es x1 pos) (ay aX m):=(Jt h).imp λσ H Q ⟨ρ,δ,h,d,h',R,S,e,k⟩=>by
 obtain⟨⟨x,h1⟩,e1,e⟩:=bB e;cases e;refine⟨ρ,δ,h,x,h1,R,S,e1,λvs ρ1 H1 T1 S1 r1=>⟨by rw[r1.length,hl _ _ _ _ e1];exact hn,λp hp=>k _ _ (du.step T1 (.tup S1 r1 hp))⟩⟩
inductive Nv(K:FR)(m:AM)(σ:L2.St)(H:Hp)(Q:VK):Prop where
 | mk (ρ δ h ds h'):cK K ρ H σ δ->bN K ρ h H->(m δ h=some (ds,h'))->(∀ρ1 H1 p vs,dh ρ H ρ1 H1->bN K ρ1 h' H1->H1 p=none->aD K ρ1 H1 vs ds->Q (.ref p) (upd H1 p (.lst vs)))->Nv K m σ H Q
def P0(K:FR)(m:AM):TE:=λσ H Q=>Nv K m σ H Q
def lG(X:Cx)(e:Expr)(m:AM):Prop:=PE X e (P0 X.K m)
noncomputable def gB(m:AM):EM:=λδ h=>(m δ h).map λp=>(.lv p.1,p.2)
noncomputable def ye(m:AM):EM:=λδ h=>(m δ h).map λp=>(.ob p.2.length,p.2++[.lst p.1])
theorem du.ob(S:bN K ρ h H)(r:aD K ρ H vs ds)(hp:H p=none):du K ρ H (h++[.lst ds]) (.ob h.length) (.ref p) (upd H p (.lst vs)):=
 ⟨ρ.more p,dh.made S hp,S.made hp ⟨vs,aO,r.mono (dh.made S hp).toCh⟩,.ob (show(ρ.ob++[p])[h.length]?=_ by rw[<-S.len,Qv (Qg _)];simp)⟩
theorem lG.lv(h:lG X e m):SE X e (gB m):=h.imp λσ H Q ⟨ρ,δ,h,d,h',R,S,e,k⟩=>by
 obtain⟨⟨ds,h1⟩,e1,e2⟩:=gM e;cases e2;exact⟨ρ,δ,h,ds,h1,R,S,e1,λρ1 H1 p vs T S1 hp r=>k _ _ (du.step T (.lv S1 r hp))⟩
theorem lG.ob(h:lG X e m):SE X e (ye m):=h.imp λσ H Q ⟨ρ,δ,h,d,h',R,S,e,k⟩=>by
 obtain⟨⟨ds,h1⟩,e1,e2⟩:=gM e;cases e2;exact⟨ρ,δ,h,ds,h1,R,S,e1,λρ1 H1 p vs T S1 hp r=>k _ _ (du.step T (.ob S1 r hp))⟩
theorem eh(h:SA X es m)(hl:kl m n)(hn:n<=sizeLine:=by decide):lG X (.List es pos) m:=(Jy h).imp λσ H Q ⟨ρ,δ,h,ds,h',R,S,e,k⟩=>
 ⟨ρ,δ,h,ds,h',R,S,e,λvs ρ1 H1 T1 S1 r1=>⟨by rw[r1.length,hl _ _ _ _ e];exact hn,λp hp=>k ρ1 H1 p vs T1 S1 hp r1⟩⟩
noncomputable def P5:EM:=λ_ h=>some (.dv [],h)
theorem L4:SE X (.Dict [] [] pos) P5:=D1.imp λσ H Q ⟨ρ,δ,h,d,h',R,S,e,k⟩ p hp=>by
 cases e;exact k _ _ (.dv S .nil hp)
theorem Ga{σ:St}{H:Hp}{Q:Bool->Hp->Prop}(h:IE X.K (aE ma) σ H Q):tM X.K ma σ H λx H1=>∃c,x=.bl c/\Q c H1:=by
 obtain⟨ρ,δ,h,c,h',R,S,e,k⟩:=h;obtain⟨⟨x,h1⟩,e1,e2⟩:=bB e;obtain⟨c',rfl,e2⟩:=Fg e2;cases e2;refine⟨ρ,δ,h,.bl c,h1,R,S,e1,λv H' ⟨ρ',T,S',r⟩=>?_⟩;cases r;exact⟨c,rfl,k ρ' H' T S'⟩
theorem qK(h:ST X a mt):ST X (.UnaryOp .Not a pos) (nF mt):=(Jn h).imp λσ H Q ⟨ρ,δ,h,c,h',R,S,e,k⟩=>by
 obtain⟨⟨x,h1⟩,e1,e2⟩:=gM e;cases e2;exact⟨ρ,δ,h,x,h1,R,S,e1,λρ' H' T S'=>k ρ' H' T S'⟩
theorem zV(h:ST X a mt):SW X (.BoolOp .And [a] pos) mt:=Gf h
theorem CN(h:ST X a mt):SW X (.BoolOp .Or [a] pos) mt:=Jl h
theorem yN{rest:List Expr}(ha:ST X a mt)(hb:SW X (.BoolOp .And (b::rest) pos) mu):SW X (.BoolOp .And (a::b::rest) pos) (lM mt mu):=(Jm ha hb).imp λσ H Q ⟨ρ,δ,h,c,h',R,S,e,k⟩=>by
 obtain⟨⟨x,h1⟩,e1,e2⟩:=bB e;refine⟨ρ,δ,h,x,h1,R,S,e1,λρ' H' T S'=>?_⟩;cases x with
 | true=>rw[Qf rfl] at e2 ⊢;exact⟨ρ',δ,h1,c,h',R.mono T,S',e2,λρ2 H2 T2 S2=>k ρ2 H2 (T.trans T2) S2⟩
 | false=>rw[Qo (by simp)] at e2 ⊢;cases e2;exact k ρ' H' T S'
theorem Hz{rest:List Expr}(ha:ST X a mt)(hb:SW X (.BoolOp .Or (b::rest) pos) mu):SW X (.BoolOp .Or (a::b::rest) pos) (FJ mt mu):=(Ml ha hb).imp λσ H Q ⟨ρ,δ,h,c,h',R,S,e,k⟩=>by
 obtain⟨⟨x,h1⟩,e1,e2⟩:=bB e;refine⟨ρ,δ,h,x,h1,R,S,e1,λρ' H' T S'=>?_⟩;cases x with
 | false=>rw[Qo (by simp)] at e2 ⊢;exact⟨ρ',δ,h1,c,h',R.mono T,S',e2,λρ2 H2 T2 S2=>k ρ2 H2 (T.trans T2) S2⟩
 | true=>rw[Qf rfl] at e2 ⊢;cases e2;exact k ρ' H' T S'
theorem SW.st(h:SW X a mt):ST X a mt:=PW.pt h
theorem Dd{op}(h:SE X a ma):SE X (.BoolOp op [a] pos) ma:=Jx h
theorem IT{rest:List Expr}(ha:SE X a ma)(hb:SE X (.BoolOp .And (b::rest) pos) mb):SE X (.BoolOp .And (a::b::rest) pos) (KG ma mb):=(JB ha hb).imp λσ H Q ⟨ρ,δ,h,d,h',R,S,e,k⟩=>by
 obtain⟨⟨x,h1⟩,e1,e2⟩:=bB e;obtain⟨c,rfl,e2⟩:=Fg e2;refine⟨ρ,δ,h,.bl c,h1,R,S,e1,λv H' ⟨ρ',T,S',r⟩=>?_⟩;cases r;refine⟨c,rfl,?_⟩;cases c with
 | true=>rw[Qf rfl] at e2 ⊢;exact⟨ρ',δ,h1,d,h',R.mono T,S',e2,λv H2 p=>k v H2 (p.step T)⟩
 | false=>rw[Qo (by simp)] at e2 ⊢;cases e2;exact k _ _ ⟨ρ',T,S',.bl _⟩
theorem L3(hc:ST X c mt)(ha:SE X a ma)(hb:SE X b mb):SE X (.IfExp c a b pos) (OY mt ma mb):=(D0 hc ha hb).imp λσ H Q ⟨ρ,δ,h,d,h',R,S,e,k⟩=>by
 obtain⟨⟨x,h1⟩,e1,e2⟩:=bB e;refine⟨ρ,δ,h,x,h1,R,S,e1,λρ' H' T S'=>?_⟩;cases x with
 | true=>rw[Qf rfl] at e2 ⊢;exact⟨ρ',δ,h1,d,h',R.mono T,S',e2,λv H2 p=>k v H2 (p.step T)⟩
 | false=>rw[Qo (by simp)] at e2 ⊢;exact⟨ρ',δ,h1,d,h',R.mono T,S',e2,λv H2 p=>k v H2 (p.step T)⟩
noncomputable def yJ(d:D)(h:MH):Option Bool:=match d with
 | .cu=>some false
 | .bl b=>some b
 | .int i=>some (i !=0)
 | .str x=>if x.length<=sizeLine then some ((x.length:Int) !=0) else none
 | .tup xs=>some (!xs.isEmpty)
 | .dv kvs=>some (!kvs.isEmpty)
 | .ob n=>match h[n]? with
  | some (.lst xs)=>some (!xs.isEmpty)
  | some (.dct kvs)=>some (!kvs.isEmpty)
  | _=>none
 | .lv xs=>some (!xs.isEmpty)
 | .ro xs=>some (!xs.isEmpty)
 | .ty _=>none
noncomputable def qG(a:EM):TM:=λδ h=>(a δ h).bind λp=>(yJ p.1 p.2).map λc=>(c,p.2)
theorem bC.isEmpty(t:bC K ρ H us ds):us.isEmpty=ds.isEmpty:=by cases t <;> rfl
theorem zT{K:FR}{ρ:Ad}{H:Hp}{h:MH}{v:V}{d:D}{c:Bool}(S:bN K ρ h H)(r:Rep K ρ H v d)(e:yJ d h=some c):Hm K v H c:=by
 cases r with
 | cu=>cases e;exact rfl
 | bl b=>cases e;exact rfl
 | int i=>cases e;exact rfl
 | str hs=>
  unfold yJ at e
  by_cases z:‹Str›.length<=sizeLine
  ·simp only[Qf z] at e;cases e;exact⟨z,rfl⟩
  ·simp only[Qo z] at e;cases e
 | ty n=>exact bW e
 | tup ht l=>cases e;exact .inr (.inl ⟨_,ht.sq,by rw[l.isEmpty]⟩)
 | lv ht n l=>cases e;exact .inl ⟨_,gZ.of ht,by rw[l.isEmpty]⟩
 | ro ht l=>cases e;exact .inl ⟨_,ht.sq,by rw[l.isEmpty]⟩
 | dv ht n l=>cases e;exact .inr (.inr ⟨_,ht,by rw[l.isEmpty]⟩)
 | ob hn=>
  unfold yJ at e;rename_i a n;cases q:h[n]? with
  | none=>simp only[q] at e;cases e
  | some o=>
   have x:=S.at_ n a o hn q;cases o with
   | lst ds=>simp only[q] at e;cases e;obtain⟨vs,e1,l⟩:=x;exact .inl ⟨_,gZ.of e1,by rw[l.isEmpty]⟩
   | dct ds=>simp only[q] at e;cases e;obtain⟨vs,e1,l⟩:=x;exact .inr (.inr ⟨_,e1,by rw[l.isEmpty]⟩)
   | dcH ds=>simp only[q] at e;cases e
   | exc c=>simp only[q] at e;cases e
theorem yO(ha:SE X a ma)(he:∀whole,isTrue a X.env whole=(do let v<-whole;standAt a.pos;holding [v] (truthy v)):=by intro _;ac_nf):ST X a (qG ma):=(DL ha he).imp λσ H Q ⟨ρ,δ,h,c,h',R,S,e,k⟩=>by
 obtain⟨⟨x,h1⟩,e1,e2⟩:=bB e;obtain⟨c',e3,e4⟩:=gM e2;cases e4;exact⟨ρ,δ,h,x,h1,R,S,e1,λv H' ⟨ρ',T,S',r⟩=>⟨c,zT S' r e3,k ρ' H' T S'⟩⟩
end
mutual
noncomputable def Hk:D->D->Bool
 | .cu,.cu=>true
 | .bl a,.bl b=>a==b
 | .int a,.int b=>a==b
 | .str a,.str b=>decide (a=b)
 | .ty a,.ty b=>a==b
 | .tup a,.tup b=>wG a b
 | .lv a,.lv b=>wG a b
 | .ro a,.ro b=>wG a b
 | .dv a,.dv b=>Fi a b
 | .ob a,.ob b=>a==b
 | _,_=>false
noncomputable def wG:List D->List D->Bool
 | [],[]=>true
 | a::r,b::s=>Hk a b&&wG r s
 | _,_=>false
noncomputable def Fi:List (Key×D)->List (Key×D)->Bool
 | [],[]=>true
 |(k,a)::r,(j,b)::s=>decide (k=j)&&Hk a b&&Fi r s
 | _,_=>false
end
mutual
theorem AQ:∀(a b:D),Hk a b=true->a=b
 | .cu,b,h=>by cases b <;> first | rfl |(cases h;done)
 | .bl x,b,h=>by cases b <;> first | exact congrArg _ (eq_of_beq h) |(cases h;done)
 | .int x,b,h=>by cases b <;> first | exact congrArg _ (eq_of_beq h) |(cases h;done)
 | .str x,b,h=>by cases b <;> first | exact congrArg _ (Q8 h) |(cases h;done)
 | .ty x,b,h=>by cases b <;> first | exact congrArg _ (eq_of_beq h) |(cases h;done)
 | .ob x,b,h=>by cases b <;> first | exact congrArg _ (eq_of_beq h) |(cases h;done)
 | .tup x,b,h=>by cases b <;> first | exact congrArg _ (iV _ _ h) |(cases h;done)
 | .lv x,b,h=>by cases b <;> first | exact congrArg _ (iV _ _ h) |(cases h;done)
 | .ro x,b,h=>by cases b <;> first | exact congrArg _ (iV _ _ h) |(cases h;done)
 | .dv x,b,h=>by cases b <;> first | exact congrArg _ (wH _ _ h) |(cases h;done)
theorem iV:∀(a b:List D),wG a b=true->a=b
 | [],b,h=>by cases b <;> first | rfl |(cases h;done)
 | x::r,b,h=>by
  cases b with
  | nil=>cases h
  | cons y s=>have h:=QE.mp h;rw[AQ _ _ h.1,iV _ _ h.2]
theorem wH:∀(a b:List (Key×D)),Fi a b=true->a=b
 | [],b,h=>by cases b <;> first | rfl |(cases h;done)
 |(k,x)::r,b,h=>by
  cases b with
  | nil=>cases h
  | cons y s=>
   obtain⟨j,y⟩:=y;have h:=QE.mp h;have g:=QE.mp h.1;rw[Q8 g.1,AQ _ _ g.2,wH _ _ h.2]
end
mutual
theorem uU:∀(a:D),Hk a a=true
 | .cu=>rfl
 | .bl x=>QS x
 | .int x=>QS x
 | .str x=>QP rfl
 | .ty x=>QS x
 | .ob x=>QS x
 | .tup x=>eY x
 | .lv x=>eY x
 | .ro x=>eY x
 | .dv x=>ow x
theorem eY:∀(a:List D),wG a a=true
 | []=>rfl
 | x::r=>QE.mpr ⟨uU x,eY r⟩
theorem ow:∀(a:List (Key×D)),Fi a a=true
 | []=>rfl
 |(k,x)::r=>QE.mpr ⟨QE.mpr ⟨QP rfl,uU x⟩,ow r⟩
end
noncomputable def Fh:MO->MO->Bool
 | .lst a,.lst b=>wG a b
 | .dct a,.dct b=>Fi a b
 | .dcH a,.dcH b=>wG (a.map (·.1)) (b.map (·.1))&&wG (a.map (·.2)) (b.map (·.2))
 | .exc a,.exc b=>decide (a=b)
 | _,_=>false
theorem xB:∀{a b:List (D×D)},a.map (·.1)=b.map (·.1)->a.map (·.2)=b.map (·.2)->a=b
 | [],[],_,_=>rfl
 | [],_::_,h,_=>by cases h
 | _::_,[],h,_=>by cases h
 |(x,y)::a,(u,v)::b,h,g=>by
  obtain⟨h1,h2⟩:=List.cons.inj h;obtain⟨g1,g2⟩:=List.cons.inj g;dsimp only at h1 g1;rw[h1,g1,xB h2 g2]
theorem AN(h:Fh a b=true):a=b:=by
 cases a <;> cases b <;> first |(cases h;done) | skip
 ·rw[iV _ _ h]
 ·rw[wH _ _ h]
 ·have h:=QE.mp h;rw[xB (iV _ _ h.1) (iV _ _ h.2)]
 ·rw[Q8 h]
theorem uS(a:MO):Fh a a=true:=by
 cases a with
 | lst x=>exact eY x
 | dct x=>exact ow x
 | dcH x=>exact QE.mpr ⟨eY _,eY _⟩
 | exc c=>exact QP rfl
noncomputable def wI:MH->MH->Bool
 | [],[]=>true
 | a::r,b::s=>Fh a b&&wI r s
 | _,_=>false
theorem AO:∀{a b:MH},wI a b=true->a=b
 | [],b,h=>by cases b <;> first | rfl | simp[wI] at h
 | x::r,b,h=>by
  cases b with
  | nil=>simp[wI] at h
  | cons y s=>simp[wI] at h;rw[AN h.1,AO h.2]
noncomputable def cq:SM:=λδ h=>some (.nx,δ,h)
noncomputable def vv:SM:=λ_ _=>none
noncomputable def au(a b:SM):SM:=λδ h=>(a δ h).bind λr=>match r.1 with
 | .nx=>b r.2.1 r.2.2
 | _=>some r
noncomputable def aR(i:Nat)(e:EM):SM:=λδ h=>(e δ h).bind λp=>some (.nx,δ.set i (some p.1),p.2)
noncomputable def fD(e:EM)(g:GM):SM:=λδ h=>(e δ h).bind λp=>(g p.1 δ p.2).bind λq=>some (.nx,q.1,q.2)
noncomputable def gb(e:EM):SM:=λδ h=>(e δ h).bind λp=>some (.nx,δ,p.2)
noncomputable def a9(e:EM):SM:=λδ h=>(e δ h).bind λp=>some (.rt p.1,δ,p.2)
noncomputable def fU(t:TM)(a b:SM):SM:=λδ h=>(t δ h).bind λp=>if p.1 then a δ p.2 else b δ p.2
noncomputable def gN(i:Nat):GM:=λd δ h=>some (δ.set i (some d),h)
abbrev FE:=List D->DS->MH->Option (DS×MH)
noncomputable def bU:FE:=λds δ h=>match ds with
 | []=>some (δ,h)
 | _=>none
noncomputable def ar(g:GM)(u:FE):FE:=λds δ h=>match ds with
 | []=>none
 | d::r=>(g d δ h).bind λp=>u r p.1 p.2
noncomputable def gT(n:Nat)(u:FE):GM:=λd δ h=>match d with
 | .tup xs=>if xs.length=n then u xs δ h else none
 | _=>none
abbrev W:=List (Nat×MO)
abbrev IM:=DS->MH->Option (List D×W×MH)
noncomputable def pW:W->MH->Bool
 | [],_=>true
 |(n,o)::r,h=>(match h[n]? with | some u=>Fh u o | none=>false)&&pW r h
noncomputable def mT(ws:W)(g:GM)(b:SM):List D->SM
 | [],δ,h=>if pW ws h then some (.nx,δ,h) else none
 | x::r,δ,h=>if pW ws h then(g x δ h).bind λq=>(b q.1 q.2).bind λz=>match z.1 with
  | .nx=>mT ws g b r z.2.1 z.2.2
  | .ct=>mT ws g b r z.2.1 z.2.2
  | .bk=>some (.nx,z.2.1,z.2.2)
  | .rt d=>some (.rt d,z.2.1,z.2.2)
  else none
noncomputable def hU(i:IM)(g:GM)(b:SM):SM:=λδ h=>(i δ h).bind λp=>mT p.2.1 g b p.1 δ p.2.2
section
variable {X:Cx} {a b c e tg iter:Expr} {es:List Expr} {st:Stmt} {sts rest:List Stmt} {pos:Pos} {ma mb:EM} {mt:TM} {ms mu:SM} {m:AM} {g:GM} {gs:FE}
theorem bI:Ce X [] cq:=Gi.imp λE σ H ⟨ρ,δ,h,fl,δ',h',R,S,e,k⟩=>by
 cases e;exact k ρ H (.refl _ _) S σ R
theorem qL:SS X st vv:=DO.imp λE σ H ⟨ρ,δ,h,fl,δ',h',R,S,e,k⟩=>by cases e
theorem I9(hh:Hx X.K (au ms mu) E σ H):LF (Hx X.K ms) (Hx X.K mu) E σ H:=by
 obtain⟨ρ,δ,h,fl,δ',h',R,S,e,k⟩:=hh;obtain⟨⟨f1,δ1,h1⟩,e1,e2⟩:=bB e;cases f1 with
 | nx=>exact⟨ρ,δ,h,.nx,δ1,h1,R,S,e1,λρ1 H1 T1 S1 σ' R'=>⟨ρ1,δ1,h1,fl,δ',h',R',S1,e2,λρ2 H2 T2 S2=>k ρ2 H2 (T1.trans T2) S2⟩⟩
 | bk=>cases e2;exact⟨ρ,δ,h,.bk,_,_,R,S,e1,λρ1 H1 T1 S1=>k ρ1 H1 T1 S1⟩
 | ct=>cases e2;exact⟨ρ,δ,h,.ct,_,_,R,S,e1,λρ1 H1 T1 S1=>k ρ1 H1 T1 S1⟩
 | rt d=>cases e2;exact⟨ρ,δ,h,.rt d,_,_,R,S,e1,λρ1 H1 T1 S1=>k ρ1 H1 T1 S1⟩
theorem ae(h1:SS X st ms)(h2:Ce X rest mu):Ce X (st::rest) (au ms mu):=(xx h1 h2).imp λ_ _ _=>I9
theorem aG(h1:SS X st ms):Ce X [st] ms:=Gh h1
theorem Dw(hh:Hx X.K (aR i ma) E σ H):FN (tM X.K ma) (x5 i) E σ H:=by
 obtain⟨ρ,δ,h,fl,δ',h',R,S,e,k⟩:=hh;obtain⟨⟨x,h1⟩,e1,e2⟩:=bB e;cases e2;exact⟨ρ,δ,h,x,h1,R,S,e1,λv H1 ⟨ρ1,T1,S1,r1⟩=>k ρ1 H1 T1 S1 _ ((R.mono T1).set r1 i)⟩
theorem IH(hN:X.N.Nodup)(hi:X.N[i]?=some x)(hx:Loc X.env.scope x)(he:SE X e ma)(hs:swapsWith e (some (.Name x pos')) pos.line X.env=pure false:=by ac_nf)(hf:X.fn x=true\/X.env.scope.names.lookup x=some .local:=by first | exact .inl rfl | exact .inr rfl | assumption):SS X (.Assign [.Name x pos'] e pos) (aR i ma):=(y4 hN hi hx he hs hf).imp λ_ _ _=>Dw
theorem FV(hN:X.N.Nodup)(hi:X.N[i]?=some x)(hx:Loc X.env.scope x)(hf:X.fn x=true\/X.env.scope.names.lookup x=some .local:=by first | exact .inl rfl | exact .inr rfl | assumption):SG X (.Name x pos) (gN i):=
 (Gw hN hi hx hf).imp λv σ H Q ⟨ρ,δ,h,d,δ',h',R,S,r,e,k⟩=>by
  cases e;exact k ρ H _ (.refl _ _) S (R.set r i)
inductive Ib(K:FR)(m:FE)(vs:List V)(σ:L2.St)(H:Hp)(Q:L2.St->Hp->Prop):Prop where
 | mk (ρ δ h ds δ' h'):cK K ρ H σ δ->bN K ρ h H->aD K ρ H vs ds->(m ds δ h=some (δ',h'))->(∀ρ' H' σ',dh ρ H ρ' H'->bN K ρ' h' H'->cK K ρ' H' σ' δ'->Q σ' H')->Ib K m vs σ H Q
noncomputable def N6(K:FR)(m:FE):K9:=λvs σ H Q=>Ib K m vs σ H Q
def NQ(X:Cx)(es:List Expr)(m:FE):Prop:=Ii X es (N6 X.K m)
theorem _root_.L2.Ii.imp{X:Cx}{e:List Expr}{t t':K9}(h:Ii X e t)(i:∀v σ H Q,t' v σ H Q->t v σ H Q):Ii X e t':=λpins s σ H v u Q I r q=>h pins s σ H v u Q I r (i v σ H Q q)
theorem gH:NQ X [] bU:=Gv.imp λv σ H Q ⟨ρ,δ,h,d,δ',h',R,S,r,e,k⟩=>by
 cases r with
 | nil=>cases e;exact⟨rfl,k ρ H σ (.refl _ _) S R⟩
 | cons _ _=>cases e
theorem bu(h1:SG X e g)(h2:NQ X es gs)(hs:(assignEach (e::es) X.env).map (·.2)=assign e X.env::(assignEach es X.env).map (·.2):=by ac_nf):NQ X (e::es) (ar g gs):=(DV h1 h2 hs).imp λv σ H Q ⟨ρ,δ,h,d,δ',h',R,S,r,e,k⟩=>by
 cases r with
 | nil=>cases e
 | cons r rs=>
  obtain⟨⟨δ1,h1⟩,e1,e2⟩:=bB e;exact⟨_,_,rfl,ρ,δ,h,_,δ1,h1,R,S,r,e1,λρ1 H1 σ1 T1 S1 R1=>⟨ρ1,δ1,h1,_,δ',h',R1,S1,rs.mono T1,e2,λρ2 H2 σ2 T2 S2 R2=>k ρ2 H2 σ2 (T1.trans T2) S2 R2⟩⟩
theorem jf(hc:X.calm=true)(h:NQ X es gs)(hn:(assignEach es X.env).length=n:=by ac_nf)(hst:(assignEach es X.env).findIdx? (·.1)=none:=by ac_nf):SG X (.Tuple es k0 pos) (gT n gs):=
 (Jr hc h hn hst).imp λv σ H Q ⟨ρ,δ,h,d,δ',h',R,S,r,e,k⟩=>by
  cases r <;> first |(exact absurd e (by intro z;cases z)) | skip
  rename_i a vs ds ht l _;unfold gT at e;dsimp only at e
  by_cases z:ds.length=n
  ·rw[Qf z] at e;exact⟨a,vs,rfl,ht.sq,by rw[l.length];exact z,ρ,δ,h,ds,δ',h',R,S,l,e,k⟩
  ·rw[Qo z] at e;cases e
theorem dY(he:SE X e ma)(hg:SG X tg g)(hs:swapsWithSole [tg] e pos.line X.env=pure false:=by ac_nf)(hw:swappedStores [tg] e X.env=pure none:=by ac_nf)
  (h1:(assignEach [tg] X.env).map (·.2)=[assign tg X.env]:=by ac_nf):SS X (.Assign [tg] e pos) (fD ma g):=(DQ he hg hs hw h1).imp λE σ H ⟨ρ,δ,h,fl,δ',h',R,S,e,k⟩=>by
 obtain⟨⟨x,h1⟩,e1,e2⟩:=bB e;obtain⟨⟨δ2,h2⟩,e4,e3⟩:=bB e2;cases e3;exact⟨ρ,δ,h,x,h1,R,S,e1,λv H1 ⟨ρ1,T1,S1,r1⟩=>⟨ρ1,δ,h1,x,_,_,R.mono T1,S1,r1,e4,λρ2 H2 σ2 T2 S2 R2=>k ρ2 H2 (T1.trans T2) S2 σ2 R2⟩⟩
theorem jP(he:SE X e ma)(hs:swapsWith e none pos.line X.env=pure false:=by ac_nf):SS X (.Expr e pos) (gb ma):=(Gk he hs).imp λE σ H ⟨ρ,δ,h,fl,δ',h',R,S,e,k⟩=>by
 obtain⟨⟨x,h1⟩,e1,e2⟩:=bB e;cases e2;exact⟨ρ,δ,h,x,h1,R,S,e1,λv H1 ⟨ρ1,T1,S1,r1⟩=>k ρ1 H1 T1 S1 σ (R.mono T1)⟩
theorem bV(he:SE X e ma):SS X (.Return (some e) pos) (a9 ma):=(Jo he).imp λE σ H ⟨ρ,δ,h,fl,δ',h',R,S,e,k⟩=>by
 obtain⟨⟨x,h1⟩,e1,e2⟩:=bB e;cases e2;exact⟨ρ,δ,h,x,h1,R,S,e1,λv H1 ⟨ρ1,T1,S1,r1⟩=>k ρ1 H1 T1 S1 v r1⟩
theorem cg(hc:ST X c mt)(ha:Ce X sa ms)(hb:Ce X sb mu):SS X (.If c sa sb pos) (fU mt ms mu):=(HJ hc ha hb).imp λE σ H ⟨ρ,δ,h,fl,δ',h',R,S,e,k⟩=>by
 obtain⟨⟨x,h1⟩,e1,e2⟩:=bB e;refine⟨ρ,δ,h,x,h1,R,S,e1,λρ1 H1 T1 S1=>?_⟩;cases x with
 | true=>rw[Qf rfl] at e2 ⊢;exact⟨ρ1,δ,h1,fl,δ',h',R.mono T1,S1,e2,λρ2 H2 T2 S2=>k ρ2 H2 (T1.trans T2) S2⟩
 | false=>rw[Qo (by simp)] at e2 ⊢;exact⟨ρ1,δ,h1,fl,δ',h',R.mono T1,S1,e2,λρ2 H2 T2 S2=>k ρ2 H2 (T1.trans T2) S2⟩
structure Lm(K:FR)(J:It)(ρ:Ad)(H:Hp)(ws:W)(xs:List D):Prop where
 run:∀ρ1 H1 h1,Ch ρ H ρ1 H1->bN K ρ1 h1 H1->pW ws h1=true->∀i:Nat,(xs.length<=i->J.stop i H1)/\∀x,xs[i]?=some x->J.go i H1/\∀v H2,J.Ij i H1 v H2->dh ρ1 H1 ρ1 H2/\bN K ρ1 h1 H2/\Rep K ρ1 H2 v x
inductive Nr(K:FR)(m:IM)(σ:L2.St)(H:Hp)(R:It->Hp->Prop):Prop where
 | mk (ρ δ h xs ws h'):cK K ρ H σ δ->bN K ρ h H->(m δ h=some (xs,ws,h'))->(∀J ρ1 H1,dh ρ H ρ1 H1->bN K ρ1 h' H1->Lm K J ρ1 H1 ws xs->R J H1)->Nr K m σ H R
def N5(K:FR)(m:IM):TI:=λσ H R=>Nr K m σ H R
def SI(X:Cx)(tg iter:Expr)(m:IM):Prop:=PI X tg iter (N5 X.K m)
theorem _root_.L2.PI.imp(h:PI X tg e t)(i:∀σ H Q,t' σ H Q->t σ H Q):PI X tg e t':=λpins s σ H R I q=>h pins s σ H R I (i σ H R q)
theorem Ja(hh:Hx X.K (hU mi g ms) E σ H):LL (N5 X.K mi) (LK X.K g) (Hx X.K ms) E σ H:=by
 obtain⟨ρ,δ,h,fl,δ',h',R,S,e,k⟩:=hh;obtain⟨⟨xs,ws,h1⟩,e1,e2⟩:=bB e;refine⟨ρ,δ,h,xs,ws,h1,R,S,e1,λJ ρ1 H1 T1 S1 It=>?_⟩;refine⟨λi m σ2 H2=>∃ρ2 δ2 h2,m=xs.length-i/\i<=xs.length/\dh ρ1 H1 ρ2 H2/\cK X.K ρ2 H2 σ2 δ2/\bN X.K ρ2 h2 H2/\mT ws g ms (xs.drop i) δ2 h2=some (fl,δ',h'),⟨_,ρ1,δ,h1,rfl,RV _,.refl _ _,R.mono T1,S1,e2⟩,?_⟩;rintro i m σ2 H2 ⟨ρ2,δ2,h2,rfl,hi,T2,R2,S2,e3⟩;cases q:xs.drop i with
 | nil=>
  rw[q] at e3;unfold mT at e3
  by_cases hc:pW ws h2=true
  ·rw[Qf hc] at e3;cases e3;have hl:xs.length<=i:=by have:=congrArg List.length q;rw[RS,RI] at this;lia
   exact .inl ⟨(It.run ρ2 H2 _ T2 S2 hc i).1 hl,k ρ2 H2 (T1.trans T2) S2 σ2 R2⟩
  ·rw[Qo hc] at e3;cases e3
 | cons x r=>
  rw[q] at e3;unfold mT at e3
  by_cases hc:pW ws h2=true
  ·rw[Qf hc] at e3;have hx:xs[i]?=some x:=by
    have:=congrArg (λl=>l[0]?) q
    simpa using this
   have hlt:i < xs.length:=(Qc.mp hx).1;have hr:xs.drop (i+1)=r:=by
    have:=congrArg List.tail q
    simpa using this
   obtain⟨⟨δ3,h3⟩,e4,e5⟩:=bB e3;obtain⟨⟨f4,δ4,h4⟩,e6,e7⟩:=bB e5;obtain⟨hgo,hy⟩:=(It.run ρ2 H2 h2 T2 S2 hc i).2 x hx;have NN:∀ρ5 H5 σ5,dh ρ2 H2 ρ5 H5->bN X.K ρ5 h4 H5->cK X.K ρ5 H5 σ5 δ4->mT ws g ms r δ4 h4=some (fl,δ',h')->
     ∃m',m' < xs.length-i/\(∃ρ2 δ2 h2,m'=xs.length-(i+1)/\i+1<=xs.length/\dh ρ1 H1 ρ2 H5/\cK X.K ρ2 H5 σ5 δ2/\bN X.K ρ2 h2 H5/\mT ws g ms (xs.drop (i+1)) δ2 h2=some (fl,δ',h')):=
    λρ5 H5 σ5 T5 S5 R5 e8=>⟨xs.length-(i+1),by lia,ρ5,δ4,h4,rfl,hlt,T2.trans T5,R5,S5,by rw[hr];exact e8⟩
   refine .inr ⟨hgo,λσ5 H5=>∃ρ5,dh ρ2 H2 ρ5 H5/\bN X.K ρ5 h4 H5/\cK X.K ρ5 H5 σ5 δ4/\mT ws g ms r δ4 h4=some (fl,δ',h'),λσ5 H5 ⟨ρ5,T5,S5,R5,e8⟩=>NN ρ5 H5 σ5 T5 S5 R5 e8,λv H3 y3=>?_⟩;obtain⟨T3,S3,r3⟩:=hy v H3 y3;refine⟨ρ2,δ2,h2,x,δ3,h3,R2.mono T3,S3,r3,e4,λρ4 H4 σ4 T4 S4 R4=>?_⟩;refine⟨ρ4,δ3,h3,f4,δ4,h4,R4,S4,e6,λρ5 H5 T5 S5=>?_⟩;have T25:dh ρ2 H2 ρ5 H5:=T3.trans (T4.trans T5);cases f4 with
   | nx=>exactλσ' R'=>⟨ρ5,T25,S5,R',e7⟩
   | ct=>exactλσ' R'=>⟨ρ5,T25,S5,R',e7⟩
   | bk=>cases e7;exactλσ' R'=>k ρ5 H5 (T1.trans (T2.trans T25)) S5 σ' R'
   | rt d=>cases e7;exactλv r=>k ρ5 H5 (T1.trans (T2.trans T25)) S5 v r
  ·rw[Qo hc] at e3;cases e3
theorem cR(hp:PassesOwn (model X.prog X.w) X.A X.env X.xe)(hc:X.calm=true)(hi:SI X tg iter mi)(hg:SG X tg g)(hb:Ce X body ms)(hs:∀x,foldedSetIterable iter X.env x=pure x:=by intro _;ac_nf):SS X (.For tg iter body [] pos) (hU mi g ms):=
 (Jp hp hc hi hg hb hs).imp λ_ _ _=>Ja
end
end Sm
namespace L2
open PySem PySem.Spec PyProof.Rows
theorem Jq(hl:PE X l tl):PI X tg l (λσ H R=>tl σ H λx H1=>∃a,x=.ref a/\(((∃xs,gZ X.K H1 a xs)/\R (Ph X.K a) H1)\/((∃xs,kJ X.K H1 a xs)/\R (Pf X.K a) H1))):=by
 intro pins s σ H R I h;refine cQ (hl pins s σ H _ I h) λv s1 ⟨x,H1,I1,r1,q1⟩=>?_;obtain⟨a,e,q1⟩:=q1;subst e;cases r1;rcases q1 with⟨⟨xs,hq⟩,q⟩ |⟨⟨xs,hq⟩,q⟩
 ·obtain⟨its,rv,p,hz⟩:=I1.list hq;refine wpAny_pyIter_list p.isList ?_;refine⟨s1.heap.objs.size,[s1.heap.objs.size],_,_,H1,rfl,I1.kept (t':=s1.toks) λb o e=>Qm _ e,Bb a _,⟨_,QI _ rfl,rfl,rfl⟩,λb hb=>?_,q⟩;have e:b=s1.heap.objs.size:=by simpa using hb
  subst e;exact I1.BP (Qg _) (I1.a8.fresh (Qg _))
 ·obtain⟨its,rv,p,hz⟩:=I1.tuple hq;refine Tr (show s1.heap.IsTuple a its.toArray from p) ?_;refine⟨s1.heap.objs.size,[s1.heap.objs.size],_,_,H1,rfl,I1.kept (t':=s1.toks) λb o e=>Qm _ e,yH a _,⟨_,QI _ rfl,rfl,rfl⟩,λb hb=>?_,q⟩;have e:b=s1.heap.objs.size:=by simpa using hb
  subst e;exact I1.BP (Qg _) (I1.a8.fresh (Qg _))
end L2
namespace Sm
open PySem L2
noncomputable def dw(d:D)(h:MH):Option (List D×W):=match d with
 | .lv xs=>some (xs,[])
 | .ro xs=>some (xs,[])
 | .tup xs=>some (xs,[])
 | .ob n=>match h[n]? with
  | some (.lst xs)=>some (xs,[(n,.lst xs)])
  | _=>none
 | _=>none
noncomputable def eN(e:EM):IM:=λδ h=>(e δ h).bind λp=>(dw p.1 p.2).map λq=>(q.1,q.2,p.2)
noncomputable def pT(m:AM):IM:=λδ h=>(m δ h).bind λp=>match p.1 with
 | [.int j]=>if -(2^62)<=j/\j < 2^62 then some ((List.range j.toNat).map λ(k:Nat)=>D.int (k:Int),[],p.2) else none
 | [.int i,.int j]=>if -(2^62)<=i/\i < 2^62/\-(2^62)<=j/\j < 2^62 then some ((List.range (j-i).toNat).map λ(k:Nat)=>D.int (i+(k:Int)),[],p.2) else none
 | _=>none
theorem wa(hl:∀ρ1 H1 h1,Ch ρ H ρ1 H1->bN K ρ1 h1 H1->pW ws h1=true->∃vs,aD K ρ1 H1 vs xs/\(∀i:Nat,vs.length<=i->J.stop i H1)/\∀(i:Nat) v,vs[i]?=some v->J.go i H1/\∀u H2,J.Ij i H1 u H2->H2=H1/\u=v):Lm K J ρ H ws xs:=by
 refine⟨λρ1 H1 h1 T S hc i=>?_⟩;obtain⟨vs,l,s1,s2⟩:=hl ρ1 H1 h1 T S hc;refine⟨λhi=>s1 i (by rw[l.length];exact hi),λx hx=>?_⟩;obtain⟨v,hv,r⟩:=l.got hx;obtain⟨g,y⟩:=s2 i v hv;refine⟨g,λu H2 yy=>?_⟩;obtain⟨rfl,rfl⟩:=y u H2 yy;exact⟨.refl _ _,S,r⟩
theorem Kp(hl:∀ρ1 H1 h1,Ch ρ H ρ1 H1->bN K ρ1 h1 H1->pW ws h1=true->∃vs,aD K ρ1 H1 vs xs/\gZ K H1 a vs):Lm K (Ph K a) ρ H ws xs:=
 wa λρ1 H1 h1 T S hc=>by
  obtain⟨vs,l,q⟩:=hl ρ1 H1 h1 T S hc;refine⟨vs,l,λi hi=>⟨vs,q,hi⟩,λi v hv=>⟨⟨vs,v,q,hv⟩,λu H2 ⟨e,y⟩=>⟨e,?_⟩⟩⟩;have:=y vs q;rw[hv] at this;exact(Option.some.inj this).symm
theorem Kn(hl:∀ρ1 H1 h1,Ch ρ H ρ1 H1->bN K ρ1 h1 H1->pW ws h1=true->∃vs,aD K ρ1 H1 vs xs/\kJ K H1 a vs):Lm K (Pf K a) ρ H ws xs:=
 wa λρ1 H1 h1 T S hc=>by
  obtain⟨vs,l,q⟩:=hl ρ1 H1 h1 T S hc;refine⟨vs,l,λi hi=>⟨vs,q,hi⟩,λi v hv=>⟨⟨vs,v,q,hv⟩,λu H2 ⟨e,y⟩=>⟨e,?_⟩⟩⟩;have:=y vs q;rw[hv] at this;exact(Option.some.inj this).symm
theorem Hg(hc:pW [(n,o)] h=true):h[n]?=some o:=by
 unfold pW at hc;cases q:h[n]? with
 | none=>rw[q] at hc;cases hc
 | some u=>
  rw[q] at hc;simp[pW] at hc;rw[AN hc]
inductive SeqAt(K:FR)(H:Hp)(a:Addr)(vs:List V):Bool->Prop where
 | l:gZ K H a vs->SeqAt K H a vs true
 | t:kJ K H a vs->SeqAt K H a vs false
noncomputable def zt:D->Bool
 | .tup _=>false
 | _=>true
theorem qQ(S:bN K ρ h H)(r:Rep K ρ H v d)(e:dw d h=some (xs,ws)):∃a,v=.ref a/\(∃vs,SeqAt K H a vs (zt d)/\aD K ρ H vs xs)/\
  ∀ρ1 H1 h1,Ch ρ H ρ1 H1->bN K ρ1 h1 H1->pW ws h1=true->∃vs,aD K ρ1 H1 vs xs/\SeqAt K H1 a vs (zt d):=by
 cases r with
 | tup ht l=>
  cases e;refine⟨_,rfl,⟨_,.t ht.sq,l⟩,λρ1 H1 h1 T S1 _=>?_⟩;cases(Rep.tup ht l).mono T with
  | tup h1 l1=>exact⟨_,l1,.t h1.sq⟩
 | lv ht n l=>
  cases e;refine⟨_,rfl,⟨_,.l (gZ.of ht),l⟩,λρ1 H1 h1 T S1 _=>?_⟩;cases(Rep.lv ht n l).mono T with
  | lv h1 _ l1=>exact⟨_,l1,.l (gZ.of h1)⟩
 | ro ht l=>
  cases e;refine⟨_,rfl,⟨_,.l ht.sq,l⟩,λρ1 H1 h1 T S1 _=>?_⟩;cases(Rep.ro ht l).mono T with
  | ro h1 l1=>exact⟨_,l1,.l h1.sq⟩
 | @ob a n hn=>
  unfold dw at e;dsimp only at e;cases q:h[n]? with
  | none=>rw[q] at e;cases e
  | some o=>
   rw[q] at e;cases o with
   | dct _=>exact bW e
   | dcH _=>exact bW e
   | exc _=>exact bW e
   | lst ys=>
    cases e;obtain⟨vs,e1,l⟩:=S.at_ n a _ hn q;refine⟨a,rfl,⟨vs,.l (gZ.of e1),l⟩,λρ1 H1 h1 T S1 hc=>?_⟩;obtain⟨us,e2,l2⟩:=S1.at_ n a _ (T.pre n a hn) (Hg hc);exact⟨us,l2,.l (gZ.of e2)⟩
 | cu=>exact bW e
 | bl b=>exact bW e
 | int i=>exact bW e
 | str x=>exact bW e
 | ty x=>exact bW e
 | dv _ _ _=>exact bW e
section
variable {X:Cx} {a b c e tg iter:Expr} {es:List Expr} {pos:Pos} {ma mb:EM} {mt:TM} {ms mu:SM} {m:AM} {g:GM} {gs:FE}
theorem iG(h:SE X e ma):SI X tg e (eN ma):=(Jq h).imp λσ H Q ⟨ρ,δ,h,xs,ws,h',R,S,e,k⟩=>by
 obtain⟨⟨x,h1⟩,e1,e2⟩:=bB e;obtain⟨⟨ys,w⟩,e3,e4⟩:=gM e2;cases e4;refine⟨ρ,δ,h,x,h1,R,S,e1,λv H1 ⟨ρ1,T1,S1,r1⟩=>?_⟩;obtain⟨a,rfl,⟨vs,q,l⟩,st⟩:=qQ S1 r1 e3;refine⟨a,rfl,?_⟩;generalize zt x=b at q st;cases q with
 | l q=>exact .inl ⟨⟨vs,q⟩,k _ ρ1 H1 T1 S1 (Kp λρ2 H2 h2 T2 S2 hc=>by obtain⟨us,l2,q2⟩:=st ρ2 H2 h2 T2 S2 hc;cases q2 with | l q2=>exact⟨us,l2,q2⟩)⟩
 | t q=>exact .inr ⟨⟨vs,q⟩,k _ ρ1 H1 T1 S1 (Kn λρ2 H2 h2 T2 S2 hc=>by obtain⟨us,l2,q2⟩:=st ρ2 H2 h2 T2 S2 hc;cases q2 with | t q2=>exact⟨us,l2,q2⟩)⟩
theorem jR:∀(ns:List Int),aD K ρ H (ns.map V.int) (ns.map D.int)
 | []=>.nil
 | _::r=>.cons (.int _) (jR r)
theorem Ko(lo:Int)(n:Nat):Lm K (NR lo n) ρ H [] ((List.range n).map λ(k:Nat)=>D.int (lo+(k:Int))):=by
 refine wa λρ1 H1 h1 T S hc=>⟨(List.range n).map λ(k:Nat)=>V.int (lo+(k:Int)),?_,λi hi=>?_,λi v hv=>?_⟩
 ·have:=jR (K:=K) (ρ:=ρ1) (H:=H1) ((List.range n).map λ(k:Nat)=>lo+(k:Int));rw[Ra,Ra] at this;exact this
 ·rw[Qb,QO] at hi;exact hi
 ·rw[Qx] at hv;obtain⟨j,e1,e2⟩:=gM hv;obtain⟨hlt,e3⟩:=Qc.mp e1;rw[QO] at hlt;rw[T9] at e3;subst e3;subst e2;exact⟨hlt,λu H2 ⟨p,q⟩=>⟨p,q⟩⟩
theorem Bo(l:aD K ρ H vs [.int j]):vs=[.int j]:=by
 cases l with
 | cons r l=>cases l;cases r;rfl
theorem cM(hg:Gl X "range")(hm:X.mg "range"=none)(ha:SA X [a] m)(hs:starEach [a] X.env=[(false,eval a X.env)]:=by ac_nf)(hl:kl m 1):SI X tg (.Call (.Name "range" p) [a] [] pos) (pT m):=
 (Bw hg hm ha hs).imp λσ H Q zz=>by
  obtain⟨ρ,δ,h,xs,ws,h',R,S,e,k⟩:=zz;obtain⟨⟨x,h1⟩,e1,e2⟩:=bB e;refine⟨ρ,δ,h,x,h1,R,S,e1,λvs ρ1 H1 T1 S1 r1=>?_⟩;obtain⟨d,rfl⟩:=RZ.mp (hl _ _ _ _ e1);cases d <;> first | exact absurd e2 (by intro z;cases z) | skip
  rename_i j;dsimp only at e2
  by_cases z:-(2^62)<=j/\j < 2^62
  ·rw[Qf z] at e2;cases e2;refine⟨j,Bo r1,z.1,z.2,k _ ρ1 H1 T1 S1 ?_⟩;have:=Ko (K:=X.K) (ρ:=ρ1) (H:=H1) 0 j.toNat
   simpa using this
  ·rw[Qo z] at e2;cases e2
noncomputable def gq(caps:List (Option Nat))(δ:DS):DS:=caps.map λo=>o.bind λi=>(δ[i]?).join
noncomputable def dQ:TM:=λ_ h=>some (true,h)
noncomputable def bP(ws:W)(g:GM)(c:TM)(e:EM):List D->DS->MH->Option (List D×MH)
 | [],_,h=>if pW ws h then some ([],h) else none
 | x::r,δ,h=>if pW ws h then(g x δ h).bind λq=>(c q.1 q.2).bind λt=>if t.1 then(e q.1 t.2).bind λy=>(bP ws g c e r q.1 y.2).map λz=>(y.1::z.1,z.2) else bP ws g c e r q.1 t.2 else none
noncomputable def cm(caps:List (Option Nat))(i:IM)(g:GM)(c:TM)(e:EM):AM:=λδ h=>(i δ h).bind λp=>(bP p.2.1 g c e p.1 (gq caps δ) p.2.2).bind λq=>if q.1.length<=sizeLine then some q else none
theorem cK.m9(R:cK K ρ H σ δ)(caps:List (Option Nat)):cK K ρ H (m9 caps σ) (gq caps δ):=by
 refine⟨by simp[L2.m9,gq],λi d hd=>?_⟩;unfold gq at hd;rw[Qx] at hd;obtain⟨o,e1,e2⟩:=gM hd;cases o with
 | none=>exact bW e2
 | some j=>
  have e3:δ[j]?=some (some d):=UJ.mp e2;obtain⟨v,ev,r⟩:=R.at_ j d e3;refine⟨v,?_,r⟩;unfold L2.m9;rw[Qx,e1];simp[ev]
def NP(X:Cx)(ifs:List Expr)(m:TM):Prop:=Lf X ifs (IE X.K m)
theorem eg:NP X [] dQ:=λpins s σ H Q I hh=>by
 obtain⟨ρ,δ,h,b,h',R,S,e,k⟩:=hh;cases e;exact Gs pins s σ H Q I (k ρ H (.refl _ _) S)
theorem qe(h:ST X c mt):NP X [c] mt:=Gr h
theorem z8(hh:tM X.K (gB (cm caps mi g mt ma)) σ H Q):CL caps (N5 X.K mi) (LK X.K g) (IE X.K mt) (tM X.K ma) σ H Q:=by
 obtain⟨ρ,δ,h,d,h',R,S,ee,k⟩:=hh;obtain⟨⟨out,h0⟩,ea,e0⟩:=gM ee;cases e0;obtain⟨⟨xs,ws,h1⟩,e1,eb⟩:=bB ea;obtain⟨⟨ys,h2⟩,e2,e3⟩:=bB eb;dsimp only at e2 e3
 by_cases hz:ys.length<=sizeLine
 ·rw[Qf hz] at e3;cases e3;refine⟨ρ,δ,h,xs,ws,h1,R,S,e1,λJ ρ1 H1 T1 S1 It l hl=>?_⟩;have nl:¬ρ1.has l:=S1.fresh hl;have Tl:Ch ρ1 H1 (ρ1.keep l) (upd H1 l (.lst [])):=Ch.keep hl;refine⟨λi m τ2 H2=>∃(ob2:List Addr)(δ2:DS)(h2:MH)(vs:List V)(as bs:List D),m=xs.length-i/\i<=xs.length/\Ch ρ1 H1 ⟨ob2,l::ρ1.rs⟩ H2/\(∀b∈ρ1.rs,H2 b=H1 b)/\cK X.K ⟨ob2,l::ρ1.rs⟩ H2 τ2 δ2/\bN X.K ⟨ob2,l::ρ1.rs⟩ h2 H2/\
    H2 l=some (.lst vs)/\aD X.K ⟨ob2,l::ρ1.rs⟩ H2 vs as/\out=as++bs/\bP ws g mt ma (xs.drop i) δ2 h2=some (bs,h0),
   ⟨_,ρ1.ob,gq caps δ,h1,[],[],out,rfl,RV _,Tl,λb hb=>av λz=>nl (.inr (z ▸ hb)),((R.mono T1).m9 caps).mono Tl,S1.keep hl,aO,.nil,rfl,e2⟩,?_⟩
  rintro i m τ2 H2 ⟨ob2,δ2,h2,vs,as,bs,rfl,hi,T2,rs2,R2,S2,hl2,l2,eo,e3⟩;have hsub:∀b∈ρ1.rs,b∈l::ρ1.rs:=λb hb=>Qi _ hb;have C2:Ch ⟨ob2,l::ρ1.rs⟩ H2 ⟨ob2,ρ1.rs⟩ H2:=Ch.free hsub;have T2':dh ρ1 H1 ⟨ob2,ρ1.rs⟩ H2:=⟨T2.trans C2,rfl,rs2⟩;have S2':bN X.K ⟨ob2,ρ1.rs⟩ h2 H2:=S2.free hsub;cases q:xs.drop i with
  | nil=>
   rw[q] at e3;unfold bP at e3
   by_cases hc:pW ws h2=true
   ·rw[Qf hc] at e3;cases e3;rw[Q6] at eo;subst eo;have hle:xs.length<=i:=by have:=congrArg List.length q;rw[RS,RI] at this;lia
    refine .inl ⟨(It.run _ H2 _ T2 S2 hc i).1 hle,k _ _ ⟨_,T1.trans T2',S2',.lv hl2 (λz=>?_) (l2.mono C2)⟩⟩;rcases z with z | z
    ·exact(S2.tq l Qh).2 z
    ·exact nl (.inr z)
   ·rw[Qo hc] at e3;cases e3
  | cons x r=>
   rw[q] at e3;unfold bP at e3
   by_cases hc:pW ws h2=true
   ·rw[Qf hc] at e3;have hx:xs[i]?=some x:=by
     have:=congrArg (λl=>l[0]?) q
     simpa using this
    have hlt:i < xs.length:=(Qc.mp hx).1;have hr:xs.drop (i+1)=r:=by
     have:=congrArg List.tail q
     simpa using this
    obtain⟨⟨δ3,h3⟩,e4,e5⟩:=bB e3;obtain⟨⟨t,h4⟩,e6,e7⟩:=bB e5;dsimp only at e4 e5 e6 e7;obtain⟨hgo,hy⟩:=(It.run _ H2 h2 T2 S2 hc i).2 x hx;refine .inr ⟨hgo,λτ5 H5=>∃(ob5:List Addr)(h5:MH)(vs:List V)(as bs:List D),Ch ρ1 H1 ⟨ob5,l::ρ1.rs⟩ H5/\(∀b∈ρ1.rs,H5 b=H1 b)/\cK X.K ⟨ob5,l::ρ1.rs⟩ H5 τ5 δ3/\bN X.K ⟨ob5,l::ρ1.rs⟩ h5 H5/\
     H5 l=some (.lst vs)/\aD X.K ⟨ob5,l::ρ1.rs⟩ H5 vs as/\out=as++bs/\bP ws g mt ma r δ3 h5=some (bs,h0),?_,?_⟩
    ·rintro τ5 H5 ⟨ob5,h5,vs5,as5,bs5,T5,rs5,R5,S5,hl5,l5,eo5,e5⟩;exact⟨xs.length-(i+1),by lia,ob5,δ3,h5,vs5,as5,bs5,rfl,hlt,T5,rs5,R5,S5,hl5,l5,eo5,by rw[hr];exact e5⟩
    ·intro v H3 y3;obtain⟨T3,S3,r3⟩:=hy v H3 y3;refine⟨⟨ob2,l::ρ1.rs⟩,δ2,h2,x,δ3,h3,R2.mono T3,S3,r3,e4,λρ4 H4 τ4 T4 S4 R4=>?_⟩;refine⟨ρ4,δ3,h3,t,h4,R4,S4,e6,λρ5 H5 T5 S5=>?_⟩;have T25:dh ⟨ob2,l::ρ1.rs⟩ H2 ρ5 H5:=T3.trans (T4.trans T5);obtain⟨ob5,rs5⟩:=ρ5;have ers:rs5=l::ρ1.rs:=T25.rs;subst ers;cases t with
     | false=>
      rw[Qo (by simp)] at e7;refine MG ?_;exact⟨ob5,h4,vs,as,bs,T2.trans T25.toCh,λb hb=>(T25.res b (hsub b hb)).trans (rs2 b hb),R4.mono T5,S5,(T25.res l Qh).trans hl2,l2.mono T25.toCh,eo,e7⟩
     | true=>
      rw[Qf rfl] at e7;refine MF ?_;obtain⟨⟨y,h6⟩,e8,e9⟩:=bB e7;obtain⟨⟨zs,h7⟩,e10,e11⟩:=gM e9;cases e11;refine⟨⟨ob5,l::ρ1.rs⟩,δ3,h4,y,h6,R4.mono T5,S5,e8,λu H6 ⟨ρ6,T6,S6,r6⟩=>?_⟩;have T26:dh ⟨ob2,l::ρ1.rs⟩ H2 ρ6 H6:=T25.trans T6;obtain⟨ob6,rs6⟩:=ρ6;have ers:rs6=l::ρ1.rs:=T26.rs;subst ers;have hl6:H6 l=some (.lst vs):=(T26.res l Qh).trans hl2;have hml:l∈(⟨ob6,l::ρ1.rs⟩:Ad).rs:=Qh;have hlen:vs.length < sizeLine:=by
       have h1:=l2.length;have h2:=congrArg List.length eo;rw[Qk,Qj] at h2
       lia
      have Cp:Ch ⟨ob6,l::ρ1.rs⟩ H6 ⟨ob6,l::ρ1.rs⟩ (upd H6 l (.lst (vs++[u]))):=Ch.put hml;refine⟨vs,hl6,hlen,ob6,h6,vs++[u],as++[y],zs,(T2.trans T26.toCh).trans Cp,λb hb=>?_,((R4.mono T5.toCh).mono T6.toCh).mono Cp,S6.put hml,aO,((l2.mono T26.toCh).snoc r6).mono Cp,by rw[eo];simp,e10⟩;rw[av (λ(z:b=l)=>nl (.inr (z ▸ hb)))];exact(T26.res b (hsub b hb)).trans (rs2 b hb)
   ·rw[Qo hc] at e3;cases e3
 ·rw[Qo hz] at e3;cases e3
end
end Sm
namespace Sm
open PySem L2 PySem.Spec PyProof.Rows
section
variable {X:Cx} {a b c e tg iter elt:Expr} {es:List Expr} {pos:Pos} {ma mb:EM} {mt:TM} {ms mu:SM} {m:AM} {g:GM} {gs:FE}
theorem fR(C:bA X N' caps scope)(hc:X.calm=true)(hi:SI X tg iter mi)(hg:∀C s₃ H₃ fp pl,SG (ng X N' scope C s₃ H₃ fp pl) tg g)(hif:∀C s₃ H₃ fp pl,NP (ng X N' scope C s₃ H₃ fp pl) ifs mt)(he:∀C s₃ H₃ fp pl,SE (ng X N' scope C s₃ H₃ fp pl) elt ma)(hs:∀x,foldedSetIterable iter X.env x=pure x:=by intro _;ac_nf):
  SE X (.ListComp elt [⟨tg,iter,ifs,0⟩] scope pos) (gB (cm caps mi g mt ma)):=(DZ (g:=LK X.K g) (tc:=IE X.K mt) (te:=tM X.K ma) C hc hi hg hif he hs).imp λ_ _ _=>z8
theorem jQ(hN:X.N.Nodup)(hi':X.N[i]?=some y)(hy:X.env.scope.names.lookup y=some .local)(C:bA X N' caps scope)(hc:X.calm=true)(hi:SI X tg iter mi)(hg:∀C s₃ H₃ fp pl,SG (ng X N' scope C s₃ H₃ fp pl) tg g)(hif:∀C s₃ H₃ fp pl,NP (ng X N' scope C s₃ H₃ fp pl) ifs mt)(he:∀C s₃ H₃ fp pl,SE (ng X N' scope C s₃ H₃ fp pl) elt ma)(hsw:swapsWith (.ListComp elt [⟨tg,iter,ifs,0⟩] scope pos) (some (.Name y py)) spos.line X.env=pure true:=by ac_nf)(hs:∀x,foldedSetIterable iter X.env x=pure x:=by intro _;ac_nf):
  SS X (.Assign [.Name y py] (.ListComp elt [⟨tg,iter,ifs,0⟩] scope pos) spos) (aR i (gB (cm caps mi g mt ma))):=
 (DP (g:=LK X.K g) (tc:=IE X.K mt) (te:=tM X.K ma) hN hi' hy C hc hi hg hif he hsw hs).imp λE σ H hh=>by
  have q:=Dw hh;exact z8 q
end
inductive Nx(K:FR)(n:Nat)(F:Fn)(vs:List V)(H:Hp)(Q:VK):Prop where
 | mk (ρ h ds d h'):bN K ρ h H->aD K ρ H vs ds->(ds.length=n)->(F ds h=some (d,h'))->(∀v H',du K ρ H h' d v H'->Q v H')->Nx K n F vs H Q
def Bj(K:FR)(n:Nat)(F:Fn):Sp:=λvs H Q _=>Nx K n F vs H Q
theorem F3(G:eO X.prog X.w X.K X.mg X.base nz k f fd ps (Bj X.K n F))(hr:cH k X.A)(hg:Gl X x)(hm:X.mg x=some (.ref f))(hk:PySem.W.keepIn X.K (.ref f)=true)(hb:Binds X.K fd ps [])
  (ha:SA X (e::es) m) (hl:kl m n) (hdb:(x==("__debug__":Str))=false:=by ac_nf) (he:starEach (e::es) X.env=(false,eval e X.env)::starEach es X.env:=by ac_nf) (hpl:(backTo pos (starEach es X.env)).any (·.1)=false:=by ac_nf):
  SE X (.Call (.Name x p) (e::es) [] pos) (ay F m):=(Ag (E:=E0) G hr hg hm hk hb .nil Mq ha hdb he hpl).imp λσ H Q ⟨ρ,δ,h,d,h',R,S,e,q⟩=>by
 obtain⟨⟨ds,h1⟩,e1,e2⟩:=bB e;refine⟨ρ,δ,h,ds,h1,R,S,e1,λvs ρ1 H1 T1 S1 r1=>?_⟩;show Bj X.K n F (vs++[]) H1 Q E0;rw[Q6];exact⟨ρ1,h1,ds,d,h',S1,r1,hl _ _ _ _ e1,e2,λv H' P=>q v H' (P.step T1)⟩
noncomputable def xl(r:Fl×DS×MH):Option (D×MH):=match r.1 with
 | .rt d=>some (d,r.2.2)
 | .nx=>some (.cu,r.2.2)
 | _=>none
noncomputable def entry(len:Nat)(ds:List D):DS:=ds.map some++List.replicate (len-ds.length) none
noncomputable def jT(len:Nat)(body:SM):Fn:=λds h=>(body (entry len ds) h).bind xl
theorem cK.entry{K:FR}{ρ:Ad}{H:Hp}{vs:List V}{ds:List D}(N:List Str)(l:aD K ρ H vs ds):cK K ρ H (L2.start N vs) (Sm.entry N.length ds):=by
 refine⟨by simp[L2.start,Sm.entry,l.length],λi d hd=>?_⟩;unfold Sm.entry at hd;unfold L2.start
 by_cases hi:i < ds.length
 ·rw[Qt (by simpa using hi),Qx] at hd;obtain⟨d',e1,e2⟩:=gM hd;cases e2;obtain⟨v,ev,r⟩:=l.got e1;refine⟨v,?_,r⟩;rw[Qt (by rw[Qb,l.length];exact hi),Qx,ev];rfl
 ·rw[Qv (by simpa using hi),UL] at hd
  split at hd <;> cases hd
section
variable {P:Program} {w:World} {K:FR} {mg:Str->Option Value} {base:Heap} {x qual:Str} {st:Stmt} {f:Addr} {fd:FuncData} {N ps:List Str} {k:Nat}
theorem Kv(F:sW K x qual st f fd)(Sc:aA N ps (aj st))(hb:∀(cdv:Value)(A:Around)(outer:List Env)(s:Shared)(H:Hp)(E:XK),cH k (A.deeper (envOfC qual (aj st) s.heap.objs.size f cdv))->Ce (eV nz P w K mg base N qual (aj st) f cdv A outer s H E).Ef (df st) body):
  eO P w K mg base nz (k+1) f fd ps (Bj K ps.length (jT N.length body)):=by
 refine F.ok Sc (λvs H Q E h=>?_) (λcdv A outer s H vs Q E hr h=>?_)
 ·obtain⟨ρ,h,ds,d,h',S,r,hl,_⟩:=h;rw[r.length];exact hl
 ·obtain⟨ρ,h,ds,d,h',S,r,hl,e,q⟩:=h;refine⟨_,hb cdv A outer s H E hr,?_⟩;obtain⟨⟨fl,δ1,h1⟩,e1,e2⟩:=bB e;refine⟨ρ,entry N.length ds,h,fl,δ1,h1,cK.entry N r,S,e1,λρ1 H1 T1 S1=>?_⟩;cases fl with
  | nx=>cases e2;exactλσ' R'=>q _ _ ⟨ρ1,T1,S1,.cu⟩
  | rt d=>cases e2;exactλv r=>q _ _ ⟨ρ1,T1,S1,r⟩
  | bk=>cases e2
  | ct=>cases e2
end
mutual
noncomputable def gX(n:Nat):D->Bool
 | .tup xs=>fz n xs
 | .lv xs=>fz n xs
 | .ro xs=>fz n xs
 | .dv kvs=>Hf n kvs
 | .ob m=>decide (m < n)
 | _=>true
noncomputable def fz(n:Nat):List D->Bool
 | []=>true
 | x::r=>gX n x&&fz n r
noncomputable def Hf(n:Nat):List (Key×D)->Bool
 | []=>true
 |(_,x)::r=>gX n x&&Hf n r
end
noncomputable def yB(n:Nat):MO->Bool
 | .lst xs=>fz n xs
 | .dct kvs=>Hf n kvs
 | .dcH kvs=>fz n (kvs.map (·.1))&&fz n (kvs.map (·.2))
 | .exc _=>true
abbrev Ad.cut(ρ:Ad)(n:Nat):Ad:=⟨ρ.ob.take n,ρ.rs⟩
theorem Ad.ke{ρ:Ad}{n:Nat}{a:Addr}(h:(ρ.cut n).has a):ρ.has a:=h.elim (λm=>.inl (TJ m)) .inr
mutual
theorem Rep.cut{K:FR}{ρ:Ad}{H:Hp}{n:Nat}{v:V}{d:D}(r:Rep K ρ H v d)(c:gX n d=true):Rep K (ρ.cut n) H v d:=by
 cases r with
 | cu=>exact .cu
 | bl b=>exact .bl b
 | int i=>exact .int i
 | str x=>exact .str x
 | ty n=>exact .ty n
 | tup h l=>exact .tup (h.elim (λ⟨a,n⟩=>.inl ⟨a,λm=>n (Ad.ke m)⟩) .inr) (aD.cut l c)
 | lv h n l=>exact .lv h (λm=>n (Ad.ke m)) (aD.cut l c)
 | ro h l=>exact .ro (h.elim (λ⟨a,n⟩=>.inl ⟨a,λm=>n (Ad.ke m)⟩) .inr) (aD.cut l c)
 | dv h n l=>exact .dv h (λm=>n (Ad.ke m)) (bC.cut l c)
 | ob e=>exact .ob ((QQ (Q8 c)).trans e)
theorem aD.cut{K:FR}{ρ:Ad}{H:Hp}{n:Nat}{v:List V}{d:List D}(r:aD K ρ H v d)(c:fz n d=true):aD K (ρ.cut n) H v d:=by
 cases r with
 | nil=>exact .nil
 | cons r l=>have c:=QE.mp c;exact .cons (Rep.cut r c.1) (aD.cut l c.2)
theorem bC.cut{K:FR}{ρ:Ad}{H:Hp}{n:Nat}{v:List (Key×V)}{d:List (Key×D)}(r:bC K ρ H v d)(c:Hf n d=true):bC K (ρ.cut n) H v d:=by
 cases r with
 | nil=>exact .nil
 | cons r l=>have c:=QE.mp c;exact .cons (Rep.cut r c.1) (bC.cut l c.2)
end
mutual
theorem Rep.clean{K:FR}{ρ:Ad}{H:Hp}{v:V}{d:D}(r:Rep K ρ H v d):gX ρ.ob.length d=true:=by
 cases r with
 | tup h l=>exact aD.clean l
 | lv h n l=>exact aD.clean l
 | ro h l=>exact aD.clean l
 | dv h n l=>exact bC.clean l
 | ob e=>exact QP (Qc.mp e).1
 | _=>rfl
theorem aD.clean{K:FR}{ρ:Ad}{H:Hp}{v:List V}{d:List D}(r:aD K ρ H v d):fz ρ.ob.length d=true:=by
 cases r with
 | nil=>rfl
 | cons r l=>exact QE.mpr ⟨Rep.clean r,aD.clean l⟩
theorem bC.clean{K:FR}{ρ:Ad}{H:Hp}{v:List (Key×V)}{d:List (Key×D)}(r:bC K ρ H v d):Hf ρ.ob.length d=true:=by
 cases r with
 | nil=>rfl
 | cons r l=>exact QE.mpr ⟨Rep.clean r,bC.clean l⟩
end
theorem AV.cut{K:FR}{ρ:Ad}{H:Hp}{n:Nat}{a:Addr}{o:MO}(x:AV K ρ H a o)(c:yB n o=true):AV K (ρ.cut n) H a o:=by
 cases o with
 | lst ds=>obtain⟨vs,e,l⟩:=x;exact⟨vs,e,l.cut c⟩
 | dct ds=>obtain⟨vs,e,l⟩:=x;exact⟨vs,e,l.cut c⟩
 | dcH ds=>obtain⟨us,ps,e,l,l2,p⟩:=x;have c:=QE.mp c;exact⟨us,ps,e,l.cut c.1,l2.cut c.2,p⟩
 | exc _=>exact x
theorem AV.clean{K:FR}{ρ:Ad}{H:Hp}{a:Addr}{o:MO}(x:AV K ρ H a o):yB ρ.ob.length o=true:=by
 cases o with
 | lst ds=>obtain⟨vs,e,l⟩:=x;exact l.clean
 | dct ds=>obtain⟨vs,e,l⟩:=x;exact l.clean
 | dcH ds=>obtain⟨us,ps,e,l,l2,p⟩:=x;exact QE.mpr ⟨l.clean,l2.clean⟩
 | exc _=>rfl
noncomputable def yK(n:Nat)(h:MH)(d:D):D:=match d with
 | .ob m=>if m < n then .ob m else match h[m]? with
  | some (.lst xs)=>.lv xs
  | some (.dct kvs)=>.dv kvs
  | _=>.ob m
 | d=>d
noncomputable def leave(h:MH)(d:D)(h':MH):Option (D×MH):=
 if gX h.length (yK h.length h' d)&&(wI (h'.take h.length) h||(h'.take h.length).all (yB h.length)) then some (yK h.length h' d,h'.take h.length) else none
noncomputable def Ek(len:Nat)(body:SM):Fn:=λds h=>((body (entry len ds) h).bind xl).bind λp=>leave h p.1 p.2
theorem du.leave{K:FR}{ρ:Ad}{H H':Hp}{h h1 h':MH}{d d':D}{v:V}(S:bN K ρ h H)(p:du K ρ H h1 d v H')(e:Sm.leave h d h1=some (d',h')):du K ρ H h' d' v H':=by
 obtain⟨ρ1,T,S1,r⟩:=p;unfold Sm.leave at e
 by_cases hc:(gX h.length (yK h.length h1 d)&&(wI (h1.take h.length) h||(h1.take h.length).all (yB h.length)))=true
 ·rw[Qf hc] at e;cases e;rw[QN] at hc;obtain⟨c1,c2⟩:=hc;have hle:h.length<=h1.length:=by
   rw[<-S.len,<-S1.len];refine RA λhlt=>?_;have e1:ρ.ob[ρ1.ob.length]?=some ρ.ob[ρ1.ob.length]:=QA hlt;have:=(Qc.mp (T.pre _ _ e1)).1
   lia
  have hall:∀(m:Nat) o,m < h.length->h1[m]?=some o->yB h.length o=true:=by
   intro m o hm ho;rw[RJ] at c2;rcases c2 with c2 | c2
   ·have e1:=AO c2;have e2:h[m]?=some o:=by rw[<-e1,QQ hm];exact ho
    have hm':m < ρ.ob.length:=by rw[S.len];exact hm
    have:=(S.at_ m _ o (QA hm') e2).clean;rw[S.len] at this;exact this
   ·rw[RU] at c2;exact c2 o (Qd (show(h1.take h.length)[m]?=some o by rw[QQ hm];exact ho))
  have Sc:bN K (ρ1.cut h.length) (h1.take h.length) H':=by
   refine⟨by simp[S1.len],S1.nd.sublist (Uh _ _),λn a o e1 e2=>?_,λb hb=>⟨(S1.tq b hb).1,λm=>(S1.tq b hb).2 (TJ m)⟩,λP t=>⟨λz=>(S1.tb P t).1 (Ad.ke z),(S1.tb P t).2⟩⟩;have hn:n < h.length:=by
    have:=(Qc.mp e2).1;rw[QB] at this
    lia
   have e1:(ρ1.ob.take h.length)[n]?=some a:=e1;rw[QQ hn] at e1 e2;exact(S1.at_ n a o e1 e2).cut (hall n o hn e2)
  refine⟨ρ1.cut h.length,⟨⟨λn a e=>?_,λb o n e=>?_⟩,T.rs,T.res⟩,Sc,?_⟩
  ·have hn:n < h.length:=by rw[<-S.len];exact(Qc.mp e).1
   show(ρ1.ob.take h.length)[n]?=some a;rw[QQ hn];exact T.pre n a e
  ·obtain⟨n1,e1⟩:=T.old b o n e;exact⟨λm=>n1 (Ad.ke m),e1⟩
  ·cases d with
   | ob m=>
    unfold yK at c1 ⊢;dsimp only at c1 ⊢
    by_cases hm:m < h.length
    ·rw[Qf hm] at c1 ⊢;exact r.cut c1
    ·rw[Qo hm] at c1 ⊢;cases r with
     | ob hn=>
      rename_i a;have na:¬(ρ1.cut h.length).has a:=by
       intro z;rcases z with z | z
       ·obtain⟨j,hj⟩:=TL z;have hj1:j < h.length:=by
         have:=(Qc.mp hj).1;rw[QB] at this
         lia
        rw[QQ hj1] at hj;have:=(Vf (Qc.mp hj).1 S1.nd).mp (hj.trans hn.symm)
        lia
       ·exact(S1.tq a z).2 (Qd hn)
      cases q:h1[m]? with
      | none=>rw[q] at c1;exact absurd c1 (by simp[gX];lia)
      | some o=>
       have x:=S1.at_ m a o hn q;cases o with
       | lst xs=>
        rw[q] at c1;obtain⟨vs,e1,l⟩:=x;exact .lv e1 na (l.cut (by simpa [gX] using c1))
       | dct xs=>
        rw[q] at c1;obtain⟨vs,e1,l⟩:=x;exact .dv e1 na (l.cut (by simpa [gX] using c1))
       | dcH xs=>rw[q] at c1;exact absurd c1 (by simp[gX];lia)
       | exc _=>rw[q] at c1;exact absurd c1 (by simp[gX];lia)
   | _=>exact r.cut c1
 ·rw[Qo hc] at e;cases e
section
variable {P:Program} {w:World} {K:FR} {mg:Str->Option Value} {base:Heap} {x qual:Str} {st:Stmt} {f:Addr} {fd:FuncData} {N ps:List Str} {k:Nat}
theorem eC(G:eO P w K mg base nz k f fd ps (Bj K ps.length (jT N.length body))):eO P w K mg base nz k f fd ps (Bj K ps.length (Ek N.length body)):=by
 refine G.imp λvs H Q E hh=>?_;obtain⟨ρ,h,ds,d,h',S,r,hl,e,q⟩:=hh;obtain⟨⟨d1,h1⟩,e1,e2⟩:=bB e;exact⟨ρ,h,ds,d1,h1,S,r,hl,e1,λv H' p=>q v H' (p.leave S e2)⟩
end
def spT(K:FR):Sp:=λvs H Q _=>∃(a:Addr)(ns:List Int),vs=[.ref a]/\gZ K H a (ns.map V.int)/\ns.length<=63/\(∀b,ix K b->H b=some .tb)/\∀H',(∀b,ix K b->H' b=some .tb)->Q (.bl true) H'
theorem GO{P:Program}{w:World}{K:FR}{mg:Str->Option Value}{base:Heap}{k:Nat}{f:Addr}{fd:FuncData}{ps:List Str}{F:Fn}(G:eO P w K mg base nz k f fd ps (Bj K 1 F))
  (hF:∀ns:List Int,ns.length<=63->∃h',F [.ro (ns.map D.int)] []=some (.bl true,h')):eO P w K mg base nz k f fd ps (spT K):=by
 refine G.imp λvs H Q E hh=>?_;obtain⟨a,ns,rfl,ha,hl,ht,q⟩:=hh;obtain⟨h',e⟩:=hF ns hl;refine⟨⟨[],[]⟩,[],[.ro (ns.map D.int)],.bl true,h',⟨rfl,List.nodup_nil,λn a o e=>by simp at e,λb hb=>absurd hb (by simp),λP t=>⟨λz=>z.elim (λz=>absurd z (by simp)) λz=>absurd z (by simp),ht P t⟩⟩,.cons (.ro ?_ (jR ns)) .nil,rfl,e,λv H' ⟨ρ',T,S,r⟩=>?_⟩
 ·rcases ha with ha | ha
  ·exact .inl ⟨ha,λz=>z.elim (λz=>absurd z (by simp)) λz=>absurd z (by simp)⟩
  ·exact .inr (.inr ha)
 ·cases r;exact q H' λb t=>(S.tb b t).2
noncomputable def z9(h:MH)(d:D):Option PyData:=match d with
 | .ob n=>match h[n]? with
  | some (.lst xs)=>(oO xs).map .list
  | _=>none
 | d=>vH d
mutual
theorem Rep.tI{K:FR}{ρ:Ad}{H:Hp}{v:V}{d:D}{p:PyData}(r:Rep K ρ H v d)(e:vH d=some p):Cm K H v p/\p.canLay0=true:=by
 cases r with
 | cu=>cases e;exact⟨.cu,rfl⟩
 | bl b=>cases e;exact⟨.bl b,rfl⟩
 | int i=>cases e;exact⟨.int i,rfl⟩
 | str hs=>cases e;exact⟨.str _,by simpa [PyData.canLay0] using hs⟩
 | tup h l=>obtain⟨q,e1,rfl⟩:=gM e;obtain⟨a,b⟩:=aD.tI l e1;exact⟨.tup h.sq a,by simpa [PyData.canLay0] using b⟩
 | lv h n l=>obtain⟨q,e1,rfl⟩:=gM e;obtain⟨a,b⟩:=aD.tI l e1;exact⟨.lst (gZ.of h) a,by simpa [PyData.canLay0] using b⟩
 | ro h l=>obtain⟨q,e1,rfl⟩:=gM e;obtain⟨a,b⟩:=aD.tI l e1;exact⟨.lst h.sq a,by simpa [PyData.canLay0] using b⟩
 | _=>exact bW e
theorem aD.tI{K:FR}{ρ:Ad}{H:Hp}{v:List V}{d:List D}{p:List PyData}(r:aD K ρ H v d)(e:oO d=some p):sT K H v p/\PyData.canLayAll0 p=true:=by
 cases r with
 | nil=>cases e;exact⟨.nil,rfl⟩
 | cons r l=>
  obtain⟨a,e1,e2⟩:=bB e;obtain⟨b,e3,rfl⟩:=gM e2;obtain⟨a1,a2⟩:=Rep.tI r e1;obtain⟨b1,b2⟩:=aD.tI l e3;exact⟨.cons a1 b1,by simp[PyData.canLayAll0,a2,b2]⟩
end
section
variable {K:FR} {ρ:Ad} {H:Hp} {h:MH} {v:V} {d:D}
theorem mw(S:bN K ρ h H)(r:Rep K ρ H v d)(e:z9 h d=some p):Cm K H v p/\p.canLay0=true:=by
 cases r with
 | @ob a n hn=>
  unfold z9 at e;dsimp only at e;cases q:h[n]? with
  | none=>rw[q] at e;cases e
  | some o=>
   rw[q] at e;cases o with
   | dct _=>exact bW e
   | dcH _=>exact bW e
   | exc _=>exact bW e
   | lst xs=>
    obtain⟨vs,e1,l⟩:=S.at_ n a _ hn q;obtain⟨b,e3,e4⟩:=gM e;subst e4;obtain⟨b1,b2⟩:=l.tI e3;exact⟨.lst (gZ.of e1) b1,by simpa [PyData.canLay0] using b2⟩
 | cu=>exact Rep.tI (Rep.cu (ρ:=ρ)) e
 | bl b=>exact Rep.tI (Rep.bl (ρ:=ρ) b) e
 | int i=>exact Rep.tI (Rep.int (ρ:=ρ) i) e
 | str x=>exact Rep.tI (Rep.str (ρ:=ρ) x) e
 | ty n=>exact Rep.tI (Rep.ty (ρ:=ρ) n) e
 | tup h l=>exact Rep.tI (.tup h l) e
 | lv h n l=>exact Rep.tI (.lv h n l) e
 | ro h l=>exact Rep.tI (.ro h l) e
 | dv h n l=>exact Rep.tI (.dv h n l) e
noncomputable def dR(d:D)(h:MH):Option (List D):=match d with
 | .lv xs=>some xs
 | .ob n=>match h[n]? with
  | some (.lst xs)=>some xs
  | _=>none
 | _=>none
theorem eB(S:bN K ρ h H)(r:Rep K ρ H v d)(e:dR d h=some xs):∃a vs,v=.ref a/\H a=some (.lst vs)/\aD K ρ H vs xs:=by
 cases r with
 | @ob a n hn=>
  unfold dR at e;dsimp only at e;cases q:h[n]? with
  | none=>rw[q] at e;cases e
  | some o=>
   rw[q] at e;cases o with
   | dct _=>exact bW e
   | dcH _=>exact bW e
   | exc _=>exact bW e
   | lst ys=>
    cases e;obtain⟨vs,e1,l⟩:=S.at_ n a _ hn q;exact⟨a,vs,rfl,e1,l⟩
 | lv h n l=>cases e;exact⟨_,_,rfl,h,l⟩
 | _=>exact bW e
noncomputable def dS(d:D)(h:MH):Option (List (Key×D)):=match d with
 | .dv kvs=>some kvs
 | .ob n=>match h[n]? with
  | some (.dct kvs)=>some kvs
  | _=>none
 | _=>none
theorem iU(S:bN K ρ h H)(r:Rep K ρ H v d)(e:dS d h=some xs):∃a vs,v=.ref a/\H a=some (.dK vs)/\bC K ρ H vs xs:=by
 cases r with
 | @ob a n hn=>
  unfold dS at e;dsimp only at e;cases q:h[n]? with
  | none=>rw[q] at e;cases e
  | some o=>
   rw[q] at e;cases o with
   | lst _=>exact bW e
   | dcH _=>exact bW e
   | exc _=>exact bW e
   | dct ys=>
    cases e;obtain⟨vs,e1,l⟩:=S.at_ n a _ hn q;exact⟨a,vs,rfl,e1,l⟩
 | dv h n l=>cases e;exact⟨_,_,rfl,h,l⟩
 | _=>exact bW e
theorem lO(S:bN K ρ h H)(r:Rep K ρ H v d)(e:dw d h=some (xs,ws)):∃a vs,v=.ref a/\(gZ K H a vs\/kJ K H a vs)/\aD K ρ H vs xs:=by
 obtain⟨a,e1,⟨vs,q,l⟩,_⟩:=qQ S r e;refine⟨a,vs,e1,?_,l⟩;generalize zt d=b at q;cases q with
 | l q=>exact .inl q
 | t q=>exact .inr q
noncomputable def vZ:D->Option Key
 | .int i=>some (.inl i)
 | .str x=>some (.inr x)
 | _=>none
noncomputable def pH(kvs:List (Key×D))(k:Key):Option D:=(kvs.find? λkv=>decide (kv.1=k)).map (·.2)
noncomputable def putD(kvs:List (Key×D))(k:Key)(v:D):List (Key×D):=
 if(kvs.any λkv=>decide (kv.1=k))=true then kvs.map (λkv=>if kv.1=k then(kv.1,v) else kv) else kvs++[(k,v)]
theorem j5(r:Rep K ρ H v d)(e:vZ d=some k):v=kV k:=by
 cases r with
 | int i=>cases e;rfl
 | str x=>cases e;rfl
 | _=>exact bW e
theorem bC.val:∀{us:List (Key×V)} {kvs:List (Key×D)} (k:Key),bC K ρ H us kvs->(pH kvs k=none/\jb us k=none)\/∃d v,pH kvs k=some d/\jb us k=some v/\Rep K ρ H v d:=by
 intro us
 induction us with
 | nil=>intro kvs k a;cases a;exact .inl ⟨rfl,rfl⟩
 | cons u us ih=>
  intro kvs k a;cases a with | @cons j v _ d ds r l=>
  by_cases z:j=k
  ·exact .inr ⟨d,v,by simp[pH,z],by simp[jb,z],r⟩
  ·have h1:pH ((j,d)::ds) k=pH ds k:=by simp only[pH,R8,z,decide_false]
   have h2:jb ((j,v)::us) k=jb us k:=lI z;rw[h1,h2];exact ih k l
theorem bC.length:∀{us:List (Key×V)} {kvs:List (Key×D)},bC K ρ H us kvs->us.length=kvs.length:=by
 intro us
 induction us with
 | nil=>intro kvs a;cases a;rfl
 | cons u us ih=>intro kvs a;cases a with | cons _ l=>rw[Qj,Qj,ih l]
theorem bC.any(k:Key):∀{us:List (Key×V)} {kvs:List (Key×D)},bC K ρ H us kvs->(us.any λkv=>decide (kv.1=k))=(kvs.any λkv=>decide (kv.1=k))
 | _,_,.nil=>rfl
 | _,_,.cons _ l=>by rw[R9,R9,bC.any k l]
theorem bC.map(r:Rep K ρ H v d):∀{us:List (Key×V)} {kvs:List (Key×D)},bC K ρ H us kvs->bC K ρ H (us.map λkv=>if kv.1=k then(kv.1,v) else kv) (kvs.map λkv=>if kv.1=k then(kv.1,d) else kv)
 | _,_,.nil=>.nil
 | _,_,.cons (k:=j) q l=>by
  rw[Qp,Qp]
  by_cases z:j=k
  ·rw[Qf z,Qf z];exact .cons r (bC.map r l)
  ·rw[Qo z,Qo z];exact .cons q (bC.map r l)
theorem bC.append:∀{us vs:List (Key×V)} {ks ls:List (Key×D)},bC K ρ H us ks->bC K ρ H vs ls->bC K ρ H (us++vs) (ks++ls):=by
 intro us vs
 induction us with
 | nil=>intro ks ls a t;cases a;exact t
 | cons u us ih=>intro ks ls a t;cases a with | cons r l=>exact .cons r (ih l t)
theorem bC.put(l:bC K ρ H us kvs)(r:Rep K ρ H v d):bC K ρ H (putK us k v) (putD kvs k d):=by
 unfold putK putD;rw[l.any k]
 by_cases z:(kvs.any λkv=>decide (kv.1=k))=true
 ·rw[Qf z,Qf z];exact l.map r
 ·rw[Qo z,Qo z];exact l.append (.cons r .nil)
end
noncomputable def tV(d e:D)(h:MH):Option (D×MH):=match d,e with
 | .int i,.int j=>some (.int (i+j),h)
 | .str a,.str b=>if a.length+b.length<=sizeLine then some (.str (a++b),h) else none
 | .tup [],.tup _=>none
 | .tup (x::xs),.tup ys=>if xs.length+1+ys.length<=sizeLine then some (.tup (x::xs++ys),h) else none
 | d,e=>(dR d h).bind λxs=>(dR e h).bind λys=>if xs.length+ys.length<=sizeLine then some (.lv (xs++ys),h) else none
noncomputable def sm(d e:D)(h:MH):Option (D×MH):=match d,e with
 | .int i,.int j=>some (.int (i-j),h)
 | _,_=>none
noncomputable def mM(i j:Int):Bool:=(decide (-(2^64) < i)&&decide (i < 2^64))||(decide (-(2^64) < j)&&decide (j < 2^64))
noncomputable def Kx(d e:D)(h:MH):Option (D×MH):=match d,e with
 | .int i,.int j=>if mM i j then some (.int (i*j),h) else none
 | _,_=>none
noncomputable def so(d e:D)(h:MH):Option (D×MH):=match d,e with
 | .int i,.int j=>if 0 < j then some (.int (i % j),h) else none
 | _,_=>none
noncomputable def EJ(d e:D)(h:MH):Option (D×MH):=match d,e with
 | .int i,.int j=>if 0 < j/\j<=10^40 then some (.int (i / j),h) else none
 | _,_=>none
noncomputable def G1(d e:D)(h:MH):Option (D×MH):=match d,e with
 | .int i,.int j=>if 0<=j/\j<=1000000/\i.natAbs < 2^64 then some (.int (i^j.toNat),h) else none
 | _,_=>none
noncomputable def E5(f:Int->Int->Bool)(d e:D)(h:MH):Option (D×MH):=match d,e with
 | .int i,.int j=>some (.bl (f i j),h)
 | _,_=>none
noncomputable def Cj:=E5 λi j=>decide (i < j)
noncomputable def Li:=E5 λi j=>decide (i<=j)
noncomputable def wj:=E5 λi j=>decide (j < i)
noncomputable def MW:=E5 λi j=>decide (j<=i)
noncomputable def HU(d e:D)(h:MH):Option Bool:=(z9 h d).bind λa=>(z9 h e).bind λb=>if a.depth<=64/\b.depth<=64 then some (PyData.eqv a b) else none
noncomputable def Pu:D->Bool
 | .cu=>true
 | _=>false
noncomputable def Ky(d e:D)(h:MH):Option (D×MH):=match e with
 | .cu=>some (.bl (Pu d),h)
 | _=>none
noncomputable def lK(d:D)(h:MH):Option (D×MH):=match d with
 | .int i=>some (.int (-i),h)
 | _=>none
noncomputable def inD(d e:D)(h:MH):Option Bool:=match dS e h with
 | some kvs=>(vZ d).map λk=>(pH kvs k).isSome
 | none=>match d,e with
  | .str x,.str y=>some (!(Builtin.Str.occurrences y x 0 y.length 1).isEmpty)
  | d,e=>(dw e h).bind λp=>(z9 h d).bind λa=>(oO p.1).bind λbs=>if a.depth<=60/\PyData.depthAll bs<=60 then some (bs.any λb=>PyData.eqv b a) else none
noncomputable def MV(d e:D)(h:MH):Option (D×MH):=(inD d e h).map λc=>(.bl c,h)
noncomputable def oh(d e:D)(h:MH):Option (D×MH):=(inD d e h).map λc=>(.bl (!c),h)
noncomputable def aP(d e:D)(h:MH):Option (D×MH):=match dS d h with
 | some kvs=>(vZ e).bind λk=>(pH kvs k).map λz=>(z,h)
 | none=>match d,e with
  | .str z,.int i=>if z.length<=sizeLine then(gz z.cps.toList i).map λc=>(.str ⟨#[c]⟩,h) else none
  | d,.int i=>(dw d h).bind λp=>(gz p.1 i).map λz=>(z,h)
  | _,_=>none
theorem jo{K:FR}{ρ:Ad}{H:Hp}{x:V}{i:Int}(r:Rep K ρ H x (.int i)):x=.int i:=by cases r;rfl
theorem yW{K:FR}{ρ:Ad}{H:Hp}{x:V}{i:Str}(r:Rep K ρ H x (.str i)):x=.str i/\PyData.strOk i=true:=by cases r with | str h=>exact⟨rfl,h⟩
theorem Dv{K:FR}{ρ:Ad}{H:Hp}{x:V}{ds:List D}(r:Rep K ρ H x (.tup ds)):∃a vs,x=.ref a/\TupAt K ρ H a vs/\aD K ρ H vs ds:=by cases r with | tup h l=>exact⟨_,_,rfl,h,l⟩
theorem vK(ho:oA X g (rI C q))(hf:∀d e h z h',f d e h=some (z,h')->∃i j,d=.int i/\e=.int j/\C i j/\h'=h/\∀ρ H,Rep X.K ρ H (q i j) z):oz X g f:=by
 intro pins s σ H x y v u Q I rx ry hh;obtain⟨ρ,h,d,e,z,h',S,rd,re,ee,k⟩:=hh;obtain⟨i,j,rfl,rfl,c,rfl,rz⟩:=hf _ _ _ _ _ ee;obtain rfl:=jo rd;obtain rfl:=jo re;exact ho pins s σ H _ _ v u Q I rx ry ⟨i,j,rfl,rfl,c,k _ _ (.here S (rz _ _))⟩
theorem mI(ho:oA X g (Gb q))(hf:∀d e h z h',f d e h=some (z,h')->∃i j,d=.int i/\e=.int j/\h'=h/\∀ρ H,Rep X.K ρ H (q i j) z):oz X g f:=by
 intro pins s σ H x y v u Q I rx ry hh;obtain⟨ρ,h,d,e,z,h',S,rd,re,ee,k⟩:=hh;obtain⟨i,j,rfl,rfl,rfl,rz⟩:=hf _ _ _ _ _ ee;obtain rfl:=jo rd;obtain rfl:=jo re;exact ho pins s σ H _ _ v u Q I rx ry ⟨i,j,rfl,rfl,k _ _ (.here S (rz _ _))⟩
theorem za:oz X (binaryOp .Sub) sm:=mI JJ λd e h z h' ee=>by
 cases d <;> first |(exact bW ee) | skip
 cases e <;> first |(exact bW ee) | skip
 cases ee;exact⟨_,_,rfl,rfl,rfl,λ_ _=>.int _⟩
theorem JE:oz X (binaryOp .Mult) Kx:=vK JM λd e h z h' ee=>by
 cases d <;> first |(exact bW ee) | skip
 cases e <;> first |(exact bW ee) | skip
 rename_i i j;unfold Kx at ee;dsimp only at ee
 by_cases c:mM i j=true
 ·rw[Qf c] at ee;cases ee;refine⟨i,j,rfl,rfl,?_,rfl,λ_ _=>.int _⟩;unfold mM at c;simp only[RJ,QN,QY] at c;exact c
 ·rw[Qo c] at ee;cases ee
theorem rK:oz X (binaryOp .Mod) so:=vK JN λd e h z h' ee=>by
 cases d <;> first |(exact bW ee) | skip
 cases e <;> first |(exact bW ee) | skip
 rename_i i j;unfold so at ee;dsimp only at ee
 by_cases c:0 < j
 ·rw[Qf c] at ee;cases ee;exact⟨i,j,rfl,rfl,c,rfl,λ_ _=>.int _⟩
 ·rw[Qo c] at ee;cases ee
theorem JG:oz X (binaryOp .FloorDiv) EJ:=vK Eb λd e h z h' ee=>by
 cases d <;> first |(exact bW ee) | skip
 cases e <;> first |(exact bW ee) | skip
 rename_i i j;unfold EJ at ee;dsimp only at ee
 by_cases c:0 < j/\j<=10^40
 ·rw[Qf c] at ee;cases ee;exact⟨i,j,rfl,rfl,c,rfl,λ_ _=>.int _⟩
 ·rw[Qo c] at ee;cases ee
theorem D5:oz X (binaryOp .Pow) G1:=vK JL λd e h z h' ee=>by
 cases d <;> first |(exact bW ee) | skip
 cases e <;> first |(exact bW ee) | skip
 rename_i i j;unfold G1 at ee;dsimp only at ee
 by_cases c:0<=j/\j<=1000000/\i.natAbs < 2^64
 ·rw[Qf c] at ee;cases ee;exact⟨i,j,rfl,rfl,c,rfl,λ_ _=>.int _⟩
 ·rw[Qo c] at ee;cases ee
theorem AH(ee:E5 f d e h=some (z,h')):∃i j,d=.int i/\e=.int j/\h'=h/\z=.bl (f i j):=by
 cases d <;> first |(exact bW ee) | skip
 cases e <;> first |(exact bW ee) | skip
 cases ee;exact⟨_,_,rfl,rfl,rfl,rfl⟩
theorem D7:oz X (compareOp .Lt) Cj:=mI Ms λd e h z h' ee=>by
 obtain⟨i,j,rfl,rfl,rfl,rfl⟩:=AH ee;exact⟨i,j,rfl,rfl,rfl,λ_ _=>.bl _⟩
theorem D8:oz X (compareOp .LtE) Li:=mI Mt λd e h z h' ee=>by
 obtain⟨i,j,rfl,rfl,rfl,rfl⟩:=AH ee;exact⟨i,j,rfl,rfl,rfl,λ_ _=>.bl _⟩
theorem D9:oz X (compareOp .Gt) wj:=mI Mu λd e h z h' ee=>by
 obtain⟨i,j,rfl,rfl,rfl,rfl⟩:=AH ee;exact⟨i,j,rfl,rfl,rfl,λ_ _=>.bl _⟩
theorem HN:oz X (compareOp .GtE) MW:=mI Mv λd e h z h' ee=>by
 obtain⟨i,j,rfl,rfl,rfl,rfl⟩:=AH ee;exact⟨i,j,rfl,rfl,rfl,λ_ _=>.bl _⟩
theorem u9:Nh X (unaryOp .USub) (rU X.K lK):=by
 intro pins s σ H x v Q I rx hh;obtain⟨ρ,h,d,z,h',S,rd,ee,k⟩:=hh;cases rd <;> first |(exact bW ee) | skip
 cases ee;exact Iy pins s σ H _ v Q I rx ⟨_,rfl,k _ _ (.here S (.int _))⟩
noncomputable def KS(d e:D)(h:MH):Option (D×MH):=(dR d h).bind λxs=>(dR e h).bind λys=>if xs.length+ys.length<=sizeLine then some (D.lv (xs++ys),h) else none
def NF(d e:D)(h:MH)(p:D×MH):Prop:=(∃i j,d=.int i/\e=.int j)\/(∃a b,d=.str a/\e=.str b)\/(∃x xs ys,d=.tup (x::xs)/\e=.tup ys)\/KS d e h=some p
theorem wK{d e:D}{h:MH}{p:D×MH}(z:KS d e h=some p):NF d e h p:=.inr (.inr (.inr z))
theorem EK{d e:D}{h:MH}{p:D×MH}(ee:tV d e h=some p):NF d e h p:=by
 cases d with
 | int i=>cases e with
  | int j=>exact .inl ⟨i,j,rfl,rfl⟩
  | _=>exact wK ee
 | str a=>cases e with
  | str b=>exact .inr (.inl ⟨a,b,rfl,rfl⟩)
  | _=>exact wK ee
 | tup xs=>cases e with
  | tup ys=>cases xs with
   | nil=>exact bW ee
   | cons x xs=>exact .inr (.inr (.inl ⟨x,xs,ys,rfl,rfl⟩))
  | _=>cases xs <;> exact wK ee
 | _=>exact wK ee
theorem JH:oz X (binaryOp .Add) tV:=by
 intro pins s σ H x y v u Q I rx ry hh;obtain⟨ρ,h,d,e,z,h',S,rd,re,ee,k⟩:=hh;have lists:((dR d h).bind λxs=>(dR e h).bind λys=>if xs.length+ys.length<=sizeLine then some (D.lv (xs++ys),h) else none)=some (z,h')->wpAny (model X.prog X.w) X.A (binaryOp .Add v u) (EP X pins σ Q) X.xe s:=by
  intro ee;obtain⟨xs,e1,e4⟩:=bB ee;obtain⟨ys,e2,e3⟩:=bB e4
  by_cases c:xs.length+ys.length<=sizeLine
  ·rw[Qf c] at e3;cases e3;obtain⟨a,vs,rfl,ha,la⟩:=eB S rd e1;obtain⟨b,us,rfl,hb,lb⟩:=eB S re e2;exact Ed pins s σ H _ _ v u Q I rx ry ⟨a,b,vs,us,rfl,rfl,ha,hb,by rw[la.length,lb.length];exact c,λp hp=>k _ _ (.lv S (la.append lb) hp)⟩
  ·rw[Qo c] at e3;cases e3
 rcases(EK ee:(∃i j,d=.int i/\e=.int j)\/(∃a b,d=.str a/\e=.str b)\/(∃x xs ys,d=.tup (x::xs)/\e=.tup ys)\/KS d e h=some (z,h')) with⟨i,j,rfl,rfl⟩ |⟨a,b,rfl,rfl⟩ |⟨x0,xs,ys,rfl,rfl⟩ | z
 ·cases ee;obtain rfl:=jo rd;obtain rfl:=jo re;exact JP pins s σ H _ _ v u Q I rx ry ⟨_,_,rfl,rfl,k _ _ (.here S (.int _))⟩
 ·unfold tV at ee;dsimp only at ee
  by_cases c:a.length+b.length<=sizeLine
  ·rw[Qf c] at ee;cases ee;obtain⟨rfl,h1⟩:=yW rd;obtain⟨rfl,h2⟩:=yW re;exact zc pins s σ H _ _ v u Q I rx ry ⟨a,b,rfl,rfl,c,k _ _ (.here S (.str (g0 h1 h2)))⟩
  ·rw[Qo c] at ee;cases ee
 ·unfold tV at ee;dsimp only at ee
  by_cases c:xs.length+1+ys.length<=sizeLine
  ·rw[Qf c] at ee;cases ee;obtain⟨a,vs,rfl,h1,l1⟩:=Dv rd;obtain⟨b,us,rfl,h2,l2⟩:=Dv re;refine GD pins s σ H _ _ v u Q I rx ry ⟨a,b,vs,us,rfl,rfl,h1.sq,h2.sq,?_,?_,λz=>?_,λ_ p hp=>k _ _ (.tup S (l1.append l2) hp)⟩
   ·intro z;rw[z] at l1;cases l1
   ·rw[l1.length,l2.length];exact c
   ·rw[z] at l2;cases l2;rw[Q6] at k;exact k _ _ (.here S (.tup h1 l1))
  ·rw[Qo c] at ee;cases ee
 ·exact lists z
theorem kc(h1:p.canLay0=true)(h2:p.depth<=64):SeqAt.shaped p=true:=by
 unfold PySem.SeqAt.shaped;rw[h1,QP h2];rfl
theorem F8{K:FR}{ρ:Ad}{H:Hp}{v:V}{d:D}(r:Rep K ρ H v d):decide (v=V.cu)=Pu d:=by
 cases r <;> rfl
theorem JF:oz X (compareOp .Is) Ky:=by
 intro pins s σ H x y v u Q I rx ry hh;obtain⟨ρ,h,d,e,z,h',S,rd,re,ee,k⟩:=hh;cases e <;> first |(exact bW ee) | skip
 cases ee;cases re;refine JO pins s σ H _ _ v u Q I rx ry ⟨rfl,?_⟩;rw[F8 rd];exact k _ _ (.here S (.bl _))
theorem uV{us:List Value}{ds:List PyData}{as:List Addr}(H:ReadsAll h us ds as)(hf:∀u d as,u∈us->Reads h u d as->d∈ds->f u=PyData.eqv d p):us.any f=ds.any λb=>PyData.eqv b p:=by
 cases H with
 | nil=>rfl
 | cons r l=>rw[R9,R9,hf _ _ _ Qh r Qh,uV l λu d as hu hr hd=>hf u d as (Qi _ hu) hr (Qi _ hd)]
open Classical in
noncomputable def AD(h:Heap)(p:PyData)(u:Value):Bool:=if q:∃d as,Reads h u d as/\d.canLay0=true then PyData.eqv q.choose p else false
theorem oo(r:Reads h u d as)(c:d.canLay0=true):AD h p u=PyData.eqv d p:=by
 have q:∃d as,Reads h u d as/\d.canLay0=true:=⟨d,as,r,c⟩;unfold AD;rw[dif_pos q];obtain⟨as',r',c'⟩:=q.choose_spec;rw[PySem.SeqAt.Reads.unique _ _ _ _ _ c' r' r]
theorem cw:∀{ds:List PyData} {d:PyData},PyData.canLayAll0 ds=true->d∈ds->d.canLay0=true
 | x::r,d,c,m=>by
  simp only[PyData.canLayAll0,QN] at c;rcases Ql.mp m with rfl | m
  ·exact c.1
  ·exact cw c.2 m
theorem kd:∀{ds:List PyData} {d:PyData},d∈ds->d.depth<=PyData.depthAll ds
 | x::r,d,m=>by
  simp only[PyData.depthAll];rcases Ql.mp m with rfl | m
  ·lia
  ·have:=kd m;lia
theorem jS{us:List Value}{ds:List PyData}{as:List Addr}(H:ReadsAll h us ds as)(y:Value)(hy:y∈us):∃d as,Reads h y d as/\d∈ds:=by
 cases H with
 | nil=>cases hy
 | cons r l=>
  rcases Ql.mp hy with rfl | hy
  ·exact⟨_,_,r,Qh⟩
  ·obtain⟨d,as,a1,a2⟩:=jS l y hy;exact⟨d,as,a1,Qi _ a2⟩
theorem in_of(hu:X.A.units+64 < cLine)(I:L2.Inv X pins σ H s)(rx:L2.RelV x v)(ry:L2.RelV y u)(S:bN X.K ρ h H)(rd:Rep X.K ρ H x d)(re:Rep X.K ρ H y e){c:Bool}(ee:inD d e h=some c){Q:Bool->Shared->Prop}(hq:∀s',L2.Inv X pins σ H s'->Q c s'):
  wpAny (model X.prog X.w) X.A (compareOp .In v u) (λr s'=>∃c,r=.bool c/\Q c s') X.xe s/\wpAny (model X.prog X.w) X.A (compareOp .NotIn v u) (λr s'=>∃c,r=.bool (!c)/\Q c s') X.xe s:=by
 unfold inD at ee;cases qd:dS e h with
 | some kvs=>
  rw[qd] at ee;obtain⟨k,e1,e2⟩:=gM ee;obtain⟨a,us,rfl,ha,l⟩:=iU S re qd;obtain rfl:u=Value.ref a:=ry;have ek:=j5 rd e1;subst ek;have g:nv H a (kV k) (jb us k):=nv.k ha;have ec:(jb us k).isSome=c:=by
   rw[<-e2];rcases l.val k with⟨h1,h2⟩ |⟨d,v,h1,h2,_⟩
   ·rw[h1,h2];rfl
   ·rw[h1,h2];rfl
  refine⟨OZ (by lia) I g rx λs' I'=>⟨c,by rw[ec],hq s' I'⟩,G6 (by lia) I g rx λs' I'=>⟨c,by rw[ec],hq s' I'⟩⟩
 | none=>
  rw[qd] at ee;dsimp only at ee;have seqs:((dw e h).bind λp=>(z9 h d).bind λa=>(oO p.1).bind λbs=>if a.depth<=60/\PyData.depthAll bs<=60 then some (bs.any λb=>PyData.eqv b a) else none)=some c->
    wpAny (model X.prog X.w) X.A (compareOp .In v u) (λr s'=>∃c,r=.bool c/\Q c s') X.xe s/\wpAny (model X.prog X.w) X.A (compareOp .NotIn v u) (λr s'=>∃c,r=.bool (!c)/\Q c s') X.xe s:=by
   intro ee;obtain⟨⟨xs,ws⟩,e1,e2⟩:=bB ee;obtain⟨p,e3,e4⟩:=bB e2;obtain⟨bs,e5,e6⟩:=bB e4
   by_cases w:p.depth<=60/\PyData.depthAll bs<=60
   ·rw[Qf w] at e6;cases e6;obtain⟨a,vs,rfl,hq',l⟩:=lO S re e1;obtain rfl:u=Value.ref a:=ry;obtain⟨r1,c1⟩:=mw S rd e3;obtain⟨r2,c2⟩:=l.tI e5;obtain⟨as,ra⟩:=r1.reads I rx;have key:∀its:List Value,Vals vs its->(∀y,y∈its->PySem.SeqAt.EqAt X.A.in1 s y v (AD s.heap p y))/\its.any (AD s.heap p)=bs.any λb=>PyData.eqv b p:=by
     intro its rv;obtain⟨bs',rb⟩:=r2.reads I rv;refine⟨λy hy=>?_,uV rb λu d as _ hr hd=>oo hr (cw c2 hd)⟩;obtain⟨d,as',hr,hd⟩:=jS rb y hy;rw[oo hr (cw c2 hd)];refine Sz d p _ s y v as' as hr ra (cw c2 hd) c1 ?_;have h1:=kd hd;have h2:min d.depth p.depth<=d.depth:=Tz _ _;show X.A.units+1+min d.depth p.depth < cLine;have h3:=w.2
     lia
    rcases hq' with hq' | hq'
    ·obtain⟨its,rv,pl,_⟩:=I.list hq';obtain⟨k1,k2⟩:=key its rv;have k1':∀y,y∈its.toArray->PySem.SeqAt.EqAt X.A.in1 s y v (AD s.heap p y):=λy hy=>k1 y (by simpa using hy);have k2':its.toArray.any (AD s.heap p)=bs.any λb=>PyData.eqv b p:=by rw[<-k2];simp
     exact⟨PySem.SeqAt.in_listAt _ pl.isList k1' ⟨_,rfl,by rw[k2'];exact hq s I⟩,PySem.SeqAt.notIn_listAt _ pl.isList k1' ⟨_,rfl,by rw[k2'];exact hq s I⟩⟩
    ·obtain⟨its,rv,pl,_⟩:=I.tuple hq';obtain⟨k1,k2⟩:=key its rv;have k1':∀y,y∈its.toArray->PySem.SeqAt.EqAt X.A.in1 s y v (AD s.heap p y):=λy hy=>k1 y (by simpa using hy);have k2':its.toArray.any (AD s.heap p)=bs.any λb=>PyData.eqv b p:=by rw[<-k2];simp
     exact⟨PySem.SeqAt.in_tupleAt _ pl k1' ⟨_,rfl,by rw[k2'];exact hq s I⟩,PySem.SeqAt.notIn_tupleAt _ pl k1' ⟨_,rfl,by rw[k2'];exact hq s I⟩⟩
   ·rw[Qo w] at e6;cases e6
  split at ee
  ·cases ee;cases rd;cases re;obtain⟨t,rfl⟩:=rx;obtain⟨t',rfl⟩:=ry;exact⟨in_str ⟨_,rfl,hq s I⟩,notIn_str ⟨_,rfl,hq s I⟩⟩
  ·exact seqs ee
theorem HM(hu:X.A.units+64 < cLine):oz X (compareOp .In) MV:=by
 intro pins s σ H x y v u Q I rx ry hh;obtain⟨ρ,h,d,e,z,h',S,rd,re,ee,k⟩:=hh;obtain⟨c,e1,e2⟩:=gM ee;cases e2;refine cQ (in_of hu I rx ry S rd re e1 (Q:=λc' s'=>c'=c/\L2.Inv X pins σ H s') λs' I'=>⟨rfl,I'⟩).1 λr s' ⟨c',hr,hc,I'⟩=>?_;subst hr;subst hc;exact⟨.bl _,H,I',rfl,k _ _ (.here S (.bl _))⟩
theorem D6(hu:X.A.units+64 < cLine):oz X (compareOp .NotIn) oh:=by
 intro pins s σ H x y v u Q I rx ry hh;obtain⟨ρ,h,d,e,z,h',S,rd,re,ee,k⟩:=hh;obtain⟨c,e1,e2⟩:=gM ee;cases e2;refine cQ (in_of hu I rx ry S rd re e1 (Q:=λc' s'=>c'=c/\L2.Inv X pins σ H s') λs' I'=>⟨rfl,I'⟩).2 λr s' ⟨c',hr,hc,I'⟩=>?_;subst hr;subst hc;exact⟨.bl _,H,I',rfl,k _ _ (.here S (.bl _))⟩
theorem Hl{K:FR}{ρ:Ad}{H:Hp}{vs:List V}{ds:List D}{i:Int}{d:D}(l:aD K ρ H vs ds)(e:gz ds i=some d):∃v,gz vs i=some v/\Rep K ρ H v d:=by
 unfold gz at e;obtain⟨j,e1,e2⟩:=bB e;obtain⟨v,e3,r⟩:=l.got e2;exact⟨v,by unfold gz;rw[l.length,e1];exact e3,r⟩
theorem BS{d e z:D}{h h':MH}(ee:aP d e h=some (z,h')):h'=h/\((∃kvs k,dS d h=some kvs/\vZ e=some k/\pH kvs k=some z)\/(∃x i c,d=.str x/\e=.int i/\x.length<=sizeLine/\gz x.cps.toList i=some c/\z=.str ⟨#[c]⟩)\/∃i xs ws,e=.int i/\dw d h=some (xs,ws)/\gz xs i=some z):=by
 unfold aP at ee
 split at ee
 ·obtain⟨ky,e1,e2⟩:=bB ee;obtain⟨z',e3,e4⟩:=gM e2;cases e4;exact⟨rfl,.inl ⟨_,ky,‹_›,e1,e3⟩⟩
 ·split at ee
  ·split at ee
   ·obtain⟨c,e3,e4⟩:=gM ee;cases e4;exact⟨rfl,.inr (.inl ⟨_,_,c,rfl,rfl,‹_›,e3,rfl⟩)⟩
   ·cases ee
  ·obtain⟨⟨xs,ws⟩,e1,e2⟩:=bB ee;obtain⟨z',e3,e4⟩:=gM e2;cases e4;exact⟨rfl,.inr (.inr ⟨_,xs,ws,rfl,e1,e3⟩)⟩
  ·cases ee
theorem MI(hu:X.A.units+64 < cLine):NA X (rS X.K aP):=by
 intro value slice pins s σ H x y v u Q I rx ry hh hs;obtain⟨ρ,h,d,e,z,h',S,rd,re,ee,k⟩:=hh;obtain⟨rfl,hc⟩:=BS ee;rcases hc with⟨kvs,ky,qd,e1,e3⟩ |⟨x0,i,ch,rfl,rfl,c,e3,rfl⟩ |⟨i,xs,ws,rfl,e1,e3⟩
 ·obtain⟨a,us,rfl,ha,l⟩:=iU S rd qd;obtain rfl:v=Value.ref a:=rx;have ek:=j5 re e1;subst ek;rcases l.val ky with⟨h1,h2⟩ |⟨d',w,h1,h2,r⟩
  ·rw[h1] at e3;cases e3
  ·rw[h1] at e3;cases e3;have g:nv H a (kV ky) (some w):=by rw[<-h2];exact nv.k ha
   exact tail_any (yg I g) Uw.lookup (BZ (by lia) I g ry λw' s3 I3 rw'=>⟨w,H,I3,rw',k _ _ (.here S r)⟩) hs
 ·obtain⟨rfl,hs0⟩:=yW rd;obtain rfl:=jo re;exact Km value slice pins s σ H _ _ v u Q I rx ry ⟨x0,i,ch,rfl,rfl,c,e3,k _ _ (.here S (.str (Bg hs0 e3)))⟩ hs
 ·obtain⟨a,vs,rfl,hq',l⟩:=lO S rd e1;obtain⟨w,e5,r⟩:=Hl l e3;obtain rfl:=jo re;rcases hq' with hq' | hq'
  ·exact GR value slice pins s σ H _ _ v u Q I rx ry ⟨a,vs,i,w,rfl,rfl,hq',e5,k _ _ (.here S r)⟩ hs
  ·exact Kl value slice pins s σ H _ _ v u Q I rx ry ⟨a,vs,i,w,rfl,rfl,hq',e5,k _ _ (.here S r)⟩ hs
theorem LZ(hu:X.A.units+64 < cLine)(ha:SE X a ma)(hb:SE X b mb)(hs:nu b:=by unfold nu;intro _ _;ac_nf):SE X (.Subscript a b pos) (ao aP ma mb):=(Mn (MI hu) ha hb hs).imp λ_ _ _=>z7
abbrev PM:=DS->MH->Option (Option Int×MH)
noncomputable def xD:PM:=λ_ h=>some (none,h)
noncomputable def xE(e:EM):PM:=λδ h=>(e δ h).bind λp=>match p.1 with
 | .int i=>some (some i,p.2)
 | _=>none
inductive Nq(K:FR)(m:PM)(σ:L2.St)(H:Hp)(Q:Option Int->Hp->Prop):Prop where
 | mk (ρ δ h b h'):cK K ρ H σ δ->bN K ρ h H->(m δ h=some (b,h'))->(∀ρ' H',dh ρ H ρ' H'->bN K ρ' h' H'->Q b H')->Nq K m σ H Q
noncomputable def PY(K:FR)(m:PM):TO:=λσ H Q=>Nq K m σ H Q
def SP'(X:Cx)(e:Option Expr)(m:PM):Prop:=PO X e (PY X.K m)
theorem zX:SP' X none xD:=λpins s σ H Q I hh=>by
 obtain⟨ρ,δ,h,b,h',R,S,e,k⟩:=hh;cases e;exact Gq pins s σ H Q I (k ρ H (.refl _ _) S)
theorem zW(he:SE X e ma):SP' X (some e) (xE ma):=λpins s σ H Q I hh=>by
 obtain⟨ρ,δ,h,b,h',R,S,e,k⟩:=hh;obtain⟨⟨x,h1⟩,e1,e2⟩:=bB e;cases x <;> first |(cases e2;done) | skip
 cases e2;refine Gp he pins s σ H Q I ⟨ρ,δ,h,_,_,R,S,e1,λv H' ⟨ρ',T,S',r⟩=>?_⟩;cases r;exact⟨_,rfl,k ρ' H' T S'⟩
noncomputable def cutD(xs:List D)(lo hi:Option Int):List D:=(xs.drop (HT.cI xs.length 0 lo)).take (HT.cI xs.length xs.length hi-HT.cI xs.length 0 lo)
noncomputable def MU(d:D)(lo hi:Option Int)(h:MH):Option (D×MH):=match d with
 | .str z=>if z.length<=sizeLine then some (.str (Txt.slice z lo hi),h) else none
 | .tup xs=>if HT.cI xs.length 0 lo=0/\HT.cI xs.length xs.length hi=xs.length then none else some (.tup (cutD xs lo hi),h)
 | d=>(dw d h).map λp=>(.lv (cutD p.1 lo hi),h)
inductive Ny(K:FR)(x:V)(lo hi:Option Int)(H:Hp)(Q:VK):Prop where
 | mk (ρ h d z h'):bN K ρ h H->Rep K ρ H x d->(MU d lo hi h=some (z,h'))->(∀v H',du K ρ H h' z v H'->Q v H')->Ny K x lo hi H Q
def P2(K:FR):V->Option Int->Option Int->Hp->VK->Prop:=λx lo hi H Q=>Ny K x lo hi H Q
theorem aD.sI{K:FR}{ρ:Ad}{H:Hp}{vs:List V}{ds:List D}(l:aD K ρ H vs ds)(lo hi:Option Int):aD K ρ H (L2.sI vs lo hi) (cutD ds lo hi):=by
 unfold L2.sI cutD;rw[l.length];exact(l.drop _).take _
theorem HA:La X (P2 X.K):=by
 intro pins s σ H x v vl vu lo hi sl Q I rx hs pl pu hh;obtain⟨ρ,h,d,z,h',S,rd,ee,k⟩:=hh;have lists:zt d=true->((dw d h).map λp=>(D.lv (cutD p.1 lo hi),h))=some (z,h')->∃T id,typeLookup (.type T) "__getitem__"=pure (some (.builtin id))/\s.TypeIs v T/\wpAny (model X.prog X.w) X.A (getItem v (.ref sl)) (EP X pins σ Q) X.xe s:=by
  intro nt e2;obtain⟨⟨xs,ws⟩,e1,e2⟩:=gM e2;cases e2;obtain⟨a,rfl,⟨vs,q,l⟩,_⟩:=qQ S rd e1;rw[nt] at q;cases q with
  | l q=>exact FT pins s σ H _ v vl vu lo hi sl Q I rx hs pl pu ⟨a,vs,rfl,q,λp hp=>k _ _ (.lv S (l.sI lo hi) hp)⟩
 cases d with
 | str x0=>
  unfold MU at ee;dsimp only at ee
  by_cases c:x0.length<=sizeLine
  ·rw[Qf c] at ee;cases ee;cases rd with | str hs0=>
   exact IJ pins s σ H _ v vl vu lo hi sl Q I rx hs pl pu ⟨x0,rfl,c,k _ _ (.here S (.str (wX _ _ hs0)))⟩
  ·rw[Qo c] at ee;cases ee
 | tup xs=>
  unfold MU at ee;dsimp only at ee
  by_cases c:HT.cI xs.length 0 lo=0/\HT.cI xs.length xs.length hi=xs.length
  ·rw[Qf c] at ee;cases ee
  ·rw[Qo c] at ee;cases ee;cases rd with | tup h0 l0=>
   exact II pins s σ H _ v vl vu lo hi sl Q I rx hs pl pu ⟨_,_,rfl,h0.sq,by rw[l0.length];exact c,λp hp=>k _ _ (.tup S (l0.sI lo hi) hp)⟩
 | _=>exact lists rfl ee
theorem Dk{x:Str}{id:String}{p pos:Pos}{e:Expr}{es:List Expr}{f:Fn}{m:AM}(hc:iC X (.builtin id) f)(hg:Gl X x)(hm:X.mg x=none)(hv:bootBuiltins x=some (.builtin id))(ha:SA X (e::es) m)(hn:x≠"__name__":=by decide)(hdb:(x==("__debug__":Str))=false:=by ac_nf)
  (he:starEach (e::es) X.env=(false,eval e X.env)::starEach es X.env:=by ac_nf) (hpl:(backTo pos (starEach es X.env)).any (·.1)=false:=by ac_nf):SE X (.Call (.Name x p) (e::es) [] pos) (ay f m):=
 (xy hc hg hm hv ha hn hdb he hpl).imp λσ H Q ⟨ρ,δ,h,d,h',R,S,e,k⟩=>by
  obtain⟨⟨ds,h1⟩,e1,e2⟩:=bB e;exact⟨ρ,δ,h,ds,h1,R,S,e1,λvs ρ1 H1 T1 S1 r1=>⟨ρ1,h1,ds,d,h',S1,r1,e2,λv H' P=>k v H' (P.step T1)⟩⟩
theorem Dj{x:Str}{id:String}{p pos:Pos}{e:Expr}{es:List Expr}{f:Fn}{m:AM}(hc:iC X (.type id) f)(hg:Gl X x)(hm:X.mg x=none)(hv:bootBuiltins x=some (.type id))(ha:SA X (e::es) m)(hn:x≠"__name__":=by decide)(hdb:(x==("__debug__":Str))=false:=by ac_nf)
  (he:starEach (e::es) X.env=(false,eval e X.env)::starEach es X.env:=by ac_nf) (hpl:(backTo pos (starEach es X.env)).any (·.1)=false:=by ac_nf):SE X (.Call (.Name x p) (e::es) [] pos) (ay f m):=
 (uf hc hg hm hv ha hn hdb he hpl).imp λσ H Q ⟨ρ,δ,h,d,h',R,S,e,k⟩=>by
  obtain⟨⟨ds,h1⟩,e1,e2⟩:=bB e;exact⟨ρ,δ,h,ds,h1,R,S,e1,λvs ρ1 H1 T1 S1 r1=>⟨ρ1,h1,ds,d,h',S1,r1,e2,λv H' P=>k v H' (P.step T1)⟩⟩
noncomputable def cz:Fn:=λds h=>match ds with
 | [.str z]=>if z.length<=sizeLine then some (.int z.length,h) else none
 | [d]=>match dS d h with
  | some kvs=>some (.int kvs.length,h)
  | none=>(dw d h).map λp=>(.int p.1.length,h)
 | _=>none
noncomputable def Kz:Fn:=λds h=>match ds with
 | [.int i]=>some (.int (if i < 0 then -i else i),h)
 | _=>none
noncomputable def fI:Fn:=λds h=>match ds with
 | [d]=>(dw d h).map λp=>(.tup p.1,h)
 | _=>none
theorem rep1{K:FR}{ρ:Ad}{H:Hp}{vs:List V}{d:D}(l:aD K ρ H vs [d]):∃v,vs=[v]/\Rep K ρ H v d:=by
 cases l with
 | cons r l=>cases l;exact⟨_,rfl,r⟩
theorem rep2{K:FR}{ρ:Ad}{H:Hp}{vs:List V}{d e:D}(l:aD K ρ H vs [d,e]):∃v u,vs=[v,u]/\Rep K ρ H v d/\Rep K ρ H u e:=by
 cases l with
 | cons r l=>cases l with
  | cons r' l=>cases l;exact⟨_,_,rfl,r,r'⟩
theorem wq:iC X (.builtin "len") cz:=by
 intro pins s σ H xs us Q I r hh;obtain⟨ρ,h,ds,z,h',S,l,ee,k⟩:=hh
 match ds,l,ee with
 | [],_,ee=>cases ee
 | _::_::_,_,ee=>exact absurd ee (by unfold cz;split <;> simp_all)
 | [d],l,ee=>
  obtain⟨v,rfl,rd⟩:=rep1 l;have oth:(match dS d h with | some kvs=>some (D.int kvs.length,h) | none=>(dw d h).map λp=>(D.int p.1.length,h))=some (z,h')->wpAny (model X.prog X.w) X.A (call (.builtin "len") us) (EP X pins σ Q) X.xe s:=by
   intro ee;cases q:dS d h with
   | some kvs=>
    rw[q] at ee;cases ee;obtain⟨a,ws,rfl,ha,lk⟩:=iU S rd q;refine B5 pins s σ H _ us Q I r ⟨a,ws,rfl,ha,k _ _ ?_⟩;rw[lk.length];exact .here S (.int _)
   | none=>
    rw[q] at ee;obtain⟨⟨ys,w⟩,e1,e2⟩:=gM ee;cases e2;obtain⟨a,vs,rfl,hq,l2⟩:=lO S rd e1;refine wB pins s σ H _ us Q I r ⟨a,vs,rfl,hq,k _ _ ?_⟩;rw[l2.length];exact .here S (.int _)
  cases d with
  | str x0=>
   unfold cz at ee;dsimp only at ee
   by_cases c:x0.length<=sizeLine
   ·rw[Qf c] at ee;cases ee;cases rd;exact wA pins s σ H _ us Q I r ⟨x0,rfl,c,k _ _ (.here S (.int _))⟩
   ·rw[Qo c] at ee;cases ee
  | _=>exact oth ee
theorem KO:iC X (.builtin "abs") Kz:=by
 intro pins s σ H xs us Q I r hh;obtain⟨ρ,h,ds,z,h',S,l,ee,k⟩:=hh
 match ds,l,ee with
 | [],_,ee=>cases ee
 | d::_::_,_,ee=>cases d <;> exact bW ee
 | [d],l,ee=>
  obtain⟨v,rfl,rd⟩:=rep1 l;cases rd <;> first |(exact bW ee) | skip
  cases ee;exact Fc pins s σ H _ us Q I r ⟨_,rfl,k _ _ (.here S (.int _))⟩
theorem yh:iC X (.type "tuple") fI:=by
 intro pins s σ H xs us Q I r hh;obtain⟨ρ,h,ds,z,h',S,l,ee,k⟩:=hh
 match ds,l,ee with
 | [],_,ee=>cases ee
 | _::_::_,_,ee=>cases ee
 | [d],l,ee=>
  obtain⟨v,rfl,rd⟩:=rep1 l;obtain⟨⟨ys,w⟩,e1,e2⟩:=gM ee;cases e2;obtain⟨a,rfl,⟨vs,q,l2⟩,_⟩:=qQ S rd e1;refine tW pins s σ H _ us Q I r ⟨a,vs,rfl,?_⟩;generalize hb:zt d=b at q;cases q with
  | l q=>exact .inl ⟨q,λp hp=>k _ _ (.tup S l2 hp)⟩
  | t q=>
   refine .inr ⟨q,k _ _ ?_⟩;cases rd <;> first |(cases hb;done) | skip
   cases e1;exact .here S (.tup ‹_› ‹_›)
noncomputable def Fq(m:AM):AM:=λδ h=>(m δ h).bind λp=>match p.1 with
 | [d]=>(dw d p.2).map λq=>(q.1,p.2)
 | _=>none
theorem FX(hg:Gl X x)(hm:X.mg x=none)(hv:bootBuiltins x=some (.type "list"))(ha:SA X [e] m)(hl:kl m 1)(hn:x≠"__name__":=by decide)(hdb:(x==("__debug__":Str))=false:=by ac_nf)(he:starEach [e] X.env=(false,eval e X.env)::starEach [] X.env:=by ac_nf)(hpl:(backTo pos (starEach [] X.env)).any (·.1)=false:=by ac_nf):lG X (.Call (.Name x p) [e] [] pos) (Fq m):=
 (uf wz hg hm hv ha hn hdb he hpl).imp λσ H Q zz=>by
  obtain⟨ρ,δ,h,d,h',R,S,e,k⟩:=zz;obtain⟨⟨ds,h1⟩,e1,e2⟩:=bB e;refine⟨ρ,δ,h,ds,h1,R,S,e1,λvs ρ1 H1 T1 S1 r1=>?_⟩;obtain⟨d,rfl⟩:=RZ.mp (hl _ _ _ _ e1);obtain⟨⟨ys,w⟩,e3,e4⟩:=gM e2;cases e4;obtain⟨v,rfl,rd⟩:=rep1 r1;obtain⟨a,ws,rfl,hq,l2⟩:=lO S1 rd e3;exact⟨a,ws,rfl,hq,λl hl=>k ρ1 H1 l ws T1 S1 hl l2⟩
noncomputable def tU(o i v:D)(h:MH):Option MH:=match o with
 | .ob n=>match h[n]? with
  | some (.lst xs)=>match i with
   | .int j=>(rZ xs.length j).map λp=>h.set n (.lst (xs.set p v))
   | _=>none
  | some (.dct kvs)=>(vZ i).bind λk=>if kvs.length < sizeLine then some (h.set n (.dct (putD kvs k v))) else none
  | _=>none
 | _=>none
noncomputable def pU(o i:EM):GM:=λv δ h=>(o δ h).bind λp=>(i δ p.2).bind λq=>(tU p.1 q.1 v q.2).map λh'=>(δ,h')
inductive Ie(K:FR)(o i v:V)(H:Hp)(Q:Hp->Prop):Prop where
 | mk (ρ h a b c h'):bN K ρ h H->Rep K ρ H o a->Rep K ρ H i b->Rep K ρ H v c->(tU a b c h=some h')->(∀ρ' H',dh ρ H ρ' H'->bN K ρ' h' H'->Q H')->Ie K o i v H Q
def OB(K:FR):V->V->V->Hp->(Hp->Prop)->Prop:=λo i v H Q=>Ie K o i v H Q
theorem Gj(hu:X.A.units+64 < cLine):Ld X (OB X.K):=by
 intro pins s σ H o i v ov iv u Q I ro ri rv hh;obtain⟨ρ,h,a,b,c,h',S,ra,rb,rc,ee,k⟩:=hh;cases ra <;> first |(exact bW ee) | skip
 rename_i a n hn;unfold tU at ee;dsimp only at ee;cases q:h[n]? with
 | none=>rw[q] at ee;cases ee
 | some w=>
  rw[q] at ee;have x:=S.at_ n a w hn q;have ma:=Qd hn;cases w with
  | lst xs=>
   dsimp only at ee;cases rb <;> first |(exact bW ee) | skip
   rename_i j;obtain⟨p,e1,e2⟩:=gM ee;cases e2;obtain⟨vs,e3,l⟩:=x;have T:dh ρ H ρ (upd H a (.lst (vs.set p v))):=dh.wrote S ma;exact set_list pins s σ H _ _ v ov iv u Q I ro ri rv ⟨a,vs,j,p,rfl,rfl,e3,by rw[l.length];exact e1,k ρ _ T (S.wrote hn ⟨_,aO,(l.set rc p).mono T.toCh⟩)⟩
  | dct kvs=>
   dsimp only at ee;obtain⟨ky,e1,e2⟩:=bB ee
   by_cases z:kvs.length < sizeLine
   ·rw[Qf z] at e2;cases e2;obtain⟨us,e3,l⟩:=x;have ek:=j5 rb e1;subst ek;obtain rfl:ov=Value.ref a:=ro;have T:dh ρ H ρ (upd H a (.dK (putK us ky v))):=dh.wrote S ma;exact BY (by lia) I (Hr.k e3 (by rw[l.length];exact z)) ri rv λs' I'=>⟨_,I',k ρ _ T (S.wrote hn ⟨_,aO,(l.put rc).mono T.toCh⟩)⟩
   ·rw[Qo z] at e2;cases e2
  | dcH _=>exact bW ee
  | exc _=>exact bW ee
theorem jg (hu:X.A.units+64 < cLine) (ho:SE X o mo) (hi:SE X i mi) (ha:∀v,assign (.Subscript o i pos) X.env v=(do
   let ov<-holding [v] (eval o X.env);let iv<-holding [v,ov] (eval i X.env)
   standAt pos
   holding [v,ov,iv] (setItem ov iv v)
   release [v,ov,iv] []):=by intro _;ac_nf):SG X (.Subscript o i pos) (pU mo mi):=
 (Js ho hi (Gj hu) ha).imp λv σ H Q ⟨ρ,δ,h,d,δ',h',R,S,r,e,k⟩=>by
  obtain⟨⟨x,h1⟩,e1,e2⟩:=bB e;obtain⟨⟨y,h2⟩,e3,e4⟩:=bB e2;obtain⟨h3,e5,e6⟩:=gM e4;cases e6;exact⟨ρ,δ,h,x,h1,R,S,e1,λov H1 ⟨ρ1,T1,S1,r1⟩=>⟨ρ1,δ,h1,y,h2,R.mono T1,S1,e3,λiv H2 ⟨ρ2,T2,S2,r2⟩=>
   ⟨ρ2,h2,x,y,d,_,S2,r1.mono T2,r2,r.mono (T1.trans T2).toCh,e5,λρ3 H3 T3 S3=>k ρ3 H3 σ (T1.trans (T2.trans T3)) S3 (R.mono (T1.trans (T2.trans T3)).toCh)⟩⟩⟩
abbrev AX:=D->List D->MH->Option (D×MH)
inductive PD(K:FR)(f:AX)(x:V)(vs:List V)(H:Hp)(Q:VK):Prop where
 | mk (ρ h d ds z h'):bN K ρ h H->Rep K ρ H x d->aD K ρ H vs ds->(f d ds h=some (z,h'))->(∀v H',du K ρ H h' z v H'->Q v H')->PD K f x vs H Q
def rM(K:FR)(f:AX):V->List V->Hp->VK->Prop:=λx vs H Q=>PD K f x vs H Q
noncomputable def eM(isT:D->MH->Bool)(f:AX)(o:EM)(m:AM):EM:=λδ h=>(o δ h).bind λp=>if isT p.1 p.2 then(m δ p.2).bind λq=>f p.1 q.1 q.2 else none
noncomputable def cV(d:D)(h:MH):Bool:=(dR d h).isSome
noncomputable def Ey(d:D)(h:MH):Bool:=(dS d h).isSome
noncomputable def dC:AX:=λd ds h=>match d,ds with
 | .ob n,[y]=>match h[n]? with
  | some (.lst xs)=>if xs.length < sizeLine then some (.cu,h.set n (.lst (xs++[y]))) else none
  | _=>none
 | _,_=>none
noncomputable def jV:AX:=λd ds h=>match d,ds with
 | .ob n,[y]=>match h[n]? with
  | some (.lst xs)=>(dR y h).bind λzs=>if xs.length+zs.length<=sizeLine then some (.cu,h.set n (.lst (xs++zs))) else none
  | _=>none
 | _,_=>none
noncomputable def El:AX:=λd ds h=>match d,ds with
 | .ob n,[]=>match h[n]? with
  | some (.lst xs)=>(xs[xs.length-1]?).map λy=>(y,h.set n (.lst xs.dropLast))
  | _=>none
 | _,_=>none
theorem iE{K:FR}{ρ:Ad}{H:Hp}{h:MH}{v:V}{d:D}(S:bN K ρ h H)(r:Rep K ρ H v d)(e:cV d h=true):Hu K "list" v H:=by
 obtain⟨xs,e1⟩:=RP.mp e;obtain⟨a,vs,rfl,ha,_⟩:=eB S r e1;exact .inl ⟨rfl,vs,gZ.of ha⟩
theorem Iz{K:FR}{ρ:Ad}{H:Hp}{h:MH}{v:V}{d:D}(S:bN K ρ h H)(r:Rep K ρ H v d)(e:Ey d h=true):Hu K "dict" v H:=by
 obtain⟨xs,e1⟩:=RP.mp e;obtain⟨a,vs,rfl,ha,_⟩:=iU S r e1;exact .inr (.inr (.inl ⟨rfl,.inl ⟨vs,ha⟩⟩))
theorem kP{T id:String}{name:Str}{o e:Expr}{es:List Expr}{apos cpos:Pos}{f:AX}{mo:EM}{m:AM}{isT:D->MH->Bool}(hT:∀{K:FR} {ρ:Ad} {H:Hp} {h:MH} {v:V} {d:D},bN K ρ h H->Rep K ρ H v d->isT d h=true->Hu K T v H)
  (pa:PlainAttrs T) (slot:Slot T name id) (hty:typeOf (.builtin id)=pure (.type "method_descriptor")) (hm:AW X id (rM X.K f)) (ho:SE X o mo) (ha:SA X (e::es) m)
  (hbase:attributeBase o name X.env (eval o X.env)=eval o X.env:=by ac_nf)
  (hfew:((backTo cpos (starEach (e::es) X.env)).all (λx=>!x.1)&&(backToKw cpos (keywordEach [] X.env)).all (λx=>x.1.isSome)
   &&decide ((e::es).length+([]:List Keyword).length+(if([]:List Keyword).isEmpty then 0 else 1) < 30))=true:=by ac_nf)
  (hline:(apos.endLine==cpos.line)=true:=by ac_nf) (hs:starEach (e::es) X.env=(false,eval e X.env)::starEach es X.env:=by ac_nf) (hplain:(backTo cpos (starEach es X.env)).any (·.1)=false:=by ac_nf):
  SE X (.Call (.Attribute o name apos) (e::es) [] cpos) (eM isT f mo m):=(Mo pa slot hty hm ho ha hbase hfew hline hs hplain).imp λσ H Q ⟨ρ,δ,h,d,h',R,S,e,k⟩=>by
 obtain⟨⟨x,h1⟩,e1,e2⟩:=bB e;dsimp only at e2
 by_cases c:isT x h1=true
 ·rw[Qf c] at e2;obtain⟨⟨ds,h2⟩,e3,e4⟩:=bB e2;exact⟨ρ,δ,h,x,h1,R,S,e1,λv H1 ⟨ρ1,T1,S1,r1⟩=>⟨hT S1 r1 c,ρ1,δ,h1,ds,h2,R.mono T1,S1,e3,λvs ρ2 H2 T2 S2 r2=>⟨ρ2,h2,x,ds,d,h',S2,r1.mono T2,r2,e4,λw H3 p=>k w H3 (p.step (T1.trans T2))⟩⟩⟩
 ·rw[Qo c] at e2;cases e2
theorem LY{T id:String}{name:Str}{o:Expr}{apos cpos:Pos}{f:AX}{mo:EM}{isT:D->MH->Bool}(hT:∀{K:FR} {ρ:Ad} {H:Hp} {h:MH} {v:V} {d:D},bN K ρ h H->Rep K ρ H v d->isT d h=true->Hu K T v H)
  (pa:PlainAttrs T) (slot:Slot T name id) (hty:typeOf (.builtin id)=pure (.type "method_descriptor")) (hm:AW X id (rM X.K f)) (ho:SE X o mo)
  (hbase:attributeBase o name X.env (eval o X.env)=eval o X.env:=by ac_nf) (hline:(apos.endLine==cpos.line)=true:=by ac_nf):
  SE X (.Call (.Attribute o name apos) [] [] cpos) (eM isT f mo aM):=(JA pa slot hty hm ho hbase hline).imp λσ H Q ⟨ρ,δ,h,d,h',R,S,e,k⟩=>by
 obtain⟨⟨x,h1⟩,e1,e2⟩:=bB e;dsimp only at e2
 by_cases c:isT x h1=true
 ·rw[Qf c] at e2;exact⟨ρ,δ,h,x,h1,R,S,e1,λv H1 ⟨ρ1,T1,S1,r1⟩=>⟨hT S1 r1 c,ρ1,h1,x,[],d,h',S1,r1,.nil,e2,λw H3 p=>k w H3 (p.step T1)⟩⟩
 ·rw[Qo c] at e2;cases e2
theorem zi{K:FR}{ρ:Ad}{H:Hp}{h:MH}{n:Nat}{xs:List D}{v:V}(S:bN K ρ h H)(r:Rep K ρ H v (.ob n))(q:h[n]?=some (.lst xs)):∃a vs,v=.ref a/\ρ.ob[n]?=some a/\H a=some (.lst vs)/\aD K ρ H vs xs:=by
 cases r with
 | ob hn=>obtain⟨vs,e,l⟩:=S.at_ n _ _ hn q;exact⟨_,vs,rfl,hn,e,l⟩
theorem jU:AW X "list.append" (rM X.K dC):=by
 intro pins s σ H x xs v us Q I rx rs hh;obtain⟨ρ,h,d,ds,z,h',S,rd,l,ee,k⟩:=hh;cases d <;> first |(exact bW ee) | skip
 rename_i n
 match ds,l,ee with
 | [],_,ee=>exact bW ee
 | _::_::_,_,ee=>exact bW ee
 | [y],l,ee=>
  unfold dC at ee;dsimp only at ee;cases q:h[n]? with
  | none=>rw[q] at ee;cases ee
  | some w=>
   rw[q] at ee;cases w with
   | dct _=>exact bW ee
   | dcH _=>exact bW ee
   | exc _=>exact bW ee
   | lst ys=>
    dsimp only at ee
    by_cases c:ys.length < sizeLine
    ·rw[Qf c] at ee;cases ee;obtain⟨a,vs,rfl,hn,e1,l1⟩:=zi S rd q;obtain⟨u,rfl,ru⟩:=rep1 l;have T:dh ρ H ρ (upd H a (.lst (vs++[u]))):=dh.wrote S (Qd hn);exact uw pins s σ H _ _ v us Q I rx rs ⟨a,vs,u,rfl,rfl,e1,by rw[l1.length];exact c,k _ _ ⟨ρ,T,S.wrote hn ⟨_,aO,(l1.snoc ru).mono T.toCh⟩,.cu⟩⟩
    ·rw[Qo c] at ee;cases ee
theorem ux:AW X "list.extend" (rM X.K jV):=by
 intro pins s σ H x xs v us Q I rx rs hh;obtain⟨ρ,h,d,ds,z,h',S,rd,l,ee,k⟩:=hh;cases d <;> first |(exact bW ee) | skip
 rename_i n
 match ds,l,ee with
 | [],_,ee=>exact bW ee
 | _::_::_,_,ee=>exact bW ee
 | [y],l,ee=>
  unfold jV at ee;dsimp only at ee;cases q:h[n]? with
  | none=>rw[q] at ee;cases ee
  | some w=>
   rw[q] at ee;cases w with
   | dct _=>exact bW ee
   | dcH _=>exact bW ee
   | exc _=>exact bW ee
   | lst ys=>
    dsimp only at ee;obtain⟨zs,e2,e3⟩:=bB ee
    by_cases c:ys.length+zs.length<=sizeLine
    ·rw[Qf c] at e3;cases e3;obtain⟨a,vs,rfl,hn,e1,l1⟩:=zi S rd q;obtain⟨u,rfl,ru⟩:=rep1 l;obtain⟨b,ws,rfl,eb,l2⟩:=eB S ru e2;have T:dh ρ H ρ (upd H a (.lst (vs++ws))):=dh.wrote S (Qd hn);exact BC pins s σ H _ _ v us Q I rx rs ⟨a,b,vs,ws,rfl,rfl,e1,eb,by rw[l1.length,l2.length];exact c,k _ _ ⟨ρ,T,S.wrote hn ⟨_,aO,(l1.append l2).mono T.toCh⟩,.cu⟩⟩
    ·rw[Qo c] at e3;cases e3
theorem JX:AW X "list.pop" (rM X.K El):=by
 intro pins s σ H x xs v us Q I rx rs hh;obtain⟨ρ,h,d,ds,z,h',S,rd,l,ee,k⟩:=hh;cases d <;> first |(exact bW ee) | skip
 rename_i n
 match ds,l,ee with
 | _::_,_,ee=>exact bW ee
 | [],l,ee=>
  unfold El at ee;dsimp only at ee;cases q:h[n]? with
  | none=>rw[q] at ee;cases ee
  | some w=>
   rw[q] at ee;cases w with
   | dct _=>exact bW ee
   | dcH _=>exact bW ee
   | exc _=>exact bW ee
   | lst ys=>
    dsimp only at ee;obtain⟨y,e2,e3⟩:=gM ee;cases e3;obtain⟨a,vs,rfl,hn,e1,l1⟩:=zi S rd q;cases l;obtain⟨u,e4,r4⟩:=l1.got e2;have T:dh ρ H ρ (upd H a (.lst vs.dropLast)):=dh.wrote S (Qd hn);exact JU pins s σ H _ _ v us Q I rx rs ⟨a,vs,u,rfl,rfl,e1,by rw[l1.length];exact e4,k _ _ ⟨ρ,T,S.wrote hn ⟨_,aO,l1.dropLast.mono T.toCh⟩,r4.mono T.toCh⟩⟩
end Sm
namespace Sb
open PySem L2 PySem.Spec PyProof.Rows
open Builtin.SmallTypes (nextOf ownedTupleIsFree ownedTupleHandOut)
noncomputable def kn:Bool->String
 | true=>"list_iterator"
 | false=>"tuple_iterator"
def At(b:Bool)(h:Heap)(j l:Addr)(i:Nat):Prop:=∃o,h.get? j=some o/\o.cls=.type (kn b)/\o.data=.fields #[.ref l,.int i 0]
def Of(b:Bool)(h:Heap)(l:Addr)(items:Array Value):Prop:=match b with
 | true=>h.IsList l items
 | false=>h.IsTuple l items
theorem At.up(x:At b h j l i)(k:∀o,h.get? j=some o->h'.get? j=some o):At b h' j l i:=let⟨o,e,r⟩:=x;⟨o,k o e,r⟩
theorem At.lt(x:At b h j l i):j < h.objs.size:=let⟨_,e,_⟩:=x;Qz e
theorem My(hj:At b s.heap j l i)(hl:Of b s.heap l items)(hx:items[i]?=some x)(k:∀h',At b h' j l (i+1)->Heap.SameBut j s.heap h'->Q x {s with heap:=h'}):wpAny (model P w) A (nextOf (.ref j)) Q E s:=by
 cases b with
 | true=>exact wpAny_nextOf_list_item (show s.heap.IsListIter j l i from hj) (show s.heap.IsList l items from hl) hx k
 | false=>
  have hj':s.heap.IsTupleIter j l i:=hj;obtain⟨o,eo,ec,ed⟩:=hj';obtain⟨ol,el,_,nl,edl⟩:=(show s.heap.IsTuple l items from hl);unfold nextOf;refine Qe (Ry (name:=Str.ofString "__next__") (show s.TypeIs (.ref j) "tuple_iterator" from⟨o,eo,ec⟩) Su
   (R7 Su (show s.TypeIs (.ref j) "tuple_iterator" from⟨o,eo,ec⟩) UT ?_ (UO _)))
  show wpAny _ _ (field (.ref j) 0 >>=_) _ _ s;refine Qe (Rm eo ed (x:=.ref l) rfl ?_);show wpAny _ _ (if(Value.ref l==Value.none)=true then _ else _) _ _ s;rw[Qo (show ¬((Value.ref l==Value.none)=true) by exact R6)];show wpAny _ _ (field (.ref j) 1 >>=_) _ _ s;refine Qe (Rm eo ed (x:=.int i 0) rfl ?_);show wpAny _ _ (seqItems? (.ref l) >>=_) _ _ s;refine Qe (wpAny_seqItems el edl ?_);simp only[SN,hx];refine Qe (wpAny_setField eo ed (by simp) (QC ⟨x,rfl,QC (k _ ?_ (Heap.SameBut.update ..))⟩));exact⟨_,Heap.get?_update_self _ eo (Obj.isFreed_of_fields (Obj.data_mapFields ed _)),(Obj.cls_mapFields ..).trans ec,by rw[Obj.data_mapFields ed];simp[rawInt]⟩
theorem Mz(hh:A.handled=none)(hj:At b s.heap j l i)(hl:Of b s.heap l items)(hx:items[i]?=none)(k:∀h' e,Heap.ExtBut j s.heap h'->(∃o,h'.get? e=some o/\o.cls=.type "StopIteration")->E (.ref e) {s with heap:=h'}):wpAny (model P w) A (nextOf (.ref j)) Q E s:=by
 cases b with
 | true=>exact wpAny_nextOf_list_end hh (show s.heap.IsListIter j l i from hj) (show s.heap.IsList l items from hl) hx k
 | false=>
  have hj':s.heap.IsTupleIter j l i:=hj;obtain⟨o,eo,ec,ed⟩:=hj';obtain⟨ol,el,_,nl,edl⟩:=(show s.heap.IsTuple l items from hl);unfold nextOf;refine Qe (Ry (name:=Str.ofString "__next__") (show s.TypeIs (.ref j) "tuple_iterator" from⟨o,eo,ec⟩) Su
   (R7 Su (show s.TypeIs (.ref j) "tuple_iterator" from⟨o,eo,ec⟩) UT ?_ (UO _)))
  show wpAny _ _ (field (.ref j) 0 >>=_) _ _ s;refine Qe (Rm eo ed (x:=.ref l) rfl ?_);show wpAny _ _ (if(Value.ref l==Value.none)=true then _ else _) _ _ s;rw[Qo (show ¬((Value.ref l==Value.none)=true) by exact R6)];show wpAny _ _ (field (.ref j) 1 >>=_) _ _ s;refine Qe (Rm eo ed (x:=.int i 0) rfl ?_);show wpAny _ _ (seqItems? (.ref l) >>=_) _ _ s;refine Qe (wpAny_seqItems el edl ?_);simp only[SN,hx];refine Qe (Ul (Qe (wpAny_setField eo ed (by simp) ?_)));show wpAny _ _ (newExc (.type "StopIteration") [] >>=_) _ _ _;refine Qe ?_;simp only[newExc,newTuple];refine Qe (Rx ?_ (by size_fits));refine Qe (m:=firstArgMember _ _) (wpAny_of_eq (a:=Value.none) (by first |(simp only[firstArgMember];rfl) | rfl) ?_);refine Rx ?_ (by size_fits);simp only[raiseNew];refine Qe (wpAny_handled ?_)
  first | rw[hh] | rw[show A.in1.handled=none from hh]
  refine Qe (QC (wpAny_throw (k _ _ (((Heap.SameBut.update ..).extBut.push _).push _) ⟨_,QI _ rfl,rfl⟩)))
open Builtin.SmallTypes (nextOf ownedTupleIsFree ownedTupleHandOut)
variable {P:Program} {w:World} {A:Around} {E:Value->Shared->Prop} {s:Shared} {b c:Bool}
theorem BW{e j l:Addr}{i:Nat}{items:Array Value}{x old:Value}{Q:Option Value->Shared->Prop}(hE:IsEnum s.heap e j i old)(hj:At b s.heap j l i)(hl:Of b s.heap l items)(hx:items[i]?=some x)(ne:e≠j)
  (k:∀h',IsEnumOut h' e j ((i:Int)+1) x s.heap.objs.size->At b h' j l (i+1)->h'.get? s.heap.objs.size=some {cls:=.type "tuple",data:=.seq #[.int i s.toks,x]}->h'.objs.size=s.heap.objs.size+1->
   (∀a o,a≠e->a≠j->s.heap.get? a=some o->h'.get? a=some o)->Q (some (.ref s.heap.objs.size)) {s with heap:=h',toks:=s.toks+1}):wpAny (model P w) A (pyNext (.ref e)) Q E s:=by
 have hT:s.TypeIs (.ref e) "enumerate":=⟨_,hE,rfl⟩;unfold pyNext;refine Qe (Uk (Ry (name:=Str.ofString "__next__") hT Sj (R7 Sj hT F.entry_enumerate_next ?_ (Vd _))));obtain⟨hp,g,d,tk,os⟩:=s;show wpAny _ _ (field (.ref e) 2 >>=_) _ _ _;refine Qe (Rm hE rfl (x:=.ref j) rfl (Qe (My hj hl hx λk₁ j₁ t₁=>?_)));replace t₁:Heap.SameBut j hp k₁:=t₁;have E₁:IsEnum k₁ e j i old:=(t₁.2 e ne).trans hE;show wpAny _ _ (field (.ref e) 3 >>=_) _ _ ⟨k₁,g,d,tk,os⟩;refine Qe (Rm E₁ rfl (x:=rawInt i) rfl ?_);show wpAny _ _ (field (.ref e) 4 >>=_) _ _ ⟨k₁,g,d,tk,os⟩;refine Qe (Rm E₁ rfl (x:=.none) rfl ?_);show wpAny _ _ (mkInt i >>=_) _ _ ⟨k₁,g,d,tk,os⟩;refine Qe (wpAny_mkInt ?_);show wpAny _ _ (setField (.ref e) 3 (rawInt ((i:Int)+1)) >>=_) _ _ ⟨k₁,g,d,tk+1,os⟩;refine Qe (wpAny_setField_rec E₁ (by simp) λk₂ E₂ t₂=>?_);replace t₂:Heap.SameBut e k₁ k₂:=t₂;replace E₂:IsEnum k₂ e j ((i:Int)+1) old:=E₂;show wpAny _ _ (setField (.ref e) 4 .none >>=_) _ _ ⟨k₂,g,d,tk+1,os⟩;refine Qe (wpAny_setField_rec E₂ (by simp) λk₃ E₃ t₃=>?_);replace t₃:Heap.SameBut e k₂ k₃:=t₃;replace E₃:IsEnum k₃ e j ((i:Int)+1) old:=E₃;show wpAny _ _ (newTuple [.int i tk,x] >>=_) _ _ ⟨k₃,g,d,tk+1,os⟩;refine Qe (wpAny_newTuple ?_);have E₄:IsEnum (k₃.push {cls:=.type "tuple",data:=.seq #[.int i tk,x]}) e j ((i:Int)+1) old:=Qm _ E₃;generalize eq₄:k₃.push {cls:=.type "tuple",data:=.seq #[.int i tk,x]}=k₄ at E₄;have sz:k₃.objs.size=hp.objs.size:=by rw[t₃.1,t₂.1,t₁.1]
 have lte:e < hp.objs.size:=Qz hE;have tp:k₄.get? hp.objs.size=some {cls:=.type "tuple",data:=.seq #[.int i tk,x]}:=by rw[<-eq₄,<-sz];exact QI _ rfl
 have sz₄:k₄.objs.size=hp.objs.size+1:=by rw[<-eq₄,Ua,sz]
 have up₄:∀a o,a≠e->a≠j->hp.get? a=some o->k₄.get? a=some o:=λa o z1 z2 q=>by
  rw[<-eq₄];exact Qm _ (t₃.extBut a o z1 (t₂.extBut a o z1 (t₁.extBut a o z2 q)))
 have j₄:At b k₄ j l (i+1):=j₁.up λo q=>by rw[<-eq₄];exact Qm _ (t₃.extBut j o (RM ne) (t₂.extBut j o (RM ne) q))
 show wpAny _ _ (ownedTupleIsFree (.ref e) >>=_) _ _ ⟨k₄,g,d,tk+1,os⟩;rw[sz];clear eq₄ E₃ t₃ E₂ t₂ E₁ t₁ j₁ sz k₃ k₂ k₁;refine Qe ?_;unfold ownedTupleIsFree;refine Qe (Rm E₄ rfl (x:=.none) rfl (QC ?_));simp only[Tj];refine Qe (Ul (Qe (Rm E₄ rfl (x:=old) rfl (Qe (wpAny_setField_rec E₄ (by simp) λk₅ E₅ t₅=>?_)))));replace t₅:Heap.SameBut e k₄ k₅:=t₅;replace E₅:IsEnum k₅ e j ((i:Int)+1) x:=E₅;show wpAny _ _ (ownedTupleHandOut (.ref e) (.ref hp.objs.size) >>=_) _ _ ⟨k₅,g,d,tk+1,os⟩;refine Qe ?_;unfold ownedTupleHandOut;refine Qe (wpAny_setField_rec E₅ (by simp) λk₆ E₆ t₆=>?_);replace t₆:Heap.SameBut e k₅ k₆:=t₆;replace E₆:IsEnumOut k₆ e j ((i:Int)+1) x hp.objs.size:=E₆;refine wpAny_setField_rec E₆ (by simp) λk₇ E₇ t₇=>?_;replace t₇:Heap.SameBut e k₆ k₇:=t₇;replace E₇:IsEnumOut k₇ e j ((i:Int)+1) x hp.objs.size:=E₇;have up:∀a o,a≠e->k₄.get? a=some o->k₇.get? a=some o:=λa o z q=>t₇.extBut a o z (t₆.extBut a o z (t₅.extBut a o z q));refine Qe (wpAny_letGo (QC ⟨_,rfl,QC (k k₇ E₇ (j₄.up λo q=>up j o (RM ne) q) (up _ _ (Tv lte) tp) ?_ λa o z1 z2 q=>up a o z1 (up₄ a o z1 z2 q))⟩));rw[t₇.1,t₆.1,t₅.1,sz₄]
theorem ER{e j l:Addr}{i:Nat}{items:Array Value}{old:Value}{Q:Option Value->Shared->Prop}(hh:A.handled=none)(hE:IsEnum s.heap e j i old)(hj:At b s.heap j l i)(hl:Of b s.heap l items)(hx:items[i]?=none)
  (k:∀h',Heap.ExtBut j s.heap h'->Q none {s with heap:=h'}):wpAny (model P w) A (pyNext (.ref e)) Q E s:=by
 have hT:s.TypeIs (.ref e) "enumerate":=⟨_,hE,rfl⟩;unfold pyNext;refine Qe (Uk (Ry (name:=Str.ofString "__next__") hT Sj (R7 Sj hT F.entry_enumerate_next ?_ (Vd _))));show wpAny _ _ (field (.ref e) 2 >>=_) _ _ _;refine Qe (Rm hE rfl (x:=.ref j) rfl (Qe (Mz hh hj hl hx λh' y he' ⟨o,ho,hc⟩=>?_)));exact Qe (wpAny_isInstance (T:="StopIteration") (b:=true) ⟨o,ho,hc⟩ isSubtype_stop (QC (k _ he')))
theorem BV(x:Of b s.heap l items)(k:∀h',IsEnum h' (s.heap.objs.size+1) s.heap.objs.size 0 .none->At b h' s.heap.objs.size l 0->h'.objs.size=s.heap.objs.size+2->(∀a o,s.heap.get? a=some o->h'.get? a=some o)->Q (.ref (s.heap.objs.size+1)) {s with heap:=h'}):
  wpAny (model P w) A (call (.type "enumerate") [.ref l]) Q E s:=by
 cases b with
 | true=>exact call_enumerate_list (show s.heap.IsList l items from x) k
 | false=>
  have mt:PySem.Meets (Builtin.«enumerate.__new__» ⟨[.type "enumerate",.ref l],[]⟩) (λ_ R s=>s.heap.IsTuple l items/\
    R (.ok (.ret (.ref (s.heap.push {cls:=.type "tuple_iterator",data:=.fields #[.ref l,.int 0 0]}).objs.size)))
     {s with heap:=(s.heap.push {cls:=.type "tuple_iterator",data:=.fields #[.ref l,.int 0 0]}).push {cls:=.type "enumerate",data:=.fields #[.none,.bool false,.ref s.heap.objs.size,rawInt 0,.none,.none]}}):=
   .of_wp λprog w A R s h=>by
    obtain⟨hp,g,d,tk,os⟩:=s;obtain⟨hl,h⟩:=h;have sub:=sub_enumerate;have hL:Heap.IsTuple (Shared.heap ⟨hp,g,d,tk,os⟩) l items:=hl;obtain⟨o0,e0,c0,n0,d0⟩:=id hL
    wp_walk
    refine wpAny_stack_any λst=>QC ?_
    split
    ·rename_i c _ _ _ _ _;cases(c==Value.type "enumerate")
     ·wp_walk using Tr hL
      exact⟨_,rfl,h⟩
     ·wp_walk using Tr hL
      exact⟨_,rfl,h⟩
    ·wp_walk using Tr hL
     exact⟨_,rfl,h⟩
  refine callType_new F.called_enumerate (by decide) (F.typeCall_enumerate_1 _) (F.newCall_enumerate_1 _) (λobj=>F.args_object_init_2 obj _) F.entry_enumerate_new mt ⟨x,?_⟩;have z1:(s.heap.push {cls:=.type "tuple_iterator",data:=.fields #[.ref l,.int 0 0]}).objs.size=s.heap.objs.size+1:=Ua ..;show _/\_;rw[z1];have eE:IsEnum ((s.heap.push {cls:=.type "tuple_iterator",data:=.fields #[.ref l,.int 0 0]}).push
    {cls:=.type "enumerate",data:=.fields #[.none,.bool false,.ref s.heap.objs.size,rawInt 0,.none,.none]}) (s.heap.objs.size+1) s.heap.objs.size 0 .none:=by
   have q:=QI (s.heap.push {cls:=.type "tuple_iterator",data:=.fields #[.ref l,.int 0 0]}) (o:={cls:=.type "enumerate",data:=.fields #[.none,.bool false,.ref s.heap.objs.size,rawInt 0,.none,.none]}) rfl;rw[z1] at q;exact q
  refine⟨⟨_,eE,rfl⟩,k _ eE ⟨_,Qm _ (QI _ rfl),rfl,rfl⟩ (by rw[Ua,z1]) λa o q=>Qm _ (Qm _ q)⟩
end Sb
namespace Sb
open PySem L2 PySem.Spec PyProof.Rows
open Builtin.SmallTypes (nextOf ownedTupleIsFree ownedTupleHandOut)
section
variable {X:Cx} {pins:List (Addr×Obj)} {σ:L2.St} {H:Hp} {s:Shared} {h':Heap} {fp:List Addr}
theorem zS(I:L2.Inv X pins σ H s)(k:∀b o,b∉fp->s.heap.get? b=some o->h'.get? b=some o)(hf:∀b∈fp,kj X pins H b):L2.Inv X pins σ H {s with heap:=h',toks:=t'}:=by
 have nit:∀b u,H b=some u->b∉fp:=λb u e z=>by rw[(hf b z).1] at e;cases e
 have nL:X.env.locals∉fp:=λz=>(hf _ z).2.1 rfl;refine I.step (g':=s.gens) (d':=s.drawn) (ch:=fp) (λb hb=>?_) (λb o _ _ hc e _=>k b o hc e) (λb o _ _ hc e _=>⟨o.slots,k b o hc e⟩) (λ_ _ _ _ n=>n)
  (λb o hc e=>⟨o,k b o hc e⟩) (λ_ _ e=>e) (λ_ _ _ e=>e) (λb ps e=>⟨#[],by rw[e];simp⟩) (λm hm=>?_) (λb u e=>?_) I.bare
 ·obtain⟨f0,f1,f2,f3,f4,f5⟩:=hf b hb;exact⟨f3,f1,f4,f5⟩
 ·obtain⟨o,es,ep,ho,r⟩:=hm;exact⟨o,es,ep,k _ o nL ho,r⟩
 ·refine(I.a8 b u e).nJ (λc v hc q=>k c v ?_ q) (λ_ q=>q) λ_ _ q=>q;rcases hc with z | z
  ·rw[z];exact nit b u e
  ·exact nit c _ z
theorem FH(I:L2.Inv X pins σ H s)(k:∀b o,b∉fp->s.heap.get? b=some o->h'.get? b=some o)(hf:∀b∈fp,kj X pins H b)(hlt:∀b∈fp,b < s.heap.objs.size)(ht:h'.get? s.heap.objs.size=some {cls:=.type "tuple",data:=.seq us.toArray n})(r:Vals vs us)(hz:vs.length<=sizeLine):L2.Inv X pins σ (upd H s.heap.objs.size (.tup vs)) {s with heap:=h',toks:=t'}:=by
 have nit:∀b u,H b=some u->b∉fp:=λb u e z=>by rw[(hf b z).1] at e;cases e
 have nL:X.env.locals∉fp:=λz=>(hf _ z).2.1 rfl;have hp:H s.heap.objs.size=none:=I.a8.fresh (Qg _);have np:∀b o,s.heap.get? b=some o->b≠s.heap.objs.size:=λb o e=>QJ (Qz e);have nH:∀b u,H b=some u->b≠s.heap.objs.size:=λb u e=>aH e hp;refine I.step (g':=s.gens) (d':=s.drawn) (ch:=fp) (λb hb=>?_) (λb o _ _ hc e _=>k b o hc e) (λb o _ _ hc e _=>⟨o.slots,k b o hc e⟩) (λb o _ e n=>by rw[av (np b o e)];exact n)
  (λb o hc e=>⟨o,k b o hc e⟩) (λb _ e=>by rw[av (nH b _ e)];exact e) (λb _ _ e=>by rw[av (nH b _ e)];exact e) (λb ps e=>⟨#[],by rw[av (nH b _ e),e];simp⟩) (λm hm=>?_) (λb u e=>?_) I.bare
 ·obtain⟨f0,f1,f2,f3,f4,f5⟩:=hf b hb;exact⟨f3,f1,f4,f5⟩
 ·obtain⟨o,es,ep,ho,q⟩:=hm;exact⟨o,es,ep,k _ o nL ho,q⟩
 ·by_cases z:b=s.heap.objs.size
  ·subst z;rw[aO] at e;cases e;exact⟨hz,us,r,⟨_,ht,rfl,⟨n,rfl⟩,rfl⟩⟩
  ·rw[av z] at e;refine(I.a8 b u e).nJ (λc v hc q=>k c v ?_ q) (λc q=>?_) (λc u q=>?_) λc u q=>?_
   ·rcases hc with y | y
    ·rw[y];exact nit b u e
    ·exact nit c _ y
   ·rw[av (nH _ _ q)];exact q
   ·rw[av (nH _ _ q)];exact q
   ·rw[av (nH _ _ q)];exact q
end
def FD(b:Bool)(K:FR)(H:Hp)(l:Addr)(xs:List V):Prop:=match b with
 | true=>gZ K H l xs
 | false=>kJ K H l xs
theorem FD.of(I:L2.Inv X pins σ H s)(q:FD b X.K H l xs):∃its:List Value,Vals xs its/\Of b s.heap l its.toArray:=by
 cases b with
 | true=>obtain⟨its,r,p,_⟩:=I.list (show gZ X.K H l xs from q);exact⟨its,r,p.isList⟩
 | false=>obtain⟨its,r,p,_⟩:=I.tuple (show kJ X.K H l xs from q);exact⟨its,r,p⟩
theorem FD.inj(I:L2.Inv X pins σ H s)(q:FD b X.K H l xs)(q':FD b X.K H l ys):xs=ys:=by
 cases b with
 | true=>exact I.xS q q'
 | false=>exact I.tY q q'
noncomputable def PK(b:Bool)(K:FR)(l:Addr):It:=
 ⟨λi H=>∃xs x,FD b K H l xs/\xs[i]?=some x,λi H x H'=>∃p y,H p=none/\x=.ref p/\H'=upd H p (.tup [.int (i:Int),y])/\∀xs,FD b K H l xs->xs[i]?=some y,λi H=>∃xs,FD b K H l xs/\xs.length<=i⟩
theorem Bc{P:Program}{w:World}{K:FR}{es:List Expr}{k0:Nat}{pos:Pos}(b:Bool)(l e j:Addr)(ne:e≠j):Turn P w K (.Tuple es k0 pos) (PK b K l) [e,j] e (λi h=>(∃old,IsEnum h e j i old)/\At b h j l i) where
 mem:=by simp
 obj:=λi h st a ha=>by
  obtain⟨⟨old,h1⟩,o,h2,_,d2⟩:=st;simp at ha;rcases ha with rfl | rfl
  ·exact⟨_,h1,λv z=>by cases z⟩
  ·exact⟨o,h2,λv z=>by rw[d2] at z;cases z⟩
 keep:=λi h h' ⟨⟨old,h1⟩,h2⟩ k=>⟨⟨old,k e (by simp) _ h1⟩,h2.up λo q=>k j (by simp) o q⟩
 item:=by
  intro X hP hw hK hc i pins s σ H E I hf st hg;subst hP hw hK;obtain⟨xs,x,hq,hx⟩:=hg;obtain⟨⟨old,h1⟩,h2⟩:=st;obtain⟨its,rv,hO⟩:=hq.of I;obtain⟨u,hu,ru⟩:=rv.get hx;have hlt:∀a∈[e,j],a < s.heap.objs.size:=λa ha=>by
   simp at ha;rcases ha with rfl | rfl
   ·exact Qz h1
   ·exact h2.lt
  refine BW h1 h2 hO (x:=u) (by simpa using hu) ne λh' a1 a2 a3 a4 a5=>⟨_,rfl,wpAny_letOwnedTupleGo_enum a1 λh'' b1 b2=>?_⟩;have hp:H s.heap.objs.size=none:=I.a8.fresh (Qg _);have I1:=FH (t':=s.toks+1) (vs:=[.int (i:Int),x]) (us:=[.int i s.toks,u]) (n:=0) I (λa o ha q=>a5 a o (λz=>ha (by simp[z])) (λz=>ha (by simp[z])) q) hf hlt a3 (.cons ⟨_,rfl⟩ (.cons ru .nil)) (show 2<=sizeLine by decide);have hf1:∀a∈[e,j],kj X pins (upd H s.heap.objs.size (.tup [.int (i:Int),x])) a:=λa ha=>by
   obtain⟨f0,f⟩:=hf a ha;exact⟨by rw[av (QJ (hlt a ha))];exact f0,f⟩
  have I2:=zS (t':=s.toks+1) I1 (h':=h'') (λa o ha q=>b2.extBut a o (λz=>ha (by simp[z])) q) hf1;exact⟨.ref s.heap.objs.size,_,I2,rfl,⟨_,x,hp,rfl,rfl,λys hy=>by rw[hy.inj I hq];exact hx⟩,⟨⟨_,by simpa using b1⟩,a2.up λo q=>b2.extBut j o (RM ne) q⟩,λa ha=>(hf1 a ha).1⟩
 done:=by
  intro X hP hw hK hc i pins s σ H E I hf st hg;subst hP hw hK;obtain⟨xs,hq,hx⟩:=hg;obtain⟨⟨old,h1⟩,h2⟩:=st;obtain⟨its,rv,hO⟩:=hq.of I;have hl:=rv.length;exact ER (I.ok.hd hc) h1 h2 hO (by simp;lia) λh' eb=>⟨rfl,zS (t':=s.toks) I (λa o ha q=>eb a o (λz=>ha (by simp[z])) q) hf⟩
 self:=λA i s Q E ⟨⟨old,h1⟩,_⟩ q=>by
  have hT:s.TypeIs (.ref e) "enumerate":=⟨_,h1,rfl⟩;refine wpAny_pyIter_slot hT F.slot_enumerate_iter (R7 F.slot_enumerate_iter hT F.entry_enumerate_iter ?_ (F.args_enumerate_iter_1 _));show wpAny _ _ (ret (.ref e)) _ _ s;exact QC ⟨_,rfl,"enumerate",_,hT,Sj.lookup,q⟩
theorem B8:bootBuiltins "enumerate"=some (.type "enumerate"):=by decide+kernel
theorem Gu(hg:Gl X "enumerate")(hm:X.mg "enumerate"=none)(ha:PA X [a] ta)(hs:starEach [a] X.env=[(false,eval a X.env)]:=by ac_nf):
  PI X (.Tuple es k0 tpos) (.Call (.Name "enumerate" p) [a] [] pos) (λσ H R=>ta σ H λvs H1=>∃l b,vs=[.ref l]/\(∃xs,FD b X.K H1 l xs)/\R (PK b X.K l) H1):=by
 intro pins s σ H R I h;refine Call_ (jD I hg hm B8 (Rh (cQ (ha pos pins s σ H _ I h) λus s1 ⟨vs,H1,I1,r1,q1⟩=>?_) hs rfl));obtain⟨l,b,e,⟨xs,hq⟩,q⟩:=q1;subst e;obtain⟨u,rfl,ru⟩:=Vals.one r1;obtain rfl:u=Value.ref l:=ru;obtain⟨its,rv,hO⟩:=hq.of I1;refine BV hO λh' a1 a2 a3 a4=>?_;have I2:L2.Inv X pins σ H1 {s1 with heap:=h'}:=I1.kept (t':=s1.toks) a4;have hf:∀c∈[s1.heap.objs.size+1,s1.heap.objs.size],kj X pins H1 c:=λc hc=>by
  simp at hc;rcases hc with rfl | rfl
  ·exact I1.BP (RN _) (I1.a8.fresh (RN _))
  ·exact I1.BP (Qg _) (I1.a8.fresh (Qg _))
 have T:=Bc (P:=X.prog) (w:=X.w) (K:=X.K) (es:=es) (k0:=k0) (pos:=tpos) b l (s1.heap.objs.size+1) s1.heap.objs.size (Nat.succ_ne_self _);refine T.self X.A 0 {s1 with heap:=h'} _ X.xe ⟨⟨_,a1⟩,a2⟩ ?_;exact⟨_,[s1.heap.objs.size+1,s1.heap.objs.size],_,_,H1,rfl,I2,T,⟨⟨_,a1⟩,a2⟩,hf,q⟩
end Sb
namespace Sm
open PySem L2 PySem.Spec PyProof.Rows
noncomputable def kH:Nat->List D->List D
 | _,[]=>[]
 | k,x::r=>.tup [.int (k:Int),x]::kH (k+1) r
theorem oq:∀(xs:List D)(k i:Nat),(kH k xs)[i]?=(xs[i]?).map λx=>.tup [.int ((k+i:Nat):Int),x]
 | [],k,i=>by simp[kH]
 | x::r,k,0=>by simp[kH]
 | x::r,k,i+1=>by
  show(kH (k+1) r)[i]?=_;rw[oq r (k+1) i];simp only[Rq];congr 1
  funext y
  rw[show k+1+i=k+(i+1) by lia]
theorem cG:∀(xs:List D)(k:Nat),(kH k xs).length=xs.length
 | [],_=>rfl
 | _::r,k=>by simp[kH,cG r (k+1)]
theorem SeqAt.NJ{K:FR}{H:Hp}{a:Addr}{vs:List V}{b:Bool}(q:SeqAt K H a vs b):Sb.FD b K H a vs:=by
 cases q with
 | l q=>exact q
 | t q=>exact q
noncomputable def sf(m:AM):IM:=λδ h=>(m δ h).bind λp=>match p.1 with
 | [d]=>(dw d p.2).map λq=>(kH 0 q.1,q.2,p.2)
 | _=>none
theorem OQ{α:Type}{l:List α}(h:l.length=2):∃a b,l=[a,b]:=by
 cases l with
 | nil=>cases h
 | cons a l=>obtain⟨b,rfl⟩:=RZ.mp (Nat.succ.inj h);exact⟨a,b,rfl⟩
theorem lN(hg:Gl X "enumerate")(hm:X.mg "enumerate"=none)(ha:SA X [a] m)(hl:kl m 1)(hs:starEach [a] X.env=[(false,eval a X.env)]:=by ac_nf):SI X (.Tuple es k0 tpos) (.Call (.Name "enumerate" p) [a] [] pos) (sf m):=
 (Sb.Gu hg hm ha hs).imp λσ H Q zz=>by
  obtain⟨ρ,δ,h,xs,ws,h',R,S,e,k⟩:=zz;obtain⟨⟨ds,h1⟩,e1,e2⟩:=bB e;refine⟨ρ,δ,h,ds,h1,R,S,e1,λvs ρ1 H1 T1 S1 r1=>?_⟩;obtain⟨d,rfl⟩:=RZ.mp (hl _ _ _ _ e1);obtain⟨⟨ys,w⟩,e3,e4⟩:=gM e2;cases e4;obtain⟨v,rfl,rd⟩:=rep1 r1;obtain⟨a,rfl,⟨us,q,l⟩,st⟩:=qQ S1 rd e3;refine⟨a,zt d,rfl,⟨us,q.NJ⟩,k _ ρ1 H1 T1 S1 ⟨λρ2 H2 h2 T2 S2 hc i=>?_⟩⟩;obtain⟨ws,l2,q2⟩:=st ρ2 H2 h2 T2 S2 hc;refine⟨λhi=>⟨ws,q2.NJ,by rw[l2.length];rw[cG] at hi;exact hi⟩,λx hx=>?_⟩;rw[oq] at hx;obtain⟨y,ey,hx⟩:=gM hx;subst hx;obtain⟨v,ev,rv⟩:=l2.got ey;refine⟨⟨ws,v,q2.NJ,ev⟩,λu H3 ⟨p,y',hp,hu,hH,hy⟩=>?_⟩;subst hu;subst hH;have hy':y'=v:=by have:=hy ws q2.NJ;rw[ev] at this;exact(Option.some.inj this).symm
  subst hy';refine⟨dh.laid S2 hp,S2.laid hp,.tup (.inl ⟨.inl aO,S2.fresh hp⟩) (.cons ?_ (.cons (rv.mono (dh.laid S2 hp).toCh) .nil))⟩;rw[Q1];exact .int _
noncomputable def wk(ls:List (Key×D)):List (Key×D)->Option Bool
 | []=>some true
 |(k,v)::r=>match pH ls k with
  | none=>some false
  | some u=>(vH v).bind λa=>(vH u).bind λb=>if a.depth<=60/\b.depth<=60 then(wk ls r).map λc=>PyData.eqv a b&&c else none
noncomputable def EU(ks ls:List (Key×D)):Option Bool:=if ks.length=ls.length then wk ls ks else some false
noncomputable def HV(d e:D)(h:MH):Option Bool:=match dS d h,dS e h with
 | some ks,some ls=>EU ks ls
 | _,_=>HU d e h
noncomputable def cF(d e:D)(h:MH):Option (D×MH):=(HV d e h).map λc=>(.bl c,h)
noncomputable def mU(d e:D)(h:MH):Option (D×MH):=(HV d e h).map λc=>(.bl (!c),h)
theorem GV(hu:X.A.units+64 < cLine)(I:L2.Inv X pins σ H s)(lb:bC X.K ρ H vs ls)(rb:KV vs kb):
  ∀{us:List (Key×V)} {ks:List (Key×D)} {ka:List (Key×Value)} {c:Bool},bC X.K ρ H us ks->KV us ka->wk ls ks=some c->PySem.W.KeqHits X.A.in1 s kb ka c:=by
 intro us
 induction us with
 | nil=>
  intro ks ka c a ra e;cases a;cases ra;cases e;exact .nil
 | cons u0 us ih=>
  intro ks ka c a ra e;cases a with | @cons k v _ d _ r l=>
  cases ra with
  | cons ra rr=>
   rename_i p ka;obtain⟨k',y⟩:=p;obtain⟨ek,ry⟩:=ra;dsimp only at ek ry;subst ek;simp only[wk] at e;have rel:=rb.val k;rcases lb.val k with⟨h1,h2⟩ |⟨d',v',h1,h2,r'⟩
   ·rw[h1] at e;cases e;rw[h2] at rel;refine .miss ?_;cases q:valueAt kb k with
    | none=>rfl
    | some _=>rw[q] at rel;exact rel.elim
   ·rw[h1] at e;obtain⟨a,e1,e⟩:=bB e;obtain⟨b,e2,e⟩:=bB e
    by_cases z:a.depth<=60/\b.depth<=60
    ·rw[Qf z] at e;obtain⟨c',e3,e4⟩:=gM e;subst e4;rw[h2] at rel;cases q:valueAt kb k with
     | none=>rw[q] at rel;exact rel.elim
     | some y'=>
      rw[q] at rel;obtain⟨r1,c1⟩:=r.tI e1;obtain⟨r2,c2⟩:=r'.tI e2;obtain⟨as,ra1⟩:=r1.reads I ry;obtain⟨bs,ra2⟩:=r2.reads I rel;refine .hit q (Sz a b _ s y y' as bs ra1 ra2 c1 c2 ?_) (ih l rr e3);have:min a.depth b.depth<=a.depth:=Tz _ _;show X.A.units+1+min a.depth b.depth < cLine
      lia
    ·rw[Qo z] at e;cases e
theorem EO(hu:X.A.units+64 < cLine)(I:L2.Inv X pins σ H s)(rx:L2.RelV x v)(ry:L2.RelV y u)(S:bN X.K ρ h H)(rd:Rep X.K ρ H x d)(re:Rep X.K ρ H y e)(ee:HV d e h=some c):
  (∀Q:Value->Shared->Prop,Q (.bool c) s->wpAny (model X.prog X.w) X.A (compareOp .Eq v u) Q X.xe s)/\∀Q:Value->Shared->Prop,Q (.bool (!c)) s->wpAny (model X.prog X.w) X.A (compareOp .NotEq v u) Q X.xe s:=by
 have data:HU d e h=some c->(∀Q:Value->Shared->Prop,Q (.bool c) s->wpAny (model X.prog X.w) X.A (compareOp .Eq v u) Q X.xe s)/\∀Q:Value->Shared->Prop,Q (.bool (!c)) s->wpAny (model X.prog X.w) X.A (compareOp .NotEq v u) Q X.xe s:=by
  intro ee;obtain⟨a,e3,e4⟩:=bB ee;obtain⟨b,e5,e6⟩:=bB e4
  by_cases w:a.depth<=64/\b.depth<=64
  ·rw[Qf w] at e6;cases e6;obtain⟨r1,c1⟩:=mw S rd e3;obtain⟨r2,c2⟩:=mw S re e5;obtain⟨as,ra⟩:=r1.reads I rx;obtain⟨bs,rb⟩:=r2.reads I ry;exact⟨λQ q=>eq_dataH ra rb (kc c1 w.1) (kc c2 w.2) hu q,λQ q=>ne_dataH ra rb (kc c1 w.1) (kc c2 w.2) hu q⟩
  ·rw[Qo w] at e6;cases e6
 unfold HV at ee;cases q1:dS d h with
 | none=>rw[q1] at ee;exact data ee
 | some ks=>
  cases q2:dS e h with
  | none=>rw[q1,q2] at ee;exact data ee
  | some ls=>
   rw[q1,q2] at ee;obtain⟨a,us,rfl,ha,la⟩:=iU S rd q1;obtain⟨b,ws,rfl,hb,lb⟩:=iU S re q2;obtain rfl:v=Value.ref a:=rx;obtain rfl:u=Value.ref b:=ry;obtain⟨_,na,ka,ra,da⟩:=AE I.a8 ha;obtain⟨_,nb,kb,rb,db⟩:=AE I.a8 hb;have l1:ka.length=ks.length:=by rw[<-la.length];exact(Paired.length ra).symm
   have l2:kb.length=ls.length:=by rw[<-lb.length];exact(Paired.length rb).symm
   dsimp only[EU] at ee
   by_cases z:ks.length=ls.length
   ·rw[Qf z] at ee;have hits:=GV hu I lb rb la ra ee;have ez:(ka.length==kb.length&&c)=c:=by rw[l1,l2,z,QS,Bool.true_and]
    exact⟨λQ q=>PySem.W.keq_eq na nb da db (by lia) (λ_=>hits) (by rw[ez];exact q),λQ q=>PySem.W.keq_ne na nb da db (by lia) (λ_=>hits) (by rw[ez];exact q)⟩
   ·rw[Qo z] at ee;cases ee;have ez:(ka.length==kb.length&&false)=false:=Bool.and_false _;have nh:ka.length=kb.length->PySem.W.KeqHits X.A.in1 s kb ka false:=λq=>absurd (by rw[<-l1,<-l2];exact q) z;exact⟨λQ q=>PySem.W.keq_eq na nb da db (by lia) nh (by rw[ez];exact q),λQ q=>PySem.W.keq_ne na nb da db (by lia) nh (by rw[ez];exact q)⟩
theorem Ea(hu:X.A.units+64 < cLine):oz X (compareOp .Eq) cF:=by
 intro pins s σ H x y v u Q I rx ry hh;obtain⟨ρ,h,d,e,z,h',S,rd,re,ee,k⟩:=hh;obtain⟨c,e1,e2⟩:=gM ee;cases e2;exact(EO hu I rx ry S rd re e1).1 _ ⟨.bl _,H,I,rfl,k _ _ (.here S (.bl _))⟩
theorem zb(hu:X.A.units+64 < cLine):oz X (compareOp .NotEq) mU:=by
 intro pins s σ H x y v u Q I rx ry hh;obtain⟨ρ,h,d,e,z,h',S,rd,re,ee,k⟩:=hh;obtain⟨c,e1,e2⟩:=gM ee;cases e2;exact(EO hu I rx ry S rd re e1).2 _ ⟨.bl _,H,I,rfl,k _ _ (.here S (.bl _))⟩
noncomputable def zj(acc:List (Key×D))(ps:List (Key×D)):List (Key×D):=ps.foldl (λa p=>putD a p.1 p.2) acc
theorem bC.merge{K:FR}{ρ:Ad}{H:Hp}:∀{kvs:List (Key×V)} {ps:List (Key×D)} {acc:List (Key×V)} {ac:List (Key×D)},bC K ρ H acc ac->bC K ρ H kvs ps->bC K ρ H (gj acc kvs) (zj ac ps):=by
 intro kvs
 induction kvs with
 | nil=>intro ps acc ac a b;cases b;exact a
 | cons x kvs ih=>intro ps acc ac a b;cases b with | @cons k v _ d _ r l=>exact ih (acc:=putK acc k v) (ac:=putD ac k d) (a.put r) l
theorem AL:bootBuiltins "list"=some (.type "list"):=by decide+kernel
theorem yq:bootBuiltins "tuple"=some (.type "tuple"):=by decide+kernel
theorem K2:bootBuiltins "int"=some (.type "int"):=by decide+kernel
theorem Fe:bootBuiltins "str"=some (.type "str"):=by decide+kernel
theorem wF:bootBuiltins "len"=some (.builtin "len"):=by decide+kernel
theorem K3:bootBuiltins "abs"=some (.builtin "abs"):=by decide+kernel
noncomputable def Iw(sc:Scope)(x:Str):Bool:=match sc.names.lookup x with
 | some .local=>true
 | some .cell=>true
 | some .free=>true
 | _=>false
noncomputable def GL(sc:Scope)(x:Str):Bool:=match sc.names.lookup x with
 | some .local=>true
 | some .cell=>true
 | _=>false
noncomputable def NO(X:Cx)(x:Str):Bool:=X.fn x||(match X.env.scope.names.lookup x with
 | some .local=>true
 | _=>false)
theorem Iv(h:Iw sc x=true):K6 sc x:=by
 unfold Iw at h
 split at h <;> first |(cases h;done) | skip
 ·exact .inl ‹_›
 ·exact .inr (.inl ‹_›)
 ·exact .inr (.inr ‹_›)
theorem Ep(h:GL sc x=true):Loc sc x:=by
 unfold GL at h
 split at h <;> first |(cases h;done) | skip
 ·exact .inl ‹_›
 ·exact .inr ‹_›
theorem EC(h:NO X x=true):X.fn x=true\/X.env.scope.names.lookup x=some .local:=by
 unfold NO at h;rw[RJ] at h;rcases h with h | h
 ·exact .inl h
 ·split at h
  ·exact .inr ‹_›
  ·cases h
theorem sv(i:Nat)(hN:X.N[i]?=some x:=by ac_nf)(hv:Iw X.env.scope x=true:=by ac_nf)(hd:(x==("__debug__":Str))=false:=by ac_nf)(hcd:(x==("__classdict__":Str))=false:=by ac_nf):SE X (.Name x pos) (ax i):=IP hN (Iv hv) hd hcd
theorem sset(i:Nat)(hN:X.N.Nodup)(he:SE X e ma)(hi:X.N[i]?=some x:=by ac_nf)(hx:GL X.env.scope x=true:=by ac_nf)(hs:swapsWith e (some (.Name x pos')) pos.line X.env=pure false:=by ac_nf)(hf:NO X x=true:=by ac_nf):SS X (.Assign [.Name x pos'] e pos) (aR i ma):=IH hN hi (Ep hx) he hs (EC hf)
theorem sgn(i:Nat)(hN:X.N.Nodup)(hi:X.N[i]?=some x:=by ac_nf)(hx:GL X.env.scope x=true:=by ac_nf)(hf:NO X x=true:=by ac_nf):SG X (.Name x pos) (gN i):=FV hN hi (Ep hx) (EC hf)
noncomputable def vt(i j:Nat)(m:AM):SM:=λδ h=>(m δ h).bind λp=>match p.1 with
 | [a,b]=>some (.nx,(δ.set i (some a)).set j (some b),p.2)
 | _=>none
theorem yP(i j:Nat){kt k2 pt2}(hN:X.N.Nodup)(hl:kl m 2)(hc:X.calm=true)(hij:i≠j)(P:PS X (.Assign [.Tuple [.Name x px,.Name y py] kt pt] (.Tuple [a,b] k2 pt2) pos) (LH i j (Po X.K m))):
  SS X (.Assign [.Tuple [.Name x px,.Name y py] kt pt] (.Tuple [a,b] k2 pt2) pos) (vt i j m):=P.imp λE σ H zz=>by
 obtain⟨ρ,δ,h,fl,δ',h',R,S,e,k⟩:=zz;obtain⟨⟨ds,h1⟩,e1,e2⟩:=bB e;refine⟨ρ,δ,h,ds,h1,R,S,e1,λvs ρ1 H1 T1 S1 r1=>?_⟩;obtain⟨d,d',rfl⟩:=OQ (hl _ _ _ _ e1);cases e2;obtain⟨v,u,rfl,rd,rd'⟩:=rep2 r1;exact⟨v,u,rfl,k ρ1 H1 T1 S1 _ (((R.mono T1.toCh).set rd i).set rd' j)⟩
structure Df(P:Program)(w:World)(K:FR)(mg:Str->Option Value)(base:Heap)(nm:Str)(k:Nat)(ps:List Str)(n:Nat)(F:Fn):Prop where
 ex:∃(f:Addr)(fd:FuncData),eO P w K mg base nz k f fd ps (Bj K n F)/\PySem.W.keepIn K (.ref f)=true/\Binds K fd ps []/\mg nm=some (.ref f)
theorem L6(d:Df X.prog X.w X.K X.mg X.base nm k ps n F)(hr:cH k' X.A)(hk:k<=k')(ha:SA X (e::es) m)(hl:kl m n)(hg:Gl X nm:=by unfold Gl;ac_nf)(hdb:(nm==("__debug__":Str))=false:=by ac_nf)(he:starEach (e::es) X.env=(false,eval e X.env)::starEach es X.env:=by ac_nf)(hpl:(backTo pos (starEach es X.env)).any (·.1)=false:=by ac_nf):SE X (.Call (.Name nm p) (e::es) [] pos) (ay F m):=by
 obtain⟨f,fd,G,kf,bf,mf⟩:=d.ex;exact F3 G (hr.mono hk) hg mf kf bf ha hl hdb he hpl
theorem iK{P:Program}{w:World}{K:FR}{mg:Str->Option Value}{base:Heap}{k n:Nat}{f:Addr}{fd:FuncData}{ps:List Str}:eO P w K mg base nz k f fd ps (Bj K n λ_ _=>none):=
 ⟨λvs H Q E hh=>(by obtain⟨_,_,_,_,_,_,_,_,e,_⟩:=hh;cases e),λA outer s H args us vs Q E _ _ _ _ hh=>(by obtain⟨_,_,_,_,_,_,_,_,e,_⟩:=hh;cases e)⟩
end Sm
namespace L2
open PySem PySem.Spec PyProof.Rows
section
variable {X:Cx} {N':List Str} {caps:List (Option Nat)} {scope:Scope} {e tg iter:Expr} {ifs:List Expr} {p:Pos} {wi:TI} {g:TG} {tc:TT} {tm:Addr->TK} {o:Addr->HO} {na:Sem Value} {act:Addr->Env->Sem Unit}
end
end L2
namespace Sm
open PySem L2 PySem.Spec PyProof.Rows
structure Ac(α:Type)where
 at_:FR->Ad->Hp->Addr->α->Prop
 mono:∀{K:FR} {ρ ρ':Ad} {H H':Hp} {l:Addr} {a:α},at_ K ρ H l a->Ch ρ H ρ' H'->H' l=H l->at_ K ρ' H' l a
abbrev MK(α:Type):=DS->MH->α->Option (DS×MH×α)
section
variable {α:Type} {K:FR} {A:Ac α} {l:Addr} {g:GM} {mt:TM} {m:MK α}
end
section
variable {α:Type} {X:Cx} {A:Ac α} {g:GM} {mt:TM} {m:MK α} {mi:IM} {e tg iter:Expr} {ifs:List Expr} {d:Nat} {p:Pos} {act:Addr->Env->Sem Unit}
end
end Sm
namespace L2
open PySem PySem.Spec PyProof.Rows
section
variable {P:Program} {w:World} {A:Around} {E:Value->Shared->Prop} {s:Shared} {a:Addr} {ks:List Str}
end
noncomputable def Ci(a b:Str):Bool:=!ltCps b.cps.toList a.cps.toList
theorem iR:Ci a b=true↔strKind.kle a.cps.toList b.cps.toList:=by
 unfold Ci KeyOrd.kle;rw[ltCps_eq];simp
theorem uB(a b c:Str)(h1:Ci a b=true)(h2:Ci b c=true):Ci a c=true:=iR.mpr (KeyOrd.kle_trans (iR.mp h1) (iR.mp h2))
theorem BJ(a b:Str):(Ci a b||Ci b a)=true:=by
 rw[RJ]
 by_cases z:strKind.klt b.cps.toList a.cps.toList
 ·exact .inr (iR.mpr (KeyOrd.kle_of_klt z))
 ·exact .inl (iR.mpr (KeyOrd.kle_of_not_klt z))
theorem Es(a b:Str)(h1:Ci a b=true)(h2:Ci b a=true):a=b:=by
 have:=KeyOrd.kle_antisymm (iR.mp h1) (iR.mp h2);cases a;cases b;congr 1;exact Array.toList_inj.mp this
noncomputable def i5(ks:List Str):List Str:=ks.mergeSort Ci
theorem f9(ks:List Str):(i5 ks).Perm ks:=U4 _ _
theorem ve(ks:List Str):(i5 ks).Pairwise λa b=>Ci a b=true:=UK uB BJ ks
theorem uc:∀(l:List Str)(p:Str),risingS p l=true->(p::l).Pairwise λa b=>Ci a b=true
 | [],p,_=>by simp
 | x::r,p,h=>by
  have h':(!ltCps x.cps.toList p.cps.toList&&risingS x r)=true:=h;rw[QN] at h';have ih:=uc r x h'.2;refine U9.mpr ⟨λy hy=>?_,ih⟩;rcases Ql.mp hy with rfl | hy
  ·exact h'.1
  ·exact uB _ _ _ h'.1 ((U9.mp ih).1 y hy)
theorem CZ(hp:ss.Perm ks)(h:sortedS ss=true):ss=i5 ks:=by
 refine UC (λa b _ _=>Es a b) ?_ (ve ks) (hp.trans (f9 ks).symm)
 match ss,h with
 | [],_=>exact .nil
 | x::r,h=>exact uc r x h
end L2
namespace Sm
open PySem L2 PySem.Spec PyProof.Rows
theorem bC.len{K:FR}{ρ:Ad}{H:Hp}:∀{us:List (Key×V)} {ks:List (Key×D)},bC K ρ H us ks->us.length=ks.length
 | _,_,.nil=>rfl
 | _,_,.cons _ r=>by rw[Qj,Qj,r.len]
end Sm
namespace L2
open PySem PySem.Spec PyProof.Rows
theorem A9{us:List Value}{ss:List Str}(a:StrsAre us ss):Vals (ss.map V.str) us:=by
 induction a with
 | nil=>exact .nil
 | cons x t r ih=>exact .cons ⟨t,rfl⟩ ih
end L2
namespace Sm
open PySem L2 PySem.Spec PyProof.Rows
section
variable {α:Type} {K:FR} {A:Ac α} {g:GM} {mt:TM} {m:MK α}
end
section
variable {X:Cx} {k v tg iter elt tg2 iter2:Expr} {pos:Pos} {mk mv me:EM} {mt mt2:TM} {g g2:GM} {N':List Str} {caps:List (Option Nat)} {scope:Scope} {ifs ifs2:List Expr} {mi mi2:IM}
theorem nM{K:FR}{ρ:Ad}{H:Hp}:∀(ss:List Str),(∀k∈ss,PyData.strOk k=true)->aD K ρ H (ss.map V.str) (ss.map D.str)
 | [],_=>.nil
 | x::r,h=>.cons (.str (h x Qh)) (nM r λk hk=>h k (Qi _ hk))
end
end Sm
namespace L2
open PySem PySem.Spec PyProof.Rows
section
variable {X:Cx} {e st:Expr} {te ts:TE} {pos p2:Pos}
end
end L2
namespace Sm
open PySem L2 PySem.Spec PyProof.Rows
section
variable {X:Cx} {e st a b c:Expr} {ma ms mb mc:EM} {pos p2:Pos}
abbrev Ig:=DS->MH->Option (List (Key×D)×MH)
noncomputable def GA:Ig:=λ_ h=>some ([],h)
noncomputable def eP(k v:EM)(r:Ig):Ig:=λδ h=>(k δ h).bind λp=>(v δ p.2).bind λq=>(vZ p.1).bind λkk=>(r δ q.2).map λz=>((kk,q.1)::z.1,z.2)
inductive Nk(K:FR)(m:Ig)(σ:L2.St)(H:Hp)(Q:List (V×V)->Hp->Prop):Prop where
 | mk (ρ δ h kvs h'):cK K ρ H σ δ->bN K ρ h H->(m δ h=some (kvs,h'))->(∀us ρ' H',dh ρ H ρ' H'->bN K ρ' h' H'->bC K ρ' H' us kvs->Q (us.map λkv=>(kV kv.1,kv.2)) H')->Nk K m σ H Q
def PX(K:FR)(m:Ig):L2.St->Hp->(List (V×V)->Hp->Prop)->Prop:=λσ H Q=>Nk K m σ H Q
def SP(X:Cx)(pos:Pos)(keys:List (Option Expr))(vals:List Expr)(m:Ig):Prop:=∃trs,Le X pos keys vals trs/\∀σ H Q,PX X.K m σ H Q->vc trs σ H Q
theorem CV:SP X pos [] [] GA:=⟨[],Gn,λσ H Q ⟨ρ,δ,h,kvs,h',R,S,e,k⟩=>by
 cases e;exact k [] ρ H (.refl _ _) S .nil⟩
theorem dZ(hk:SE X kx mk)(hv:SE X vx mv)(hr:SP X pos ks vs m):SP X pos (some kx::ks) (vx::vs) (eP mk mv m):=by
 obtain⟨trs,h1,h2⟩:=hr;refine⟨_,DR hk hv h1,λσ H Q ⟨ρ,δ,h,kvs,h',R,S,ee,k⟩=>?_⟩;obtain⟨⟨x,ha⟩,e1,e2⟩:=bB ee;obtain⟨⟨y,hb⟩,e3,e4⟩:=bB e2;obtain⟨kk,e5,e6⟩:=bB e4;obtain⟨⟨zs,hz⟩,e7,e8⟩:=gM e6;cases e8;refine⟨ρ,δ,h,x,ha,R,S,e1,λv H1 ⟨ρ1,T1,S1,r1⟩=>⟨ρ1,δ,ha,y,hb,R.mono T1.toCh,S1,e3,λu H2 ⟨ρ2,T2,S2,r2⟩=>?_⟩⟩;refine h2 σ H2 _ ⟨ρ2,δ,hb,zs,_,(R.mono T1.toCh).mono T2.toCh,S2,e7,λus ρ3 H3 T3 S3 r3=>?_⟩;have ek:=j5 r1 e5;subst ek;exact k ((kk,u)::us) ρ3 H3 ((T1.trans T2).trans T3) S3 (.cons (r2.mono T3.toCh) r3)
noncomputable def HW(m:Ig):EM:=λδ h=>(m δ h).bind λp=>if p.1.length<=15 then some (.dv (zj [] p.1),p.2) else none
theorem F2(h:SP X pos keys vals m)(hall:keys.all (·.isSome)=true)(hl:keys.length=vals.length)(h0:keys≠[])(hp:∀trs,Le X pos keys vals trs->PE X (.Dict keys vals pos) (CK trs)):SE X (.Dict keys vals pos) (HW m):=by
 obtain⟨trs,h1,h2⟩:=h;refine(hp trs h1).imp λσ H Q ⟨ρ,δ,h,d,h',R,S,ee,k⟩ p hpn=>?_;obtain⟨⟨kvs,ha⟩,e1,e2⟩:=bB ee;dsimp only at e2
 by_cases z:kvs.length<=15
 ·rw[Qf z] at e2;cases e2;have Tl:Ch ρ H (ρ.keep p) (upd H p (.dK [])):=Ch.keep hpn;have nl:¬ρ.has p:=S.fresh hpn;refine h2 σ _ _ ⟨ρ.keep p,δ,h,kvs,_,R.mono Tl,S.keep hpn,e1,λus ρ2 H2 T2 S2 r2=>?_⟩;have hp2:H2 p=some (.dK []):=(T2.res p Qh).trans aO;refine⟨hp2,us,rfl,by rw[r2.len];exact z,?_⟩;obtain⟨ob2,rs2⟩:=ρ2;have ers:rs2=p::ρ.rs:=T2.rs;subst ers;have hml:p∈(⟨ob2,p::ρ.rs⟩:Ad).rs:=Qh;have hsub:∀b∈ρ.rs,b∈p::ρ.rs:=λb hb=>Qi _ hb;have hne:∀b∈ρ.rs,b≠p:=λb hb z=>nl (.inr (z ▸ hb));have Cp:Ch ⟨ob2,p::ρ.rs⟩ H2 ⟨ob2,p::ρ.rs⟩ (upd H2 p (.dK (gj [] us))):=Ch.put hml;have C2:Ch ⟨ob2,p::ρ.rs⟩ (upd H2 p (.dK (gj [] us))) ⟨ob2,ρ.rs⟩ (upd H2 p (.dK (gj [] us))):=Ch.free hsub;refine k _ _ ⟨⟨ob2,ρ.rs⟩,⟨((Tl.trans T2.toCh).trans Cp).trans C2,rfl,λb hb=>?_⟩,(S2.put hml).free hsub,.dv aO (λz=>?_) ((bC.merge .nil r2).mono (Cp.trans C2))⟩
  ·show upd H2 p _ b=H b;rw[av (hne b hb),T2.res b (hsub b hb)];exact av (hne b hb)
  ·rcases z with z | z
   ·exact(S2.tq p Qh).2 z
   ·exact nl (.inr z)
 ·rw[Qo z] at e2;cases e2
end
end Sm
namespace L2
open PySem PySem.Spec PyProof.Rows
open HT in
theorem Bd{t sl:Addr}{items:Array Value}{vl vu:Value}{lo hi:Option Int}{Q:Value->Shared->Prop}(ht:IsTup s.heap t items)(hs:s.heap.IsSliceOf sl vl vu .none)(pl:IsPart vl lo)(pu:IsPart vu hi)
  (hw:cI items.size 0 lo=0/\cI items.size items.size hi=items.size) (h:Q (.ref t) s):wpAny (model prog w) A (getItem (.ref t) (.ref sl)) Q E s:=by
 obtain⟨os,hos,hcs,si⟩:=id hs;have hTs:s.TypeIs (.ref sl) "slice":=⟨os,hos,hcs⟩;unfold getItem
 try with_reducible refine Td ?_
 first | refine Qe (QC ?_) | skip
 refine Qe (wpAny_sequenceKey ht.typeIs (by decide) ?_);refine Qe (Ry (name:=Str.ofString "__getitem__") ht.typeIs Q5 (R7 Q5 ht.typeIs entry_tuple_getitem ?_ (args_tuple_getitem _ _)));show wpAny _ _ (Builtin.Tuple.tupleItemsOf (.ref t) >>=_) _ _ s;refine Qe (tupleItemsOf_ ht (Qe (wpAny_typeOf hTs ?_)));rw[Qf (by decide)];refine Qe (g7 hs pl pu ?_);show wpAny _ _ (if(((cI items.size 0 lo:Nat):Int)==0&&(1:Int)==1&&(cI items.size items.size hi-cI items.size 0 lo)==items.size)=true then _ else _) _ _ s;rw[Qf (by rw[hw.1,hw.2];simp)];unfold Builtin.Tuple.tupleIsExact;simp only[bind_assoc,pure_bind];refine Qe (wpAny_typeOf ht.typeIs ?_);rw[Qf (by decide)]
 first
  | exact Qe (Ul (QC ⟨_,rfl,QC h⟩))
  | exact Qe (Ul (Qe (QC (QC ⟨_,rfl,QC h⟩))))
def Ow(K:FR):V->Option Int->Option Int->Hp->VK->Prop:=λx lo hi H Q=>∃a xs,x=.ref a/\kJ K H a xs/\(HT.cI xs.length 0 lo=0/\HT.cI xs.length xs.length hi=xs.length)/\Q (.ref a) H
theorem C5:La X (Ow X.K):=by
 intro pins s σ H x v vl vu lo hi sl Q I rx hs pl pu h;obtain⟨a,xs,rfl,hx,hw,q⟩:=h;cases rx;obtain⟨its,r,ht,hz⟩:=I.tuple hx;have hlen:its.toArray.size=xs.length:=by rw[Qu];exact r.length.symm
 exact⟨"tuple",_,Q5.lookup,ht.typeIs,Bd ht hs pl pu (by rw[hlen];exact hw) ⟨.ref a,H,I,rfl,q⟩⟩
end L2
namespace Sm
open PySem L2 PySem.Spec PyProof.Rows
section
variable {X:Cx}
noncomputable def iS(d:D)(lo hi:Option Int)(h:MH):Option (D×MH):=match d with
 | .tup xs=>if HT.cI xs.length 0 lo=0/\HT.cI xs.length xs.length hi=xs.length then some (.tup xs,h) else some (.tup (cutD xs lo hi),h)
 | d=>MU d lo hi h
noncomputable def jE(a:EM)(l u:PM):EM:=λδ h=>(a δ h).bind λp=>(l δ p.2).bind λq=>(u δ q.2).bind λr=>iS p.1 q.1 r.1 r.2
inductive Ic(K:FR)(x:V)(lo hi:Option Int)(H:Hp)(Q:VK):Prop where
 | mk (ρ h d z h'):bN K ρ h H->Rep K ρ H x d->(iS d lo hi h=some (z,h'))->(∀v H',du K ρ H h' z v H'->Q v H')->Ic K x lo hi H Q
def OA(K:FR):V->Option Int->Option Int->Hp->VK->Prop:=λx lo hi H Q=>Ic K x lo hi H Q
theorem IG:La X (OA X.K):=by
 intro pins s σ H x v vl vu lo hi sl Q I rx hs pl pu hh;obtain⟨ρ,h,d,z,h',S,rd,ee,k⟩:=hh;cases d with
 | tup xs=>
  unfold iS at ee;dsimp only at ee
  by_cases c:HT.cI xs.length 0 lo=0/\HT.cI xs.length xs.length hi=xs.length
  ·rw[Qf c] at ee;cases ee;have rd0:=rd;cases rd with | tup h0 l0=>
   exact C5 pins s σ H _ v vl vu lo hi sl Q I rx hs pl pu ⟨_,_,rfl,h0.sq,by rw[l0.length];exact c,k _ _ (.here S rd0)⟩
  ·rw[Qo c] at ee;exact HA pins s σ H x v vl vu lo hi sl Q I rx hs pl pu ⟨ρ,h,_,z,h',S,rd,by unfold MU;dsimp only;rw[Qo c];exact ee,k⟩
 | _=>exact HA pins s σ H x v vl vu lo hi sl Q I rx hs pl pu ⟨ρ,h,_,z,h',S,rd,ee,k⟩
theorem Dc{a:Expr}{lo hi:Option Expr}{pos p2:Pos}{ma:EM}{ml mu:PM}(ha:SE X a ma)(hl:SP' X lo ml)(hu:SP' X hi mu):SE X (.Subscript a (.Slice lo hi none p2) pos) (jE ma ml mu):=
 (DX IG ha hl hu).imp λσ H Q ⟨ρ,δ,h,d,h',R,S,e,k⟩=>by
  obtain⟨⟨x,h1⟩,e1,e2⟩:=bB e;obtain⟨⟨l,h2⟩,e3,e4⟩:=bB e2;obtain⟨⟨u,h3⟩,e5,e6⟩:=bB e4;exact⟨ρ,δ,h,x,h1,R,S,e1,λv H1 ⟨ρ1,T1,S1,r1⟩=>⟨ρ1,δ,h1,l,h2,R.mono T1.toCh,S1,e3,λρ2 H2 T2 S2=>⟨ρ2,δ,h2,u,h3,(R.mono T1.toCh).mono T2.toCh,S2,e5,λρ3 H3 T3 S3=>
   ⟨ρ3,h3,x,d,h',S3,r1.mono (T2.trans T3).toCh,e6,λw H4 p=>k w H4 (p.step (T1.trans (T2.trans T3)))⟩⟩⟩⟩
noncomputable def om:Fn:=λds h=>match ds with
 | [.bl b]=>some (.int (if b then 1 else 0),h)
 | _=>none
theorem KN:iC X (.type "int") om:=by
 intro pins s σ H xs us Q I r hh;obtain⟨ρ,h,ds,z,h',S,l,ee,k⟩:=hh
 match ds,l,ee with
 | [],_,ee=>exact bW ee
 | _::_::_,_,ee=>exact absurd ee (by unfold om;split <;> simp_all)
 | [d],l,ee=>
  obtain⟨v,rfl,rd⟩:=rep1 l;cases rd <;> first |(exact bW ee) | skip
  cases ee;obtain⟨u,rfl,ru⟩:=Vals.one r;cases ru;exact call_int_bool ⟨.int _,H,I.kept (t':=s.toks+1) (h':=s.heap) λ_ _ e=>e,⟨_,rfl⟩,k _ _ (.here S (.int _))⟩
noncomputable def ip(d e:D)(h:MH):Option (D×MH):=match d,e with
 | .str x,.int n=>if x.length<=1000/\0<=n/\n<=1000/\PyData.strOk (Txt.mul x n)=true then some (.str (Txt.mul x n),h) else none
 | d,e=>Kx d e h
theorem gK:oz X (binaryOp .Mult) ip:=by
 intro pins s σ H x y v u Q I rx ry hh;obtain⟨ρ,h,d,e,z,h',S,rd,re,ee,k⟩:=hh;unfold ip at ee
 split at ee
 ·rename_i x0 n
  by_cases c:x0.length<=1000/\0<=n/\n<=1000/\PyData.strOk (Txt.mul x0 n)=true
  ·rw[Qf c] at ee;cases ee;cases rd;cases re;obtain⟨t1,rfl⟩:=rx;obtain⟨t2,rfl⟩:=ry;obtain⟨c1,c2,c3,c4⟩:=c;refine SB.mul ⟨?_,λ_ _=>?_,λ_ _=>?_⟩ λt' k'=>⟨.str _,H,I.kept (t':=k') (h':=s.heap) λ_ _ e=>e,⟨t',rfl⟩,k _ _ (.here S (.str c4))⟩
   ·rw[QZ (by lia),QZ (by lia)];rfl
   ·have h1:(9007199254740991:Int)<=(2^63-1) / n:=by
     refine Int.le_ediv_of_mul_le (by lia) ?_;have:9007199254740991*n<=9007199254740991*1000:=Int.mul_le_mul_of_nonneg_left c3 (by decide)
     lia
    lia
   ·have h1:x0.length*n.toNat<=1000*1000:=Nat.mul_le_mul c1 (by lia);refine QZ ?_;have:=Sr
    lia
  ·rw[Qo c] at ee;cases ee
 ·exact JE pins s σ H x y v u Q I rx ry ⟨ρ,h,_,_,z,h',S,rd,re,ee,k⟩
noncomputable def jF(f f':D->D->MH->Option (D×MH))(ma mb mc:EM):EM:=λδ h=>(ma δ h).bind λp=>(mb δ p.2).bind λq=>(f p.1 q.1 q.2).bind λr=>match r.1 with
 | .bl true=>(mc δ r.2).bind λu=>f' q.1 u.1 u.2
 | .bl false=>some (.bl false,r.2)
 | _=>none
theorem Dy(hh:tM X.K (jF f f' ma mb mc) σ H Q):CM (rS X.K f) (rS X.K f') (tM X.K ma) (tM X.K mb) (tM X.K mc) σ H Q:=by
 obtain⟨ρ,δ,h,d,h',R,S,ee,k⟩:=hh;obtain⟨⟨x,h1⟩,e1,e2⟩:=bB ee;obtain⟨⟨y,h2⟩,e3,e4⟩:=bB e2;obtain⟨⟨z,h3⟩,e5,e6⟩:=bB e4;dsimp only at e3 e5 e6;refine⟨ρ,δ,h,x,h1,R,S,e1,λv H1 ⟨ρ1,T1,S1,r1⟩=>⟨ρ1,δ,h1,y,h2,R.mono T1.toCh,S1,e3,λu H2 ⟨ρ2,T2,S2,r2⟩=>⟨ρ2,h2,x,y,z,h3,S2,r1.mono T2.toCh,r2,e5,λw H3 ⟨ρ3,T3,S3,r3⟩=>?_⟩⟩⟩;cases z with
 | bl b=>
  cases r3;refine⟨b,rfl,?_⟩;cases b with
  | false=>
   cases e6;exact MG (k _ _ (du.step (T1.trans (T2.trans T3)) (.here S3 (.bl false))))
  | true=>
   obtain⟨⟨u',h4⟩,e7,e8⟩:=bB e6;have T:=T1.trans (T2.trans T3);exact MF ⟨ρ3,δ,h3,u',h4,R.mono T.toCh,S3,e7,λv' H4 ⟨ρ4,T4,S4,r4⟩=>⟨ρ4,h4,y,u',d,h',S4,r2.mono (T3.trans T4).toCh,r4,e8,λw' H5 P=>k w' H5 (P.step (T.trans T4))⟩⟩
 | _=>exact bW e6
theorem wY(ho:oz X (compareOp op) f)(ho':oz X (compareOp op') f')(ha:SE X a ma)(hb:SE X b mb)(hc:SE X c mc)(hm:lastMarks [op,op'] [b,c]=false:=by with_unfolding_all rfl):
  ST X (.Compare a [op,op'] [b,c] pos) (aE (jF f f' ma mb mc)):=(DM ho ho' ha hb hc hm).imp λσ H Q h=>Dy (Ga h)
end
end Sm
namespace L2
open PySem PySem.Spec PyProof.Rows
section
variable {X:Cx} {e st:Expr} {te ts:TE} {pos p2:Pos}
end
end L2
namespace Sm
open PySem L2 PySem.Spec PyProof.Rows
section
variable {X:Cx} {e st:Expr} {ma ms:EM} {pos p2:Pos}
end
end Sm
namespace L2
open PySem PySem.Spec PyProof.Rows
open HT in
theorem E9{t b:Addr}{vs ws:List Value}{Q:Value->Shared->Prop}(ht:IsTup s.heap t vs.toArray)(hb:IsTup s.heap b ws.toArray)(hv:vs=[])(h:Q (.ref b) s):wpAny (model prog w) A (binaryOp .Add (.ref t) (.ref b)) Q E s:=by
 obtain⟨⟨cls,dd,data,sl⟩,ho,hc,n,hd⟩:=id ht;obtain⟨⟨cls2,dd2,data2,sl2⟩,ho2,hc2,n2,hd2⟩:=id hb;simp only at hc hd hc2 hd2;subst hc hd hc2 hd2;exact concat_meets ⟨_,ho,rfl⟩ ⟨_,ho2,rfl⟩ Uz U7 Tt Ts (Tp _ _)
   (tuple_addW0 t b vs.toArray ws.toArray n n2 dd dd2 sl sl2 (by simp[hv])) ⟨ho,ho2,h⟩
theorem Ec:oA X (binaryOp .Add) (λx y H Q=>∃a b ys,x=.ref a/\y=.ref b/\kJ X.K H a []/\kJ X.K H b ys/\Q (.ref b) H):=by
 intro pins s σ H x y v u Q I rx ry h;obtain⟨a,b,ys,rfl,rfl,ha,hb,q⟩:=h;cases rx;cases ry;obtain⟨its,r1,p1,_⟩:=I.tuple ha;obtain⟨its2,r2,p2,_⟩:=I.tuple hb;exact E9 p1 p2 (r1.qm.mpr rfl) ⟨.ref b,H,I,rfl,q⟩
end L2
namespace Sm
open PySem L2 PySem.Spec PyProof.Rows
noncomputable def az(d e:D)(h:MH):Option (D×MH):=match d,e with
 | .tup [],.tup ys=>some (.tup ys,h)
 | d,e=>tV d e h
theorem bo:oz X (binaryOp .Add) az:=by
 intro pins s σ H x y v u Q I rx ry hh;obtain⟨ρ,h,d,e,z,h',S,rd,re,ee,k⟩:=hh;unfold az at ee
 split at ee
 ·cases ee;have re0:=re;cases rd with | tup h1 l1=>cases re with | tup h2 l2=>
  cases l1;exact Ec pins s σ H _ _ v u Q I rx ry ⟨_,_,_,rfl,rfl,h1.sq,h2.sq,k _ _ (.here S re0)⟩
 ·exact JH pins s σ H _ _ v u Q I rx ry ⟨ρ,h,_,_,z,h',S,rd,re,ee,k⟩
noncomputable def EH:Fn:=λds h=>match ds with
 | [.int i,.int j]=>some (.int (if j < i then j else i),h)
 | _=>none
noncomputable def sr:Fn:=λds h=>match ds with
 | [.int i,.int j]=>some (.int (if j > i then j else i),h)
 | _=>none
theorem KL(hc:X.calm=true):iC X (.builtin "min") EH:=by
 intro pins s σ H xs us Q I r hh;obtain⟨ρ,h,ds,z,h',S,l,ee,k⟩:=hh
 match ds,l,ee with
 | [],_,ee=>exact bW ee
 | [_],_,ee=>exact absurd ee (by unfold EH;split <;> simp_all)
 | _::_::_::_,_,ee=>exact absurd ee (by unfold EH;split <;> simp_all)
 | [d,e],l,ee=>
  obtain⟨v,w,rfl,rd,re⟩:=rep2 l;cases rd <;> first |(exact bW ee) | skip
  cases re <;> first |(exact bW ee) | skip
  cases ee;exact B3 hc pins s σ H _ us Q I r ⟨_,_,rfl,k _ _ (.here S (.int _))⟩
theorem EZ(hc:X.calm=true):iC X (.builtin "max") sr:=by
 intro pins s σ H xs us Q I r hh;obtain⟨ρ,h,ds,z,h',S,l,ee,k⟩:=hh
 match ds,l,ee with
 | [],_,ee=>exact bW ee
 | [_],_,ee=>exact absurd ee (by unfold sr;split <;> simp_all)
 | _::_::_::_,_,ee=>exact absurd ee (by unfold sr;split <;> simp_all)
 | [d,e],l,ee=>
  obtain⟨v,w,rfl,rd,re⟩:=rep2 l;cases rd <;> first |(exact bW ee) | skip
  cases re <;> first |(exact bW ee) | skip
  cases ee;exact B4 hc pins s σ H _ us Q I r ⟨_,_,rfl,k _ _ (.here S (.int _))⟩
noncomputable def JZ:AX:=λd ds h=>(dS d h).bind λkvs=>match ds with
 | [k]=>(vZ k).map λkey=>((pH kvs key).getD .cu,h)
 | [k,x]=>(vZ k).map λkey=>((pH kvs key).getD x,h)
 | _=>none
theorem JY(hu:X.A.units+1 < cLine):AW X "dict.get" (rM X.K JZ):=by
 intro pins s σ H x xs v us Q I rx rs hh;obtain⟨ρ,h,d,ds,z,h',S,rd,l,ee,k⟩:=hh;obtain⟨kvs,e1,e2⟩:=bB ee;obtain⟨a,ws,rfl,ha,lk⟩:=iU S rd e1;obtain rfl:v=Value.ref a:=rx
 match ds,l,e2 with
 | [],_,e2=>exact bW e2
 | [y],l,e2=>
  obtain⟨key,e3,e4⟩:=gM e2;cases e4;obtain⟨yv,rfl,ry⟩:=rep1 l;obtain⟨u,rfl,ru⟩:=Vals.one rs;have hy:=j5 ry e3;subst hy;refine KI hu I (nv.k ha) ru λw' s' I' r'=>⟨_,H,I',r',k _ _ ?_⟩;rcases lk.val key with⟨q1,q2⟩ |⟨d',v',q1,q2,q3⟩
  ·rw[q1,q2];exact .here S .cu
  ·rw[q1,q2];exact .here S q3
 | [y,x0],l,e2=>
  obtain⟨key,e3,e4⟩:=gM e2;cases e4;obtain⟨yv,xv,rfl,ry,rx0⟩:=rep2 l;obtain⟨u,u2,rfl,ru,ru2⟩:=Vals.two rs;have hy:=j5 ry e3;subst hy;refine KH hu I (nv.k ha) ru ru2 λw' s' I' r'=>⟨_,H,I',r',k _ _ ?_⟩;rcases lk.val key with⟨q1,q2⟩ |⟨d',v',q1,q2,q3⟩
  ·rw[q1,q2];exact .here S rx0
  ·rw[q1,q2];exact .here S q3
 | _::_::_::_,_,e2=>exact absurd e2 (by simp)
noncomputable def KD(a b:EM):EM:=λδ h=>(a δ h).bind λp=>(yJ p.1 p.2).bind λc=>if c=true then some p else b δ p.2
end Sm
namespace L2
open PySem PySem.Spec PyProof.Rows
section
variable {X:Cx} {a b:Expr} {rest:List Expr} {pos:Pos} {ta tb:TE}
theorem Jw(ha:PE X a ta)(hb:PE X (.BoolOp .Or (b::rest) pos) tb):PE X (.BoolOp .Or (a::b::rest) pos) (λσ H Q=>ta σ H λx H1=>∃c,Hm X.K x H1 c/\if c=true then Q x H1 else tb σ H1 Q):=by
 intro pins s σ H Q I h;refine BoolOp_or (cQ (ha pins s σ H _ I h) λv s1 ⟨x,H1,I1,r1,c,ht,q1⟩=>?_);refine cQ (CH pins s1 σ H1 x v (λc H2=>if c=true then Q x H2 else tb σ H2 Q) I1 r1 ⟨c,ht,q1⟩) λc' s2 ⟨H2,I2,q2⟩=>?_;cases c' with
 | false=>exact hb pins s2 σ H2 Q I2 q2
 | true=>exact⟨x,H2,I2,r1,q2⟩
end
end L2
namespace Sm
open PySem L2 PySem.Spec PyProof.Rows
section
variable {X:Cx} {a b:Expr} {pos:Pos} {ma mb:EM}
theorem IQ{rest:List Expr}(ha:SE X a ma)(hb:SE X (.BoolOp .Or (b::rest) pos) mb):SE X (.BoolOp .Or (a::b::rest) pos) (KD ma mb):=(Jw ha hb).imp λσ H Q ⟨ρ,δ,h,d,h',R,S,e,k⟩=>by
 obtain⟨⟨x,h1⟩,e1,e2⟩:=bB e;obtain⟨c,e3,e4⟩:=bB e2;refine⟨ρ,δ,h,x,h1,R,S,e1,λv H' ⟨ρ',T,S',r⟩=>⟨c,zT S' r e3,?_⟩⟩;cases c with
 | false=>rw[Qo (by simp)] at e4 ⊢;exact⟨ρ',δ,h1,d,h',R.mono T,S',e4,λv H2 p=>k v H2 (p.step T)⟩
 | true=>rw[Qf rfl] at e4 ⊢;cases e4;exact k _ _ ⟨ρ',T,S',r⟩
end
end Sm
namespace L2
open PySem PySem.Spec PyProof.Rows
end L2
namespace Sm
open PySem L2 PySem.Spec PyProof.Rows
theorem K1:bootBuiltins "min"=some (.builtin "min"):=by decide+kernel
theorem Ff:bootBuiltins "max"=some (.builtin "max"):=by decide+kernel
section
variable {X:Cx} {g:GM} {mt:TM} {ma:EM}
end
end Sm
namespace L2
open PySem PySem.Spec PyProof.Rows
theorem jN:∀{ss:List Str} {us:List Value},Vals (ss.map V.str) us->StrsAre us ss
 | [],_,.nil=>.nil
 | x::r,_,.cons q l=>by obtain⟨t,rfl⟩:=q;exact .cons x t (jN l)
theorem zG:gy X (.builtin "sorted") (λxs H Q=>∃a ss,xs=[.ref a]/\gZ X.K H a (ss.map V.str)/\ss.length < 64/\∀l,H l=none->Q (.ref l) (upd H l (.lst ((i5 ss).map V.str)))):=by
 intro pins s σ H xs us Q I r h;obtain⟨a,ss,rfl,ha,h64,q⟩:=h;obtain⟨u,rfl,ru⟩:=vals1 r;cases ru;obtain⟨its,rv,p,hz⟩:=I.list ha;have hS:=jN rv;have hlen:its.length=ss.length:=by have:=rv.length;rw[Qb] at this;exact this.symm
 refine sorted_strs p.isList hS (by lia) λout ss' h1 h2 h3=>?_;have:=CZ h2 h3;subst this;have hl:s.heap.objs.size<=s.heap.objs.size+1:=RN _;obtain⟨e,ho⟩:=sortedAll_at s.heap its out;have hz':((i5 ss).map V.str).length<=sizeLine:=by rw[Qb,(f9 ss).length_eq,Sr];lia
 refine⟨.ref (s.heap.objs.size+1),_,I.laid (t':=s.toks) (o:=.lst ((i5 ss).map V.str)) (λb o q=>sortedAll_old q) hl ⟨hz',out.toList,e,A9 h1,?_⟩,rfl,q _ (I.a8.fresh hl)⟩;rw[ho]
end L2
namespace Sm
open PySem L2 PySem.Spec PyProof.Rows
noncomputable def se:List D->Option (List Int)
 | []=>some []
 | .int i::r=>(se r).map λis=>i::is
 | _=>none
theorem xY:∀{xs:List D} {ns:List Int},se xs=some ns->xs=ns.map D.int
 | [],_,e=>by cases e;rfl
 | d::r,ns,e=>by
  cases d <;> first |(exact bW e) | skip
  obtain⟨is,e1,e2⟩:=gM (show(se r).map _=some ns from e);cases e2;rw[xY e1];rfl
theorem uF:∀(ns:List Int),se (ns.map D.int)=some ns
 | []=>rfl
 | n::r=>by show(se (r.map D.int)).map _=_;rw[uF r];rfl
theorem yX{K:FR}{ρ:Ad}{H:Hp}:∀{vs:List V} {ns:List Int},aD K ρ H vs (ns.map D.int)->vs=ns.map V.int:=by
 intro vs ns
 induction ns generalizing vs with
 | nil=>intro a;cases a;rfl
 | cons n r ih=>intro a;cases a with | cons q l=>cases q;rw[ih l];rfl
noncomputable def oB:List D->Option (List Str)
 | []=>some []
 | .str i::r=>(oB r).map λis=>i::is
 | _=>none
theorem qI:∀{xs:List D} {ns:List Str},oB xs=some ns->xs=ns.map D.str
 | [],_,e=>by cases e;rfl
 | d::r,ns,e=>by
  cases d <;> first |(exact bW e) | skip
  obtain⟨is,e1,e2⟩:=gM (show(oB r).map _=some ns from e);cases e2;rw[qI e1];rfl
theorem nG:∀(ns:List Str),oB (ns.map D.str)=some ns
 | []=>rfl
 | n::r=>by show(oB (r.map D.str)).map _=_;rw[nG r];rfl
theorem kS{K:FR}{ρ:Ad}{H:Hp}:∀{vs:List V} {ns:List Str},aD K ρ H vs (ns.map D.str)->vs=ns.map V.str/\∀k∈ns,PyData.strOk k=true
 | _,[],.nil=>⟨rfl,λ_ h=>(nomatch h)⟩
 | _,n::r,.cons q l=>by
  cases q with
  | str h=>
   obtain⟨e,f⟩:=kS l;refine⟨by rw[e];rfl,λk hk=>?_⟩;rcases Ql.mp hk with rfl | hk
   ·exact h
   ·exact f k hk
noncomputable def EF:Fn:=λds h=>match ds with
 | [d]=>(dR d h).bind λxs=>(oB xs).bind λns=>if ns.length < 64 then some (.lv ((i5 ns).map D.str),h) else none
 | _=>none
theorem EW:iC X (.builtin "sorted") EF:=by
 intro pins s σ H xs us Q I r hh;obtain⟨ρ,h,ds,z,h',S,l,ee,k⟩:=hh
 match ds,l,ee with
 | [],_,ee=>exact bW ee
 | _::_::_,_,ee=>exact bW ee
 | [d],l,ee=>
  obtain⟨v,rfl,rd⟩:=rep1 l;obtain⟨ys,e1,e2⟩:=bB ee;obtain⟨ns,e3,e4⟩:=bB e2
  by_cases c:ns.length < 64
  ·rw[Qf c] at e4;cases e4;obtain⟨a,vs,rfl,ha,la⟩:=eB S rd e1;have:=qI e3;subst this;obtain⟨e5,f⟩:=kS la;subst e5;refine zG pins s σ H _ us Q I r ⟨a,ns,rfl,gZ.of ha,c,λl hl=>k _ _ (.lv S (nM _ λx hx=>f x ((f9 ns).mem_iff.mp hx)) hl)⟩
  ·rw[Qo c] at e4;cases e4
section
variable {α:Type} {K:FR} {A:Ac α} {l:Addr} {g:GM} {mt:TM} {m:MK α}
mutual
theorem Rep.calm(hs:∀a,ρ'.has a->ρ.has a){v:V}{d:D}(r:Rep K ρ H v d)(c:gX 0 d=true):Rep K ρ' H v d:=by
 cases r with
 | cu=>exact .cu
 | bl b=>exact .bl b
 | int i=>exact .int i
 | str h=>exact .str h
 | ty n=>exact .ty n
 | tup h l=>exact .tup (h.elim (λ⟨a,n⟩=>.inl ⟨a,λz=>n (hs _ z)⟩) .inr) (aD.calm hs l c)
 | lv h n l=>exact .lv h (λz=>n (hs _ z)) (aD.calm hs l c)
 | ro h l=>exact .ro (h.elim (λ⟨a,n⟩=>.inl ⟨a,λz=>n (hs _ z)⟩) .inr) (aD.calm hs l c)
 | dv h n l=>exact .dv h (λz=>n (hs _ z)) (bC.calm hs l c)
 | ob e=>simp[gX] at c
theorem aD.calm(hs:∀a,ρ'.has a->ρ.has a){vs:List V}{ds:List D}(r:aD K ρ H vs ds)(c:fz 0 ds=true):aD K ρ' H vs ds:=by
 cases r with
 | nil=>exact .nil
 | cons r l=>have c:=QE.mp c;exact .cons (Rep.calm hs r c.1) (aD.calm hs l c.2)
theorem bC.calm(hs:∀a,ρ'.has a->ρ.has a){vs:List (Key×V)}{ds:List (Key×D)}(r:bC K ρ H vs ds)(c:Hf 0 ds=true):bC K ρ' H vs ds:=by
 cases r with
 | nil=>exact .nil
 | cons r l=>have c:=QE.mp c;exact .cons (Rep.calm hs r c.1) (bC.calm hs l c.2)
end
end
section
variable {X:Cx} {k v tg iter:Expr} {pos:Pos} {mk mv:EM} {mt:TM} {g:GM} {N':List Str} {caps:List (Option Nat)} {scope:Scope} {ifs:List Expr} {mi:IM}
end
theorem uN:bootBuiltins "sorted"=some (.builtin "sorted"):=by decide+kernel
end Sm
namespace L2
open PySem PySem.Spec PyProof.Rows
end L2
namespace Sm
open PySem L2 PySem.Spec PyProof.Rows
end Sm
namespace L2
open PySem PySem.Spec PyProof.Rows
end L2
namespace Sm
open PySem L2 PySem.Spec PyProof.Rows
end Sm
namespace Hd
open PySem PySem.W PySem.Spec PyProof.Rows L2 Sm
noncomputable def lp:Obj->Bool
 |⟨.none,none,.fields vs,sl⟩=>vs.isEmpty&&sl.isEmpty
 | _=>false
noncomputable def xW(o:Obj):Bool:=!lp o
theorem vb(h:lp o=true):o={cls:=.none,data:=.fields #[]}:=by
 unfold lp at h
 split at h
 ·rw[QN] at h;have e1:=Vi.mp h.1;have e2:=Vi.mp h.2;subst e1;subst e2;rfl
 ·cases h
theorem gO(h:∀vs,o.data≠.fields vs):xW o=true:=by
 unfold xW;cases q:lp o with
 | false=>rfl
 | true=>exact absurd (by rw[vb q]) (h #[])
theorem EE{o:Obj}{vs:Array Value}{i:Nat}{x:Value}(e:o.data=.fields vs)(h:vs[i]?=some x):xW o=true:=by
 unfold xW;cases q:lp o with
 | false=>rfl
 | true=>rw[vb q] at e;cases e;simp at h
noncomputable def Ex(h:Heap)(a:Addr):Option (Addr×Obj):=match h.get? a with
 | some o=>if xW o then some (a,o) else none
 | none=>none
noncomputable def tT(h:Heap):Frag:=(List.range h.objs.size).filterMap (Ex h)
noncomputable def qu(h:Heap)(c:Addr):Option Value:=match h.get? c with
 | some ⟨.type "code",_,.fields vs,_⟩=>match (vs[11]?:Option Value) with
  | some (.ref P)=>match h.get? P with
   | some o=>if lp o then some (.ref P) else none
   | none=>none
  | _=>none
 | _=>none
noncomputable def yL(h:Heap):List Value:=(List.range h.objs.size).filterMap (qu h)
noncomputable def aB(h:Heap):Frag:=if((tT h).lookup mainGlobals).isSome=true then tT h++[(mainGlobals,{cls:=.none,data:=.fields (yL h).toArray})] else tT h
theorem j6{h:Heap}{a:Addr}:(aB h).lookup a=(tT h).lookup a:=by
 unfold aB
 split
 ·rename_i hs;rw[List.lookup_append];cases q:(tT h).lookup a with
  | some o=>rfl
  | none=>
   rw[Option.none_or];rw[QW];cases r:a==mainGlobals with
   | false=>rfl
   | true=>rw[Rt.mp r] at q;rw[q] at hs;cases hs
 ·rfl
theorem jY(h:Heap)(a:Addr):∀l:List Addr,(l.filterMap (Ex h)).lookup a=if a∈l then(Ex h a).map (·.2) else none
 | []=>rfl
 | b::r=>by
  have ih:=jY h a r
  by_cases hb:a=b
  ·subst hb;rw[Qf Qh];rw[Ri];cases e:Ex h a with
   | none=>
    dsimp only;rw[ih,e]
    split <;> rfl
   | some p=>
    have hp:p.1=a:=by
     unfold Ex at e
     split at e
     ·split at e
      ·cases e;rfl
      ·cases e
     ·cases e
    obtain⟨p1,p2⟩:=p;dsimp only at hp;subst hp;simp
  ·have hm:(a∈b::r)↔a∈r:=by simp[hb]
   rw[Ri];cases e:Ex h b with
   | none=>dsimp only;rw[ih];simp only[hm]
   | some p=>
    have hp:p.1=b:=by
     unfold Ex at e
     split at e
     ·split at e
      ·cases e;rfl
      ·cases e
     ·cases e
    obtain⟨p1,p2⟩:=p;dsimp only at hp;subst hp;have hab:(a==p1)=false:=by simpa using hb
    rw[QW,hab];dsimp only;rw[ih];simp only[hm]
theorem bx(e:h.get? a=some o)(f:xW o=true):(aB h).lookup a=some o:=by
 rw[j6];unfold tT;rw[jY,Qf]
 ·unfold Ex;rw[e];dsimp only;rw[Qf f];rfl
 ·rw[RQ];exact Qz e
theorem GQ(h:Heap):(aB h).In h:=λa o e=>by
 rw[j6] at e;unfold tT at e;rw[jY] at e
 split at e
 ·unfold Ex at e;cases g:h.get? a with
  | none=>rw[g] at e;cases e
  | some o'=>
   rw[g] at e;dsimp only at e
   split at e
   ·cases e;rfl
   ·cases e
 ·cases e
theorem zD(e:qu h c=some v):∃P,v=.ref P/\isCodeTable h P/\h.get? P=some {cls:=.none,data:=.fields #[]}:=by
 unfold qu at e
 split at e
 ·rename_i vs sl hc
  split at e
  ·rename_i P h11
   split at e
   ·rename_i o hP
    split at e
    ·rename_i ht;cases e;exact⟨P,rfl,⟨c,_,_,hc,rfl,rfl,h11⟩,by rw[hP,vb ht]⟩
    ·cases e
   ·cases e
  ·cases e
 ·cases e
theorem IC(g:h.Ns mainGlobals mg)(t:ix (aB h) b):isCodeTable h b/\h.get? b=some {cls:=.none,data:=.fields #[]}/\(aB h).lookup b=none:=by
 obtain⟨vs,m,hv⟩:=t;have key:.ref b∈yL h:=by
  have nf:∀vs:Array Value,(mainGlobals,({cls:=.none,data:=.fields vs}:Obj))∉tT h:=λvs m=>by
   obtain⟨a,_,e⟩:=RB.mp m;unfold Ex at e
   split at e
   ·rename_i o ho
    split at e
    ·cases e;obtain⟨o',es,ep,g1,g2,_⟩:=g;rw[g1] at ho;cases ho;cases g2
    ·cases e
   ·cases e
  unfold aB at m
  split at m
  ·rcases Qy.mp m with m | m
   ·exact absurd m (nf vs)
   ·have e:=Qw.mp m;cases e
    simpa using hv
  ·exact absurd m (nf vs)
 obtain⟨c,_,e⟩:=RB.mp key;obtain⟨P,e1,e2,e3⟩:=zD e;cases e1;refine⟨e2,e3,?_⟩;rw[j6];unfold tT;rw[jY]
 split
 ·unfold Ex;rw[e3];rfl
 ·rfl
noncomputable def posOf(s:Stmt):Pos:=match s with
 | .FunctionDef _ _ _ _ _ _ _ _ _ p=>p
 | _=>⟨0,0,0,0⟩
noncomputable def mr(n:Str)(s:Stmt):DefRec:=⟨n,mX s,df s,aj s,posOf s⟩
theorem Ha(r:h.CodeRec cd q):codeIn (aB h) cd q=true:=by
 obtain⟨c,o,vs,t,rfl,g,d,e⟩:=r;have f:xW o=true:=EE d e;unfold codeIn;dsimp only;rw[bx g f];obtain⟨oc,od,dt,sl⟩:=o;dsimp only at d;subst d;dsimp only;obtain⟨l⟩:=vs;cases l with
 | nil=>cases e
 | cons x l=>cases l with
  | nil=>cases e
  | cons y r=>cases y <;> first |(cases e;simp;done) |(cases e;done)
theorem Ay{q:Program}{loose:List Str}{mean:ExcName->Option Value}{mg mb:Str->Option Value}{h:Heap}(T:Top q loose mean mg mb h){n:Str}{st:Stmt}(e:(recsOf q).find? (λe=>e.name==n)=some (mr n st)):
  ∃f fd,mg n=some (.ref f)/\sW (aB h) n n st f fd:=by
 have hm:mr n st∈recsOf q:=Ux e;obtain⟨a,o,pm,code,doc,m,g,d,c⟩:=T.fn _ hm;have f:xW o=true:=gO λvs z=>by rw[d] at z;cases z
 have lk:=bx g f;have kp:keepIn (aB h) (.ref a)=true:=by
  unfold keepIn;dsimp only;rw[lk];obtain⟨oc,od,dt,sl⟩:=o;dsimp only at d;subst d;rfl
 obtain⟨oc,od,dt,sl⟩:=o;dsimp only at d;subst d;exact⟨a,_,m,⟨oc,od,.none,doc,pm,_,code,_,sl,rfl,lk,Ha c⟩,kp⟩
theorem _root_.L2.sW.one{K:Frag}{x qual:Str}{st:Stmt}{f:Addr}{fd:FuncData}{p:Str}(F:sW K x qual st f fd)
  (h:∀(kV doc pm:Value)(an:Option Addr)(cdv ct:Value)(u:Value),bindArgs (PySem.W.fnOf x qual (mX st) (df st) (aj st) .none kV doc pm an cdv ct) ⟨[u],[]⟩=pure [(p,u)]) (s:Shared) (u:Value):BindsTo s fd ⟨[u],[]⟩ [(p,u)]:=by
 obtain⟨oc,od,kV,doc,pm,an,cdv,ct,osl,rfl,lk,hcd⟩:=F.ex;exact .of_eq (h kV doc pm an cdv ct u)
theorem Ks{l:OpenLaw}{q:Program}{loose:List Str}{XP:(Str->Option Value)->Heap->Prop}{YP:World->Heap->Prop}{d:DefRec}{k:Nat}(hn:l.most=some 63)(hdf:d.params.defaults=[])(hr:cH k callerA)
  (F:∀(w:World)(s₀:Shared)(mg mb:Str->Option Value)(h:Heap),Ground q loose [] XP w s₀ mg mb h->YP w h->∃(fa:Addr)(fd:FuncData),mg d.name=some (.ref fa)/\(∀(s:Shared)(u:Value),BindsTo s fd ⟨[u],[]⟩ [("_law_script",u)])/\
   ∀base:Heap,(aB h).In base->base.Ns mainGlobals mg->eO l.prog w (aB h) mg base nz k fa fd ["_law_script"] (spT (aB h))):
  WalkO q loose XP YP l.row.toRowW d [] (λf vs=>PySem.call f vs):=by
 refine Att.yt hn hdf λw s₀ s₁ mg mb fa o pm cd doc a vs ns G Y ho hd hcd hmg hobj hints hlen hg=>?_;obtain⟨fa',fd,e,hb,hF⟩:=F w s₀ mg mb _ G Y;rw[e] at hmg;cases hmg;exact Et (GQ _) G.T.g G.T.b G.T.builtins G.T.nolimit hg hobj hints (Qr hlen (by decide)) hr hF hb (λ_=>IC G.T.g) (λH hS ht=>⟨a,ns,rfl,hS,hlen,ht,λ_ t=>⟨rfl,t⟩⟩) λ_ _ _ z=>z
noncomputable def freeOk(q:Program)(loose xs:List Str):Bool:=xs.all λx=>!startupNames.contains x&&!(looseW q loose).contains x&&!((recsOf q).map (·.name)).contains x&&!((litsOf q).map (·.1)).contains x&&!((clssOf q (looseW q loose)).map (·.name)).contains x
theorem de(T:Top q (looseW q loose) mean mg mb h)(e:freeOk q loose xs=true)(hx:x∈xs):mg x=none:=by
 have:=RU.mp e x hx;simp only[QN,Vh,List.contains_eq_mem,UD] at this;exact T.free x this.1.1.1.1 this.1.1.1.2 this.1.1.2 this.1.2 this.2
end Hd
namespace Sm
open PySem L2
noncomputable def MD(f:Expr->Option D):List Expr->Option (List D)
 | []=>some []
 | e::es=>(f e).bind λd=>(MD f es).bind λds=>some (d::ds)
noncomputable def kD:Nat->Expr->Option D
 | 0,_=>none
 | n+1,e=>match e with
  | .Constant .none _ _=>some .cu
  | .Constant (.bool b) _ _=>some (.bl b)
  | .Constant (.int i) _ _=>some (.int i)
  | .Constant (.str x) _ _=>if PyData.strOk x then some (.str x) else none
  | .UnaryOp .USub (.Constant (.int i) _ _) _=>some (.int (-i))
  | .Tuple es _ _=>(MD (kD n) es).bind λds=>if ds.length<=1000 then some (.tup ds) else none
  | .List es _=>(MD (kD n) es).bind λds=>if ds.length<=1000 then some (.lv ds) else none
  | .Dict [] [] _=>some (.dv [])
  | _=>none
noncomputable def aK(ds:List D):AM:=λ_ h=>some (ds,h)
theorem Nf(ds:List D):kl (aK ds) ds.length:=λδ h xs h' e=>by cases e;rfl
section
variable {X:Cx}
theorem CT(h:kD n e=some d)(es:List Expr):starEach (e::es) X.env=(false,eval e X.env)::starEach es X.env:=by
 cases n with
 | zero=>exact bW h
 | succ n=>cases e <;> first | rfl |(exfalso;exact(nomatch h))
theorem vq(hf:∀{e:Expr} {d:D},f e=some d->SE X e (eK d))(hs:∀{e:Expr} {d:D},f e=some d->∀es:List Expr,starEach (e::es) X.env=(false,eval e X.env)::starEach es X.env):
  ∀{es:List Expr} {ds:List D},MD f es=some ds->SA X es (aK ds)
 | [],ds,h=>by cases h;exact aq
 | e::es,ds,h=>by
  unfold MD at h;obtain⟨d,e1,h⟩:=bB h;obtain⟨r,e2,h⟩:=bB h;cases h;exact(aa (hf e1) (vq hf hs e2) (hs e1 es):SA X _ (ag (eK d) (aK r)))
theorem cP:∀(n:Nat) {e:Expr} {d:D},kD n e=some d->SE X e (eK d)
 | 0,_,_,h=>by cases h
 | n+1,e,d,h=>by
  cases e <;> first |(exact bW h) | skip
  case Constant c _ _=>
   cases c <;> first |(exact bW h) | skip
   case none=>cases h;exact De
   case bool=>cases h;exact Dm
   case int=>cases h;exact aJ
   case str x=>
    have h:(if PyData.strOk x then some (D.str x) else none)=some d:=h
    by_cases hs:PyData.strOk x=true
    ·rw[Qf hs] at h;cases h;exact bc hs
    ·rw[Qo hs] at h;cases h
  case UnaryOp o e _=>
   cases o <;> first |(exact bW h) | skip
   cases e <;> first |(exact bW h) | skip
   rename_i c _ _;cases c <;> first |(exact bW h) | skip
   cases h;exact(zZ u9 aJ:SE X _ (yd lK (eK _)))
  case Tuple es _ _=>
   obtain⟨ds,e1,e2⟩:=bB h
   by_cases hl:ds.length<=1000
   ·rw[Qf hl] at e2;cases e2;exact(cp (vq (cP n) CT e1) (Nf ds) (Qr hl (by decide)):SE X _ (ay aX (aK ds)))
   ·rw[Qo hl] at e2;cases e2
  case List es _=>
   obtain⟨ds,e1,e2⟩:=bB h
   by_cases hl:ds.length<=1000
   ·rw[Qf hl] at e2;cases e2;exact(lG.lv (eh (vq (cP n) CT e1) (Nf ds) (Qr hl (by decide))):SE X _ (gB (aK ds)))
   ·rw[Qo hl] at e2;cases e2
  case Dict ks vs _=>
   cases ks <;> first |(exact bW h) | skip
   cases vs <;> first |(exact bW h) | skip
   cases h;exact L4
end
end Sm
namespace L2
open PySem PySem.Spec PyProof.Rows
noncomputable def km(ns:List Int):List Int:=ns.mergeSort λa b=>decide (a<=b)
theorem iF(ns:List Int):(km ns).Perm ns:=U4 _ _
theorem vd(ns:List Int):(km ns).Pairwise (·<=·):=by
 have:=UK (le:=λa b:Int=>decide (a<=b)) (λa b c h1 h2=>by simp at h1 h2 ⊢;lia) (λa b=>by simp;lia) ns;exact this.imp λh=>by simpa using h
theorem CY(hp:ss.Perm ns)(h:ss.Pairwise (·<=·)):ss=km ns:=
 UC (λa b _ _ h1 h2=>Int.le_antisymm h1 h2) h (vd ns) (hp.trans (iF ns).symm)
theorem zH:gy X (.builtin "sorted") (λxs H Q=>∃a ss,xs=[.ref a]/\gZ X.K H a (ss.map V.int)/\ss.length < 64/\∀l,H l=none->Q (.ref l) (upd H l (.lst ((km ss).map V.int)))):=by
 intro pins s σ H xs us Q I r h;obtain⟨a,ss,rfl,ha,h64,q⟩:=h;obtain⟨u,rfl,ru⟩:=vals1 r;cases ru;obtain⟨its,rv,p,hz⟩:=I.list ha;have hS:=intsAre_of rv;have hlen:its.length=ss.length:=by have:=rv.length;rw[Qb] at this;exact this.symm
 refine sorted_ints p.isList hS (by lia) λout ss' h1 h2 h3=>?_;have:=CY h2 h3;subst this;have hl:s.heap.objs.size<=s.heap.objs.size+1:=RN _;obtain⟨e,ho⟩:=sortedAll_at s.heap its out;have hz':((km ss).map V.int).length<=sizeLine:=by rw[Qb,(iF ss).length_eq,Sr];lia
 refine⟨.ref (s.heap.objs.size+1),_,I.laid (t':=s.toks) (o:=.lst ((km ss).map V.int)) (λb o q=>sortedAll_old q) hl ⟨hz',out.toList,e,nC h1,?_⟩,rfl,q _ (I.a8.fresh hl)⟩;rw[ho]
end L2
namespace Sm
open PySem L2 PySem.Spec PyProof.Rows
noncomputable def EG:Fn:=λds h=>match ds with
 | [d]=>(dR d h).bind λxs=>(se xs).bind λns=>if ns.length < 64 then some (.lv ((km ns).map D.int),h) else none
 | _=>none
theorem repL_ints'{K:FR}{ρ:Ad}{H:Hp}:∀(ns:List Int),aD K ρ H (ns.map V.int) (ns.map D.int)
 | []=>.nil
 | n::r=>.cons (.int n) (repL_ints' r)
theorem EY:iC X (.builtin "sorted") EG:=by
 intro pins s σ H xs us Q I r hh;obtain⟨ρ,h,ds,z,h',S,l,ee,k⟩:=hh
 match ds,l,ee with
 | [],_,ee=>exact bW ee
 | _::_::_,_,ee=>exact bW ee
 | [d],l,ee=>
  obtain⟨v,rfl,rd⟩:=rep1 l;obtain⟨ys,e1,e2⟩:=bB ee;obtain⟨ns,e3,e4⟩:=bB e2
  by_cases c:ns.length < 64
  ·rw[Qf c] at e4;cases e4;obtain⟨a,vs,rfl,ha,la⟩:=eB S rd e1;have:=xY e3;subst this;have:=yX la;subst this;exact zH pins s σ H _ us Q I r ⟨a,ns,rfl,gZ.of ha,c,λl hl=>k _ _ (.lv S (repL_ints' _) hl)⟩
  ·rw[Qo c] at e4;cases e4
noncomputable def zA(m:Ig):EM:=λδ h=>(m δ h).bind λp=>if p.1.length<=15 then some (.ob p.2.length,p.2++[.dct (zj [] p.1)]) else none
theorem Dg(h:SP X pos keys vals m)(hall:keys.all (·.isSome)=true)(hl:keys.length=vals.length)(h0:keys≠[])(hp:∀trs,Le X pos keys vals trs->PE X (.Dict keys vals pos) (CK trs)):SE X (.Dict keys vals pos) (zA m):=by
 obtain⟨trs,h1,h2⟩:=h;refine(hp trs h1).imp λσ H Q ⟨ρ,δ,h,d,h',R,S,ee,k⟩ p hpn=>?_;obtain⟨⟨kvs,ha⟩,e1,e2⟩:=bB ee;dsimp only at e2
 by_cases z:kvs.length<=15
 ·rw[Qf z] at e2;cases e2;have Tl:Ch ρ H (ρ.keep p) (upd H p (.dK [])):=Ch.keep hpn;have nl:¬ρ.has p:=S.fresh hpn;refine h2 σ _ _ ⟨ρ.keep p,δ,h,kvs,_,R.mono Tl,S.keep hpn,e1,λus ρ2 H2 T2 S2 r2=>?_⟩;have hp2:H2 p=some (.dK []):=(T2.res p Qh).trans aO;refine⟨hp2,us,rfl,by rw[r2.len];exact z,?_⟩;obtain⟨ob2,rs2⟩:=ρ2;have ers:rs2=p::ρ.rs:=T2.rs;subst ers;have hml:p∈(⟨ob2,p::ρ.rs⟩:Ad).rs:=Qh;have npo:p∉ob2:=(S2.tq p hml).2;have hne:∀b∈ρ.rs,b≠p:=λb hb z=>nl (.inr (z ▸ hb));generalize hH3:upd H2 p (.dK (gj [] us))=H3;have at3:∀b,b≠p->H3 b=H2 b:=λb hb=>by rw[<-hH3,av hb]
  have C23:Ch ⟨ob2,p::ρ.rs⟩ H2 ⟨ob2++[p],ρ.rs⟩ H3:=by
   refine⟨λn a e=>?_,λb o nb eb=>⟨λz=>?_,?_⟩⟩
   ·show(ob2++[p])[n]?=_;rw[Qt (Qc.mp e).1];exact e
   ·rcases z with z | z
    ·rcases Qy.mp z with z | z
     ·exact nb (.inl z)
     ·exact nb (.inr (by rw[Qw.mp z];exact Qh))
    ·exact nb (.inr (Qi _ z))
   ·rw[at3 b (λz=>nb (.inr (by rw[z];exact Qh)))];exact eb
  refine k _ _ ⟨⟨ob2++[p],ρ.rs⟩,⟨(Tl.trans T2.toCh).trans C23,rfl,λb hb=>?_⟩,?_,.ob (by show(ob2++[p])[ha.length]?=_;rw[<-S2.len];simp)⟩
  ·rw[at3 b (hne b hb),T2.res b (Qi _ hb)];exact av (hne b hb)
  ·refine⟨by show(ob2++[p]).length=_;simp;exact S2.len,?_,λn a x e1 e2=>?_,λb hb=>?_,S.IB ((Tl.trans T2.toCh).trans C23)⟩
   ·show(ob2++[p]).Nodup;rw[Ui];exact⟨S2.nd,by simp,λa ha b hb z=>npo (by rw[<-Qw.mp hb,<-z];exact ha)⟩
   ·have e1:(ob2++[p])[n]?=some a:=e1;have hlen:ob2.length=ha.length:=S2.len
    by_cases hn:n < ob2.length
    ·rw[Qt hn] at e1;rw[Qt (by lia)] at e2;exact(S2.at_ n a x e1 e2).mono C23 (at3 a λz=>npo (z ▸ Qd e1))
    ·have l1:=(Qc.mp e1).1;simp at l1;have hn':n=ob2.length:=by lia
     subst hn';rw[Qv (Qg _)] at e1;rw[Qv (by lia),hlen] at e2;simp at e1 e2;subst e1;subst e2;exact⟨gj [] us,by rw[<-hH3];exact aO,(bC.merge .nil r2).mono C23⟩
   ·obtain⟨⟨o,eo⟩,nb⟩:=S2.tq b (Qi _ hb);refine⟨⟨o,by rw[at3 b (hne b hb)];exact eo⟩,λz=>?_⟩;rcases Qy.mp z with z | z
    ·exact nb z
    ·exact hne b hb (Qw.mp z)
 ·rw[Qo z] at e2;cases e2
noncomputable def zv(d e:D)(h:MH):Option (D×MH):=match e with
 | .int n=>(dR d h).bind λxs=>if 0<=n/\n<=1000/\xs.length<=1000 then some (.lv (List.replicate n.toNat xs).flatten,h) else none
 | _=>none
theorem aD.rep{K:FR}{ρ:Ad}{H:Hp}{vs:List V}{ds:List D}(h:aD K ρ H vs ds):∀k:Nat,aD K ρ H (List.replicate k vs).flatten (List.replicate k ds).flatten
 | 0=>.nil
 | k+1=>by
  rw[Ru,Ru,RO,RO];exact h.append (aD.rep h k)
theorem vJ:oz X (binaryOp .Mult) zv:=by
 intro pins s σ H x y v u Q I rx ry hh;obtain⟨ρ,h,d,e,z,h',S,rd,re,ee,k⟩:=hh;cases e <;> first |(exact bW ee) | skip
 rename_i n;obtain⟨xs,e1,e2⟩:=bB (show(dR d h).bind _=_ from ee)
 by_cases c:0<=n/\n<=1000/\xs.length<=1000
 ·rw[Qf c] at e2;cases e2;obtain⟨a,vs,rfl,ha,la⟩:=eB S rd e1;cases re;have hb:xs.length*n.toNat<=1000*1000:=Nat.mul_le_mul c.2.2 (by lia);exact JK pins s σ H _ _ v u Q I rx ry ⟨a,n,vs,rfl,rfl,ha,by lia,by lia,by rw[la.length,show sizeLine=16777216 from rfl];lia,λl hl=>k _ _ (.lv S (la.rep _) hl)⟩
 ·rw[Qo c] at e2;cases e2
end Sm
namespace L2
open PySem PySem.Spec PyProof.Rows
theorem tX:∀(us:List Value)(o:Nat),(∀(j:Nat) v,us[j]?=some v->∃t,v=.int ((o:Int)+j) t)->Vals ((List.range' o us.length).map λ(k:Nat)=>V.int k) us
 | [],_,_=>.nil
 | u::r,o,h=>by
  rw[Qj,List.range'_succ,Qp];obtain⟨t,e⟩:=h 0 u rfl;refine .cons ⟨t,by rw[e];simp⟩ (tX r (o+1) λj v hv=>?_);obtain⟨t,e⟩:=h (j+1) v (by simpa using hv);exact⟨t,by rw[e];congr 1;lia⟩
theorem Bx(hc:X.calm=true)(hg1:Gl X "list")(hm1:X.mg "list"=none)(hg2:Gl X "range")(hm2:X.mg "range"=none)(hv:bootBuiltins "list"=some (.type "list"))(ha:PA X [a] ta)(hs:starEach [a] X.env=[(false,eval a X.env)]):
  PE X (.Call (.Name "list" p) [.Call (.Name "range" p2) [a] [] pos2] [] pos) (λσ H Q=>ta σ H λvs H1=>∃j:Int,vs=[.int j]/\0<=j/\j<=1000/\∀l,H1 l=none->Q (.ref l) (upd H1 l (.lst ((List.range j.toNat).map λ(k:Nat)=>V.int k)))):=by
 intro pins s σ H Q I h;refine RL (jD I hg1 hm1 hv ?_);refine Rh ?_ rfl rfl;show wpAny _ _ (spliced ((false,eval (.Call (.Name "range" p2) [a] [] pos2) X.env)::backTo pos (starEach [] X.env))) _ _ s;refine Uo ?_;refine RL (jD I hg2 hm2 boot_range (Rh (cQ (ha pos2 pins s σ H _ I h) λus s1 ⟨vs,H1,I1,r1,q1⟩=>?_) hs rfl));obtain⟨j,e,j0,j1,q⟩:=q1;subst e;cases r1 with
 | cons r rr=>
  cases rr;obtain⟨t,rfl⟩:=r;refine call_range_1 ?_;have I2:Inv X pins σ H1 {s1 with heap:=s1.heap.push {cls:=.type "range",data:=.fields #[.int 0 s1.toks,.int j t,.int 1 (s1.toks+1)]},toks:=s1.toks+1+1}:=I1.kept λb o e=>Qm _ e;refine Ut ?_;refine call_list_range (n:=j.toNat) (I1.ok.hd hc) (IsRange.new ..) (small_one (by lia) (by lia) (by lia) (by lia)) (by rw[rangeSize_one];split <;> lia) (by lia) λh' tk acc' c' hk hS' hacc=>?_;have hlen:acc'.toList.length=j.toNat:=by rw[Sq];exact hacc.1
  have hv:Vals ((List.range j.toNat).map λ(k:Nat)=>V.int k) acc'.toList:=by
   have:=tX acc'.toList 0 λi v hv=>by
    obtain⟨t,e⟩:=hacc.2 i v (by simpa using hv);exact⟨t,by rw[e];congr 1;simp⟩
   rw[hlen] at this;rw[List.range_eq_range'];exact this
  refine⟨.ref _,_,I2.laid (t':=tk) (o:=.lst ((List.range j.toNat).map λ(k:Nat)=>V.int k)) hk (Qg _) ⟨by rw[Qb,QO,Sr];lia,acc'.toList,c',hv,?_⟩,rfl,q _ (I2.a8.fresh (Qg _))⟩;rw[hS']
end L2
namespace Sm
open PySem L2 PySem.Spec PyProof.Rows
noncomputable def K5(m:AM):AM:=λδ h=>(m δ h).bind λp=>match p.1 with
 | [.int j]=>if 0<=j/\j<=1000 then some ((List.range j.toNat).map λ(k:Nat)=>D.int k,p.2) else none
 | _=>none
theorem rh{K:FR}{ρ:Ad}{H:Hp}:∀l:List Nat,aD K ρ H (l.map λ(k:Nat)=>V.int k) (l.map λ(k:Nat)=>D.int k)
 | []=>.nil
 | n::r=>.cons (.int n) (rh r)
theorem Bl(hc:X.calm=true)(hg1:Gl X "list")(hm1:X.mg "list"=none)(hg2:Gl X "range")(hm2:X.mg "range"=none)(hv:bootBuiltins "list"=some (.type "list"))(ha:SA X [a] m)(hs:starEach [a] X.env=[(false,eval a X.env)]:=by ac_nf):
  lG X (.Call (.Name "list" p) [.Call (.Name "range" p2) [a] [] pos2] [] pos) (K5 m):=(Bx hc hg1 hm1 hg2 hm2 hv ha hs).imp λσ H Q ⟨ρ,δ,h,ds,h',R,S,e,k⟩=>by
 obtain⟨⟨xs,h1⟩,e1,e2⟩:=bB e;dsimp only at e2
 split at e2
 ·rename_i j
  split at e2
  ·rename_i c;cases e2;refine⟨ρ,δ,h,_,_,R,S,e1,λvs ρ1 H1 T1 S1 r1=>?_⟩;obtain⟨v,rfl,rd⟩:=rep1 r1;cases rd;exact⟨j,rfl,c.1,c.2,λl hl=>k ρ1 H1 l _ T1 S1 hl (rh _)⟩
  ·cases e2
 ·cases e2
noncomputable def Cb(ma mb:EM):AM:=λδ h=>(ma δ h).bind λp=>(mb δ p.2).bind λq=>(dR p.1 q.2).bind λxs=>(dR q.1 q.2).bind λys=>if xs.length+ys.length<=sizeLine then some (xs++ys,q.2) else none
theorem vi(ha:SE X a ma)(hb:SE X b mb):lG X (.BinOp a .Add b pos) (Cb ma mb):=(HK Ed ha hb).imp λσ H Q ⟨ρ,δ,h,ds,h',R,S,e,k⟩=>by
 obtain⟨⟨x,h1⟩,e1,e2⟩:=bB e;obtain⟨⟨y,h2⟩,e3,e4⟩:=bB e2;obtain⟨xs,e5,e6⟩:=bB e4;obtain⟨ys,e7,e8⟩:=bB e6;dsimp only at e3 e5 e7
 split at e8
 ·rename_i c;cases e8;refine⟨ρ,δ,h,x,h1,R,S,e1,λv H1 ⟨ρ1,T1,S1,r1⟩=>⟨ρ1,δ,h1,y,h2,R.mono T1.toCh,S1,e3,λu H2 ⟨ρ2,T2,S2,r2⟩=>?_⟩⟩;obtain⟨a,vs,rfl,hA,lA⟩:=eB S2 (r1.mono T2.toCh) e5;obtain⟨b,us,rfl,hB,lB⟩:=eB S2 r2 e7;exact⟨a,b,vs,us,rfl,rfl,hA,hB,by rw[lA.length,lB.length];exact c,λp hp=>k ρ2 H2 p (vs++us) (T1.trans T2) S2 hp (lA.append lB)⟩
 ·cases e8
end Sm
namespace Sm
open PySem L2
theorem rA:∀cs:List Int,oO (cs.map D.int)=some (cs.map PyData.int)
 | []=>rfl
 | c::r=>by simp only[Qp,oO,vH,rA r,QM,QU]
theorem lr:∀cs:List Int,PyData.depthAll (cs.map PyData.int)=0
 | []=>rfl
 | c::r=>by simp only[Qp,PyData.depthAll,lr r,PyData.depth];rfl
theorem oj{h:MH}{c:Nat}{cs:List Int}(hc:h[c]?=some (.lst (cs.map D.int))):mU (.ob c) (.lv []) h=some (.bl (!cs.isEmpty),h):=by
 simp only[mU,HV,dS,hc,HU,z9,rA,vH,oO,QU,QM,PyData.depth,lr];cases cs <;> rfl
theorem fJ(hn:h[n]?=some (.lst xs))(e:gz xs i=some d):aP (.ob n) (.int i) h=some (d,h):=by
 simp only[aP,dS,hn,dw,QM,e,QU]
theorem qt(hn:h[n]?=some (.lst xs)):cz [.ob n] h=some (.int xs.length,h):=by
 simp only[cz,dS,hn,dw,QU]
theorem iT(hn:h[n]?=some (.lst xs))(e:rZ xs.length i=some p):tU (.ob n) (.int i) d h=some (h.set n (.lst (xs.set p d))):=by
 simp only[tU,hn,e,QU]
theorem Fp(cs:List Int)(i:Int)(h0:0<=i)(h1:i < cs.length):∃z,gz (cs.map D.int) i=some (.int z):=by
 have hlt:i.toNat < cs.length:=by lia
 refine⟨cs[i.toNat]'hlt,?_⟩;have e:((i.toNat:Nat):Int)=i:=Tb h0;have q:gz (cs.map D.int) ((i.toNat:Nat):Int)=some (D.int (cs[i.toNat]'hlt)):=qy (by rw[Qx,QA hlt];rfl);rw[e] at q;exact q
theorem Fm(h0:0<=i)(h1:i < xs.length):∃v,gz xs i=some v/\v∈xs:=by
 have hlt:i.toNat < xs.length:=by lia
 have e:((i.toNat:Nat):Int)=i:=Tb h0;have q:gz xs ((i.toNat:Nat):Int)=some (xs[i.toNat]'hlt):=qy (QA hlt);rw[e] at q;exact⟨_,q,List.getElem_mem hlt⟩
end Sm
namespace Sm
open PySem
def Rn{α:Type}(o:Option α)(Q:α->Prop):Prop:=∃a,o=some a/\Q a
theorem rv(e:o=some a)(q:Q a):Rn o Q:=⟨a,e,q⟩
theorem Rn.imp(r:Rn o Q)(f:∀a,Q a->Q' a):Rn o Q':=let⟨a,e,q⟩:=r;⟨a,e,f a q⟩
theorem aY(r:Rn o λa=>Rn (f a) Q):Rn (o.bind f) Q:=by
 obtain⟨a,e,b,e2,q⟩:=r;exact⟨b,by rw[e];exact e2,q⟩
theorem Ds(r:Rn o λa=>Q (f a)):Rn (o.map f) Q:=by
 obtain⟨a,e,q⟩:=r;exact⟨f a,by rw[e];rfl,q⟩
theorem fN(e:δ[i]?=some (some d))(q:Q (d,h)):Rn (ax i δ h) Q:=⟨(d,h),by unfold ax;rw[e];rfl,q⟩
theorem HH(q:Q (d,h)):Rn (eK d δ h) Q:=⟨_,rfl,q⟩
theorem mx(r:Rn (a δ h) λp=>Rn (b δ p.2) λq=>Rn (f p.1 q.1 q.2) Q):Rn (ao f a b δ h) Q:=aY (r.imp λ_ r=>aY r)
theorem Ot(r:Rn (a δ h) λp=>Rn (f p.1 p.2) Q):Rn (yd f a δ h) Q:=aY r
theorem kA(q:Q ([],h)):Rn (aM δ h) Q:=⟨_,rfl,q⟩
theorem cO(r:Rn (a δ h) λp=>Rn (m δ p.2) λq=>Q (p.1::q.1,q.2)):Rn (ag a m δ h) Q:=aY (r.imp λ_ r=>aY (r.imp λ_ q=>⟨_,rfl,q⟩))
theorem DD(r:Rn (m δ h) λp=>Rn (f p.1 p.2) Q):Rn (ay f m δ h) Q:=aY r
theorem Ov(r:Rn (t δ h) λp=>(p.1=true->Rn (a δ p.2) Q)/\(p.1=false->Rn (b δ p.2) Q)):Rn (OY t a b δ h) Q:=aY (r.imp λp ⟨q1,q2⟩=>by
 obtain⟨c,h⟩:=p;cases c with
 | true=>exact q1 rfl
 | false=>exact q2 rfl)
theorem nS(r:Rn (a δ h) λp=>∃c,p.1=.bl c/\Q (c,p.2)):Rn (aE a δ h) Q:=aY (r.imp λp ⟨c,e,q⟩=>⟨(c,p.2),by rw[e],q⟩)
theorem y1(r:Rn (a δ h) λp=>∃c,yJ p.1 p.2=some c/\Q (c,p.2)):Rn (qG a δ h) Q:=aY (r.imp λp ⟨c,e,q⟩=>⟨(c,p.2),by rw[e];rfl,q⟩)
theorem nR(r:Rn (t δ h) λp=>Q (!p.1,p.2)):Rn (Sm.nF t δ h) Q:=Ds r
theorem Jd(r:Rn (a δ h) λp=>(p.1=true->Rn (b δ p.2) Q)/\(p.1=false->Q (false,p.2))):Rn (Sm.lM a b δ h) Q:=aY (r.imp λp ⟨q1,q2⟩=>by
 obtain⟨c,h⟩:=p;cases c with
 | true=>exact q1 rfl
 | false=>exact⟨_,rfl,q2 rfl⟩)
theorem HG(r:Rn (a δ h) λp=>(p.1=true->Q (true,p.2))/\(p.1=false->Rn (b δ p.2) Q)):Rn (Sm.FJ a b δ h) Q:=aY (r.imp λp ⟨q1,q2⟩=>by
 obtain⟨c,h⟩:=p;cases c with
 | true=>exact⟨_,rfl,q1 rfl⟩
 | false=>exact q2 rfl)
theorem Mh(r:Rn (a δ h) λp=>∃c,p.1=.bl c/\(c=true->Rn (b δ p.2) Q)/\(c=false->Q (.bl false,p.2))):Rn (KG a b δ h) Q:=aY (r.imp λp ⟨c,e,q1,q2⟩=>by
 rw[e];cases c with
 | true=>exact q1 rfl
 | false=>exact⟨_,rfl,q2 rfl⟩)
theorem vD(r:Rn (m δ h) λp=>Q (.lv p.1,p.2)):Rn (gB m δ h) Q:=Ds r
theorem Ou(r:Rn (m δ h) λp=>Q (.ob p.2.length,p.2++[.lst p.1])):Rn (ye m δ h) Q:=Ds r
theorem Jf(r:Rn (m δ h) λp=>∃d xs ws,p.1=[d]/\dw d p.2=some (xs,ws)/\Q (xs,p.2)):Rn (Fq m δ h) Q:=aY (r.imp λp ⟨d,xs,ws,e,e2,q⟩=>⟨(xs,p.2),by rw[e];dsimp only;rw[e2];rfl,q⟩)
theorem L9(q:Q (none,h)):Rn (xD δ h) Q:=⟨_,rfl,q⟩
theorem Ma(r:Rn (a δ h) λp=>∃i,p.1=.int i/\Q (some i,p.2)):Rn (xE a δ h) Q:=aY (r.imp λp zz=>by obtain⟨c,e,q⟩:=zz;exact⟨_,by rw[e],q⟩)
abbrev SQ:=Fl×DS×MH->Prop
theorem Je(q:Q (.nx,δ,h)):Rn (cq δ h) Q:=⟨_,rfl,q⟩
def zU(b:SM)(Q:SQ):SQ:=λr=>match r.1 with
 | .nx=>Rn (b r.2.1 r.2.2) Q
 | _=>Q r
theorem fv(r:Rn (a δ h) (zU b Q)):Rn (au a b δ h) Q:=aY (r.imp λp q=>by
 obtain⟨f,δ',h'⟩:=p;cases f with
 | nx=>exact q
 | bk=>exact⟨_,rfl,q⟩
 | ct=>exact⟨_,rfl,q⟩
 | rt d=>exact⟨_,rfl,q⟩)
theorem xr(r:Rn (e δ h) λp=>Q (.nx,δ.set i (some p.1),p.2)):Rn (aR i e δ h) Q:=aY (r.imp λ_ q=>⟨_,rfl,q⟩)
theorem DF(r:Rn (e δ h) λp=>Rn (g p.1 δ p.2) λq=>Q (.nx,q.1,q.2)):Rn (fD e g δ h) Q:=aY (r.imp λ_ r=>aY (r.imp λ_ q=>⟨_,rfl,q⟩))
theorem DE(r:Rn (e δ h) λp=>Q (.nx,δ,p.2)):Rn (gb e δ h) Q:=aY (r.imp λ_ q=>⟨_,rfl,q⟩)
theorem xt(r:Rn (e δ h) λp=>Q (.rt p.1,δ,p.2)):Rn (a9 e δ h) Q:=aY (r.imp λ_ q=>⟨_,rfl,q⟩)
theorem xp(r:Rn (t δ h) λp=>(p.1=true->Rn (a δ p.2) Q)/\(p.1=false->Rn (b δ p.2) Q)):Rn (fU t a b δ h) Q:=aY (r.imp λp ⟨q1,q2⟩=>by
 obtain⟨c,h⟩:=p;cases c with
 | true=>exact q1 rfl
 | false=>exact q2 rfl)
theorem Mb(r:Rn (m δ h) λp=>∃a b,p.1=[a,b]/\Q (.nx,(δ.set i (some a)).set j (some b),p.2)):Rn (vt i j m δ h) Q:=aY (r.imp λp zz=>by obtain⟨a,b,e,q⟩:=zz;exact⟨_,by rw[e],q⟩)
theorem Bq(q:Q (δ.set i (some d),h)):Rn (gN i d δ h) Q:=⟨_,rfl,q⟩
theorem Ji(r:Rn (o δ h) λp=>Rn (i δ p.2) λq=>Rn (tU p.1 q.1 v q.2) λh'=>Q (δ,h')):Rn (Sm.pU o i v δ h) Q:=aY (r.imp λ_ r=>aY (r.imp λ_ r=>Ds r))
theorem Jh(hn:xs.length=n)(r:Rn (u xs δ h) Q):Rn (gT n u (.tup xs) δ h) Q:=by
 unfold gT;dsimp only;rw[Qf hn];exact r
theorem hW(r:Rn (g d δ h) λp=>Rn (u xs p.1 p.2) Q):Rn (ar g u (d::xs) δ h) Q:=aY r
theorem vE(q:Q (δ,h)):Rn (bU [] δ h) Q:=⟨_,rfl,q⟩
def F7(Q:D×MH->Prop):SQ:=λr=>match r.1 with
 | .rt d=>Q (d,r.2.2)
 | .nx=>Q (.cu,r.2.2)
 | _=>False
theorem OK(q:Q (d,h)):F7 Q (.rt d,δ,h):=q
theorem OL(q:Q (.cu,h)):F7 Q (.nx,δ,h):=q
theorem sY(r:Rn (b δ h) Q):zU b Q (.nx,δ,h):=r
theorem NY(q:Q (.rt d,δ,h)):zU b Q (.rt d,δ,h):=q
def HR(I:DS->MH->Prop)(Q:SQ):SQ:=λz=>match z.1 with
 | .nx=>I z.2.1 z.2.2
 | .ct=>I z.2.1 z.2.2
 | .bk=>Q (.nx,z.2.1,z.2.2)
 | .rt d=>Q (.rt d,z.2.1,z.2.2)
theorem OR(q:I δ h):HR I Q (.nx,δ,h):=q
theorem bD(r:Rn (b (entry len ds) h) (F7 Q)):Rn (jT len b ds h) Q:=aY (r.imp λp q=>by
 obtain⟨f,δ',h'⟩:=p;cases f with
 | nx=>exact⟨_,rfl,q⟩
 | rt d=>exact⟨_,rfl,q⟩
 | bk=>exact q.elim
 | ct=>exact q.elim)
theorem Mg(r:Rn (i δ h) λp=>Rn (mT p.2.1 g b p.1 δ p.2.2) Q):Rn (hU i g b δ h) Q:=aY r
theorem cD:∀{xs:List D} {δ:DS} {h:MH} (I:Nat->DS->MH->Prop),I 0 δ h->(∀i δ h,i<=xs.length->I i δ h->pW ws h=true)->
  (∀i x δ h,xs[i]?=some x->I i δ h->Rn (g x δ h) λq=>Rn (b q.1 q.2) (HR (I (i+1)) Q))->(∀δ h,I xs.length δ h->Q (.nx,δ,h))->Rn (mT ws g b xs δ h) Q
 | [],δ,h,I,h0,hc,_,hq=>by
  unfold mT;rw[Qf (hc 0 δ h (Qg _) h0)];exact⟨_,rfl,hq δ h h0⟩
 | x::xs,δ,h,I,h0,hc,ht,hq=>by
  unfold mT;rw[Qf (hc 0 δ h (RV _) h0)];obtain⟨q,e1,z,e2,hz⟩:=ht 0 x δ h rfl h0;rw[e1];show Rn ((b q.1 q.2).bind _) Q;rw[e2];obtain⟨f,δ',h'⟩:=z;have next:I 1 δ' h'->Rn (mT ws g b xs δ' h') Q:=λhi=>cD (λi=>I (i+1)) hi (λi δ h hl=>hc (i+1) δ h (SX hl)) (λi x δ h hx=>ht (i+1) x δ h (by simpa using hx)) hq
  cases f with
  | nx=>exact next hz
  | ct=>exact next hz
  | bk=>exact⟨_,rfl,hz⟩
  | rt d=>exact⟨_,rfl,hz⟩
theorem eR(r:Rn (e δ h) λp=>∃xs ws,dw p.1 p.2=some (xs,ws)/\Q (xs,ws,p.2)):Rn (eN e δ h) Q:=aY (r.imp λp ⟨xs,ws,e,q⟩=>⟨(xs,ws,p.2),by rw[e];rfl,q⟩)
theorem gU(r:Rn (m δ h) λp=>∃j:Int,p.1=[.int j]/\-(2^62)<=j/\j < 2^62/\Q ((List.range j.toNat).map λ(k:Nat)=>D.int (k:Int),[],p.2)):Rn (pT m δ h) Q:=aY (r.imp λp ⟨j,e,h1,h2,q⟩=>by
 rw[e];dsimp only;rw[Qf ⟨h1,h2⟩];exact⟨_,rfl,q⟩)
theorem my(r:Rn (m δ h) λp=>∃d xs ws,p.1=[d]/\dw d p.2=some (xs,ws)/\Q (kH 0 xs,ws,p.2)):Rn (sf m δ h) Q:=
 aY (r.imp λp zz=>by obtain⟨d,xs,ws,e1,e2,q⟩:=zz;exact⟨_,by rw[e1];dsimp only;rw[e2];rfl,q⟩)
theorem Jj(r:Rn (i δ h) λp=>Rn (bP p.2.1 g c e p.1 (gq caps δ) p.2.2) λq=>q.1.length<=sizeLine/\Q q):Rn (cm caps i g c e δ h) Q:=
 aY (r.imp λp r=>aY (r.imp λq ⟨hz,hq⟩=>⟨q,by rw[Qf hz],hq⟩))
theorem vF(hc:pW ws h=true)(f:D->Option D)(J:DS->Prop):∀{xs:List D} {δ:DS},J δ->
  (∀x∈xs,∀δ,J δ->Rn (g x δ h) λq=>q.2=h/\Rn (c q.1 h) λt=>t.2=h/\J q.1/\(t.1=true->∃y,f x=some y/\Rn (e q.1 h) λp=>p=(y,h))/\(t.1=false->f x=none))->
  bP ws g c e xs δ h=some (xs.filterMap f,h)
 | [],δ,_,_=>by unfold bP;rw[Qf hc];rfl
 | x::xs,δ,hJ,ht=>by
  unfold bP;rw[Qf hc];obtain⟨⟨δ1,h1⟩,e1,rfl,⟨t,h2⟩,e2,rfl,J1,q1,q2⟩:=ht x Qh δ hJ;rw[e1];dsimp only[Option.bind_some] at e2 q1 q2 ⊢;rw[e2];dsimp only[Option.bind_some];have ih:=vF hc f J J1 (xs:=xs) λy hy=>ht y (Qi _ hy);cases t with
  | true=>
   obtain⟨y,ef,p,ep,rfl⟩:=q1 rfl;rw[Qf rfl,ep];dsimp only[Option.bind_some];rw[ih,Ri,ef];rfl
  | false=>
   rw[Qo (by simp),ih,Ri,q2 rfl]
end Sm
namespace Sm
theorem Jc(q:Q (d,h))(e:δ[i]?=some (some d):=by with_unfolding_all rfl):Rn (ax i δ h) Q:=fN e q
theorem Mf(r:Rn (u xs δ h) Q)(hn:xs.length=n:=by with_unfolding_all rfl):Rn (gT n u (.tup xs) δ h) Q:=Jh hn r
end Sm
namespace Sm
open PySem L2
theorem y2(hh:Rn (a δ h) λp=>Rn (l δ p.2) λq=>Rn (u δ q.2) λr=>Rn (iS p.1 q.1 r.1 r.2) Q):Rn (jE a l u δ h) Q:=aY (hh.imp λ_ x=>aY (x.imp λ_ y=>aY y))
theorem xu(hh:Rn (ma δ h) λp=>Rn (mb δ p.2) λq=>Rn (f p.1 q.1 q.2) λr=>∃b,r.1=.bl b/\if b=true then Rn (mc δ r.2) λu=>Rn (f' q.1 u.1 u.2) Q else Q (.bl false,r.2)):Rn (jF f f' ma mb mc δ h) Q:=
 aY (hh.imp λp x=>aY (x.imp λq y=>aY (y.imp λr ⟨b,e,k⟩=>by
  rw[e];cases b with
  | true=>rw[Qf rfl] at k;exact aY k
  | false=>rw[Qo (by simp)] at k;exact⟨_,rfl,k⟩)))
theorem Lu(q:Q (.tup ds,h)):Rn (aX ds h) Q:=⟨_,rfl,q⟩
theorem Lw(q:Q (.int (-a),h)):Rn (lK (.int a) h) Q:=⟨_,rfl,q⟩
theorem w_add(q:Q (.int (a+b),h)):Rn (az (.int a) (.int b) h) Q:=⟨_,rfl,q⟩
theorem w_sub(q:Q (.int (a-b),h)):Rn (sm (.int a) (.int b) h) Q:=⟨_,rfl,q⟩
theorem w_lt(q:Q (.bl (decide (a < b)),h)):Rn (Cj (.int a) (.int b) h) Q:=⟨_,rfl,q⟩
theorem NU(q:Q (.bl (decide (b < a)),h)):Rn (wj (.int a) (.int b) h) Q:=⟨_,rfl,q⟩
theorem NV(q:Q (.bl (decide (b<=a)),h)):Rn (MW (.int a) (.int b) h) Q:=⟨_,rfl,q⟩
theorem LB(q:Q (.bl (a==b),h)):Rn (cF (.int a) (.int b) h) Q:=⟨_,rfl,q⟩
theorem LA(q:Q (.bl (x==y),h)):Rn (cF (.str x) (.str y) h) Q:=⟨_,rfl,q⟩
theorem Lz(q:Q (d,h)):Rn (aP (.tup (d::r)) (.int 0) h) Q:=⟨_,by
 show((gz (d::r) 0).map λz=>(z,h))=_;have:gz (d::r) 0=some d:=by unfold gz;rw[show rZ (d::r).length 0=some 0 by unfold rZ;simp;try lia];rfl
 rw[this];rfl,q⟩
theorem Ly(q:Q (e,h)):Rn (aP (.tup (d::e::r)) (.int 1) h) Q:=⟨_,by
 show((gz (d::e::r) 1).map λz=>(z,h))=_;have:gz (d::e::r) 1=some e:=by unfold gz;rw[show rZ (d::e::r).length 1=some 1 by unfold rZ;simp;try lia];rfl
 rw[this];rfl,q⟩
theorem Lx(q:Q (f,h)):Rn (aP (.tup (d::e::f::r)) (.int 2) h) Q:=⟨_,by
 show((gz (d::e::f::r) 2).map λz=>(z,h))=_;have:gz (d::e::f::r) 2=some f:=by unfold gz;rw[show rZ (d::e::f::r).length 2=some 2 by unfold rZ;simp;try lia];rfl
 rw[this];rfl,q⟩
theorem Ip(q:Q (.int r.length,h)):Rn (cz [.tup r] h) Q:=⟨_,rfl,q⟩
theorem Iq(q:Q (.int r.length,h)):Rn (cz [.lv r] h) Q:=⟨_,rfl,q⟩
inductive sV{α β:Type}(R:α->β->Prop):List α->List β->Prop where
 | nil:sV R [] []
 | cons {x y xs ys}:R x y->sV R xs ys->sV R (x::xs) (y::ys)
theorem sV.length{xs:List α}{ys:List β}(a:sV R xs ys):ys.length=xs.length:=by
 induction a with
 | nil=>rfl
 | cons _ t ih=>rw[Qj,Qj,ih]
theorem sV.right{xs:List α}{ys:List β}(a:sV R xs ys):∀y∈ys,∃x∈xs,R x y:=by
 induction a with
 | nil=>exactλ_ h=>(nomatch h)
 | cons r t ih=>
  intro y h;rcases Ql.mp h with rfl | h
  ·exact⟨_,Qh,r⟩
  ·obtain⟨x,hx,r⟩:=ih y h;exact⟨x,Qi _ hx,r⟩
theorem qk(R:D->D->Prop):∀{xs:List D} {δ:DS} {h:MH} (J:Nat->DS->MH->Prop),J 0 δ h->(∀i δ h,i<=xs.length->J i δ h->pW ws h=true)->
  (∀i x δ h,xs[i]?=some x->J i δ h->Rn (g x δ h) λq=>Rn (e q.1 q.2) λy=>R x y.1/\J (i+1) q.1 y.2)->Rn (bP ws g dQ e xs δ h) λp=>sV R xs p.1/\∃δ',J xs.length δ' p.2
 | [],δ,h,J,hJ,hc,_=>by
  unfold bP;rw[Qf (hc 0 δ h (Qg _) hJ)];exact⟨_,rfl,.nil,δ,hJ⟩
 | x::xs,δ,h,J,hJ,hc,ht=>by
  unfold bP;rw[Qf (hc 0 δ h (RV _) hJ)];obtain⟨⟨δ1,h1⟩,e1,⟨y,h2⟩,e2,r,J1⟩:=ht 0 x δ h rfl hJ;dsimp only at e2 r J1;obtain⟨⟨ys,h3⟩,e3,a,δ',J2⟩:=qk R (xs:=xs) (λi=>J (i+1)) J1 (λi δ h hl=>hc (i+1) δ h (SX hl)) λi y δ h hy=>ht (i+1) y δ h (by simpa using hy);refine⟨(y::ys,h3),?_,.cons r a,δ',J2⟩;rw[e1];dsimp only[Option.bind_some];show((some (true,h1)).bind _)=_;dsimp only[Option.bind_some];rw[Qf rfl,e2];dsimp only[Option.bind_some];rw[e3];rfl
theorem qj(R:D->D->Prop):∀{xs:List D} {δ:DS} {h:MH} (J:Nat->DS->MH->Prop),J 0 δ h->(∀i δ h,i<=xs.length->J i δ h->pW ws h=true)->
  (∀i x δ h,xs[i]?=some x->J i δ h->Rn (g x δ h) λq=>Rn (c q.1 q.2) λt=>(t.1=true->Rn (e q.1 t.2) λy=>R x y.1/\J (i+1) q.1 y.2)/\(t.1=false->J (i+1) q.1 t.2))->Rn (bP ws g c e xs δ h) λp=>p.1.length<=xs.length/\(∀y∈p.1,∃x∈xs,R x y)/\∃δ',J xs.length δ' p.2
 | [],δ,h,J,hJ,hc,_=>by
  unfold bP;rw[Qf (hc 0 δ h (Qg _) hJ)];exact⟨_,rfl,Qg _,λ_ z=>(nomatch z),δ,hJ⟩
 | x::xs,δ,h,J,hJ,hc,ht=>by
  unfold bP;rw[Qf (hc 0 δ h (RV _) hJ)];obtain⟨⟨δ1,h1⟩,e1,⟨t,h2⟩,e2,q1,q2⟩:=ht 0 x δ h rfl hJ;dsimp only at e2 q1 q2;rw[e1];dsimp only[Option.bind_some];rw[e2];dsimp only[Option.bind_some];have next:=λ{δ':DS} {h':MH} (J1:J 1 δ' h')=>qj R (xs:=xs) (λi=>J (i+1)) J1 (λi δ h hl=>hc (i+1) δ h (SX hl)) λi y δ h hy=>ht (i+1) y δ h (by simpa using hy)
  cases t with
  | true=>
   obtain⟨⟨y,h3⟩,e3,r,J1⟩:=q1 rfl;dsimp only at r J1;obtain⟨⟨ys,h4⟩,e4,l,a,δ',J2⟩:=next J1
   refine⟨(y::ys,h4),?_,SX l,λz hz=>?_,δ',J2⟩
   ·rw[Qf rfl,e3];dsimp only[Option.bind_some];rw[e4];rfl
   ·rcases Ql.mp hz with rfl | hz
    ·exact⟨x,Qh,r⟩
    ·obtain⟨u,hu,r⟩:=a z hz;exact⟨u,Qi _ hu,r⟩
  | false=>
   obtain⟨⟨ys,h4⟩,e4,l,a,δ',J2⟩:=next (q2 rfl)
   refine⟨(ys,h4),?_,Ud l,λz hz=>?_,δ',J2⟩
   ·rw[Qo (by decide),e4]
   ·obtain⟨u,hu,r⟩:=a z hz;exact⟨u,Qi _ hu,r⟩
theorem M0(r:Rn (e δ h) λp=>Rn (b (δ.set i (some p.1)) p.2) Q):Rn (au (aR i e) b δ h) Q:=fv (xr (r.imp λ_ q=>sY q))
theorem M6(r:Rn (e δ h) λp=>Rn (g p.1 δ p.2) λq=>Rn (b q.1 q.2) Q):Rn (au (fD e g) b δ h) Q:=fv (DF (r.imp λ_ q=>q.imp λ_ q=>sY q))
theorem KZ(r:Rn (e δ h) λp=>Rn (b δ p.2) Q):Rn (au (gb e) b δ h) Q:=fv (DE (r.imp λ_ q=>sY q))
theorem P6(r:Rn (m δ h) λq=>Q (d::q.1,q.2))(e:δ[i]?=some (some d):=by with_unfolding_all rfl):Rn (ag (ax i) m δ h) Q:=cO (fN e r)
theorem P7(r:Rn (m δ h) λq=>Q (d::q.1,q.2)):Rn (ag (eK d) m δ h) Q:=cO (HH r)
theorem O8(r:Rn (f [d] h) Q)(e:δ[i]?=some (some d):=by with_unfolding_all rfl):Rn (ay f (ag (ax i) aM) δ h) Q:=DD (cO (fN e (kA r)))
theorem O7(r:Rn (f [d,d'] h) Q)(e:δ[i]?=some (some d):=by with_unfolding_all rfl)(e':δ[j]?=some (some d'):=by with_unfolding_all rfl):Rn (ay f (ag (ax i) (ag (ax j) aM)) δ h) Q:=DD (cO (fN e (cO (fN e' (kA r)))))
theorem O6(r:Rn (f [d,d',d''] h) Q)(e:δ[i]?=some (some d):=by with_unfolding_all rfl)(e':δ[j]?=some (some d'):=by with_unfolding_all rfl)(e'':δ[k]?=some (some d''):=by with_unfolding_all rfl):Rn (ay f (ag (ax i) (ag (ax j) (ag (ax k) aM))) δ h) Q:=DD (cO (fN e (cO (fN e' (cO (fN e'' (kA r)))))))
theorem M3(r:Rn (f d c h) Q)(e:δ[i]?=some (some d):=by with_unfolding_all rfl):Rn (ao f (ax i) (eK c) δ h) Q:=mx (fN e (HH r))
theorem M1(r:Rn (f d d' h) Q)(e:δ[i]?=some (some d):=by with_unfolding_all rfl)(e':δ[j]?=some (some d'):=by with_unfolding_all rfl):Rn (ao f (ax i) (ax j) δ h) Q:=mx (fN e (fN e' r))
theorem O4(r:Rn (b δ h) λq=>Rn (f d q.1 q.2) Q)(e:δ[i]?=some (some d):=by with_unfolding_all rfl):Rn (ao f (ax i) b δ h) Q:=mx (fN e r)
theorem O5(r:Rn (a δ h) λq=>Rn (f q.1 c q.2) Q):Rn (ao f a (eK c) δ h) Q:=mx (r.imp λ_ r=>HH r)
theorem M5(q:Q ((δ.set i (some a)).set j (some b),h)):Rn (gT 2 (ar (gN i) (ar (gN j) bU)) (.tup [a,b]) δ h) Q:=Jh rfl (hW (Bq (hW (Bq (vE q)))))
theorem M4(q:Q (((δ.set i (some a)).set j (some b)).set k (some c),h)):Rn (gT 3 (ar (gN i) (ar (gN j) (ar (gN k) bU))) (.tup [a,b,c]) δ h) Q:=Jh rfl (hW (Bq (hW (Bq (hW (Bq (vE q)))))))
theorem KU(q:Q (.rt d,δ,h))(e:δ[i]?=some (some d):=by with_unfolding_all rfl):Rn (a9 (ax i) δ h) Q:=xt (fN e q)
theorem KW(q:Q (.rt d,δ,h)):Rn (a9 (eK d) δ h) Q:=xt (HH q)
end Sm
namespace L2
open PySem PySem.Spec PyProof.Rows
abbrev OP:Hp:=λ_=>none
structure Tab(P:Program)(w:World)(K:FR)(mg:Str->Option Value)(nm:Str)(tb:List (Str×List Int)):Prop where
 ex:∃(a:Addr)(o:Obj)(es:Array DictEntry)(ep:Nat)(kvs:List (Str×Value)),mg nm=some (.ref a)/\K.lookup a=some o/\o.ExactDict/\o.data=.dict es ep/\(a==sysModules)=false/\KeysOf (strKind P w) es/\Pairs (strKind P w) es.toList kvs/\(kvs.map (·.1)).Nodup/\
  Sm.sV (λ(x:Str×List Int)(y:Str×Value)=>x.1=y.1/\∃(t:Addr)(u:Obj)(its:Array Value)(n:Nat),y.2=.ref t/\K.lookup t=some u/\u.cls=.type "tuple"/\u.dict=none/\u.data=.seq its n/\its.size<=sizeLine/\IntsAre its.toList x.2) tb kvs
theorem Bf{K:FR}:∀{tb:List (Str×List Int)} {kvs:List (Str×Value)},Sm.sV (λ(x:Str×List Int)(y:Str×Value)=>x.1=y.1/\∃(t:Addr)(u:Obj)(its:Array Value)(n:Nat),y.2=.ref t/\K.lookup t=some u/\u.cls=.type "tuple"/\u.dict=none/\u.data=.seq its n/\its.size<=sizeLine/\IntsAre its.toList x.2) tb kvs->∀x:Str,
  (∀is,tb.lookup x=some is->∃t,valueAt kvs x=some (.ref t)/\∀H,kJ K H t (is.map V.int))/\(valueAt kvs x).isSome=(tb.lookup x).isSome:=by
 intro tb kvs h
 induction h with
 | nil=>exactλx=>⟨λis e=>(nomatch e),rfl⟩
 | @cons p q tb kvs r l ih=>
  intro x;obtain⟨a,is0⟩:=p;obtain⟨b,v⟩:=q;obtain⟨e0,t,u,its,n,e1,h1,h2,h3,h4,h5,h6⟩:=r;dsimp only at e0 e1 h6;subst e0;subst e1
  by_cases hx:x=a
  ·subst hx;have hv:valueAt ((x,Value.ref t)::kvs) x=some (.ref t):=by unfold valueAt;simp
   have hl:((x,is0)::tb).lookup x=some is0:=by simp
   refine⟨λis e=>?_,by rw[hv,hl];rfl⟩;rw[hl] at e;cases e;exact⟨t,hv,λH=>.inr ⟨u,its,n,h1,h2,h4,h5,nC h6,h3⟩⟩
  ·have hv:valueAt ((a,Value.ref t)::kvs) x=valueAt kvs x:=by
    unfold valueAt;rw[List.find?_cons_of_neg (by simpa using λz=>hx z.symm)]
   have hl:((a,is0)::tb).lookup x=tb.lookup x:=by
    rw[QW,show(x==a)=false by simpa using hx]
   rw[hv,hl];exact ih x
theorem Tab.dict(T:Tab X.prog X.w X.K X.mg nm tb)(I:Inv X pins σ H s):∃(a:Addr)(kvs:List (Str×Value)),X.mg nm=some (.ref a)/\(a==sysModules)=false/\s.heap.DictOf (strKind X.prog X.w) a kvs/\∀x:Str,
  (∀is,tb.lookup x=some is->∃t,valueAt kvs x=some (.ref t)/\∀H,kJ X.K H t (is.map V.int))/\(valueAt kvs x).isSome=(tb.lookup x).isSome:=by
 obtain⟨a,o,es,ep,kvs,h1,h2,h3,h4,h5,h6,h7,h8,h9⟩:=T.ex;exact⟨a,kvs,h1,h5,⟨o,es,ep,I.As a o h2,h3,h4,h6,h7,h8⟩,Bf h9⟩
theorem Ju(T:Tab X.prog X.w X.K X.mg nm tb)(hg:Gl X nm)(hi:PE X i ti)(hs:Hn i)(hd:(nm==("__debug__":Str))=false):
  PE X (.Subscript (.Name nm p) i pos) (λσ H Q=>ti σ H λy H1=>∃x is,y=.str x/\tb.lookup x=some is/\∀t,kJ X.K OP t (is.map V.int)->Q (.ref t) H1):=by
 intro pins s σ H Q I h;obtain⟨a,kvs,hm,hsm,dd,hv⟩:=T.dict I;refine FO Uw.lookup hs (j4 I hg hm (cQ (hi pins s σ H _ I h) λiv s2 ⟨y,H2,I2,ry,x,is,ey,l,q⟩=>?_) hd);subst ey;obtain⟨t,rfl⟩:=ry;obtain⟨a',kvs',hm',hsm',dd',hv'⟩:=T.dict I2;rw[hm] at hm';cases hm';obtain⟨u,e,sq⟩:=(hv' x).1 is l;exact⟨dd'.typeIs,wpAny_getItem_of (by show Value.isStrOf x (.str x t)=true;unfold Value.isStrOf;simp) dd'.mapOf e ⟨.ref u,H2,I2.tok _,rfl,q u (sq _)⟩⟩
end L2
namespace Sm
open PySem L2 PySem.Spec PyProof.Rows
noncomputable def G0(tb:List (Str×List Int))(d:D)(h:MH):Option (D×MH):=match d with
 | .str x=>(tb.lookup x).map λis=>(.tup (is.map D.int),h)
 | _=>none
theorem C8(T:Tab X.prog X.w X.K X.mg nm tb)(hi:SE X i mi)(hg:Gl X nm:=by unfold Gl;ac_nf)(hs:Hn i:=by unfold Hn;intro _ _;ac_nf)(hd:(nm==("__debug__":Str))=false:=by ac_nf):SE X (.Subscript (.Name nm p) i pos) (yd (G0 tb) mi):=
 (Ju T hg hi hs hd).imp λσ H Q ⟨ρ,δ,h,d,h',R,S,e,k⟩=>by
  obtain⟨⟨x,h1⟩,e1,e2⟩:=bB e;dsimp only at e2;refine⟨ρ,δ,h,x,h1,R,S,e1,λv H1 ⟨ρ1,T1,S1,r1⟩=>?_⟩;unfold G0 at e2
  split at e2
  ·rename_i y;obtain⟨is,e3,e4⟩:=gM e2;cases e4;cases r1;exact⟨_,is,rfl,e3,λt sq=>k _ _ ⟨ρ1,T1,S1,.tup (.inr sq) (repL_ints' is)⟩⟩
  ·cases e2
end Sm
namespace Hd
open PySem PySem.W PySem.Spec PyProof.Rows L2 Sm
abbrev Sub(h h':Heap):Prop:=∀b o,h.get? b=some o->h'.get? b=some o
theorem yV(k:Sub h h')(x:rowAt h e=some r):rowAt h' e=some r:=by
 unfold rowAt at x ⊢
 split at x
 ·split at x
  ·split at x
   ·rename_i u hu;rw[k _ _ hu];exact x
   ·cases x
  ·cases x
 ·cases x
theorem oN(k:Sub h h'):∀{es:List DictEntry} {r:List (Str×Int×List Int)},kQ h es=some r->kQ h' es=some r
 | [],_,x=>x
 | e::es,r,x=>by
  unfold kQ at x ⊢;obtain⟨y,e1,x⟩:=Sx.mp x;obtain⟨ys,e2,x⟩:=QD.mp x;rw[yV k e1,oN k e2];exact congrArg some x
theorem yM(k:Sub h h')(x:tabAt h nm=some r):tabAt h' nm=some r:=by
 have hg:∀v,h.nsMap mainGlobals nm=some v->h'.nsMap mainGlobals nm=some v:=λv e=>by
  unfold Heap.nsMap at e ⊢
  split at e
  ·rename_i o ho;rw[k _ _ ho];exact e
  ·cases e
 unfold tabAt at x ⊢
 split at x
 ·rename_i a ha;rw[hg _ ha];dsimp only
  split at x
  ·cases x
  ·rename_i hs;rw[Qo hs]
   split at x
   ·rename_i o ho;rw[k _ _ ho];dsimp only
    split at x
    ·rename_i hc;rw[Qf hc]
     split at x
     ·exact oN k x
     ·cases x
    ·cases x
   ·cases x
 ·cases x
theorem xX:∀{vs:List Value} {is:List Int},Av vs=some is->IntsAre vs is
 | [],_,e=>by cases e;exact .nil
 | v::r,is,e=>by
  cases v <;> first |(exact bW e) | skip
  obtain⟨js,e1,e2⟩:=QD.mp (show(Av r).map _=some is from e);subst e2;exact .cons _ _ (xX e1)
theorem ym(h:AI v t=true):v=.type t:=by
 unfold AI at h
 split at h
 ·rw[Q8 h]
 ·cases h
theorem q9:∀{es:List DictEntry} {tb:List (Str×List Int)},kQ h es=some (tb.map λx=>(x.1,hashStr w x.1,x.2))->
  ∃kvs:List (Str×Value),(∀e∈es,∃k,(PySem.strKind P w).is k e.key=true/\e.hash=(PySem.strKind P w).hash k)/\Pairs (PySem.strKind P w) es kvs/\kvs.map (·.1)=tb.map (·.1)/\
   sV (λ(x:Str×List Int)(y:Str×Value)=>x.1=y.1/\∃(t:Addr)(u:Obj)(its:Array Value)(n:Nat),y.2=.ref t/\(aB h).lookup t=some u/\u.cls=.type "tuple"/\u.dict=none/\u.data=.seq its n/\its.size<=sizeLine/\IntsAre its.toList x.2) tb kvs
 | [],tb,x=>by
  have hz:tb=[]:=by
   have:=Option.some.inj x;exact List.map_eq_nil_iff.mp this.symm
  subst hz;exact⟨[],λ_ z=>(nomatch z),.nil,rfl,.nil⟩
 | e::es,tb,x=>by
  unfold kQ at x;obtain⟨y,e1,x⟩:=Sx.mp x;obtain⟨ys,e2,x⟩:=QD.mp x;cases tb with
  | nil=>cases x
  | cons q tb=>
   rw[Qp] at x;obtain⟨rfl,rfl⟩:=List.cons.inj x;obtain⟨kvs,h1,h2,h3,h4⟩:=q9 (P:=P) e2;unfold rowAt at e1
   split at e1
   ·rename_i x0 tk hk
    split at e1
    ·rename_i t hv
     split at e1
     ·rename_i u hu
      split at e1
      ·rename_i hc;rw[QN] at hc
       split at e1
       ·rename_i its n hd
        split at e1
        ·rename_i hs;obtain⟨is,e3,e4⟩:=QD.mp e1;have e5:x0=q.1:=congrArg (·.1) e4;have e6:e.hash=hashStr w q.1:=congrArg (·.2.1) e4;have e7:is=q.2:=congrArg (·.2.2) e4;have hki:(PySem.strKind P w).is q.1 e.key=true:=by rw[hk,e5];show Value.isStrOf q.1 (.str q.1 tk)=true;unfold Value.isStrOf;simp
         refine⟨(q.1,.ref t)::kvs,λe' he'=>?_,.cons hki hv h2,by rw[Qp,Qp,h3],.cons ⟨rfl,t,u,its,n,rfl,bx hu (gO λvs z=>by rw[hd] at z;cases z),ym hc.1,by simpa using hc.2,hd,Qr hs (by decide),by rw[<-e7];exact xX e3⟩ h4⟩;rcases Ql.mp he' with rfl | he'
         ·exact⟨q.1,hki,e6⟩
         ·exact h1 e' he'
        ·cases e1
       ·cases e1
      ·cases e1
     ·cases e1
    ·cases e1
   ·cases e1
theorem tab_of(x:tabAt h nm=some (tb.map λx=>(x.1,hashStr w x.1,x.2)))(g:h.Ns mainGlobals mg)(nd:(tb.map (·.1)).Nodup):Tab P w (aB h) mg nm tb:=by
 unfold tabAt at x
 split at x
 ·rename_i a ha
  split at x
  ·cases x
  ·rename_i hs
   split at x
   ·rename_i o ho
    split at x
    ·rename_i hc;rw[QN,QN] at hc
     split at x
     ·rename_i es ep hd;obtain⟨kvs,h1,h2,h3,h4⟩:=q9 (P:=P) x;have hm:mg nm=some (.ref a):=by
       obtain⟨o',es',ep',g1,g2,_,g3⟩:=g;rw[<-g3 nm,<-ha];unfold Heap.nsMap;rw[g1];dsimp only;rw[g2]
      exact⟨a,o,es,ep,kvs,hm,bx ho (gO λvs z=>by rw[hd] at z;cases z),⟨ym hc.1.1,by simpa using hc.1.2,Q8 hc.2⟩,hd,by simpa using hs,λe he=>h1 e (S9.mpr he),h2,by rw[h3];exact nd,h4⟩
     ·cases x
    ·cases x
   ·cases x
 ·cases x
end Hd
namespace L2
open PySem PySem.Spec PyProof.Rows
end L2
namespace Sm
open PySem L2 PySem.Spec PyProof.Rows
end Sm
namespace Sb
open PySem L2 PySem.Spec PyProof.Rows
open Builtin.SmallTypes (nextOf ownedTupleIsFree ownedTupleHandOut)
end Sb
namespace PySem
end PySem
namespace L2
open PySem PySem.Spec PyProof.Rows
end L2
namespace L2
open PySem PySem.Spec PyProof.Rows Sb
end L2
namespace Sm
open PySem L2 PySem.Spec PyProof.Rows Sb
end Sm
namespace Sb
open PySem L2 PySem.Spec PyProof.Rows
variable {P:Program} {w:World} {A:Around} {E:Value->Shared->Prop} {s:Shared} {b c:Bool}
end Sb
namespace Sb
open PySem L2 PySem.Spec PyProof.Rows
variable {P:Program} {w:World} {A:Around} {E:Value->Shared->Prop} {s:Shared} {b c:Bool}
end Sb
namespace L2
open PySem PySem.Spec PyProof.Rows Sb
end L2
namespace Sm
open PySem L2 PySem.Spec PyProof.Rows Sb
end Sm
namespace PySem
end PySem
namespace L2
open PySem PySem.Spec PyProof.Rows
end L2
namespace Sm
open PySem L2 PySem.Spec PyProof.Rows
end Sm
namespace L2
open PySem PySem.Spec PyProof.Rows
end L2
namespace L2
open PySem PySem.Spec PyProof.Rows PySem.SeqAt
end L2
namespace Sm
open PySem L2 PySem.Spec PyProof.Rows
def Pl(mg:Str->Option Value)(x:Str)(d:D):Prop:=∃(v:V)(u:Value),mg x=some u/\RelV v u/\∀K ρ H,Rep K ρ H v d
theorem Dh(C:Pl X.mg x d)(hg:Gl X x)(hd:(x==("__debug__":Str))=false:=by ac_nf):SE X (.Name x pos) (eK d):=by
 obtain⟨v,u,h1,h2,h3⟩:=C;exact F1 hg h1 h2 (λρ H=>h3 X.K ρ H) hd
end Sm
namespace Hd
open PySem PySem.W PySem.Spec PyProof.Rows L2 Sm
theorem G8(T:Top q loose mean mg mb h)(e:valOf q x=some (.int i)):Pl mg x (.int i):=by
 obtain⟨v,h1,h2⟩:=T.const x _ e;have:=h2 h;cases this with
 | int _ t=>exact⟨.int i,_,h1,⟨t,rfl⟩,λ_ _ _=>.int i⟩
end Hd
namespace L2
open PySem PySem.Spec PyProof.Rows
end L2
namespace Sm
open PySem L2 PySem.Spec PyProof.Rows
end Sm
namespace L2
open PySem PySem.Spec PyProof.Rows
end L2
namespace Sm
open PySem L2 PySem.Spec PyProof.Rows
end Sm
namespace L2
open PySem PySem.Spec PyProof.Rows
end L2
namespace Sm
open PySem L2
end Sm
namespace Sm
open PySem L2 PySem.Spec PyProof.Rows
end Sm
namespace L2
open PySem PySem.Spec PyProof.Rows
end L2
namespace Sm
open PySem L2 PySem.Spec PyProof.Rows
theorem fS(d:Df X.prog X.w X.K X.mg X.base nm k ps n F)(hr:cH k' X.A)(ha:SA X (e::es) m)(hk:k<=k':=by decide)(hl:kl m n:=by repeat(first | exact aC | refine ah ?_))(hg:Gl X nm:=by unfold Gl;ac_nf)(hdb:(nm==("__debug__":Str))=false:=by ac_nf)(he:starEach (e::es) X.env=(false,eval e X.env)::starEach es X.env:=by ac_nf)(hpl:(backTo pos (starEach es X.env)).any (·.1)=false:=by ac_nf):SE X (.Call (.Name nm p) (e::es) [] pos) (ay F m):=L6 d hr hk ha hl hg hdb he hpl
theorem Fw{x:Str}{id:String}{p pos:Pos}{e:Expr}{es:List Expr}{f:Fn}{m:AM}(hc:iC X (.builtin id) f)(hm:X.mg x=none)(hv:bootBuiltins x=some (.builtin id))(ha:SA X (e::es) m)(hg:Gl X x:=by unfold Gl;ac_nf)(hn:x≠"__name__":=by decide)(hdb:(x==("__debug__":Str))=false:=by ac_nf)
  (he:starEach (e::es) X.env=(false,eval e X.env)::starEach es X.env:=by ac_nf) (hpl:(backTo pos (starEach es X.env)).any (·.1)=false:=by ac_nf):SE X (.Call (.Name x p) (e::es) [] pos) (ay f m):=Dk hc hg hm hv ha hn hdb he hpl
theorem L5{x:Str}{id:String}{p pos:Pos}{e:Expr}{es:List Expr}{f:Fn}{m:AM}(hc:iC X (.type id) f)(hm:X.mg x=none)(hv:bootBuiltins x=some (.type id))(ha:SA X (e::es) m)(hg:Gl X x:=by unfold Gl;ac_nf)(hn:x≠"__name__":=by decide)(hdb:(x==("__debug__":Str))=false:=by ac_nf)
  (he:starEach (e::es) X.env=(false,eval e X.env)::starEach es X.env:=by ac_nf) (hpl:(backTo pos (starEach es X.env)).any (·.1)=false:=by ac_nf):SE X (.Call (.Name x p) (e::es) [] pos) (ay f m):=Dj hc hg hm hv ha hn hdb he hpl
theorem six(hr:cH k X.A)(ha:SE X a ma)(hb:SE X b mb)(hs:nu b:=by unfold nu;intro _ _;ac_nf):SE X (.Subscript a b pos) (ao aP ma mb):=LZ hr.units ha hb hs
end Sm
namespace Hd
open PySem PySem.W PySem.Spec PyProof.Rows L2 Sm
theorem u0{P:List Value->Prop}(h:P [])(us:List Value)(hl:us.length=0):P us:=by cases us with | nil=>exact h | cons _ _=>cases hl
theorem u1{P:List Value->Prop}(h:∀a,P [a])(us:List Value)(hl:us.length=1):P us:=by
 cases us with
 | nil=>cases hl
 | cons a r=>exact u0 (P:=λr=>P (a::r)) (h a) r (Nat.succ.inj hl)
theorem u2{P:List Value->Prop}(h:∀a b,P [a,b])(us:List Value)(hl:us.length=2):P us:=by
 cases us with
 | nil=>cases hl
 | cons a r=>exact u1 (P:=λr=>P (a::r)) (h a) r (Nat.succ.inj hl)
theorem u3{P:List Value->Prop}(h:∀a b c,P [a,b,c])(us:List Value)(hl:us.length=3):P us:=by
 cases us with
 | nil=>cases hl
 | cons a r=>exact u2 (P:=λr=>P (a::r)) (h a) r (Nat.succ.inj hl)
theorem u4{P:List Value->Prop}(h:∀a b c d,P [a,b,c,d])(us:List Value)(hl:us.length=4):P us:=by
 cases us with
 | nil=>cases hl
 | cons a r=>exact u3 (P:=λr=>P (a::r)) (h a) r (Nat.succ.inj hl)
theorem u5{P:List Value->Prop}(h:∀a b c d e,P [a,b,c,d,e])(us:List Value)(hl:us.length=5):P us:=by
 cases us with
 | nil=>cases hl
 | cons a r=>exact u4 (P:=λr=>P (a::r)) (h a) r (Nat.succ.inj hl)
theorem u6{P:List Value->Prop}(h:∀a b c d e f,P [a,b,c,d,e,f])(us:List Value)(hl:us.length=6):P us:=by
 cases us with
 | nil=>cases hl
 | cons a r=>exact u5 (P:=λr=>P (a::r)) (h a) r (Nat.succ.inj hl)
theorem u7{P:List Value->Prop}(h:∀a b c d e f g,P [a,b,c,d,e,f,g])(us:List Value)(hl:us.length=7):P us:=by
 cases us with
 | nil=>cases hl
 | cons a r=>exact u6 (P:=λr=>P (a::r)) (h a) r (Nat.succ.inj hl)
theorem MB{q:Program}{loose:List Str}{mean:ExcName->Option Value}{mg mb:Str->Option Value}{h base:Heap}{P:Program}{w:World}(T:Top q loose mean mg mb h){n:Str}{st:Stmt}(e:(recsOf q).find? (λe=>e.name==n)=some (mr n st)){ps:List Str}{k N:Nat}{F:Fn}
  (hb:∀{f:Addr} {fd:FuncData},sW (aB h) n n st f fd->Binds (aB h) fd ps []) (ok:∀{f:Addr} {fd:FuncData},sW (aB h) n n st f fd->keepIn (aB h) (.ref f)=true->Binds (aB h) fd ps []->mg n=some (.ref f)->eO P w (aB h) mg base nz k f fd ps (Bj (aB h) N F)):Df P w (aB h) mg base n k ps N F:=by
 obtain⟨f,fd,m,G⟩:=Ay T e;exact⟨f,fd,ok G G.kp (hb G) m,G.kp,hb G,m⟩
end Hd
namespace L2
open PySem PySem.Spec PyProof.Rows Builtin.Str
theorem GI{X:Cx}:AW X "str.join" (λx vs H Q=>∃p a ss,x=.str p/\vs=[.ref a]/\(gZ X.K H a (ss.map V.str)\/kJ X.K H a (ss.map V.str))/\(ss.map (·.length)).sum+ss.length*p.length<=16777216/\Q (.str (Txt.join p ss)) H):=by
 intro pins s σ H x xs v us Q I rx rs h;obtain⟨p,a,ss,rfl,rfl,ha,hz,q⟩:=h;obtain⟨t,rfl⟩:=rx;obtain⟨u,rfl,ru⟩:=vals1 rs;cases ru;rcases ha with ha | ha
 ·obtain⟨its,rv,p,_⟩:=I.list ha;exact join_list p.isList (by simpa using jN rv) hz λt' k=>⟨.str _,H,I.kept (t':=k) λ_ _ e=>e,⟨t',rfl⟩,q⟩
 ·obtain⟨its,rv,p,_⟩:=I.tuple ha;exact join_tuple p (by simpa using jN rv) hz λt' k=>⟨.str _,H,I.kept (t':=k) λ_ _ e=>e,⟨t',rfl⟩,q⟩
theorem qC:∀(l:List (Str×Tok)),Vals ((l.map (·.1)).map V.str) (strValues l)
 | []=>.nil
 |(x,t)::r=>.cons ⟨t,rfl⟩ (qC r)
theorem CU{prog:Program}{w:World}{A:Around}{E:Value->Shared->Prop}{s:Shared}{x y:Str}{t u:Tok}{Q:Value->Shared->Prop}(hy:(y.length==0)=false)
  (hq:∀l k,l.map (·.1)=Txt.split x y->Q (.ref s.heap.objs.size) {s with toks:=k,heap:=s.heap.push {cls:=.type "list",data:=.seq (strValues l).toArray}})
  (hsz:x.length<=sizeLine) (hsz2:(partsBetween x (occurrences x y 0 x.length (x.length+1)) y.length).length<=sizeLine):
  wpAny (model prog w) A (call (.builtin "str.split") [.str x t,.str y u]) Q E s:=by
 cases h1:(decide (x.length < y.length)||decide (strKind x < strKind y))
 ·cases hf:(occurrences x y 0 x.length (x.length+1)).isEmpty
  ·refine Ss Sy (TR _ _ _) Us (Um _ _) (meets_str_split_sep x y t u h1 hy hf hsz hsz2) ?_;show wants Q E _ {s with toks:=_,heap:=s.heap.push {cls:=.type "list",data:=.seq (strsFrom s.toks (partsBetween x (occurrences x y 0 x.length (x.length+1)) y.length)).toArray}};rw[strsFrom_eq];exact hq (numbered s.toks _) _ ((numbered_texts _ _).trans ((Qo (TN h1)).trans (Qo (TN hf))).symm)
  ·exact Ss Sy (TR _ _ _) Us (Um _ _) (meets_str_split_not_found x y t u h1 hy hf)
    (hq [(x,t)] _ ((Qo (TN h1)).trans (Qf hf)).symm)
 ·exact Ss Sy (TR _ _ _) Us (Um _ _) (meets_str_split_cannot_occur x y t u h1)
   (hq [(x,t)] _ (Qf h1).symm)
theorem Ei{X:Cx}:AW X "str.split" (λx vs H Q=>∃p y,x=.str p/\vs=[.str y]/\(y.length==0)=false/\p.length<=sizeLine/\(Txt.split p y).length<=sizeLine/\(partsBetween p (occurrences p y 0 p.length (p.length+1)) y.length).length<=sizeLine/\∀l,H l=none->Q (.ref l) (upd H l (.lst ((Txt.split p y).map V.str)))):=by
 intro pins s σ H x xs v us Q I rx rs h;obtain⟨p,y,rfl,rfl,hy,hz,hz1,hz2,q⟩:=h;obtain⟨t,rfl⟩:=rx;obtain⟨u,rfl,ru⟩:=vals1 rs;obtain⟨t',rfl⟩:=ru;refine CU hy (λl k e=>?_) hz hz2;rw[<-e] at q hz1;exact⟨.ref s.heap.objs.size,_,I.laid (t':=k) (o:=.lst ((l.map (·.1)).map V.str)) (λb ob q=>Qm _ q) (Qg _)
  ⟨by rw[Qb];exact hz1,strValues l,_,qC l,QI _ rfl⟩,rfl,q _ (I.a8.fresh (Qg _))⟩
end L2
namespace L2
open PySem PySem.Spec PyProof.Rows
end L2
namespace Sm
open PySem L2 PySem.Spec PyProof.Rows Builtin.Str
theorem g0{x y:Str}(hx:PyData.strOk x=true)(hy:PyData.strOk y=true):PyData.strOk (x++y)=true:=by
 unfold PyData.strOk at*;show(x.cps++y.cps).all _=true;rw[Array.all_append,hx,hy];rfl
noncomputable def isStr(d:D)(_:MH):Bool:=match d with
 | .str _=>true
 | _=>false
theorem ty_str{K:FR}{ρ:Ad}{H:Hp}{h:MH}{v:V}{d:D}(S:bN K ρ h H)(r:Rep K ρ H v d)(e:isStr d h=true):Hu K "str" v H:=by
 cases r <;> first |(cases e;done) | exact rfl
noncomputable def pe:AX:=λd ds h=>match d,ds with
 | .str x,[y]=>(dw y h).bind λp=>(oB p.1).bind λns=>if(ns.map (·.length)).sum+ns.length*x.length<=16777216 then some (.str (Str.join x ns),h) else none
 | _,_=>none
theorem kM{x:Str}(hx:PyData.strOk x=true):∀ns:List Str,(∀y∈ns,PyData.strOk y=true)->PyData.strOk (Str.join x ns)=true
 | [],_=>by ac_nf
 | [y],h=>h y (.head _)
 | y::z::r,h=>g0 (g0 (h y (.head _)) hx) (kM hx (z::r) λa ha=>h a (.tail _ ha))
theorem qo{X:Cx}:AW X "str.join" (rM X.K pe):=by
 intro pins s σ H x xs v us Q I rx rs hh;obtain⟨ρ,h,d,ds,z,h',S,rd,l,ee,k⟩:=hh;cases rd <;> first |(exact bW ee) | skip
 rename_i p hp
 match ds,l,ee with
 | [],_,ee=>cases ee
 | _::_::_,_,ee=>cases ee
 | [y],l,ee=>
  obtain⟨⟨ys,w⟩,e1,e2⟩:=bB ee;obtain⟨ns,e3,e4⟩:=bB e2
  by_cases c:(ns.map (·.length)).sum+ns.length*p.length<=16777216
  ·rw[Qf c] at e4;cases e4;obtain⟨v1,rfl,ry⟩:=rep1 l;obtain⟨a,vs,rfl,hq,l2⟩:=lO S ry e1;have:=qI e3;dsimp only at this;subst this;obtain⟨e5,f⟩:=kS l2;subst e5;refine GI pins s σ H _ _ v us Q I rx rs ⟨p,a,ns,rfl,rfl,hq,c,?_⟩;rw[show Txt.join p ns=Str.join p ns from StrLaws.glued_eq_join p ns];exact k _ _ (.here S (.str (kM hp ns f)))
  ·rw[Qo c] at e4;cases e4
noncomputable def nZ:AX:=λd ds h=>match d,ds with
 | .str x,[.str y]=>if(y.length==0)=false/\x.length<=sizeLine/\(Txt.split x y).length<=sizeLine/\(partsBetween x (occurrences x y 0 x.length (x.length+1)) y.length).length<=sizeLine/\(Txt.split x y).all PyData.strOk=true then some (.lv ((Txt.split x y).map D.str),h) else none
 | _,_=>none
theorem xO{X:Cx}:AW X "str.split" (rM X.K nZ):=by
 intro pins s σ H x xs v us Q I rx rs hh;obtain⟨ρ,h,d,ds,z,h',S,rd,l,ee,k⟩:=hh;cases rd <;> first |(exact bW ee) | skip
 rename_i p hp
 match ds,l,ee with
 | [],_,ee=>cases ee
 | y::_::_,_,ee=>cases y <;> exact bW ee
 | [y],l,ee=>
  obtain⟨v1,rfl,ry⟩:=rep1 l;cases ry <;> first |(exact bW ee) | skip
  rename_i q hq _;unfold nZ at ee;dsimp only at ee
  split at ee
  ·rename_i c;cases ee;exact Ei pins s σ H _ _ v us Q I rx rs ⟨p,q,rfl,rfl,c.1,c.2.1,c.2.2.1,c.2.2.2.1,λl hl=>k _ _ (.lv S (nM _ λx hx=>RU.mp c.2.2.2.2 x hx) hl)⟩
  ·cases ee
theorem tZ(i:Int):PyData.strOk (Str.ofString (toString i))=true:=by
 unfold PyData.strOk;rw[Vc];intro c hc;refine QP (Nat.lt_of_not_le λh=>?_);exact int_text_free' c ⟨by lia,.inr (by lia)⟩ i (S9.mpr hc)
noncomputable def x8:Fn:=λds h=>match ds with
 | [.int i]=>if i.natAbs.log2 < 1920 then some (.str (toString i),h) else none
 | _=>none
theorem AF{X:Cx}:iC X (.type "str") x8:=by
 intro pins s σ H xs us Q I r hh;obtain⟨ρ,h,ds,z,h',S,l,ee,k⟩:=hh
 match ds,l,ee with
 | [],_,ee=>cases ee
 | d::_::_,_,ee=>cases d <;> exact bW ee
 | [d],l,ee=>
  obtain⟨v,rfl,rd⟩:=rep1 l;cases rd <;> first |(exact bW ee) | skip
  unfold x8 at ee;dsimp only at ee
  split at ee
  ·rename_i c;cases ee;refine wy pins s σ H _ us Q I r ⟨_,rfl,c,k _ _ (.here S (.str ?_))⟩;exact tZ _
  ·cases ee
end Sm
namespace L2
open PySem PySem.Spec PyProof.Rows
section
variable {X:Cx}
end
end L2
namespace Sm
open PySem L2 PySem.Spec PyProof.Rows
section
variable {X:Cx}
end
theorem BM{h:Heap}{f:Value->Bool}{p:PyData}:∀{us:List Value} {ds:List PyData} {as:List Addr},ReadsAll h us ds as->(∀u d as,u∈us->Reads h u d as->d∈ds->f u=PyData.eqv d p)->us.findIdx? f=ds.findIdx? λb=>PyData.eqv b p:=by
 intro us
 induction us with
 | nil=>intro ds as r _;cases r;rfl
 | cons v us ih=>
  intro ds as r hf;cases r with | cons r l=>
  rw[Va,Va,hf _ _ _ Qh r Qh,ih l λu d as hu hr hd=>hf u d as (Qi _ hu) hr (Qi _ hd)]
noncomputable def Ao:AX:=λd ds h=>match ds with
 | [x]=>(dR d h).bind λys=>(z9 h x).bind λp=>(oO ys).bind λbs=>if p.depth<=60/\PyData.depthAll bs<=60 then(bs.findIdx? λb=>PyData.eqv b p).map λj:Nat=>(D.int (Int.ofNat j),h) else none
 | _=>none
theorem BE{X:Cx}(hu:X.A.units+64 < cLine):AW X "list.index" (rM X.K Ao):=by
 intro pins s σ H x xs v us Q I rx rs hh;obtain⟨ρ,h,d,ds,z,h',S,rd,l,ee,k⟩:=hh
 match ds,l,ee with
 | [],_,ee=>exact bW ee
 | _::_::_,_,ee=>exact bW ee
 | [y],l,ee=>
  obtain⟨ys,e1,e2⟩:=bB ee;obtain⟨p,e3,e4⟩:=bB e2;obtain⟨bs,e5,e6⟩:=bB e4
  by_cases w:p.depth<=60/\PyData.depthAll bs<=60
  ·rw[Qf w] at e6;obtain⟨j,e7,e8⟩:=gM e6;cases e8;obtain⟨a,vs,rfl,ha,l1⟩:=eB S rd e1;obtain rfl:v=Value.ref a:=rx;obtain⟨yv,rfl,ry⟩:=rep1 l;obtain⟨u,rfl,ru⟩:=Vals.one rs;obtain⟨r1,c1⟩:=mw S ry e3;obtain⟨r2,c2⟩:=l1.tI e5;obtain⟨as,ra⟩:=r1.reads I ru;obtain⟨its,rv,pl,hz⟩:=I.list (.inl (.inl ha));obtain⟨bs',rb⟩:=r2.reads I rv;have hj:=(BM (f:=AD s.heap p) rb λu d as _ hr hd=>oo hr (cw c2 hd)).trans e7;obtain⟨j1,j2,j3⟩:=List.findIdx?_eq_some_iff_getElem.mp hj;have key:∀y,y∈its.toArray->PySem.SeqAt.EqAt X.A.in1 s y u (AD s.heap p y):=by
    intro y hy;obtain⟨d,as',hr,hd⟩:=jS rb y (by simpa using hy);rw[oo hr (cw c2 hd)];refine Sz d p _ s y u as' as hr ra (cw c2 hd) c1 ?_;have h1:=kd hd;have h2:min d.depth p.depth<=d.depth:=Tz _ _;show X.A.units+1+min d.depth p.depth < cLine;have h3:=w.2
    lia
   obtain⟨o,n,g,o1,o2,o3⟩:=pl;obtain⟨oc,od,oda,os⟩:=o;dsimp only at o1 o2 o3;subst o1 o2 o3;have hz2:=rv.length;rw[Sr] at hz;refine Ss UE ⟨_,g,rfl⟩ PySem.F.entry_list_index (PySem.F.args_list_index_2 _ _)
    (PySem.SeqAt.list_indexAt a its.toArray n none os u (AD s.heap p) j (by simpa using j1) (by lia) (by simpa using j2) (λm hm hlt=>by simpa using j3 m hlt)) ⟨g,key,?_⟩
   exact⟨.int _,H,I.kept (t':=s.toks+1) λ_ _ e=>e,⟨_,rfl⟩,k _ _ (.here S (.int _))⟩
  ·rw[Qo w] at e6;cases e6
end Sm
namespace L2
open PySem PySem.Spec PyProof.Rows
end L2
namespace Sm
open PySem L2 PySem.Spec PyProof.Rows
end Sm
namespace L2
open PySem PySem.Spec PyProof.Rows
section
variable {P:Program} {w:World} {A:Around} {E:Value->Shared->Prop} {s:Shared} {a:Addr} {es:Array (Int×Value)}
end
end L2
namespace L2
open PySem PySem.Spec PyProof.Rows PySem.SeqAt
end L2
namespace L2
open PySem PySem.Spec PyProof.Rows
section
variable {P:Program} {w:World} {A:Around} {E:Value->Shared->Prop} {s:Shared} {a:Addr} {ks:List Int}
end
end L2
namespace Sm
open PySem L2 PySem.Spec PyProof.Rows
end Sm
namespace L2
open PySem PySem.Spec PyProof.Rows
end L2
namespace Sm
open PySem L2 PySem.Spec PyProof.Rows
end Sm
namespace L2
open PySem PySem.Spec PyProof.Rows PySem.SeqAt
section
variable {P:Program} {w:World} {E:Value->Shared->Prop}
end
noncomputable local instance:DecidableEq PyData:=λa b=>Classical.propDecidable _
end L2
namespace L2
open PySem PySem.Spec PyProof.Rows PySem.W
section
variable {ks:List PKey} {i j:Nat}
end
section
variable {P:Program} {w:World} {A:Around} {E:Value->Shared->Prop} {s:Shared}
end
end L2
namespace L2
open PySem PySem.Spec PyProof.Rows PySem.W PySem.SeqAt
section
variable {P:Program} {w:World} {A:Around} {E:Value->Shared->Prop} {s:Shared} {a:Addr}
end
end L2
namespace Sm
open PySem L2 PySem.Spec PyProof.Rows
end Sm
namespace L2
open PySem PySem.Spec PyProof.Rows
noncomputable def Ho(lo c:Int)(n:Nat):It:=⟨λi _=>i < n,λi H x H'=>H'=H/\x=.int (lo+i*c),λi _=>n<=i⟩
theorem wW{P:Program}{w:World}{K:FR}{tg:Expr}(it:Addr)(lo c:Int)(n:Nat):Turn P w K tg (Ho lo c n) [it] it (λi h=>IsRangeIter h it (lo+(i:Nat)*c) ((n:Int)-(i:Nat)) c) where
 mem:=by simp
 obj:=λi h st b hb=>by
  have e:b=it:=by simpa using hb
  subst e;exact⟨_,st,λv z=>by
   have z':Data.fields _=Data.cell v:=z;cases z'⟩
 keep:=λi h h' st k=>k it (by simp) _ st
 item:=by
  intro X hP hw hK hc i pins s σ H E I hf st hg;subst hP hw hK;obtain⟨f0,f1,f2,f3,f4,f5⟩:=hf it (by simp);have W:=Walks.range (prog:=X.prog) (w:=X.w) (I.ok.hd hc) it lo c n;refine W.item i s _ _ hg st λv h' tk hv st' kk=>?_;obtain⟨t,rfl⟩:=hv;have I1:Inv X pins σ H {s with heap:=h',toks:=tk}:=I.turned (λb o hb e=>kk b o (by simpa using hb) e) f0 f1 f3 f4 f5;exact⟨_,rfl,Ax (s:={s with heap:=h',toks:=tk}) (n:="range_iterator") st' rfl rfl (by decide) ⟨.int (lo+i*c),H,I1,⟨t,rfl⟩,⟨rfl,rfl⟩,st',λb hb=>(hf b hb).1⟩⟩
 done:=by
  intro X hP hw hK hc i pins s σ H E I hf st hg;subst hP hw hK;obtain⟨f0,f1,f2,f3,f4,f5⟩:=hf it (by simp);exact wpAny_pyNext_range_end (I.ok.hd hc) st (by have:n<=i:=hg;lia) λh' eb=>⟨rfl,I.turned (t':=s.toks) (λb o hb e=>eb b o hb e) f0 f1 f3 f4 f5⟩
 self:=λ_ _ _ _ _ st h=>wpAny_pyIter_rangeiter st h
def Fx(i j c:Int):Prop:=(-1000000<=i/\i<=1000000)/\(-1000000<=j/\j<=1000000)/\0 < c/\c<=1000
instance:Decidable (Fx i j c):=by unfold Fx;exact inferInstance
theorem size_pos(h:Fx i j c):0<=Builtin.Range.rangeSize i j c/\Builtin.Range.rangeSize i j c<=2000000:=by
 obtain⟨h1,h2,h3,h4⟩:=h;unfold Builtin.Range.rangeSize;rw[Qf h3]
 split
 ·have:=Int.ediv_nonneg (a:=j-i-1) (b:=c) (by lia) (by lia);have:=Int.ediv_le_self (a:=j-i-1) c (by lia)
  lia
 ·lia
theorem Bp{pins:List (Addr×Obj)}{σ:St}{H:Hp}{s:Shared}{R:It->Hp->Prop}{E:Value->Shared->Prop}{lo hi c:Int}{t u v:Tok}{tk:Nat}(I:Inv X pins σ H s)(h1:Fx lo hi c)
  (q:R (Ho lo c (Builtin.Range.rangeSize lo hi c).toNat) H):wpAny (model X.prog X.w) X.A (pyIter (.ref s.heap.objs.size)) (Pc X pins σ tg R) E {s with heap:=s.heap.push {cls:=.type "range",data:=.fields #[.int lo t,.int hi u,.int c v]},toks:=tk}:=by
 have hsz:=size_pos h1;refine wpAny_pyIter_range (IsRange.new ..) ?_ ?_
 ·obtain⟨g1,g2,g3,g4⟩:=h1;unfold Builtin.Range.small;simp only[Builtin.Range.rangeFitsLong,QN,RJ,QY,Rt,show c > 0 from g3,Tj];refine⟨⟨⟨⟨⟨?_,?_⟩,?_,?_⟩,?_,?_⟩,?_,?_⟩,.inr ⟨?_,?_⟩⟩ <;> lia
 have I1:Inv X pins σ H {s with heap:=s.heap.push {cls:=.type "range",data:=.fields #[.int lo t,.int hi u,.int c v]},toks:=tk}:=I.kept λb o e=>Qm _ e;refine⟨(s.heap.push {cls:=.type "range",data:=.fields #[.int lo t,.int hi u,.int c v]}).objs.size,[(s.heap.push {cls:=.type "range",data:=.fields #[.int lo t,.int hi u,.int c v]}).objs.size],_,_,H,rfl,
  I1.kept (t':=tk) λb o e=>Qm _ e,wW _ lo c (Builtin.Range.rangeSize lo hi c).toNat,?_,λb hb=>?_,q⟩
 ·have e1:lo+((0:Nat):Int)*c=lo:=by simp
  have e2:(((Builtin.Range.rangeSize lo hi c).toNat:Nat):Int)-((0:Nat):Int)=Builtin.Range.rangeSize lo hi c:=by lia
  show IsRangeIter _ _ (lo+((0:Nat):Int)*c) ((((Builtin.Range.rangeSize lo hi c).toNat:Nat):Int)-((0:Nat):Int)) c;rw[e1,e2];exact QI _ rfl
 ·have e:b=(s.heap.push {cls:=.type "range",data:=.fields #[.int lo t,.int hi u,.int c v]}).objs.size:=by simpa using hb
  subst e;exact I1.BP (Qg _) (I1.a8.fresh (Qg _))
def ML(ta:TA):TI:=λσ H R=>ta σ H λvs H1=>∃i j c:Int,vs=[.int i,.int j,.int c]/\Fx i j c/\R (Ho i c (Builtin.Range.rangeSize i j c).toNat) H1
theorem Bv{X:Cx}{tg a b c:Expr}{p pos:Pos}{ta:TA}(hg:Gl X "range")(hm:X.mg "range"=none)(ha:PA X [a,b,c] ta)(hs:starEach [a,b,c] X.env=[(false,eval a X.env),(false,eval b X.env),(false,eval c X.env)]:=by rfl)(hs2:starEach [b,c] X.env=[(false,eval b X.env),(false,eval c X.env)]:=by rfl):
  PI X tg (.Call (.Name "range" p) [a,b,c] [] pos) (ML ta):=by
 intro pins s σ H R I h;refine Call_ (jD I hg hm boot_range (Rh (cQ (ha pos pins s σ H _ I h) λus s1 ⟨vs,H1,I1,r1,q1⟩=>?_) (by rw[hs,hs2]) (by rw[hs2];rfl)));obtain⟨i,j,d,e,q2,q⟩:=q1;subst e;cases r1 with
 | cons r rr=>
  cases rr with
  | cons r' rr=>
   cases rr with
   | cons r'' rr=>
    cases rr;obtain⟨t,rfl⟩:=r;obtain⟨t',rfl⟩:=r';obtain⟨t'',rfl⟩:=r'';refine call_range_3 (by have:=q2.2.2.1;lia) (Bp I1 q2 q) (.inl ?_);obtain⟨g1,g2,g3,g4⟩:=q2;exact PyProof.noPylong_small (by lia)
end L2
namespace Sm
open PySem L2 PySem.Spec PyProof.Rows
noncomputable def GU(m:AM):IM:=λδ h=>(m δ h).bind λp=>match p.1 with
 | [.int i,.int j,.int c]=>if Fx i j c then some ((List.range (Builtin.Range.rangeSize i j c).toNat).map λ(k:Nat)=>D.int (i+(k:Int)*c),[],p.2) else none
 | _=>none
theorem GS{K:FR}{ρ:Ad}{H:Hp}(lo c:Int)(n:Nat):Lm K (Ho lo c n) ρ H [] ((List.range n).map λ(k:Nat)=>D.int (lo+(k:Int)*c)):=by
 refine wa λρ1 H1 h1 T S hc=>⟨(List.range n).map λ(k:Nat)=>V.int (lo+(k:Int)*c),?_,λi hi=>?_,λi v hv=>?_⟩
 ·have:=jR (K:=K) (ρ:=ρ1) (H:=H1) ((List.range n).map λ(k:Nat)=>lo+(k:Int)*c);rw[Ra,Ra] at this;exact this
 ·rw[Qb,QO] at hi;exact hi
 ·rw[Qx] at hv;obtain⟨j,e1,e2⟩:=gM hv;obtain⟨hlt,e3⟩:=Qc.mp e1;rw[QO] at hlt;rw[T9] at e3;subst e3;subst e2;exact⟨hlt,λu H2 ⟨p,q⟩=>⟨p,q⟩⟩
theorem Bk{X:Cx}{tg a b c:Expr}{p pos:Pos}{m:AM}(hg:Gl X "range")(hm:X.mg "range"=none)(ha:SA X [a,b,c] m)(hs:starEach [a,b,c] X.env=[(false,eval a X.env),(false,eval b X.env),(false,eval c X.env)]:=by ac_nf)(hs2:starEach [b,c] X.env=[(false,eval b X.env),(false,eval c X.env)]:=by ac_nf)(hl:kl m 3):
  SI X tg (.Call (.Name "range" p) [a,b,c] [] pos) (GU m):=
 (Bv hg hm ha hs hs2).imp λσ H Q ⟨ρ,δ,h,xs,ws,h',R,S,e,k⟩=>by
  obtain⟨⟨x,h1⟩,e1,e2⟩:=bB e;refine⟨ρ,δ,h,x,h1,R,S,e1,λvs ρ1 H1 T1 S1 r1=>?_⟩;dsimp only at e2
  split at e2
  ·rename_i _ i j d
   by_cases z:Fx i j d
   ·rw[Qf z] at e2;cases e2;refine⟨i,j,d,?_,z,k _ ρ1 H1 T1 S1 (GS i d _)⟩;cases r1 with
    | cons r l=>cases l with
     | cons r' l=>cases l with
      | cons r'' l=>cases l;cases r;cases r';cases r'';rfl
   ·rw[Qo z] at e2;cases e2
  ·cases e2
end Sm
namespace L2
open PySem PySem.Spec PyProof.Rows PySem.SeqAt
end L2
namespace Sm
open PySem L2 PySem.Spec PyProof.Rows
end Sm
namespace Sm
open PySem L2 PySem.Spec PyProof.Rows PySem.SeqAt
noncomputable local instance:DecidableEq PyData:=λa b=>Classical.propDecidable _
section
variable {K:FR} {ρ ρ':Ad} {H H':Hp}
end
section
variable {X:Cx}
end
end Sm
namespace Sm
open PySem L2 PySem.Spec PyProof.Rows
abbrev v0:EM:=ax 0
abbrev v1:EM:=ax 1
abbrev v2:EM:=ax 2
abbrev v3:EM:=ax 3
abbrev v4:EM:=ax 4
abbrev v5:EM:=ax 5
abbrev v6:EM:=ax 6
abbrev v7:EM:=ax 7
abbrev v8:EM:=ax 8
abbrev v9:EM:=ax 9
abbrev v10:EM:=ax 10
abbrev v11:EM:=ax 11
abbrev NX:EM:=ax 12
abbrev NW:EM:=ax 13
abbrev Pn:EM:=ax 14
abbrev ki(i:Int):EM:=eK (.int i)
abbrev ks(x:Str):EM:=eK (.str x)
abbrev a1(x:EM):AM:=ag x aM
abbrev a2(x y:EM):AM:=ag x (ag y aM)
abbrev a3(x y z:EM):AM:=ag x (ag y (ag z aM))
abbrev a4(x y z u:EM):AM:=ag x (ag y (ag z (ag u aM)))
section
variable {P:Program} {w:World} {K:FR} {mg:Str->Option Value} {base:Heap} {x qual:Str} {st:Stmt} {f:Addr} {fd:FuncData} {N ps:List Str} {k:Nat}
theorem aI(F:sW K x qual st f fd)(Sc:aA N ps (aj st))(hb:∀(cdv:Value)(A:Around)(outer:List Env)(s:Shared)(H:Hp)(E:XK),cH k (A.deeper (envOfC qual (aj st) s.heap.objs.size f cdv))->N.Nodup->Ce (eV nz P w K mg base N qual (aj st) f cdv A outer s H E).Ef (df st) body):
  eO P w K mg base nz (k+1) f fd ps (Bj K ps.length (jT N.length body)):=Kv F Sc λc A o s H E hr=>hb c A o s H E hr Sc.nd
end
theorem LR{op:CmpOp}(ho:oz X (compareOp op) f)(ha:SE X a ma)(hb:SE X b mb)(hm:behindInMarks op b=false:=by first | exact jy _ | ac_nf):ST X (.Compare a [op] [b] pos) (aE (ao f ma mb)):=kN ho ha hb hm
theorem LX{op:CmpOp}(ho:oz X (compareOp op) f)(ha:SE X a ma)(hb:SE X b mb)(hm:behindInMarks op b=false:=by first | exact jy _ | ac_nf):SE X (.Compare a [op] [b] pos) (ao f ma mb):=Di ho ha hb hm
theorem Og{x1}(h:SA X es aM):SE X (.Tuple es x1 pos) (ay aX aM):=cp h aC
theorem Oe{x1}(h:SA X es (ag m0 aM)):SE X (.Tuple es x1 pos) (ay aX (ag m0 aM)):=cp h (ah aC)
theorem Od{x1}(h:SA X es (ag m0 (ag m1 aM))):SE X (.Tuple es x1 pos) (ay aX (ag m0 (ag m1 aM))):=cp h (ah (ah aC))
theorem Oc{x1}(h:SA X es (ag m0 (ag m1 (ag m2 aM)))):SE X (.Tuple es x1 pos) (ay aX (ag m0 (ag m1 (ag m2 aM)))):=cp h (ah (ah (ah aC)))
theorem Ob{x1}(h:SA X es (ag m0 (ag m1 (ag m2 (ag m3 aM))))):SE X (.Tuple es x1 pos) (ay aX (ag m0 (ag m1 (ag m2 (ag m3 aM))))):=cp h (ah (ah (ah (ah aC))))
theorem Oa{x1}(h:SA X es (ag m0 (ag m1 (ag m2 (ag m3 (ag m4 (ag m5 aM))))))):SE X (.Tuple es x1 pos) (ay aX (ag m0 (ag m1 (ag m2 (ag m3 (ag m4 (ag m5 aM))))))):=cp h (ah (ah (ah (ah (ah (ah aC))))))
theorem Om(h:SA X es aM):lG X (.List es pos) aM:=eh h aC
theorem Ol(h:SA X es (ag m0 aM)):lG X (.List es pos) (ag m0 aM):=eh h (ah aC)
theorem Oj(h:SA X es (ag m0 (ag m1 aM))):lG X (.List es pos) (ag m0 (ag m1 aM)):=eh h (ah (ah aC))
theorem Oi(h:SA X es (ag m0 (ag m1 (ag m2 (ag m3 (ag m4 (ag m5 (ag m6 (ag m7 aM))))))))):lG X (.List es pos) (ag m0 (ag m1 (ag m2 (ag m3 (ag m4 (ag m5 (ag m6 (ag m7 aM)))))))):=eh h (ah (ah (ah (ah (ah (ah (ah (ah aC))))))))
end Sm
namespace Hd
open PySem PySem.W PySem.Spec PyProof.Rows L2 Sm
theorem bh{q:Program}{loose:List Str}{mean:ExcName->Option Value}{mg mb:Str->Option Value}{h base:Heap}{P:Program}{w:World}(T:Top q loose mean mg mb h){n:Str}{st:Stmt}(e:(recsOf q).find? (λe=>e.name==n)=some (mr n st)){ps:List Str}{k N:Nat}{F:Fn}
  (ok:∀{f:Addr} {fd:FuncData},sW (aB h) n n st f fd->keepIn (aB h) (.ref f)=true->Binds (aB h) fd ps []->mg n=some (.ref f)->eO P w (aB h) mg base nz k f fd ps (Bj (aB h) N F)) (hb:∀{f:Addr} {fd:FuncData},sW (aB h) n n st f fd->Binds (aB h) fd ps []:=by walk_at "b"):Df P w (aB h) mg base n k ps N F:=MB T e hb ok
end Hd
namespace L2
open PySem PySem.Spec PyProof.Rows
section
variable {P:Program} {w:World} {A:Around} {E:Value->Shared->Prop} {s:Shared} {d J:Addr} {o:Obj} {es:Array DictEntry} {ep:Nat}
end
end L2
namespace Sm
open PySem L2 PySem.Spec PyProof.Rows PySem.SeqAt
end Sm
namespace Sb
open PySem L2 PySem.Spec PyProof.Rows
open Builtin.SmallTypes (nextOf ownedTupleIsFree ownedTupleHandOut)
section
variable {P:Program} {w:World} {A:Around} {E:Value->Shared->Prop} {s:Shared} {b c:Bool}
end
section
variable {P:Program} {w:World} {A:Around} {E:Value->Shared->Prop} {s:Shared}
end
end Sb
namespace Sm
open PySem L2 PySem.Spec PyProof.Rows
end Sm
namespace L2
open PySem PySem.Spec PyProof.Rows
end L2
namespace Sm
open PySem L2 PySem.Spec PyProof.Rows
mutual
noncomputable def HI:D->Bool
 | .cu=>true
 | .bl _=>true
 | .int _=>true
 | .str _=>true
 | .tup xs=>DK xs
 | _=>false
noncomputable def DK:List D->Bool
 | []=>true
 | x::r=>HI x&&DK r
end
section
variable {K:FR} {ρ ρ':Ad} {H H':Hp} (hh:∀b vs,Rd H b (.tup vs)->¬ρ.has b->Rd H' b (.tup vs)/\¬ρ'.has b)
include hh
mutual
theorem Du{v:V}{d:D}(r:Rep K ρ H v d)(f:HI d=true):Rep K ρ' H' v d:=by
 cases r with
 | cu=>exact .cu
 | bl b=>exact .bl b
 | int i=>exact .int i
 | str h=>exact .str h
 | tup h l=>exact .tup (h.elim (λ⟨a,n⟩=>.inl (hh _ _ a n)) .inr) (ua l f)
 | _=>cases f
theorem ua{vs:List V}{ds:List D}(r:aD K ρ H vs ds)(f:DK ds=true):aD K ρ' H' vs ds:=by
 cases r with
 | nil=>exact .nil
 | cons h t=>
  have f:=QE.mp f;exact .cons (Du h f.1) (ua t f.2)
end
end
end Sm
namespace L2
open PySem PySem.Spec PyProof.Rows
def Px(h:Heap)(x T:Addr)(C:Value):Prop:=
 ∃oe vs oT ts,h.get? x=some oe/\oe.cls=C/\oe.data=.fields vs/\vs[1]?=some (.ref T)/\T≠x/\h.get? T=some oT/\oT.data=.fields ts/\ts[3]?=some .none
noncomputable def iD(P:Program)(w:World):AY:=λouter H s E e s'=>∃x T C H',e=.ref x/\s.heap.get? x=none/\s.heap.get? T=none/\H' x=none/\H' T=none/\Px s'.heap x T C/\s'.os=s.os/\AllBare s'.gens/\
 Un (j9 outer) [] H H' s.heap s'.heap/\kh P w H' s'.heap/\E C none H'
theorem cf.ex(x:cf P w H h a o):∃u,h.get? a=some u:=by
 cases o with
 | lst xs=>obtain⟨_,_,_,_,e⟩:=x;exact⟨_,e⟩
 | tup xs=>obtain⟨_,_,_,o,e,_⟩:=x;exact⟨_,e⟩
 | dK kvs=>obtain⟨_,_,_,_,o,_,_,e,_⟩:=x;exact⟨_,e⟩
 | dT kvs=>obtain⟨_,_,_,_,o,_,_,e,_⟩:=x;exact⟨_,e⟩
 | set S n=>obtain⟨o,_,_,_,e,_⟩:=x;exact⟨_,e⟩
 | ins C dx fs=>obtain⟨_,_,_,e,_⟩:=x;exact⟨_,e⟩
 | own y=>exact x
 | xd fs=>obtain⟨_,⟨_,_,_,e,_⟩,_⟩:=x;exact⟨_,e⟩
 | yA lo hi=>obtain⟨_,_,_,e⟩:=x;exact⟨_,e⟩
 | pq ob u=>exact⟨_,x.1⟩
 | Hv ps=>exact⟨_,x⟩
 | met f y=>exact⟨_,x⟩
 | ext φ=>exact x.2.1
 | AB φ=>exact x.2.1
 | tb=>obtain⟨_,e,_⟩:=x;exact⟨_,e⟩
theorem qr{h base base':Heap}:∀{l:List Env},h.FunFrames base l->(∀b∈j9 l,base'.get? b=none)->h.FunFrames base' l
 | [],_,_=>trivial
 | env::r,⟨hk,⟨L,o,hf,hn,ho,hd⟩,hr⟩,k=>by
  have k':∀b,b=L\/b∈j9 r->base'.get? b=none:=λb hb=>k b (by unfold j9;rw[Ri,hf];exact Ql.mpr hb);exact⟨hk,⟨L,o,hf,k' L (.inl rfl),ho,hd⟩,qr hr λb hb=>k' b (.inr hb)⟩
abbrev KJ(CX:AY)(P:Program)(w:World)(K:FR)(mg:Str->Option Value)(base:Heap)(N:List Str)(qual:Str)(scope:Scope)(fn:Str->Bool)(cl:List (Str×Addr))(f:Addr)(cd:Value)(A:Around)(outer:List Env)(s:Shared)(H:Hp)(E:XK):Cx where
 prog:=P
 w:=w
 K:=K
 mg:=mg
 base:=base
 A:=A.deeper (PySem.W.envX qual scope s.heap.objs.size f cd cl)
 N:=N
 s₀:=s
 H₀:=H
 env:=PySem.W.envX qual scope s.heap.objs.size f cd cl
 outer:=outer
 stack:=PySem.W.envX qual scope s.heap.objs.size f cd cl::outer
 ex:=[]
 calm:=true
 fn:=fn
 pn:=[]
 xe:=λe s'=>wpAny (model P w) (A.deeper (PySem.W.envX qual scope s.heap.objs.size f cd cl)) (leaving (PySem.W.envX qual scope s.heap.objs.size f cd cl) e) (λ_ s''=>CX outer H s E e s'') (λe' s''=>CX outer H s E e' s'') s'
section
variable {CX:AY} {P:Program} {w:World} {K:FR} {mg:Str->Option Value} {base:Heap} {N:List Str} {qual:Str} {scope:Scope} {fn:Str->Bool} {cl:List (Str×Addr)} {f:Addr} {cd:Value} {A:Around} {outer:List Env} {s₀:Shared} {H₀:Hp} {E:XK} {pins:List (Addr×Obj)} {σ:St} {H:Hp} {s:Shared} {x T:Addr} {C:Value}
theorem xV(J:Inv (KJ (iD P w) P w K mg base N qual scope fn cl f cd A outer s₀ H₀ E) pins σ H s)(hx0:s₀.heap.get? x=none)(hHx:H x=none)(hT:∀b,b∈(x::ts)->H b=none/\s₀.heap.get? b=none){h':Heap}
  (hl:Heap.Left (PySem.W.hideAll s.heap ((x::ts)++j9 (PySem.W.envX qual scope s₀.heap.objs.size f cd cl::outer))) (PySem.W.envX qual scope s₀.heap.objs.size f cd cl::outer) x C s.heap h') (e:E C none H):iD P w outer H₀ s₀ E (.ref x) {s with heap:=h'}:=by
 obtain⟨st,ff,⟨oe,vs,T,oT,tr,he,hc,hd,h1,hbT,hTx,hgT,hdT,h3⟩,sl⟩:=hl;have keep:∀b o,s.heap.get? b=some o->b∉(x::ts)->b∉j9 (PySem.W.envX qual scope s₀.heap.objs.size f cd cl::outer)->h'.get? b=some o:=λb o eb n1 n2=>
  st b o (Ta _ eb λz=>(Qy.mp z).elim n1 n2)
 have fr:∀b∈j9 (PySem.W.envX qual scope s₀.heap.objs.size f cd cl::outer),H b=none:=J.qc;have fo:∀b o,s₀.heap.get? b=some o->b∉j9 outer->b∉j9 (PySem.W.envX qual scope s₀.heap.objs.size f cd cl::outer):=λb o eb n z=>by
  rcases Ql.mp (show b∈s₀.heap.objs.size::j9 outer from z) with z | z
  ·rw[z] at eb;exact absurd (Qz eb) (Sv _)
  ·exact n z
 have hTT:H T=none/\s₀.heap.get? T=none:=by
  by_cases z:T∈x::ts
  ·exact hT T z
  ·by_cases z2:T∈j9 (PySem.W.envX qual scope s₀.heap.objs.size f cd cl::outer)
   ·obtain⟨_,o,eo,hn⟩:=ff.mem z2;rw[hgT] at eo;cases eo;exact absurd hdT (hn _)
   ·have hn:s.heap.get? T=none:=by
     cases q:s.heap.get? T with
     | none=>rfl
     | some o=>rw[Ta _ q λy=>(Qy.mp y).elim z z2] at hbT;cases hbT
    refine⟨?_,?_⟩
    ·cases q:H T with
     | none=>rfl
     | some u=>obtain⟨o,eo⟩:=(J.a8 T u q).ex;rw[hn] at eo;cases eo
    ·cases q:s₀.heap.get? T with
     | none=>rfl
     | some o=>obtain⟨o',eo⟩:=J.base.there T o q (λy=>(nomatch y));rw[hn] at eo;cases eo
 have sx:∀b o,s₀.heap.get? b=some o->b∉x::ts:=λb o eb z=>by rw[(hT b z).2] at eb;cases eb
 refine⟨x,T,C,H,rfl,hx0,hTT.2,hHx,hTT.1,⟨oe,vs,oT,tr,he,hc,hd,h1,hTx,hgT,hdT,h3⟩,J.os,J.bare,⟨λb o eb n hb _=>?_,λb o eb n hb _=>?_,λb o eb n _=>J.base.free b o eb n (λy=>(nomatch y)),λb o eb _=>?_,J.base.nD,J.base.mR,J.base.nE⟩,?_,e⟩
 ·exact keep b o (J.base.keep b o eb n hb (λy=>(nomatch y))) (sx b o eb) (fo b o eb hb)
 ·obtain⟨sl1,e1⟩:=J.base.slot b o eb n hb (λy=>(nomatch y));obtain⟨_,o',eo,hn⟩:=J.stack.mem (Qi _ hb);rw[e1] at eo;cases eo;obtain⟨sl2,e2⟩:=sl b _ e1 hn;exact⟨sl2,e2⟩
 ·obtain⟨o1,e1⟩:=J.base.there b o eb (λy=>(nomatch y))
  by_cases z:b∈j9 (PySem.W.envX qual scope s₀.heap.objs.size f cd cl::outer)
  ·obtain⟨_,o',eo,hn⟩:=J.stack.mem z;obtain⟨sl2,e2⟩:=sl b _ eo hn;exact⟨_,e2⟩
  ·exact⟨_,keep b _ e1 (sx b o eb) z⟩
 ·have nt:∀b u,H b=some u->b∉x::ts/\b∉j9 (PySem.W.envX qual scope s₀.heap.objs.size f cd cl::outer):=λb u eb=>⟨λz=>(by rw[(hT b z).1] at eb;cases eb),λz=>(by rw[fr b z] at eb;cases eb)⟩;intro b u eb;refine(J.a8 b u eb).nJ (λc v hc q=>?_) (λ_ q=>q) λ_ _ q=>q;have:∃u,H c=some u:=by
   rcases hc with rfl | hc
   ·exact⟨u,eb⟩
   ·exact⟨_,hc⟩
  obtain⟨u',eu⟩:=this;exact keep c v q (nt c u' eu).1 (nt c u' eu).2
theorem AZ(J:Inv (KJ (iD P w) P w K mg base N qual scope fn cl f cd A outer s₀ H₀ E) pins σ H s)(hx0:s₀.heap.get? x=none)(hHx:H x=none){oe:Obj}{vs:Array Value}(he:s.heap.get? x=some oe)(hd:oe.data=.fields vs)(h1:vs[1]?=some .none)(e:E oe.cls none H):
  (KJ (iD P w) P w K mg base N qual scope fn cl f cd A outer s₀ H₀ E).xe (.ref x) s:=by
 refine wpAny_leaving_first (base:=PySem.W.hideAll s.heap ([x]++j9 (PySem.W.envX qual scope s₀.heap.objs.size f cd cl::outer))) J.ok.frames (qr J.stack λb hb=>Rp _ (Qq _ hb)) rfl he (λb o eb=>Te _ eb) (Rp _ (QH _ Qh)) hd h1 λh' hl=>?_;refine xV (ts:=[]) J hx0 hHx (λb hb=>?_) hl e;rw[Qw.mp hb];exact⟨hHx,hx0⟩
theorem Cs(J:Inv (KJ (iD P w) P w K mg base N qual scope fn cl f cd A outer s₀ H₀ E) pins σ H s)(hx0:s₀.heap.get? x=none)(hT0:s₀.heap.get? T=none)(hHx:H x=none)(hHT:H T=none)(hX:Px s.heap x T C)(e:E C none H):
  (KJ (iD P w) P w K mg base N qual scope fn cl f cd A outer s₀ H₀ E).xe (.ref x) s:=by
 obtain⟨oe,vs,oT,tr,he,hc,hd,h1,hTx,hgT,hdT,h3⟩:=hX;refine wpAny_leaving_next (cls:=C) (base:=PySem.W.hideAll s.heap ([x,T]++j9 (PySem.W.envX qual scope s₀.heap.objs.size f cd cl::outer))) J.ok.frames (qr J.stack λb hb=>Rp _ (Qq _ hb)) rfl ⟨oe,vs,T,oT,tr,he,hc,hd,h1,Rp _ (QH _ (Qi _ Qh)),hTx,hgT,hdT,h3⟩ (λb o eb=>Te _ eb) (Rp _ (QH _ Qh)) λh' hl=>?_;refine xV (ts:=[T]) J hx0 hHx (λb hb=>?_) hl e;rcases Ql.mp hb with rfl | hb
 ·exact⟨hHx,hx0⟩
 ·rw[Qw.mp hb];exact⟨hHT,hT0⟩
theorem Ah:Passes (iD P w) (KJ (iD P w) P w K mg base N qual scope fn cl f cd A outer s₀ H₀ E) E:=λpins σ H s e s' I h=>by
 obtain⟨x,T,C,H',rfl,nx,nT,hx,hT,X,os,bare,un,a8,q⟩:=h;have J:Inv (KJ (iD P w) P w K mg base N qual scope fn cl f cd A outer s₀ H₀ E) pins σ H' s':=I.call' os un a8 bare λb z=>(nomatch z);have old:∀b,s.heap.get? b=none->s₀.heap.get? b=none:=λb hb=>by
  cases q:s₀.heap.get? b with
  | none=>rfl
  | some o=>obtain⟨o',eo⟩:=I.base.there b o q (λy=>(nomatch y));rw[hb] at eo;cases eo
 exact Cs J (old x nx) (old T nT) hx hT X q
end
section
variable {P:Program} {w:World} {K:FR} {mg:Str->Option Value} {base:Heap} {N:List Str} {qual:Str} {scope:Scope} {f:Addr} {cd:Value} {A:Around} {outer:List Env} {s₀:Shared} {H₀:Hp} {E:XK} {pins:List (Addr×Obj)} {σ:St} {H:Hp} {s:Shared} {x T:Addr} {C:Value}
theorem Ct(J:Inv (eV (iD P w) P w K mg base N qual scope f cd A outer s₀ H₀ E) pins σ H s)(hx0:s₀.heap.get? x=none)(hHx:H x=none){oe:Obj}{vs:Array Value}(he:s.heap.get? x=some oe)(hd:oe.data=.fields vs)(h1:vs[1]?=some .none)(e:E oe.cls none H):
  (eV (iD P w) P w K mg base N qual scope f cd A outer s₀ H₀ E).xe (.ref x) s:=AZ (fn:=λ_=>true) (cl:=cellsFrom (s₀.heap.objs.size+1) scope.names []) J hx0 hHx he hd h1 e
theorem Aj:Passes (iD P w) (eV (iD P w) P w K mg base N qual scope f cd A outer s₀ H₀ E) E:=Ah (fn:=λ_=>true) (cl:=cellsFrom (s₀.heap.objs.size+1) scope.names [])
end
structure Fs(mg:Str->Option Value)(base:Heap)(nm:Str)(C:Addr):Prop where
 own:OwnCls nm C [.type "ValueError",.type "Exception",.type "BaseException",.type "object"] "ValueError.__new__" mg base
section
variable {P:Program} {w:World} {K:FR} {mg:Str->Option Value} {base:Heap} {N:List Str} {qual:Str} {scope:Scope} {f:Addr} {cd:Value} {A:Around} {outer:List Env} {s₀:Shared} {H₀:Hp} {E:XK}
theorem DN{nm:Str}{C:Addr}{a:Expr}{np cpos pos:Pos}{ta:TA}(O:Fs mg base nm C)(hg:Gl (eV (iD P w) P w K mg base N qual scope f cd A outer s₀ H₀ E) nm)(ha:PA (eV (iD P w) P w K mg base N qual scope f cd A outer s₀ H₀ E) [a] ta)
  (he:starEach [a] (envOfC qual scope s₀.heap.objs.size f cd)=[(false,eval a (envOfC qual scope s₀.heap.objs.size f cd))]) (hdb:(nm==("__debug__":Str))=false):
  PS (eV (iD P w) P w K mg base N qual scope f cd A outer s₀ H₀ E) (.Raise (some (.Call (.Name nm np) [a] [] cpos)) none pos) (λ_ σ H=>ta σ H λvs H1=>vs.length<=sizeLine/\E (.ref C) none H1):=by
 intro pins s σ H D I h;obtain⟨tl,Nn,nm',q,bs,hdct,sn,sub,ab,col,dd,k0,k1,k2,k3,k5,mN,hC,hN,hni,T⟩:=O.own.obj;refine wpAny_Raise_call_subU (C:=C) (nm:=nm') (q:=q) (N:=Nn) (bs:=bs) (bm:=tl) (hdct:=hdct) (sn:=sn) (sub:=sub) (ab:=ab) (col:=col) (dd:=dd) (k0:=k0) (k1:=k1) (k2:=k2) (k3:=k3) (k5:=k5)
  Tf (by decide) Tf (mN:=mN) (T.hasType Tf.hasBase) (I.ok.hd rfl) (by
   show(backTo cpos (starEach [a] (envOfC qual scope s₀.heap.objs.size f cd))).any (·.1)=false;rw[he];rfl) hni (j4 I hg O.own.bound ⟨rfl,?_⟩ hdb)
 show wpAny _ _ (evalArgs (.ref C) true (backTo cpos (starEach [a] (envOfC qual scope s₀.heap.objs.size f cd))) []) _ _ s;have hh:=ha cpos pins s σ H _ I h;have hh:wpAny _ _ (spliced (backTo cpos (starEach [a] (envOfC qual scope s₀.heap.objs.size f cd)))) _ _ s:=hh;rw[he] at hh ⊢;refine Calls.evalArgs_plain (Q4 hh (λus s2 hq=>?_) λ_ _ y=>y);obtain⟨vs,H1,I1,r1,hl,q1⟩:=hq;refine⟨rfl,by rw[<-r1.length];exact hl,I1.bk _ _ hC,hN.keeps I1.bk,T.keeps I1.bk,λh' e hm=>?_⟩;have I2:Inv (eV (iD P w) P w K mg base N qual scope f cd A outer s₀ H₀ E) pins σ H1 {s2 with heap:=h'}:=I1.kept (t':=s2.toks) hm.keeps;obtain⟨t,ht,_,_⟩:=hm.there;refine Ct I2 ?_ ?_ ht rfl rfl q1
 ·cases q:s₀.heap.get? e with
  | none=>rfl
  | some o=>obtain⟨o',eo⟩:=I1.base.there e o q (λy=>(nomatch y));rw[hm.new] at eo;cases eo
 ·cases q:H1 e with
  | none=>rfl
  | some u=>obtain⟨o,eo⟩:=(I1.a8 e u q).ex;rw[hm.new] at eo;cases eo
end
end L2
namespace Sm
open PySem L2 PySem.Spec PyProof.Rows
abbrev XM:=DS->MH->Option (Str×MH)
abbrev Xn:=List D->MH->Option (Str×MH)
def Ng(K:FR)(mg:Str->Option Value)(E:XK)(ρ:Ad)(H:Hp)(c:Str)(h':MH):Prop:=∀C ρ' H',mg c=some C->dh ρ H ρ' H'->bN K ρ' h' H'->E C none H'
theorem Ng.step{K:FR}{mg:Str->Option Value}{E:XK}{ρ ρ1:Ad}{H H1:Hp}{c:Str}{h':MH}(k:Ng K mg E ρ H c h')(T:dh ρ H ρ1 H1):Ng K mg E ρ1 H1 c h':=λC ρ' H' m T' S=>k C ρ' H' m (T.trans T') S
inductive Ni(K:FR)(mg:Str->Option Value)(E:XK)(x:XM)(σ:L2.St)(H:Hp):Prop where
 | mk (ρ δ h c h'):cK K ρ H σ δ->bN K ρ h H->x δ h=some (c,h')->Ng K mg E ρ H c h'->Ni K mg E x σ H
def XE(X:Cx)(E:XK)(e:Expr)(x:XM):Prop:=PE X e λσ H _=>Ni X.K X.mg E x σ H
def XS(X:Cx)(E:XK)(s:Stmt)(x:XM):Prop:=PS X s λ_ σ H=>Ni X.K X.mg E x σ H
def FA(X:Cx)(E:XK)(s:List Stmt)(x:XM):Prop:=wQ X s λ_ σ H=>Ni X.K X.mg E x σ H
noncomputable def NG:XM:=λ_ _=>none
noncomputable def Im(a b:XM):XM:=λδ h=>match a δ h with
 | some r=>some r
 | none=>b δ h
noncomputable def Io(t:TM)(a b:XM):XM:=λδ h=>(t δ h).bind λp=>if p.1 then a δ p.2 else b δ p.2
noncomputable def wR(a:SM)(b:XM):XM:=λδ h=>(a δ h).bind λr=>match r.1 with
 | .nx=>b r.2.1 r.2.2
 | _=>none
noncomputable def Ht(f:Xn)(a:AM):XM:=λδ h=>(a δ h).bind λp=>f p.1 p.2
noncomputable def nA(c:Str)(a:AM):XM:=λδ h=>(a δ h).map λp=>(c,p.2)
noncomputable def JV(len:Nat)(body:XM):Xn:=λds h=>body (entry len ds) h
inductive Nw(K:FR)(mg:Str->Option Value)(n:Nat)(F:Xn)(vs:List V)(H:Hp)(E:XK):Prop where
 | mk (ρ h ds c h'):bN K ρ h H->aD K ρ H vs ds->ds.length=n->F ds h=some (c,h')->Ng K mg E ρ H c h'->Nw K mg n F vs H E
def LU(K:FR)(mg:Str->Option Value)(n:Nat)(F:Xn):Sp:=λvs H _ E=>Nw K mg n F vs H E
section
variable {X:Cx} {E:XK} {a b c e tg iter elt:Expr} {es:List Expr} {st:Stmt} {sa sb sts:List Stmt} {pos:Pos} {ma mb:EM} {mt:TM} {ms mu:SM} {m:AM} {x y:XM}
theorem yD:FA X E sts NG:=λ_ _ _ _ _ _ h=>by obtain⟨_,_,_,_,_,_,_,z,_⟩:=h;cases z
theorem Co(ha:FA X E sts x)(hb:FA X E sts y):FA X E sts (Im x y):=λpins s σ H D I ⟨ρ,δ,h,c,h',R,S,z,k⟩=>by
 unfold Im at z;cases q:x δ h with
 | none=>rw[q] at z;exact hb pins s σ H D I ⟨ρ,δ,h,c,h',R,S,z,k⟩
 | some r=>rw[q] at z;cases z;exact ha pins s σ H D I ⟨ρ,δ,h,c,h',R,S,q,k⟩
theorem fq(h1:XS X E st x):FA X E (st::sts) x:=λpins s σ H D I h=>
 RE (cQ (h1 pins s σ H {nx:=λ_ _=>False,rt:=λ_ _=>False,bk:=λ_ _=>False,ct:=λ_ _=>False} I h) λf s1 q=>by
  cases f with
  | next=>obtain⟨_,_,_,q⟩:=q;exact q.elim
  | ret v=>obtain⟨_,_,_,_,_,q⟩:=q;exact q.elim
  | brk=>obtain⟨_,_,_,q⟩:=q;exact q.elim
  | cont=>obtain⟨_,_,_,q⟩:=q;exact q.elim)
theorem lH(h1:SS X st ms)(h2:FA X E sts x):FA X E (st::sts) (wR ms x):=(xx h1 h2).imp λD σ H ⟨ρ,δ,h,c,h',R,S,z,k⟩=>by
 obtain⟨⟨fl,δ1,h1⟩,e1,e2⟩:=bB z;refine⟨ρ,δ,h,fl,δ1,h1,R,S,e1,λρ1 H1 T1 S1=>?_⟩;cases fl with
 | nx=>exactλσ' R'=>⟨ρ1,δ1,h1,c,h',R',S1,e2,k.step T1⟩
 | bk=>cases e2
 | ct=>cases e2
 | rt d=>cases e2
theorem Cr(hc:ST X c mt)(ha:FA X E sa x)(hb:FA X E sb y):XS X E (.If c sa sb pos) (Io mt x y):=(HJ hc ha hb).imp λD σ H ⟨ρ,δ,h,c,h',R,S,z,k⟩=>by
 obtain⟨⟨b,h1⟩,e1,e2⟩:=bB z;refine⟨ρ,δ,h,b,h1,R,S,e1,λρ1 H1 T1 S1=>?_⟩;cases b with
 | true=>rw[Qf rfl] at e2 ⊢;exact⟨ρ1,δ,h1,c,h',R.mono T1.toCh,S1,e2,k.step T1⟩
 | false=>rw[Qo (by simp)] at e2 ⊢;exact⟨ρ1,δ,h1,c,h',R.mono T1.toCh,S1,e2,k.step T1⟩
theorem Ik(he:XE X E e x)(hs:swapsWithSole [tg] e pos.line X.env=pure false:=by ac_nf)(hw:swappedStores [tg] e X.env=pure none:=by ac_nf)(h1:(assignEach [tg] X.env).map (·.2)=[assign tg X.env]:=by ac_nf)
  (hg:PG X tg g):XS X E (.Assign [tg] e pos) x:=DQ he hg hs hw h1
theorem FF(G:eO X.prog X.w X.K X.mg X.base (iD X.prog X.w) k f fd ps (LU X.K X.mg n F))(hp:Passes (iD X.prog X.w) X E)(hr:cH k X.A)(hg:Gl X nm)(hm:X.mg nm=some (.ref f))(hk:PySem.W.keepIn X.K (.ref f)=true)(hb:Binds X.K fd ps [])
  (ha:SA X (e::es) m) (hl:kl m n) (hdb:(nm==("__debug__":Str))=false:=by ac_nf) (he:starEach (e::es) X.env=(false,eval e X.env)::starEach es X.env:=by ac_nf) (hpl:(backTo pos (starEach es X.env)).any (·.1)=false:=by ac_nf):
  XE X E (.Call (.Name nm p) (e::es) [] pos) (Ht F m):=(Ag (E:=E) G hr hg hm hk hb .nil hp ha hdb he hpl).imp λσ H Q ⟨ρ,δ,h,c,h',R,S,z,q⟩=>by
 obtain⟨⟨ds,h1⟩,e1,e2⟩:=bB z;refine⟨ρ,δ,h,ds,h1,R,S,e1,λvs ρ1 H1 T1 S1 r1=>?_⟩;show LU X.K X.mg n F (vs++[]) H1 Q E;rw[Q6];exact⟨ρ1,h1,ds,c,h',S1,r1,hl _ _ _ _ e1,e2,q.step T1⟩
end
section
variable {P:Program} {w:World} {K:FR} {mg:Str->Option Value} {base:Heap} {N:List Str} {qual:Str} {scope:Scope} {f:Addr} {cd:Value} {A:Around} {outer:List Env} {s₀:Shared} {H₀:Hp} {E:XK}
theorem Cq{nm:Str}{C:Addr}{a:Expr}{np cpos pos:Pos}{ma:EM}(O:Fs mg base nm C)(hg:Gl (eV (iD P w) P w K mg base N qual scope f cd A outer s₀ H₀ E) nm)(ha:SE (eV (iD P w) P w K mg base N qual scope f cd A outer s₀ H₀ E) a ma)
  (he:starEach [a] (envOfC qual scope s₀.heap.objs.size f cd)=[(false,eval a (envOfC qual scope s₀.heap.objs.size f cd))]:=by ac_nf) (hdb:(nm==("__debug__":Str))=false:=by ac_nf):
  XS (eV (iD P w) P w K mg base N qual scope f cd A outer s₀ H₀ E) E (.Raise (some (.Call (.Name nm np) [a] [] cpos)) none pos) (nA nm (ag ma aM)):=
 (DN O hg (aa ha aq he) he hdb).imp λD σ H ⟨ρ,δ,h,c,h',R,S,z,k⟩=>by
  obtain⟨⟨ds,h1⟩,e1,e2⟩:=QD.mp z;cases e2;refine⟨ρ,δ,h,ds,h1,R,S,e1,λvs ρ1 H1 T1 S1 r1=>⟨?_,k _ ρ1 H1 O.own.bound T1 S1⟩⟩;rw[r1.length];obtain⟨⟨d,h2⟩,f1,f2⟩:=bB e1;cases f2;exact(by decide:1<=sizeLine)
end
section
variable {P:Program} {w:World} {K:FR} {mg:Str->Option Value} {base:Heap} {x qual:Str} {st:Stmt} {f:Addr} {fd:FuncData} {N ps:List Str} {k:Nat} {body:XM}
theorem Ku(F:sW K x qual st f fd)(Sc:aA N ps (aj st))(hb:∀(cdv:Value)(A:Around)(outer:List Env)(s:Shared)(H:Hp)(E:XK),cH k (A.deeper (envOfC qual (aj st) s.heap.objs.size f cdv))->N.Nodup->FA (eV (iD P w) P w K mg base N qual (aj st) f cdv A outer s H E) E (df st) body):
  eO P w K mg base (iD P w) (k+1) f fd ps (LU K mg ps.length (JV N.length body)):=by
 obtain⟨oc,od,kV,doc,pm,an,cdv,ct,osl,rfl,lk,hcd⟩:=F.ex;refine EB lk hcd Sc (λvs H Q E h=>?_) λA outer s H vs Q E hr h=>?_
 ·obtain⟨ρ,h,ds,c,h',S,r,hl,_⟩:=h;rw[r.length];exact hl
 ·obtain⟨ρ,h,ds,c,h',S,r,hl,e,q⟩:=h;exact⟨_,hb cdv A outer s H E hr Sc.nd,ρ,entry N.length ds,h,c,h',cK.entry N r,S,e,q⟩
end
end Sm
namespace L2
open PySem PySem.Spec PyProof.Rows PySem.F
def yu(h:Heap)(C:Addr)(bm:List Value):Prop:=∃nm q N bs hdct sn sub ab col dd k0 k1 k2 k3 k5 newId,h.get? C=some (excClassObj nm q C N bs bm hdct sn sub ab col dd k0 k1 k2 k3 k5 newId)
section
variable {M:Model} {A:Around} {E:Value->Shared->Prop}
theorem Lq{h:Heap}{g:Array GenState}{d:Drawn}{t:Nat}{os:OsState}{e C D:Addr}{oe:Obj}{bm bmC:List Value}{Q:Bool->Shared->Prop}
  (hD:yu h D bm) (hC:yu h C bmC) (he:h.get? e=some oe) (hcls:oe.cls=.ref D) (hbase:bmC.contains (.type "BaseException")=true) {b:Bool} (hb:(Value.ref D::bm).contains (.ref C)=b)
  (hq:Q b ⟨h,g,d,t,os⟩):wpAny M A (excMatches (.ref e) (.ref C)) Q E ⟨h,g,d,t,os⟩:=by
 obtain⟨_,_,_,_,_,_,_,_,_,_,_,_,_,_,_,_,hD⟩:=hD;obtain⟨_,_,_,_,_,_,_,_,_,_,_,_,_,_,_,_,hC⟩:=hC;have hcB:(Value.ref C::bmC).contains (.type "BaseException")=true:=by rw[List.contains_cons,hbase,Bool.or_true]
 have f:=tc_notTuple;unfold excMatches
 repeat(first |(with_reducible refine Uq he ?_;rw[hcls]) | with_reducible refine Uq hC ?_ | with_reducible refine Uq hD ?_ |(with_reducible refine wpAny_isSubtype_exc hC ?_;rw[hcB]) |(with_reducible refine wpAny_isSubtype_exc hD ?_;rw[hb]) | wp_step)
 cases b with
 | true=>repeat(first | exact hq | wp_step)
 | false=>repeat(first | exact hq | wp_step)
end
end L2
namespace L2
open PySem PySem.Spec PySem.W PySem.Calls PyProof.Rows Builtin Builtin.ObjectAttr Builtin.Getset_descriptor
section
variable {prog:Program} {w:World} {A:Around} {E:Value->Shared->Prop} {s:Shared} {K:Frag} {x D:Addr}
structure XQ(K:Frag)(D:Addr):Prop where
 ga:findIn K (.ref D) "__getattribute__"=some (some (.builtin "BaseException.__getattribute__"))
 gr:findIn K (.ref D) "__getattr__"=some none
 cl:findIn K (.ref D) "__class__"=some (some (.builtin "object.__class__"))
 ob:mroIn K D (.type "object")=some true
 be:mroIn K D (.type "BaseException")=some true
theorem yC.type{M:Model}{h:Heap}(I:yC h x D):Looks M h (typeOf (.ref x)) (.ref D):=by
 obtain⟨o,h1,h2⟩:=I;exact h2 ▸ (Looks.ld h1).andThen .now
theorem Il{R:Result->Shared->Prop}{tp:Value}(X:K.In s.heap)(I:yC s.heap x D)(hm:mroIn K D (.type "object")=some true)(h:R (.ok (.ret (.ref D))) s):
  codeAny (model prog w) A (.call (.builtin "getset_descriptor.__get__") ⟨[.builtin "object.__class__",.ref x,tp],[]⟩) R s:=by
 obtain⟨hh,g,dr,t,os⟩:=s;have L0:=I.type (M:=model prog w);have L1:=looks_mroIn (M:=model prog w) X hm;refine codeAny_call_builtin KF.slot_gs.plain KF.entry_gs (KF.slot_gs.check _ _ _ _ _ _ _ _ KF.type_class (KF.args_gs _ _ _) ?_);unfold Builtin.«getset_descriptor.__get__» descrGet;rw[dga_obj];refine Qe (QC ?_);unfold descrGetter descrCheckInstance descrNameAndClass isInstance;simp only[KF.owner_class]
 repeat lk
 refine⟨Code.quiet_builtin _ (by decide+kernel),codeAny_builtin KF.entry_class ?_⟩;unfold Builtin.«object.__class__» shownTypeOf
 repeat lk
 exact h
theorem Cu{tk:Tok}{Q:Fin->Shared->Prop}(C:XQ K D)(X:K.In s.heap)(I:yC s.heap x D)(hq:Q (.done (.ret (.ref D))) s):
  wpAny (model prog w) A (Builtin.«object.__getattribute__» ⟨[.ref x,.str "__class__" tk],[]⟩) Q E s:=by
 obtain⟨h,g,d,t,os⟩:=s;have L0:=I.type (M:=model prog w);have L1:=looks_findIn (M:=model prog w) X C.cl;unfold Builtin.«object.__getattribute__»
 repeat(any_goals (first | assumption | lk | wp_step))
 show wpAny _ _ (run (.call (.builtin "getset_descriptor.__get__") ⟨[.builtin "object.__class__",.ref x,.ref D],[]⟩) none) _ _ _;refine wpAny_run (Il X I C.ob ?_);exact QC (QC hq)
theorem Cw{M:Model}{nameV:Value}{Q:Unit->Shared->Prop}(C:XQ K D)(X:K.In s.heap)(I:yC s.heap x D)(hq:Q () s):wpAny M A (checkBuiltinCall "BaseException.__getattribute__" ⟨[.ref x,nameV],[]⟩) Q E s:=by
 obtain⟨h,g,d,t,os⟩:=s;have hk:builtinKind "BaseException.__getattribute__"=some .slot:=by decide+kernel
 have hsplit:splitId "BaseException.__getattribute__"=some ("BaseException","__getattribute__"):=by decide+kernel
 have ha:=F.args_bexc_ga (.ref x) nameV;have L0:=I.type (M:=M);have L1:=looks_mroIn (M:=M) X C.be;simp only[checkBuiltinCall,hk,hsplit];refine Qe ?_
 ·unfold isInstance
  repeat(first | lk | wp_step)
  exact hq
theorem Ls{tk:Tok}{fill expr:Bool}{Q:Value->Shared->Prop}(C:XQ K D)(X:K.In s.heap)(I:yC s.heap x D)(hq:Q (.ref D) s):
  wpAny (model prog w) A (getAttrBy (.ref x) (.str "__class__" tk) fill expr) Q E s:=by
 obtain⟨h,g,d,t,os⟩:=s;have hx0:(expr&&onTheHeap (Value.builtin "BaseException.__getattribute__"))=false:=by cases expr <;> rfl
 have hx2:(Value.builtin "BaseException.__getattribute__"==Value.builtin "object.__getattribute__")=false:=by decide+kernel
 have hx1:(onTheHeap (Value.ref D)&&Value.builtin "BaseException.__getattribute__"==Value.builtin "object.__getattribute__")=false:=by rw[hx2];rfl
 have f3:=F.excAttr_ValueError.ga.bind (.ref x);have L0:=I.type (M:=model prog w);have L1:=looks_findIn (M:=model prog w) X C.ga;have L2:=looks_findIn (M:=model prog w) X C.gr;unfold getAttrBy
 repeat(any_goals (first | assumption | lk | wp_step))
 show wpAny _ _ (Sem.attempt (holding _ (callGetattribute (.ref x) (.str "__class__" tk) (.builtin "BaseException.__getattribute__") expr))) _ _ _;refine Uk (Td ?_);unfold callGetattribute
 repeat(any_goals (first | assumption | lk | wp_step))
 show wpAny _ _ (run (.call (.builtin "BaseException.__getattribute__") ⟨[.ref x,.str "__class__" tk],[]⟩) none) _ _ _;refine wpAny_run (codeAny_call_builtin F.attrBase_ValueError.ga.plain F.entry_bexc_ga (Cw C X I (Cu C X I ?_)));exact QC (handed_on rfl hq)
theorem Cv{Q:Option Value->Shared->Prop}(C:XQ K D)(X:K.In s.heap)(I:yC s.heap x D)(h:Q (some (.ref D)) {s with toks:=s.toks+1}):wpAny (model prog w) A (getAttr? (.ref x) "__class__") Q E s:=by
 obtain⟨hh,g,d,t,os⟩:=s;unfold getAttr? getAttrBy?;refine Qe (wpAny_mkText (Qe (Uk (Ls (s:=⟨hh,g,d,t+1,os⟩) C X I ?_))));exact QC h
end
theorem Ew{K:Frag}{x D:Addr}(C:XQ K D)(hdct:(clsIn K D).isSome=true):KitX K (.ref x) (.ref D) (λh=>yC h x D) where
 ty:=λ_ _ _ I=>I.type
 it:=λ_ _ X _=>by
  obtain⟨cdD,hcD⟩:=RP.mp hdct;unfold clsIn at hcD
  split at hcD
  ·rename_i c' d' cd' sl' ho;intro A' Q' E' s' k q;unfold isType loadHead;exact Qe (wpAny_loadPart (k _ _ (X _ _ ho)) (QC q))
  ·cases hcD
 ne:=λh tp dd its n sl X htp=>by
  obtain⟨cdD,hcD⟩:=RP.mp hdct;refine Bool.eq_false_iff.mpr λq=>?_;have e:D=tp:=Value.ref.inj (Rt.mp q);subst e;unfold clsIn at hcD
  split at hcD
  ·rename_i c' d' cd' sl' ho;have z:=(X _ _ ho).symm.trans htp;cases z
  ·cases hcD
 ca:=λX I k=>Cv C X I k
theorem zr{prog:Program}{w:World}{A:Around}{E:Value->Shared->Prop}{s:Shared}{Q:Value->Shared->Prop}{K:Frag}{x D:Addr}{c:Value}{b:Bool}(C:XQ K D)(hdct:(clsIn K D).isSome=true)(X:K.In s.heap)(I:yC s.heap x D)(e:kitOne K (.ref D) c=some b)
  (h:∀tk,Q (.bool b) {s with toks:=tk}):wpAny (model prog w) A (call (.builtin "isinstance") [.ref x,c]) Q E s:=kia_one (Ew C hdct) X I e (λz=>nomatch z) h
end L2
namespace L2
open PySem PySem.Spec PyProof.Rows
section
variable {X:Cx} {pins:List (Addr×Obj)} {σ:St} {H:Hp} {s s':Shared} {E:XK} {e:Value} {L:Addr} {rest:List Env}
theorem sO(I:Inv X pins σ H s)(hs:X.stack=X.env::rest)(hf:X.env.frame=some L)(h:iD X.prog X.w X.stack H s E e s'):
  ∃x C H',e=.ref x/\E C none H'/\∀{M:Model} {B:Around} {F:Value->Shared->Prop} {Q:Unit->Shared->Prop},B.frames=some X.stack->
   (∀s3,Inv X pins σ H' s3->(∃o vs,s3.heap.get? x=some o/\o.cls=C/\o.data=.fields vs)->H' x=none->s.heap.get? x=none->
    (∀{M':Model} {B':Around} {F':Value->Shared->Prop} {Q':Unit->Shared->Prop},(∀s4,Inv X pins σ H' s4->(∃o vs,s4.heap.get? x=some o/\o.cls=C/\o.data=.fields vs)->Q' () s4)->wpAny M' B' (setFlight (.ref x) none) Q' F' s3)->Q () s3)->
   wpAny M B (noteFrame (.ref x) X.env) (λ_ s2=>wpAny M B (setFlight (.ref x) none) Q F s2) F s':=by
 obtain⟨x,T,C,H',rfl,nx,nT,hx,hT,⟨oe,vs,oT,tr,he,hc,hd,h1,hTx,hgT,hdT,h3⟩,os,bare,un,a8,q⟩:=h;have J:Inv X pins σ H' s':=I.call' os un a8 bare λb z=>(nomatch z);refine⟨x,C,H',rfl,q,λ{M B F Q} hfr k=>?_⟩;have h0:vs[0]?=some (vs[0]'(Uc (by decide) (Th.mp h1).1)):=Array.getElem?_eq_getElem _;have hide:∀b,b∈[x,T]++j9 X.stack->(PySem.W.hideAll s'.heap ([x,T]++j9 X.stack)).get? b=none:=λb hb=>Rp _ hb;have FL:Heap.FlyingW (PySem.W.hideAll s'.heap ([x,T]++j9 X.stack)) (X.env::rest) x C (vs[0]'(Uc (by decide) (Th.mp h1).1)) s'.heap:=
  ⟨λb o eb=>Te _ eb,hide x (QH _ Qh),hs ▸ qr J.stack (λb hb=>hide b (Qq _ hb)),oe,vs,T,oT,tr,he,⟨hc,h0⟩,hd,h1,hide T (QH _ (Qi _ Qh)),hTx,hgT,hdT,h3⟩
 have fr:∀b∈j9 X.stack,H' b=none:=J.qc;have sx:∀b o,s.heap.get? b=some o->b≠x/\b≠T:=λb o eb=>⟨λz=>(by rw[z,nx] at eb;cases eb),λz=>(by rw[z,nT] at eb;cases eb)⟩;have fin:∀h3',Heap.FlyingW (PySem.W.hideAll s'.heap ([x,T]++j9 X.stack)) (X.env::rest) x C (vs[0]'(Uc (by decide) (Th.mp h1).1)) h3'->s'.heap.UpToSlots h3'->
   Inv X pins σ H' {s' with heap:=h3'}/\∃o vs,h3'.get? x=some o/\o.cls=C/\o.data=.fields vs:=λh3' fl U=>by
  obtain⟨st,_,ff,tr⟩:=fl;have keep:∀b o,s'.heap.get? b=some o->b≠x->b≠T->b∉j9 X.stack->h3'.get? b=some o:=λb o eb n1 n2 n3=>st b o (Ta _ eb λz=>by
   rcases Qy.mp z with z | z
   ·rcases Ql.mp z with z | z
    ·exact n1 z
    ·exact n2 (Qw.mp z)
   ·exact n3 z)
  refine⟨I.call' (ch:=[]) os ⟨λb o eb n hb hx'=>keep b o (un.keep b o eb n hb hx') (sx b o eb).1 (sx b o eb).2 hb,λb o eb n hb hx'=>?_,un.free,λb o eb hx'=>?_,un.nD,un.mR,un.nE⟩ (λb u eb=>?_) bare λb z=>(nomatch z),?_⟩
  ·obtain⟨sl1,e1⟩:=un.slot b o eb n hb hx';obtain⟨_,o',eo,hn⟩:=J.stack.mem hb;rw[e1] at eo;cases eo;obtain⟨sl2,e2⟩:=U b _ e1 hn;exact⟨sl2,e2⟩
  ·obtain⟨o1,e1⟩:=un.there b o eb hx'
   by_cases z:b∈j9 X.stack
   ·obtain⟨_,o',eo,hn⟩:=J.stack.mem z;obtain⟨sl2,e2⟩:=U b _ eo hn;exact⟨_,e2⟩
   ·exact⟨_,keep b _ e1 (sx b o eb).1 (sx b o eb).2 z⟩
  ·refine(a8 b u eb).nJ (λc v hc' q'=>?_) (λ_ q'=>q') λ_ _ q'=>q';have:∃u,H' c=some u:=by
    rcases hc' with rfl | hc'
    ·exact⟨u,eb⟩
    ·exact⟨_,hc'⟩
   obtain⟨u',eu⟩:=this;exact keep c v q' (λz=>by rw[z,hx] at eu;cases eu) (λz=>by rw[z,hT] at eu;cases eu) λz=>by rw[fr c z] at eu;cases eu
  ·obtain⟨oe',vs',_,_,_,he',hc',hd',_⟩:=tr;exact⟨oe',vs',he',hc'.1,hd'⟩
 refine wpAny_looks_onW (hs ▸ hfr) hf FL λh2 hh u1=>wpAny_landsW hh λh3' fl u2=>?_;obtain⟨J3,x3⟩:=fin h3' fl (u1.trans u2);refine k _ J3 x3 hx nx λ{M' B' F' Q'} k'=>?_;obtain⟨st,fb,ff,tr⟩:=id fl;refine wpAny_setFlight_noneW (s:={s' with heap:=h3'}) st ff tr λh4' k1 k2 k3 k4=>?_;obtain⟨J4,x4⟩:=fin h4' ⟨k1,fb,k2,k3⟩ ((u1.trans u2).trans λb o hb hn=>⟨o.slots,k4 b o hb hn⟩);exact k' _ J4 x4
end
end L2
namespace L2
open PySem PySem.Spec PySem.Calls PyProof.Rows
section
variable {prog:Program} {w:World} {A:Around} {E:Value->Shared->Prop} {s:Shared} {env:Env}
theorem BO{e C D:Addr}{bm bmC:List Value}{t:Expr}{n:Str}{b₀:Stmt}{suite:List Stmt}{pos:Pos}{rest:List ExceptHandler}{Q:Flow->Shared->Prop}(hbase:bmC.contains (.type "BaseException")=true)(hb:(Value.ref D::bm).contains (.ref C)=true)
  (h:wpAny (model prog w) (A.mark (some (.ref e))) (eval t env) (λc s₁=>c=.ref C/\yu s₁.heap D bm/\yu s₁.heap C bmC/\(∃oe,s₁.heap.get? e=some oe/\oe.cls=.ref D)/\
   wpAny (model prog w) (A.mark (some (.ref e))) (setFlight (.ref e) none) (λ_ s₂=>
     wpAny (model prog w) (A.mark (some (.ref e))) (storeName env n (.ref e)) (λ_ s₃=>
      wpAny (model prog w) (A.mark (some (.ref e))) (execs (b₀::suite) env)
       (λf s₄=>wpAny (model prog w) A (do bindName env n .none;unbindBehindTheSuite env n pos) (λ_ s₅=>Q f s₅) E s₄)
       (AsSuiteRaised (model prog w) (A.mark (some (.ref e))) env n pos (notedBy (model prog w) (A.mark (some (.ref e))) env (cameBackBy (model prog w) A env E))) s₃) (notedBy (model prog w) (A.mark (some (.ref e))) env (cameBackBy (model prog w) A env E)) s₂) (notedBy (model prog w) (A.mark (some (.ref e))) env (cameBackBy (model prog w) A env E)) s₁) (notedBy (model prog w) (A.mark (some (.ref e))) env (cameBackBy (model prog w) A env E)) s):
  wpAny (model prog w) A (handleBy (.ref e) env (.ExceptHandler (some t) (some n) (b₀::suite) pos::rest)) Q E s:=by
 refine wpAny_handleBy_cons (codeAny_handlers_test (Q4 h (λc s₁ h₁=>?_) λ_ _ y=>y)) (by intro q;cases q);obtain⟨rfl,OD,OC,⟨oe,he,hcls⟩,hk⟩:=h₁;obtain⟨hh,g,d,tk,os⟩:=s₁;exact Lq OD OC he hcls hbase hb (codeAny_handlers_suite_as hk)
end
abbrev Cx.Fy(X:Cx)(v:Value)(E:Value->Shared->Prop):Cx:={X with A:=X.A.mark (some v),calm:=false,xe:=E}
section
variable {X:Cx} {v:Value} {E:Value->Shared->Prop} {pins:List (Addr×Obj)} {σ:St} {H:Hp} {s:Shared}
theorem Cx.Ok.Fy(ok:X.Ok):(X.Fy v E).Ok:=
 ⟨ok.mod,ok.kind,ok.glob,ok.blt,ok.above,ok.inj,ok.has,ok.Lj,(λz=>nomatch z),ok.frames,ok.LQ,ok.OX,ok.bs,ok.Fz,ok.BB,ok.EL,ok.og,ok.HS⟩
theorem Inv.Fy(I:Inv X pins σ H s):Inv (X.Fy v E) pins σ H s:=⟨I.ok.Fy,I.os,I.bare,I.base,I.loc,I.cell,I.free,I.gm,I.pin,I.a8,I.len⟩
theorem Inv.OM(I:Inv X pins σ H s){s':Shared}{σ':St}{H':Hp}(J:Inv (X.Fy v E) pins σ' H' s'):Inv X pins σ' H' s':=⟨I.ok,J.os,J.bare,J.base,J.loc,J.cell,J.free,J.gm,J.pin,J.a8,J.len⟩
end
section
variable {X:Cx} {pins:List (Addr×Obj)} {σ:St} {H:Hp} {s:Shared}
theorem Ba{M:Model}{A:Around}{E:Value->Shared->Prop}{i:Nat}{x:Str}{v:V}{Q:Unit->Shared->Prop}(I:Inv X pins σ H s)(hN:X.N.Nodup)(hi:X.N[i]?=some x)(hk:X.env.scope.names.lookup x=some .local)(hv:σ[i]?=some (some v))
  (h:∀s',Inv X pins (σ.set i none) H s'->Q () s'):wpAny M A (unbindName X.env x) Q E s:=by
 obtain⟨m,hn,hl⟩:=id I.loc;have hcls:(X.env.scope.kind==.class||(X.env.scope.kind==.module&&X.env.locals !=X.env.globals))=false:=by rw[I.ok.kind];rfl
 have hiσ:i < σ.length:=by rw[I.len];exact(Qc.mp hi).1
 have E4:=I.E4;have tracked:∀{a:Addr} {h':Heap},(∃o,s.heap.get? a=some o/\H a=none)->Heap.SameBut a s.heap h'->kh X.prog X.w H h':=λ{a h'} ha hs b ob e=>by
  obtain⟨_,_,hfree⟩:=ha;refine(I.a8 b ob e).nJ (λc w' hc q=>(hs.2 c ?_).trans q) (λ_ q=>q) λ_ _ q=>q;rintro rfl;rcases hc with rfl | hc
  ·rw[hfree] at e;cases e
  ·rw[hfree] at hc;cases hc
 obtain⟨u0,_,q0⟩:=hl i x v hi hv (.inl hk);have hm:m x=some u0:=by
  rcases q0 with⟨_,e⟩ |⟨k,_⟩
  ·exact e
  ·have hk':X.env.kindOf x=some .local:=hk;rw[hk'] at k;rcases k with k | k <;> cases k
 refine wpAny_unbindName_local (m:=m) hk hn hm hcls λh' u' hn' hs=>?_;obtain⟨oL,_,_,hoL,_⟩:=id hn;refine h _ ⟨I.ok,I.os,I.bare,⟨λb o e n hb hx=>?_,λb o e n hb hx=>?_,I.base.free,λb o e hx=>?_,I.base.nD,I.base.mR,I.base.nE⟩,⟨_,hn',λj y v' e1 e2 e3=>?_⟩,λy c e=>?_,I.free,I.gm,λp hp=>?_,tracked ⟨oL,hoL,I.free⟩ hs,by simpa using I.len⟩
 ·exact(hs.2 b (QJ (QF (Qz e) I.ok.above))).trans (I.base.keep b o e n hb hx)
 ·obtain⟨sl,e1⟩:=I.base.slot b o e n hb hx;exact⟨sl,(hs.2 b (QJ (QF (Qz e) I.ok.above))).trans e1⟩
 ·obtain⟨o',e1⟩:=I.base.there b o e hx;exact⟨o',(hs.2 b (QJ (QF (Qz e) I.ok.above))).trans e1⟩
 ·by_cases hj:j=i
  ·subst hj;rw[QR hiσ] at e2;cases e2
  ·rw[QX (RM hj)] at e2;obtain⟨u',r',q⟩:=hl j y v' e1 e2 e3;refine⟨u',r',?_⟩;rcases q with⟨k,e⟩ |⟨k,c,e,z⟩
   ·refine .inl ⟨k,?_⟩;have:y≠x:=λe=>hj (rN hN e1 (e ▸ hi));simp[this,e]
   ·exact .inr ⟨k,c,e,z.sameBut hs (E4 y c e)⟩
 ·obtain⟨w',z⟩:=I.cell y c e;exact⟨w',z.sameBut hs (E4 y c e)⟩
 ·obtain⟨e,n,ne,nf,d⟩:=I.pin p hp;exact⟨(hs.2 p.1 ne).trans e,n,ne,nf,d⟩
end
end L2
namespace L2
open PySem PySem.Spec PySem.W PySem.Calls PyProof.Rows
structure Cg(K:Frag)(mg:Str->Option Value)(cd:Value)(P:Addr):Prop where
 hd:∃c o vs file tf flags tg inF text tt,cd=.ref c/\K.lookup c=some o/\o.cls=.type "code"/\o.data=.fields vs/\vs[11]?=some (.ref P)/\vs.getD 11 .none=.ref P/\vs.getD 18 .none=.str file tf/\
  vs.getD 7 .none=.int flags tg/\vs.getD 9 .none=.bool inF/\vs.getD 10 .none=.int text tt/\c≠P
 tab:ix K P
 bm:∃bm ob,mg "__builtins__"=some (.ref bm)/\bm≠builtinsNs/\K.lookup bm=some ob/\ob.cls=.type "module"/\ob.dict=some builtinsNs/\ob.data=.plain
theorem zJ{pos:Pos}{x c:Value}{a b:Int}:∀(l:List Value),TriplesOk l->codeAmong pos (l++[rawInt a,rawInt b,c])=some x->codeAmong pos l=some x\/x=c:=by
 intro l
 fun_induction TriplesOk l with
 | case1=>
  intro _ h;right;simp only[Rj,codeAmong,rawInt] at h
  split at h
  ·exact(Option.some.inj h).symm
  ·cases h
 | case2 a' t b' u y rest ih=>
  intro ht h;simp only[QL,codeAmong] at h ⊢
  split at h
  ·left;rename_i hc;rw[Qf hc];exact h
  ·rename_i hc;rw[Qo hc];exact ih ht h
 | case3 l h1 h2=>exactλh=>h.elim
section
variable {X:Cx} {pins:List (Addr×Obj)} {σ:St} {H:Hp} {s:Shared} {P:Addr} {params:Arguments} {body:Expr} {scope:Scope} {pos:Pos} {cl:List (Str×Addr)} {Q:Value->Shared->Prop} {E:Value->Shared->Prop}
structure PJ(K:Frag)(mg:Str->Option Value)(P:Addr)(params:Arguments)(body:Expr)(scope:Scope)(cl:List (Str×Addr))(H:Hp)(f:Addr):Prop where
 ex:∃qn c' ctv oc vs q t,H f=some (.pq (kla_obj "<lambda>" qn params body scope cl ((mg "__name__").getD .none) c' ctv) (.own f))/\H c'=some (.pq oc (.own P))/\oc.data=.fields vs/\vs[1]?=some (.str q t)
theorem Kf(I:Inv X pins σ H s)(L:Cg X.K X.mg X.env.code P)(tP:H P=some .tb)(hd:defaultsOf params X.env=([],[]))(hcl:closureFor scope X.env=pure cl)
  (h:∀s' H' f,Inv X pins σ H' s'->(∀b o,H b=some o->H' b=some o)->(∀b,s.heap.objs.size<=b\/H' b=H b)->s.heap.objs.size<=f->PJ X.K X.mg P params body scope cl H' f->Q (.ref f) s'):
  wpAny (model X.prog X.w) X.A (eval (.Lambda params body scope pos) X.env) Q E s:=by
 obtain⟨c,oc,vsc,file,tf,flags,tg,inF,text,tt,ec,hc,c1,c2,c3,c4,c5,c6,c7,c8,c9⟩:=L.hd;have C:CodeHd s.heap c P:=⟨oc,vsc,file,tf,flags,tg,inF,text,tt,I.As _ _ hc,c1,c2,c3,c4,c5,c6,c7,c8,c9⟩;obtain⟨ps,hP,ht,hcodes⟩:=(show cf X.prog X.w H s.heap P .tb from I.a8 P _ tP);have hg:s.heap.Ns mainGlobals X.mg:=I.mod.glob.keeps I.bk;obtain⟨bm,ob,b1,b2,b3,b4,b5,b6⟩:=L.bm;have hbm:=I.As _ _ b3;have hgP:mainGlobals≠P:=λq=>by
  obtain⟨o,es,ep,e,hd,_⟩:=hg;rw[q,hP] at e;cases e;cases hd
 have hbP:bm≠P:=λq=>by rw[q,hP] at hbm;cases hbm;cases b4
 have hbG:bm≠mainGlobals:=λq=>by
  obtain⟨o,es,ep,e,hd,_⟩:=hg;rw[<-q,hbm] at e;cases e;rw[hd] at b6;cases b6
 have hB:s.heap.BuiltinsAt X.mg P:=⟨bm,ob,b1,b2,hbG,hbP,hbm,b4,b5,b6⟩;refine kla_eval hd ?_;have old:∀b o,H b=some o->b < s.heap.objs.size:=λb o e=>I.a8.lt e;cases hf:codeAmong pos ps.toList with
 | some cv=>
  obtain⟨c',oc',vs',q',t',rfl,e1,e2,e3⟩:=hcodes pos cv hf;refine kla_makeFunctionHit (mg:=X.mg) hcl I.ok.glob hg ec C hP ht hf hB λctv h' tk hk hsz=>?_;have hn:H h'.objs.size=none:=I.a8.fresh hsz;refine h _ (upd H h'.objs.size (.pq (kla_obj "<lambda>" (X.env.qual++"<lambda>") params body scope cl ((X.mg "__name__").getD .none) c' ctv) (.own h'.objs.size))) _ (I.laid (t':=tk) (λb o e=>Qm _ (hk b o e)) hsz ?_) (λb o e=>by rw[av (aH e hn)];exact e) (λb=>?_) hsz ⟨_,c',ctv,oc',vs',q',t',aO,by rw[av (aH e1 hn)];exact e1,e2,e3⟩
  ·exact⟨QI _ rfl,_,QI _ rfl⟩
  ·by_cases hb:b=h'.objs.size
   ·exact .inl (hb ▸ hsz)
   ·exact .inr (av hb)
 | none=>
  refine kla_makeFunction (mg:=X.mg) hcl I.ok.glob hg ec C hP ht hf hgP hB λc' ctv h' tk hx hge hlt hrec htb=>?_;obtain⟨c₂,oc',vs',t',e2,hoc,hd',hv⟩:=hrec;cases e2;have hPs:P < s.heap.objs.size:=Qz hP;have hszf:s.heap.objs.size<=h'.objs.size:=Qr hge (RW hlt);have n1:H c'=none:=I.a8.fresh hge;have n2:H h'.objs.size=none:=I.a8.fresh hszf;have nf:c'≠h'.objs.size:=QJ hlt;generalize hfo:kla_obj "<lambda>" (X.env.qual++"<lambda>") params body scope cl ((X.mg "__name__").getD .none) c' ctv=fo;have hfr:fo.isFreed=false:=by rw[<-hfo];rfl
  have nn:∀{b o},H b=some o->upd (upd H c' (.pq oc' (.own P))) h'.objs.size (.pq fo (.own h'.objs.size)) b=some o:=λ{b o} e=>by
   rw[av (aH e n2),av (aH e n1)];exact e
  have nb:∀{b},b < s.heap.objs.size->upd (upd H c' (.pq oc' (.own P))) h'.objs.size (.pq fo (.own h'.objs.size)) b=H b:=λ{b} e=>by
   rw[av (QJ (QF e hszf)),av (QJ (QF e hge))]
  have kp:∀b o,b≠P->s.heap.get? b=some o->(h'.push fo).get? b=some o:=λb o hb e=>Qm _ (hx b o hb e);have I':Inv X pins σ (upd (upd H c' (.pq oc' (.own P))) h'.objs.size (.pq fo (.own h'.objs.size))) {s with heap:=h'.push fo,toks:=tk}:=by
   refine I.step (g':=s.gens) (d':=s.drawn) (t':=tk) (ch:=[]) (λ_ z=>nomatch z) (λb o _ _ _ e n=>kp b o (λz=>by rw[z,tP] at n;cases n) e) (λb o _ _ _ e n=>⟨o.slots,kp b o (λz=>by rw[z,tP] at n;cases n) e⟩)
    (λb o _ e n=>by rw[nb (Qz e)];exact n) (λb o _ e=>?_) (λb xs e=>nn e) (λb o u e=>nn e) (λb qs e=>⟨#[],by rw[nn e];simp⟩) (λm hm=>?_) (λb u e=>?_) I.bare
   ·by_cases hb:b=P
    ·exact⟨_,Qm _ (hb ▸ htb)⟩
    ·exact⟨o,kp b o hb e⟩
   ·obtain⟨o,es,ep,ho,r⟩:=hm;exact⟨o,es,ep,kp _ o (λz=>by have:=I.free;rw[z,tP] at this;cases this) ho,r⟩
   ·by_cases h1:b=h'.objs.size
    ·subst h1;rw[aO] at e;cases e;exact⟨QI _ hfr,_,QI _ hfr⟩
    ·rw[av h1] at e
     by_cases h2:b=c'
     ·subst h2;rw[aO] at e;cases e;exact⟨Qm _ hoc,_,Qm _ hoc⟩
     ·rw[av h2] at e
      by_cases h3:b=P
      ·subst h3;rw[tP] at e;cases e;refine⟨_,Qm _ htb,?_,λpos' x ex=>?_⟩
       ·rw[show(ps++#[rawInt pos.line,rawInt pos.col,Value.ref c']).toList=ps.toList++[rawInt pos.line,rawInt pos.col,.ref c'] by simp];exact TriplesOk_snoc _ _ _ _ ht
       ·rw[show(ps++#[rawInt pos.line,rawInt pos.col,Value.ref c']).toList=ps.toList++[rawInt pos.line,rawInt pos.col,.ref c'] by simp] at ex;rcases zJ _ ht ex with z | z
        ·obtain⟨c₃,o₃,v₃,q₃,t₃,f1,f2,f3⟩:=hcodes pos' x z;exact⟨c₃,o₃,v₃,q₃,t₃,f1,nn f2,f3⟩
        ·exact⟨c',oc',vs',_,t',z,by rw[av nf,aO],hd',hv⟩
      ·refine(I.a8 b u e).nJ (λc v hc' q=>?_) (λ_ q=>nn q) (λ_ _ q=>nn q) λ_ _ q=>nn q;refine kp c v ?_ q;rcases hc' with rfl | hc'
       ·exact h3
       ·intro z;rw[z,tP] at hc';cases hc'
  refine h _ _ _ I' (λb o e=>nn e) (λb=>?_) hszf ⟨_,c',ctv,oc',vs',_,t',by rw[hfo];exact aO,by rw[av nf,aO],hd',hv⟩
  by_cases hb:b < s.heap.objs.size
  ·exact .inr (nb hb)
  ·exact .inl (RA hb)
end
abbrev G7(CX:AY)(P:Program)(w:World)(K:FR)(mg:Str->Option Value)(base:Heap)(N:List Str)(qual:Str)(scope:Scope)(cl:List (Str×Addr))(f:Addr)(cd:Value)(A:Around)(outer:List Env)(s:Shared)(H:Hp)(E:XK):Cx where
 prog:=P
 w:=w
 K:=K
 mg:=mg
 base:=base
 A:=A.deeper (envX qual scope s.heap.objs.size f cd cl)
 N:=N
 s₀:=s
 H₀:=H
 env:=envX qual scope s.heap.objs.size f cd cl
 outer:=outer
 stack:=envX qual scope s.heap.objs.size f cd cl::outer
 ex:=[]
 calm:=true
 fn:=λ_=>false
 pn:=[]
 xe:=λe s'=>wpAny (model P w) (A.deeper (envX qual scope s.heap.objs.size f cd cl)) (leaving (envX qual scope s.heap.objs.size f cd cl) e) (λ_ s''=>CX outer H s E e s'') (λe' s''=>CX outer H s E e' s'') s'
structure NC(H:Hp)(h:Heap)(N:List Str)(scope:Scope)(cl:List (Str×Addr))(σ:St):Prop where
 inj:∀x y c,cl.lookup x=some c->cl.lookup y=some c->x=y
 has:∀x,scope.names.lookup x=some .free->∃c,cl.lookup x=some c
 cell:∀x c,cl.lookup x=some c->H c=none/\∃v,h.IsCell c v
 val:∀(j:Nat) x v,N[j]?=some x->σ[j]?=some (some v)->∃u c,RelV v u/\scope.names.lookup x=some .free/\cl.lookup x=some c/\h.IsCell c (some u)
 len:σ.length=N.length
theorem NC.keep(C:NC H h N scope cl σ)(k:∀b o,H b=none->h.get? b=some o->(∃sl,h'.get? b=some {o with slots:=sl})/\H' b=none):NC H' h' N scope cl σ:=
 ⟨C.inj,C.has,λx c e=>by
  obtain⟨n,v,o,ho,hd⟩:=C.cell x c e;obtain⟨⟨sl,a⟩,b⟩:=k c o n ho;exact⟨b,v,_,a,hd⟩,λj x v e1 e2=>by
  obtain⟨u,c,r,f,l,o,ho,hd⟩:=C.val j x v e1 e2;obtain⟨⟨sl,a⟩,b⟩:=k c o (C.cell x c l).1 ho;exact⟨u,c,r,f,l,_,a,hd⟩,C.len⟩
structure sU(N:List Str)(sc:Scope):Prop where
 kind:sc.kind=.function
 co:sc.isCoroutine=false
 gen:sc.isGenerator=false
 rO:∀y∈sc.names,y.2≠.cell
section
variable {CX:AY} {P:Program} {w:World} {K:FR} {mg:Str->Option Value} {base:Heap} {N:List Str} {scope:Scope} {f Pt:Addr} {A:Around} {outer:List Env} {s:Shared} {H:Hp} {E:XK} {Q:VK} {params:Arguments} {body:Expr} {cl:List (Str×Addr)} {σ:St} {t:TE}
theorem Eu(S:sU N scope)(hp:∀fd:FuncData,fd.params=params->fd.defaults=.none->fd.kwdefaults=.none->bindArgs fd ⟨[],[]⟩=pure [])(e0:Fv P w K mg base A outer s H)(hr:A.handled=none)(hdep:A.depth < recursionLimit)(F:PJ K mg Pt params body scope cl H f)(C:NC H s.heap N scope cl σ)
  (hb:∀q cd,PE (G7 CX P w K mg base N q scope cl f cd A outer s H E) body t) (ht:t σ H Q):
  codeAny (model P w) A (.call (.ref f) ⟨[],[]⟩) (CR CX outer P w H s Q E) s:=by
 obtain⟨qn,c',ctv,oc,vs,q,tk,h1,h2,h3,h4⟩:=F.ex;obtain⟨ho,_⟩:=(show cf P w H s.heap f _ from e0.a8 f _ h1);obtain⟨hoc,_⟩:=(show cf P w H s.heap c' _ from e0.a8 c' _ h2);have lim:s.heap.NoLimit:=e0.mod.nolimit.keeps λb o e=>(e0.bs b o e).1;refine codeAny_of_tree ?_;show wpAny _ A.in1 (callAny (.ref f) ⟨[],[]⟩) _ _ s;simp only[callAny];refine Qe (wpAny_load ho ?_);simp only[callFunction,S.co,S.gen];refine Qe (m:=field (.ref c') 1) (Rm hoc h3 h4 (Qe (QC ?_)));rw[hp _ rfl rfl rfl];refine Qe (QC ?_);refine Qe (wpAny_newFunctionEnv S.rO (λx hx=>nomatch hx) (λh₁ hns hsb=>?_) S.kind);have hk₁:∀b o,s.heap.get? b=some o->h₁.get? b=some o:=λb o e=>hsb.extBut b o (QJ (Qz e)) (Qm _ e);refine Qe (wpAny_enterFrame (lim.keeps hk₁) hdep (QC (And.intro rfl ?_)));show codeAny _ A (.expr body (envX q scope s.heap.objs.size f (.ref c') cl)) _ _;have noA:∀b:Addr,b∉(G7 CX P w K mg base N q scope cl f (.ref c') A outer s H E).ex:=λb z=>absurd (show b∈([]:List Addr) from z) (by simp);have I:Inv (G7 CX P w K mg base N q scope cl f (.ref c') A outer s H E) [] σ H {s with heap:=h₁,toks:=s.toks+([]:List (Str×Value)).length}:=by
  refine⟨⟨e0.mod,S.kind,rfl,rfl,Qg _,C.inj,λx hx=>?_,λy c h _=>absurd (show false=true from h) (by decide),λ_=>hr,Around.frames_deeper e0.frames,.inr ⟨rfl,rfl⟩,λb z=>absurd z (noA b),e0.bs,e0.Fz,λb _ _=>noA b,λb z=>absurd z (noA b),e0.og,e0.HS⟩,
   rfl,e0.bare,Un.kept hk₁,⟨_,hns,λj x v e1 e2 e3=>?_⟩,λx c e=>?_,e0.a8.fresh (Qg _),λx c e=>(C.cell x c e).1,λp hp=>absurd (show p∈([]:List (Addr×Obj)) from hp) (by simp),e0.a8.kept hk₁,C.len⟩
  ·have hx:scope.names.lookup x=some .cell\/scope.names.lookup x=some .free:=hx;rcases hx with z | z
   ·exact absurd rfl (S.rO _ (QT z))
   ·exact C.has x z
  ·obtain⟨u,c,r,fr,l,o,ho',hd⟩:=C.val j x v e1 e2;exact⟨u,r,.inr ⟨.inr fr,c,l,o,hk₁ _ _ ho',hd⟩⟩
  ·obtain⟨_,v,o,ho',hd⟩:=C.cell x c e;exact⟨v,o,hk₁ _ _ ho',hd⟩
 refine kla_codeExpr (Q4 (hb q (.ref c') [] _ σ H Q I ht) (λu s' hs=>?_) λe s' hs=>hs);obtain⟨v,H',J,rv,qv⟩:=hs;exact⟨v,H',J.os,J.bare,J.base,J.a8,rv,qv⟩
end
section
variable {X:Cx} {pins:List (Addr×Obj)} {σ:St} {H:Hp} {s:Shared}
theorem Inv.LC{a:Addr}{u:HO}(I:Inv X pins σ H s)(n:H a=none)(h0:X.s₀.heap.get? a=none)(hd:∃o vs,s.heap.get? a=some o/\o.data=.fields vs)(hp:∀p∈X.pn++pins,p.1≠a)(new:cf X.prog X.w (upd H a u) s.heap a u):
  Inv X pins σ (upd H a u) s:=by
 obtain⟨oa,va,ha,hda⟩:=hd;have old:∀b o,X.s₀.heap.get? b=some o->b≠a:=λb o e z=>by rw[z,h0] at e;cases e
 have nn:∀{b o},H b=some o->upd H a u b=some o:=λ{b o} e=>by rw[av (aH e n)];exact e
 refine⟨I.ok,I.os,I.bare,⟨I.base.keep,I.base.slot,λb o e m hx=>?_,I.base.there,λb xs e=>nn (I.base.nD b xs e),λb o u e=>nn (I.base.mR b o u e),λb ps e=>?_⟩,I.loc,I.cell,?_,λx c e=>?_,λp hq=>?_,λb v e=>?_,I.len⟩
 ·rw[av (old b o e)];exact I.base.free b o e m hx
 ·obtain⟨more,e1⟩:=I.base.nE b ps e;exact⟨more,nn e1⟩
 ·obtain⟨m,⟨o,es,ep,ho,hdl,_⟩,_⟩:=I.loc;rw[av (λz=>by rw[z,ha] at ho;cases ho;rw[hda] at hdl;cases hdl)];exact I.free
 ·obtain⟨v,o,ho,hdc⟩:=I.cell x c e;rw[av (λz=>by rw[z,ha] at ho;cases ho;rw[hda] at hdc;cases hdc)];exact I.gm x c e
 ·obtain⟨e,m,r⟩:=I.pin p hq;exact⟨e,by rw[av (hp p hq)];exact m,r⟩
 ·by_cases z:b=a
  ·subst z;rw[aO] at e;cases e;exact new
  ·rw[av z] at e;exact(I.a8 b v e).nJ (λ_ _ _ q=>q) (λ_ q=>nn q) (λ_ _ q=>nn q) λ_ _ q=>nn q
theorem KA{cn:Str}{f:Addr}{p1 p2:Pos}{i:Nat}{ho:Obj}{fd:FuncData}{Q:Value->Shared->Prop}{E:Value->Shared->Prop}(I:Inv X pins σ H s)(hN:X.N[i]?=some cn)(hv:K6 X.env.scope cn)(hσ:σ[i]?=some (some (.ref f)))(hf:s.heap.get? f=some ho)(hd:ho.data=.func fd)
  (h:wpAny (model X.prog X.w) X.A (call (.ref f) []) Q E s) (hdb:(cn==("__debug__":Str))=false) (hcd:(cn==("__classdict__":Str))=false):
  wpAny (model X.prog X.w) X.A (eval (.Call (.Name cn p1) [] [] p2) X.env) Q E s:=by
 refine RL ?_;obtain⟨m,hn,hl⟩:=I.loc;obtain⟨u,r,l⟩:=hl i cn _ hN hσ hv;obtain rfl:u=Value.ref f:=r;have fin:wpAny (model X.prog X.w) X.A (callWith p2 (.ref f) [] (backTo p2 (starEach [] X.env)) (backToKw p2 (keywordEach [] X.env))) Q E s:=by
  refine callWith_of (P:=λh=>∃o,h.get? f=some o/\o.data=.func fd) rfl (λh ⟨o,e1,e2⟩=>⟨.frame,.inl rfl,(Looks.ld (part:=none) e1).andThen ?_⟩) (evalArgs_nil3 ⟨⟨ho,hf,hd⟩,h⟩);rw[e2];exact .now
 rcases l with⟨hk,hm⟩ |⟨hk,c,hc,hcell⟩
 ·exact TQ (wpAny_loadName_local I.ok.kind hk hn hm fin) hdb
 ·rcases hk with hk | hk
  ·exact TQ (wpAny_loadName_cell I.ok.kind hk hc hcell fin) hdb
  ·exact TQ (wpAny_loadName_free I.ok.kind hk hc hcell fin hcd) hdb
end
section
variable {X:Cx} {pins:List (Addr×Obj)} {σ:St} {H:Hp} {s:Shared}
theorem CG{L:Addr}{rest:List Env}{cau en:Str}{CS:Addr}{p4 p5 p6 p7 p8 p9:Pos}{body:List Stmt}{Qn:Hp->Prop}{E1:XK}{Q:Flow->Shared->Prop}{E:Value->Shared->Prop}
  (I:Inv X pins σ H s) (hs:X.stack=X.env::rest) (hf:X.env.frame=some L) (hNd:X.N.Nodup) (h1:X.N[1]?=some cau) (h2:X.N[2]?=some en) (l1:X.env.scope.names.lookup cau=some .local) (l2:X.env.scope.names.lookup en=some .local)
  (hg:Gl X "StuckError") (hm:X.mg "StuckError"=some (.ref CS)) (hsw:swapsWith (.Name en p6) (some (.Name cau p5)) p7.line X.env=pure false) (hd:(en==("__debug__":Str))=false) (hcd:(en==("__classdict__":Str))=false)
  (hcall:wpAny (model X.prog X.w) X.A (execs body X.env) (λf s'=>f=.next/\∃H',Inv X pins σ H' s'/\Qn H') (λe s'=>iD X.prog X.w X.stack H s E1 e s') s)
  (hE:∀C H',E1 C none H'->∃D bm bmC,C=.ref D/\(∀h,X.K.In h->yu h D bm/\yu h CS bmC)/\bmC.contains (.type "BaseException")=true/\(Value.ref D::bm).contains (.ref CS)=true)
  (hz:∀b,s.heap.get? b=none->X.s₀.heap.get? b=none)
  (k1:∀s' H',Inv X pins σ H' s'->Qn H'->Q .next s')
  (k2:∀s' H' x D,Inv X pins ((((σ.set 2 (some (.ref x))).set 1 (some (.ref x))).set 2 (some .cu)).set 2 none) (upd H' x (.AB λ_ h=>yC h x D)) s'->E1 (.ref D) none H'->H' x=none->Q .next s'):
  wpAny (model X.prog X.w) X.A (exec (.Try body [.ExceptHandler (some (.Name "StuckError" p4)) (some en) [.Assign [.Name cau p5] (.Name en p6) p7] p8] [] [] p9) X.env) Q E s:=by
 refine wpAny_Try_except (Q4 hcall (λf s' hq=>?_) λe s' hx=>?_)
 ·obtain⟨rfl,H',I',q⟩:=hq;exact SO (k1 _ _ I' q)
 ·obtain⟨x,C,H',rfl,e1,kk⟩:=sO I hs hf hx;refine kk I.ok.frames λs3 I3 fx nx n0 fl2=>?_;obtain⟨D,bm,bmC,rfl,ho,hb1,hb2⟩:=hE _ _ e1;obtain⟨o,vs,e3,e4,e5⟩:=fx;refine BO hb1 hb2 ?_;refine j4 (X:=X.Fy (.ref x) E) I3.Fy hg hm ?_;refine⟨rfl,(ho _ I3.As).1,(ho _ I3.As).2,⟨o,e3,e4⟩,fl2 λs4 I4 ⟨o4,vs4,f3,f4,f5⟩=>?_⟩;have I4':Inv X pins σ (upd H' x (.AB λ_ h=>yC h x D)) s4:=I4.LC nx (hz x n0) ⟨o4,vs4,f3,f5⟩ (λp hp z=>by
   obtain⟨e,_⟩:=I.pin p hp;rw[z,n0] at e;cases e) ⟨⟨o4,f3,f4⟩,⟨o4,f3⟩,λh1 h2 ⟨o,a,b⟩ k=>⟨o,k o a,b⟩⟩
  have hl2:2 < σ.length:=by rw[I.len];exact(Qc.mp h2).1
  refine g5 (v:=.ref x) I4' hNd h2 (.inl l2) rfl (λs5 I5=>?_) (.inr l2);refine RE (cQ (y4 (X:=X.Fy (.ref x) (AsSuiteRaised (model X.prog X.w) (X.A.mark (some (.ref x))) X.env en p8 (notedBy (model X.prog X.w) (X.A.mark (some (.ref x))) X.env (cameBackBy (model X.prog X.w) X.A X.env E)))) (i:=1) hNd h1 (.inl l1) (DW (i:=2) h2 (.inl l2) hd hcd) hsw (.inr l1) pins s5 _ _
   {nx:=λσ' H2=>σ'=(σ.set 2 (some (.ref x))).set 1 (some (.ref x))/\H2=upd H' x (.AB λ_ h=>yC h x D),rt:=λ_ _=>False,bk:=λ_ _=>False,ct:=λ_ _=>False} I5.Fy ⟨.ref x,by rw[QR hl2],rfl,rfl⟩) λf s6 q=>?_)
  cases f with
  | ret v=>obtain⟨_,_,_,_,_,q⟩:=q;exact q.elim
  | brk=>obtain⟨_,_,_,q⟩:=q;exact q.elim
  | cont=>obtain⟨_,_,_,q⟩:=q;exact q.elim
  | next=>
   obtain⟨σ6,H6,I6,rfl,rfl⟩:=q;have I6:=I4.OM I6;refine SO ?_;refine Qe (U0 (g5 (v:=.cu) I6 hNd h2 (.inl l2) rfl (λs7 I7=>?_) (.inr l2)));unfold unbindBehindTheSuite;refine wpAny_onRaise (Ba (v:=.cu) I7 hNd h2 l2 (by rw[QR];simpa using hl2) λs8 I8=>?_);exact k2 _ _ x D I8 e1 nx
end
section
variable {X:Cx} {pins:List (Addr×Obj)} {σ:St} {H:Hp} {s:Shared} {N':List Str} {caps:List (Option Nat)} {scope:Scope}
theorem Inv.cells(S:bA X N' caps scope)(I:Inv X pins σ H s):NC H s.heap N' scope (gp X.env scope.names []) (m9 caps σ):=by
 refine⟨λx y c h1 h2=>I.ok.inj x y c (S.look I.ok h1) (S.look I.ok h2),λx h=>ir (env:=X.env) scope.names [] (QT h),λx c e=>⟨I.gm x c (S.look I.ok e),I.cell x c (S.look I.ok e)⟩,λj x v e1 e2=>?_,by
  show(caps.map _).length=N'.length;rw[Qb];exact S.len⟩
 have e2':(caps.map λo=>o.bind λi=>(σ[i]?).join)[j]?=some (some v):=e2;rw[Qx] at e2';cases hcj:caps[j]? with
 | none=>rw[hcj] at e2';cases e2'
 | some oi=>
  rw[hcj] at e2';have e2'':(oi.bind λi=>(σ[i]?).join)=some v:=Option.some.inj e2';cases oi with
  | none=>cases e2''
  | some i=>
   have hσ:(σ[i]?).join=some v:=e2'';have hσ':σ[i]?=some (some v):=by
    cases hs:σ[i]? with
    | none=>rw[hs] at hσ;cases hσ
    | some w=>rw[hs] at hσ;rw[show w=some v from hσ]
   obtain⟨hX,hfr⟩:=S.Pw j i x hcj e1;obtain⟨m,_,hl⟩:=I.loc;have hcgt:=S.sO _ (QT hfr) rfl;have hvis:K6 X.env.scope x:=by
    rcases hcgt with z | z
    ·exact .inr (.inl z)
    ·exact .inr (.inr z)
   obtain⟨u,ru,lk⟩:=hl i x v hX hσ' hvis;obtain⟨c,hcc⟩:=ir (env:=X.env) scope.names [] (QT hfr);refine⟨u,c,ru,hfr,hcc,?_⟩;rcases lk with⟨z,_⟩ |⟨_,c',hc',hcell⟩
   ·have z':X.env.kindOf x=some .local:=z;rcases hcgt with q | q
    ·rw[z'] at q;cases q
    ·rw[z'] at q;cases q
   ·have:=S.look I.ok hcc;rw[this] at hc';cases hc';exact hcell
end
abbrev wO(X:Cx)(ns:List Str)(fn:Str)(st:Stmt)(fr:Addr)(cdv:Value)(s1:Shared)(H1:Hp):Cx:=eV nz X.prog X.w X.K X.mg X.base ns fn (aj st) fr cdv X.A X.stack s1 H1 λ_ _ _=>False
end L2
namespace Sm
open PySem L2 PySem.Spec PySem.W PySem.Calls PyProof.Rows
noncomputable def CJ(mt:SM)(c:Str)(h:MH):Option (D×MH):=((mt [none,some (.ob h.length),none,none] (h++[.exc c])).bind xl).bind λp=>leave h p.1 p.2
noncomputable def LD(mt:SM)(h:MH):Option (D×MH):=((mt [none,some .cu,none,none] h).bind xl).bind λp=>leave h p.1 p.2
noncomputable def gn(cls:List Str)(caps:List (Option Nat))(mt:SM)(x:XM)(m:EM):EM:=λδ h=>match x (gq caps δ) h with
 | some (c,h')=>if c∈cls then CJ mt c h' else none
 | none=>(m (gq caps δ) h).bind λp=>LD mt p.2
structure XC(K:Frag)(mg:Str->Option Value)(CS:Addr)(c:Str):Prop where
 ex:∃D bm bmC,mg c=some (.ref D)/\Kt K c=some (.ref D)/\(∀h,K.In h->yu h D bm/\yu h CS bmC)/\bmC.contains (.type "BaseException")=true/\(Value.ref D::bm).contains (.ref CS)=true
section
variable {X:Cx} {fn cn cau en mk:Str} {fr CS Pt:Addr} {fd:FuncData} {st:Stmt} {tail:List Stmt} {mt:SM} {k:Nat} {x:XM} {m:EM} {Nl:List Str} {caps:List (Option Nat)} {scope:Scope} {params:Arguments} {body:Expr} {cls:List Str}
 {pa pb' pc p1 p2 p3 p4 p5 p6 p7 p8 p9 pn lpos pos:Pos} {j:Nat}
theorem yR(F:sW X.K fn fn st fr fd)(Sc:aA [cn,cau,en,mk] [cn] (aj st))(hmf:X.mg fn=some (.ref fr))(hkf:keepIn X.K (.ref fr)=true)
  (hbind:∀(s:Shared)(u:Value),BindsTo s fd ⟨[u],[]⟩ [(cn,u)])
  (hbody:df st=.Assign [.Name cau pa] (.Constant .none j pb') pc::.Try [.Expr (.Call (.Name cn p1) [] [] p2) p3] [.ExceptHandler (some (.Name "StuckError" p4)) (some en) [.Assign [.Name cau p5] (.Name en p6) p7] p8] [] [] p9::tail)
  (l0:(aj st).names.lookup cn=some .local) (l1:(aj st).names.lookup cau=some .local) (l2:(aj st).names.lookup en=some .local) (lg:(aj st).names.lookup ("StuckError":Str)=some .globalImplicit)
  (hms:X.mg "StuckError"=some (.ref CS)) (hC:∀c∈cls,XC X.K X.mg CS c)
  (n0:(cn==("__debug__":Str))=false) (n0':(cn==("__classdict__":Str))=false) (n2:(en==("__debug__":Str))=false) (n2':(en==("__classdict__":Str))=false)
  (sw1:∀env,swapsWith (.Constant .none j pb') (some (.Name cau pa)) pc.line env=pure false) (sw2:∀env,swapsWith (.Name en p6) (some (.Name cau p5)) p7.line env=pure false) (sw3:∀env,swapsWith (.Call (.Name cn p1) [] [] p2) none p3.line env=pure false)
  (htail:∀(cdv:Value)(A:Around)(outer:List Env)(s:Shared)(H:Hp)(E:XK),cH (k+1) (A.deeper (envOfC fn (aj st) s.heap.objs.size fr cdv))->Ce (eV nz X.prog X.w X.K X.mg X.base [cn,cau,en,mk] fn (aj st) fr cdv A outer s H E).Ef tail mt)
  (hr:cH (k+2) X.A) (L:Cg X.K X.mg X.env.code Pt) (hd:defaultsOf params X.env=([],[])) (hp:∀fd:FuncData,fd.params=params->fd.defaults=.none->fd.kwdefaults=.none->bindArgs fd ⟨[],[]⟩=pure []) (LS:sU Nl scope) (C:bA X Nl caps scope)
  (hx:∀(q:Str)(cd:Value)(f:Addr)(cl:List (Str×Addr)) (A:Around) (outer:List Env) (s:Shared) (H:Hp) (E:XK),cH k (A.deeper (envX q scope s.heap.objs.size f cd cl))->XE (G7 (iD X.prog X.w) X.prog X.w X.K X.mg X.base Nl q scope cl f cd A outer s H E) E body x)
  (hm:∀(q:Str)(cd:Value)(f:Addr)(cl:List (Str×Addr)) (A:Around) (outer:List Env) (s:Shared) (H:Hp) (E:XK),cH k (A.deeper (envX q scope s.heap.objs.size f cd cl))->SE (G7 (iD X.prog X.w) X.prog X.w X.K X.mg X.base Nl q scope cl f cd A outer s H E) body m)
  (hg:Gl X fn) (hdb:(fn==("__debug__":Str))=false) (hst:starEach [.Lambda params body scope lpos] X.env=[(false,eval (.Lambda params body scope lpos) X.env)]):
  SE X (.Call (.Name fn pn) [.Lambda params body scope lpos] [] pos) (gn cls caps mt x m):=by
 intro pins s σ H Q I ⟨ρ,δ,h,d,h',R,S,ee,kq⟩;refine RL (j4 I hg hmf ?_ hdb);refine U8 (h₀:=X.base) (rest:=[]) I.ok.mod.NM hkf ?_ hst (by rfl);rw[hst];show wpAny _ _ (spliced ((false,eval (.Lambda params body scope lpos) X.env)::backTo pos [])) _ _ s;have tP:H Pt=some .tb:=(S.tb Pt L.tab).2;refine Uo (Kf I L tP hd (lu (C.has I.ok)) λs1 H1 f I1 hext hnew hfs Fl=>Ut ⟨I1.As,?_⟩);have T1:dh ρ H ρ H1:=⟨⟨λ_ _ e=>e,λb o n e=>⟨n,hext b o e⟩⟩,rfl,λb hb=>by
  obtain⟨u,e⟩:=(S.tq b hb).1;rw[e,hext b u e]⟩
 have S1:bN X.K ρ h H1:=S.same T1 λa ha=>by
  obtain⟨u,e⟩:=S.has (.inl ha);rw[e,hext a u e]
 have R1:cK X.K ρ H1 (m9 caps σ) (gq caps δ):=(R.mono T1.toCh).m9 caps;have Cl1:=I1.cells C;have e0:=I1.KC;obtain⟨oc,od,kV,doc,pm,an,cdv,ct,osl,rfl,lk,hcd⟩:=F.ex;have KX:X.K.In s1.heap:=I1.As;have lim:s1.heap.NoLimit:=I1.nolimit;have hkind:∀y∈[(cn,Value.ref f)],(aj st).names.lookup y.1=some .local\/((aj st).names.lookup y.1=some .cell/\((cellsFrom (s1.heap.objs.size+1) (aj st).names []).lookup y.1).isSome=true):=λy hy=>by
  rw[Qw.mp hy];exact .inl l0
 show wpAny _ _ (call (.ref fr) [.ref f]) _ _ s1;refine wpAny_call (TU (R:=CR nz X.stack X.prog X.w H1 s1 Q (λ_ _ _=>False)) (codeAny_call_function hr.depth (KX _ _ lk) rfl Sc.co Sc.gen rfl (codeRec_of KX hcd) (hbind _ _ _ _ _ _ ?_)) λr s' hq=>?_);rotate_left
 ·cases r with
  | error e=>exact False.elim hq
  | ok fl=>
   cases fl with
   | ret u=>exact I1.after hq
   | next=>exact False.elim hq
   | brk=>exact False.elim hq
   | cont=>exact False.elim hq
 refine UZ Sc.kind hkind λenv he s2 z=>?_;subst he;refine⟨lim.keeps z.toInCall.keep,codeAny_func ?_⟩;have Ir:Inv (wO X [cn,cau,en,mk] fn st fr cdv s1 H1) [] (start [cn,cau,en,mk] [.ref f]) H1 s2:=uE (us:=[.ref f]) (vs:=[.ref f]) Sc hr.hd e0 rfl (.cons rfl .nil) z;have hr1:cH (k+1) (wO X [cn,cau,en,mk] fn st fr cdv s1 H1).A:=hr.deeper _;rw[hbody];refine RE (Q4 (y4 (X:=wO X [cn,cau,en,mk] fn st fr cdv s1 H1) (i:=1) Sc.nd rfl (.inl l1) DY (sw1 _) (.inl rfl) [] s2 _ H1
  {nx:=λσ' H2=>σ'=[some (.ref f),some .cu,none,none]/\H2=H1,rt:=λ_ _=>False,bk:=λ_ _=>False,ct:=λ_ _=>False} Ir ⟨rfl,rfl⟩) (λfl s3 q=>?_) λe s' hq=>hq)
 cases fl with
 | ret v=>obtain⟨_,_,_,_,_,q⟩:=q;exact q.elim
 | brk=>obtain⟨_,_,_,q⟩:=q;exact q.elim
 | cont=>obtain⟨_,_,_,q⟩:=q;exact q.elim
 | next=>
 obtain⟨σ3,H3,I3,rfl,rfl⟩:=q;have fin:∀{s':Shared} {σ':L2.St} {H':Hp} {v:V} {u:Value},Inv (wO X [cn,cau,en,mk] fn st fr cdv s1 H3) [] σ' H' s'->RelV v u->Q v H'->CE X.stack X.prog X.w H3 s1 Q u s':=
  λ{s' σ' H' v u} J rv q=>⟨v,H',J.os,J.bare,J.base,J.a8,rv,q⟩
 have tl:∀{s4:Shared} {σ4:L2.St} {H4:Hp} {ρ4:Ad} {δ4:DS} {h4:MH} {d4:D} {h5:MH},Inv (wO X [cn,cau,en,mk] fn st fr cdv s1 H3) [] σ4 H4 s4->cK X.K ρ4 H4 σ4 δ4->bN X.K ρ4 h4 H4->(mt δ4 h4).bind xl=some (d4,h5)->(∀v H',du X.K ρ4 H4 h5 d4 v H'->Q v H')->
   wpAny (model X.prog X.w) (wO X [cn,cau,en,mk] fn st fr cdv s1 H3).A (execs tail (wO X [cn,cau,en,mk] fn st fr cdv s1 H3).env) (λfl s'=>CR nz X.stack X.prog X.w H3 s1 Q (λ_ _ _=>False) (.ok (.ret (match fl with | .ret v=>v | _=>.none))) s') (wO X [cn,cau,en,mk] fn st fr cdv s1 H3).xe s4:=λ{s4 σ4 H4 ρ4 δ4 h4 d4 h5} I4 R4 S4 e4 k4=>by
  obtain⟨⟨fl,δ5,h6⟩,e5,e6⟩:=bB e4;refine Q4 (htail cdv X.A X.stack s1 H3 (λ_ _ _=>False) hr1 [] s4 σ4 H4 {nx:=λ_ H'=>Q .cu H',rt:=Q} (I4.qB _) ⟨ρ4,δ4,h4,fl,δ5,h6,R4,S4,e5,λρ6 H6 T6 S6=>?_⟩) (λf' s' hs=>?_) λe s' hq=>hq.elim
  ·cases fl with
   | nx=>cases e6;exactλσ' R'=>k4 _ _ ⟨ρ6,T6,S6,.cu⟩
   | rt d=>cases e6;exactλv r=>k4 _ _ ⟨ρ6,T6,S6,r⟩
   | bk=>cases e6
   | ct=>cases e6
  ·cases f' with
   | ret u=>obtain⟨v,σ',H',J,rv,q⟩:=hs;exact fin J.gS rv q
   | next=>obtain⟨σ',H',J,q⟩:=hs;exact fin (v:=V.cu) (u:=Value.none) J.gS rfl q
   | brk=>obtain⟨_,_,_,q⟩:=hs;exact False.elim q
   | cont=>obtain⟨_,_,_,q⟩:=hs;exact False.elim q
 have run:∀{t:TE} {Qn:VK} {E1:XK},(∀q cd,PE (G7 (iD X.prog X.w) X.prog X.w X.K X.mg X.base Nl q scope (gp X.env scope.names []) f cd (wO X [cn,cau,en,mk] fn st fr cdv s1 H3).A (wO X [cn,cau,en,mk] fn st fr cdv s1 H3).stack s3 H3 E1) body t)->t (m9 caps σ) H3 Qn->
   wpAny (model X.prog X.w) (wO X [cn,cau,en,mk] fn st fr cdv s1 H3).A (execs [.Expr (.Call (.Name cn p1) [] [] p2) p3] (wO X [cn,cau,en,mk] fn st fr cdv s1 H3).env) (λf' s'=>f'=.next/\∃H',Inv (wO X [cn,cau,en,mk] fn st fr cdv s1 H3) [] [some (.ref f),some .cu,none,none] H' s'/\∃v,Qn v H') (λe s'=>iD X.prog X.w (wO X [cn,cau,en,mk] fn st fr cdv s1 H3).stack H3 s3 E1 e s') s3:=λ{t Qn E1} hb ht=>by
  obtain⟨qn,c',ctv',oc',vs',q',tk',f1,f2,f3,f4⟩:=Fl.ex;obtain⟨hof,_⟩:=(show cf X.prog X.w H3 s3.heap f _ from I3.a8 f _ f1);refine RE (wpAny_Expr_any (KA (X:=(wO X [cn,cau,en,mk] fn st fr cdv s1 H3)) (i:=0) I3 rfl (.inl l0) rfl hof rfl (wpAny_call (TU (Eu LS hp I3.KC hr1.hd hr1.depth Fl (Cl1.keep λb o n e=>⟨I3.base.any e n (λz=>nomatch z),n⟩) hb ht) λr s' hq=>?_)) n0 n0') I3.quiet (sw3 _));cases r with
  | error e=>exact hq
  | ok fl=>
   cases fl with
   | ret u=>
    obtain⟨v,H',I',_,q⟩:=I3.after hq;exact SO ⟨rfl,H',I',v,q⟩
   | next=>exact False.elim hq
   | brk=>exact False.elim hq
   | cont=>exact False.elim hq
 have hz:∀b,s3.heap.get? b=none->s1.heap.get? b=none:=λb hb=>by
  cases q:s1.heap.get? b with
  | none=>rfl
  | some o=>obtain⟨o',e⟩:=I3.base.there b o q (λz=>nomatch z);rw[hb] at e;cases e
 have hrl:∀(q:Str)(cd:Value),cH k ((wO X [cn,cau,en,mk] fn st fr cdv s1 H3).A.deeper (envX q scope s3.heap.objs.size f cd (gp X.env scope.names []))):=λq cd=>hr1.deeper _;unfold gn at ee;cases hq:x (gq caps δ) h with
 | some p=>
  obtain⟨c,h1⟩:=p;rw[hq] at ee;dsimp only at ee
  by_cases hc:c∈cls
  ·rw[Qf hc] at ee;obtain⟨⟨d4,h5⟩,e4,e6⟩:=bB ee;obtain⟨D,bm,bmC,mD,gD,hob,hb1,hb2⟩:=(hC c hc).ex;refine RE (CG (X:=(wO X [cn,cau,en,mk] fn st fr cdv s1 H3)) (rest:=X.stack) (L:=s1.heap.objs.size) (E1:=λC _ H'=>∃ρ',X.mg c=some C/\dh ρ H3 ρ' H'/\bN X.K ρ' h1 H') (Qn:=λH'=>∃v:V,(λ_ _=>False:VK) v H') I3 rfl rfl Sc.nd rfl rfl l1 l2 lg hms (sw2 _) n2 n2'
    (run (t:=λσ H _=>Ni X.K X.mg (λC _ H'=>∃ρ',X.mg c=some C/\dh ρ H3 ρ' H'/\bN X.K ρ' h1 H') x σ H) (Qn:=λ_ _=>False) (E1:=(λC _ H'=>∃ρ',X.mg c=some C/\dh ρ H3 ρ' H'/\bN X.K ρ' h1 H')) (λq cd=>hx q cd f _ _ _ s3 H3 _ (hrl q cd)) ⟨ρ,_,h,c,h1,R1,S1,hq,λC ρ' H' m T S=>⟨ρ',m,T,S⟩⟩) (λC H' hh=>?_) hz (λs4 H4 _ hh=>?_) λs4 H4 y D4 I4 hh hn=>?_)
   ·obtain⟨ρ',m,_⟩:=hh;rw[mD] at m;cases m;exact⟨D,bm,bmC,rfl,hob,hb1,hb2⟩
   ·obtain⟨_,q⟩:=hh;exact q.elim
   ·obtain⟨ρ',m,T,S4⟩:=hh;rw[mD] at m;cases m;have S5:bN X.K (ρ'.more y) (h1++[.exc c]) (upd H4 y (.AB λ_ h=>yC h y D)):=S4.made hn ⟨D,gD,aO⟩;refine Q4 (tl I4 (ρ4:=ρ'.more y) (δ4:=[none,some (.ob h1.length),none,none]) ⟨rfl,λi d hd=>?_⟩ S5 e4 λv H' pp=>?_) (λ_ _ q=>q) λ_ _ q=>q
    ·match i,hd with
     | 0,hd=>cases hd
     | 1,hd=>cases hd;exact⟨.ref y,rfl,.ob (by show(ρ'.ob++[y])[h1.length]?=_;rw[<-S4.len];simp)⟩
     | 2,hd=>cases hd
     | 3,hd=>cases hd
     | _+4,hd=>cases hd
    ·obtain⟨ρ6,T6,S6,r6⟩:=pp;have p2:du X.K ρ' H4 h5 d4 v H':=⟨ρ6,(dh.made S4 hn).trans T6,S6,r6⟩;obtain⟨ρ7,T7,S7,r7⟩:=p2.leave S4 e6;exact kq v H' ⟨ρ7,(T1.trans T).trans T7,S7,r7⟩
  ·rw[Qo hc] at ee;cases ee
 | none=>
  rw[hq] at ee;dsimp only at ee;obtain⟨⟨d1,h1⟩,e1,e2⟩:=bB ee;obtain⟨⟨d4,h5⟩,e4,e6⟩:=bB e2;refine RE (CG (X:=(wO X [cn,cau,en,mk] fn st fr cdv s1 H3)) (rest:=X.stack) (L:=s1.heap.objs.size) (E1:=λ_ _ _=>False) (Qn:=λH'=>∃v:V,du X.K ρ H3 h1 d1 v H') I3 rfl rfl Sc.nd rfl rfl l1 l2 lg hms (sw2 _) n2 n2'
    (run (t:=tM X.K m) (Qn:=du X.K ρ H3 h1 d1) (E1:=λ_ _ _=>False) (λq cd=>hm q cd f _ _ _ s3 H3 _ (hrl q cd)) ⟨ρ,_,h,d1,h1,R1,S1,e1,λv H' p=>p⟩) (λC H' hh=>hh.elim) hz (λs4 H4 I4 hh=>?_) λs4 H4 y D4 I4 hh hn=>hh.elim)
  obtain⟨v0,ρ',T,S4,r0⟩:=hh;refine Q4 (tl I4 (ρ4:=ρ') (δ4:=[none,some .cu,none,none]) ⟨rfl,λi d hd=>?_⟩ S4 e4 λv H' pp=>?_) (λ_ _ q=>q) λ_ _ q=>q
  ·match i,hd with
   | 0,hd=>cases hd
   | 1,hd=>cases hd;exact⟨.cu,rfl,.cu⟩
   | 2,hd=>cases hd
   | 3,hd=>cases hd
   | _+4,hd=>cases hd
  ·obtain⟨ρ7,T7,S7,r7⟩:=du.leave S4 pp e6;exact kq v H' ⟨ρ7,(T1.trans T).trans T7,S7,r7⟩
end
structure EX(K:Frag)(mg:Str->Option Value)(tb:List (Str×List Str))(ns:List Str):Prop where
 own:∀c as,tb.lookup c=some as->∃D,mg c=some (.ref D)/\Kt K c=some (.ref D)/\XQ K D/\(clsIn K D).isSome=true/\(∀n∈ns,∃N,mg n=some (.ref N)/\kitOne K (.ref D) (.ref N)=some (decide (n∈as)))/\kitOne K (.ref D) (.type "ValueError")=some true
noncomputable def ot(tb:List (Str×List Str))(n:Str)(m:EM):EM:=λδ h=>(m δ h).bind λp=>match p.1 with
 | .ob k=>match p.2[k]? with
  | some (.exc c)=>(tb.lookup c).map λas=>(.bl (decide (n∈as)),p.2)
  | _=>none
 | _=>none
section
variable {X:Cx} {a b:Expr} {m:EM} {tb:List (Str×List Str)} {ns:List Str} {n:Str} {pn pb pos:Pos}
theorem Kq{ρ:Ad}{H:Hp}{h:MH}{k:Nat}{c:Str}{v:V}(S:bN X.K ρ h H)(r:Rep X.K ρ H v (.ob k))(e:h[k]?=some (.exc c)):∃x C,v=.ref x/\Kt X.K c=some (.ref C)/\H x=some (.AB λ_ h=>yC h x C):=by
 cases r with
 | ob er=>
  obtain⟨C,g,x⟩:=S.at_ _ _ _ er e;exact⟨_,C,rfl,g,x⟩
theorem Fb:gy X (.builtin "isinstance") (λvs H Q=>∃x D cv b,vs=[.ref x,cv]/\H x=some (.AB λ_ h=>yC h x D)/\XQ X.K D/\(clsIn X.K D).isSome=true/\(∀u,RelV cv u->kitOne X.K (.ref D) u=some b)/\Q (.bl b) H):=by
 intro pins s σ H vs us Q I r ⟨x,D,cv,b,e,hx,xq,hcl,hk,q⟩;subst e;obtain⟨u1,u2,rfl,r1,r2⟩:=Vals.two r;obtain rfl:u1=Value.ref x:=r1;obtain⟨⟨o,f1,f2⟩,_,_⟩:=(show cf X.prog X.w H s.heap x _ from I.a8 x _ hx);exact zr xq hcl I.As ⟨o,f1,f2⟩ (hk u2 r2) λtk=>⟨.bl _,H,I.tok tk,rfl,q⟩
theorem t5{cv:V}(ha:SE X a m)(hb:PE X b (tC cv))(hk:∀c as,tb.lookup c=some as->∃D,Kt X.K c=some (.ref D)/\XQ X.K D/\(clsIn X.K D).isSome=true/\∀u,RelV cv u->kitOne X.K (.ref D) u=some (decide (n∈as)))
  (hg:Gl X "isinstance") (hm:X.mg "isinstance"=none) (he:starEach [a,b] X.env=(false,eval a X.env)::starEach [b] X.env) (he2:starEach [b] X.env=[(false,eval b X.env)]) (hpl:(backTo pos (starEach [b] X.env)).any (·.1)=false):
  SE X (.Call (.Name "isinstance" pn) [a,b] [] pos) (ot tb n m):=
 (xy (Fb (X:=X)) hg hm boot_isinstance (vI ha (vI hb D2 he2) he) (by decide) (by decide) he hpl).imp λσ H Q ⟨ρ,δ,h,d,h',R,S,ee,kq⟩=>by
  obtain⟨⟨d1,h1⟩,e1,e2⟩:=bB ee;cases d1 with
  | ob k=>
   dsimp only at e2;cases hq:h1[k]? with
   | none=>rw[hq] at e2;cases e2
   | some o=>
    rw[hq] at e2;cases o with
    | exc c=>
     obtain⟨as,e3,e4⟩:=gM e2;cases e4;obtain⟨D,gD,xq,hcl,hkit⟩:=hk c as e3;refine⟨ρ,δ,h,.ob k,_,R,S,e1,λv H1 ⟨ρ1,T1,S1,rv⟩=>?_⟩;obtain⟨x,C,rfl,gC,hx⟩:=Kq S1 rv hq;rw[gD] at gC;cases gC;exact⟨x,D,cv,_,rfl,hx,xq,hcl,hkit,kq _ _ ⟨ρ1,T1,S1,.bl _⟩⟩
    | _=>cases e2
  | _=>cases e2
theorem IS(E:EX X.K X.mg tb ns)(ha:SE X a m)(h0:∃c as,tb.lookup c=some as)(hn:n∈ns)(hgn:Gl X n)(hg:Gl X "isinstance")(hm:X.mg "isinstance"=none)(hd:(n==("__debug__":Str))=false)(he:starEach [a,.Name n pb] X.env=(false,eval a X.env)::starEach [.Name n pb] X.env)(he2:starEach [.Name n pb] X.env=[(false,eval (.Name n pb) X.env)])
  (hpl:(backTo pos (starEach [.Name n pb] X.env)).any (·.1)=false):SE X (.Call (.Name "isinstance" pn) [a,.Name n pb] [] pos) (ot tb n m):=by
 obtain⟨c0,as0,e0⟩:=h0;obtain⟨_,_,_,_,_,h5,_⟩:=E.own c0 as0 e0;obtain⟨N,mN,_⟩:=h5 n hn;refine t5 (cv:=.ref N) ha (Ae hgn mN rfl hd) (λc as e=>?_) hg hm he he2 hpl;obtain⟨D,mD,gD,xq,hcl,h5,_⟩:=E.own c as e;obtain⟨N',mN',hk⟩:=h5 n hn;rw[mN] at mN';cases mN';exact⟨D,gD,xq,hcl,λu ru=>by cases(show u=Value.ref N from ru);exact hk⟩
theorem FZ(E:EX X.K X.mg tb ns)(ha:SE X a m)(hv:∀c as,tb.lookup c=some as->decide (("ValueError":Str)∈as)=true)(hgn:Gl X "ValueError")(hmn:X.mg "ValueError"=none)(hg:Gl X "isinstance")(hm:X.mg "isinstance"=none)
  (he:starEach [a,.Name "ValueError" pb] X.env=(false,eval a X.env)::starEach [.Name "ValueError" pb] X.env) (he2:starEach [.Name "ValueError" pb] X.env=[(false,eval (.Name "ValueError" pb) X.env)])
  (hpl:(backTo pos (starEach [.Name "ValueError" pb] X.env)).any (·.1)=false):SE X (.Call (.Name "isinstance" pn) [a,.Name "ValueError" pb] [] pos) (ot tb "ValueError" m):=by
 refine t5 (cv:=.ty "ValueError") ha (Gy hgn hmn (u:=.type "ValueError") (by ac_nf) rfl) (λc as e=>?_) hg hm he he2 hpl;obtain⟨D,mD,gD,xq,hcl,_,h6⟩:=E.own c as e;exact⟨D,gD,xq,hcl,λu ru=>by cases(show u=Value.type "ValueError" from ru);rw[hv c as e];exact h6⟩
end
noncomputable def Ap:AX:=λd ds h=>match ds with
 | [x]=>(dR d h).bind λys=>(z9 h x).bind λp=>(oO ys).bind λbs=>if p.depth<=60/\PyData.depthAll bs<=60 then some (D.int (Int.ofNat (bs.countP λb=>PyData.eqv b p)),h) else none
 | _=>none
theorem B2{h:Heap}{f:Value->Bool}{p:PyData}:∀{us:List Value} {ds:List PyData} {as:List Addr},ReadsAll h us ds as->(∀u d as,u∈us->Reads h u d as->d∈ds->f u=PyData.eqv d p)->us.countP f=ds.countP λb=>PyData.eqv b p:=by
 intro us
 induction us with
 | nil=>intro ds as r _;cases r;rfl
 | cons v us ih=>
  intro ds as r hf;cases r with | cons r l=>
  rw[List.countP_cons,List.countP_cons,hf _ _ _ Qh r Qh,ih l λu d as hu hr hd=>hf u d as (Qi _ hu) hr (Qi _ hd)]
theorem BF{X:Cx}(hu:X.A.units+64 < cLine):AW X "list.count" (rM X.K Ap):=by
 intro pins s σ H x xs v us Q I rx rs hh;obtain⟨ρ,h,d,ds,z,h',S,rd,l,ee,k⟩:=hh
 match ds,l,ee with
 | [],_,ee=>exact bW ee
 | _::_::_,_,ee=>exact bW ee
 | [y],l,ee=>
  obtain⟨ys,e1,e2⟩:=bB ee;obtain⟨p,e3,e4⟩:=bB e2;obtain⟨bs,e5,e6⟩:=bB e4
  by_cases w:p.depth<=60/\PyData.depthAll bs<=60
  ·rw[Qf w] at e6;cases e6;obtain⟨a,vs,rfl,ha,l1⟩:=eB S rd e1;obtain rfl:v=Value.ref a:=rx;obtain⟨yv,rfl,ry⟩:=rep1 l;obtain⟨u,rfl,ru⟩:=Vals.one rs;obtain⟨r1,c1⟩:=mw S ry e3;obtain⟨r2,c2⟩:=l1.tI e5;obtain⟨as,ra⟩:=r1.reads I ru;obtain⟨its,rv,pl,hz⟩:=I.list (.inl (.inl ha));obtain⟨bs',rb⟩:=r2.reads I rv;have hj:=B2 (f:=AD s.heap p) rb λu d as _ hr hd=>oo hr (cw c2 hd);have key:∀y,y∈its.toArray->PySem.SeqAt.EqAt X.A.in1 s y u (AD s.heap p y):=by
    intro y hy;obtain⟨d,as',hr,hd⟩:=jS rb y (by simpa using hy);rw[oo hr (cw c2 hd)];refine Sz d p _ s y u as' as hr ra (cw c2 hd) c1 ?_;have h1:=kd hd;have h2:min d.depth p.depth<=d.depth:=Tz _ _;show X.A.units+1+min d.depth p.depth < cLine;have h3:=w.2
    lia
   obtain⟨o,n,g,o1,o2,o3⟩:=pl;obtain⟨oc,od,oda,os⟩:=o;dsimp only at o1 o2 o3;subst o1 o2 o3;refine Ss UG ⟨_,g,rfl⟩ PySem.F.entry_list_count (PySem.F.args_list_count_2 _ _)
    (PySem.SeqAt.list_countAt a its.toArray n none os u (AD s.heap p)) ⟨g,key,?_⟩
   exact⟨.int _,H,I.kept (t':=s.toks+1) λ_ _ e=>e,⟨s.toks,by rw[<-hj];rfl⟩,k _ _ (.here S (.int _))⟩
  ·rw[Qo w] at e6;cases e6
end Sm
namespace Hd
open PySem PySem.W PySem.Spec PyProof.Rows L2 Sm
section
variable {h:Heap}
theorem JS{ns:Addr}{name:Str}{r:Option Value}(e:uq h ns name=some r):nsIn (aB h) ns name=some r:=by
 unfold uq at e;unfold nsIn
 split at e
 ·rename_i c d es n sl ho;rw[bx ho (gO λvs z=>by cases z)];exact e
 ·cases e
theorem GB{v:Value}{name:Str}{r:Option Value}(e:jw h name v=some r):ownIn (aB h) name v=some r:=by
 cases v with
 | ref a=>
  unfold jw at e;unfold ownIn;dsimp only at e ⊢
  split at e
  ·rename_i c d cd sl ho;rw[bx ho (gO λvs z=>by cases z)];exact JS e
  ·cases e
 | _=>exact e
theorem uW{name:Str}{r:Option Value}:∀{vs:List Value},cA h name vs=some r->alongIn (aB h) name vs=some r
 | [],e=>e
 | c::vs,e=>by
  unfold cA at e;unfold alongIn;cases q:jw h name c with
  | none=>rw[q] at e;cases e
  | some w=>
   rw[q] at e;rw[GB q];cases w with
   | some v=>exact e
   | none=>exact uW (vs:=vs) e
theorem qw{c:Str}{C:Addr}{cd:ClassData}(e:clsAt h c=some (C,cd)):h.nsMap mainGlobals c=some (.ref C)/\∃d sl,(aB h).lookup C=some ⟨.type "type",d,.cls cd,sl⟩:=by
 unfold clsAt at e
 split at e
 ·rename_i C' hg
  split at e
  ·rename_i d cd' sl ho;cases e;exact⟨hg,d,sl,bx ho (gO λvs z=>by cases z)⟩
  ·cases e
 ·cases e
theorem MS{mg:Str->Option Value}{c:Str}{v:Value}(g:h.Ns mainGlobals mg)(e:mg c=some v):Kt (aB h) c=some v:=by
 obtain⟨o,es,ep,ho,hd,sk,hm⟩:=g;unfold Kt;rw[bx ho (gO λvs z=>by rw[hd] at z;cases z)];dsimp only;rw[hd];dsimp only;rw[<-hm c] at e;unfold nsFind findBy at e;rw[<-Array.find?_toList] at e;rw[show(λe:DictEntry=>e.key.isStr c)=λe=>Value.isStrOf c e.key from funext λx=>by cases x.key <;> rfl] at e;exact e
theorem vU{o:Obj}(hd:∀vs,o.data≠.fields vs){a:Addr}{base:Heap}(X:(aB h).In base)(e:h.get? a=some o):base.get? a=some o:=X _ _ (bx e (gO hd))
theorem Am{base:Heap}(X:(aB h).In base){N:Addr}{m:Str->Option Value}(x:h.Ns N m):base.Ns N m:=by
 obtain⟨o,es,ep,ho,hd,r⟩:=x;exact⟨o,es,ep,vU (λvs z=>by rw[hd] at z;cases z) X ho,hd,r⟩
theorem Be{base:Heap}(X:(aB h).In base){bmB tl:List Value}(T:OwnTail h bmB tl):OwnTail base bmB tl:=by
 induction T with
 | base=>exact .base
 | own hA hN hni _ ih=>exact .own (vU (λvs z=>by cases z) X hA) (Am X hN) hni ih
abbrev CD:List Value:=[.type "ValueError",.type "Exception",.type "BaseException",.type "object"]
section
variable {q:Program} {loose:List Str} {mean:ExcName->Option Value} {mg mb:Str->Option Value} {c:Str}
theorem FG{base:Heap}(T:Top q loose mean mg mb h)(hs:specOf q c=some ("ValueError.__new__",CD))(X:(aB h).In base):∃C,Fs mg base c C:=by
 obtain⟨C,O,_⟩:=T.ownAt hs;have O:=O.own;obtain⟨bm,N,nm,q',bs,hdct,sn,sub,ab,col,dd,k0,k1,k2,k3,k5,mN,hC,hN,hni,T'⟩:=O.obj;exact⟨C,⟨O.bound,bm,N,nm,q',bs,hdct,sn,sub,ab,col,dd,k0,k1,k2,k3,k5,mN,vU (λvs z=>by cases z) X hC,Am X hN,hni,Be X T'⟩⟩
theorem vw{cs ns:List Str}{tab:List (Option (List (Option Bool)))}(Y:pV h cs ns=tab){i:Nat}(hi:cs[i]?=some c){r:List (Option Bool)}(hr:tab[i]?=some (some r)):kG h ns c=some r:=by
 subst Y;unfold pV at hr;rw[Qx,hi] at hr;exact Option.some.inj hr
theorem sD{ns:List Str}{r:List (Option Bool)}(e:kG h ns c=some r):∃C cd,clsAt h c=some (C,cd)/\cA h "__getattribute__" cd.mro=some (some (.builtin "BaseException.__getattribute__"))/\cA h "__getattr__" cd.mro=some none/\cA h "__class__" cd.mro=some (some (.builtin "object.__class__"))/\
  cd.mro.contains (.type "object")=true/\cd.mro.contains (.type "BaseException")=true/\cd.mro.contains (.type "ValueError")=true/\cd.mro.contains (.ref C)=true/\r=ns.map (isAt h cd):=by
 unfold kG at e;obtain⟨⟨C,cd⟩,e1,e2⟩:=Sx.mp e;dsimp only at e2
 split at e2
 ·rename_i hh;simp only[QN] at hh;cases e2;exact⟨C,cd,e1,Rt.mp hh.1.1.1.1.1.1,Rt.mp hh.1.1.1.1.1.2,Rt.mp hh.1.1.1.1.2,hh.1.1.1.2,hh.1.1.2,hh.1.2,hh.2,rfl⟩
 ·cases e2
theorem An{C:Addr}{cd:ClassData}{d:Option Addr}{sl:Array (Option Value)}(lk:(aB h).lookup C=some ⟨.type "type",d,.cls cd,sl⟩){v:Value}{b:Bool}(e:cd.mro.contains v=b)(hn:cd.mro.contains (.type "object")=true):mroIn (aB h) C v=some b:=by
 have hc:clsIn (aB h) C=some cd:=by unfold clsIn;rw[lk]
 unfold mroIn;rw[hc];show(if cd.mro.isEmpty then none else some (cd.mro.contains v))=some b;rw[Qo (λz=>by rw[List.isEmpty_iff.mp z] at hn;cases hn),e]
theorem mg_of{mg:Str->Option Value}{n:Str}{v:Value}(g:h.Ns mainGlobals mg)(e:h.nsMap mainGlobals n=some v):mg n=some v:=by
 obtain⟨o,es,ep,g1,g2,_,g3⟩:=g;rw[<-g3 n,<-e];unfold Heap.nsMap;rw[g1];dsimp only;rw[g2]
theorem MX{tb:List (Str×List Str)}{ns:List Str}(T:Top q loose mean mg mb h)(Y:pV h (tb.map (·.1)) ns=tb.map λp=>some (ns.map λn=>some (decide (n∈p.2)))):EX (aB h) mg tb ns:=by
 refine⟨λc as e=>?_⟩;obtain⟨i,hi⟩:=TL (QT e);have hr:=vw (c:=c) Y (i:=i) (by rw[Qx,hi];rfl) (r:=ns.map λn=>some (decide (n∈as))) (by rw[Qx,hi];rfl);obtain⟨D,cd,hc,a1,a2,a3,b1,b2,b3,b4,hn⟩:=sD hr;obtain⟨g,d,sl,lk⟩:=qw hc;have mD:=mg_of T.g g;have hcl:clsIn (aB h) D=some cd:=by unfold clsIn;rw[lk]
 have fi:∀{nm:Str} {r:Option Value},cA h nm cd.mro=some r->findIn (aB h) (.ref D) nm=some r:=λ{nm r} e=>by
  unfold findIn;dsimp only;rw[lk];exact uW e
 refine⟨D,mD,MS T.g mD,⟨fi a1,fi a2,fi a3,An lk b1 b1,An lk b2 b1⟩,by rw[hcl];rfl,λn hnn=>?_,?_⟩
 ·have hx:=Ve.mp hn n hnn;obtain⟨⟨N,cdN⟩,e1,e2⟩:=QD.mp hx.symm;obtain⟨gN,dN,slN,lkN⟩:=qw e1;refine⟨N,mg_of T.g gN,?_⟩;dsimp only at e2;unfold kitOne
  by_cases z:N=D
  ·subst z;rw[Qf (by simp),<-e2,b4]
  ·rw[Qo (by simpa using λy=>z y.symm)];unfold kitCls;dsimp only;rw[Qf (by
    have:clsIn (aB h) N=some cdN:=by unfold clsIn;rw[lkN]
    have t2:typeIn (aB h) (.ref N)=some (.type "type"):=by unfold typeIn;dsimp only;rw[lkN];rfl
    rw[this,t2];rfl)]
   rw[<-e2];exact An lk rfl b1
 ·unfold kitOne;rw[Qo (by simp)];unfold kitCls;dsimp only;rw[Qf (by decide+kernel)];exact An lk b3 b1
theorem Lr{tb:List (Str×List Str)}{ns:List Str}{i1 i2:String}{CS:Addr}(T:Top q loose mean mg mb h)(Y:pV h (tb.map (·.1)) ns=tb.map λp=>some (ns.map λn=>some (decide (n∈p.2))))(mS:mg "StuckError"=some (.ref CS))(hS:specOf q "StuckError"=some (i2,CD))(hn:("StuckError":Str)∈ns)
  (hs:specOf q c=some (i1,CD)) (he:∃as,tb.lookup c=some as/\("StuckError":Str)∈as):XC (aB h) mg CS c:=by
 obtain⟨as,e,hm⟩:=he;obtain⟨i,hi⟩:=TL (QT e);have hr:=vw (c:=c) Y (i:=i) (by rw[Qx,hi];rfl) (r:=ns.map λn=>some (decide (n∈as))) (by rw[Qx,hi];rfl);obtain⟨D,cd,hc,_,_,_,_,b2,_,_,hnn⟩:=sD hr;obtain⟨g,d,sl,lk⟩:=qw hc;have mD:=mg_of T.g g;have hx:=Ve.mp hnn _ hn;obtain⟨⟨N,cdN⟩,e1,e2⟩:=QD.mp hx.symm;obtain⟨gN,_⟩:=qw e1;have mN:=mg_of T.g gN;rw[mS] at mN;cases mN;obtain⟨C1,O1,_⟩:=T.ownAt hs;obtain⟨C2,O2,_⟩:=T.ownAt hS;have z1:=O1.bound;rw[mD] at z1;cases z1;have z2:=O2.bound;rw[mS] at z2;cases z2;obtain⟨bm1,N1,nm1,q1,bs1,hd1,sn1,sb1,ab1,col1,dd1,k10,k11,k12,k13,k15,mN1,hC1,_,_,T1⟩:=O1.obj;obtain⟨bm2,N2,nm2,q2,bs2,hd2,sn2,sb2,ab2,col2,dd2,k20,k21,k22,k23,k25,mN2,hC2,_,_,T2⟩:=O2.obj;have l1:=bx hC1 (gO λvs z=>by cases z);have l2:=bx hC2 (gO λvs z=>by cases z);rw[lk] at l1;refine⟨D,bm1,bm2,mD,MS T.g mD,λh' X=>⟨⟨_,_,_,_,_,_,_,_,_,_,_,_,_,_,_,_,X _ _ (bx hC1 (gO λvs z=>by cases z))⟩,⟨_,_,_,_,_,_,_,_,_,_,_,_,_,_,_,_,X _ _ l2⟩⟩,T2.tail.hasType (by decide),?_⟩;have ec:cd.mro=.ref D::bm1:=by injection l1 with l1;injection l1 with _ _ l1 _;injection l1 with l1;rw[l1]
 rw[<-ec];dsimp only at e2;rw[e2];exact QP hm
theorem GP{n:Str}{st:Stmt}{f:Addr}{fd:FuncData}(T:Top q loose mean mg mb h)(e:(recsOf q).find? (λe=>e.name==n)=some (mr n st))(F:sW (aB h) n n st f fd)(m:mg n=some (.ref f)):∃P,Cg (aB h) mg fd.code P:=by
 obtain⟨a,o,fd',c,P,m',ho,hd,hcd,hi,ht⟩:=T.tab _ (Ux e);have m':mg n=some (.ref a):=m';rw[m] at m';cases m';obtain⟨oc,od,kV,doc,pm,an,cdv,ct,osl,rfl,lk,_⟩:=F.ex;have lk2:=bx ho (gO λvs z=>by rw[hd] at z;cases z);rw[lk] at lk2;cases lk2;cases hd;obtain⟨oC,vs,file,tf,flags,tg,inF,text,tt,op,f1,f2,f3,f4,f5,f6,f7,_,_,_,f11⟩:=hi;obtain⟨⟨oC',vs',g1,g2,g3,g4⟩,hP⟩:=ht;rw[f1] at g1;cases g1;rw[f2] at g3;cases g3;obtain⟨bm,ob,b1,b2,b3,b4,b5,b6⟩:=T.bmain;refine⟨P,⟨c,oC,vs,file,tf,flags,tg,inF,text,tt,hcd,bx f1 (EE f2 g4),g2,f2,g4,f3,f4,f5,f6,f7,f11⟩,?_,⟨bm,ob,b1,b2,bx b3 (gO λvs z=>by rw[b6] at z;cases z),b4,b5,b6⟩⟩;have hin:.ref P∈yL h:=by
  refine RB.mpr ⟨c,RQ.mpr (Qz f1),?_⟩;obtain⟨k0,k1,k2,k3⟩:=oC;dsimp only at g2 f2;subst g2 f2;simp[qu,f1,g4,hP,lp]
 unfold aB;have hs:((tT h).lookup mainGlobals).isSome=true:=by
  obtain⟨o,es,ep,g1,g2,_⟩:=T.g;rw[<-j6,bx g1 (gO λvs z=>by rw[g2] at z;cases z)];rfl
 rw[Qf hs];exact⟨_,Qq _ (Qw.mpr rfl),by simpa using hin⟩
end
end
section
variable {h h':Heap}
theorem Ee(k:Sub h h'){n:Str}{v:Value}(e:h.nsMap mainGlobals n=some v):h'.nsMap mainGlobals n=some v:=by
 unfold Heap.nsMap at e ⊢
 split at e
 ·rename_i o ho;rw[k _ _ ho];exact e
 ·cases e
theorem yl(k:Sub h h'){c:Str}{p:Addr×ClassData}(e:clsAt h c=some p):clsAt h' c=some p:=by
 unfold clsAt at e ⊢
 split at e
 ·rename_i C' hg;rw[Ee k hg];dsimp only
  split at e
  ·rename_i d cd' sl ho;rw[k _ _ ho];exact e
  ·cases e
 ·cases e
theorem BA(k:Sub h h'){ns:Addr}{name:Str}{r:Option Value}(e:uq h ns name=some r):uq h' ns name=some r:=by
 unfold uq at e ⊢
 split at e
 ·rename_i c d es n sl ho;rw[k _ _ ho];exact e
 ·cases e
theorem D3(k:Sub h h'){v:Value}{name:Str}{r:Option Value}(e:jw h name v=some r):jw h' name v=some r:=by
 cases v with
 | ref a=>
  unfold jw at e ⊢;dsimp only at e ⊢
  split at e
  ·rename_i c d cd sl ho;rw[k _ _ ho];exact BA k e
  ·cases e
 | _=>exact e
theorem iW(k:Sub h h'){name:Str}{r:Option Value}:∀{vs:List Value},cA h name vs=some r->cA h' name vs=some r
 | [],e=>e
 | c::vs,e=>by
  unfold cA at e ⊢;cases q:jw h name c with
  | none=>rw[q] at e;cases e
  | some w=>
   rw[q] at e;rw[D3 k q];cases w with
   | some v=>exact e
   | none=>exact iW k (vs:=vs) e
theorem Dq(k:Sub h h'){ns:List Str}{c:Str}{bs:List Bool}(e:kG h ns c=some (bs.map some)):kG h' ns c=some (bs.map some):=by
 obtain⟨C,cd,hc,a1,a2,a3,b1,b2,b3,b4,hn⟩:=sD e;unfold kG;rw[yl k hc];show(if _ then some (ns.map (isAt h' cd)) else none)=_;rw[Qf (by rw[iW k a1,iW k a2,iW k a3,b1,b2,b3,b4];rfl)];congr 1;rw[hn];refine U5 λn hnn=>?_;have:∃b,isAt h cd n=some b:=by
  have:isAt h cd n∈bs.map some:=by rw[hn];exact So hnn
  obtain⟨b,_,e⟩:=Q2.mp this;exact⟨b,e.symm⟩
 obtain⟨b,eb⟩:=this;unfold isAt at eb ⊢;obtain⟨p,e1,e2⟩:=QD.mp eb;rw[e1,yl k e1]
abbrev yc(tb:List (Str×List Str))(ns:List Str):List (Option (List (Option Bool))):=tb.map λp=>some (ns.map λn=>some (decide (n∈p.2)))
theorem uI(k:Sub h h'){ns:List Str}:∀{tb:List (Str×List Str)},pV h (tb.map (·.1)) ns=yc tb ns->pV h' (tb.map (·.1)) ns=yc tb ns
 | [],_=>rfl
 | p::tb,e=>by
  obtain⟨e1,e2⟩:=List.cons.inj (show kG h ns p.1::pV h (tb.map (·.1)) ns=some (ns.map λn=>some (decide (n∈p.2)))::yc tb ns from e);have e1:kG h ns p.1=some ((ns.map λn=>decide (n∈p.2)).map some):=by rw[e1,Ra];rfl
  show kG h' ns p.1::pV h' (tb.map (·.1)) ns=_;rw[uI k e2,Dq k e1,Ra];rfl
end
structure Dx(P:Program)(w:World)(K:FR)(mg:Str->Option Value)(base:Heap)(nm:Str)(k:Nat)(ps:List Str)(n:Nat)(F:Xn):Prop where
 ex:∃(f:Addr)(fd:FuncData),eO P w K mg base (iD P w) k f fd ps (LU K mg n F)/\PySem.W.keepIn K (.ref f)=true/\Binds K fd ps []/\mg nm=some (.ref f)
theorem Ej{q:Program}{loose:List Str}{mean:ExcName->Option Value}{mg mb:Str->Option Value}{h base:Heap}{P:Program}{w:World}{n:Str}{st:Stmt}{k N:Nat}{ps:List Str}{F:Xn}(T:Top q loose mean mg mb h)(e:(recsOf q).find? (λe=>e.name==n)=some (mr n st))
  (ok:∀{f:Addr} {fd:FuncData},sW (aB h) n n st f fd->eO P w (aB h) mg base (iD P w) k f fd ps (LU (aB h) mg N F)) (hb:∀{f:Addr} {fd:FuncData},sW (aB h) n n st f fd->Binds (aB h) fd ps []:=by walk_at "b"):Dx P w (aB h) mg base n k ps N F:=by
 obtain⟨f,fd,m,Fn⟩:=Ay T e;exact⟨f,fd,ok Fn,Fn.kp,hb Fn,m⟩
end Hd
namespace Sm
open PySem L2 PySem.Spec PySem.W PySem.Calls PyProof.Rows
section
variable {X:Cx} {E:XK} {e:Expr} {es:List Expr} {m:AM} {nm:Str} {k k' n:Nat} {ps:List Str} {F:Xn} {p pos:Pos}
theorem NT(d:Hd.Dx X.prog X.w X.K X.mg X.base nm k ps n F)(hr:cH k' X.A)(hp:Passes (iD X.prog X.w) X E)(ha:SA X (e::es) m)(hk:k<=k':=by decide)(hl:kl m n:=by repeat(first | exact aC | refine ah ?_))(hg:Gl X nm:=by unfold Gl;ac_nf)(hdb:(nm==("__debug__":Str))=false:=by ac_nf)(he:starEach (e::es) X.env=(false,eval e X.env)::starEach es X.env:=by ac_nf)(hpl:(backTo pos (starEach es X.env)).any (·.1)=false:=by ac_nf):
  XE X E (.Call (.Name nm p) (e::es) [] pos) (Ht F m):=by
 obtain⟨f,fd,G,kf,bf,mf⟩:=d.ex;exact FF G hp (hr.mono hk) hg mf kf bf ha hl hdb he hpl
end
theorem Lp{X:Cx}{E:XK}{e tg:Expr}{pos:Pos}{x:XM}{g:GM}(he:XE X E e x)(hg:SG X tg g)(hs:swapsWithSole [tg] e pos.line X.env=pure false:=by ac_nf)(hw:swappedStores [tg] e X.env=pure none:=by ac_nf)(h1:(assignEach [tg] X.env).map (·.2)=[assign tg X.env]:=by ac_nf):XS X E (.Assign [tg] e pos) x:=Ik he hs hw h1 hg
section
variable {P:Program} {w:World} {K:FR} {mg:Str->Option Value} {base:Heap} {N:List Str} {qual:Str} {scope:Scope} {f:Addr} {cd:Value} {A:Around} {outer:List Env} {s₀:Shared} {H₀:Hp} {E:XK} {cl:List (Str×Addr)}
theorem Gz:Passes (iD P w) (G7 (iD P w) P w K mg base N qual scope cl f cd A outer s₀ H₀ E) E:=Ah (fn:=λ_=>false) (cl:=cl)
theorem NS{nm:Str}{a:Expr}{np cpos pos:Pos}{ma:EM}(O:∃C,Fs mg base nm C)(ha:SE (eV (iD P w) P w K mg base N qual scope f cd A outer s₀ H₀ E) a ma)(hg:Gl (eV (iD P w) P w K mg base N qual scope f cd A outer s₀ H₀ E) nm:=by unfold Gl;ac_nf)
  (he:starEach [a] (envOfC qual scope s₀.heap.objs.size f cd)=[(false,eval a (envOfC qual scope s₀.heap.objs.size f cd))]:=by ac_nf) (hdb:(nm==("__debug__":Str))=false:=by ac_nf):
  XS (eV (iD P w) P w K mg base N qual scope f cd A outer s₀ H₀ E) E (.Raise (some (.Call (.Name nm np) [a] [] cpos)) none pos) (nA nm (ag ma aM)):=by
 obtain⟨C,O⟩:=O;exact Cq O hg ha he hdb
end
section
variable {P:Program} {w:World} {K:FR} {mg:Str->Option Value} {base:Heap} {x qual:Str} {st:Stmt} {f:Addr} {fd:FuncData} {N ps:List Str} {k:Nat} {body:SM}
theorem GZ(F:sW K x qual st f fd)(hL:∃Pt,Cg K mg fd.code Pt)(Sc:aA N ps (aj st))(hb:∀(cdv:Value)(A:Around)(outer:List Env)(s:Shared)(H:Hp)(E:XK),(∃Pt,Cg K mg cdv Pt)->cH k (A.deeper (envOfC qual (aj st) s.heap.objs.size f cdv))->Ce (eV nz P w K mg base N qual (aj st) f cdv A outer s H E).Ef (df st) body):
  eO P w K mg base nz (k+1) f fd ps (Bj K ps.length (jT N.length body)):=by
 obtain⟨oc,od,kV,doc,pm,an,cdv,ct,osl,rfl,lk,hcd⟩:=F.ex;refine EB lk hcd Sc (λvs H Q E h=>?_) λA outer s H vs Q E hr h=>?_
 ·obtain⟨ρ,h,ds,d,h',S,r,hl,_⟩:=h;rw[r.length];exact hl
 ·obtain⟨ρ,h,ds,d,h',S,r,hl,e,q⟩:=h;refine⟨_,wQ.Ef (hb cdv A outer s H E hL hr),?_⟩;obtain⟨⟨fl,δ1,h1⟩,e1,e2⟩:=bB e;refine⟨ρ,entry N.length ds,h,fl,δ1,h1,cK.entry N r,S,e1,λρ1 H1 T1 S1=>?_⟩;cases fl with
  | nx=>cases e2;exactλσ' R'=>q _ _ ⟨ρ1,T1,S1,.cu⟩
  | rt d=>cases e2;exactλv r=>q _ _ ⟨ρ1,T1,S1,r⟩
  | bk=>cases e2
  | ct=>cases e2
end
structure Pz(P:Program)(w:World)(K:Frag)(mg:Str->Option Value)(base:Heap)(fn:Str)(mt:SM)(cls:List Str):Prop where
 ex:∃(fr CS:Addr)(fd:FuncData)(st:Stmt)(cn cau en mk:Str)(tail:List Stmt)(pa pb' pc p1 p2 p3 p4 p5 p6 p7 p8 p9:Pos)(j:Nat),sW K fn fn st fr fd/\aA [cn,cau,en,mk] [cn] (aj st)/\mg fn=some (.ref fr)/\keepIn K (.ref fr)=true/\
  (∀(s:Shared)(u:Value),BindsTo s fd ⟨[u],[]⟩ [(cn,u)])/\
  (df st=.Assign [.Name cau pa] (.Constant .none j pb') pc::.Try [.Expr (.Call (.Name cn p1) [] [] p2) p3] [.ExceptHandler (some (.Name "StuckError" p4)) (some en) [.Assign [.Name cau p5] (.Name en p6) p7] p8] [] [] p9::tail)/\
  ((aj st).names.lookup cn=some .local/\(aj st).names.lookup cau=some .local/\(aj st).names.lookup en=some .local/\(aj st).names.lookup ("StuckError":Str)=some .globalImplicit)/\
  (mg "StuckError"=some (.ref CS)/\∀c∈cls,XC K mg CS c)/\
  ((cn==("__debug__":Str))=false/\(cn==("__classdict__":Str))=false/\(en==("__debug__":Str))=false/\(en==("__classdict__":Str))=false)/\
  ((∀env,swapsWith (.Constant .none j pb') (some (.Name cau pa)) pc.line env=pure false)/\(∀env,swapsWith (.Name en p6) (some (.Name cau p5)) p7.line env=pure false)/\(∀env,swapsWith (.Call (.Name cn p1) [] [] p2) none p3.line env=pure false))/\
  (∀(k:Nat)(cdv:Value)(A:Around)(outer:List Env)(s:Shared)(H:Hp)(E:XK),cH k (A.deeper (envOfC fn (aj st) s.heap.objs.size fr cdv))->Ce (eV nz P w K mg base [cn,cau,en,mk] fn (aj st) fr cdv A outer s H E).Ef tail mt)
theorem M8(fd:FuncData)(h:fd.params={posonlyargs:=[],args:=[],vararg:=none,kwonlyargs:=[],kw_defaults:=[],kwarg:=none,defaults:=[]})(h2:fd.defaults=.none)(h3:fd.kwdefaults=.none):bindArgs fd ⟨[],[]⟩=pure []:=by
 cases fd;dsimp only at h h2 h3;subst h h2 h3;rfl
theorem Oh{X:Cx}{fn:Str}{mt:SM}{k k':Nat}{x:XM}{m:EM}{Nl:List Str}{caps:List (Option Nat)}{scope:Scope}{params:Arguments}{body:Expr}{cls:List Str}{pn lpos pos:Pos}{cdv:Value}(R:Pz X.prog X.w X.K X.mg X.base fn mt cls)(hL:∃Pt,Cg X.K X.mg cdv Pt)
  (hr:cH k' X.A) (hk:k+2<=k') (C:bA X Nl caps scope)
  (hx:∀(q:Str)(cd:Value)(f:Addr)(cl:List (Str×Addr)) (A:Around) (outer:List Env) (s:Shared) (H:Hp) (E:XK),cH k (A.deeper (envX q scope s.heap.objs.size f cd cl))->XE (G7 (iD X.prog X.w) X.prog X.w X.K X.mg X.base Nl q scope cl f cd A outer s H E) E body x)
  (hm:∀(q:Str)(cd:Value)(f:Addr)(cl:List (Str×Addr)) (A:Around) (outer:List Env) (s:Shared) (H:Hp) (E:XK),cH k (A.deeper (envX q scope s.heap.objs.size f cd cl))->SE (G7 (iD X.prog X.w) X.prog X.w X.K X.mg X.base Nl q scope cl f cd A outer s H E) body m)
  (hcd:X.env.code=cdv:=by ac_nf) (hd:defaultsOf params X.env=([],[]):=by ac_nf) (hp:∀fd:FuncData,fd.params=params->fd.defaults=.none->fd.kwdefaults=.none->bindArgs fd ⟨[],[]⟩=pure []:=by exact M8)
  (LS:sU Nl scope:=by exact⟨rfl,rfl,rfl,by decide+kernel⟩) (hg:Gl X fn:=by unfold Gl;ac_nf) (hdb:(fn==("__debug__":Str))=false:=by ac_nf) (hst:starEach [.Lambda params body scope lpos] X.env=[(false,eval (.Lambda params body scope lpos) X.env)]:=by ac_nf):
  SE X (.Call (.Name fn pn) [.Lambda params body scope lpos] [] pos) (gn cls caps mt x m):=by
 obtain⟨fr,CS,fd,st,cn,cau,en,mk,tail,pa,pb',pc,p1,p2,p3,p4,p5,p6,p7,p8,p9,j,F,Sc,hmf,hkf,hb,hbody,⟨l0,l1,l2,lg⟩,⟨hms,hC⟩,⟨n0,n0',n2,n2'⟩,⟨s1,s2,s3⟩,ht⟩:=R.ex;obtain⟨Pt,L⟩:=hL;rw[<-hcd] at L;exact yR F Sc hmf hkf hb hbody l0 l1 l2 lg hms hC n0 n0' n2 n2' s1 s2 s3 (λcdv A outer s H E hr=>ht _ cdv A outer s H E hr) (hr.mono hk) L hd hp LS C hx hm hg hdb hst
section
variable {X:Cx} {a:Expr} {m:EM} {tb:List (Str×List Str)} {ns:List Str} {n:Str} {pn pb pos:Pos}
theorem C7(E:EX X.K X.mg tb ns)(hm:X.mg "isinstance"=none)(ha:SE X a m)(h0:tb.isEmpty=false:=by ac_nf)(hn:n∈ns:=by decide+kernel)(hgn:Gl X n:=by unfold Gl;ac_nf)(hg:Gl X "isinstance":=by unfold Gl;ac_nf)(hd:(n==("__debug__":Str))=false:=by ac_nf)
  (he:starEach [a,.Name n pb] X.env=(false,eval a X.env)::starEach [.Name n pb] X.env:=by ac_nf) (he2:starEach [.Name n pb] X.env=[(false,eval (.Name n pb) X.env)]:=by ac_nf) (hpl:(backTo pos (starEach [.Name n pb] X.env)).any (·.1)=false:=by ac_nf):SE X (.Call (.Name "isinstance" pn) [a,.Name n pb] [] pos) (ot tb n m):=
 IS E ha (by cases tb with | nil=>cases h0 | cons p r=>obtain⟨c0,a0⟩:=p;exact⟨c0,a0,by simp[QW]⟩) hn hgn hg hm hd he he2 hpl
theorem LV(E:EX X.K X.mg tb ns)(hm:X.mg "isinstance"=none)(hmn:X.mg "ValueError"=none)(ha:SE X a m)(hv:∀c as,tb.lookup c=some as->decide (("ValueError":Str)∈as)=true)(hgn:Gl X "ValueError":=by unfold Gl;ac_nf)(hg:Gl X "isinstance":=by unfold Gl;ac_nf)
  (he:starEach [a,.Name "ValueError" pb] X.env=(false,eval a X.env)::starEach [.Name "ValueError" pb] X.env:=by ac_nf) (he2:starEach [.Name "ValueError" pb] X.env=[(false,eval (.Name "ValueError" pb) X.env)]:=by ac_nf) (hpl:(backTo pos (starEach [.Name "ValueError" pb] X.env)).any (·.1)=false:=by ac_nf):
  SE X (.Call (.Name "isinstance" pn) [a,.Name "ValueError" pb] [] pos) (ot tb "ValueError" m):=FZ E ha hv hgn hmn hg hm he he2 hpl
theorem PR(h:tb.all (λp=>decide (("ValueError":Str)∈p.2))=true):∀c as,tb.lookup c=some as->decide (("ValueError":Str)∈as)=true:=λc as e=>RU.mp h _ (QT e)
end
end Sm
namespace Hd
open PySem PySem.W PySem.Spec PyProof.Rows L2 Sm
theorem Oq{q:Program}{loose:List Str}{mean:ExcName->Option Value}{mg mb:Str->Option Value}{h:Heap}{tb:List (Str×List Str)}{ns cls:List Str}(T:Top q loose mean mg mb h)(Y:pV h (tb.map (·.1)) ns=yc tb ns)(hS:specOf q "StuckError"=some ("ValueError.__new__",CD))(hn:("StuckError":Str)∈ns)
  (hc:∀c∈cls,specOf q c=some ("ValueError.__new__",CD)/\∃as,tb.lookup c=some as/\("StuckError":Str)∈as):∃CS,mg "StuckError"=some (.ref CS)/\∀c∈cls,XC (aB h) mg CS c:=by
 obtain⟨CS,O,_⟩:=T.ownAt hS;exact⟨CS,O.bound,λc hcm=>Lr T Y O.bound hS hn (hc c hcm).1 (hc c hcm).2⟩
end Hd
namespace Pg
open PySem Sm L2
abbrev Term:=Str×Int
abbrev Lock:=Str×Term
inductive Row where
 | say (w:Str)
 | call (d:Str) (ts:List Term)
 | within (l:Lock) (b:List Row)
 | all (ls:List Lock) (b:List Row)
 | ask (l:Lock) (b e:List Row)
 | lz (s t:Term) (a b c:List Row)
 | either (a b:List Row)
 | again (a:List Row)
noncomputable def bp(t:Term):D:=.tup [.str t.1,.int t.2]
noncomputable def aF(l:Lock):D:=.tup [.str l.1,bp l.2]
mutual
noncomputable def aw:Row->D
 | .say w=>.tup [.str "say",.str w]
 | .call d ts=>.tup [.str "call",.str d,.tup (ts.map bp)]
 | .within l b=>.tup [.str "within",aF l,.tup (cj b)]
 | .all ls b=>.tup [.str "all",.tup (ls.map aF),.tup (cj b)]
 | .ask l b e=>.tup [.str "ask",aF l,.tup (cj b),.tup (cj e)]
 | .lz s t a b c=>.tup [.str "by",bp s,bp t,.tup (cj a),.tup (cj b),.tup (cj c)]
 | .either a b=>.tup [.str "either",.tup (cj a),.tup (cj b)]
 | .again a=>.tup [.str "again",.tup (cj a)]
noncomputable def cj:List Row->List D
 | []=>[]
 | r::rs=>aw r::cj rs
end
theorem bT:∀l:List Row,cj l=l.map aw
 | []=>by simp[cj]
 | r::rs=>by simp[cj,bT rs]
mutual
noncomputable def cnt:Row->Nat
 | .say _=>1
 | .call _ _=>1
 | .within _ b=>1+ak b
 | .all _ b=>1+ak b
 | .ask _ b e=>1+ak b+ak e
 | .lz _ _ a b c=>1+ak a+ak b+ak c
 | .either a b=>1+ak a+ak b
 | .again a=>1+ak a
noncomputable def ak:List Row->Nat
 | []=>0
 | r::rs=>cnt r+ak rs
end
theorem m8:∀a b:List Row,ak (a++b)=ak a+ak b
 | [],b=>by simp[ak]
 | r::a,b=>by simp[ak,m8 a b];lia
theorem mZ:∀a:List Row,a.length<=ak a
 | []=>by simp
 | r::a=>by
  have:=mZ a;have:1<=cnt r:=by cases r <;> simp[cnt] <;> lia
  simp[ak];lia
structure Wd where
 names:List Str
 ai:List Str
 params:List (List Str)
def eU(ps:List Str)(t:Term):Prop:=(t.1=Str.ofString ""\/t.1∈ps)/\-99<=t.2/\t.2<=99
def fH(W:Wd)(ps:List Str)(l:Lock):Prop:=l.1∈W.names/\eU ps l.2
mutual
def bg(W:Wd)(ps:List Str):Nat->Row->Prop
 | _,.say w=>w∈W.names++W.ai
 | _,.call d ts=>(∃(j:Nat)(qs:List Str),W.ai[j]?=some d/\W.params[j]?=some qs/\ts.length=qs.length)/\∀t∈ts,eU ps t
 | n,.within l b=>fH W ps l/\n < 5/\b.length<=12/\bG W ps (n+1) b
 | n,.all ls b=>(2<=ls.length/\ls.length<=4/\ls.Nodup/\∀l∈ls,fH W ps l)/\n < 5/\b.length<=12/\bG W ps (n+1) b
 | n,.ask l b e=>fH W ps l/\n < 5/\b.length<=12/\e.length<=12/\bG W ps (n+1) b/\bG W ps (n+1) e
 | n,.lz s t a b c=>eU ps s/\eU ps t/\n < 5/\a.length<=12/\b.length<=12/\c.length<=12/\bG W ps (n+1) a/\bG W ps (n+1) b/\bG W ps (n+1) c
 | n,.either a b=>n < 5/\a.length<=12/\b.length<=12/\bG W ps (n+1) a/\bG W ps (n+1) b
 | n,.again a=>n < 5/\a.length<=12/\bG W ps (n+1) a
def bG(W:Wd)(ps:List Str):Nat->List Row->Prop
 | _,[]=>True
 | n,r::rs=>bg W ps n r/\bG W ps n rs
end
theorem uo{W:Wd}{ps:List Str}{n:Nat}:∀{a b:List Row},bG W ps n a->bG W ps n b->bG W ps n (a++b)
 | [],b,_,h=>h
 | r::a,b,h,h'=>by
  unfold bG at h;show bG W ps n (r::(a++b));unfold bG;exact⟨h.1,uo h.2 h'⟩
theorem nX{W:Wd}{ps:List Str}{n:Nat}:∀{a:List Row},bG W ps n a->∀r∈a,bg W ps n r
 | [],_,_,z=>by cases z
 | r::a,h,x,hx=>by
  unfold bG at h;rcases Ql.mp hx with rfl | hx
  ·exact h.1
  ·exact nX h.2 x hx
end Pg
set_option hygiene false in
local macro_rules | `(tactic| ac_rfl) => do {let t <- (("|Sm.sv _|Sm.aJ|Sm.aq|Sm.aa ? ?|Sm.ae ? ?|Sm.aG ?|Sm.bV ?|Sm.sset _ @ ?|Sm.cg ? ? ?|Sm.bI|Sm.six hr ? ?|Sm.fS @ hr ?|Sm.bc|Sm.De|Sm.Dm|Sm.Od ?|Sm.Oe ?|Sm.Oc ?|Sm.Og ?|Sm.Ob ?|Sm.stp5 ?|Sm.Oa ?|Sm.LR ? ? ?|Sm.aZ ? ? ?|Sm.bo|Sm.Ea hr.units|Sm.zb hr.units|Sm.D7|Sm.D9|Sm.D8|Sm.HN|Sm.JF|Sm.os_notN|Sm.HM hr.units|Sm.D6 hr.units|Sm.za|Sm.rK|Sm.zZ Sm.u9 ?|Sm.Dc ? ? ?|Sm.zX|Sm.zW ?|Sm.dY ? ?|Sm.jf rfl ?|Sm.bu ? ?|Sm.gH|Sm.sgn _ @|Sm.Fw Sm.wq B.AS Sm.wF ?|Sm.L5 Sm.yh B.AR Sm.yq ?|Sm.yO ?|Sm.qK ?|Sm.L3 ? ? ?|Sm.jP ?|Sm.kP Sm.iE PySem.F.plainAttrs_list PySem.F.slot_list_append PySem.F.type_list_append Sm.jU ? ?|Sm.LY Sm.iE PySem.F.plainAttrs_list PySem.F.slot_list_pop PySem.F.type_list_pop Sm.JX ?|Sm.lG.lv ?|Sm.lG.ob ?|Sm.Om ?|Sm.Ol ?|Sm.Oj ?|Sm.sfl3 ?|Sm.sfl4 ?|Sm.sfl5 ?|Sm.sfl6 ?|Sm.sfl7 ?|Sm.Oi ?|Sm.yN ? ?|Sm.Hz ? ?|Sm.zV ?|Sm.CN ?|Sm.cR PassesOwn.never rfl ? ? ?|Sm.iG ?|Sm.ss_brk|Sm.Fw Sm.EZ~rfl B.Ia Sm.Ff ?|Sm.Fw Sm.KL~rfl B.M9 Sm.K1 ?|Sm.L5 Sm.KN B.Na Sm.K2 ?|Sm.Fw Sm.KO B.Nb Sm.K3 ?|Sm.LX ? ? ?|Sm.SW.st ?".splitOn "|").drop 1).toArray.mapM (λl => do {let x <- (l.splitOn " ").toArray.mapM (λz => if z == "?" then `(?_) else if z == "_" then `(_) else if z == "@" then `(‹_›) else(let y := (z.splitOn "~").toArray.map (λw => (Lean.mkIdent w.toName : Lean.TSyntax `term));pure (Lean.Syntax.mkApp y[0]! (y.extract 1 y.size))));`(Lean.Parser.Tactic.tacticSeq| refine $(Lean.Syntax.mkApp x[0]! (x.extract 1 x.size)) <;> ac_rfl)});`(tactic| with_reducible first $[| $t]*)}
local macro_rules | `(tactic| walk_at "v") => `(tactic|(conv => arg 2;whnf))
local macro_rules | `(tactic| walk_at "u") => `(tactic|(walk_at "v";ac_rfl))
namespace Mi
open PySem L2 Sm PySem.Spec PyProof.Rows
local macro_rules | `(tactic| walk_at "b") => `(tactic| first | exactλF => F.binds λ_ _ _ _ _ _ => Hd.u1 (λ_ => rfl) | exactλF => F.binds λ_ _ _ _ _ _ => Hd.u2 (λ_ _ => rfl) | exactλF => F.binds λ_ _ _ _ _ _ => Hd.u3 (λ_ _ _ => rfl) | exactλF => F.binds λ_ _ _ _ _ _ => Hd.u4 (λ_ _ _ _ => rfl) | exactλF => F.binds λ_ _ _ _ _ _ => Hd.u5 (λ_ _ _ _ _ => rfl) | exactλF => F.binds λ_ _ _ _ _ _ => Hd.u6 (λ_ _ _ _ _ _ => rfl) | exactλF => F.binds λ_ _ _ _ _ _ => Hd.u7 (λ_ _ _ _ _ _ _ => rfl))
structure Bs(P:Program)(w:World)(K:FR)(mg:Str->Option Value):Prop where
 wJ:mg "ValueError"=none
 Nb:mg "abs"=none
 fA:mg "enumerate"=none
 Na:mg "int"=none
 dg:mg "isinstance"=none
 AS:mg "len"=none
 Fj:mg "list"=none
 Ia:mg "max"=none
 M9:mg "min"=none
 dD:mg "range"=none
 yr:mg "sorted"=none
 HZ:mg "str"=none
 AR:mg "tuple"=none
 kK:Pl mg "MOST_IN_LOT" (.int (12))
 yx:Tab P w K mg "SHAPES" eQ
 Lo:EX K mg gA pQ
 S_:∃CS,mg "StuckError"=some (.ref CS)/\∀c∈uL,XC K mg CS c
abbrev Rc(x:Str)(s:Stmt):Prop:=(recsOf view).find? (λe=>e.name==x)=some (Hd.mr x s)
abbrev lY:Stmt:=top 24
abbrev mH:List Str:=["_law_script"]
theorem tj:aA ["_law_script"] mH (aj lY):=by walk_at "s"
theorem rq:Rc "_law_drawn" lY:=by ac_nf
noncomputable def fY:Fn:=jT 1
  (a9 (ye (a3 (ki 0) (ye (Fq (a1 (jE v0 xD (xE (ki 63)))))) (ki 0))))
abbrev oJ:Stmt:=top 25
abbrev oW:List Str:=["_law_state"]
theorem iH:aA ["_law_state","_law_cells","_law_tour","_law_cell","_law_mixed"] oW (aj oJ):=by walk_at "s"
theorem tF:Rc "_law_load" oJ:=by ac_nf
noncomputable def jL:Fn:=jT 5
  (au (aR 1 (ao aP v0 (ki 1)))
  (au (aR 2 (ao aP v0 (ki 2)))
  (au (fD (ao az v2 (ki 1)) (pU v0 (ki 2)))
  (au (aR 3 (ki 0))
  (au (fU (aE (ao mU v1 (gB aM))) (aR 3 (ao aP v1 (ao so v2 (ay cz (a1 v1))))) cq)
  (fU (lM (aE (ao Cj v2 (ay cz (a1 v1)))) (aE (ao MW (ay Kz (a1 v3)) (ao G1 (ki 10) (ki 18))))) (fD (ay Kz (a1 v3)) (pU v0 (ki 0))) (au (aR 4 (ao so (ao ip (ao az (ao az (ao so v3 (ki 2305843009213693951)) (ao ip (ao ip (ki 7919) v2) v2)) (ki 11)) (ki 48271)) (ki 2305843009213693951)))
  (au (aR 4 (ao so (ao ip v4 v4) (ki 2305843009213693921)))
  (fD (ao az (ao so (ao az (ao az (ao ip v4 (ki 69621)) v2) (ki 104729)) (ki 2305843009213693951)) (ao G1 (ki 10) (ki 9))) (pU v0 (ki 0)))))))))))
abbrev oH:Stmt:=top 26
abbrev oU:List Str:=["_law_state","_law_many"]
theorem vo:aA ["_law_state","_law_many","_law_found"] oU (aj oH):=by walk_at "s"
theorem tD:Rc "_law_next" oH:=by ac_nf
noncomputable def aW:Fn:=jT 3
  (au (fU (aE (ao Cj (ao aP v0 (ki 0)) v1)) (gb (ay jL (a1 v0))) cq)
  (au (aR 2 (ao so (ao aP v0 (ki 0)) v1))
  (au (fD (ao EJ (ao aP v0 (ki 0)) v1) (pU v0 (ki 0)))
  (a9 v2))))
abbrev t8:Stmt:=top 27
abbrev um:List Str:=["_law_state","_law_some"]
theorem yU:aA ["_law_state","_law_some"] um (aj t8):=by walk_at "s"
theorem xo:Rc "_law_of" t8:=by ac_nf
noncomputable def aT:Fn:=jT 2
  (a9 (ao aP v1 (ay aW (a2 v0 (ay cz (a1 v1))))))
abbrev lU:Stmt:=top 28
abbrev mC:List Str:=["_law_state","_law_many"]
theorem ko:aA ["_law_state","_law_many","_law_letters","_law_stem","_law_k","_law_at","_law_first","_law_stride"] mC (aj lU):=by walk_at "s"
theorem rl:Rc "_law_words" lU:=by ac_nf
noncomputable def eI:Fn:=jT 8
  (au (aR 2 (ks "abcdefghijklmnopqrstuvwxyz"))
  (au (aR 3 (ks ""))
  (au (hU (pT (a1 (ay aT (a2 v0 (eK (.lv [.int 0,.int 1,.int 1,.int 2,.int 3,.int 6])))))) (gN 4) (aR 3 (ao az v3 (ao aP v2 (ay aW (a2 v0 (ki 26)))))))
  (au (aR 5 (ay aW (a2 v0 (ao az (ay cz (a1 v3)) (ki 1)))))
  (au (aR 6 (ay aW (a2 v0 (ki 26))))
  (au (aR 7 (ay aT (a2 v0 (eK (.lv [.int 1,.int 3,.int 5,.int 7,.int 9,.int 11])))))
  (a9 (gB (cm [none,some 5,some 6,some 2,some 3,some 7] (pT (a1 v1)) (gN 0) dQ (ao az (ao az (jE v4 xD (xE v1)) (ao aP v3 (ao so (ao az v2 (ao ip v5 v0)) (ki 26)))) (jE v4 (xE v1) xD)))))))))))
abbrev lT:Stmt:=top 29
abbrev mB:List Str:=["_law_state","_law_most","_law_odd"]
theorem cN:aA ["_law_state","_law_most","_law_odd","_law_names","_law_deeds","_law_params","_law_many","_law_floors"] mB (aj lT):=by walk_at "s"
theorem rj:Rc "_law_world" lT:=by ac_nf
noncomputable def iZ:Fn:=jT 8
  (au (aR 3 (ay eI (a2 v0 (ay aT (a2 v0 (eK (.lv [.int 1,.int 2,.int 2,.int 3,.int 4,.int 6])))))))
  (au (aR 4 (ay eI (a2 v0 (ay aT (a2 v0 (eK (.lv [.int 1,.int 1,.int 2,.int 2,.int 3,.int 4,.int 6])))))))
  (au (aR 5 (ay eI (a2 v0 (ki 3))))
  (au (aR 6 (gB (cm [none,some 0] (eN v4) (gN 0) dQ (ay aT (a2 v1 (eK (.lv [.int 0,.int 1,.int 1,.int 2,.int 2,.int 3])))))))
  (au (aR 7 (ay EG (a1 (gB (cm [none,some 3,some 0] (eN v4) (gN 0) dQ (ay aW (a2 v2 (ay cz (a1 v1)))))))))
  (au (aR 5 (gB (cm [none,some 5] (eN v6) (gN 0) dQ (jE v1 xD (xE v0)))))
  (a9 (zA (eP (ks "names") v3 (eP (ks "deeds") v4 (eP (ks "params") v5 (eP (ks "floors") v7 (eP (ks "left") v1 (eP (ks "odd") v2 GA))))))))))))))
abbrev kz:Stmt:=top 30
abbrev kC:List Str:=["_law_state","_law_world_here"]
theorem qR:aA ["_law_state","_law_world_here"] kC (aj kz):=by walk_at "s"
theorem pK:Rc "_law_is_odd" kz:=by ac_nf
noncomputable def dA:Fn:=jT 2
  (a9 (KG (ao wj (ao aP v1 (ks "odd")) (ki 0)) (ao cF (ay aW (a2 v0 (ao aP v1 (ks "odd")))) (ki 0))))
abbrev oF:Stmt:=top 31
abbrev oR:List Str:=["_law_state","_law_params"]
theorem vm:aA ["_law_state","_law_params","_law_far"] oR (aj oF):=by walk_at "s"
theorem tw:Rc "_law_term" oF:=by ac_nf
noncomputable def bX:Fn:=jT 3
  (au (aR 2 (ao sm (ay aW (a2 v0 (ki 81))) (ki 40)))
  (au (fU (lM (aE (ao wj (ay cz (a1 v1)) (ki 0))) (aE (ao wj (ay aW (a2 v0 (ki 5))) (ki 0)))) (a9 (ay aX (a2 (ay aT (a2 v0 v1)) (ay aT (a2 v0 (gB (ag (ki 0) (ag (ki 0) (ag (ki 0) (ag (ki 0) (ag (ki 1) (a4 (ki 1) (yd lK (ki 1)) (ki 2) v2)))))))))))) cq)
  (a9 (ay aX (a2 (ks "") (ay aT (a2 v0 (gB (ag (ki 0) (ag (ki 0) (ag (ki 1) (ag (ki 1) (a4 (ki 2) (ki 3) (yd lK (ki 1)) v2)))))))))))))
abbrev oM:Stmt:=top 33
abbrev oY:List Str:=["_law_state","_law_world_here","_law_deed","_law_top"]
theorem fT:aA ["_law_state","_law_world_here","_law_deed","_law_top","_law_some","_law_other","_law_terms"] oY (aj oM):=by walk_at "s"
theorem tH:Rc "_law_call" oM:=by ac_nf
noncomputable def gR:Fn:=jT 7
  (au (aR 4 (gB (cm [none,some 2,some 3,some 1] (pT (a1 (ay cz (a1 (ao aP v1 (ks "deeds")))))) (gN 0) (lM (aE (ao wj (ao aP (ao aP v3 (ks "floors")) v0) v2)) (aE (ao MW v0 v1))) v0)))
  (au (fU (qG (ay dA (a2 v0 v1))) (aR 4 (gB (K5 (a1 (ay cz (a1 (ao aP v1 (ks "deeds")))))))) cq)
  (au (fU (aE (ao cF v4 (gB aM))) (a9 (ay aX (a2 (ks "say") (ao aP (ao aP v1 (ks "deeds")) v2)))) cq)
  (au (aR 5 (ay aT (a2 v0 v4)))
  (au (aR 6 (gB (cm [none,some 2,some 0,some 1] (eN (ao aP (ao aP v1 (ks "params")) v5)) (gN 0) dQ (ay bX (a2 v2 (ao aP (ao aP v3 (ks "params")) v1))))))
  (a9 (ay aX (a3 (ks "call") (ao aP (ao aP v1 (ks "deeds")) v5) (ay fI (a1 v6))))))))))
abbrev oI:Stmt:=top 32
abbrev oV:List Str:=["_law_state","_law_world_here","_law_deed","_law_top","_law_held"]
theorem lR:aA ["_law_state","_law_world_here","_law_deed","_law_top","_law_held","_law_low","_law_at","_law_name","_law_same","_law_word","_law_more"] oV (aj oI):=by walk_at "s"
theorem tE:Rc "_law_lock" oI:=by ac_nf
noncomputable def fB:Fn:=jT 11
  (au (aR 5 (ay sr (a2 v3 (ao aP (ao aP v1 (ks "floors")) v2))))
  (au (fU (aE (ao cF v5 (ay cz (a1 (ao aP v1 (ks "names")))))) (a9 (ay aX (a2 (eK .cu) (eK .cu)))) cq)
  (au (aR 6 (ao az v5 (ay aW (a2 v0 (ao sm (ay cz (a1 (ao aP v1 (ks "names")))) v5)))))
  (au (fU (qG (ay dA (a2 v0 v1))) (aR 6 (ay aW (a2 v0 (ay cz (a1 (ao aP v1 (ks "names"))))))) cq)
  (au (aR 7 (ao aP (ao aP v1 (ks "names")) v6))
  (au (aR 8 (gB (cm [none,some 7] (eN v4) (gN 0) (aE (ao cF (ao aP v0 (ki 0)) v1)) (ao aP v0 (ki 1)))))
  (au (fU (lM (aE (ao mU v8 (gB aM))) (nF (qG (ay dA (a2 v0 v1))))) (au (fD (ao aP v8 (yd lK (ki 1))) (gT 2 (ar (gN 9) (ar (gN 10) bU))))
  (a9 (ay aX (a2 v6 (ay aX (a2 v7 (ay aX (a2 v9 (ay EH (a2 (ki 99) (ao az (ao az v10 (ki 1)) (ay aW (a2 v0 (ki 2)))))))))))))) cq)
  (a9 (ay aX (a2 v6 (ay aX (a2 v7 (ay bX (a2 v0 (ao aP (ao aP v1 (ks "params")) v2)))))))))))))))
abbrev qY:Stmt:=top 37
abbrev k7:List Str:=["_law_state","_law_world_here","_law_deed","_law_deep","_law_top","_law_held","_law_most"]
theorem xg:aA ["_law_state","_law_world_here","_law_deed","_law_deep","_law_top","_law_held","_law_most","_law_rows","_law_k"] k7 (aj qY):=by walk_at "s"
theorem mq:Rc "_law_lot" qY:=by ac_nf
abbrev qW:Stmt:=top 36
abbrev k6:List Str:=["_law_state","_law_world_here","_law_deed","_law_deep","_law_top","_law_held"]
theorem cS:aA ["_law_state","_law_world_here","_law_deed","_law_deep","_law_top","_law_held","_law_way","_law_one","_law_other","_law_lots","_law_sort_here"] k6 (aj qW):=by walk_at "s"
theorem mn:Rc "_law_row" qW:=by ac_nf
abbrev ku:Stmt:=top 35
abbrev gW:List Str:=["_law_state","_law_world_here","_law_deed","_law_deep","_law_top","_law_held","_law_way"]
theorem cT:aA ["_law_state","_law_world_here","_law_deed","_law_deep","_law_top","_law_held","_law_way","_law_at","_law_lock_here","_law_some","_law_high","_law_turn","_law_low","_law_other","_law_lot_here"] gW (aj ku):=by walk_at "s"
theorem i9:Rc "_law_locked" ku:=by ac_nf
abbrev i8:Stmt:=top 34
abbrev fG:List Str:=["_law_state","_law_world_here","_law_deed","_law_deep","_law_top","_law_held"]
theorem dc:aA ["_law_state","_law_world_here","_law_deed","_law_deep","_law_top","_law_held","_law_low","_law_name","_law_one","_law_other","_law_lots","_law_first","_law_second","_law_inner"] fG (aj i8):=by walk_at "s"
theorem gJ:Rc "_law_two_ways" i8:=by ac_nf
mutual
noncomputable def bF:Nat->Fn
 | 0=>λ_ _=>none
 | n+1=>Ek 9
  (au (aR 7 (ye aM))
  (au (hU (pT (a1 (ay aW (a2 v0 (ao az (ay aT (a2 v0 (ao az (ao zv (gB (a1 v6)) (ki 15)) (gB (a1 (ki 12)))))) (ki 1)))))) (gN 8) (fU (aE (ao wj (ao aP v1 (ks "left")) (ki 0))) (au (fD (ao sm (ao aP v1 (ks "left")) (ki 1)) (pU v1 (ks "left")))
  (gb (eM cV dC v7 (a1 (ay (gw n) (ag v0 (ag v1 (a4 v2 v3 v4 v5)))))))) cq))
  (a9 (ay fI (a1 v7)))))
noncomputable def gw:Nat->Fn
 | 0=>λ_ _=>none
 | n+1=>jT 11
  (au (aR 6 (ay aW (a2 v0 (ki 16))))
  (au (fU (FJ (aE (ao Cj v6 (ki 2))) (lM (aE (ao cF v3 (ki 5))) (aE (ao Cj v6 (ki 11))))) (a9 (ay aX (a2 (ks "say") (ay aT (a2 v0 (ao az (ao aP v1 (ks "names")) (ao aP v1 (ks "deeds")))))))) cq)
  (au (fU (FJ (aE (ao wj v6 (ki 12))) (aE (ao cF v3 (ki 5)))) (a9 (ay gR (a4 v0 v1 v2 v4))) cq)
  (au (fU (lM (aE (ao cF v6 (ki 12))) (lM (aE (ao Cj v3 (ki 3))) (aE (ao wj (ao aP v1 (ks "left")) (ki 5))))) (a9 (ay (cL n) (ag v0 (ag v1 (a4 v2 v3 v4 v5))))) cq)
  (au (fU (FJ (aE (ao cF v6 (ki 11))) (aE (ao cF v6 (ki 12)))) (au (vt 7 8 (a2 (ay bX (a2 v0 (ao aP (ao aP v1 (ks "params")) v2))) (ay bX (a2 v0 (ao aP (ao aP v1 (ks "params")) v2)))))
  (au (aR 9 (gB (cm [none,some 2,some 3,some 5,some 0,some 4,some 1] (pT (a1 (ki 3))) (gN 0) dQ (ay (bF n) (ag v4 (ag v6 (ag v1 (a4 (ao az v2 (ki 1)) v5 v3 (ki 2)))))))))
  (a9 (ao az (ay aX (a3 (ks "by") v7 v8)) (ay fI (a1 v9)))))) cq)
  (au (fU (aE (ao cF v6 (ki 10))) (au (aR 9 (gB (cm [none,some 2,some 3,some 5,some 0,some 4,some 1] (pT (a1 (ki 2))) (gN 0) dQ (ay (bF n) (ag v4 (ag v6 (ag v1 (a4 (ao az v2 (ki 1)) v5 v3 (ki 2)))))))))
  (a9 (ao az (ay aX (a1 (ks "either"))) (ay fI (a1 v9))))) cq)
  (au (fU (aE (ao cF v6 (ki 9))) (a9 (ay aX (a2 (ks "again") (ay (bF n) (ag v0 (ag v1 (ag v2 (a4 (ao az v3 (ki 1)) v4 v5 (ki 2))))))))) cq)
  (au (aR 10 (ay aT (a2 v0 (eK (.lv [.str "within",.str "within",.str "within",.str "within",.str "ask",.str "all"])))))
  (a9 (ay (dz n) (ag v0 (ag v1 (ag v2 (a4 v3 v4 v5 v10))))))))))))))
noncomputable def dz:Nat->Fn
 | 0=>λ_ _=>none
 | n+1=>Ek 15
  (au (fD (ay fB (ag v0 (a4 v1 v2 v4 v5))) (gT 2 (ar (gN 7) (ar (gN 8) bU))))
  (au (fU (aE (ao Ky v7 (eK .cu))) (a9 (ay aX (a2 (ks "say") (ao aP (ao aP v1 (ks "deeds")) v2)))) cq)
  (au (fU (aE (ao cF v6 (ks "all"))) (au (vt 9 10 (a2 (ye (a1 v8)) v7))
  (au (hU (pT (a1 (ay aT (a2 v0 (eK (.lv [.int 1,.int 1,.int 2,.int 3])))))) (gN 11) (au (fD (ay fB (ag v0 (a4 v1 v2 v4 v5))) (gT 2 (ar (gN 12) (ar (gN 13) bU))))
  (au (aR 10 (ay sr (a2 v10 NX)))
  (aR 9 (ye (Cb v9 (ao zv (gB (a1 NW)) (ay om (a1 (ao oh NW v9))))))))))
  (au (fU (aE (ao cF (ay cz (a1 v9)) (ki 1))) (gb (eM cV dC v9 (a1 (ay aX (a2 (ao aP v8 (ki 0)) (ay aX (a2 (ao aP (ao aP v8 (ki 1)) (ki 0)) (ao sm (ao az (ao aP (ao aP v8 (ki 1)) (ki 1)) (ki 1)) (ao ip (ki 2) (ay om (a1 (ao wj (ao aP (ao aP v8 (ki 1)) (ki 1)) (ki 90))))))))))))) cq)
  (au (aR 10 (ao az v10 (ay om (a1 (ao cF (ao aP v1 (ks "odd")) (ki 0))))))
  (a9 (ay aX (a3 (ks "all") (ay fI (a1 v9)) (ay (bF n) (ag v0 (ag v1 (ag v2 (a4 (ao az v3 (ki 1)) (ay sr (a2 v4 v10)) (ao az v5 v9) (ki 3))))))))))))) cq)
  (au (aR 14 (ay (bF n) (ag v0 (ag v1 (ag v2 (a4 (ao az v3 (ki 1)) (ay sr (a2 v4 v7)) (ao az v5 (gB (a1 v8))) (ki 3)))))))
  (au (fU (aE (ao cF v6 (ks "ask"))) (a9 (ay aX (a4 (ks "ask") v8 Pn (ay (bF n) (ag v0 (ag v1 (ag v2 (a4 (ao az v3 (ki 1)) v4 v5 (ki 2))))))))) cq)
  (a9 (ay aX (a3 (ks "within") v8 Pn))))))))
noncomputable def cL:Nat->Fn
 | 0=>λ_ _=>none
 | n+1=>Ek 14
  (au (aR 6 (ay sr (a2 v4 (ao aP (ao aP v1 (ks "floors")) v2))))
  (au (fU (aE (ao cF v6 (ay cz (a1 (ao aP v1 (ks "names")))))) (a9 (ay aX (a2 (ks "say") (ao aP (ao aP v1 (ks "deeds")) v2)))) cq)
  (au (fU (aE (ao mU (gB (cm [none,some 6,some 1] (eN v5) (gN 0) (aE (ao cF (ao aP v0 (ki 0)) (ao aP (ao aP v2 (ks "names")) v1))) v0)) (gB aM))) (a9 (ay aX (a2 (ks "say") (ao aP (ao aP v1 (ks "deeds")) v2)))) cq)
  (au (aR 7 (ao aP (ao aP v1 (ks "names")) v6))
  (au (fD (ao sm (ao aP v1 (ks "left")) (ki 5)) (pU v1 (ks "left")))
  (au (vt 8 9 (a2 (ay bX (a2 v0 (ao aP (ao aP v1 (ks "params")) v2))) (ay bX (a2 v0 (ao aP (ao aP v1 (ks "params")) v2)))))
  (au (aR 10 (ye aM))
  (au (hU (eN (gB (a2 (ay aX (a2 v8 v9)) (ay aX (a2 v9 v8))))) (gT 2 (ar (gN 11) (ar (gN 12) bU))) (au (aR 13 (ay (bF n) (ag v0 (ag v1 (ag v2 (a4 (ao az v3 (ki 3)) v6 (ao az v5 (gB (a2 (ay aX (a2 v7 v11)) (ay aX (a2 v7 NX))))) (ki 2)))))))
  (gb (eM cV dC v10 (a1 (ay aX (a1 (ay aX (a3 (ks "within") (ay aX (a2 v7 v11)) (ay aX (a1 (ay aX (a3 (ks "within") (ay aX (a2 v7 NX)) NW)))))))))))))
  (a9 (ay aX (ag (ks "by") (ag v8 (a4 v9 (ao aP v10 (ki 0)) (ay aX (a1 (ay aX (a3 (ks "within") (ay aX (a2 v7 v8)) (ay aX aM))))) (ao aP v10 (ki 1)))))))))))))))
end
abbrev jm:Stmt:=top 38
abbrev ju:List Str:=["_law_state","_law_most","_law_odd"]
theorem i6:aA ["_law_state","_law_most","_law_odd","_law_world_here","_law_deeds","_law_k","_law_deed","_law_rows"] ju (aj jm):=by walk_at "s"
theorem nP:Rc "_law_program" jm:=by ac_nf
noncomputable def gx:Fn:=Ek 8
  (au (aR 3 (ay iZ (a3 v0 v1 v2)))
  (au (aR 4 (ye aM))
  (au (hU (sf (a1 (ao aP v3 (ks "deeds")))) (gT 2 (ar (gN 5) (ar (gN 6) bU))) (au (aR 7 (ay (bF 20) (ag v0 (ag v3 (ag v5 (a4 (ki 1) (yd lK (ki 1)) (gB aM) (ay aT (a2 v0 (eK (.lv [.int 1,.int 2,.int 3,.int 4,.int 12]))))))))))
  (gb (eM cV dC v4 (a1 (ay aX (a3 v6 (ay fI (a1 (ao aP (ao aP v3 (ks "params")) v5))) v7)))))))
  (a9 (ay aX (a2 (ay fI (a1 (ay EF (a1 (ao aP v3 (ks "names")))))) (ay fI (a1 v4))))))))
abbrev qZ:Stmt:=top 39
abbrev rJ:List Str:=["_law_state"]
theorem xh:aA ["_law_state"] rJ (aj qZ):=by walk_at "s"
theorem vB:Rc "_law_any" qZ:=by ac_nf
noncomputable def lF:Fn:=jT 1
  (a9 (ay gx (a3 v0 (ay aT (a2 v0 (eK (.lv [.int 4,.int 8,.int 12,.int 20,.int 40,.int 60])))) (ay aT (a2 v0 (eK (.lv [.int 0,.int 2,.int 5,.int 9])))))))
abbrev g8:Stmt:=top 40
abbrev ia:List Str:=["_law_term_here"]
theorem lP:aA ["_law_term_here","_law_word","_law_more"] ia (aj g8):=by walk_at "s"
theorem kT:Rc "_law_term_text" g8:=by ac_nf
noncomputable def bt:Fn:=jT 3
  (au (fD v0 (gT 2 (ar (gN 1) (ar (gN 2) bU))))
  (au (fU (FJ (aE (ao cF v1 (ks ""))) (aE (ao cF v2 (ki 0)))) (a9 (KD v1 (ay x8 (a1 v2)))) cq)
  (a9 (ao az (ao az v1 (ao ip (ks "+") (ay om (a1 (ao wj v2 (ki 0)))))) (ay x8 (a1 v2))))))
abbrev hG:Stmt:=top 41
abbrev ib:List Str:=["_law_lock_here"]
theorem lQ:aA ["_law_lock_here"] ib (aj hG):=by walk_at "s"
theorem kU:Rc "_law_lock_text" hG:=by ac_nf
noncomputable def b8:Fn:=jT 1
  (a9 (ao az (ao az (ao aP v0 (ki 0)) (ks ":")) (ay bt (a1 (ao aP v0 (ki 1))))))
abbrev oK:Stmt:=top 42
abbrev oX:List Str:=["_law_row_here"]
theorem vp:aA ["_law_row_here"] oX (aj oK):=by walk_at "s"
theorem tG:Rc "_law_head" oK:=by ac_nf
noncomputable def jM:Fn:=jT 1
  (au (fU (aE (ao cF (ao aP v0 (ki 0)) (ks "say"))) (a9 (ao az (ks "say ") (ao aP v0 (ki 1)))) cq)
  (au (fU (aE (ao cF (ao aP v0 (ki 0)) (ks "call"))) (a9 (eM isStr pe (ks " ") (a1 (ao az (gB (a2 (ks "call") (ao aP v0 (ki 1)))) (gB (cm [none] (eN (ao aP v0 (ki 2))) (gN 0) dQ (ay bt (a1 v0)))))))) cq)
  (au (fU (aE (ao cF (ao aP v0 (ki 0)) (ks "all"))) (a9 (eM isStr pe (ks " ") (a1 (ao az (gB (a1 (ks "all"))) (gB (cm [none] (eN (ao aP v0 (ki 1))) (gN 0) dQ (ay b8 (a1 v0)))))))) cq)
  (au (fU (aE (ao MV (ao aP v0 (ki 0)) (ay aX (a2 (ks "within") (ks "ask"))))) (a9 (ao az (ao az (ao aP v0 (ki 0)) (ks " ")) (ay b8 (a1 (ao aP v0 (ki 1)))))) cq)
  (au (fU (aE (ao cF (ao aP v0 (ki 0)) (ks "by"))) (a9 (ao az (ao az (ao az (ks "by ") (ay bt (a1 (ao aP v0 (ki 1))))) (ks " ")) (ay bt (a1 (ao aP v0 (ki 2)))))) cq)
  (a9 (ao aP v0 (ki 0))))))))
abbrev g9:Stmt:=top 43
abbrev eT:List Str:=["_law_lot_here","_law_first"]
theorem bw:aA ["_law_lot_here","_law_first","_law_found","_law_number","_law_row_here","_law_mine","_law_first_lot","_law_lots","_law_place","_law_inner","_law_lines_here"] eT (aj g9):=by walk_at "s"
theorem gc:Rc "_law_lot_lines" g9:=by ac_nf
noncomputable def b7:Nat->Fn
 | 0=>λ_ _=>none
 | n+1=>jT 11
  (au (vt 2 3 (a2 (ye aM) v1))
  (au (hU (eN v0) (gN 4) (au (aR 5 v3)
  (au (gb (eM cV dC v2 (a1 (ay aX (a2 v5 (ay jM (a1 v4)))))))
  (au (aR 3 (ao az v3 (ki 1)))
  (au (aR 6 (eM Ey JZ (HW (eP (ks "say") (ki 2) (eP (ks "call") (ki 3) (eP (ks "by") (ki 3) (eP (ks "either") (ki 1) (eP (ks "again") (ki 1) GA)))))) (a2 (ao aP v4 (ki 0)) (ki 2))))
  (au (aR 7 (jE v4 (xE v6) xD))
  (au (hU (sf (a1 v7)) (gT 2 (ar (gN 8) (ar (gN 9) bU))) (au (aR 2 (ye (Cb v2 (ao zv (gB (a1 (ay aX (a2 v5 (ks "or"))))) (ay om (a1 (ao wj v8 (ki 0))))))))
  (au (fD (ay (b7 n) (a2 v9 v3)) (gT 2 (ar (gN 10) (ar (gN 3) bU))))
  (aR 2 (ye (Cb v2 v10))))))
  (aR 2 (ye (Cb v2 (ao zv (gB (a1 (ay aX (a2 v5 (ks "end"))))) (ay om (a1 (ao wj (ay cz (a1 v7)) (ki 0)))))))))))))))
  (a9 (ay aX (a2 v2 v3)))))
abbrev lX:Stmt:=top 44
abbrev mG:List Str:=["_law_program_here"]
theorem fg:aA ["_law_program_here","_law_found","_law_number","_law_deed","_law_params","_law_rows","_law_lines_here"] mG (aj lX):=by walk_at "s"
theorem rp:Rc "_law_lines" lX:=by ac_nf
noncomputable def fX:Fn:=Ek 7
  (au (vt 1 2 (a2 (gB (a1 (ay aX (a2 (yd lK (ki 1)) (eM isStr pe (ks " ") (a1 (ao az (ay aX (a1 (ks "locks"))) (ao aP v0 (ki 0))))))))) (ki 0)))
  (au (hU (eN (ao aP v0 (ki 1))) (gT 3 (ar (gN 3) (ar (gN 4) (ar (gN 5) bU)))) (au (fD (ay (b7 8) (a2 v5 v2)) (gT 2 (ar (gN 6) (ar (gN 2) bU))))
  (aR 1 (ao az (ao az (ao az v1 (gB (a1 (ay aX (a2 (yd lK (ki 1)) (eM isStr pe (ks " ") (a1 (ao az (ay aX (a2 (ks "deed") v3)) v4)))))))) v6) (gB (a1 (ay aX (a2 (yd lK (ki 1)) (ks "end")))))))))
  (a9 v1)))
abbrev jn:Stmt:=top 46
abbrev jv:List Str:=["_law_texts_here"]
theorem dB:aA ["_law_texts_here","_law_counts","_law_most","_law_deep","_law_rows","_law_text","_law_word"] jv (aj jn):=by walk_at "s"
theorem nQ:Rc "_law_measure" jn:=by ac_nf
noncomputable def cc:Fn:=Ek 7
  (au (fD (ay aX (a4 (ye aM) (ki 0) (ki 0) (ki 0))) (gT 4 (ar (gN 1) (ar (gN 2) (ar (gN 3) (ar (gN 4) bU))))))
  (au (hU (eN (jE v0 (xE (ki 1)) xD)) (gN 5) (au (aR 6 (ao aP (eM isStr nZ v5 (a1 (ks " "))) (ki 0)))
  (fU (aE (ao cF v5 (ks "or"))) (fD (ki 0) (pU v1 (yd lK (ki 1)))) (fU (aE (ao cF v5 (ks "end"))) (gb (eM cV El v1 aM)) (au (fU (aE (ao mU v1 (gB aM))) (au (fD (ao az (ao aP v1 (yd lK (ki 1))) (ki 1)) (pU v1 (yd lK (ki 1))))
  (vt 4 2 (a2 (ao az v4 (ki 1)) (ay sr (a2 v2 (ao aP v1 (yd lK (ki 1)))))))) cq)
  (fU (aE (ao oh v6 (ay aX (a2 (ks "say") (ks "call"))))) (au (gb (eM cV dC v1 (a1 (ki 0))))
  (aR 3 (ay sr (a2 v3 (ay cz (a1 v1)))))) cq))))))
  (a9 (ay aX (a3 v2 v3 v4)))))
abbrev lV:Stmt:=top 45
abbrev mE:List Str:=["_law_lines_here"]
theorem td:aA ["_law_lines_here"] mE (aj lV):=by walk_at "s"
theorem rm:Rc "_law_texts" lV:=by ac_nf
noncomputable def eJ:Fn:=jT 1
  (a9 (gB (cm [none,none] (eN v0) (gT 2 (ar (gN 0) (ar (gN 1) bU))) dQ v1)))
abbrev qX:Stmt:=top 47
abbrev rH:List Str:=["_law_lines_here","_law_number"]
theorem jj:aA ["_law_lines_here","_law_number","_law_found","_law_kept","_law_mine","_law_text"] rH (aj qX):=by walk_at "s"
theorem vA:Rc "_law_out" qX:=by ac_nf
noncomputable def lE:Fn:=Ek 6
  (au (vt 2 3 (a2 (ye aM) (eK (.bl true))))
  (au (hU (eN v0) (gT 2 (ar (gN 4) (ar (gN 5) bU))) (fU (lM (aE (ao cF v4 v1)) (aE (ao cF v5 (ks "or")))) (aR 3 (eK (.bl false))) (fU (aE (ao cF v4 v1)) (aR 3 (eK (.bl true))) (fU (qG v3) (gb (eM cV dC v2 (a1 (ay aX (a2 v4 v5))))) cq))))
  (a9 v2)))
abbrev t7:Stmt:=top 10
abbrev uh:List Str:=["row"]
theorem yT:aA ["row"] uh (aj t7):=by walk_at "s"
theorem xn:Rc "lots_of" t7:=by ac_nf
noncomputable def dP:Fn:=jT 1
  (a9 (jE v0 (xE (ao aP (yd (G0 eQ) (ao aP v0 (ki 0))) (ki 0))) xD))
abbrev qT:Stmt:=top 12
abbrev kY:List Str:=["lot","ahead"]
theorem xc:aA ["lot","ahead","found","number","row","path","at","inner"] kY (aj qT):=by walk_at "s"
theorem mj:Rc "paths_in" qT:=by ac_nf
noncomputable def dG:Nat->Fn
 | 0=>λ_ _=>none
 | n+1=>Ek 8
  (au (aR 2 (ye aM))
  (au (hU (sf (a1 v0)) (gT 2 (ar (gN 3) (ar (gN 4) bU))) (au (aR 5 (ao az v1 (ay aX (a1 v3))))
  (au (gb (eM cV dC v2 (a1 (ay aX (a2 v5 v4)))))
  (hU (sf (a1 (ay dP (a1 v4)))) (gT 2 (ar (gN 6) (ar (gN 7) bU))) (gb (eM cV jV v2 (a1 (ay (dG n) (a2 v7 (ao az v5 (ay aX (a1 v6))))))))))))
  (a9 v2)))
abbrev oE:Stmt:=top 13
abbrev oQ:List Str:=["program"]
theorem vj:aA ["program","found","deed","name","params","rows"] oQ (aj oE):=by walk_at "s"
theorem tu:Rc "places_of" oE:=by ac_nf
noncomputable def dO:Fn:=Ek 6
  (au (aR 1 (ye aM))
  (au (hU (sf (a1 (ao aP v0 (ki 1)))) (gT 2 (ar (gN 2) (ar (gT 3 (ar (gN 3) (ar (gN 4) (ar (gN 5) bU)))) bU))) (gb (eM cV jV v1 (a1 (gB (cm [none,none,some 2] (eN (ay (dG 8) (a2 v5 (ay aX aM)))) (gT 2 (ar (gN 0) (ar (gN 1) bU))) dQ (ay aX (a3 v2 v0 v1))))))))
  (a9 v1)))
abbrev qS:Stmt:=top 18
abbrev kX:List Str:=["program","number"]
theorem jh:aA ["program","number","places"] kX (aj qS):=by walk_at "s"
theorem mh:Rc "place_of" qS:=by ac_nf
noncomputable def fe:Fn:=jT 3
  (au (aR 2 (ay dO (a1 v0)))
  (au (fU (nF (aE (jF Li Cj (ki 0) v1 (ay cz (a1 v2))))) vv cq)
  (a9 (ao aP v2 v1))))
abbrev qV:Stmt:=top 11
abbrev rE:List Str:=["row"]
theorem xf:aA ["row"] rE (aj qV):=by walk_at "s"
theorem vz:Rc "locks_of" qV:=by ac_nf
noncomputable def dI:Fn:=jT 1
  (au (fU (aE (ao cF (ao aP v0 (ki 0)) (ks "all"))) (a9 (ao aP v0 (ki 1))) cq)
  (a9 (OY (aE (ao MV (ao aP v0 (ki 0)) (ay aX (a2 (ks "within") (ks "ask"))))) (ay aX (a1 (ao aP v0 (ki 1)))) (ay aX aM))))
abbrev i7:Stmt:=top 19
abbrev fF:List Str:=["program","number"]
theorem br:aA ["program","number","deed","path","row"] fF (aj i7):=by walk_at "s"
theorem gI:Rc "locking_place" i7:=by ac_nf
noncomputable def dE:Fn:=jT 5
  (au (fD (ay fe (a2 v0 v1)) (gT 3 (ar (gN 2) (ar (gN 3) (ar (gN 4) bU)))))
  (au (fU (nF (qG (ay dI (a1 v4)))) vv cq)
  (a9 (ay aX (a3 v2 v3 v4)))))
abbrev xi:Stmt:=top 16
abbrev xC:List Str:=["rows","path"]
theorem Bn:aA ["rows","path","lot","at"] xC (aj xi):=by walk_at "s"
theorem yZ:Rc "lot_on" xi:=by ac_nf
noncomputable def iB:Fn:=jT 4
  (au (aR 2 v0)
  (au (hU (GU (a3 (ki 1) (ay cz (a1 v1)) (ki 2))) (gN 3) (aR 2 (ao aP (ay dP (a1 (ao aP v2 (ao aP v1 (ao sm v3 (ki 1)))))) (ao aP v1 v3))))
  (a9 v2)))
abbrev t6:Stmt:=top 15
abbrev ug:List Str:=["program","deed"]
theorem yS:aA ["program","deed"] ug (aj t6):=by walk_at "s"
theorem xm:Rc "rows_in" t6:=by ac_nf
noncomputable def fZ:Fn:=jT 2
  (a9 (ao aP (ao aP (ao aP v0 (ki 1)) v1) (ki 2)))
abbrev qU:Stmt:=top 20
abbrev kZ:List Str:=["lot","path","some"]
theorem ji:aA ["lot","path","some","at","row","place"] kZ (aj qU):=by walk_at "s"
theorem mm:Rc "lot_with" qU:=by ac_nf
noncomputable def dH:Nat->Fn
 | 0=>λ_ _=>none
 | n+1=>jT 6
  (au (aR 3 (ao aP v1 (ki 0)))
  (au (fU (aE (ao wj (ay cz (a1 v1)) (ki 1))) (au (aR 4 (ao aP v0 v3))
  (au (aR 5 (ao az (ao aP (yd (G0 eQ) (ao aP v4 (ki 0))) (ki 0)) (ao aP v1 (ki 1))))
  (aR 2 (ay aX (a1 (ao az (ao az (jE v4 xD (xE v5)) (ay aX (a1 (ay (dH n) (a3 (ao aP v4 v5) (jE v1 (xE (ki 2)) xD) v2))))) (jE v4 (xE (ao az v5 (ki 1))) xD))))))) cq)
  (a9 (ao az (ao az (jE v0 xD (xE v3)) v2) (jE v0 (xE (ao az v3 (ki 1))) xD)))))
abbrev jl:Stmt:=top 21
abbrev jt:List Str:=["program","deed","path","some"]
theorem pJ:aA ["program","deed","path","some","names","deeds","name","params","rows"] jt (aj jl):=by walk_at "s"
theorem nN:Rc "program_with" jl:=by ac_nf
noncomputable def gv:Fn:=jT 9
  (au (fD v0 (gT 2 (ar (gN 4) (ar (gN 5) bU))))
  (au (fD (ao aP v5 v1) (gT 3 (ar (gN 6) (ar (gN 7) (ar (gN 8) bU)))))
  (a9 (ay aX (a2 v4 (ao az (ao az (jE v5 xD (xE v1)) (ay aX (a1 (ay aX (a3 v6 v7 (ay (dH 6) (a3 v8 v2 v3))))))) (jE v5 (xE (ao az v1 (ki 1))) xD)))))))
abbrev jk:Stmt:=top 22
abbrev gh:List Str:=["program","number"]
theorem bj:aA ["program","number","deed","path","row","some"] gh (aj jk):=by walk_at "s"
theorem hV:Rc "without_lock" jk:=by ac_nf
noncomputable def cY:Fn:=jT 6
  (au (fD (ay dE (a2 v0 v1)) (gT 3 (ar (gN 2) (ar (gN 3) (ar (gN 4) bU)))))
  (au (aR 5 (ao aP (ay dP (a1 v4)) (ki 0)))
  (au (fU (aE (ao wj (ao az (ao sm (ay cz (a1 (ay iB (a2 (ay fZ (a2 v0 v2)) v3)))) (ki 1)) (ay cz (a1 v5))) (ki 12))) vv cq)
  (a9 (ay gv (a4 v0 v2 v3 v5))))))
abbrev oG:Stmt:=top 48
abbrev oS:List Str:=["_law_lines_here","_law_number"]
theorem vn:aA ["_law_lines_here","_law_number"] oS (aj oG):=by walk_at "s"
theorem tx:Rc "_law_sort" oG:=by ac_nf
noncomputable def jK:Fn:=jT 2
  (a9 (ao aP (eM isStr nZ (ao aP (gB (cm [none,none,some 1] (eN v0) (gT 2 (ar (gN 0) (ar (gN 1) bU))) (aE (ao cF v0 v2)) v1)) (ki 0)) (a1 (ks " "))) (ki 0)))
abbrev lW:Stmt:=top 50
abbrev mF:List Str:=["_law_program_here","_law_lines_here","_law_number"]
theorem kr:aA ["_law_program_here","_law_lines_here","_law_number","_law_due","_law_turn"] mF (aj lW):=by walk_at "s"
theorem jq:Rc "_law_right" lW:=by ac_nf
abbrev lS:Stmt:=top 51
abbrev HL:List Str:=["_law_script"]
theorem IU:aA ["_law_script","_law_state","_law_turn","_law_program_here","_law_lines_here","_law_number"] HL (aj lS):=by walk_at "s"
theorem F9:Rc "law" lS:=by ac_nf
abbrev cx:Stmt:=top 49
abbrev rG:List Str:=["_law_call_here"]
theorem fC:aA ["_law_call_here","_law_caught","e","_law_marks"] rG (aj cx):=by walk_at "s"
theorem nO:Rc "_law_refused" cx:=by ac_nf
noncomputable def wL:SM:=
 (au (fU (FJ (aE (ao Ky (ax 1) (eK .cu))) (nF (qG (ot gA "ValueError" (ax 1))))) (a9 (eK (.str ""))) cq)
  (au (aR 3 (gB (ag (ot gA "NoRow" (ax 1)) (ag (ot gA "NoLock" (ax 1)) (ag (ot gA "NoText" (ax 1)) aM)))))
  (au (aR 3 (ao az (ax 3) (gB (ag (ot gA "NoLine" (ax 1)) (ag (ot gA "NoStep" (ax 1)) aM)))))
  (au (fU (aE (ao mU (eM cV Ap (ax 3) (ag (eK (.bl true)) aM)) (eK (.int 1)))) (a9 (eK (.str "two"))) cq)
  (a9 (ao aP (eK (.lv [.str "NoRow",.str "NoLock",.str "NoText",.str "NoLine",.str "NoStep"])) (eM cV Ao (ax 3) (ag (eK (.bl true)) aM))))))))
noncomputable def eZ:Xn:=JV 3
  (wR (aR 2 (ay dO (ag (ax 0) aM)))
  (Io (nF (aE (jF Li Cj (eK (.int 0)) (ax 1) (ay cz (ag (ax 2) aM))))) (nA "NoRow" (ag (eK (.str "there is no row of this number")) aM)) NG))
noncomputable def cJ:Xn:=JV 5
  (Im (Ht eZ (ag (ax 0) (ag (ax 1) aM))) (wR (fD (ay fe (ag (ax 0) (ag (ax 1) aM))) (gT 3 (ar (gN 2) (ar (gN 3) (ar (gN 4) bU)))))
  (Io (nF (qG (ay dI (ag (ax 4) aM)))) (nA "NoRow" (ag (eK (.str "the row of this number has no lock")) aM)) NG)))
noncomputable def cX:Xn:=JV 6
  (Im (Ht cJ (ag (ax 0) (ag (ax 1) aM))) (wR (fD (ay dE (ag (ax 0) (ag (ax 1) aM))) (gT 3 (ar (gN 2) (ar (gN 3) (ar (gN 4) bU)))))
  (wR (aR 5 (ao aP (ay dP (ag (ax 4) aM)) (eK (.int 0))))
  (Io (aE (ao wj (ao az (ao sm (ay cz (ag (ay iB (ag (ay fZ (ag (ax 0) (ag (ax 2) aM))) (ag (ax 3) aM))) aM)) (eK (.int 1))) (ay cz (ag (ax 5) aM))) (eK (.int 12)))) (nA "NoRow" (ag (eK (.str "the lot would have too many rows")) aM)) NG))))
noncomputable def i0:Fn:=jT 5
  (au (aR 3 (ay eJ (a1 (ay lE (a2 v1 v2)))))
  (au (fU (aE (ao wj (ao aP (ay cc (a1 v3)) (ki 0)) (ki 12))) (a9 (ao cF (gn uL [some 2,some 0] wL (Ht cX (a2 v1 v0)) (ay cY (a2 v1 v0))) (ks "NoRow"))) cq)
  (au (hU (pT (a1 (ki 2))) (gN 4) (fU (aE (ao mU (ay eJ (a1 (ay fX (a1 (ay cY (a2 v0 v2)))))) v3)) (a9 (eK (.bl false))) cq))
  (a9 (eK (.bl true))))))
noncomputable def yz:Fn:=jT 6
  (au (aR 1 (ay fY (a1 v0)))
  (au (hU (pT (a1 (ki 2))) (gN 2) (au (aR 3 (ay lF (a1 v1)))
  (au (aR 4 (ay fX (a1 v3)))
  (hU (pT (a1 (ao aP (ay cc (a1 (ay eJ (a1 v4)))) (ki 2)))) (gN 5) (fU (lM (aE (ao MV (ay jK (a2 v4 v5)) (eK (.tup [.str "within",.str "all",.str "ask"])))) (nF (qG (ay i0 (a3 v3 v4 v5))))) (a9 (eK (.bl false))) cq)))))
  (a9 (eK (.bl true)))))
structure Cc where
 l:PySem.W.OpenLaw
 w:World
 h:Heap
 mg:Str->Option Value
 base:Heap
section
variable (c:Cc)
abbrev nr:Prop:=Df c.l.prog c.w (Hd.aB c.h) c.mg c.base "_law_drawn" 1 mH 1 fY
abbrev pD:Prop:=Df c.l.prog c.w (Hd.aB c.h) c.mg c.base "_law_load" 1 oW 1 jL
abbrev cC:Prop:=Df c.l.prog c.w (Hd.aB c.h) c.mg c.base "_law_next" 2 oU 2 aW
abbrev dM:Prop:=Df c.l.prog c.w (Hd.aB c.h) c.mg c.base "_law_of" 3 um 2 aT
abbrev nj:Prop:=Df c.l.prog c.w (Hd.aB c.h) c.mg c.base "_law_words" 4 mC 2 eI
abbrev ni:Prop:=Df c.l.prog c.w (Hd.aB c.h) c.mg c.base "_law_world" 5 mB 3 iZ
abbrev gY:Prop:=Df c.l.prog c.w (Hd.aB c.h) c.mg c.base "_law_is_odd" 3 kC 2 dA
abbrev gQ:Prop:=Df c.l.prog c.w (Hd.aB c.h) c.mg c.base "_law_term" 4 oR 2 bX
abbrev pF:Prop:=Df c.l.prog c.w (Hd.aB c.h) c.mg c.base "_law_call" 5 oY 4 gR
abbrev pC:Prop:=Df c.l.prog c.w (Hd.aB c.h) c.mg c.base "_law_lock" 5 oV 5 fB
abbrev zP:Prop:=Df c.l.prog c.w (Hd.aB c.h) c.mg c.base "_law_lot" 26 k7 7 (bF 20)
abbrev K8:Prop:=Df c.l.prog c.w (Hd.aB c.h) c.mg c.base "_law_row" 26 k6 6 (gw 20)
abbrev FC:Prop:=Df c.l.prog c.w (Hd.aB c.h) c.mg c.base "_law_locked" 26 gW 7 (dz 20)
abbrev Ck:Prop:=Df c.l.prog c.w (Hd.aB c.h) c.mg c.base "_law_two_ways" 26 fG 6 (cL 20)
abbrev jJ:Prop:=Df c.l.prog c.w (Hd.aB c.h) c.mg c.base "_law_program" 27 ju 3 gx
abbrev sS:Prop:=Df c.l.prog c.w (Hd.aB c.h) c.mg c.base "_law_any" 28 rJ 1 lF
abbrev fc:Prop:=Df c.l.prog c.w (Hd.aB c.h) c.mg c.base "_law_term_text" 1 ia 1 bt
abbrev iz:Prop:=Df c.l.prog c.w (Hd.aB c.h) c.mg c.base "_law_lock_text" 2 ib 1 b8
abbrev pE:Prop:=Df c.l.prog c.w (Hd.aB c.h) c.mg c.base "_law_head" 3 oX 1 jM
abbrev oy:Prop:=Df c.l.prog c.w (Hd.aB c.h) c.mg c.base "_law_lot_lines" 12 eT 2 (b7 8)
abbrev iY:Prop:=Df c.l.prog c.w (Hd.aB c.h) c.mg c.base "_law_lines" 13 mG 1 fX
abbrev gu:Prop:=Df c.l.prog c.w (Hd.aB c.h) c.mg c.base "_law_measure" 1 jv 1 cc
abbrev iX:Prop:=Df c.l.prog c.w (Hd.aB c.h) c.mg c.base "_law_texts" 1 mE 1 eJ
abbrev sR:Prop:=Df c.l.prog c.w (Hd.aB c.h) c.mg c.base "_law_out" 1 rH 2 lE
abbrev iy:Prop:=Df c.l.prog c.w (Hd.aB c.h) c.mg c.base "lots_of" 1 uh 1 dP
abbrev zN:Prop:=Df c.l.prog c.w (Hd.aB c.h) c.mg c.base "paths_in" 10 kY 2 (dG 8)
abbrev jI:Prop:=Df c.l.prog c.w (Hd.aB c.h) c.mg c.base "places_of" 11 oQ 1 dO
abbrev lC:Prop:=Df c.l.prog c.w (Hd.aB c.h) c.mg c.base "place_of" 12 kX 2 fe
abbrev lD:Prop:=Df c.l.prog c.w (Hd.aB c.h) c.mg c.base "locks_of" 1 rE 1 dI
abbrev fM:Prop:=Df c.l.prog c.w (Hd.aB c.h) c.mg c.base "locking_place" 13 fF 2 dE
abbrev sQ:Prop:=Df c.l.prog c.w (Hd.aB c.h) c.mg c.base "lot_on" 2 xC 2 iB
abbrev ox:Prop:=Df c.l.prog c.w (Hd.aB c.h) c.mg c.base "rows_in" 1 ug 2 fZ
abbrev zO:Prop:=Df c.l.prog c.w (Hd.aB c.h) c.mg c.base "lot_with" 7 kZ 3 (dH 6)
abbrev jH:Prop:=Df c.l.prog c.w (Hd.aB c.h) c.mg c.base "program_with" 8 jt 4 gv
abbrev jG:Prop:=Df c.l.prog c.w (Hd.aB c.h) c.mg c.base "without_lock" 14 gh 2 cY
abbrev pB:Prop:=Df c.l.prog c.w (Hd.aB c.h) c.mg c.base "_law_sort" 1 oS 2 jK
abbrev nq:Prop:=Df c.l.prog c.w (Hd.aB c.h) c.mg c.base "_law_right" 17 mF 3 i0
abbrev PH:Prop:=Pz c.l.prog c.w (Hd.aB c.h) c.mg c.base "_law_refused" wL uL
abbrev pG:Prop:=Hd.Dx c.l.prog c.w (Hd.aB c.h) c.mg c.base "place_of" 12 kX 2 eZ
abbrev iA:Prop:=Hd.Dx c.l.prog c.w (Hd.aB c.h) c.mg c.base "locking_place" 13 fF 2 cJ
abbrev ja:Prop:=Hd.Dx c.l.prog c.w (Hd.aB c.h) c.mg c.base "without_lock" 14 gh 2 cX
structure Xr:Prop where
 wM:∃C,Fs c.mg c.base "NoRow" C
end
section
variable {c:Cc} {mb:Str->Option Value} {mean:ExcName->Option Value} (T:Top view (PySem.W.looseW view (["SHAPES"]:List Str)) mean c.mg mb c.h) (B:Bs c.l.prog c.w (Hd.aB c.h) c.mg)
include T B
theorem tR:nr c:=Hd.bh T rq λF _ _ _=>
 (aI F tj λ_ _ _ _ _ _ hr _=>by walk_at "v";with_reducible exact(aG (bV (lG.ob (eh (aa aJ (aa (lG.ob (FX (by unfold Gl;ac_nf) B.Fj AL (by ac_rfl) (ah aC))) (by ac_rfl))) (ah (ah (ah aC))))))))
theorem vR:pD c:=Hd.bh T tF λF _ _ _=>
 (aI F iH λ_ _ _ _ _ _ hr _=>by walk_at "v";with_reducible exact(ae (by ac_rfl)
   (ae (by ac_rfl)
   (ae (dY (by ac_rfl) (jg hr.units (sv 0) aJ))
   (ae (by ac_rfl)
   (ae (by ac_rfl)
   (aG (cg (SW.st (yN (by ac_rfl) (zV (kN HN (by ac_rfl) (aZ D5 aJ aJ) (jy _))))) (aG (dY (by ac_rfl) (jg hr.units (sv 0) aJ))) (ae (sset 4 iH.nd (aZ rK (aZ gK (aZ bo (aZ bo (by ac_rfl) (aZ gK (aZ gK aJ (sv 2)) (sv 2))) aJ) aJ) aJ))
   (ae (sset 4 iH.nd (aZ rK (aZ gK (sv 4) (sv 4)) aJ))
   (aG (dY (aZ bo (aZ rK (aZ bo (aZ bo (aZ gK (sv 4) aJ) (sv 2)) aJ) aJ) (aZ D5 aJ aJ)) (jg hr.units (sv 0) aJ)))))))))))))
theorem vP(d12:pD c):cC c:=Hd.bh T tD λF _ _ _=>
 (aI F vo λ_ _ _ _ _ _ hr _=>by walk_at "v";with_reducible exact(ae (by ac_rfl)
   (ae (by ac_rfl)
   (ae (dY (aZ JG (by ac_rfl) (sv 1)) (jg hr.units (sv 0) aJ))
   (by ac_rfl)))))
theorem zf(d13:cC c):dM c:=Hd.bh T xo λF _ _ _=>
 (aI F yU λ_ _ _ _ _ _ hr _=>by walk_at "u")
theorem tK(d14:dM c)(d13:cC c):nj c:=Hd.bh T rl λF _ _ _=>
 (aI F ko λ_ _ _ _ _ _ hr _=>by walk_at "v";with_reducible exact(ae (by ac_rfl)
   (ae (by ac_rfl)
   (ae (cR Q0 rfl (cM (by unfold Gl;ac_nf) B.dD (aa (fS d14 hr (aa (sv 0) (aa (cP 9 (by ac_nf)) aq))) aq) (hl:=(ah aC))) (by ac_rfl) (by ac_rfl))
   (ae (by ac_rfl)
   (ae (by ac_rfl)
   (ae (sset 7 ko.nd (fS d14 hr (aa (sv 0) (aa (cP 9 (by ac_nf)) aq))))
   (aG (bV (fR (N':=["_law_k","_law_at","_law_first","_law_letters","_law_stem","_law_stride"]) (caps:=[none,some 5,some 6,some 2,some 3,some 7]) (bz (by ac_nf)) rfl (cM (by unfold Gl;ac_nf) B.dD (by ac_rfl) (hl:=(ah aC))) (λ_ _ _ _ _=>(sgn 0 (by show(["_law_k","_law_at","_law_first","_law_letters","_law_stem","_law_stride"]:List Str).Nodup;decide+kernel))) (λ_ _ _ _ _=>eg) (λ_ _ _ _ _=>(aZ bo (aZ bo (by ac_rfl) (six hr (sv 3) (aZ rK (aZ bo (sv 2) (aZ gK (sv 5) (sv 0))) aJ))) (by ac_rfl)))))))))))))
theorem tJ(d15:nj c)(d14:dM c)(d13:cC c):ni c:=Hd.bh T rj λF _ _ _=>
 (aI F cN λ_ _ _ _ _ _ hr _=>by walk_at "v";with_reducible exact(ae (sset 3 cN.nd (fS d15 hr (aa (sv 0) (aa (fS d14 hr (aa (sv 0) (aa (cP 9 (by ac_nf)) aq))) aq))))
   (ae (sset 4 cN.nd (fS d15 hr (aa (sv 0) (aa (fS d14 hr (aa (sv 0) (aa (cP 9 (by ac_nf)) aq))) aq))))
   (ae (by ac_rfl)
   (ae (jQ (i:=6) cN.nd (by ac_nf) (by ac_nf) (N':=["_law_deed","_law_state"]) (caps:=[none,some 0]) (bz (by ac_nf)) rfl (iG (sv 4)) (λ_ _ _ _ _=>(sgn 0 (by show(["_law_deed","_law_state"]:List Str).Nodup;decide+kernel))) (λ_ _ _ _ _=>eg) (λ_ _ _ _ _=>(fS d14 hr (aa (sv 1) (aa (cP 9 (by ac_nf)) aq)))))
   (ae (sset 7 cN.nd (Fw EY B.yr uN (aa (fR (N':=["_law_deed","_law_names","_law_state"]) (caps:=[none,some 3,some 0]) (bz (by ac_nf)) rfl (iG (sv 4)) (λ_ _ _ _ _=>(sgn 0 (by show(["_law_deed","_law_names","_law_state"]:List Str).Nodup;decide+kernel))) (λ_ _ _ _ _=>eg) (λ_ _ _ _ _=>(by ac_rfl))) aq)))
   (ae (sset 5 cN.nd (fR (N':=["_law_k","_law_params"]) (caps:=[none,some 5]) (bz (by ac_nf)) rfl (iG (sv 6)) (λ_ _ _ _ _=>(sgn 0 (by show(["_law_k","_law_params"]:List Str).Nodup;decide+kernel))) (λ_ _ _ _ _=>eg) (λ_ _ _ _ _=>(by ac_rfl))))
   (aG (bV (Dg (dZ bc (sv 3) (dZ bc (sv 4) (dZ bc (sv 5) (dZ bc (sv 7) (dZ bc (sv 1) (dZ bc (sv 2) CV)))))) (by ac_nf) (by ac_nf) (by simp) λtrs h=>Af h (by ac_nf) (by ac_nf) (by simp) (by decide)))))))))))
theorem rL(d13:cC c):gY c:=Hd.bh T pK λF _ _ _=>
 (aI F qR λ_ _ _ _ _ _ hr _=>by walk_at "v";with_reducible exact(aG (bV (IT (by ac_rfl) (Dd (by ac_rfl))))))
theorem vN(d13:cC c)(d14:dM c):gQ c:=Hd.bh T tw λF _ _ _=>
 (aI F vm λ_ _ _ _ _ _ hr _=>by walk_at "v";with_reducible exact(ae (by ac_rfl)
   (ae (cg (by ac_rfl) (aG (bV (cp (aa (by ac_rfl) (aa (fS d14 hr (aa (sv 0) (aa (lG.lv (eh (by ac_rfl) (ah (ah (ah (ah (ah (ah (ah (ah (ah aC))))))))))) aq))) aq)) (ah (ah aC))))) bI)
   (by ac_rfl))))
theorem vT(d17:gY c)(d14:dM c)(d18:gQ c):pF c:=Hd.bh T tH λF _ _ _=>
 (aI F fT λ_ _ _ _ _ _ hr _=>by walk_at "v";with_reducible exact(ae (jQ (i:=4) fT.nd (by ac_nf) (by ac_nf) (N':=["_law_k","_law_deed","_law_top","_law_world_here"]) (caps:=[none,some 2,some 3,some 1]) (bz (by ac_nf)) rfl (cM (by unfold Gl;ac_nf) B.dD (by ac_rfl) (hl:=(ah aC))) (λ_ _ _ _ _=>(sgn 0 (by show(["_law_k","_law_deed","_law_top","_law_world_here"]:List Str).Nodup;decide+kernel))) (λ_ _ _ _ _=>(qe (by ac_rfl))) (λ_ _ _ _ _=>(sv 0)))
   (ae (cg (by ac_rfl) (aG (sset 4 fT.nd (lG.lv (Bl rfl (by unfold Gl;ac_nf) B.Fj (by unfold Gl;ac_nf) B.dD AL (by ac_rfl))))) bI)
   (ae (by ac_rfl)
   (ae (by ac_rfl)
   (ae (jQ (i:=6) fT.nd (by ac_nf) (by ac_nf) (N':=["_law_one","_law_deed","_law_state","_law_world_here"]) (caps:=[none,some 2,some 0,some 1]) (bz (by ac_nf)) rfl (by ac_rfl) (λ_ _ _ _ _=>(sgn 0 (by show(["_law_one","_law_deed","_law_state","_law_world_here"]:List Str).Nodup;decide+kernel))) (λ_ _ _ _ _=>eg) (λ_ _ _ _ _=>(by ac_rfl)))
   (by ac_rfl)))))))
theorem vQ(d13:cC c)(d17:gY c)(d18:gQ c):pC c:=Hd.bh T tE λF _ _ _=>
 (aI F lR λ_ _ _ _ _ _ hr _=>by walk_at "v";with_reducible exact(ae (by ac_rfl)
   (ae (by ac_rfl)
   (ae (by ac_rfl)
   (ae (by ac_rfl)
   (ae (by ac_rfl)
   (ae (jQ (i:=8) lR.nd (by ac_nf) (by ac_nf) (N':=["_law_lock_here","_law_name"]) (caps:=[none,some 7]) (bz (by ac_nf)) rfl (iG (sv 4)) (λ_ _ _ _ _=>(sgn 0 (by show(["_law_lock_here","_law_name"]:List Str).Nodup;decide+kernel))) (λ_ _ _ _ _=>(qe (by ac_rfl))) (λ_ _ _ _ _=>(by ac_rfl)))
   (by ac_rfl))))))))
theorem Al(d13:cC c)(d14:dM c)(d20:pF c)(d18:gQ c)(d19:pC c):∀n,Df c.l.prog c.w (Hd.aB c.h) c.mg c.base "_law_lot" (6+n) k7 7 (bF n)/\Df c.l.prog c.w (Hd.aB c.h) c.mg c.base "_law_row" (6+n) k6 6 (gw n)/\Df c.l.prog c.w (Hd.aB c.h) c.mg c.base "_law_locked" (6+n) gW 7 (dz n)/\Df c.l.prog c.w (Hd.aB c.h) c.mg c.base "_law_two_ways" (6+n) fG 6 (cL n)
 | 0=>⟨Hd.bh T mq λ_ _ _ _=>iK,Hd.bh T mn λ_ _ _ _=>iK,Hd.bh T i9 λ_ _ _ _=>iK,Hd.bh T gJ λ_ _ _ _=>iK⟩
 | n+1=>by
  obtain⟨d24,d23,d22,d21⟩:=Al d13 d14 d20 d18 d19 n;refine⟨?_,?_,?_,?_⟩
  ·exact Hd.bh T mq λF _ _ _=>eC (aI F xg λ_ _ _ _ _ _ hr _=>by walk_at "v";with_reducible exact(ae (by ac_rfl)
   (ae (cR Q0 rfl (cM (by unfold Gl;ac_nf) B.dD (aa (fS d13 hr (aa (sv 0) (aa (aZ bo (fS d14 hr (aa (sv 0) (aa (aZ bo (aZ vJ (by ac_rfl) aJ) (by ac_rfl)) aq)) (Qr (by decide) (QK _ _))) aJ) aq)) (Qr (by decide) (QK _ _))) aq) (hl:=(ah aC))) (by ac_rfl) (aG (cg (by ac_rfl) (ae (dY (by ac_rfl) (jg hr.units (sv 1) bc))
   (aG (jP (kP (isT:=cV) iE Rg SD To jU (sv 7) (aa (fS d23 hr (by ac_rfl) (Qg _)) aq))))) bI)))
   (by ac_rfl))))
  ·exact Hd.bh T mn λF _ _ _=>(aI F cS λ_ _ _ _ _ _ hr _=>by walk_at "v";with_reducible exact(ae (sset 6 cS.nd (fS d13 hr (by ac_rfl) (Qr (by decide) (QK _ _))))
   (ae (cg (by ac_rfl) (aG (bV (cp (aa bc (aa (fS d14 hr (by ac_rfl) (Qr (by decide) (QK _ _))) aq)) (ah (ah aC))))) bI)
   (ae (cg (by ac_rfl) (aG (bV (fS d20 hr (by ac_rfl) (Qr (by decide) (QK _ _))))) bI)
   (ae (cg (by ac_rfl) (aG (bV (fS d21 hr (by ac_rfl) (Qg _)))) bI)
   (ae (cg (by ac_rfl) (ae (yP 7 8 cS.nd (ah (ah aC)) rfl (by decide) (by with_unfolding_all exact(kW rfl cS.nd rfl rfl (by decide) rfl rfl (aa (fS d18 hr (aa (sv 0) (aa (six hr (six hr (sv 1) bc) (sv 2)) aq)) (Qr (by decide) (QK _ _))) (aa (fS d18 hr (aa (sv 0) (aa (six hr (six hr (sv 1) bc) (sv 2)) aq)) (Qr (by decide) (QK _ _))) aq)) rfl)))
   (ae (jQ (i:=9) cS.nd (by ac_nf) (by ac_nf) (N':=["_law_k","_law_deed","_law_deep","_law_held","_law_state","_law_top","_law_world_here"]) (caps:=[none,some 2,some 3,some 5,some 0,some 4,some 1]) (bz (by ac_nf)) rfl (cM (by unfold Gl;ac_nf) B.dD (by ac_rfl) (hl:=(ah aC))) (λ_ _ _ _ _=>(sgn 0 (by show(["_law_k","_law_deed","_law_deep","_law_held","_law_state","_law_top","_law_world_here"]:List Str).Nodup;decide+kernel))) (λ_ _ _ _ _=>eg) (λ_ _ _ _ _=>(fS d24 hr (by ac_rfl) (Qg _))))
   (by ac_rfl))) bI)
   (ae (cg (by ac_rfl) (ae (jQ (i:=9) cS.nd (by ac_nf) (by ac_nf) (N':=["_law_k","_law_deed","_law_deep","_law_held","_law_state","_law_top","_law_world_here"]) (caps:=[none,some 2,some 3,some 5,some 0,some 4,some 1]) (bz (by ac_nf)) rfl (cM (by unfold Gl;ac_nf) B.dD (by ac_rfl) (hl:=(ah aC))) (λ_ _ _ _ _=>(sgn 0 (by show(["_law_k","_law_deed","_law_deep","_law_held","_law_state","_law_top","_law_world_here"]:List Str).Nodup;decide+kernel))) (λ_ _ _ _ _=>eg) (λ_ _ _ _ _=>(fS d24 hr (by ac_rfl) (Qg _))))
   (by ac_rfl)) bI)
   (ae (cg (by ac_rfl) (aG (bV (cp (aa bc (aa (fS d24 hr (by ac_rfl) (Qg _)) aq)) (ah (ah aC))))) bI)
   (ae (sset 10 cS.nd (fS d14 hr (aa (sv 0) (aa (cP 9 (by ac_nf)) aq)) (Qr (by decide) (QK _ _))))
   (aG (bV (fS d22 hr (by ac_rfl) (Qg _)))))))))))))
  ·exact Hd.bh T i9 λF _ _ _=>eC (aI F cT λ_ _ _ _ _ _ hr _=>by walk_at "v";with_reducible exact(ae (dY (fS d19 hr (by ac_rfl) (Qr (by decide) (QK _ _))) (by ac_rfl))
   (ae (by ac_rfl)
   (ae (cg (by ac_rfl) (ae (yP 9 10 cT.nd (ah (ah aC)) rfl (by decide) (by with_unfolding_all exact(kW rfl cT.nd rfl rfl (by decide) rfl rfl (aa (lG.ob (eh (aa (sv 8) aq) (ah aC))) (aa (sv 7) aq)) rfl)))
   (ae (cR Q0 rfl (cM (by unfold Gl;ac_nf) B.dD (aa (fS d14 hr (aa (sv 0) (aa (cP 9 (by ac_nf)) aq)) (Qr (by decide) (QK _ _))) aq) (hl:=(ah aC))) (by ac_rfl) (ae (dY (fS d19 hr (by ac_rfl) (Qr (by decide) (QK _ _))) (by ac_rfl))
   (ae (by ac_rfl)
   (aG (sset 9 cT.nd (lG.ob (vi (sv 9) (aZ vJ (by ac_rfl) (by ac_rfl)))))))))
   (ae (cg (by ac_rfl) (aG (jP (kP (isT:=cV) iE Rg SD To jU (sv 9) (aa (cp (aa (by ac_rfl) (aa (cp (aa (by ac_rfl) (aa (aZ za (by ac_rfl) (aZ gK aJ (by ac_rfl))) aq)) (ah (ah aC))) aq)) (ah (ah aC))) aq)))) bI)
   (ae (by ac_rfl)
   (aG (bV (cp (aa bc (aa (by ac_rfl) (aa (fS d24 hr (by ac_rfl) (Qg _)) aq))) (ah (ah (ah aC)))))))))) bI)
   (ae (sset 14 cT.nd (fS d24 hr (by ac_rfl) (Qg _)))
   (ae (cg (by ac_rfl) (aG (bV (cp (aa bc (aa (sv 8) (aa (sv 14) (aa (fS d24 hr (by ac_rfl) (Qg _)) aq)))) (ah (ah (ah (ah aC))))))) bI)
   (by ac_rfl)))))))
  ·exact Hd.bh T gJ λF _ _ _=>eC (aI F dc λ_ _ _ _ _ _ hr _=>by walk_at "v";with_reducible exact(ae (by ac_rfl)
   (ae (by ac_rfl)
   (ae (cg (kN (zb hr.units) (fR (N':=["_law_lock_here","_law_low","_law_world_here"]) (caps:=[none,some 6,some 1]) (bz (by ac_nf)) rfl (iG (sv 5)) (λ_ _ _ _ _=>(sgn 0 (by show(["_law_lock_here","_law_low","_law_world_here"]:List Str).Nodup;decide+kernel))) (λ_ _ _ _ _=>(qe (by ac_rfl))) (λ_ _ _ _ _=>(sv 0))) (by ac_rfl) (jy _)) (by ac_rfl) bI)
   (ae (by ac_rfl)
   (ae (dY (by ac_rfl) (jg hr.units (sv 1) bc))
   (ae (yP 8 9 dc.nd (ah (ah aC)) rfl (by decide) (by with_unfolding_all exact(kW rfl dc.nd rfl rfl (by decide) rfl rfl (aa (fS d18 hr (aa (sv 0) (aa (six hr (six hr (sv 1) bc) (sv 2)) aq)) (Qr (by decide) (QK _ _))) (aa (fS d18 hr (aa (sv 0) (aa (six hr (six hr (sv 1) bc) (sv 2)) aq)) (Qr (by decide) (QK _ _))) aq)) rfl)))
   (ae (by ac_rfl)
   (ae (cR Q0 rfl (by ac_rfl) (by ac_rfl) (ae (sset 13 dc.nd (fS d24 hr (by ac_rfl) (Qg _)))
   (by ac_rfl)))
   (by ac_rfl))))))))))
theorem pO(d16:ni c)(d24:zP c)(d14:dM c):jJ c:=Hd.bh T nP λF _ _ _=>
 eC (aI F i6 λ_ _ _ _ _ _ hr _=>by walk_at "v";with_reducible exact(ae (by ac_rfl)
   (ae (by ac_rfl)
   (ae (cR Q0 rfl (lN (by unfold Gl;ac_nf) B.fA (by ac_rfl) (ah aC)) (by ac_rfl) (ae (sset 7 i6.nd (fS d24 hr (aa (sv 0) (aa (sv 3) (aa (sv 5) (aa aJ (aa (by ac_rfl) (aa (by ac_rfl) (aa (fS d14 hr (aa (sv 0) (aa (cP 9 (by ac_nf)) aq))) aq)))))))))
   (by ac_rfl)))
   (aG (bV (cp (aa (L5 yh B.AR yq (aa (Fw EW B.yr uN (by ac_rfl)) aq)) (by ac_rfl)) (ah (ah aC)))))))))
theorem xJ(d25:jJ c)(d14:dM c):sS c:=Hd.bh T vB λF _ _ _=>
 (aI F xh λ_ _ _ _ _ _ hr _=>by walk_at "v";with_reducible exact(aG (bV (fS d25 hr (aa (sv 0) (aa (fS d14 hr (aa (sv 0) (aa (cP 9 (by ac_nf)) aq))) (aa (fS d14 hr (aa (sv 0) (aa (cP 9 (by ac_nf)) aq))) aq)))))))
theorem mK:fc c:=Hd.bh T kT λF _ _ _=>
 (aI F lP λ_ _ _ _ _ _ hr _=>by walk_at "v";with_reducible exact(ae (by ac_rfl)
   (ae (cg (by ac_rfl) (aG (bV (IQ (sv 1) (Dd (L5 AF B.HZ Fe (by ac_rfl)))))) bI)
   (aG (bV (aZ bo (aZ bo (sv 1) (aZ gK bc (by ac_rfl))) (L5 AF B.HZ Fe (by ac_rfl))))))))
theorem mL(d27:fc c):iz c:=Hd.bh T kU λF _ _ _=>
 (aI F lQ λ_ _ _ _ _ _ hr _=>by walk_at "u")
theorem vS(d27:fc c)(d28:iz c):pE c:=Hd.bh T tG λF _ _ _=>
 (aI F vp λ_ _ _ _ _ _ hr _=>by walk_at "v";with_reducible exact(ae (by ac_rfl)
   (ae (cg (by ac_rfl) (aG (bV (kP (isT:=isStr) ty_str Rv SV SU qo bc (aa (aZ bo (by ac_rfl) (fR (N':=["_law_term_here"]) (caps:=[none]) (bz (by ac_nf)) rfl (by ac_rfl) (λ_ _ _ _ _=>(sgn 0 (by show(["_law_term_here"]:List Str).Nodup;decide+kernel))) (λ_ _ _ _ _=>eg) (λ_ _ _ _ _=>(by ac_rfl)))) aq)))) bI)
   (ae (cg (by ac_rfl) (aG (bV (kP (isT:=isStr) ty_str Rv SV SU qo bc (aa (aZ bo (by ac_rfl) (fR (N':=["_law_lock_here"]) (caps:=[none]) (bz (by ac_nf)) rfl (by ac_rfl) (λ_ _ _ _ _=>(sgn 0 (by show(["_law_lock_here"]:List Str).Nodup;decide+kernel))) (λ_ _ _ _ _=>eg) (λ_ _ _ _ _=>(by ac_rfl)))) aq)))) bI)
   (by ac_rfl)))))
theorem gL(d29:pE c):∀n,Df c.l.prog c.w (Hd.aB c.h) c.mg c.base "_law_lot_lines" (4+n) eT 2 (b7 n)
 | 0=>Hd.bh T gc λ_ _ _ _=>iK
 | n+1=>by
  have d30:=gL d29 n;exact Hd.bh T gc λF _ _ _=>(aI F bw λ_ _ _ _ _ _ hr _=>by walk_at "v";with_reducible exact(ae (yP 2 3 bw.nd (ah (ah aC)) rfl (by decide) (by with_unfolding_all exact(kW rfl bw.nd rfl rfl (by decide) rfl rfl (aa (lG.ob (eh aq aC)) (aa (sv 1) aq)) rfl)))
   (ae (cR Q0 rfl (iG (sv 0)) (by ac_rfl) (ae (by ac_rfl)
   (ae (jP (kP (isT:=cV) iE Rg SD To jU (sv 2) (aa (cp (aa (sv 5) (aa (fS d29 hr (by ac_rfl) (Qr (by decide) (QK _ _))) aq)) (ah (ah aC))) aq)))
   (ae (by ac_rfl)
   (ae (sset 6 bw.nd (kP (isT:=Ey) Iz PySem.F.plainAttrs_dict Sa PySem.F.type_dict_get (JY (MN hr)) (F2 (dZ bc aJ (dZ bc aJ (dZ bc aJ (dZ bc aJ (dZ bc aJ CV))))) (by ac_nf) (by ac_nf) (by simp) λtrs h=>Af h (by ac_nf) (by ac_nf) (by simp) (by decide)) (by ac_rfl)))
   (ae (by ac_rfl)
   (ae (cR Q0 rfl (lN (by unfold Gl;ac_nf) B.fA (by ac_rfl) (ah aC)) (by ac_rfl) (ae (sset 2 bw.nd (lG.ob (vi (sv 2) (aZ vJ (by ac_rfl) (by ac_rfl)))))
   (ae (dY (fS d30 hr (by ac_rfl) (Qg _)) (by ac_rfl))
   (aG (sset 2 bw.nd (lG.ob (vi (sv 2) (sv 10))))))))
   (aG (sset 2 bw.nd (lG.ob (vi (sv 2) (aZ vJ (by ac_rfl) (by ac_rfl)))))))))))))
   (by ac_rfl))))
theorem tQ(d30:oy c):iY c:=Hd.bh T rp λF _ _ _=>
 eC (aI F fg λ_ _ _ _ _ _ hr _=>by walk_at "v";with_reducible exact(ae (yP 1 2 fg.nd (ah (ah aC)) rfl (by decide) (by with_unfolding_all exact(kW rfl fg.nd rfl rfl (by decide) rfl rfl (aa (lG.lv (eh (aa (cp (aa (zZ u9 aJ) (aa (kP (isT:=isStr) ty_str Rv SV SU qo bc (aa (aZ bo (cp (aa bc aq) (ah aC)) (six hr (sv 0) aJ)) aq)) aq)) (ah (ah aC))) aq) (ah aC))) (aa aJ aq)) rfl)))
   (ae (cR Q0 rfl (by ac_rfl) (by ac_rfl) (ae (by ac_rfl)
   (aG (sset 1 fg.nd (aZ bo (aZ bo (aZ bo (sv 1) (lG.lv (eh (aa (cp (aa (by ac_rfl) (aa (kP (isT:=isStr) ty_str Rv SV SU qo bc (by ac_rfl)) aq)) (ah (ah aC))) aq) (ah aC)))) (sv 6)) (by ac_rfl))))))
   (by ac_rfl))))
theorem pP:gu c:=Hd.bh T nQ λF _ _ _=>
 eC (aI F dB λ_ _ _ _ _ _ hr _=>by walk_at "v";with_reducible exact(ae (by ac_rfl)
   (ae (cR Q0 rfl (by ac_rfl) (by ac_rfl) (ae (sset 6 dB.nd (six hr (kP (isT:=isStr) ty_str Rv Sy UN xO (sv 5) (by ac_rfl)) aJ))
   (aG (cg (by ac_rfl) (aG (dY aJ (jg hr.units (sv 1) (by ac_rfl)))) (aG (cg (by ac_rfl) (by ac_rfl) (ae (cg (by ac_rfl) (ae (dY (by ac_rfl) (jg hr.units (sv 1) (by ac_rfl)))
   (aG (yP 4 2 dB.nd (ah (ah aC)) rfl (by decide) (by with_unfolding_all exact(kW rfl dB.nd rfl rfl (by decide) rfl rfl (aa (aZ bo (sv 4) aJ) (aa (Fw (EZ rfl) B.Ia Ff (aa (sv 2) (aa (six hr (sv 1) (zZ u9 aJ)) aq))) aq)) rfl))))) bI)
   (by ac_rfl))))))))
   (by ac_rfl))))
theorem tN:iX c:=Hd.bh T rm λF _ _ _=>
 (aI F td λ_ _ _ _ _ _ hr _=>by walk_at "v";with_reducible exact(aG (bV (fR (N':=["_law_number","_law_text"]) (caps:=[none,none]) (bz (by ac_nf)) rfl (iG (sv 0)) (λ_ _ _ _ _=>(jf rfl (bu (sgn 0 (by show(["_law_number","_law_text"]:List Str).Nodup;decide+kernel)) (bu (sgn 1 (by show(["_law_number","_law_text"]:List Str).Nodup;decide+kernel)) gH)))) (λ_ _ _ _ _=>eg) (λ_ _ _ _ _=>(sv 1))))))
theorem xI:sR c:=Hd.bh T vA λF _ _ _=>
 eC (aI F jj λ_ _ _ _ _ _ hr _=>by walk_at "v";with_reducible exact(ae (yP 2 3 jj.nd (ah (ah aC)) rfl (by decide) (by with_unfolding_all exact(kW rfl jj.nd rfl rfl (by decide) rfl rfl (aa (lG.ob (eh aq aC)) (aa Dm aq)) rfl)))
   (by ac_rfl)))
theorem ze:iy c:=Hd.bh T xn λF _ _ _=>
 (aI F yT λ_ _ _ _ _ _ hr _=>by walk_at "v";with_reducible exact(aG (bV (Dc (sv 0) (zW (six hr (C8 B.yx (by ac_rfl)) aJ)) zX))))
theorem oZ(d0:iy c):∀n,Df c.l.prog c.w (Hd.aB c.h) c.mg c.base "paths_in" (2+n) kY 2 (dG n)
 | 0=>Hd.bh T mj λ_ _ _ _=>iK
 | n+1=>by
  have d2:=oZ d0 n;exact Hd.bh T mj λF _ _ _=>eC (aI F xc λ_ _ _ _ _ _ hr _=>by walk_at "v";with_reducible exact(ae (by ac_rfl)
   (ae (cR Q0 rfl (lN (by unfold Gl;ac_nf) B.fA (by ac_rfl) (ah aC)) (by ac_rfl) (ae (by ac_rfl)
   (ae (by ac_rfl)
   (aG (cR Q0 rfl (lN (by unfold Gl;ac_nf) B.fA (aa (fS d0 hr (by ac_rfl) (Qr (by decide) (QK _ _))) aq) (ah aC)) (by ac_rfl) (aG (jP (kP (isT:=cV) iE Rg TF UA ux (sv 2) (aa (fS d2 hr (by ac_rfl) (Qg _)) aq)))))))))
   (by ac_rfl))))
theorem vM(d2:zN c):jI c:=Hd.bh T tu λF _ _ _=>
 eC (aI F vj λ_ _ _ _ _ _ hr _=>by walk_at "v";with_reducible exact(ae (by ac_rfl)
   (ae (cR Q0 rfl (lN (by unfold Gl;ac_nf) B.fA (by ac_rfl) (ah aC)) (by ac_rfl) (aG (jP (kP (isT:=cV) iE Rg TF UA ux (sv 1) (aa (fR (N':=["path","row","deed"]) (caps:=[none,none,some 2]) (bz (by ac_nf)) rfl (by ac_rfl) (λ_ _ _ _ _=>(jf rfl (bu (sgn 0 (by show(["path","row","deed"]:List Str).Nodup;decide+kernel)) (bu (sgn 1 (by show(["path","row","deed"]:List Str).Nodup;decide+kernel)) gH)))) (λ_ _ _ _ _=>eg) (λ_ _ _ _ _=>(by ac_rfl))) aq)))))
   (by ac_rfl))))
theorem xG(d3:jI c):lC c:=Hd.bh T mh λF _ _ _=>
 (aI F jh λ_ _ _ _ _ _ hr _=>by walk_at "v";with_reducible exact(ae (by ac_rfl)
   (ae (cg (qK (wY D8 D7 aJ (sv 1) (by ac_rfl))) (aG qL) bI)
   (by ac_rfl))))
theorem xH:lD c:=Hd.bh T vz λF _ _ _=>
 (aI F xf λ_ _ _ _ _ _ hr _=>by walk_at "u")
theorem nW(d6:lC c)(d1:lD c):fM c:=Hd.bh T gI λF _ _ _=>
 (aI F br λ_ _ _ _ _ _ hr _=>by walk_at "v";with_reducible exact(ae (by ac_rfl)
   (ae (cg (by ac_rfl) (aG qL) bI)
   (by ac_rfl))))
theorem By(d0:iy c):sQ c:=Hd.bh T yZ λF _ _ _=>
 (aI F Bn λ_ _ _ _ _ _ hr _=>by walk_at "v";with_reducible exact(ae (by ac_rfl)
   (ae (cR Q0 rfl (Bk (by unfold Gl;ac_nf) B.dD (by ac_rfl) (hl:=(ah (ah (ah aC))))) (by ac_rfl) (by ac_rfl))
   (by ac_rfl))))
theorem zd:ox c:=Hd.bh T xm λF _ _ _=>
 (aI F yS λ_ _ _ _ _ _ hr _=>by walk_at "u")
theorem pd:∀n,Df c.l.prog c.w (Hd.aB c.h) c.mg c.base "lot_with" (1+n) kZ 3 (dH n)
 | 0=>Hd.bh T mm λ_ _ _ _=>iK
 | n+1=>by
  have d8:=pd  n;exact Hd.bh T mm λF _ _ _=>(aI F ji λ_ _ _ _ _ _ hr _=>by walk_at "v";with_reducible exact(ae (by ac_rfl)
   (ae (cg (by ac_rfl) (ae (by ac_rfl)
   (ae (sset 5 ji.nd (aZ bo (six hr (C8 B.yx (by ac_rfl)) aJ) (by ac_rfl)))
   (aG (sset 2 ji.nd (cp (aa (aZ bo (aZ bo (by ac_rfl) (cp (aa (fS d8 hr (by ac_rfl) (Qg _)) aq) (ah aC))) (by ac_rfl)) aq) (ah aC)))))) bI)
   (by ac_rfl))))
theorem pN(d8:zO c):jH c:=Hd.bh T nN λF _ _ _=>
 (aI F pJ λ_ _ _ _ _ _ hr _=>by walk_at "u")
theorem pM(d7:fM c)(d0:iy c)(d5:sQ c)(d4:ox c)(d9:jH c):jG c:=Hd.bh T hV λF _ _ _=>
 (aI F bj λ_ _ _ _ _ _ hr _=>by walk_at "v";with_reducible exact(ae (by ac_rfl)
   (ae (by ac_rfl)
   (ae (cg (kN D9 (by ac_rfl) (Dh B.kK (by unfold Gl;ac_nf)) (jy _)) (aG qL) bI)
   (by ac_rfl)))))
theorem vO:pB c:=Hd.bh T tx λF _ _ _=>
 (aI F vn λ_ _ _ _ _ _ hr _=>by walk_at "v";with_reducible exact(aG (bV (six hr (kP (isT:=isStr) ty_str Rv Sy UN xO (six hr (fR (N':=["_law_mine","_law_text","_law_number"]) (caps:=[none,none,some 1]) (bz (by ac_nf)) rfl (iG (sv 0)) (λ_ _ _ _ _=>(jf rfl (bu (sgn 0 (by show(["_law_mine","_law_text","_law_number"]:List Str).Nodup;decide+kernel)) (bu (sgn 1 (by show(["_law_mine","_law_text","_law_number"]:List Str).Nodup;decide+kernel)) gH)))) (λ_ _ _ _ _=>(qe (by ac_rfl))) (λ_ _ _ _ _=>(sv 1))) aJ) (by ac_rfl)) aJ))))
theorem JQ:PH c:=by
 obtain⟨f,fd,m,F⟩:=Hd.Ay T nO;obtain⟨CS,h1,h2⟩:=B.S_;have hb:∃(tail:List Stmt)(pa pb pc p1 p2 p3 p4 p5 p6 p7 p8 p9:Pos)(j:Nat),df cx=.Assign [.Name "_law_caught" pa] (.Constant .none j pb) pc::.Try [.Expr (.Call (.Name "_law_call_here" p1) [] [] p2) p3] [.ExceptHandler (some (.Name "StuckError" p4)) (some "e") [.Assign [.Name "_law_caught" p5] (.Name "e" p6) p7] p8] [] [] p9::tail/\∀(k:Nat)(cdv:Value)(A:Around)(outer:List Env)(s:Shared)(H:Hp)(E:XK),cH k (A.deeper (envOfC "_law_refused" (aj cx) s.heap.objs.size f cdv))->Ce (eV nz c.l.prog c.w (Hd.aB c.h) c.mg c.base ["_law_call_here","_law_caught","e","_law_marks"] "_law_refused" (aj cx) f cdv A outer s H E).Ef tail wL:=by
  refine⟨_,_,_,_,_,_,_,_,_,_,_,_,_,_,by(conv=>lhs;whnf),λk cdv A outer s H E hr=>?_⟩;unfold wL;(conv=>arg 2;whnf);with_reducible exact(ae (cg (SW.st (Hz (by ac_rfl) (CN (qK (yO (LV (tb:=gA) (ns:=pQ) B.Lo B.dg B.wJ (sv 1) (PR (by decide+kernel)))))))) (by ac_rfl) bI)
   (ae (sset 3 fC.nd (lG.lv (eh (aa (C7 (tb:=gA) (ns:=pQ) B.Lo B.dg (sv 1)) (aa (C7 (tb:=gA) (ns:=pQ) B.Lo B.dg (sv 1)) (aa (C7 (tb:=gA) (ns:=pQ) B.Lo B.dg (sv 1)) aq))) (ah (ah (ah aC))))))
   (ae (sset 3 fC.nd (aZ bo (sv 3) (lG.lv (eh (aa (C7 (tb:=gA) (ns:=pQ) B.Lo B.dg (sv 1)) (aa (C7 (tb:=gA) (ns:=pQ) B.Lo B.dg (sv 1)) aq)) (ah (ah aC))))))
   (ae (cg (kN (zb hr.units) (kP (isT:=cV) iE Rg UG PySem.F.type_list_count (BF hr.units) (sv 3) (by ac_rfl)) aJ (jy _)) (by ac_rfl) bI)
   (aG (bV (six hr (cP 9 (by ac_nf)) (kP (isT:=cV) iE Rg UE PySem.F.type_list_index (BE hr.units) (sv 3) (by ac_rfl)))))))))
 obtain⟨tail,pa,pb,pc,p1,p2,p3,p4,p5,p6,p7,p8,p9,j,e,ht⟩:=hb;exact⟨f,CS,fd,cx,"_law_call_here","_law_caught","e","_law_marks",tail,pa,pb,pc,p1,p2,p3,p4,p5,p6,p7,p8,p9,j,F,fC,m,F.kp,F.one (λ_ _ _ _ _ _ _=>rfl),e,⟨by ac_nf,by ac_nf,by ac_nf,by ac_nf⟩,⟨h1,h2⟩,⟨by ac_nf,by ac_nf,by ac_nf,by ac_nf⟩,⟨λ_=>by ac_nf,λ_=>by ac_nf,λ_=>by ac_nf⟩,ht⟩
theorem vL(R:Xr c)(d3:jI c):pG c:=Hd.Ej T mh λF=>
 Ku F jh λcdv A outer s H E hr _=>by(conv=>arg 3;whnf);with_reducible exact(lH (sset 2 jh.nd (fS d3 hr (aa (sv 0) aq)))
   (fq (Cr (qK (wY D8 D7 aJ (sv 1) (Fw wq B.AS wF (aa (sv 2) aq)))) (fq (NS R.wM bc)) yD)))
theorem mJ(R:Xr c)(d1:lD c)(d6:lC c)(x6:pG c):iA c:=Hd.Ej T gI λF=>
 Ku F br λcdv A outer s H E hr _=>by(conv=>arg 3;whnf);with_reducible exact(Co (fq (Lp (g:=(gT 3 (ar (gN 2) (ar (gN 3) (ar (gN 4) bU))))) (NT x6 hr Aj (aa (sv 0) (aa (sv 1) aq))) (jf rfl (bu (sgn 2 br.nd) (bu (sgn 3 br.nd) (bu (sgn 4 br.nd) gH)))))) (lH (dY (fS d6 hr (aa (sv 0) (aa (sv 1) aq))) (jf rfl (bu (sgn 2 br.nd) (bu (sgn 3 br.nd) (bu (sgn 4 br.nd) gH)))))
   (fq (Cr (qK (yO (fS d1 hr (aa (sv 4) aq)))) (fq (NS R.wM bc)) yD))))
theorem nV(R:Xr c)(d5:sQ c)(d4:ox c)(d0:iy c)(d7:fM c)(x7:iA c):ja c:=Hd.Ej T hV λF=>
 Ku F bj λcdv A outer s H E hr _=>by(conv=>arg 3;whnf);with_reducible exact(Co (fq (Lp (g:=(gT 3 (ar (gN 2) (ar (gN 3) (ar (gN 4) bU))))) (NT x7 hr Aj (aa (sv 0) (aa (sv 1) aq))) (jf rfl (bu (sgn 2 bj.nd) (bu (sgn 3 bj.nd) (bu (sgn 4 bj.nd) gH)))))) (lH (dY (fS d7 hr (aa (sv 0) (aa (sv 1) aq))) (jf rfl (bu (sgn 2 bj.nd) (bu (sgn 3 bj.nd) (bu (sgn 4 bj.nd) gH)))))
   (lH (sset 5 bj.nd (six hr (fS d0 hr (aa (sv 4) aq)) aJ))
   (fq (Cr (kN D9 (aZ bo (aZ za (Fw wq B.AS wF (aa (fS d5 hr (aa (fS d4 hr (aa (sv 0) (aa (sv 2) aq))) (aa (sv 3) aq))) aq)) aJ) (Fw wq B.AS wF (aa (sv 5) aq))) (Dh B.kK (by unfold Gl;ac_nf)) (jy _)) (fq (NS R.wM bc)) yD)))))
theorem tO(RF:PH c)(d32:iX c)(d34:sR c)(d33:gu c)(d10:jG c)(d31:iY c)(x10:ja c):nq c:=Hd.bh T jq λF _ _ m=>
 (GZ F (Hd.GP T jq F m) kr λcdv A outer s H E hL hr=>by have:=kr.nd;(conv=>arg 2;whnf);with_reducible exact(ae (by ac_rfl)
   (ae (cg (by ac_rfl) (aG (bV (Di (Ea hr.units) (Oh (k:=14) (Nl:=["_law_number","_law_program_here"]) (caps:=[some 2,some 0]) RF hL hr (by decide) (bz (by ac_nf)) (λ_ _ _ _ _ _ _ _ _ hr=>(NT x10 hr Gz (by ac_rfl))) (λ_ _ _ _ _ _ _ _ _ hr=>(by ac_rfl))) bc (jy _)))) bI)
   (ae (cR Q0 rfl (cM (by unfold Gl;ac_nf) B.dD (by ac_rfl) (hl:=(ah aC))) (by ac_rfl) (by ac_rfl))
   (by ac_rfl)))))
theorem JR(F:sW (Hd.aB c.h) "law" "law" lS f fd)(d11:nr c)(d26:sS c)(d31:iY c)(d33:gu c)(d32:iX c)(d37:nq c)(d35:pB c):eO c.l.prog c.w (Hd.aB c.h) c.mg c.base nz 29 f fd HL (Bj (Hd.aB c.h) 1 yz):=
 (aI F IU λ_ _ _ _ _ _ hr _=>by walk_at "v";with_reducible exact(ae (by ac_rfl)
   (ae (cR Q0 rfl (cM (by unfold Gl;ac_nf) B.dD (by ac_rfl) (hl:=(ah aC))) (by ac_rfl) (ae (by ac_rfl)
   (ae (by ac_rfl)
   (aG (cR Q0 rfl (cM (by unfold Gl;ac_nf) B.dD (by ac_rfl) (hl:=(ah aC))) (by ac_rfl) (aG (cg (SW.st (yN (kN (HM hr.units) (by ac_rfl) (cP 9 (by ac_nf)) (by ac_nf)) (by ac_rfl))) (by ac_rfl) bI)))))))
   (by ac_rfl))))
theorem Nd(R:Xr c)(m:c.mg "law"=some (.ref f))(F:sW (Hd.aB c.h) "law" "law" lS f fd)(hF:∀ns:List Int,ns.length<=63->∃h',yz [.ro (ns.map D.int)] []=some (.bl true,h')):eO c.l.prog c.w (Hd.aB c.h) c.mg c.base nz 29 f fd ["_law_script"] (spT (Hd.aB c.h)):=by
 have d11:=tR T B;have d12:=vR T B;have d13:=vP T B d12;have d14:=zf T B d13;have d15:=tK T B d14 d13;have d16:=tJ T B d15 d14 d13;have d17:=rL T B d13;have d18:=vN T B d13 d14;have d20:=vT T B d17 d14 d18;have d19:=vQ T B d13 d17 d18;obtain⟨d24,d23,d22,d21⟩:=Al T B d13 d14 d20 d18 d19 20;have d25:=pO T B d16 d24 d14;have d26:=xJ T B d25 d14;have d27:=mK T B;have d28:=mL T B d27;have d29:=vS T B d27 d28;have d30:=gL T B d29 8;have d31:=tQ T B d30;have d33:=pP T B;have d32:=tN T B;have d34:=xI T B;have d0:=ze T B;have d2:=oZ T B d0 8;have d3:=vM T B d2;have d6:=xG T B d3;have d1:=xH T B;have d7:=nW T B d6 d1;have d5:=By T B d0;have d4:=zd T B;have d8:=pd T B  6;have d9:=pN T B d8;have d10:=pM T B d7 d0 d5 d4 d9;have d35:=vO T B;have RF:=JQ T B;have x6:=vL T B R d3;have x7:=mJ T B R d1 d6 x6;have x10:=nV T B R d5 d4 d0 d7 x7;have d37:=tO T B RF d32 d34 d33 d10 d31 x10;exact GO (JR T B F d11 d26 d31 d33 d32 d37 d35) hF
end
theorem il:Hd.freeOk view (["SHAPES"]:List Str) ["ValueError","abs","enumerate","int","isinstance","len","list","max","min","range","sorted","str","tuple"]=true:=by decide+kernel
theorem all_mk{l:PySem.W.OpenLaw}{w:World}{h:Heap}{mg mb:Str->Option Value}{mean:ExcName->Option Value}(T:Top view (PySem.W.looseW view (["SHAPES"]:List Str)) mean mg mb h)
  (Y_SHAPES:Hd.tabAt h "SHAPES"=some (eQ.map λx=>(x.1,hashStr w x.1,x.2)))
  (Y_x:Hd.pV h (gA.map (·.1)) pQ=Hd.yc gA pQ)
  (hF:∀ns:List Int,ns.length<=63->∃h',yz [.ro (ns.map D.int)] []=some (.bl true,h')):
  ∃(fa:Addr)(fd:FuncData),mg "law"=some (.ref fa)/\(∀(s:Shared)(v:Value),BindsTo s fd ⟨[v],[]⟩ [("_law_script",v)])/\∀base:Heap,(Hd.aB h).In base->base.Ns mainGlobals mg->eO l.prog w (Hd.aB h) mg base nz 29 fa fd ["_law_script"] (spT (Hd.aB h)):=by
 have B:Bs l.prog w (Hd.aB h) mg:=⟨Hd.de T il (Qd (i:=0) rfl),Hd.de T il (Qd (i:=1) rfl),Hd.de T il (Qd (i:=2) rfl),Hd.de T il (Qd (i:=3) rfl),Hd.de T il (Qd (i:=4) rfl),Hd.de T il (Qd (i:=5) rfl),Hd.de T il (Qd (i:=6) rfl),Hd.de T il (Qd (i:=7) rfl),Hd.de T il (Qd (i:=8) rfl),Hd.de T il (Qd (i:=9) rfl),Hd.de T il (Qd (i:=10) rfl),Hd.de T il (Qd (i:=11) rfl),Hd.de T il (Qd (i:=12) rfl),Hd.G8 T (by ac_nf),Hd.tab_of Y_SHAPES T.g (by decide+kernel),Hd.MX T Y_x,Hd.Oq T Y_x (by ac_nf) (by decide+kernel) (Si.mpr ⟨⟨by ac_nf,_,rfl,by decide+kernel⟩,List.forall_mem_nil _⟩)⟩;obtain⟨f,fd,m,F⟩:=Hd.Ay T F9;exact⟨f,fd,m,F.one λ_ _ _ _ _ _ _=>rfl,λbase KB _=>Nd (c:=⟨l,w,h,mg,base⟩) T B ⟨Hd.FG T (by ac_nf) KB⟩ m F hF⟩
end Mi
local macro_rules | `(tactic| walk_at $s:str) => let k := s.getString.front;let a := "|Sm.M0|Sm.M6|Sm.KZ|Sm.M3|Sm.M1|Sm.O5|Sm.O4|Sm.O8|Sm.O7|Sm.O6|Sm.P6|Sm.P7|Sm.M5|Sm.M4|Sm.KU|Sm.KW|Sm.fv|Sm.sY|Sm.xr|Sm.DF|Sm.DE|Sm.xt|Sm.xp|Sm.Je|Sm.Mb|Sm.r_sbrk|Sm.r_scont|Sm.mx|Sm.Ot|Sm.HH|Sm.DD|Sm.cO|Sm.kA|Sm.Ov|Sm.vD|Sm.Ou|Sm.r_dv|Sm.r_do|Sm.nS|Sm.y1|Sm.nR|Sm.Jd|Sm.HG|Sm.Mh|Sm.r_or|Sm.r_not|Sm.r_sl|Sm.L9|Sm.Ma|Sm.Bq|Sm.Ji|Sm.hW|Sm.vE|Sm.Mg|Sm.Jj|Sm.OK|Sm.OL|Sm.NY|Sm.t_bk|Sm.t_ct|Sm.OR|Sm.l_ct|Sm.l_bk|Sm.l_rt|Sm.Jc|Sm.Mf";if k != 'o' && k != 'g' && k != 'r' then Lean.Macro.throwUnsupported else do {let t <- (((if k == 'r' then a ++ "|Sm.Lu|Sm.Lw|Sm.w_add|Sm.w_sub|Sm.w_lt|Sm.w_le|Sm.NU|Sm.NV|Sm.LB|Sm.w_neI|Sm.LA|Sm.w_neS|Sm.Lz|Sm.Ly|Sm.Lx|Sm.Ip|Sm.Iq|Sm.y2" else a).splitOn "|").drop 1).toArray.mapM (λn => `(Lean.Parser.Tactic.tacticSeq| refine $(Lean.mkIdent n.toName) ?_));if k == 'o' then `(tactic| with_reducible first $[| $t]*) else `(tactic|((repeat with_reducible first $[| $t]*);(try dsimp only)))}
namespace Mi
open PySem Sm
theorem kR(hb:0 < b)(q:Q (.int (a % b),h)):Rn (so (.int a) (.int b) h) Q:=⟨_,by unfold so;dsimp only;rw[Qf hb],q⟩
theorem IZ(hb:0 < b)(hb2:b<=10^40)(q:Q (.int (a / b),h)):Rn (EJ (.int a) (.int b) h) Q:=⟨_,by unfold EJ;dsimp only;rw[Qf ⟨hb,hb2⟩],q⟩
theorem nK(hb:mM a b=true)(q:Q (.int (a*b),h)):Rn (ip (.int a) (.int b) h) Q:=⟨_,by show(if mM a b then _ else _)=_;rw[Qf hb],q⟩
theorem mul_r(h1:-(2^64) < b)(h2:b < 2^64):mM a b=true:=by unfold mM;simp only[RJ,QN,QY];exact .inr ⟨h1,h2⟩
theorem Eh(h1:-(2^64) < a)(h2:a < 2^64):mM a b=true:=by unfold mM;simp only[RJ,QN,QY];exact .inl ⟨h1,h2⟩
theorem BH{h:MH}{s c:Nat}{cs:List Int}{n t:Int}(hs:h[s]?=some (.lst [.int n,.ob c,.int t]))(hc:h[c]?=some (.lst (cs.map D.int)))(ne:c≠s)(t0:0<=t)(tB:t < 2^60):
  Rn (jL [.ob s] h) λp=>∃n',0<=n'/\p=(.cu,h.set s (.lst [.int n',.ob c,.int (t+1)])):=by
 have hl:s < h.length:=(Qc.mp hs).1;generalize hH:h.set s (.lst [.int n,.ob c,.int (t+1)])=H;have Hs:H[s]?=some (.lst [.int n,.ob c,.int (t+1)]):=by rw[<-hH];exact QR hl
 have Hc:H[c]?=some (.lst (cs.map D.int)):=by rw[<-hH,QX (RM ne)];exact hc
 have set0:∀v:Int,tU (.ob s) (.int 0) (.int v) H=some (h.set s (.lst [.int v,.ob c,.int (t+1)])):=λv=>by
  rw[iT (p:=0) Hs rfl,<-hH,List.set_set];rfl
 have e3:tU (.ob s) (.int 2) (.int (t+1)) h=some H:=by rw[iT (p:=2) hs rfl,<-hH];rfl
 have e4:cz [.ob c] H=some (.int cs.length,H):=by rw[qt Hc,Qb]
 refine bD ?_;walk_at "g";refine rv (fJ hs rfl) ?_;walk_at "g";refine rv (fJ hs rfl) ?_;walk_at "g";refine rv rfl ?_;walk_at "g";refine rv e3 ?_;walk_at "g";refine rv (oj Hc) ⟨_,rfl,λhne=>?pos,λhne=>?neg⟩
 case' pos=>
  have hpos:0 < cs.length:=by cases cs with | nil=>simp at hne | cons _ _=>simp
  walk_at "g";refine rv e4 (kR (by lia) ?_);obtain⟨z,hz⟩:=Fp cs (t % (cs.length:Int)) (Rk _ (by lia)) (RC _ (by lia));refine rv (fJ Hc hz) ?_
 all_goals
  walk_at "g";refine rv e4 (rv rfl ⟨_,rfl,?_⟩);refine(λmix=>⟨λc1=>?thenA,λ_=>⟨λz=>(nomatch z),λ_=>mix⟩⟩) ?thenB
  case thenA=>
   walk_at "g";refine rv rfl ?_;walk_at "g";refine rv rfl (rv rfl ⟨_,rfl,λc2=>?_,λ_=>mix⟩);walk_at "g";refine rv rfl ?_;walk_at "g";refine rv (set0 _) ?_;walk_at "g";exact⟨_,by split <;> lia,rfl⟩
  case thenB=>
   walk_at "g";refine kR (by decide) ?_;walk_at "g";refine nK (Eh (by decide) (by decide)) ?_;walk_at "g";refine nK (mul_r (by lia) (by lia)) (rv rfl ?_);walk_at "g";refine rv rfl ?_;walk_at "g";refine nK (mul_r (by decide) (by decide)) ?_;walk_at "g";refine kR (by decide) ?_;walk_at "g";refine nK (Eh (Int.lt_of_lt_of_le (by decide) (Rk _ (by decide))) (Int.lt_trans (RC _ (by decide)) (by decide))) ?_;walk_at "g";refine kR (by decide) ?_;walk_at "g";refine nK (mul_r (by decide) (by decide)) ?_;walk_at "g";refine rv rfl ?_;walk_at "g";refine rv rfl ?_;walk_at "g";refine kR (by decide) ?_;walk_at "g";refine rv rfl (rv rfl ?_);walk_at "g";refine rv (set0 _) ?_;walk_at "g";exact⟨_,Int.add_nonneg (Rk _ (by decide)) (by decide),rfl⟩
structure St(s c:Nat)(cs:List Int)(R:Nat)(h:MH):Prop where
 st:∃n t:Int,h[s]?=some (.lst [.int n,.ob c,.int t])/\0<=n/\0<=t/\t+R<=2^60
 ce:h[c]?=some (.lst (cs.map D.int))
 ne:c≠s
def sX(s:Nat)(h h':MH):Prop:=h'.length=h.length/\∀k,k≠s->h'[k]?=h[k]?
theorem sX.refl(s:Nat)(h:MH):sX s h h:=⟨rfl,λ_ _=>rfl⟩
theorem sX.trans(a:sX s h h1)(b:sX s h1 h2):sX s h h2:=⟨b.1.trans a.1,λk n=>(b.2 k n).trans (a.2 k n)⟩
theorem sX.set:sX s h (h.set s o):=⟨Rf,λk n=>QX (RM n)⟩
section
variable {s c R:Nat} {cs:List Int} {h:MH}
theorem St.le(S:St s c cs R h)(hB:R'<=R):St s c cs R' h:=by
 obtain⟨n,t,e,a,b,d⟩:=S.st;exact⟨⟨n,t,e,a,b,by lia⟩,S.ce,S.ne⟩
theorem St.dn(k:Nat)(S:St s c cs (R+k) h):St s c cs R h:=S.le (QK _ _)
theorem St.set{R':Nat}{n t:Int}(S:St s c cs R h)(h1:0<=n)(h2:0<=t)(h3:t+R'<=2^60):St s c cs R' (h.set s (.lst [.int n,.ob c,.int t])):=by
 obtain⟨n0,t0,e,_⟩:=S.st;exact⟨⟨n,t,QR (Qc.mp e).1,h1,h2,h3⟩,by rw[QX (RM S.ne)];exact S.ce,S.ne⟩
theorem St.more(S:St s c cs R h)(g:MH):St s c cs R (h++g):=by
 obtain⟨n,t,e,r⟩:=S.st;exact⟨⟨n,t,by rw[Qt (Qc.mp e).1];exact e,r⟩,by rw[Qt (Qc.mp S.ce).1];exact S.ce,S.ne⟩
theorem St.off(S:St s c cs R h)(h1:k≠s)(h2:k≠c):St s c cs R (h.set k o):=by
 obtain⟨n,t,e,r⟩:=S.st;exact⟨⟨n,t,by rw[QX h1];exact e,r⟩,by rw[QX h2];exact S.ce,S.ne⟩
theorem St.lt(S:St s c cs R h):s < h.length/\c < h.length:=by
 obtain⟨n,t,e,r⟩:=S.st;exact⟨(Qc.mp e).1,(Qc.mp S.ce).1⟩
structure Sb(s c:Nat)(cs:List Int)(h0:MH)(R:Nat)(h:MH):Prop where
 S:St s c cs R h
 b:sX s h0 h
theorem St.sb(S:St s c cs R h):Sb s c cs h R h:=⟨S,sX.refl _ _⟩
theorem Sb.dn(k:Nat)(A:Sb s c cs h0 (R+k) h):Sb s c cs h0 R h:=⟨A.S.dn k,A.b⟩
theorem Sb.le(A:Sb s c cs h0 R h)(hR:R'<=R):Sb s c cs h0 R' h:=⟨A.S.le hR,A.b⟩
theorem Sb.at_(A:Sb s c cs h0 R h)(e:h0[k]?=some o)(n:k≠s):h[k]?=some o:=(A.b.2 k n).trans e
variable {h0:MH}
theorem fL{m:Int}{Q:D×MH->Prop}(A:Sb s c cs h0 (R+1) h)(m0:0 < m)(m1:m<=10^40)(k:∀(r:Int)(h1:MH),0<=r->r < m->Sb s c cs h0 R h1->Q (.int r,h1)):Rn (aW [.ob s,.int m] h) Q:=by
 have S:=A.S;obtain⟨n,t,hs,n0,t0,tB⟩:=S.st;refine bD ?_;walk_at "g";refine rv (fJ hs rfl) ?_;walk_at "g";refine rv rfl ⟨_,rfl,λ_=>?pos,λ_=>?neg⟩
 case' pos=>
  walk_at "g";obtain⟨p,ep,n',n0',rfl⟩:=BH hs S.ce S.ne t0 (by lia);refine rv ep ?_;have S1:St s c cs R (h.set s (.lst [.int n',.ob c,.int (t+1)])):=S.set n0' (by lia) (by lia);have b1:sX s h (h.set s (.lst [.int n',.ob c,.int (t+1)])):=sX.set
 case' neg=>
  have S1:St s c cs R h:=S.dn 1;have b1:sX s h h:=sX.refl s h
 all_goals
  generalize h.set s (MO.lst [D.int _,D.ob c,D.int (t+1)])=h1 at*;obtain⟨n2,t2,hs2,n02,t02,tB2⟩:=S1.st;walk_at "g";refine rv (fJ hs2 rfl) ?_;walk_at "g";refine kR m0 ?_;walk_at "g";refine rv (fJ hs2 rfl) ?_;walk_at "g";refine IZ m0 m1 ?_;walk_at "g";refine rv (iT (p:=0) hs2 rfl) ?_;walk_at "g";exact k _ _ (Rk _ (by lia)) (RC _ m0) ⟨S1.set (Int.ediv_nonneg n02 (by lia)) t02 tB2,A.b.trans (b1.trans sX.set)⟩
theorem Hj(A:Sb s c cs h0 (R+1) h)(hd:d=.lv xs\/d=.tup xs)(l0:0 < xs.length)(l1:xs.length<=1000000)(k:∀(x:D)(h1:MH),x∈xs->Sb s c cs h0 R h1->Q (x,h1)):Rn (aT [.ob s,d] h) Q:=by
 refine bD ?_;walk_at "g";have e1:cz [d] h=some (.int xs.length,h):=by rcases hd with rfl | rfl <;> rfl
 refine rv e1 ?_;walk_at "g";refine fL A (by lia) (by lia) λr h' r0 r1 A1=>?_;obtain⟨v,e3,hv⟩:=Fm r0 r1;have e4:aP d (.int r) h'=some (v,h'):=by rcases hd with rfl | rfl <;> simp only[aP,dS,dw,QM,e3,QU]
 refine rv e4 ?_;walk_at "g";exact k v h' hv A1
theorem kI{is:List Int}{Q:D×MH->Prop}(P:Int->Prop)(hP:∀i∈is,P i)(A:Sb s c cs h0 (R+1) h)(k:∀(i:Int)(h1:MH),P i->i∈is->Sb s c cs h0 R h1->Q (.int i,h1))(l0:0 < is.length:=by simp)(l1:is.length<=1000:=by simp):Rn (aT [.ob s,.lv (is.map D.int)] h) Q:=
 Hj A (.inl rfl) (by rw[Qb];exact l0) (by rw[Qb];lia) λx h1 hx A1=>by
  obtain⟨i,hi,rfl⟩:=Q2.mp hx;exact k i h1 (hP i hi) hi A1
end
theorem zB(ns:List Int)(hn:ns.length<=63)(R:Nat)(hR:R<=2^60):∃cs:List Int,fY [.ro (ns.map D.int)] []=some (.ob 1,[.lst (cs.map D.int),.lst [.int 0,.ob 0,.int 0]])/\St 1 0 cs R [.lst (cs.map D.int),.lst [.int 0,.ob 0,.int 0]]:=by
 refine⟨(ns.drop (HT.cI ns.length 0 none)).take (HT.cI ns.length ns.length (some 63)-HT.cI ns.length 0 none),?_,⟨⟨0,0,rfl,by decide,by decide,by lia⟩,rfl,by decide⟩⟩;have e:Rn (fY [.ro (ns.map D.int)] []) λp=>p=(.ob 1,[.lst (((ns.drop (HT.cI ns.length 0 none)).take (HT.cI ns.length ns.length (some 63)-HT.cI ns.length 0 none)).map D.int),.lst [.int 0,.ob 0,.int 0]]):=by
  refine bD ?_;walk_at "g";refine Jf ?_;walk_at "g";refine⟨_,rfl,rv rfl ?_⟩;walk_at "g";refine⟨_,_,_,rfl,rfl,?_⟩;walk_at "g";simp only[cutD,Qb,UB,TZ,RI,Rj,QL,Qj]
 obtain⟨p,ep,rfl⟩:=e;exact ep
end Mi
namespace Mi
open PySem Sm L2
theorem bE(hl:a.length+b.length<=10000):az (.str a) (.str b) h=some (.str (a++b),h):=by
 show(if a.length+b.length<=sizeLine then some (D.str (a++b),h) else none)=_;rw[Qf (by rw[show sizeLine=16777216 from rfl];lia)]
theorem EI(hl:a.length<=10000):cz [.str a] h=some (.int a.length,h):=by
 show(if a.length<=sizeLine then some (D.int a.length,h) else none)=_;rw[Qf (by rw[show sizeLine=16777216 from rfl];lia)]
theorem x9(hl:a.length<=10000):iS (.str a) lo hi h=some (.str (Txt.slice a lo hi),h):=by
 show(if a.length<=sizeLine then some (D.str (Txt.slice a lo hi),h) else none)=_;rw[Qf (by rw[show sizeLine=16777216 from rfl];lia)]
noncomputable def sN(z:Str)(i:Int):Str:=match gz z.cps.toList i with
 | some c=>⟨#[c]⟩
 | none=>""
theorem G3(hl:z.length<=10000)(h0:0<=i)(h1:i < z.cps.toList.length):(sN z i).length=1/\aP (.str z) (.int i) h=some (.str (sN z i),h):=by
 obtain⟨v,e,_⟩:=Fm (xs:=z.cps.toList) h0 h1;have e1:sN z i=⟨#[v]⟩:=by unfold sN;rw[e]
 rw[e1];refine⟨rfl,?_⟩;show(if z.length<=sizeLine then(gz z.cps.toList i).map λc=>(D.str ⟨#[c]⟩,h) else none)=_;rw[Qf (by rw[show sizeLine=16777216 from rfl];lia),e];rfl
noncomputable def fk:Str:="abcdefghijklmnopqrstuvwxyz"
theorem lj(h0:0<=i)(h1:i < 26):(sN fk i).length=1/\aP (.str "abcdefghijklmnopqrstuvwxyz") (.int i) h=some (.str (sN fk i),h):=
 G3 (z:=fk) (by decide) h0 (by rw[show(fk.cps.toList.length:Int)=26 by decide];exact h1)
def low(w:Str):Prop:=∀c∈w.cps,97<=c/\c<=122
theorem GK:low "":=λc hc=>absurd (show c∈(#[]:Array Nat) from hc) (by simp)
theorem vX(ha:low a)(hb:low b):low (a++b):=by
 intro c hc;have hc':c∈a.cps++b.cps:=hc;rcases Array.mem_append.mp hc' with z | z
 ·exact ha c z
 ·exact hb c z
theorem uy(l u:Option Int)(h:low x):low (Txt.slice x l u):=by
 unfold Txt.slice
 split
 ·exact h
 ·intro c hc;have hc':c∈(List.filterMap (x.cps[·]?) (Builtin.Str.strSliceIndices l u 1 x.length)).toArray:=hc;rw[List.mem_toArray] at hc';obtain⟨i,_,e⟩:=RB.mp hc';exact h c (UX e)
theorem Kc(h:low w):PyData.strOk w=true:=jO.mpr λc hc=>by have:=(h c hc).2;exact Rl this (by decide)
theorem zq:fk.cps.toList=(List.range 26).map (97+·):=by decide+kernel
theorem wx(h0:0<=i)(h1:i < 26):sN fk i=⟨#[97+i.toNat]⟩:=by
 obtain⟨n,rfl⟩:=Rr h0;have:gz fk.cps.toList (n:Int)=some (97+n):=by
  rw[zq];exact qy (by rw[Qx,List.getElem?_range (by exact Tw.mp h1)];rfl)
 unfold sN;rw[this];rfl
theorem yo(h0:0<=i)(h1:i < 26):low (sN fk i):=by
 rw[wx h0 h1];intro c hc;have:c=97+i.toNat:=by simpa using hc
 lia
theorem w9(h0:0<=j):(Txt.slice x none (some j)).length<=j.toNat:=by
 have key:(Builtin.Str.strSliceIndices none (some j) 1 x.length).length<=j.toNat:=by
  unfold Builtin.Str.strSliceIndices sliceRange;simp only[show(1:Int) > 0 by decide,Tj,Qb,QO]
  (split <;> (try split) <;> (try split) <;> (try simp only[US]) <;> lia)
 unfold Txt.slice
 split
 ·next z=>simp at z;have:x.cps.size=x.length:=rfl;lia
 ·show(List.filterMap _ (Builtin.Str.strSliceIndices none (some j) 1 x.length)).toArray.size<=_;rw[Qu];exact Qr (Tq _ _) key
theorem w5(h0:0<=j):(Txt.slice x (some j) none).length<=x.length-j.toNat:=by
 have key:(Builtin.Str.strSliceIndices (some j) none 1 x.length).length<=x.length-j.toNat:=by
  unfold Builtin.Str.strSliceIndices sliceRange;simp only[show(1:Int) > 0 by decide,Tj,Qb,QO]
  (split <;> (try split) <;> (try split) <;> (try simp only[US]) <;> lia)
 unfold Txt.slice
 split
 ·next z=>simp at z;have:x.cps.size=x.length:=rfl;lia
 ·show(List.filterMap _ (Builtin.Str.strSliceIndices (some j) none 1 x.length)).toArray.size<=_;rw[Qu];exact Qr (Tq _ _) key
theorem zI{a b x y:Str}(e:a++x++b=a++y++b):x=y:=by
 have e1:(a.cps++x.cps)++b.cps=(a.cps++y.cps)++b.cps:=congrArg Str.cps e;have e2:=congrArg Array.toList e1;simp only[Tc] at e2;have e3:=List.append_cancel_left (List.append_cancel_right e2);cases x;cases y;exact congrArg Str.mk (Array.toList_inj.mp e3)
noncomputable def wordAt(stem:Str)(at_ first stride:Int)(k:Int):Str:=Txt.slice stem none (some at_)++sN fk ((first+stride*k) % 26)++Txt.slice stem (some at_) none
theorem Cz{stem:Str}{at_ first stride:Int}{k j:Nat}(hs:stride∈[1,3,5,7,9,11])(hk:k < 6)(hj:j < 6)(e:wordAt stem at_ first stride k=wordAt stem at_ first stride j):k=j:=by
 have e1:=zI (show Txt.slice stem none (some at_)++_++Txt.slice stem (some at_) none=Txt.slice stem none (some at_)++_++_ from e);rw[wx (Rk _ (by decide)) (RC _ (by decide)),wx (Rk _ (by decide)) (RC _ (by decide))] at e1;have e2:97+((first+stride*k) % 26).toNat=97+((first+stride*j) % 26).toNat:=by injection e1 with e1;injection e1 with e1;injection e1
 have e3:(first+stride*k) % 26=(first+stride*j) % 26:=by
  have a1:=Rk (first+stride*k) (show(26:Int)≠0 by decide);have a2:=Rk (first+stride*j) (show(26:Int)≠0 by decide);rw[<-Tb a1,<-Tb a2,Nat.add_left_cancel e2]
 have e4:=Int.emod_eq_emod_iff_emod_sub_eq_zero.mp e3;rw[show first+stride*(k:Int)-(first+stride*(j:Int))=stride*((k:Int)-(j:Int)) by rw[Int.mul_sub,Int.add_sub_add_left]] at e4;exact(by decide:∀s∈([1,3,5,7,9,11]:List Int),∀k:Nat,k < 6->∀j:Nat,j < 6->(s*((k:Int)-(j:Int))) % 26=0->k=j) stride hs k hk j hj e4
theorem wC{h:MH}{s c R:Nat}{cs:List Int}{m:Int}{h0:MH}{Q:D×MH->Prop}(A:Sb s c cs h0 (R+20) h)(m0:0<=m)(m1:m<=6)
  (kk:∀(ws:List Str)(h1:MH),ws.length=m.toNat->(∀w∈ws,1<=w.length/\w.length<=7/\low w)->ws.Nodup->Sb s c cs h0 R h1->Q (.lv (ws.map D.str),h1)):Rn (eI [.ob s,.int m] h) Q:=by
 refine bD ?_;walk_at "g";refine gU ?_;walk_at "g";refine kI (is:=[0,1,1,2,3,6]) (λi=>0<=i/\i<=6) (by decide) A λk h1 hk _ A1=>?_;walk_at "g";refine⟨k,rfl,by exact Ro (by decide) hk.1,by exact R3 hk.2 (by decide),?_⟩;refine cD (λi δ h'=>∃stem d4,δ=[some (.ob s),some (.int m),some (.str "abcdefghijklmnopqrstuvwxyz"),some (.str stem),d4,none,none,none]/\stem.length<=i/\low stem/\Sb s c cs h0 (R+19-i) h')
  ⟨"",_,rfl,Qg _,GK,A1⟩ (λ_ _ _ _ _=>rfl) ?_ ?_
 ·rintro i x δ h2 hx ⟨stem,d4,rfl,hst,a8,A2⟩;have hi:i < k.toNat:=by
   have:=(Qc.mp hx).1
   simpa using this
  rw[show R+19-i=R+19-(i+1)+1 by lia] at A2;walk_at "g";refine fL A2 (by decide) (by decide) λr h3 r0 r1 A3=>?_;walk_at "g";obtain⟨hc,e4⟩:=lj (h:=h3) r0 r1;refine rv e4 ?_;walk_at "g";refine rv (bE (by lia)) ?_;walk_at "g";exact⟨stem++sN fk r,_,rfl,by rw[QV];lia,vX a8 (yo r0 r1),A3⟩
 ·rintro δ h2 ⟨stem,d4,rfl,hst,a8,A2⟩;rw[Qb,QO] at hst A2;have A2:Sb s c cs h0 (R+3) h2:=A2.le (by lia);walk_at "g";refine rv (EI (by lia)) ?_;walk_at "g";refine rv (a:=(.int ((stem.length:Int)+1),h2)) rfl ?_;walk_at "g";refine fL A2 (by simp) (by lia) λat_ h3 a0 a1 A3=>?_
  walk_at "g";refine fL A3 (by decide) (by decide) λfirst h4 f0 f1 A4=>?_
  walk_at "g";refine kI (is:=[1,3,5,7,9,11]) (λi=>0<=i/\i<=11) (by decide) A4 λstride h5 ht tm A5=>?_;obtain⟨t0,t1⟩:=ht;walk_at "g";refine gU ?_;walk_at "g";refine⟨m,rfl,by exact Ro (by decide) m0,by exact R3 m1 (by decide),?_⟩;have hw:∀k:Int,1<=(wordAt stem at_ first stride k).length/\(wordAt stem at_ first stride k).length<=7/\low (wordAt stem at_ first stride k):=by
   intro k;have c0:=Rk (first+stride*k) (show(26:Int)≠0 by decide);have c1:=RC (first+stride*k) (show(0:Int) < 26 by decide);obtain⟨hc,e⟩:=lj (i:=(first+stride*k) % 26) (h:=[]) c0 c1;have s1:=w9 (x:=stem) a0;have s2:=w5 (x:=stem) a0;have s3:low (wordAt stem at_ first stride k):=vX (vX (uy _ _ a8) (yo c0 c1)) (uy _ _ a8);refine(λ(z:_/\_)=>⟨z.1,z.2,s3⟩) ?_;unfold wordAt;rw[QV,QV]
   lia
  refine rv (vF rfl (λx=>match x with | .int k=>some (.str (wordAt stem at_ first stride k)) | _=>none) (λδ=>∃d0,δ=[d0,some (.int at_),some (.int first),some (.str "abcdefghijklmnopqrstuvwxyz"),some (.str stem),some (.int stride)]) ⟨_,rfl⟩ ?_) ⟨?_,?_⟩
  ·rintro x hx δ ⟨d0,rfl⟩;obtain⟨k,hk,rfl⟩:=Q2.mp hx;refine rv rfl ⟨rfl,rv rfl ⟨rfl,⟨_,rfl⟩,λ_=>⟨_,rfl,?_⟩,λz=>(nomatch z)⟩⟩;refine mx (mx (y2 ?_));walk_at "g";refine⟨_,rfl,rv (x9 (a:=stem) (by lia)) ?_⟩;walk_at "g";refine nK (Eh (by exact Ro (by decide) t0) (by exact R3 t1 (by decide))) ?_;refine rv (a:=(.int (first+stride*(k:Int)),h5)) rfl ?_;walk_at "g";refine kR (by decide) ?_;obtain⟨hc,e⟩:=lj (i:=(first+stride*(k:Int)) % 26) (h:=h5) (Rk _ (by decide)) (RC _ (by decide));have s1:=Txt.slice_le stem none (some at_);have s2:=Txt.slice_le stem (some at_) none;refine rv e (rv (bE (by lia)) ?_);refine y2 ?_;walk_at "g";refine⟨_,rfl,?_⟩;walk_at "g";refine rv (x9 (a:=stem) (by lia)) (rv (bE (by rw[QV];lia)) ?_);rfl
  ·rw[Tg];exact Qr (Tq _ _) (by rw[QO,show sizeLine=16777216 from rfl];lia)
  ·walk_at "g";rw[show List.filterMap (λx=>match x with | D.int k=>some (D.str (wordAt stem at_ first stride k)) | _=>none) ((List.range m.toNat).map λ(k:Nat)=>D.int k)=((List.range m.toNat).map λ(k:Nat)=>wordAt stem at_ first stride (k:Int)).map D.str by
    rw[Tg,Ra];exact congrFun (UW (f:=D.str∘λ(k:Nat)=>wordAt stem at_ first stride (k:Int))) _]
   refine kk _ h5 (by simp) (λw hw'=>?_) ?_ A5
   ·obtain⟨k,_,rfl⟩:=Q2.mp hw';exact hw k
   ·rw[List.nodup_iff_pairwise_ne,List.pairwise_map];refine(List.nodup_range (n:=m.toNat)).imp_of_mem λ{a b} ha hb hab e=>hab ?_;have:=RQ.mp ha;have:=RQ.mp hb;exact Cz tm (by lia) (by lia) e
theorem sX.app{s:Nat}{hb h2:MH}{o:MO}(b:sX s (hb++[o]) h2)(hs:s < hb.length):∃hb',h2=hb'++[o]/\sX s hb hb':=by
 have hl:h2.length=hb.length+1:=by rw[b.1];simp
 refine⟨h2.take hb.length,?_,by rw[QB];lia,λk hk=>?_⟩
 ·refine Vg λk=>?_
  by_cases z:k < hb.length
  ·rw[Qt (by rw[QB];lia),QQ z]
  ·by_cases z2:k=hb.length
   ·subst z2;rw[b.2 _ (by exact Tv hs),Qv (Qg _),Qv (by rw[QB];lia),QB];rw[show min hb.length h2.length=hb.length by lia]
   ·rw[Q7 (by lia),Q7 (by rw[Qk,QB];simp;lia)]
 ·by_cases z:k < hb.length
  ·rw[QQ z,b.2 k hk,Qt z]
  ·rw[Q7 (by rw[QB];lia),Q7 (by exact RA z)]
theorem St.cut{s c:Nat}{cs:List Int}{B:Nat}{hb g:MH}(S:Mi.St s c cs B (hb++g))(h1:s < hb.length)(h2:c < hb.length):Mi.St s c cs B hb:=by
 obtain⟨n,t,e,r⟩:=S.st;have e2:=S.ce;rw[Qt h1] at e;rw[Qt h2] at e2;exact⟨⟨n,t,e,r⟩,e2,S.ne⟩
def Cl(h:MH):Prop:=∀o∈h,yB h.length o=true
theorem AK(n:Nat):∀js:List Int,fz n (js.map D.int)=true
 | []=>rfl
 | j::r=>by rw[Qp];show(gX n (.int _)&&fz n _)=true;rw[AK n r];rfl
theorem Cl.but{s c:Nat}{cs:List Int}{B:Nat}{h h':MH}(C:Cl h)(S:Mi.St s c cs B h')(b:sX s h h'):Cl h':=by
 intro o ho;obtain⟨k,hk⟩:=RD.mp ho
 by_cases z:k=s
 ·subst z;obtain⟨n,t,e,_⟩:=S.st;rw[e] at hk;cases hk;show(true&&(decide (c < h'.length)&&(true&&true)))=true;rw[QP S.lt.2];rfl
 ·rw[b.2 k z] at hk;rw[b.1];exact C o (Qd hk)
theorem rX{h hb g:MH}{d:D}(hl:hb.length=h.length)(C:Cl hb)(h1:∀n,d≠.ob n)(h2:gX h.length d=true):leave h d (hb++g)=some (d,hb):=by
 have h3:yK h.length (hb++g) d=d:=by
  cases d with
  | ob n=>exact absurd rfl (h1 n)
  | _=>rfl
 unfold leave;rw[h3,<-hl,S8 (Qg _),Q9,hl,h2];have:(hb.all (yB h.length))=true:=by
  rw[RU];intro o ho;rw[<-hl];exact C o ho
 rw[this,Bool.or_true];rfl
theorem O3{n:Nat}{o:MO}{h:MH}(e:h[n]?=some o):pW [(n,o)] h=true:=by
 unfold pW;rw[e];dsimp only;rw[uS];rfl
theorem Cl.add{h:MH}(C:Cl h){o:MO}(ho:yB (h.length+1) o=true)(up:∀o∈h,yB h.length o=true->yB (h.length+1) o=true):Cl (h++[o]):=by
 intro x hx;rw[Qk,TH];rcases Qy.mp hx with z | z
 ·exact up x z (C x z)
 ·rw[Qw.mp z];exact ho
mutual
theorem E8{n m:Nat}(hm:n<=m):∀d:D,gX n d=true->gX m d=true
 | .cu,_=>rfl
 | .bl _,_=>rfl
 | .int _,_=>rfl
 | .str _,_=>rfl
 | .ty _,_=>rfl
 | .ob k,h=>by simp only[gX,QY] at h ⊢;exact Qr h hm
 | .tup xs,h=>by simp only[gX] at h ⊢;exact ly hm xs h
 | .lv xs,h=>by simp only[gX] at h ⊢;exact ly hm xs h
 | .ro xs,h=>by simp only[gX] at h ⊢;exact ly hm xs h
 | .dv xs,h=>by simp only[gX] at h ⊢;exact zF hm xs h
theorem ly{n m:Nat}(hm:n<=m):∀d:List D,fz n d=true->fz m d=true
 | [],_=>rfl
 | x::r,h=>by
  simp only[fz,QN] at h ⊢;exact⟨E8 hm x h.1,ly hm r h.2⟩
theorem zF{n m:Nat}(hm:n<=m):∀d:List (Key×D),Hf n d=true->Hf m d=true
 | [],_=>rfl
 |(_,x)::r,h=>by
  simp only[Hf,QN] at h ⊢;exact⟨E8 hm x h.1,zF hm r h.2⟩
end
theorem KQ{n m:Nat}(hm:n<=m)(o:MO)(h:yB n o=true):yB m o=true:=by
 cases o with
 | lst xs=>exact ly hm xs h
 | dct xs=>exact zF hm xs h
 | dcH xs=>have h:=QE.mp h;exact QE.mpr ⟨ly hm _ h.1,ly hm _ h.2⟩
 | exc _=>rfl
theorem Cl.snoc{h:MH}(C:Cl h){o:MO}(ho:yB (h.length+1) o=true):Cl (h++[o]):=C.add ho λx _ z=>KQ (RN _) x z
theorem Cl.set{h:MH}(C:Cl h){n:Nat}{o:MO}(ho:yB h.length o=true):Cl (h.set n o):=by
 intro x hx;rw[Rf];rcases List.mem_or_eq_of_mem_set hx with z | z
 ·exact C x z
 ·rw[z];exact ho
theorem KR{n:Nat}:∀{xs:List D},(∀x∈xs,gX n x=true)->fz n xs=true
 | [],_=>rfl
 | x::r,h=>by
  show(gX n x&&fz n r)=true;rw[h x Qh,KR λy hy=>h y (Qi _ hy)];rfl
end Mi
namespace Sm
open PySem L2
theorem bS{α:Type}{o:Option α}{a:α}(r:Rn o λp=>p=a):o=some a:=let⟨_,e,q⟩:=r;by rw[e,q]
theorem su(hl:xs.length+ys.length<=10000):az (.tup xs) (.tup ys) h=some (.tup (xs++ys),h):=by
 cases xs with
 | nil=>rfl
 | cons x xs=>
  show(if xs.length+1+ys.length<=sizeLine then some (D.tup (x::xs++ys),h) else none)=_;rw[Qf (by rw[show sizeLine=16777216 from rfl];rw[Qj] at hl;exact Qr hl (by decide))]
theorem tt(a:A):(true=true->A)/\(true=false->B):=⟨λ_=>a,λz=>(nomatch z)⟩
theorem ff(b:B):(false=true->A)/\(false=false->B):=⟨λz=>(nomatch z),λ_=>b⟩
end Sm
namespace Mi
open PySem Sm L2 Pg
noncomputable def ny(W:Wd)(fl:List Int)(left odd:Int):MO:=.dct [(.inr (Str.ofString "names"),.lv (W.names.map D.str)),(.inr (Str.ofString "deeds"),.lv (W.ai.map D.str)),(.inr (Str.ofString "params"),.lv (W.params.map λps=>.lv (ps.map D.str))),(.inr (Str.ofString "floors"),.lv (fl.map D.int)),(.inr (Str.ofString "left"),.int left),(.inr (Str.ofString "odd"),.int odd)]
structure pX(W:Wd)(fl:List Int)(odd:Int):Prop where
 n1:1<=W.names.length
 n2:W.names.length<=6
 d1:1<=W.ai.length
 d2:W.ai.length<=6
 pl:W.params.length=W.ai.length
 p3:∀ps∈W.params,ps.length<=3
 OW:fl.length=W.ai.length
 f0:∀f∈fl,0<=f/\f < W.names.length
 o0:0<=odd
 o1:odd<=1000
 sn:∀w∈W.names,1<=w.length/\w.length<=7/\low w
 sd:∀w∈W.ai,1<=w.length/\w.length<=7/\low w
 sp:∀ps∈W.params,∀w∈ps,1<=w.length/\w.length<=7/\low w
 nn:W.names.Nodup
 nd:W.ai.Nodup
 np:∀ps∈W.params,ps.Nodup
section
variable {h:MH} {wd:Nat} {W:Wd} {fl:List Int} {left odd:Int}
theorem dW(hw:h[wd]?=some (ny W fl left odd)):aP (.ob wd) (.str (Str.ofString "names")) h=some (.lv (W.names.map D.str),h):=by simp only[aP,dS,hw,ny];rfl
theorem dX(hw:h[wd]?=some (ny W fl left odd)):aP (.ob wd) (.str (Str.ofString "deeds")) h=some (.lv (W.ai.map D.str),h):=by simp only[aP,dS,hw,ny];rfl
theorem cZ(hw:h[wd]?=some (ny W fl left odd)):aP (.ob wd) (.str (Str.ofString "params")) h=some (.lv (W.params.map λps=>.lv (ps.map D.str)),h):=by simp only[aP,dS,hw,ny];rfl
theorem nB(hw:h[wd]?=some (ny W fl left odd)):aP (.ob wd) (.str (Str.ofString "floors")) h=some (.lv (fl.map D.int),h):=by simp only[aP,dS,hw,ny];rfl
theorem pZ(hw:h[wd]?=some (ny W fl left odd)):aP (.ob wd) (.str (Str.ofString "left")) h=some (.int left,h):=by simp only[aP,dS,hw,ny];rfl
theorem yG(hw:h[wd]?=some (ny W fl left odd)):aP (.ob wd) (.str (Str.ofString "odd")) h=some (.int odd,h):=by simp only[aP,dS,hw,ny];rfl
theorem CA(hw:h[wd]?=some (ny W fl left odd))(v:Int):tU (.ob wd) (.str (Str.ofString "left")) (.int v) h=some (h.set wd (ny W fl v odd)):=by
 have h1:(6:Nat) < sizeLine:=by decide
 simp only[tU,hw,ny,vZ,QM,Qj,RI];rw[Qf h1];rfl
end
section
variable {h h0:MH} {s c wd R:Nat} {cs:List Int} {W:Wd} {fl:List Int} {left odd:Int} {Q:D×MH->Prop}
theorem Fd(A:Sb s c cs h0 (R+1) h)(hw:h[wd]?=some (ny W fl left odd))(ok:pX W fl odd)(k:∀(b:Bool)(h1:MH),Sb s c cs h0 R h1->Q (.bl b,h1)):Rn (dA [.ob s,.ob wd] h) Q:=by
 refine bD ?_;nofun;refine rv (yG hw) ?_;nofun;refine⟨_,rfl,λz=>?_,λz=>?_⟩
 ·nofun;refine rv (yG hw) ?_;nofun;refine fL A (Q8 z) (by have:=ok.o1;exact Ro this (by decide)) λm h1 _ _ A1=>?_;nofun;exact k _ _ A1
 ·nofun;exact k _ _ (A.dn 1)
theorem wD{ps:List Str}(A:Sb s c cs h0 (R+4) h)(hp:ps.length<=3)(k:∀(t:Term)(h1:MH),eU ps t->t.2<=40->Sb s c cs h0 R h1->Q (bp t,h1)):Rn (bX [.ob s,.lv (ps.map D.str)] h) Q:=by
 refine bD ?_;nofun;refine fL A (by decide) (by decide) λm h1 m0 m1 A1=>?_;nofun;have plain:∀{h2:MH} {P:D×MH->Prop},Sb s c cs h0 (R+1) h2->(∀(i:Int)(h3:MH),-40<=i/\i<=40->Sb s c cs h0 R h3->P (.int i,h3))->Rn (aT [.ob s,.lv [.int 0,.int 0,.int 1,.int 1,.int 2,.int 3,.int (-1),.int (m-40)]] h2) P:=λA2 kk=>
  kI (is:=[0,0,1,1,2,3,-1,m-40]) (λi=>-40<=i/\i<=40) (by intro x hx;simp at hx;lia) A2 λi h3 hi _ A3=>kk i h3 hi A3
 refine⟨_,rfl,λz=>?_,λz=>⟨λz=>(nomatch z),λ_=>?_⟩⟩
 ·have z:0 < ps.length:=by simpa using z
  nofun;refine fL A1 (by decide) (by decide) λm2 h2 _ _ A2=>?_;nofun;refine⟨_,rfl,λ_=>?_,λ_=>?_⟩
  ·nofun;refine Hj A2 (.inl rfl) (by simpa using z) (by simp;lia) λd3 h3 hd3 A3=>?_;obtain⟨w,hw,rfl⟩:=Q2.mp hd3;nofun;refine kI (is:=[0,0,0,0,1,1,-1,2,m-40]) (λi=>-40<=i/\i<=40) (by intro x hx;simp at hx;lia) A3 λi h4 hi _ A4=>?_;nofun;exact k (w,i) h4 ⟨.inr hw,by dsimp only;exact Ro (by decide) hi.1,by dsimp only;exact Ro hi.2 (by decide)⟩ hi.2 A4
  ·nofun;refine plain (A2.dn 1) λi h3 hi A3=>?_;nofun;exact k (Str.ofString "",i) h3 ⟨.inl rfl,by dsimp only;exact Ro (by decide) hi.1,by dsimp only;exact Ro hi.2 (by decide)⟩ hi.2 A3
 ·nofun;refine plain (A1.dn 2) λi h3 hi A3=>?_;nofun;exact k (Str.ofString "",i) h3 ⟨.inl rfl,by dsimp only;exact Ro (by decide) hi.1,by dsimp only;exact Ro hi.2 (by decide)⟩ hi.2 A3
end
theorem bL{α:Type}{xs:List α}{f:α->D}{h:MH}{j:Nat}{x:α}(e:xs[j]?=some x):aP (.lv (xs.map f)) (.int j) h=some (f x,h):=by
 have hj:j < xs.length:=by
  rcases Nat.lt_or_ge j xs.length with z | z
  ·exact z
  ·rw[Q7 z] at e;cases e
 show((gz (xs.map f) j).map λz=>(z,h))=_;have:gz (xs.map f) j=some (f x):=by
  unfold gz;rw[show rZ (xs.map f).length j=some j by unfold rZ;simp;exact hj];show(xs.map f)[j]?=_;rw[Qx,e];rfl
 rw[this];rfl
theorem fW(i j:Int)(h:MH):sr [.int i,.int j] h=some (.int (max i j),h):=by
 show some (D.int (if j > i then j else i),h)=_;rw[show(if j > i then j else i)=max i j by split <;> lia]
theorem G2(i j:Int)(h:MH):EH [.int i,.int j] h=some (.int (min i j),h):=by
 show some (D.int (if j < i then j else i),h)=_;rw[show(if j < i then j else i)=min i j by split <;> lia]
theorem Aw{α:Type}{o:Option Bool}{x y:Option α}{X Y:α->Prop}(r:∃c,o=some c/\(c=true->Rn x Y)/\(c=false->Rn y Y))(f:∀p,Y p->X p):∃c,o=some c/\(c=true->Rn x X)/\(c=false->Rn y X):=
 let⟨c,e,a,b⟩:=r
 ⟨c,e,λz=>(a z).imp f,λz=>(b z).imp f⟩
noncomputable def qF(t:Term):PyData:=.tuple [.str t.1,.int t.2]
theorem ub:∀ts:List Term,oO (ts.map bp)=some (ts.map qF)
 | []=>rfl
 | c::r=>by simp only[Qp,oO,ub r,bp,vH,QM,QU];rfl
theorem pz:∀ts:List Term,PyData.depthAll (ts.map qF)<=1
 | []=>by simp[PyData.depthAll]
 | c::r=>by
  have:=pz r;simp only[Qp,PyData.depthAll,qF,PyData.depth]
  lia
theorem zw(ts:List Term)(h:MH):mU (.lv (ts.map bp)) (.lv []) h=some (.bl (!ts.isEmpty),h):=by
 have:=pz ts;simp only[mU,HV,dS,HU,z9,ub,vH,oO,QU,QM];rw[Qf ⟨show PyData.depthAll _+1<=64 by exact Rl this (by decide),by decide⟩];cases ts <;> rfl
section
variable {h h0:MH} {s c wd R:Nat} {cs:List Int} {W:Wd} {fl:List Int} {left odd:Int} {Q:D×MH->Prop}
theorem KY{ps:List Str}{j:Nat}{top:Int}{held:List Lock}(A:Sb s c cs h0 (R+10) h)(hw0:h0[wd]?=some (ny W fl left odd))(hne:wd≠s)(ok:pX W fl odd)(hp:W.params[j]?=some ps)(hj:j < W.ai.length)(ht:top<=W.names.length)(hh:∀l∈held,fH W ps l)(hl:held.length<=1000)
  (k1:∀(k:Int)(l:Lock)(h1:MH),max top (fl[j]?.getD 0) < W.names.length->0<=k->k < W.names.length->fH W ps l->Sb s c cs h0 R h1->Q (.tup [.int k,aF l],h1))
  (k2:∀(h1:MH),max top (fl[j]?.getD 0)=W.names.length->Sb s c cs h0 R h1->Q (.tup [.cu,.cu],h1)):Rn (fB [.ob s,.ob wd,.int j,.int top,.lv (held.map aF)] h) Q:=by
 have hw:=A.at_ hw0 hne;obtain⟨f,hf⟩:∃f,fl[j]?=some f:=⟨_,QA (by rw[ok.OW];exact hj)⟩;have hfm:=ok.f0 f (Qd hf);have n2:=ok.n2;rw[hf] at k1 k2;dsimp only[Option.getD_some] at k1 k2;refine bD ?_;nofun;refine rv (nB hw) ?_;nofun;refine rv (bL hf) ?_;nofun;refine rv (fW top f h) ?_;have lo0:0<=max top f:=by lia
 have lo1:max top f<=W.names.length:=by lia
 generalize max top f=lo at lo0 lo1 k1 k2 ⊢;nofun;refine rv (dW hw) ?_;nofun;refine⟨_,rfl,λz=>?_,λz=>?_⟩
 ·have z:lo=W.names.length:=by simpa using z
  nofun;exact k2 h z (A.dn 10)
 have z:lo≠W.names.length:=by simpa using z
 have z0:lo < W.names.length:=by lia
 have k1:=λk l h1=>k1 k l h1 z0;clear k2;nofun;refine rv (dW hw) ?_;nofun;simp only[Qb];refine fL A (by lia) (by lia) λm h1 m0 m1 A1=>?_;nofun;refine Fd A1 (A1.at_ hw0 hne) ok λb h2 A2=>?_;nofun;refine Aw (Y:=λr=>∃(k:Int)(h3:MH),r=(Fl.nx,[some (.ob s),some (.ob wd),some (.int j),some (.int top),some (.lv (held.map aF)),some (.int lo),some (.int k),none,none,none,none],h3)/\0<=k/\k < W.names.length/\Sb s c cs h0 (R+7) h3) ?_ ?_
 ·refine⟨b,rfl,λ_=>?_,λ_=>?_⟩
  ·nofun;refine rv (dW (A2.at_ hw0 hne)) ?_;nofun;simp only[Qb];refine fL A2 (by exact R3 hfm.1 hfm.2) (by lia) λk h3 k0 k1 A3=>?_;exact⟨k,h3,rfl,k0,k1,A3⟩
  ·nofun;exact⟨lo+m,h2,rfl,by lia,by lia,A2.dn 1⟩
 rintro _ ⟨k,h3,rfl,k0,kL,A3⟩;have hw3:=A3.at_ hw0 hne;have k1:=λl h1=>k1 k l h1 k0 kL;obtain⟨kn,rfl⟩:=Rr k0;obtain⟨nm,hnm⟩:∃f,W.names[kn]?=some f:=⟨_,QA (by exact Tw.mp kL)⟩;show Rn _ _;nofun;refine rv (dW hw3) ?_;nofun;refine rv (bL hnm) ?_;nofun;refine eR ?_;nofun;refine⟨_,_,rfl,?_⟩;obtain⟨⟨ys,h4⟩,e4,hyl,hym,δ4,hh4,_⟩:=qj (ws:=[]) (g:=gN 0) (c:=aE (ao cF (ao aP (ax 0) (eK (D.int 0))) (ax 1))) (e:=ao aP (ax 0) (eK (D.int 1))) (λx y=>∃l∈held,x=aF l/\y=bp l.2)
  (xs:=held.map aF) (δ:=[none,some (.str nm)]) (h:=h3) (λj δ h'=>h'=h3/\∃d0,δ=[d0,some (.str nm)]) ⟨rfl,_,rfl⟩ (λ_ _ _ _ _=>rfl) (by
   rintro i x δ h' hx ⟨rfl,d0,rfl⟩;obtain⟨l,hl,rfl⟩:=Q2.mp (Qd hx);nofun;refine rv (a:=(.str l.1,_)) rfl ?_;nofun;refine⟨_,rfl,λ_=>?_,λ_=>⟨rfl,_,rfl⟩⟩;nofun;exact rv (a:=(bp l.2,_)) rfl ⟨⟨l,hl,rfl,rfl⟩,rfl,_,rfl⟩)
 dsimp only at hh4;subst hh4;refine rv e4 ⟨Qr hyl (by rw[Qb,show sizeLine=16777216 from rfl];exact Qr hl (by decide)),?_⟩;obtain⟨ts,rfl,htm⟩:∃ts:List Term,ys=ts.map bp/\∀t∈ts,eU ps t:=by
  clear e4 hyl
  induction ys with
  | nil=>exact⟨[],rfl,λ_ z=>(nomatch z)⟩
  | cons y r ih=>
   obtain⟨js,rfl,h1⟩:=ih λz hz=>hym z (Qi _ hz);obtain⟨x,hx,l,hl,rfl,rfl⟩:=hym y Qh;exact⟨l.2::js,rfl,Si.mpr ⟨(hh l hl).2,h1⟩⟩
 nofun;have pl:=ok.p3 ps (Qd hp);refine rv (zw ts _) ⟨_,rfl,λz=>?_,λz=>⟨λz=>(nomatch z),λ_=>?_⟩⟩
 ·nofun;refine Fd A3 hw3 ok λb' h5 A5=>⟨_,rfl,λ_=>?_,λ_=>?_⟩
  ·have hts:ts≠[]:=by rintro rfl;cases z
   obtain⟨us,last,rfl⟩:∃us last,ts=us++[last]:=⟨ts.dropLast,ts.getLast hts,(List.dropLast_concat_getLast hts).symm⟩;have hlast:=htm last (by simp);nofun;refine rv (a:=(bp last,_)) (by
    show((gz ((us++[last]).map bp) (-1)).map λz=>(z,h5))=_;rw[Qs];show((gz (us.map bp++[bp last]) (-1)).map λz=>(z,h5))=_;rw[Fo];rfl) ?_
   nofun;refine rv (a:=_) rfl ?_;nofun;refine fL A5 (by decide) (by decide) λm6 h6 m60 m61 A6=>?_;nofun;refine rv (G2 _ _ _) ?_;nofun;exact k1 (nm,(last.1,min 99 (last.2+1+m6))) h6 ⟨Qd hnm,hlast.1,by dsimp only;have:=hlast.2;lia,by dsimp only;lia⟩ (A6.dn 5)
  ·nofun;refine rv (cZ (A5.at_ hw0 hne)) ?_;nofun;refine rv (bL hp) ?_;nofun;refine wD (A5.dn 2) pl λt h6 tk _ A6=>?_;nofun;exact k1 (nm,t) h6 ⟨Qd hnm,tk⟩ A6
 ·nofun;refine rv (cZ hw3) ?_;nofun;refine rv (bL hp) ?_;nofun;refine wD (A3.dn 3) pl λt h6 tk _ A6=>?_;nofun;exact k1 (nm,t) h6 ⟨Qd hnm,tk⟩ A6
end
theorem yb(cs:List Int)(h:MH):cF (.lv (cs.map D.int)) (.lv []) h=some (.bl cs.isEmpty,h):=by
 simp only[cF,HV,dS,HU,z9,rA,vH,oO,QU,QM,PyData.depth,lr];cases cs <;> rfl
theorem Jk(r:Rn (m δ h) λp=>∃j:Int,p.1=[.int j]/\0<=j/\j<=1000/\Q ((List.range j.toNat).map λ(k:Nat)=>D.int (k:Int),p.2)):Rn (K5 m δ h) Q:=aY (r.imp λp ⟨j,e,h1,h2,q⟩=>by
 rw[e];dsimp only;rw[Qf ⟨h1,h2⟩];exact⟨_,rfl,q⟩)
section
variable {h h0:MH} {s c wd R:Nat} {cs:List Int} {W:Wd} {fl:List Int} {left odd:Int} {Q:D×MH->Prop}
theorem K0{top:Int}(A:Sb s c cs h0 (R+14) h)(hw0:h0[wd]?=some (ny W fl left odd))(hne:wd≠s)(ok:pX W fl odd)(hp:W.params[j]?=some ps)(hj:j < W.ai.length)
  (kk:∀(r:Row)(h1:MH),(∀n,bg W ps n r)->cnt r=1->Sb s c cs h0 R h1->Q (aw r,h1)):Rn (gR [.ob s,.ob wd,.int j,.int top] h) Q:=by
 have hw:=A.at_ hw0 hne;have d2:=ok.d2;have pl:=ok.p3 ps (Qd hp);obtain⟨dj,hdj⟩:∃f,W.ai[j]?=some f:=⟨_,QA hj⟩;refine bD ?_;nofun;refine gU ?_;nofun;refine rv (dX hw) ?_;nofun;refine⟨(W.ai.map D.str).length,rfl,by rw[Qb];simp,by rw[Qb];lia,?_⟩;rw[Qb,SN];obtain⟨⟨ys,h1⟩,e1,hyl,hym,δ1,hh1,_⟩:=qj (ws:=[]) (g:=gN 0) (c:=lM (aE (ao wj (ao aP (ao aP (ax 3) (eK (.str "floors"))) (ax 0)) (ax 2))) (aE (ao MW (ax 0) (ax 1)))) (e:=ax 0) (λx y=>y=x)
  (xs:=(List.range W.ai.length).map λ(k:Nat)=>D.int (k:Int)) (δ:=[none,some (.int j),some (.int top),some (.ob wd)]) (h:=h) (λi δ h'=>h'=h/\∃d0,δ=[d0,some (.int j),some (.int top),some (.ob wd)]) ⟨rfl,_,rfl⟩ (λ_ _ _ _ _=>rfl) (by
   rintro i x δ h' hx ⟨rfl,d0,rfl⟩;rw[Qx] at hx;obtain⟨k,hk,hk2⟩:=QD.mp hx;subst hk2;have hkl:k < fl.length:=by rw[ok.OW];exact RQ.mp (Qd hk)
   obtain⟨f,hf⟩:∃f,fl[k]?=some f:=⟨_,QA hkl⟩;nofun;refine rv (nB hw) ?_;nofun;refine rv (bL hf) ?_;nofun;refine⟨_,rfl,λ_=>?_,λ_=>⟨λz=>(nomatch z),λ_=>⟨rfl,_,rfl⟩⟩⟩;nofun;refine⟨_,rfl,λ_=>?_,λ_=>⟨rfl,_,rfl⟩⟩;nofun;exact⟨rfl,rfl,_,rfl⟩)
 dsimp only at hh1;subst hh1;refine rv e1 ⟨Qr hyl (by rw[Qb,QO,show sizeLine=16777216 from rfl];exact Qr d2 (by decide)),?_⟩;have hint:∀zs:List D,(∀y∈zs,∃x,x∈(List.range W.ai.length).map (λ(k:Nat)=>D.int (k:Int))/\y=x)->∃js:List Int,zs=js.map D.int/\∀k∈js,0<=k/\k < W.ai.length:=by
  intro zs hz
  induction zs with
  | nil=>exact⟨[],rfl,λ_ z=>(nomatch z)⟩
  | cons y r ih=>
   obtain⟨js,rfl,q⟩:=ih λz hz'=>hz z (Qi _ hz');obtain⟨x,hx,rfl⟩:=hz y Qh;obtain⟨k,hk,rfl⟩:=Q2.mp hx;exact⟨k::js,rfl,λi hi=>by
    rcases Ql.mp hi with rfl | hi
    ·have:=RQ.mp hk;clear ih;lia
    ·exact q i hi⟩
 have hyn:ys.length<=6:=by
  have h9:ys.length<=_:=hyl;rw[Qb,QO] at h9;exact Qr h9 d2
 obtain⟨js,rfl,hjs⟩:=hint ys hym;rw[Qb] at hyn;nofun;refine Fd A hw ok λb h2 A2=>?_;have hw2:=A2.at_ hw0 hne;nofun;refine Aw (Y:=λr=>∃(ks:List Int),r=(Fl.nx,[some (.ob s),some (.ob wd),some (.int j),some (.int top),some (.lv (ks.map D.int)),none,none],h2)/\ks.length<=6/\∀k∈ks,0<=k/\k < W.ai.length) ?_ ?_
 ·refine⟨b,rfl,λ_=>?_,λ_=>?_⟩
  ·nofun;refine Jk ?_;nofun;refine rv (dX hw2) ?_;nofun;refine⟨(W.ai.map D.str).length,rfl,by rw[Qb];simp,by rw[Qb];lia,?_⟩;rw[Qb,SN];obtain⟨ks,hk1,hk2⟩:=hint _ λy hy=>⟨y,hy,rfl⟩;refine⟨ks,?_,?_,hk2⟩
   ·show _=_;rw[<-hk1];rfl
   ·have:=congrArg List.length hk1;rw[Qb,Qb,QO] at this
    lia
  ·nofun;exact⟨js,rfl,hyn,hjs⟩
 rintro _ ⟨ks,rfl,kn,hks⟩;show Rn _ _;nofun;refine rv (yb ks _) ⟨_,rfl,λz=>?_,λz=>?_⟩
 ·nofun;refine rv (dX hw2) ?_;nofun;refine rv (bL hdj) ?_;nofun;have:=kk (.say dj) h2 (λn=>by unfold bg;exact Qq _ (Qd hdj)) (by rw[cnt]) (A2.dn 13);rw[aw] at this;exact this
 have z0:0 < ks.length:=by cases ks with | nil=>cases z | cons _ _=>simp
 nofun;refine Hj A2 (.inl rfl) (by simpa using z0) (by simp;lia) λd3 h3 hd3 A3=>?_;have hw3:=A3.at_ hw0 hne;obtain⟨k,hk,rfl⟩:=Q2.mp hd3;obtain⟨k0,k1⟩:=hks k hk;obtain⟨kn',rfl⟩:=Rr k0;have hkl:kn' < W.ai.length:=by exact Tw.mp k1
 obtain⟨dk,hdk⟩:∃f,W.ai[kn']?=some f:=⟨_,QA hkl⟩;obtain⟨qs,hqs⟩:∃f,W.params[kn']?=some f:=⟨_,QA (by rw[ok.pl];exact hkl)⟩;have ql:=ok.p3 qs (Qd hqs);nofun;refine eR ?_;nofun;refine rv (cZ hw3) ?_;nofun;refine rv (bL hqs) ?_;refine⟨_,_,rfl,?_⟩;obtain⟨⟨zs,h4⟩,e4,hzs,δ4,_,A4⟩:=qk (ws:=[]) (g:=gN 0) (e:=ay bX (ag (ax 2) (ag (ao aP (ao aP (ax 3) (eK (.str "params"))) (ax 1)) aM))) (λ_ y=>∃t:Term,y=bp t/\eU ps t)
  (xs:=qs.map D.str) (δ:=[none,some (.int j),some (.ob s),some (.ob wd)]) (h:=h3) (λi δ h'=>(∃d0,δ=[d0,some (.int j),some (.ob s),some (.ob wd)])/\Sb s c cs h0 (R+4*(3-i)) h') ⟨⟨_,rfl⟩,A3⟩ (λ_ _ _ _ _=>rfl) (by
   rintro i x δ h' hx ⟨⟨d0,rfl⟩,Ai⟩;have hi:i < 3:=by
    have:=(Qc.mp hx).1;rw[Qb] at this
    lia
   rw[show R+4*(3-i)=R+4*(3-(i+1))+4 by clear Ai;lia] at Ai;have hwi:=Ai.at_ hw0 hne;nofun;refine rv (cZ hwi) ?_;nofun;refine rv (bL hp) ?_;nofun;exact wD Ai pl λt h6 tk _ A6=>⟨⟨t,rfl,tk⟩,⟨_,rfl⟩,A6⟩)
 obtain⟨ts,rfl,htm⟩:∃ts:List Term,zs=ts.map bp/\∀t∈ts,eU ps t:=by
  have hr:=hzs.right;clear e4 hzs A4;dsimp only at hr
  induction zs with
  | nil=>exact⟨[],rfl,λ_ z=>(nomatch z)⟩
  | cons y r ih=>
   obtain⟨js,rfl,h1⟩:=ih λz hz=>hr z (Qi _ hz);obtain⟨x,hx,t,rfl,tk⟩:=hr y Qh;exact⟨t::js,rfl,λj hj=>by
    rcases Ql.mp hj with rfl | hj
    ·exact tk
    ·exact h1 j hj⟩
 have hzl:=hzs.length;dsimp only at hzl;rw[Qb,Qb] at hzl;refine rv e4 ⟨by dsimp only;rw[Qb,show sizeLine=16777216 from rfl];lia,?_⟩;have A4:Sb s c cs h0 R h4:=A4.le (QK _ _);have hw4:=A4.at_ hw0 hne;nofun;refine rv (dX hw4) ?_;nofun;refine rv (bL hdk) ?_;nofun;refine rv (a:=(.tup (ts.map bp),_)) rfl ?_;nofun;have:=kk (.call dk ts) h4 (λn=>by unfold bg;exact⟨⟨kn',qs,hdk,hqs,hzl⟩,htm⟩) (by rw[cnt]) A4;rw[aw] at this;exact this
end
def gE(s wd:Nat)(h h':MH):Prop:=h'.length=h.length/\∀k,k≠s->k≠wd->h'[k]?=h[k]?
theorem gE.refl(s wd:Nat)(h:MH):gE s wd h h:=⟨rfl,λ_ _ _=>rfl⟩
theorem gE.trans(a:gE s wd h h1)(b:gE s wd h1 h2):gE s wd h h2:=⟨b.1.trans a.1,λk n m=>(b.2 k n m).trans (a.2 k n m)⟩
theorem sX.two(a:sX s h h1):gE s wd h h1:=⟨a.1,λk n _=>a.2 k n⟩
theorem gE.set:gE s wd h (h.set wd o):=⟨Rf,λk _ n=>QX (RM n)⟩
theorem gE.O9(b:gE s wd (hb++g) h2)(hs:s < hb.length)(hw:wd < hb.length):∃hb',h2=hb'++g/\gE s wd hb hb':=by
 have hl:h2.length=hb.length+g.length:=by rw[b.1];simp
 refine⟨h2.take hb.length,?_,by rw[QB];lia,λk hk hk'=>?_⟩
 ·refine Vg λk=>?_
  by_cases z:k < hb.length
  ·rw[Qt (by rw[QB];lia),QQ z]
  ·rw[b.2 _ (by lia) (by lia),Qv (by exact RA z),Qv (by rw[QB];lia),QB];rw[show min hb.length h2.length=hb.length by lia]
 ·by_cases z:k < hb.length
  ·rw[QQ z,b.2 k hk hk',Qt z]
  ·rw[Q7 (by rw[QB];lia),Q7 (by exact RA z)]
theorem iu(n:Nat):∀js:List Str,fz n (js.map D.str)=true
 | []=>rfl
 | j::r=>by rw[Qp];show(gX n (.str _)&&fz n _)=true;rw[iu n r];rfl
theorem uM(n:Nat):∀js:List (List Str),fz n (js.map λps=>.lv (ps.map D.str))=true
 | []=>rfl
 | j::r=>by rw[Qp];show(fz n (j.map D.str)&&fz n _)=true;rw[iu n j,uM n r];rfl
theorem zE(n:Nat)(W:Wd)(fl:List Int)(l odd:Int):yB n (ny W fl l odd)=true:=by
 show(fz n _&&(fz n _&&(fz n _&&(fz n _&&(true&&(true&&true))))))=true;rw[iu,iu,uM,AK];rfl
structure En where
 s:Nat
 c:Nat
 wd:Nat
 cs:List Int
 W:Wd
 fl:List Int
 odd:Int
 ok:pX W fl odd
 ne:wd≠s
 nc:wd≠c
structure Wb(E:En)(h0:MH)(R l:Nat)(h:MH):Prop where
 S:St E.s E.c E.cs R h
 w:h[E.wd]?=some (ny E.W E.fl l E.odd)
 C:Cl h
 b:gE E.s E.wd h0 h
section
variable {E:En} {h0 h h1 h' g:MH} {R R' l l' k:Nat} {Q:D×MH->Prop}
theorem Wb.lt(A:Wb E h0 R l h):E.s < h.length/\E.c < h.length/\E.wd < h.length:=⟨A.S.lt.1,A.S.lt.2,(Qc.mp A.w).1⟩
theorem Wb.by(A:Wb E h0 R l h)(B:Sb E.s E.c E.cs h R' h1):Wb E h0 R' l h1:=⟨B.S,(B.b.2 _ E.ne).trans A.w,A.C.but B.S B.b,A.b.trans B.b.two⟩
theorem Wb.le(A:Wb E h0 R l h)(hR:R'<=R):Wb E h0 R' l h:=⟨A.S.le hR,A.w,A.C,A.b⟩
theorem Wb.here(A:Wb E h0 R l h):Wb E h R l h:=⟨A.S,A.w,A.C,gE.refl _ _ _⟩
theorem Wb.tr(A:Wb E h1 R l h)(b:gE E.s E.wd h0 h1):Wb E h0 R l h:=⟨A.S,A.w,A.C,b.trans A.b⟩
theorem Wb.set(A:Wb E h0 R l h)(v:Nat):Wb E h0 R v (h.set E.wd (ny E.W E.fl v E.odd)):=
 ⟨A.S.off E.ne E.nc,QR A.lt.2.2,A.C.set (zE _ _ _ _ _),A.b.trans gE.set⟩
theorem Wb.push(A:Wb E h0 R l h)(ho:yB (h.length+1) o=true):Wb E (h++[o]) R l (h++[o]):=⟨A.S.more _,by rw[Qt A.lt.2.2];exact A.w,A.C.snoc ho,gE.refl _ _ _⟩
theorem KP(C:Cl h)(S:St E.s E.c E.cs R h')(w:h'[E.wd]?=some (ny E.W E.fl l E.odd))(b:gE E.s E.wd h h'):Cl h':=by
 intro o ho;obtain⟨k,hk⟩:=RD.mp ho
 by_cases z:k=E.s
 ·subst z;obtain⟨n,t,e,_⟩:=S.st;rw[e] at hk;cases hk;show(true&&(decide (E.c < h'.length)&&(true&&true)))=true;rw[QP S.lt.2];rfl
 ·by_cases z2:k=E.wd
  ·subst z2;rw[w] at hk;cases hk;exact zE _ _ _ _ _
  ·rw[b.2 k z z2] at hk;rw[b.1];exact C o (Qd hk)
theorem Wb.pop(A0:Wb E h0 R0 l0 h)(A:Wb E (h++g) R l h'):∃hb,h'=hb++g/\hb.length=h.length/\Wb E h0 R l hb:=by
 obtain⟨h1,h2,h3⟩:=A0.lt;obtain⟨hb,rfl,b⟩:=A.b.O9 h1 h3;have e:=b.1;have S:=A.S.cut (by lia) (by lia);have w:=A.w;rw[Qt (by lia)] at w;exact⟨hb,rfl,e,S,w,KP A0.C S w b,A0.b.trans b⟩
theorem w_next(A:Wb E h0 (R+1) l h)(m0:0 < m)(m1:m<=10^40)(k:∀(r:Int)(h1:MH),0<=r->r < m->Wb E h0 R l h1->Q (.int r,h1)):Rn (aW [.ob E.s,.int m] h) Q:=
 fL A.S.sb m0 m1 λr h1 r0 r1 S1=>k r h1 r0 r1 (A.by S1)
theorem Lv(A:Wb E h0 (R+1) l h)(hd:d=.lv xs\/d=.tup xs)(l0:0 < xs.length)(l1:xs.length<=1000000)(k:∀(x:D)(h1:MH),x∈xs->Wb E h0 R l h1->Q (x,h1)):Rn (aT [.ob E.s,d] h) Q:=
 Hj A.S.sb hd l0 l1 λx h1 hx S1=>k x h1 hx (A.by S1)
theorem CB{is:List Int}(P:Int->Prop)(hP:∀i∈is,P i)(A:Wb E h0 (R+1) l h)(k:∀(i:Int)(h1:MH),P i->Wb E h0 R l h1->Q (.int i,h1))(l0:0 < is.length:=by simp)(l1:is.length<=1000:=by simp):Rn (aT [.ob E.s,.lv (is.map D.int)] h) Q:=
 kI P hP A.S.sb (λi h1 hi _ S1=>k i h1 hi (A.by S1)) l0 l1
theorem uZ(A:Wb E h0 (R+4) l h)(hp:ps.length<=3)(k:∀(t:Term)(h1:MH),eU ps t->Wb E h0 R l h1->Q (bp t,h1)):Rn (bX [.ob E.s,.lv (ps.map D.str)] h) Q:=
 wD A.S.sb hp λt h1 ht _ S1=>k t h1 ht (A.by S1)
structure Cd(W:Wd)(j:Nat)(ps:List Str)(d:Nat)(top:Int)(held:List Lock):Prop where
 hp:W.params[j]?=some ps
 hj:j < W.ai.length
 d1:1<=d
 ht:top<=W.names.length
 hh:∀x∈held,fH W ps x
 hl:held.length<=4*d
variable {j d f:Nat} {ps:List Str} {top:Int} {held:List Lock}
theorem Cd.more{W:Wd}{n:Nat}{top':Int}{ls:List Lock}(G:Cd W j ps d top held)(ht:top'<=W.names.length)(hl:ls.length<=4*n)(ho:∀x∈ls,fH W ps x):Cd W j ps (d+n) top' (held++ls):=
 ⟨G.hp,G.hj,Qr G.d1 (QK _ _),ht,λx hx=>(Qy.mp hx).elim (G.hh x) (ho x),by have:=G.hl;rw[Qk];lia⟩
theorem Cd.deep{W:Wd}(G:Cd W j ps d top held):Cd W j ps (d+1) top held:=⟨G.hp,G.hj,Ud G.d1,G.ht,G.hh,by have:=G.hl;lia⟩
theorem Cd.pl(G:Cd E.W j ps d top held):ps.length<=3:=E.ok.p3 ps (Qd G.hp)
theorem CC(A:Wb E h0 (R+10) l h)(G:Cd E.W j ps d top held)(hd:d<=5)(k1:∀(k:Int)(x:Lock)(h1:MH),max top (E.fl[j]?.getD 0) < E.W.names.length->0<=k->k < E.W.names.length->fH E.W ps x->Wb E h0 R l h1->Q (.tup [.int k,aF x],h1))
  (k2:∀(h1:MH),max top (E.fl[j]?.getD 0)=E.W.names.length->Wb E h0 R l h1->Q (.tup [.cu,.cu],h1)):Rn (fB [.ob E.s,.ob E.wd,.int j,.int top,.lv (held.map aF)] h) Q:=
 KY A.S.sb A.w E.ne E.ok G.hp G.hj G.ht G.hh (by have:=G.hl;lia) (λk x h1 a b c e S1=>k1 k x h1 a b c e (A.by S1)) λh1 a S1=>k2 h1 a (A.by S1)
theorem Iu(A:Wb E h0 (R+14) l h)(G:Cd E.W j ps d top held)(k:∀(r:Row)(h1:MH),(∀n,bg E.W ps n r)->cnt r=1->Wb E h0 R l h1->Q (aw r,h1)):Rn (gR [.ob E.s,.ob E.wd,.int j,.int top] h) Q:=
 K0 A.S.sb A.w E.ne E.ok G.hp G.hj λr h1 a b S1=>k r h1 a b (A.by S1)
abbrev Fu(E:En)(h0:MH)(R l:Nat)(ps:List Str)(d:Nat)(Q:D×MH->Prop):Prop:=∀(r:Row)(l':Nat)(h':MH),bg E.W ps d r->l'+cnt r=l+1->Wb E h0 (R+100*l') l' h'->Q (aw r,h')
abbrev Pe(E:En)(h0:MH)(R l:Nat)(ps:List Str)(d:Nat)(Q:D×MH->Prop):Prop:=∀(t:List Row)(l':Nat)(h':MH),bG E.W ps d t->t.length<=12->l'+ak t=l->Wb E h0 (R+100*l') l' h'->Q (.tup (cj t),h')
def Cf(E:En)(f:Nat):Prop:=∀{h0 h:MH} {R l j:Nat} {ps:List Str} {d:Nat} {top:Int} {held:List Lock} {most:Int} {Q:D×MH->Prop},Wb E h0 (R+100*l+4) l h->Cd E.W j ps d top held->d<=5->3*(5-d)+2<=f->1<=most->most<=12->Pe E h0 R l ps d Q->
 Rn (bF f [.ob E.s,.ob E.wd,.int j,.int d,.int top,.lv (held.map aF),.int most] h) Q
def Lb(E:En)(f:Nat):Prop:=∀{h0 h:MH} {R l j:Nat} {ps:List Str} {d:Nat} {top:Int} {held:List Lock} {Q:D×MH->Prop},Wb E h0 (R+100*l+100) l h->Cd E.W j ps d top held->d<=5->3*(5-d)+1<=f->Fu E h0 R l ps d Q->
 Rn (gw f [.ob E.s,.ob E.wd,.int j,.int d,.int top,.lv (held.map aF)] h) Q
def Ft(E:En)(f:Nat):Prop:=∀{h0 h:MH} {R l j:Nat} {ps:List Str} {d:Nat} {top:Int} {held:List Lock} {way:Str} {Q:D×MH->Prop},Wb E h0 (R+100*l+95) l h->Cd E.W j ps d top held->d < 5->3*(5-d)<=f->way∈[Str.ofString "within",Str.ofString "ask",Str.ofString "all"]->Fu E h0 R l ps d Q->
 Rn (dz f [.ob E.s,.ob E.wd,.int j,.int d,.int top,.lv (held.map aF),.str way] h) Q
def K7(E:En)(f:Nat):Prop:=∀{h0 h:MH} {R l j:Nat} {ps:List Str} {d:Nat} {top:Int} {held:List Lock} {Q:D×MH->Prop},Wb E h0 (R+100*l+95) l h->Cd E.W j ps d top held->d < 3->5 < l->3*(5-d)<=f->Fu E h0 R l ps d Q->
 Rn (cL f [.ob E.s,.ob E.wd,.int j,.int d,.int top,.lv (held.map aF)] h) Q
end
theorem kB(r:Rn (b (entry len ds) h) (F7 λp=>Rn (leave h p.1 p.2) Q)):Rn (Ek len b ds h) Q:=by
 obtain⟨p,e,q⟩:=bD r;obtain⟨z,e2,k⟩:=q;refine⟨z,?_,k⟩;have e:((b (entry len ds) h).bind xl)=some p:=e;show((b (entry len ds) h).bind xl).bind _=_;rw[e];exact e2
theorem gV{isT:D->MH->Bool}{f:AX}{o:EM}{m:AM}{δ:DS}{h:MH}{Q:D×MH->Prop}(r:Rn (o δ h) λp=>isT p.1 p.2=true/\Rn (m δ p.2) λq=>Rn (f p.1 q.1 q.2) Q):Rn (eM isT f o m δ h) Q:=
 aY (r.imp λp ⟨e,r⟩=>by rw[Qf e];exact aY r)
theorem cy(e:h[n]?=some (.lst xs)):cV (.ob n) h=true:=by unfold cV dR;dsimp only;rw[e];rfl
theorem cE(e:h[n]?=some (.lst xs))(hl:xs.length < sizeLine):dC (.ob n) [y] h=some (.cu,h.set n (.lst (xs++[y]))):=by unfold dC;dsimp only;rw[e];dsimp only;rw[Qf hl]
theorem wt(n:Nat)(t:Term):gX n (bp t)=true:=rfl
theorem qx(n:Nat)(t:Lock):gX n (aF t)=true:=rfl
theorem eX(n:Nat)(f:α->D)(hf:∀x,gX n (f x)=true):∀xs:List α,fz n (xs.map f)=true
 | []=>rfl
 | x::r=>by rw[Qp];show(gX n (f x)&&fz n _)=true;rw[hf x,eX n f hf r];rfl
mutual
theorem sL(n:Nat):∀r:Row,gX n (aw r)=true
 | .say w=>by rw[aw];rfl
 | .call d ts=>by rw[aw];show(true&&(true&&(fz n _&&true)))=true;rw[eX n _ (wt n)];rfl
 | .within l b=>by rw[aw];show(true&&(gX n (aF l)&&(fz n _&&true)))=true;rw[qx,eG n b];rfl
 | .all ls b=>by rw[aw];show(true&&(fz n _&&(fz n _&&true)))=true;rw[eX n _ (qx n),eG n b];rfl
 | .ask l b e=>by rw[aw];show(true&&(gX n (aF l)&&(fz n _&&(fz n _&&true))))=true;rw[qx,eG n b,eG n e];rfl
 | .lz s t a b c=>by rw[aw];show(true&&(gX n (bp s)&&(gX n (bp t)&&(fz n _&&(fz n _&&(fz n _&&true))))))=true;rw[wt,wt,eG n a,eG n b,eG n c];rfl
 | .either a b=>by rw[aw];show(true&&(fz n _&&(fz n _&&true)))=true;rw[eG n a,eG n b];rfl
 | .again a=>by rw[aw];show(true&&(fz n _&&true))=true;rw[eG n a];rfl
theorem eG(n:Nat):∀r:List Row,fz n (cj r)=true
 | []=>by rw[cj];rfl
 | r::rs=>by rw[cj];show(gX n _&&fz n _)=true;rw[sL n r,eG n rs];rfl
end
theorem ik(e:H.length=n):(H++[a])[n]?=some a:=by rw[<-e];simp
theorem pI(e:H.length=n):(H++[a]).set n b=H++[b]:=by rw[<-e];simp
section
variable {E:En} {f:Nat}
theorem zp(hr:Lb E f):Cf E (f+1):=by
 intro h0 h R l j ps d top held most Q A G d5 hf m0 m1 k;unfold bF;refine kB ?_;nofun;refine gU ?_;nofun;refine rv (a:=(.lv (List.replicate 15 (D.int most)),_)) rfl ?_;nofun;refine rv (a:=(.lv ((List.replicate 15 most++[12]).map D.int),_)) rfl ?_;nofun;refine CB (λi=>1<=i/\i<=12) (by intro x hx;simp at hx;lia) (A.push (o:=.lst []) rfl) λi h2 hi A2=>?_;nofun;refine w_next (m:=i+1) A2 (by lia) (by exact R3 hi.2 (by decide)) λm h3 n0 n1 A3=>?_;nofun;refine⟨m,rfl,by exact Ro (by decide) n0,by lia,?_⟩;obtain⟨hb,rfl,hbl,A3⟩:=A.pop A3;refine cD (λi δ h'=>∃(t:List Row)(l':Nat)(d8:Option D)(hb:MH),δ=[some (.ob E.s),some (.ob E.wd),some (.int j),some (.int d),some (.int top),some (.lv (held.map aF)),some (.int most),some (.ob h.length),d8]/\h'=hb++[.lst (cj t)]/\hb.length=h.length/\bG E.W ps d t/\t.length<=i/\l'+ak t=l/\Wb E h0 (R+100*l'+2) l' hb)
  ⟨[],l,_,hb,rfl,by rw[cj],hbl,by unfold bG;trivial,Qg _,by simp[ak],A3⟩ (λ_ _ _ _ _=>rfl) ?_ ?_
 ·rintro q x δ h' hx ⟨t,l',d8,hb,rfl,rfl,hbl,okl,hll,hc,A4⟩;have hq:q < 12:=by
   have:=(Qc.mp hx).1;simp at this
   lia
  have A5:=A4.push (o:=.lst (cj t)) (eG _ t);nofun;refine rv (pZ A5.w) ?_;nofun;refine⟨_,rfl,λz=>?_,λz=>?_⟩
  ·obtain⟨l1,rfl⟩:∃n,l'=n+1:=⟨l'-1,by have:=Q8 z;lia⟩;nofun;refine rv (pZ A5.w) ?_;nofun;refine rv (CA A5.w _) ?_;rw[show((l1+1:Nat):Int)-1=(l1:Int) by simp];have A6:=A5.set l1;nofun;refine gV ?_;nofun;refine⟨cy (xs:=cj t) (by rw[QX (by have:=A4.lt;lia)];exact ik hbl),?_⟩;nofun;refine hr (R:=R+2) (A6.le (by lia)) G d5 (by exact SH hf) λr l6 h6 okr cr A7=>?_;obtain⟨hb6,rfl,hbl6,A8⟩:=A4.pop A7;nofun;have hl6:=hbl6.trans hbl;refine rv (cE (ik hl6) (by rw[bT,Qb,show sizeLine=16777216 from rfl];lia)) ?_;rw[pI hl6];nofun;have hcn:ak (t++[r])=ak t+cnt r:=by rw[m8];simp[ak]
   exact⟨t++[r],l6,_,hb6,rfl,by rw[bT,bT,Qs];rfl,hl6,uo okl (by unfold bG;exact⟨okr,by unfold bG;trivial⟩),by simp;exact hll,by lia,A8.le (by lia)⟩
  ·nofun;exact⟨t,l',_,hb,rfl,rfl,hbl,okl,by exact Ud hll,hc,A4⟩
 ·rintro δ h' ⟨t,l',d8,hb,rfl,rfl,hbl,okl,hll,hc,A4⟩;rw[Qb,QO] at hll;nofun;refine rv (a:=(.tup (cj t),hb++[.lst (cj t)])) (by simp only[fI,dw,ik hbl,QU]) ?_;nofun;exact rv (rX hbl A4.C (λn z=>(nomatch z)) (eG _ t)) (k t l' hb okl (by lia) hc (A4.le (by lia)))
end
theorem Aa:∀{xs:List D} {δ:DS} {h:MH} (J:List D->DS->MH->Prop),J [] δ h->(∀ys δ h,J ys δ h->pW ws h=true)->
  (∀x ys δ h,x∈xs->ys.length < xs.length->J ys δ h->Rn (g x δ h) λq=>Rn (e q.1 q.2) λy=>J (ys++[y.1]) q.1 y.2)->Rn (bP ws g dQ e xs δ h) λp=>p.1.length=xs.length/\∃δ',J p.1 δ' p.2
 | [],δ,h,J,hJ,hc,_=>by
  unfold bP;rw[Qf (hc [] δ h hJ)];exact⟨_,rfl,rfl,δ,hJ⟩
 | x::xs,δ,h,J,hJ,hc,ht=>by
  unfold bP;rw[Qf (hc [] δ h hJ)];obtain⟨⟨δ1,h1⟩,e1,⟨y,h2⟩,e2,J1⟩:=ht x [] δ h Qh (Nat.succ_pos _) hJ;obtain⟨⟨ys,h3⟩,e3,a,δ',J2⟩:=Aa (ws:=ws) (g:=g) (e:=e) (xs:=xs) (λys=>J (y::ys)) J1 (λys δ h=>hc (y::ys) δ h) λx ys δ h hx hl=>ht x (y::ys) δ h (Qi _ hx) (Nat.succ_lt_succ hl);refine⟨(y::ys,h3),?_,congrArg Nat.succ a,δ',J2⟩;rw[e1];dsimp only[Option.bind_some];show((some (true,h1)).bind _)=_;dsimp only[Option.bind_some] at e2 e3 ⊢;rw[Qf rfl,e2];dsimp only[Option.bind_some];rw[e3];rfl
theorem sA(f:α->D)(xs ys:List α)(h:MH)(hl:xs.length+ys.length<=1000):az (.lv (xs.map f)) (.lv (ys.map f)) h=some (.lv ((xs++ys).map f),h):=by
 rw[Qs];simp only[az,tV,dR,QM,Qb];rw[Qf (by rw[show sizeLine=16777216 from rfl];exact Qr hl (by decide))]
theorem Me(P:Prop)[Decidable P](e:Rn (t δ h) λp=>p=(decide P,h))(q1:P->Rn (x δ h) Q)(q2:¬P->Rn (y δ h) Q):Rn (fU t x y δ h) Q:=by
 refine xp (e.imp ?_);rintro _ rfl;exact⟨λz=>q1 (Q8 z),λz=>q2 (T8 z)⟩
theorem fh(P:Prop)[Decidable P](e:Rn (t δ h) λp=>p=(decide P,h))(q1:P->Rn (x δ h) (zU b Q))(q2:¬P->Rn (b δ h) Q):Rn (au (fU t x cq) b δ h) Q:=
 fv (Me P e q1 λz=>⟨_,rfl,q2 z⟩)
theorem dT [Decidable P](p:P)(h:MH):(true,h)=(decide P,h):=by rw[QP p]
theorem dF [Decidable P](p:¬P)(h:MH):(false,h)=(decide P,h):=by rw[QZ p]
section
variable {E:En} {f:Nat}
theorem uz{n:Nat}(hlot:Cf E f){h0 h:MH}{R l j:Nat}{ps:List Str}{d:Nat}{top:Int}{held:List Lock}{Q:List D×MH->Prop}
  (A:Wb E h0 (R+100*l+12) l h) (hn:n<=3) (G:Cd E.W j ps d top held) (d5:d < 5) (hf:3*(5-d)<=f) (k:∀(lots:List (List Row)) (l':Nat) (h':MH),lots.length=n->(∀t∈lots,t.length<=12/\bG E.W ps (d+1) t)->l'+(lots.map ak).sum=l->Wb E h0 (R+100*l') l' h'->Q (lots.map (λt=>D.tup (cj t)),h')):
  Rn (bP [] (gN 0) Sm.dQ (ay (bF f) (ag (ax 4) (ag (ax 6) (ag (ax 1) (ag (ao az (ax 2) (eK (.int 1))) (ag (ax 5) (ag (ax 3) (ag (eK (.int 2)) aM)))))))) ((List.range n).map λ(k:Nat)=>D.int k) [none,some (.int j),some (.int d),some (.lv (held.map aF)),some (.ob E.s),some (.int top),some (.ob E.wd)] h) Q:=by
 refine(Aa (ws:=[]) (λys δ h'=>∃(d0:Option D)(lots:List (List Row)) (l':Nat),δ=[d0,some (.int j),some (.int d),some (.lv (held.map aF)),some (.ob E.s),some (.int top),some (.ob E.wd)]/\ys=lots.map (λt=>D.tup (cj t))/\(∀t∈lots,t.length<=12/\bG E.W ps (d+1) t)/\l'+(lots.map ak).sum=l/\Wb E h0 (R+100*l'+(12-4*lots.length)) l' h') ⟨none,[],l,rfl,rfl,λ_ z=>(nomatch z),by simp,A⟩ (λ_ _ _ _=>rfl) ?_).imp ?_
 ·rintro x _ δ h' hx hys ⟨d0,lots,l',rfl,rfl,a8,hc,A1⟩;rw[Qb,Qb,QO] at hys;nofun;refine hlot (R:=R+(8-4*lots.length)) (d:=d+1) (A1.le (by lia)) G.deep d5 (by lia) (by decide) (by decide) λt l2 h2 okl hll cr A2=>?_;refine⟨_,lots++[t],l2,rfl,by rw[Qs];rfl,λu z=>?_,by simp;lia,A2.le (by rw[Qk,TH];lia)⟩;rcases Qy.mp z with z | z
  ·exact a8 u z
  ·rw[Qw.mp z];exact⟨hll,okl⟩
 ·rintro⟨ys,h2⟩ ⟨hy,_,d0,lots,l',_,he,a8,hc,A1⟩;dsimp only at hy he;subst he;rw[Qb,Qb,QO] at hy;exact k lots l' h2 hy a8 hc (A1.le (by simp))
theorem vw(hlot:Cf E f)(hlk:Ft E f)(htw:K7 E f):Lb E (f+1):=by
 intro h0 h R l j ps d top held Q A G d5 hf k;have pl:=G.pl;have n1:=E.ok.n1;have n2:=E.ok.n2;have d2:=E.ok.d2;unfold gw;refine bD ?_;nofun;refine w_next (m:=16) A (by decide) (by decide) λw h1 w0 w1 A1=>?_;refine fh (w < 2\/(d=5/\w < 11)) ?_ (λz=>?_) (λz=>?_)
 ·nofun;refine⟨_,rfl,λz=>?_,λz=>?_⟩
  ·have z:w < 2:=by simpa using z
   exact dT (.inl z) _
  ·have z:¬w < 2:=by simpa using z
   nofun;refine⟨_,rfl,λy=>?_,λy=>?_⟩
   ·have y0:(d:Int)=5:=by simpa using y
    have y:d=5:=by lia
    nofun;refine⟨_,rfl,?_⟩;rw[show decide (w < 11)=decide (w < 2\/(d=5/\w < 11)) from decide_eq_decide.mpr (by lia)]
   ·have y0:(d:Int)≠5:=by simpa using y
    have y:d≠5:=by lia
    exact dF (by lia) _
 ·nofun;refine rv (dW A1.w) ?_;nofun;refine rv (dX A1.w) ?_;nofun;refine rv (sA D.str E.W.names E.W.ai _ (by lia)) ?_;nofun;refine Lv (xs:=(E.W.names++E.W.ai).map D.str) A1 (.inl rfl) (by simp;lia) (by simp;lia) λx h2 hx A2=>?_;obtain⟨w',hw',rfl⟩:=Q2.mp hx;nofun;rw[show D.tup [.str "say",.str w']=aw (.say w') by rw[aw]];exact k (.say w') l h2 (by unfold bg;exact hw') (by rw[cnt]) (A2.le (by lia))
 have nd:d=5->11<=w:=by lia
 have w2:2<=w:=by lia
 refine fh (12 < w\/d=5) ?_ (λz=>?_) (λz=>?_)
 ·nofun;refine⟨_,rfl,λy=>?_,λy=>?_⟩
  ·have y:12 < w:=by simpa using y
   exact dT (.inl y) _
  ·have y:¬12 < w:=by simpa using y
   nofun;refine⟨_,rfl,?_⟩;rw[show((d:Int)==5)=decide (12 < w\/d=5) by
    rw[RK];simp only[Rt,QY];lia]
 ·nofun;refine Iu (R:=R+100*l) (A1.le (by simp)) G λr h2 okr cr A2=>?_;nofun;exact k r l h2 (okr d) (by rw[cr]) A2
 have d4:d < 5:=by lia
 refine fh (w=12/\d < 3/\5 < (l:Int)) ?_ (λz=>?_) (λz=>?_)
 ·nofun;refine⟨_,rfl,λy=>?_,λy=>?_⟩
  ·have y:w=12:=by simpa using y
   nofun;refine⟨_,rfl,λx=>?_,λx=>?_⟩
   ·have x0:(d:Int) < 3:=by simpa using x
    have x:d < 3:=by exact Tw.mp x0
    nofun;refine rv (pZ A1.w) ?_;nofun;refine⟨_,rfl,?_⟩;rw[show decide (5 < (l:Int))=decide (w=12/\d < 3/\5 < (l:Int)) from decide_eq_decide.mpr (by lia)]
   ·have x0:¬(d:Int) < 3:=by simpa using x
    have x:¬d < 3:=by lia
    exact dF (by lia) _
  ·have y:w≠12:=by simpa using y
   exact dF (by clear y z;lia) _
 ·nofun;refine htw (R:=R) (A1.le (by simp)) G z.2.1 (by exact Tw.mp z.2.2) (by exact SH hf) λr l2 h2 okr cr A2=>?_;nofun;exact k r l2 h2 okr cr A2
 refine fh (w=11\/w=12) ?_ (λz=>?_) (λz=>?_)
 ·nofun;refine⟨_,rfl,λy=>?_,λy=>?_⟩
  ·have y:w=11:=by simpa using y
   exact dT (.inl y) _
  ·have y:w≠11:=by simpa using y
   nofun;refine⟨_,rfl,?_⟩;rw[show(w==12)=decide (w=11\/w=12) by rw[RK];simp only[Rt,QY];lia]
 ·show Rn (au _ _ _ _) _;nofun;refine rv (cZ A1.w) ?_;nofun;refine rv (bL G.hp) ?_;nofun;refine uZ A1 pl λt1 h2 tk1 A2=>?_;nofun;refine rv (cZ A2.w) ?_;nofun;refine rv (bL G.hp) ?_;nofun;refine uZ A2 pl λt2 h3 tk2 A3=>?_;nofun;refine⟨_,_,rfl,?_⟩;nofun;refine gU ?_;nofun;refine⟨3,rfl,by lia,by lia,?_⟩;refine uz (n:=3) (R:=R) hlot (A3.le (by simp)) (by lia) G d4 (by exact SH hf) λlots l4 h4 hn a8 cr A4=>?_
  match lots,hn with
  | [x,y,v],_=>
   refine⟨by show 3<=sizeLine;decide,?_⟩;nofun;refine rv (a:=(.tup [.tup (cj x),.tup (cj y),.tup (cj v)],_)) rfl ?_;nofun;refine rv (a:=(aw (.lz t1 t2 x y v),_)) (by rw[aw];rfl) ?_;nofun;simp only[Qp,RY,Q3,List.sum_nil] at cr;have hx:=a8 x (by simp);have hy:=a8 y (by simp);have hv:=a8 v (by simp);exact k (.lz t1 t2 x y v) l4 h4 (by unfold bg;exact⟨tk1,tk2,d4,hx.1,hy.1,hv.1,hx.2,hy.2,hv.2⟩) (by rw[cnt];lia) A4
 refine fh (w=10) ?_ (λz=>?_) (λz=>?_)
 ·nofun;refine⟨_,rfl,?_⟩;rw[show(w==10)=decide (w=10) by rw[RK];simp only[Rt,QY]]
 ·nofun;refine gU ?_;nofun;refine⟨2,rfl,by lia,by lia,?_⟩;refine uz (n:=2) (R:=R) hlot (A1.le (by simp)) (by lia) G d4 (by exact SH hf) λlots l2 h2 hn a8 cr A2=>?_
  match lots,hn with
  | [x,y],_=>
   refine⟨by show 2<=sizeLine;decide,?_⟩;nofun;refine rv (a:=(.tup [.tup (cj x),.tup (cj y)],_)) rfl ?_;nofun;refine rv (a:=(aw (.either x y),_)) (by rw[aw];rfl) ?_;nofun;simp only[Qp,RY,Q3,List.sum_nil] at cr;have hx:=a8 x (by simp);have hy:=a8 y (by simp);exact k (.either x y) l2 h2 (by unfold bg;exact⟨d4,hx.1,hy.1,hx.2,hy.2⟩) (by rw[cnt];lia) A2
 refine fh (w=9) ?_ (λz=>?_) (λz=>?_)
 ·nofun;refine⟨_,rfl,?_⟩;rw[show(w==9)=decide (w=9) by rw[RK];simp only[Rt,QY]]
 ·nofun;refine hlot (R:=R) (d:=d+1) (A1.le (by simp)) G.deep d4 (by clear z;lia) (by decide) (by decide) λt l2 h2 okl hll cr A2=>?_;nofun;rw[show D.tup [.str "again",.tup (cj t)]=aw (.again t) by rw[aw]];exact k (.again t) l2 h2 (by unfold bg;exact⟨d4,hll,okl⟩) (by rw[cnt];lia) A2
 nofun;refine Lv (xs:=[Str.ofString "within",Str.ofString "within",Str.ofString "within",Str.ofString "within",Str.ofString "ask",Str.ofString "all"].map D.str) A1 (.inl rfl) (by simp) (by simp) λx h2 hx A2=>?_;obtain⟨w',hw',rfl⟩:=Q2.mp hx;nofun;refine hlk (R:=R) (A2.le (by simp)) G d4 (by exact SH hf) (by simp at hw' ⊢;assumption) λr l3 h3 okr cr A3=>?_;nofun;exact k r l3 h3 okr cr A3
end
noncomputable def fP(t:Lock):PyData:=.tuple [.str t.1,qF t.2]
theorem DG(t:Term):vH (bp t)=some (qF t):=by simp only[bp,vH,oO,QM,QU];rfl
theorem xw(t:Lock):vH (aF t)=some (fP t):=by simp only[aF,vH,oO,DG,QM,QU];rfl
theorem nU:∀ts:List Lock,oO (ts.map aF)=some (ts.map fP)
 | []=>rfl
 | c::r=>by simp only[Qp,oO,nU r,xw,QM,QU]
theorem gP:∀ts:List Lock,PyData.depthAll (ts.map fP)<=2
 | []=>by simp[PyData.depthAll]
 | c::r=>by
  have:=gP r;simp only[Qp,PyData.depthAll,fP,qF,PyData.depth]
  lia
theorem wg{h:MH}{n:Nat}{ls:List Lock}(x:Lock)(e:h[n]?=some (.lst (ls.map aF))):oh (aF x) (.ob n) h=some (.bl (!(ls.map fP).any λb=>PyData.eqv b (fP x)),h):=by
 have h1:=gP ls;have h2:=gP [x];have h3:(fP x).depth<=60:=by
  simp only[Qp,RY,PyData.depthAll] at h2
  lia
 unfold oh inD;simp only[dS,e];show((dw (.ob n) h).bind _).map _=_;simp only[dw,e,QM,nU];show(((z9 h (aF x)).bind _).map _)=_;rw[show z9 h (aF x)=some (fP x) from xw x];dsimp only[Option.bind_some];rw[Qf ⟨h3,by exact Qr h1 (by decide)⟩];rfl
theorem vG(r:Rn (ma δ h) λp=>Rn (mb δ p.2) λq=>∃xs ys,dR p.1 q.2=some xs/\dR q.1 q.2=some ys/\xs.length+ys.length<=sizeLine/\Q (xs++ys,q.2)):Rn (Cb ma mb δ h) Q:=
 aY (r.imp λp r=>aY (r.imp λq zz=>by obtain⟨xs,ys,e1,e2,hl,hq⟩:=zz;exact⟨_,by rw[e1];dsimp only[Option.bind_some];rw[e2];dsimp only[Option.bind_some];rw[Qf hl],hq⟩))
theorem EN(x:Lock):PyData.eqv (fP x) (fP x)=true:=by
 simp[fP,qF,PyData.eqv,PyData.eqvAll]
theorem F6(r:Row)(n:Nat):aw r≠.ob n:=by cases r <;> rw[aw] <;> exactλz=>(nomatch z)
theorem Wb.ext(A:Wb E h0 R l h)(C:Cl (h++g)):Wb E (h++g) R l (h++g):=⟨A.S.more _,by rw[Qt A.lt.2.2];exact A.w,C,gE.refl _ _ _⟩
theorem DC(b:gE E.s E.wd h0 h)(k:Fu E h0 R l ps d Q)(r:Row)(ok:bg E.W ps d r)(hc:l'+cnt r=l+1)(A:Wb E h (R+100*l') l' hb)(e:aw r=x):Rn (leave h x (hb++g)) Q:=
 ⟨_,e ▸ rX A.b.1 A.C (F6 r) (sL _ r),k r l' hb ok hc (A.tr b)⟩
theorem vC(b:gE E.s E.wd h0 h)(k:Fu E h0 R l ps d Q)(r:Row)(ok:bg E.W ps d r)(hc:l'+cnt r=l+1)(A:Wb E h (R+100*l') l' hb)(e:aw r=x):Rn (leave h x hb) Q:=by
 have:=DC (g:=[]) b k r ok hc A e
 rwa [Q6] at this
section
variable {E:En} {f:Nat}
theorem BG(hlot:Cf E f):Ft E (f+1):=by
 intro h0 h R l j ps d top held way Q A G d5 hf hw k;obtain⟨dj,hdj⟩:∃f,E.W.ai[j]?=some f:=⟨_,QA G.hj⟩;have hl:=G.hl;have ht:=G.ht;have b0:=A.b;replace A:=A.here;unfold dz;refine kB ?_;nofun;refine CC A G (by exact RW d5) (λk1 lk h1 hmx k0 k2 okk A1=>?_) λh1 _ A1=>?_
 ·nofun;refine rv (a:=(.bl false,_)) rfl ⟨_,rfl,λz=>(nomatch z),λ_=>?_⟩;refine⟨_,rfl,?_⟩;show Rn (au _ _ _ _) _;refine fh (way=Str.ofString "all") ?_ (λz=>?_) (λz=>?_)
  ·nofun;refine⟨_,rfl,?_⟩;rw[show(way==Str.ofString "all")=decide (way=Str.ofString "all") by rw[RK];simp only[Rt,QY]]
  ·show Rn (au _ _ _ _) _;nofun;refine⟨_,_,rfl,?_⟩;nofun;refine gU ?_;nofun;refine CB (is:=[1,1,2,3]) (λi=>1<=i/\i<=3) (by decide) (A1.push (o:=.lst [aF lk]) rfl) λi h2 hi A2=>?_;obtain⟨hb2,rfl,e2,A2'⟩:=A1.pop A2;nofun;refine⟨i,rfl,by exact Ro (by decide) hi.1,by exact R3 hi.2 (by decide),?_⟩;refine cD (λi δ h'=>∃(ls:List Lock)(hi:Int)(n:Nat)(d11 d12 d13:Option D)(hb g:MH),δ=[some (.ob E.s),some (.ob E.wd),some (.int j),some (.int d),some (.int top),some (.lv (held.map aF)),some (.str way),some (.int k1),some (aF lk),some (.ob n),some (.int hi),d11,d12,d13,none]/\h'=hb++g/\h'[n]?=some (.lst (ls.map aF))/\h.length<=n/\lk∈ls/\ls.Nodup/\(∀x∈ls,fH E.W ps x)/\ls.length<=i+1/\0<=hi/\hi < E.W.names.length/\Wb E h (R+100*l+(80-10*i)) l hb/\Cl (hb++g))
    ⟨[lk],k1,h1.length,none,none,none,hb2,[.lst [aF lk]],rfl,rfl,ik e2,by rw[A1.b.1];exact Qg _,by simp,by simp,by simpa using okk,Qg _,k0,k2,A2'.le (by simp),A2.C⟩ (λ_ _ _ _ _=>rfl) ?_ ?_
   ·rintro q x δ h' hx ⟨ls,hi',n,d11,d12,d13,hb,g,rfl,rfl,hn,hnl,hlk,nd,a8,hll,hi0,hi1,A3,C3⟩;have hq:q < 3:=by
     have:=(Qc.mp hx).1;simp at this
     lia
    nofun;refine CC (R:=R+100*l+(80-10*(q+1))) ((A3.ext C3).le (by lia)) G (by lia) (λk4 lk4 h4 _ k40 k41 okk4 A4=>?_) λh1 z4 _=>absurd z4 (by lia)
    ·have hn4:h4[n]?=some (.lst (ls.map aF)):=by
      have:=A.lt;rw[A4.b.2 n (by lia) (by lia)];exact hn
     obtain⟨hb4,rfl,e4,A4'⟩:=A3.pop A4;nofun;refine rv (fW _ _ _) ?_;nofun;refine vG ?_;nofun;refine rv (wg lk4 hn4) ?_;obtain⟨us,v,hv,hus,husl,hnd,hokk⟩:∃(us:List Lock)(v:Int),om [.bl (!(ls.map fP).any λb=>PyData.eqv b (fP lk4))] (hb4++g)=some (.int v,hb4++g)/\zv (.lv [aF lk4]) (.int v) (hb4++g)=some (.lv (us.map aF),hb4++g)/\us.length<=1/\(ls++us).Nodup/\∀x∈ls++us,fH E.W ps x:=by
      cases hb0:((ls.map fP).any λb=>PyData.eqv b (fP lk4)) with
      | true=>exact⟨[],0,rfl,rfl,by simp,by simpa using nd,by simpa using a8⟩
      | false=>
       have hnot:lk4∉ls:=λz=>by
        rw[List.any_eq_false] at hb0;exact hb0 (fP lk4) (So z) (EN lk4)
       refine⟨[lk4],1,rfl,rfl,by simp,?_,?_⟩
       ·rw[Ui];refine⟨nd,by simp,λx hx y hy z=>hnot ?_⟩;rw[Qw.mp hy] at z;rw[<-z];exact hx
       ·intro x hx;rcases Qy.mp hx with z | z
        ·exact a8 x z
        ·rw[Qw.mp z];exact okk4
     nofun;refine rv hv ?_;nofun;refine rv hus ?_;refine⟨ls.map aF,us.map aF,by simp only[dR,hn4],rfl,by rw[Qb,Qb,show sizeLine=16777216 from rfl];lia,?_⟩;refine⟨ls++us,max hi' k4,(hb4++g).length,_,_,_,hb4,g++[.lst ((ls++us).map aF)],rfl,by rw[Qs];exact QG _ _ _,by rw[Qs];simp,?_,QH _ hlk,hnd,hokk,by simp;lia,by lia,by lia,A4',?_⟩
     ·have:=A4'.b.1;rw[Qk];lia
     ·rw[<-QG];exact A4.C.snoc (o:=.lst _) (eX _ _ (qx _) _)
   ·rintro δ h' ⟨ls,hi',n,d11,d12,d13,hb,g,rfl,rfl,hn,hnl,hlk,nd,a8,hll,hi0,hi1,A3,C3⟩;rw[Qb,QO] at hll A3;replace A3:=A3.le (R':=R+100*l+10) (by lia);show Rn (au _ _ _ _) _;refine fv ?_;refine Rn.imp (Q:=λr=>∃(ls:List Lock)(g:MH),r=(Fl.nx,[some (.ob E.s),some (.ob E.wd),some (.int j),some (.int d),some (.int top),some (.lv (held.map aF)),some (.str way),some (.int k1),some (aF lk),some (.ob n),some (.int hi'),d11,d12,d13,none],hb++g)/\(hb++g)[n]?=some (.lst (ls.map aF))/\2<=ls.length/\ls.length<=4/\ls.Nodup/\(∀x∈ls,fH E.W ps x)/\Cl (hb++g)) ?_ ?_
    ·nofun;refine rv (qt hn) ?_;nofun;refine⟨_,rfl,λz=>?_,λz=>?_⟩
     ·have z:ls.length=1:=by
       have:((ls.map aF).length:Int)=1:=by simpa using z
       rw[Qb] at this
       lia
      obtain⟨x0,rfl⟩:∃x0,ls=[x0]:=RZ.mp z;obtain rfl:lk=x0:=Qw.mp hlk;obtain⟨nm,wo,fi⟩:=lk;have hok0:=a8 _ (Qw.mpr rfl);nofun;refine gV ?_;nofun;refine⟨cy hn,?_⟩;nofun;refine rv (a:=(.str nm,_)) rfl ?_;nofun;refine rv (a:=(bp (wo,fi),_)) rfl ?_;nofun;refine rv (a:=(.str wo,_)) rfl ?_;nofun;refine rv (a:=(bp (wo,fi),_)) rfl ?_;nofun;refine rv (a:=(.int fi,_)) rfl ?_;nofun;refine rv (a:=(bp (wo,fi),_)) rfl ?_;nofun;refine rv (a:=(.int fi,_)) rfl ?_;nofun;obtain⟨v,hv,hm,v1,v0⟩:∃v:Int,om [.bl (decide (90 < fi))] (hb++g)=some (.int v,hb++g)/\ip (.int 2) (.int v) (hb++g)=some (.int (2*v),hb++g)/\(90 < fi->v=1)/\(¬90 < fi->v=0):=by
       by_cases z:90 < fi
       ·exact⟨1,by rw[QP z];rfl,rfl,λ_=>rfl,λy=>absurd z y⟩
       ·exact⟨0,by rw[QZ z];rfl,rfl,λy=>absurd y z,λ_=>rfl⟩
      refine rv hv ?_;nofun;refine rv hm ?_;nofun;refine rv (cE hn (by rw[Qb,show sizeLine=16777216 from rfl];simp)) ?_;nofun;have hlen:=A3.b.1;rw[Sd _ _ (by lia)];have okf:=hok0.2;have okn:=hok0.1;dsimp only at okn;unfold eU at okf;dsimp only at okf;have hvv:v=0\/v=1:=by by_cases z:90 < fi <;> lia
      refine⟨[(nm,wo,fi),(nm,wo,fi+1-2*v)],_,rfl,?_,by simp,by simp,?_,?_,?_⟩
      ·rw[Qv (by lia),QR]
       ·rfl
       ·have:=(Qc.mp hn).1;rw[Qk] at this
        lia
      ·simp;lia
      ·intro x hx;rcases Ql.mp hx with rfl | hx
       ·exact hok0
       ·rw[Qw.mp hx];exact⟨okn,okf.1,by dsimp only;lia,by dsimp only;lia⟩
      ·rw[<-Sd _ _ (by lia)];exact C3.set (o:=.lst _) rfl
     ·have z:ls.length≠1:=by
       have:((ls.map aF).length:Int)≠1:=by simpa using z
       rw[Qb] at this
       lia
      have:0 < ls.length:=List.length_pos_of_mem hlk;exact⟨_,rfl,ls,g,rfl,hn,by lia,by lia,nd,a8,C3⟩
    rintro _ ⟨ls,g,rfl,hn,l2,l4,nd,a8,C4⟩;have A4:=A3.ext C4;show Rn (au _ _ _ _) _;nofun;refine rv (yG A4.w) ?_;nofun;obtain⟨v,hv,v0,v1⟩:∃v:Int,om [.bl (E.odd==0)] (hb++g)=some (.int v,hb++g)/\0<=v/\v<=1:=by
     cases E.odd==0
     ·exact⟨0,rfl,by lia,by lia⟩
     ·exact⟨1,rfl,by lia,by lia⟩
    refine rv hv ?_;nofun;refine rv (a:=(.tup (ls.map aF),_)) (by simp only[fI,dw,hn,QU];rfl) ?_;nofun;refine rv (fW _ _ _) ?_;nofun;refine rv (a:=(.lv ((held++ls).map aF),_)) (by
     rw[Qs];simp only[az,tV,dR,hn,QM,Qb];rw[Qf (by rw[show sizeLine=16777216 from rfl];lia)]) ?_
    nofun;refine hlot (R:=R) (d:=d+1) (A4.le (by simp)) (G.more (n:=1) (by lia) (by lia) a8) d5 (by lia) (by decide) (by decide) λt l5 h5 okl hll5 cr A5=>?_;obtain⟨hb5,rfl,_,A5'⟩:=A3.pop A5;nofun;exact DC b0 k (.all ls t) (by unfold bg;exact⟨⟨l2,l4,nd,a8⟩,d5,hll5,okl⟩) (by rw[cnt];lia) A5' (by rw[aw])
  refine fv ?_;nofun;refine rv (fW _ _ _) ?_;nofun;refine rv (sA aF held [lk] _ (by simp;lia)) ?_;nofun;refine hlot (R:=R+10) (d:=d+1) (A1.le (by lia)) (G.more (n:=1) (ls:=[lk]) (by clear hmx;lia) (by simp) (by simpa using okk)) d5 (by lia) (by decide) (by decide) λt l2 h2 okl hll cr A2=>?_;refine Rn.imp (Q:=_) (fh (way=Str.ofString "ask") ?_ (λz=>?_) (λz=>?_)) λ_ z=>z
  ·nofun;refine⟨_,rfl,?_⟩;rw[show(way==Str.ofString "ask")=decide (way=Str.ofString "ask") by rw[RK];simp only[Rt,QY]]
  ·nofun;refine hlot (R:=R) (d:=d+1) (A2.le (by lia)) G.deep d5 (by lia) (by decide) (by decide) λt3 l3 h3 okl3 hll3 cr3 A3=>?_;nofun;exact vC b0 k (.ask lk t t3) (by unfold bg;exact⟨okk,d5,hll,hll3,okl,okl3⟩) (by rw[cnt];lia) A3 (by rw[aw])
  ·nofun;exact vC b0 k (.within lk t) (by unfold bg;exact⟨okk,d5,hll,okl⟩) (by rw[cnt];lia) (A2.le (by lia)) (by rw[aw])
 ·nofun;refine rv (a:=(.bl true,_)) rfl ⟨_,rfl,λ_=>?_,λz=>(nomatch z)⟩;nofun;refine rv (dX A1.w) ?_;nofun;refine rv (bL hdj) ?_;nofun;exact vC b0 k (.say dj) (by unfold bg;exact Qq _ (Qd hdj)) (by rw[cnt]) (A1.le (by lia)) (by rw[aw])
end
theorem zx(ts:List Lock)(h:MH):mU (.lv (ts.map aF)) (.lv []) h=some (.bl (!ts.isEmpty),h):=by
 have:=gP ts;simp only[mU,HV,dS,HU,z9,nU,vH,oO,QU,QM];rw[Qf ⟨show PyData.depthAll _+1<=64 by exact Rl this (by decide),by decide⟩];cases ts <;> rfl
section
variable {E:En}
theorem IA{f:Nat}(hlot:Cf E f):K7 E (f+1):=by
 intro h0 h R l j ps d top held Q A G d3 l5 hf k;have pl:=G.pl;have hl:=G.hl;have ht:=G.ht;have b0:=A.b;replace A:=A.here;obtain⟨dj,hdj⟩:∃f,E.W.ai[j]?=some f:=⟨_,QA G.hj⟩;obtain⟨fj,hfj⟩:∃f,E.fl[j]?=some f:=⟨_,QA (by rw[E.ok.OW];exact G.hj)⟩;have hfm:=E.ok.f0 fj (Qd hfj);have hsay:Rn (leave h (.tup [.str "say",.str dj]) h) Q:=vC b0 k (.say dj) (by unfold bg;exact Qq _ (Qd hdj)) (by rw[cnt]) (A.le (by lia)) (by rw[aw]);unfold cL;refine kB ?_;nofun;refine rv (nB A.w) ?_;nofun;refine rv (bL hfj) ?_;nofun;refine rv (fW top fj h) ?_;have lo0:0<=max top fj:=by lia
 have lo1:max top fj<=E.W.names.length:=by lia
 generalize max top fj=lo at lo0 lo1 ⊢;refine fh (lo=E.W.names.length) ?_ (λz=>?_) (λz=>?_)
 ·nofun;refine rv (dW A.w) ?_;nofun;refine⟨_,rfl,?_⟩;rw[Qb,show(lo==(E.W.names.length:Int))=decide (lo=E.W.names.length) by rw[RK];simp only[Rt,QY]]
 ·nofun;refine rv (dX A.w) ?_;nofun;refine rv (bL hdj) ?_;nofun;exact hsay
 obtain⟨kn,rfl⟩:=Rr lo0;have hkn:kn < E.W.names.length:=by lia
 obtain⟨nm,hnm⟩:∃f,E.W.names[kn]?=some f:=⟨_,QA hkn⟩;refine fv ?_;nofun;refine eR ?_;nofun;refine⟨_,_,rfl,?_⟩;obtain⟨⟨ys,h4⟩,e4,hyl,hym,δ4,hh4,_⟩:=qj (ws:=[]) (g:=gN 0) (c:=aE (ao cF (ao aP (ax 0) (eK (.int 0))) (ao aP (ao aP (ax 2) (eK (.str "names"))) (ax 1)))) (e:=ax 0) (λx y=>∃l∈held,y=aF l)
  (xs:=held.map aF) (δ:=[none,some (.int kn),some (.ob E.wd)]) (h:=h) (λj δ h'=>h'=h/\∃d0,δ=[d0,some (.int kn),some (.ob E.wd)]) ⟨rfl,_,rfl⟩ (λ_ _ _ _ _=>rfl) (by
   rintro i x δ h' hx ⟨rfl,d0,rfl⟩;obtain⟨l,hl,rfl⟩:=Q2.mp (Qd hx);nofun;refine rv (a:=(.str l.1,_)) rfl ?_;nofun;refine rv (dW A.w) ?_;nofun;refine rv (bL hnm) ?_;nofun;refine⟨_,rfl,λ_=>?_,λ_=>⟨rfl,_,rfl⟩⟩;nofun;exact⟨⟨l,hl,rfl⟩,rfl,_,rfl⟩)
 dsimp only at hh4;subst hh4;refine rv e4 ⟨Qr hyl (by rw[Qb,show sizeLine=16777216 from rfl];lia),?_⟩;obtain⟨ts,rfl⟩:∃ts:List Lock,ys=ts.map aF:=by
  clear e4 hyl
  induction ys with
  | nil=>exact⟨[],rfl⟩
  | cons y r ih=>
   obtain⟨js,rfl⟩:=ih λz hz=>hym z (Qi _ hz);obtain⟨x,hx,l,hl,rfl⟩:=hym y Qh;exact⟨l::js,rfl⟩
 nofun;refine rv (zx ts _) ⟨_,rfl,λz=>?_,λz=>?_⟩
 ·nofun;refine rv (dX A.w) ?_;nofun;refine rv (bL hdj) ?_;nofun;exact hsay
 nofun;refine rv (dW A.w) ?_;nofun;refine rv (bL hnm) ?_;nofun;refine rv (pZ A.w) ?_;nofun;refine rv (CA A.w _) ?_;rw[show(l:Int)-5=((l-5:Nat):Int) by lia];have A1:=A.set (l-5);generalize h4.set E.wd (ny E.W E.fl ((l-5:Nat):Int) E.odd)=h5 at A1 ⊢;nofun;refine rv (cZ A1.w) ?_;nofun;refine rv (bL G.hp) ?_;nofun;refine uZ A1 pl λt1 h2 tk1 A2=>?_;nofun;refine rv (cZ A2.w) ?_;nofun;refine rv (bL G.hp) ?_;nofun;refine uZ A2 pl λt2 h3 tk2 A3=>?_;nofun;refine⟨_,_,rfl,?_⟩;nofun;refine eR ?_;nofun;refine⟨_,_,rfl,?_⟩;have hlen3:=A3.b.1;have okn:=Qd hnm;refine cD (λi δ h'=>∃(rows:List Row)(l':Nat)(d11 d12 d13:Option D)(hb:MH),δ=[some (.ob E.s),some (.ob E.wd),some (.int j),some (.int d),some (.int top),some (.lv (held.map aF)),some (.int kn),some (.str nm),some (bp t1),some (bp t2),some (.ob h3.length),d11,d12,d13]/\h'=hb++[.lst (rows.map λr=>.tup [aw r])]/\rows.length=i/\(∀r∈rows,bg E.W ps (d+1) r)/\l'+(rows.map cnt).sum+5=l+2*i/\Wb E h4 (R+100*l'+(8-4*i)) l' hb)
  ⟨[],l-5,_,_,_,h3,rfl,rfl,rfl,λ_ z=>(nomatch z),by simp;lia,A3.le (by lia)⟩ (λ_ _ _ _ _=>rfl) ?_ ?_
 ·rintro i x δ h' hx ⟨rows,l',d11,d12,d13,hb,rfl,rfl,hrl,hro,hc,A6⟩;have hi:i < 2:=(Qc.mp hx).1;obtain⟨u,v,rfl,uk,vk⟩:∃u v:Term,x=.tup [bp u,bp v]/\eU ps u/\eU ps v:=by
   rcases Ql.mp (Qd hx) with rfl | hx
   ·exact⟨t1,t2,rfl,tk1,tk2⟩
   ·rw[Qw.mp hx];exact⟨t2,t1,rfl,tk2,tk1⟩
  have hlb:hb.length=h3.length:=A6.b.1.trans hlen3.symm;generalize hrs:rows.map (λr=>D.tup [aw r])=rs;have hcl:fz (hb.length+1) rs=true:=by rw[<-hrs];exact eX _ _ (λr=>by show(gX _ (aw r)&&true)=true;rw[sL];rfl) rows
  nofun;refine rv (sA aF held [(nm,u),(nm,v)] _ (by simp;lia)) ?_;nofun;refine hlot (R:=R+(8-4*(i+1))) (d:=d+3) ((A6.push (o:=.lst rs) hcl).le (by lia)) (G.more (n:=3) (ls:=[(nm,u),(nm,v)]) lo1 (by simp) (by
   intro x hx;rcases Ql.mp hx with rfl | z
   ·exact⟨okn,uk⟩
   ·rw[Qw.mp z];exact⟨okn,vk⟩)) (by lia) (by lia) (by decide) (by decide) λt l7 h7 okl hll cr A7=>?_
  obtain⟨hb7,rfl,e7,A7'⟩:=A6.pop A7;have hl7:=e7.trans hlb;nofun;refine gV ?_;nofun;refine⟨cy (ik hl7),?_⟩;nofun;refine rv (cE (ik hl7) (by rw[<-hrs,Qb,show sizeLine=16777216 from rfl];lia)) ?_;rw[pI hl7];nofun;have hcn:((rows++[Row.within (nm,u) [Row.within (nm,v) t]]).map cnt).sum=(rows.map cnt).sum+(2+ak t):=by
   rw[Qs,RH];simp[cnt,ak]
   lia
  refine⟨rows++[.within (nm,u) [.within (nm,v) t]],l7,_,_,_,hb7,rfl,?_,by simp[hrl],?_,by rw[hcn];lia,A7'.le (by lia)⟩
  ·rw[Qs,hrs];simp[aw,cj,aF]
  ·intro r hr;rcases Qy.mp hr with z | z
   ·exact hro r z
   ·rw[Qw.mp z];simp only[bg,bG];exact⟨⟨okn,uk⟩,by exact Rl d3 (by decide),by simp,⟨⟨okn,vk⟩,by lia,hll,okl⟩,trivial⟩
 ·rintro δ h' ⟨rows,l',d11,d12,d13,hb,rfl,rfl,hrl,hro,hc,A6⟩
  match rows,hrl with
  | [r0,r1],_=>
   have hc:l'+(([r0,r1]:List Row).map cnt).sum+5=l+2*2:=hc;have hat:(hb++[MO.lst [.tup [aw r0],.tup [aw r1]]])[h3.length]?=some (.lst [.tup [aw r0],.tup [aw r1]]):=ik (A6.b.1.trans hlen3.symm);show Rn _ _;nofun;refine rv (fJ hat (d:=.tup [aw r0]) rfl) ?_;nofun;refine rv (fJ hat (d:=.tup [aw r1]) rfl) ?_;nofun;refine DC b0 k (.lz t1 t2 [r0] [.within (nm,t1) []] [r1]) ?_ ?_ (A6.le (by exact Qg _)) (by simp[aw,cj,aF])
   ·simp only[bg,bG];exact⟨tk1,tk2,by exact QF d3 (by decide),by simp,by simp,by simp,⟨hro r0 (by simp),trivial⟩,⟨⟨⟨okn,tk1⟩,by exact Rl d3 (by decide),by simp,trivial⟩,trivial⟩,⟨hro r1 (by simp),trivial⟩⟩
   ·simp[cnt,ak] at hc ⊢;lia
theorem ring:∀f,Cf E f/\Lb E f/\Ft E f/\K7 E f
 | 0=>⟨λ_ _ _ z=>absurd z (by lia),λ_ _ _ z=>absurd z (by lia),λ_ _ z1 z=>absurd z (by lia),λ_ _ z1 _ z=>absurd z (by lia)⟩
 | f+1=>let⟨a,b,c,d⟩:=ring f;⟨zp b,vw a c d,BG a,IA a⟩
end
theorem wb{P:Int->Prop}:∀{zs:List D},(∀y∈zs,∃i,y=.int i/\P i)->∃js:List Int,zs=js.map D.int/\∀j∈js,P j
 | [],_=>⟨[],rfl,λ_ z=>(nomatch z)⟩
 | y::r,h=>by
  obtain⟨js,rfl,q⟩:=wb (zs:=r) λz hz=>h z (Qi _ hz);obtain⟨i,rfl,p⟩:=h y Qh;exact⟨i::js,rfl,λj hj=>by
   rcases Ql.mp hj with rfl | hj
   ·exact p
   ·exact q j hj⟩
theorem BR(f:α->D)(xs:List α)(k:Nat)(h:MH):iS (.lv (xs.map f)) none (some (k:Int)) h=some (.lv ((xs.take k).map f),h):=by
 show some (D.lv (cutD (xs.map f) none (some (k:Int))),h)=_;unfold cutD;rw[HT.lZ,HT.qh,Uv,Nat.sub_zero,Qb,<-TZ]
 by_cases z:k<=xs.length
 ·rw[RG z]
 ·rw[Nat.min_eq_right (by lia),RX (Qg _),RX (by lia)]
theorem Hi{h h0:MH}{s c R:Nat}{cs:List Int}{most odd:Int}{Q:D×MH->Prop}(A:Sb s c cs h0 (R+80) h)(o0:0<=odd)(o1:odd<=1000)(k:∀(W:Wd)(fl:List Int)(hb:MH),pX W fl odd->Sb s c cs h0 R hb->Q (.ob hb.length,hb++[ny W fl most odd])):Rn (iZ [.ob s,.int most,.int odd] h) Q:=by
 refine bD ?_;nofun;refine kI (is:=[1,2,2,3,4,6]) (λi=>1<=i/\i<=6) (by decide) A λn1 h1 hn1 _ A1=>?_;nofun;refine wC A1 (by exact Int.le_of_lt hn1.1) hn1.2 λns h2 nl nk nnd A2=>?_;nofun;refine kI (is:=[1,1,2,2,3,4,6]) (λi=>1<=i/\i<=6) (by decide) A2 λn2 h3 hn2 _ A3=>?_;nofun;refine wC A3 (by exact Int.le_of_lt hn2.1) hn2.2 λds h4 dl dk dnd A4=>?_;nofun;refine wC A4 (by lia) (by lia) λps h5 pl pk pnd A5=>?_;nofun;refine eR ?_;nofun;refine⟨_,_,rfl,?_⟩;obtain⟨⟨ys,h6⟩,e6,a6,δ6,_,A6⟩:=qk (ws:=[]) (g:=gN 0) (e:=ay aT (ag (ax 1) (ag (eK (.lv [.int 0,.int 1,.int 1,.int 2,.int 2,.int 3])) aM))) (λ_ y=>∃i,y=.int i/\0<=i/\i<=3)
  (xs:=ds.map D.str) (δ:=[none,some (.ob s)]) (h:=h5) (λi δ h'=>(∃d0,δ=[d0,some (.ob s)])/\Sb s c cs h0 (R+18-i) h') ⟨⟨_,rfl⟩,A5⟩ (λ_ _ _ _ _=>rfl) (by
   rintro i x δ h' hx ⟨⟨d0,rfl⟩,A6⟩;have hi:i < 6:=by
    have:=(Qc.mp hx).1;rw[Qb] at this
    lia
   nofun;exact kI (R:=R+18-(i+1)) (is:=[0,1,1,2,2,3]) (λi=>0<=i/\i<=3) (by decide) (A6.le (by lia)) λi h7 hi _ A7=>⟨⟨i,rfl,hi⟩,⟨_,rfl⟩,A7⟩)
 have l6:=a6.length;obtain⟨many,rfl,hmany⟩:=wb (P:=λi=>0<=i/\i<=3) λy hy=>(let⟨_,_,r⟩:=a6.right y hy;r);dsimp only at l6;rw[Qb,Qb] at l6;rw[Qb] at A6;refine rv e6 ⟨by dsimp only;rw[Qb,show sizeLine=16777216 from rfl];lia,?_⟩;nofun;refine eR ?_;nofun;refine⟨_,_,rfl,?_⟩;obtain⟨⟨ys,h7⟩,e7,a7,δ7,_,A7⟩:=qk (ws:=[]) (g:=gN 0) (e:=ay aW (ag (ax 2) (ag (ay cz (ag (ax 1) aM)) aM))) (λ_ y=>∃i,y=.int i/\0<=i/\i < ns.length)
  (xs:=ds.map D.str) (δ:=[none,some (.lv (ns.map D.str)),some (.ob s)]) (h:=h6) (λi δ h'=>(∃d0,δ=[d0,some (.lv (ns.map D.str)),some (.ob s)])/\Sb s c cs h0 (R+12-i) h') ⟨⟨_,rfl⟩,A6.le (by lia)⟩ (λ_ _ _ _ _=>rfl) (by
   rintro i x δ h' hx ⟨⟨d0,rfl⟩,A7⟩;have hi:i < 6:=by
    have:=(Qc.mp hx).1;rw[Qb] at this
    lia
   nofun;rw[Qb];exact fL (R:=R+12-(i+1)) (A7.le (by clear A7 hx;lia)) (by lia) (by lia) λr h8 r0 r1 A8=>⟨⟨r,rfl,r0,r1⟩,⟨_,rfl⟩,A8⟩)
 have l7:=a7.length;obtain⟨fls,rfl,hfls⟩:=wb (P:=λi=>0<=i/\i < ns.length) λy hy=>(let⟨_,_,r⟩:=a7.right y hy;r);dsimp only at l7;rw[Qb,Qb] at l7;rw[Qb] at A7;refine rv e7 ⟨by dsimp only;rw[Qb,show sizeLine=16777216 from rfl];lia,?_⟩;nofun;refine rv (a:=(.lv ((km fls).map D.int),h7)) (by
  show(se (fls.map D.int)).bind _=_;rw[uF];show(if fls.length < 64 then _ else _)=_;rw[Qf (by lia)]) ?_
 nofun;refine eR ?_;nofun;refine⟨_,_,rfl,?_⟩;have e8:bP [] (gN 0) dQ (jE (ax 1) xD (xE (ax 0))) (many.map D.int) [none,some (.lv (ps.map D.str))] h7=some ((many.map D.int).filterMap λd=>match d with | .int k=>some (.lv ((ps.take k.toNat).map D.str)) | _=>none,h7):=
  vF rfl _ (λδ=>∃d0,δ=[d0,some (.lv (ps.map D.str))]) ⟨_,rfl⟩ (by
   rintro x hx δ ⟨d0,rfl⟩;obtain⟨k,hk,rfl⟩:=Q2.mp hx;refine rv rfl ⟨rfl,rv rfl ⟨rfl,⟨_,rfl⟩,λ_=>⟨_,rfl,?_⟩,λz=>(nomatch z)⟩⟩;obtain⟨n,rfl⟩:=Rr (hmany k hk).1;nofun;refine⟨_,rfl,rv (BR D.str ps n _) ?_⟩;rfl)
 have e9:((many.map D.int).filterMap λd=>match d with | .int k=>some (D.lv ((ps.take k.toNat).map D.str)) | _=>none)=(many.map λk=>ps.take k.toNat).map λps=>D.lv (ps.map D.str):=by
  rw[Tg,Ra];exact congrFun (UW (f:=(λps:List Str=>D.lv (ps.map D.str))∘λk:Int=>ps.take k.toNat)) _
 rw[e9] at e8;refine rv e8 ⟨by dsimp only;rw[Qb,Qb,show sizeLine=16777216 from rfl];lia,?_⟩;nofun;have hfin:∀(a b c d e f:D),Rn (zA (eP (eK (.str "names")) (ax 3) (eP (eK (.str "deeds")) (ax 4) (eP (eK (.str "params")) (ax 5) (eP (eK (.str "floors")) (ax 7) (eP (eK (.str "left")) (ax 1) (eP (eK (.str "odd")) (ax 2) GA)))))) [some (.ob s),some (.int most),some (.int odd),some a,some b,some c,some d,some e] h7) λp=>p=(.ob h7.length,h7++[.dct [(.inr (Str.ofString "names"),a),(.inr (Str.ofString "deeds"),b),(.inr (Str.ofString "params"),c),(.inr (Str.ofString "floors"),e),(.inr (Str.ofString "left"),.int most),(.inr (Str.ofString "odd"),.int odd)]]):=λa b c d e f=>⟨_,rfl,rfl⟩;refine(hfin _ _ _ _ _ .cu).imp ?_;rintro _ rfl;nofun;refine k ⟨ns,ds,many.map λk=>ps.take k.toNat⟩ (km fls) h7 ⟨?_,?_,?_,?_,?_,?_,?_,?_,o0,o1,nk,dk,?_,nnd,dnd,?_⟩ (A7.le (by lia))
 ·show 1<=ns.length;lia
 ·show ns.length<=6;lia
 ·show 1<=ds.length;lia
 ·show ds.length<=6;lia
 ·show(many.map _).length=ds.length;rw[Qb];lia
 ·intro q hq;obtain⟨k,hk,rfl⟩:=Q2.mp hq;rw[QB];have:=pl
  lia
 ·show(km fls).length=ds.length;rw[(iF fls).length_eq];lia
 ·intro f hf;exact hfls f ((iF fls).mem_iff.mp hf)
 ·intro q hq w hw;obtain⟨k,hk,rfl⟩:=Q2.mp hq;exact pk w (TJ hw)
 ·intro q hq;obtain⟨k,hk,rfl⟩:=Q2.mp hq;exact pnd.sublist (Uh _ _)
end Mi
namespace Pg
open PySem Sm L2
abbrev cB:=Str×List Str×List Row
structure Prog where
 names:List Str
 ai:List cB
noncomputable def eF(d:cB):D:=.tup [.str d.1,.tup (d.2.1.map D.str),.tup (cj d.2.2)]
noncomputable def bq(P:Prog):D:=.tup [.tup (P.names.map D.str),.tup (P.ai.map eF)]
structure Ll(W:Wd)(most:Nat)(P:Prog):Prop where
 nm:P.names=i5 W.names
 dl:P.ai.length=W.ai.length
 dd:∀(j:Nat)(d:cB),P.ai[j]?=some d->W.ai[j]?=some d.1/\W.params[j]?=some d.2.1/\bG W d.2.1 1 d.2.2/\d.2.2.length<=12
 ct:(P.ai.map λd=>ak d.2.2).sum<=most
end Pg
namespace Mi
open PySem Sm L2 Pg
theorem wu(n:Nat)(d:cB):gX n (eF d)=true:=by
 show(true&&(fz n (d.2.1.map D.str)&&(fz n (cj d.2.2)&&true)))=true;rw[iu,eG];rfl
theorem Hb(n:Nat)(P:Prog):gX n (bq P)=true:=by
 show(fz n (P.names.map D.str)&&(fz n (P.ai.map eF)&&true))=true;rw[iu,eX n _ (wu n)];rfl
theorem mW{α:Type}{f:α->D}{xs:List α}{i:Nat}{x:D}(h:(kH 0 (xs.map f))[i]?=some x):∃a,xs[i]?=some a/\x=.tup [.int (i:Int),f a]:=by
 rw[oq,Qx] at h;cases e:xs[i]? with
 | none=>rw[e] at h;cases h
 | some a=>
  rw[e] at h;cases h;exact⟨a,rfl,by rw[Q1]⟩
theorem Wb.out(C:Cl h)(B:Sb E.s E.c E.cs h R' h0)(e:E.wd=h0.length)(A:Wb E (h0++[o]) R l h1):∃hb o',h1=hb++[o']/\Sb E.s E.c E.cs h R hb/\Cl hb:=by
 have b:=A.b;obtain⟨hs,hc⟩:=B.S.lt;have hl:h1.length=h0.length+1:=by rw[b.1];simp
 have hx:h0.length < h1.length:=by lia
 have ee:h1=h1.take h0.length++[h1[h0.length]'hx]:=by rw[List.take_append_getElem,RX (by exact UQ hl)]
 have bb:sX E.s h0 (h1.take h0.length):=⟨by rw[QB];lia,λk hk=>by
  by_cases z:k < h0.length
  ·rw[QQ z,b.2 k hk (by lia),Qt z]
  ·rw[Q7 (by rw[QB];lia),Q7 (by exact RA z)]⟩
 have S:=A.S;rw[ee] at S;have S':=S.cut (by rw[bb.1];exact hs) (by rw[bb.1];exact hc);exact⟨_,_,ee,⟨S',B.b.trans bb⟩,C.but S' (B.b.trans bb)⟩
theorem B7{h h0:MH}{s c R most:Nat}{cs:List Int}{odd:Int}{Q:D×MH->Prop}(A:Sb s c cs h0 (R+100*most+120) h)(C:Cl h)(o0:0<=odd)(o1:odd<=1000)(k:∀(W:Wd)(fl:List Int)(P:Prog)(h1:MH),pX W fl odd->Ll W most P->Sb s c cs h0 R h1->Cl h1->Q (bq P,h1)):Rn (gx [.ob s,.int most,.int odd] h) Q:=by
 refine kB ?_;nofun;refine Hi (R:=R+100*most+40) A.S.sb o0 o1 λW fl hb ok A1=>?_;obtain⟨lt1,lt2⟩:=A1.S.lt;have d2:=ok.d2;have n1:=ok.n1;have n2:=ok.n2;have hlen:=A1.b.1;let E:En:=⟨s,c,hb.length,cs,W,fl,odd,ok,by exact Tv lt1,by exact Tv lt2⟩;have B0:Wb E (hb++[ny W fl most odd]) (R+100*most+40) most (hb++[ny W fl most odd]):=⟨A1.S.more _,ik rfl,(C.but A1.S A1.b).snoc (zE _ _ _ _ _),gE.refl _ _ _⟩;nofun;refine my ?_;nofun;refine rv (dX (B0.push (o:=.lst []) rfl).w) ?_;nofun;refine⟨_,_,_,rfl,rfl,?_⟩;have hobl:(hb++[ny W fl most odd]).length=h.length+1:=by simp[hlen]
 rw[hobl];refine cD (λi δ h'=>∃(dds:List cB)(l':Nat)(d5 d6 d7:Option D)(hw:MH),δ=[some (.ob s),some (.int most),some (.int odd),some (.ob hb.length),some (.ob (h.length+1)),d5,d6,d7]/\h'=hw++[.lst (dds.map eF)]/\hw.length=h.length+1/\dds.length=i/\(∀(j:Nat)(d:cB),dds[j]?=some d->W.ai[j]?=some d.1/\W.params[j]?=some d.2.1/\bG W d.2.1 1 d.2.2/\d.2.2.length<=12)/\l'+(dds.map λd=>ak d.2.2).sum=most/\Wb E (hb++[ny W fl most odd]) (R+100*l'+(40-5*i)) l' hw)
  ⟨[],most,_,_,_,_,rfl,rfl,hobl,rfl,λ_ _ z=>by simp at z,by simp,B0⟩ (λ_ _ _ _ _=>rfl) ?_ ?_
 ·rintro i x δ h' hx ⟨dds,l',d5,d6,d7,hw,rfl,rfl,hwl,hdl,hdd,hc,A6⟩;obtain⟨dn,hdn,rfl⟩:=mW hx;have hi:i < W.ai.length:=(Qc.mp hdn).1;obtain⟨ps,hps⟩:∃f,W.params[i]?=some f:=⟨_,QA (by rw[ok.pl];exact hi)⟩;nofun;refine CB (E:=E) (R:=R+100*l'+(39-5*i)) (is:=[1,2,3,4,12]) (λi=>1<=i/\i<=12) (by decide) ((A6.push (o:=.lst (dds.map eF)) (eX _ _ (wu _) dds)).le (by lia)) λmo h7 hmo A7=>?_;nofun;refine(ring (E:=E) 20).1 (R:=R+(40-5*(i+1))) (d:=1) (held:=[]) (A7.le (by lia)) ⟨hps,hi,by decide,show(-1:Int)<=W.names.length by simp,λ_ z=>(nomatch z),by simp⟩ (by decide) (by decide) hmo.1 hmo.2 λt l8 h8 okl hll cr A8=>?_;have w8:=A8.w;obtain⟨hw8,rfl,e8,A8'⟩:=A6.pop A8;have hl8:=e8.trans hwl;nofun;refine gV ?_;nofun;refine⟨cy (ik hl8),?_⟩;nofun;refine rv (cZ w8) ?_;nofun;refine rv (bL hps) ?_;nofun;refine rv (a:=(.tup (ps.map D.str),_)) rfl ?_;nofun;refine rv (cE (ik hl8) (by rw[Qb,show sizeLine=16777216 from rfl];lia)) ?_;rw[pI hl8];nofun;have hcn:((dds++[(dn,ps,t)]).map λd:cB=>ak d.2.2).sum=(dds.map λd:cB=>ak d.2.2).sum+ak t:=by
   rw[Qs,RH];simp
  refine⟨dds++[(dn,ps,t)],l8,_,_,_,hw8,rfl,by rw[Qs];rfl,hl8,by simp[hdl],?_,by rw[hcn];lia,A8'.le (by lia)⟩;intro j d hj
  by_cases z:j < dds.length
  ·rw[Qt z] at hj;exact hdd j d hj
  ·rw[Qv (by exact RA z)] at hj;have hj0:j-dds.length=0:=by
    have:=(Qc.mp hj).1;simp at this
    lia
   rw[hj0] at hj;cases hj;obtain rfl:j=i:=by lia
   exact⟨hdn,hps,okl,hll⟩
 ·rintro δ h' ⟨dds,l',d5,d6,d7,hw,rfl,rfl,hwl,hdl,hdd,hc,A6⟩;rw[cG,Qb] at hdl;have w6:=(A6.push (o:=.lst (dds.map eF)) (eX _ _ (wu _) dds)).w;have hat:(hw++[MO.lst (dds.map eF)])[h.length+1]?=some (.lst (dds.map eF)):=ik hwl;obtain⟨hb',o',rfl,B9,C9⟩:=Wb.out (E:=E) C A1 rfl A6;nofun;refine rv (dW w6) ?_;nofun;refine rv (a:=(.lv ((i5 W.names).map D.str),_)) (by
   show(oB (W.names.map D.str)).bind _=_;rw[nG];show(if W.names.length < 64 then _ else _)=_;rw[Qf (by exact Rl n2 (by decide))]) ?_
  nofun;refine rv (a:=(.tup ((i5 W.names).map D.str),_)) rfl ?_;nofun;refine rv (a:=(.tup (dds.map eF),_)) (by simp only[fI,dw,hat,QU];rfl) ?_;nofun;rw[QG];exact rv (rX B9.b.1 C9 (λn z=>(nomatch z)) (Hb _ ⟨i5 W.names,dds⟩)) (k W fl ⟨i5 W.names,dds⟩ hb' ok ⟨rfl,hdl,hdd,by show _<=_;dsimp only;lia⟩ ⟨B9.S.le (by lia),A.b.trans B9.b⟩ C9)
end Mi
namespace Pg
open PySem Sm L2
noncomputable def bK(l:List Row):D:=.tup (cj l)
noncomputable def af:Row->List (List Row)
 | .say _=>[]
 | .call _ _=>[]
 | .within _ b=>[b]
 | .all _ b=>[b]
 | .ask _ b e=>[b,e]
 | .lz _ _ a b c=>[a,b,c]
 | .either a b=>[a,b]
 | .again a=>[a]
noncomputable def bJ:Row->Str
 | .say _=>"say"
 | .call _ _=>"call"
 | .within _ _=>"within"
 | .all _ _=>"all"
 | .ask _ _ _=>"ask"
 | .lz _ _ _ _ _=>"by"
 | .either _ _=>"either"
 | .again _=>"again"
mutual
noncomputable def eS(p:List Nat):Row->List (List Nat×Row)
 | .say _=>[]
 | .call _ _=>[]
 | .within _ b=>aU (p++[0]) 0 b
 | .all _ b=>aU (p++[0]) 0 b
 | .ask _ b e=>aU (p++[0]) 0 b++aU (p++[1]) 0 e
 | .lz _ _ a b c=>aU (p++[0]) 0 a++(aU (p++[1]) 0 b++aU (p++[2]) 0 c)
 | .either a b=>aU (p++[0]) 0 a++aU (p++[1]) 0 b
 | .again a=>aU (p++[0]) 0 a
noncomputable def aU(a:List Nat)(k:Nat):List Row->List (List Nat×Row)
 | []=>[]
 | r::rs=>(a++[k],r)::(eS (a++[k]) r++aU a (k+1) rs)
end
noncomputable def di(p:List Nat):Nat->List (List Row)->List (List Nat×Row)
 | _,[]=>[]
 | k,l::ls=>aU (p++[k]) 0 l++di p (k+1) ls
theorem ue(p:List Nat)(r:Row):eS p r=di p 0 (af r):=by
 cases r <;> simp[eS,af,di]
theorem gf(a:List Nat):∀(k:Nat)(x y:List Row),aU a k (x++y)=aU a k x++aU a (k+x.length) y
 | k,[],y=>by simp[aU]
 | k,r::x,y=>by simp[aU,gf a (k+1) x y,Ug,Ue]
theorem jX(p:List Nat):∀(k:Nat)(x y:List (List Row)),di p k (x++y)=di p k x++di p (k+x.length) y
 | k,[],y=>by simp[di]
 | k,r::x,y=>by simp[di,jX p (k+1) x y,Ug,Ue]
mutual
noncomputable def b9:Row->Nat
 | .say _=>0
 | .call _ _=>0
 | .within _ b=>aS b
 | .all _ b=>aS b
 | .ask _ b e=>max (aS b) (aS e)
 | .lz _ _ a b c=>max (aS a) (max (aS b) (aS c))
 | .either a b=>max (aS a) (aS b)
 | .again a=>aS a
noncomputable def aS:List Row->Nat
 | []=>1
 | r::rs=>max (1+b9 r) (aS rs)
end
theorem bZ{lot:List Row}{r:Row}(h:r∈lot):1+b9 r<=aS lot:=by
 induction lot with
 | nil=>cases h
 | cons x xs ih=>
  rw[aS];rcases Ql.mp h with rfl | h
  ·lia
  ·have:=ih h;lia
theorem bY{r:Row}{l:List Row}(h:l∈af r):aS l<=b9 r:=by
 cases r <;> simp[af] at h
 case within=>subst h;simp[b9]
 case all=>subst h;simp[b9]
 case ask=>rcases h with rfl | rfl <;> rw[b9] <;> lia
 case lz=>rcases h with rfl | rfl | rfl <;> rw[b9] <;> lia
 case either=>rcases h with rfl | rfl <;> rw[b9] <;> lia
 case again=>subst h;simp[b9]
theorem E2{lot:List Row}{r:Row}(h:r∈lot):cnt r<=ak lot:=by
 induction lot with
 | nil=>cases h
 | cons x xs ih=>
  rw[ak];rcases Ql.mp h with rfl | h
  ·lia
  ·have:=ih h;lia
theorem cW(r:Row):cnt r=1+((af r).map ak).sum:=by cases r <;> simp[cnt,af] <;> lia
mutual
theorem rB(p:List Nat):∀r:Row,1+(eS p r).length=cnt r
 | .say _=>by simp[eS,cnt]
 | .call _ _=>by simp[eS,cnt]
 | .within _ b=>by simp[eS,cnt,aQ (p++[0]) 0 b]
 | .all _ b=>by simp[eS,cnt,aQ (p++[0]) 0 b]
 | .ask _ b e=>by simp[eS,cnt,aQ (p++[0]) 0 b,aQ (p++[1]) 0 e];lia
 | .lz _ _ a b c=>by simp[eS,cnt,aQ (p++[0]) 0 a,aQ (p++[1]) 0 b,aQ (p++[2]) 0 c];lia
 | .either a b=>by simp[eS,cnt,aQ (p++[0]) 0 a,aQ (p++[1]) 0 b];lia
 | .again a=>by simp[eS,cnt,aQ (p++[0]) 0 a]
theorem aQ(a:List Nat):∀(k:Nat)(l:List Row),(aU a k l).length=ak l
 | k,[]=>by simp[aU,ak]
 | k,r::rs=>by
  have:=rB (a++[k]) r;have:=aQ a (k+1) rs;simp[aU,ak];lia
end
mutual
theorem zg{W:Wd}{ps:List Str}:∀(n:Nat)(r:Row),bg W ps n r->n<=5->b9 r<=5-n
 | n,.say _,_,_=>by simp[b9]
 | n,.call _ _,_,_=>by simp[b9]
 | n,.within _ b,h,hn=>by rw[bg] at h;have:=bR (n+1) b h.2.2.2 h.2.1;rw[b9];lia
 | n,.all _ b,h,hn=>by rw[bg] at h;have:=bR (n+1) b h.2.2.2 h.2.1;rw[b9];lia
 | n,.ask _ b e,h,hn=>by rw[bg] at h;have:=bR (n+1) b h.2.2.2.2.1 h.2.1;have:=bR (n+1) e h.2.2.2.2.2 h.2.1;rw[b9];clear h;lia
 | n,.lz _ _ a b c,h,hn=>by
  rw[bg] at h;obtain⟨_,_,h0,_,_,_,h1,h2,h3⟩:=h;have:=bR (n+1) a h1 h0;have:=bR (n+1) b h2 h0;have:=bR (n+1) c h3 h0;rw[b9];lia
 | n,.either a b,h,hn=>by
  rw[bg] at h;obtain⟨h0,_,_,h1,h2⟩:=h;have:=bR (n+1) a h1 h0;have:=bR (n+1) b h2 h0;rw[b9];lia
 | n,.again a,h,hn=>by
  rw[bg] at h;obtain⟨h0,_,h1⟩:=h;have:=bR (n+1) a h1 h0;rw[b9];lia
theorem bR{W:Wd}{ps:List Str}:∀(n:Nat)(l:List Row),bG W ps n l->n<=5->aS l<=6-n
 | n,[],_,hn=>by simp[aS];lia
 | n,r::rs,h,hn=>by
  rw[bG] at h;have:=zg n r h.1 hn;have:=bR n rs h.2 hn;rw[aS];lia
end
noncomputable def gi(n:Nat):D:=.int (n:Int)
noncomputable def dy(p:List Nat):D:=.tup (p.map gi)
noncomputable def oP(x:List Nat×Row):D:=.tup [dy x.1,aw x.2]
end Pg
namespace Mi
open PySem Sm L2 Pg
theorem He(n:Nat)(x:List Nat×Row):gX n (oP x)=true:=by
 show(fz n (x.1.map gi)&&(gX n (aw x.2)&&true))=true;rw[eX n _ (λ_=>rfl),sL];rfl
theorem uT(h:MH):wI h h=true:=by
 induction h with
 | nil=>rfl
 | cons o r ih=>show(Fh o o&&wI r r)=true;rw[uS,ih];rfl
theorem n5{H:MH}{xs:List D}(hc:fz H.length xs=true):leave H (.ob H.length) (H++[.lst xs])=some (.lv xs,H):=by
 have h3:yK H.length (H++[.lst xs]) (.ob H.length)=.lv xs:=by
  show(if H.length < H.length then _ else _)=_;rw[Qo (Sv _)];simp
 unfold leave;rw[h3,S8 (Qg _),Q9,uT];show(if(fz H.length xs&&_)=true then _ else _)=_;rw[hc];rfl
theorem fV(r:Row)(h:MH):dP [aw r] h=some (.tup ((af r).map bK),h):=by
 have e:Rn (dP [aw r] h) λp=>p=(.tup ((af r).map bK),h):=by
  refine bD ?_;cases r <;> rw[aw] <;> (nofun;refine rv rfl ?_;nofun;refine rv rfl ?_;dsimp only;refine⟨_,rfl,?_⟩;nofun;refine rv rfl ?_;rfl)
 obtain⟨p,e1,rfl⟩:=e;exact e1
theorem BU{xs ys:List D}{h:MH}(hl:xs.length+ys.length<=10000):az (.tup xs) (.tup ys) h=some (.tup (xs++ys),h):=by
 cases xs with
 | nil=>rfl
 | cons x xs=>
  show(if xs.length+1+ys.length<=sizeLine then some (D.tup (x::xs++ys),h) else none)=_;rw[Qf (by rw[show sizeLine=16777216 from rfl];rw[Qj] at hl;exact Qr hl (by decide))]
theorem rQ{h:MH}{n:Nat}{xs ys:List D}(e:h[n]?=some (.lst xs))(hl:xs.length+ys.length<=1000000):jV (.ob n) [.lv ys] h=some (.cu,h.set n (.lst (xs++ys))):=by
 unfold jV;dsimp only;rw[e];show(if xs.length+ys.length<=sizeLine then _ else _)=_;rw[Qf (by rw[show sizeLine=16777216 from rfl];exact Qr hl (by decide))]
theorem qP{H:MH}{o o':MO}:(H++[o]).set H.length o'=H++[o']:=by
 rw[Sd _ _ (Qg _),Sk];rfl
theorem ij{H:MH}{o:MO}:(H++[o])[H.length]?=some o:=by simp
theorem uH(a:List Nat)(i:Nat)(hl:a.length<=1000)(h:MH):az (dy a) (.tup [.int (i:Int)]) h=some (dy (a++[i]),h):=by
 show az (.tup (a.map gi)) (.tup [gi i]) _=_;rw[BU (by rw[Qb];simp;lia)];simp[dy]
theorem rD:∀(n:Nat)(lot:List Row)(ahead:List Nat)(h:MH),aS lot<=n->ak lot<=1000->ahead.length+2*n<=100->dG n [.tup (cj lot),dy ahead] h=some (.lv ((aU ahead 0 lot).map oP),h)
 | 0,lot,ahead,h,hn,hc,ha=>by
  exfalso;cases lot with
  | nil=>simp[aS] at hn
  | cons r rs=>rw[aS] at hn;lia
 | n+1,lot,ahead,h,hn,hc,ha=>by
  have e:Rn (dG (n+1) [.tup (cj lot),dy ahead] h) λp=>p=(.lv ((aU ahead 0 lot).map oP),h):=by
   unfold dG;refine kB ?_;nofun;refine my ?_;nofun;refine⟨_,_,_,rfl,rfl,?_⟩;rw[bT];refine cD (λi δ h'=>∃(d3 d4 d5 d6 d7:Option D),δ=[some (.tup (lot.map aw)),some (dy ahead),some (.ob h.length),d3,d4,d5,d6,d7]/\h'=h++[.lst ((aU ahead 0 (lot.take i)).map oP)])
    ⟨_,_,_,_,_,rfl,by simp[aU]⟩ (λ_ _ _ _ _=>rfl) ?_ ?_
   ·rintro i x δ h' hx ⟨d3,d4,d5,d6,d7,rfl,rfl⟩;obtain⟨r,hr,rfl⟩:=mW hx;have hrm:=Qd hr;have hi:i < lot.length:=(Qc.mp hr).1;have htk:lot.take (i+1)=lot.take i++[r]:=by
     rw[Uu,hr];rfl
    have hpl:aU ahead 0 (lot.take (i+1))=aU ahead 0 (lot.take i)++((ahead++[i],r)::di (ahead++[i]) 0 (af r)):=by
     rw[htk,gf];simp only[aU,ue,QB,Q6,Q1];rw[RG (by exact RW hi)]
    have hlen:(aU ahead 0 lot).length<=1000:=by rw[aQ];exact hc
    have hsub:(aU ahead 0 (lot.take (i+1))).length<=1000:=by
     have:aU ahead 0 lot=aU ahead 0 (lot.take (i+1))++aU ahead (0+(lot.take (i+1)).length) (lot.drop (i+1)):=by
      rw[<-gf,Rb]
     rw[this,Qk] at hlen;exact Qr (QK _ _) hlen
    generalize aU ahead 0 (lot.take i)=F0 at hpl ⊢;nofun;refine rv (uH ahead i (by lia) _) ?_;nofun;rw[hpl,Qk,Qj] at hsub;refine gV ?_;nofun;refine⟨cy ij,?_⟩;nofun;refine rv (cE ij (by rw[Qb,show sizeLine=16777216 from rfl];lia)) ?_;nofun;rw[qP];refine my ?_;nofun;refine rv (fV r _) ?_;nofun;refine⟨_,_,_,rfl,rfl,?_⟩;refine cD (λj δ h'=>∃(d6 d7:Option D),δ=[some (.tup (lot.map aw)),some (dy ahead),some (.ob h.length),some (.int i),some (aw r),some (dy (ahead++[i])),d6,d7]/\h'=h++[.lst ((F0++((ahead++[i],r)::di (ahead++[i]) 0 ((af r).take j))).map oP)])
     ⟨_,_,rfl,by simp[di,oP]⟩ (λ_ _ _ _ _=>rfl) ?_ ?_
    ·rintro j x δ h' hx ⟨d6,d7,rfl,rfl⟩;obtain⟨l,hl,rfl⟩:=mW hx;have hlm:=Qd hl;have hj:j < (af r).length:=(Qc.mp hl).1;have htk:(af r).take (j+1)=(af r).take j++[l]:=by
      rw[Uu,hl];rfl
     have hpj:di (ahead++[i]) 0 ((af r).take (j+1))=di (ahead++[i]) 0 ((af r).take j)++aU (ahead++[i]++[j]) 0 l:=by
      rw[htk,jX];simp only[di,QB,Q6,Q1];rw[RG (by exact RW hj)]
     have hsub2:(di (ahead++[i]) 0 ((af r).take (j+1))).length<=(di (ahead++[i]) 0 (af r)).length:=by
      have:di (ahead++[i]) 0 (af r)=di (ahead++[i]) 0 ((af r).take (j+1))++di (ahead++[i]) (0+((af r).take (j+1)).length) ((af r).drop (j+1)):=by
       rw[<-jX,Rb]
      rw[this,Qk];exact QK _ _
     rw[hpj,Qk] at hsub2;have ih:=λhh=>rD n l (ahead++[i]++[j]) hh (by have:=bZ hrm;have:=bY hlm;lia) (by rw[<-aQ (ahead++[i]++[j]) 0];lia) (by simp;lia);nofun;refine gV ?_;nofun;refine⟨cy ij,?_⟩;nofun;refine rv (uH (ahead++[i]) j (by simp;lia) _) ?_;nofun;refine rv (ih _) ?_;nofun;refine rv (rQ ij (by rw[Qb,Qb,Qk,Qj];lia)) ?_;nofun;rw[qP,<-Qs];refine⟨_,_,rfl,?_⟩;rw[hpj];simp
    ·rintro δ h' ⟨d6,d7,rfl,rfl⟩;rw[cG,Qb,Q9];nofun;exact⟨_,_,_,_,_,rfl,by rw[hpl]⟩
   ·rintro δ h' ⟨d3,d4,d5,d6,d7,rfl,rfl⟩;rw[cG,Qb,Q9];nofun;exact rv (n5 (eX _ _ (He _) _)) rfl
  obtain⟨p,e1,rfl⟩:=e;exact e1
end Mi
namespace Pg
open PySem Sm L2
noncomputable def placesFrom:Nat->List cB->List (Nat×List Nat×Row)
 | _,[]=>[]
 | k,d::ds=>(aU [] 0 d.2.2).map (λx=>(k,x.1,x.2))++placesFrom (k+1) ds
noncomputable def gg(x:Nat×List Nat×Row):D:=.tup [gi x.1,dy x.2.1,aw x.2.2]
theorem eA:∀(k:Nat)(x y:List cB),placesFrom k (x++y)=placesFrom k x++placesFrom (k+x.length) y
 | k,[],y=>by simp[placesFrom]
 | k,d::x,y=>by simp[placesFrom,eA (k+1) x y,Ug,Ue]
theorem gd:∀(k:Nat)(ds:List cB),(placesFrom k ds).length=(ds.map λd=>ak d.2.2).sum
 | _,[]=>rfl
 | k,d::ds=>by simp[placesFrom,gd (k+1) ds,aQ]
theorem qb:∀{ds:List cB} {d:cB},d∈ds->ak d.2.2<=(ds.map λd=>ak d.2.2).sum
 | x::r,d,h=>by
  rw[Qp,Q3];rcases Ql.mp h with rfl | h
  ·lia
  ·have:=qb h;lia
structure Hq(P:Prog):Prop where
 nd:∀d∈P.ai,aS d.2.2<=6
 ct:(P.ai.map λd=>ak d.2.2).sum<=1000
 dl:P.ai.length<=1000
theorem Ll.fit{W:Wd}{m:Nat}{P:Prog}(o:Ll W m P)(hm:m<=1000)(hd:W.ai.length<=6):Hq P:=by
 refine⟨λd hd=>?_,Qr o.ct hm,by rw[o.dl];lia⟩;obtain⟨j,hj⟩:=RD.mp hd;obtain⟨_,_,ok,_⟩:=o.dd j d hj;have:=bR 1 d.2.2 ok (by lia)
 lia
end Pg
namespace Mi
open PySem Sm L2 Pg
theorem E6(n:Nat)(x:Nat×List Nat×Row):gX n (gg x)=true:=by
 show(true&&(fz n (x.2.1.map gi)&&(gX n (aw x.2.2)&&true)))=true;rw[eX n _ (λ_=>rfl),sL];rfl
theorem G9{α:Type}{ws:W}{g:GM}{e:EM}{h:MH}(hc:pW ws h=true)(f k:α->D)(J:DS->Prop)(xs:List α){δ:DS}(h0:J δ)(ht:∀x∈xs,∀δ,J δ->Rn (g (f x) δ h) λq=>q.2=h/\J q.1/\Rn (e q.1 h) λp=>p=(k x,h)):
  bP ws g dQ e (xs.map f) δ h=some (xs.map k,h):=by
 induction xs generalizing δ with
 | nil=>rw[RY];unfold bP;rw[Qf hc];rfl
 | cons x r ih=>
  rw[Qp];unfold bP;rw[Qf hc];obtain⟨⟨δ1,h1⟩,e1,rfl,J1,p,e2,rfl⟩:=ht x Qh δ h0;rw[e1];dsimp only[Option.bind_some] at e2 ⊢;show((some (true,h1)).bind _)=_;dsimp only[Option.bind_some];rw[Qf rfl,e2];dsimp only[Option.bind_some];rw[ih J1 λy hy=>ht y (Qi _ hy)];rfl
theorem jr{P:Prog}(fit:Hq P)(h:MH):dO [bq P] h=some (.lv ((placesFrom 0 P.ai).map gg),h):=by
 have e:Rn (dO [bq P] h) λp=>p=(.lv ((placesFrom 0 P.ai).map gg),h):=by
  refine kB ?_;nofun;refine my ?_;nofun;refine rv (a:=(.tup (P.ai.map eF),_)) rfl ?_;nofun;refine⟨_,_,_,rfl,rfl,?_⟩;refine cD (λi δ h'=>∃(d2 d3 d4 d5:Option D),δ=[some (bq P),some (.ob h.length),d2,d3,d4,d5]/\h'=h++[.lst ((placesFrom 0 (P.ai.take i)).map gg)])
   ⟨_,_,_,_,rfl,by simp[placesFrom]⟩ (λ_ _ _ _ _=>rfl) ?_ ?_
  ·rintro i x δ h' hx ⟨d2,d3,d4,d5,rfl,rfl⟩;obtain⟨d,hd,rfl⟩:=mW hx;have hdm:=Qd hd;have hi:i < P.ai.length:=(Qc.mp hd).1;have htk:P.ai.take (i+1)=P.ai.take i++[d]:=by rw[Uu,hd];rfl
   have hpl:placesFrom 0 (P.ai.take (i+1))=placesFrom 0 (P.ai.take i)++(aU [] 0 d.2.2).map λx=>(i,x.1,x.2):=by
    rw[htk,eA];simp only[placesFrom,QB,Q6,Q1];rw[RG (by lia)]
   have hc:=qb hdm;have ct:=fit.ct;have hlen:(placesFrom 0 P.ai).length<=1000:=by rw[gd];exact ct
   have hsub:(placesFrom 0 (P.ai.take (i+1))).length<=1000:=by
    have:placesFrom 0 P.ai=placesFrom 0 (P.ai.take (i+1))++placesFrom (0+(P.ai.take (i+1)).length) (P.ai.drop (i+1)):=by
     rw[<-eA,Rb]
    rw[this,Qk] at hlen
    lia
   rw[hpl,Qk,Qb] at hsub;unfold eF;nofun;refine gV ?_;nofun;refine⟨cy ij,?_⟩;nofun;refine eR ?_;nofun;refine rv (rD 8 d.2.2 [] _ (Qr (fit.nd d hdm) (by decide)) (by lia) (by simp)) ?_;refine⟨_,_,rfl,?_⟩;refine rv (G9 rfl oP (λx=>gg (i,x.1,x.2)) (λδ=>∃a b,δ=[a,b,some (.int i)]) (aU [] 0 d.2.2) ⟨_,_,rfl⟩ ?_) ⟨?_,?_⟩
   ·rintro x hx δ ⟨a,b,rfl⟩;unfold oP;nofun;refine⟨rfl,⟨_,_,rfl⟩,?_⟩;nofun;rfl
   ·dsimp only;rw[Qb,show sizeLine=16777216 from rfl]
    lia
   ·nofun;refine rv (rQ ij (by rw[Qb,Qb];lia)) ?_;nofun;rw[qP];refine⟨_,_,_,_,rfl,?_⟩;rw[hpl,Qs,Ra];rfl
  ·rintro δ h' ⟨d2,d3,d4,d5,rfl,rfl⟩;rw[cG,Qb,Q9];nofun;exact rv (n5 (eX _ _ (E6 _) _)) rfl
 obtain⟨p,e1,rfl⟩:=e;exact e1
end Mi
namespace Sm
open PySem L2 Builtin.Str StrLaws
noncomputable def HQ(l:List Nat):Str:=⟨l.toArray⟩
theorem GJ(l:List Nat):(HQ l).cps.toList=l:=by simp[HQ]
theorem vV(x:Str):HQ x.cps.toList=x:=by cases x;simp[HQ]
theorem rY(c:Nat):∀(x:Str)(r:List Str),(Str.join ⟨#[c]⟩ (x::r)).cps.toList=x.cps.toList++(r.map λy=>c::y.cps.toList).flatten
 | x,[]=>by show x.cps.toList=_;simp
 | x,y::r=>by
  show(x.cps++#[c]++(Str.join ⟨#[c]⟩ (y::r)).cps).toList=_;rw[Tc,Tc,rY c y r];simp
theorem sH{c:Nat}:∀{a b s t:List Nat},c∉a->c∉b->a++c::s=b++c::t->a=b/\s=t
 | [],[],s,t,_,_,e=>⟨rfl,by simpa using e⟩
 | [],y::b,s,t,_,hb,e=>by simp at e;exact absurd (e.1 ▸ Qh) hb
 | x::a,[],s,t,ha,_,e=>by simp at e;exact absurd (e.1 ▸ Qh) ha
 | x::a,y::b,s,t,ha,hb,e=>by
  simp at e;obtain⟨e1,e2⟩:=sH (λh=>ha (Qi _ h)) (λh=>hb (Qi _ h)) e.2;exact⟨by rw[e.1,e1],e2⟩
theorem AG{x y:Str}(e:x.cps.toList=y.cps.toList):x=y:=by rw[<-vV x,e,vV]
def Sh(n:Nat)(x:Str):Prop:=x.length<=n/\PyData.strOk x=true
theorem Sh.up{n m:Nat}{x:Str}(h:Sh n x)(hm:n<=m):Sh m x:=⟨Qr h.1 hm,h.2⟩
theorem Sh.app{n m:Nat}{x y:Str}(h:Sh n x)(h':Sh m y):Sh (n+m) (x++y):=⟨by rw[QV];exact Nat.add_le_add h.1 h'.1,Sm.g0 h.2 h'.2⟩
theorem Sh.int{i:Int}(h:-99<=i/\i<=99):Sh 8 (Str.ofString (toString i)):=by
 refine⟨?_,tZ i⟩;have hl:(Str.ofString (toString i)).length=(toString i).length:=by
  rw[Str.ofString_eq_toList];show((toString i).toList.map Char.toNat).toArray.size=_;rw[Qu,Qb];exact String.length_toList
 rw[hl];have:=int_text_length_le10 (a:=i) (k:=2) (by decide) (by lia)
 lia
theorem Sh.join{n:Nat}{s:Str}(hs:Sh 1 s):∀{xs:List Str},(∀x∈xs,Sh n x)->Sh ((n+1)*xs.length) (Str.join s xs)
 | [],_=>⟨by simp[Str.join,Str.empty,Str.length],kM hs.2 [] (λ_ h=>(nomatch h))⟩
 | [x],h=>(h x (.head _)).up (by simp)
 | x::y::r,h=>by
  have:=(((h x (.head _)).app hs).app (Sh.join (n:=n) hs (xs:=y::r) λz hz=>h z (.tail _ hz)));exact this.up (by simp only[Qj];rw[Nat.mul_succ (n+1)];lia)
theorem je{x:Str}{w rest:List Nat}(h:32∉w)(e:x.cps.toList=w\/x.cps.toList=w++32::rest):∃r,Txt.split x (Str.ofString " ")=HQ w::r:=by
 have eb:Str.ofString " "=⟨#[32]⟩:=by decide+kernel
 rw[eb];have j:=join_split x ⟨#[32]⟩;have f:=split_free x 32;have p:=Tu x ⟨#[32]⟩;generalize Txt.split x ⟨#[32]⟩=ps at j f p;cases ps with
 | nil=>simp at p
 | cons y r=>
  refine⟨r,?_⟩;have jc:y.cps.toList++(r.map λy=>32::y.cps.toList).flatten=x.cps.toList:=by rw[<-rY,j]
  have fy:=f y (.head _);have:y.cps.toList=w:=by
   rcases e with e | e
   ·rw[e] at jc;cases r with
    | nil=>simpa using jc
    | cons z r=>exact absurd (by rw[<-jc];simp) h
   ·rw[e] at jc;cases r with
    | nil=>
     have:y.cps.toList=w++32::rest:=by simpa using jc
     exact absurd (by rw[this];simp) fy
    | cons z r=>
     simp only[Qp,RO,QL] at jc;exact(sH fy h jc).1
  rw[show y=HQ w from AG (by rw[GJ,this])]
theorem kO{x:Str}(h:Sh 1000 x){H:MH}:nZ (.str x) [.str " "] H=some (.lv ((Txt.split x (Str.ofString " ")).map D.str),H):=by
 have eb:Str.ofString " "=⟨#[32]⟩:=by decide+kernel
 have h1:=h.1;unfold nZ;dsimp only;rw[Qf];refine⟨by decide+kernel,Qr h1 (by decide),?_,?_,?_⟩
 ·have:=PyProof.Rows.split_le x (Str.ofString " ");rw[show sizeLine=16777216 from rfl];lia
 ·rw[PyProof.Rows.len_partsBetween];have:=StrLaws.occ_length_le x (Str.ofString " ") 0 x.length (x.length+1);rw[show sizeLine=16777216 from rfl];lia
 ·rw[RU];intro y hy;have j:=join_split x (Str.ofString " ");have h2:=h.2;unfold PyData.strOk at h2 ⊢;rw[Vc] at h2 ⊢;intro c hc;refine h2 c ?_;have:=(PyProof.Rows.mem_join (Str.ofString " ") c (Txt.split x (Str.ofString " "))).mpr (.inl ⟨y,hy,S9.mpr hc⟩);rw[j] at this;exact S9.mp this
end Sm
namespace Pg
open PySem Sm L2
noncomputable def jd(t:Term):Str:=if t.1=Str.ofString "" then Str.ofString (toString t.2) else if t.2=0 then t.1 else t.1++(if 0 < t.2 then Txt.mul (Str.ofString "+") 1 else Txt.mul (Str.ofString "+") 0)++Str.ofString (toString t.2)
noncomputable def gk(l:Lock):Str:=l.1++Str.ofString ":"++jd l.2
noncomputable def bH:Row->Str
 | .say w=>Str.ofString "say "++w
 | .call d ts=>Str.join (Str.ofString " ") (Str.ofString "call"::d::ts.map jd)
 | .within l _=>Str.ofString "within"++Str.ofString " "++gk l
 | .all ls _=>Str.join (Str.ofString " ") (Str.ofString "all"::ls.map gk)
 | .ask l _ _=>Str.ofString "ask"++Str.ofString " "++gk l
 | .lz s t _ _ _=>Str.ofString "by "++jd s++Str.ofString " "++jd t
 | .either _ _=>Str.ofString "either"
 | .again _=>Str.ofString "again"
def IK(t:Term):Prop:=Sh 8 t.1/\-99<=t.2/\t.2<=99
def Lh(l:Lock):Prop:=Sh 8 l.1/\IK l.2
def qf:Row->Prop
 | .say w=>Sh 8 w
 | .call d ts=>Sh 8 d/\ts.length<=3/\∀t∈ts,IK t
 | .within l _=>Lh l
 | .all ls _=>ls.length<=4/\(∀l∈ls,Lh l)/\ls≠[]
 | .ask l _ _=>Lh l
 | .lz s t _ _ _=>IK s/\IK t
 | .either _ _=>True
 | .again _=>True
theorem gG{t:Term}(h:IK t):Sh 20 (jd t):=by
 unfold jd
 split
 ·exact(Sh.int h.2).up (by decide)
 ·split
  ·exact h.1.up (by decide)
  ·refine Sh.up (n:=8+2+8) ((h.1.app ?_).app (Sh.int h.2)) (by decide)
   split <;> exact⟨by decide+kernel,by decide+kernel⟩
theorem ie{l:Lock}(h:Lh l):Sh 30 (gk l):=Sh.up (n:=8+1+20) ((h.1.app ⟨by decide+kernel,by decide+kernel⟩).app (gG h.2)) (by decide)
theorem iw:Sh 1 (Str.ofString " "):=⟨by decide+kernel,by decide+kernel⟩
theorem xZ:∀{r:Row},qf r->Sh 400 (bH r)
 | .say w,h=>Sh.up (n:=4+8) (Sh.app ⟨by decide+kernel,by decide+kernel⟩ h) (by decide)
 | .call d ts,h=>by
  refine(Sh.join (n:=20) iw λx hx=>?_).up ?_
  ·rcases Ql.mp hx with rfl | hx
   ·exact⟨by decide+kernel,by decide+kernel⟩
   ·rcases Ql.mp hx with rfl | hx
    ·exact h.1.up (by decide)
    ·obtain⟨t,ht,rfl⟩:=Q2.mp hx;exact gG (h.2.2 t ht)
  ·have:=h.2.1;simp only[Qj,Qb];lia
 | .within l _,h=>Sh.up (n:=6+1+30) ((Sh.app ⟨by decide+kernel,by decide+kernel⟩ iw).app (ie h)) (by decide)
 | .all ls _,h=>by
  refine(Sh.join (n:=30) iw λx hx=>?_).up ?_
  ·rcases Ql.mp hx with rfl | hx
   ·exact⟨by decide+kernel,by decide+kernel⟩
   ·obtain⟨t,ht,rfl⟩:=Q2.mp hx;exact ie (h.2.1 t ht)
  ·have:=h.1;simp only[Qj,Qb];lia
 | .ask l _ _,h=>Sh.up (n:=3+1+30) ((Sh.app ⟨by decide+kernel,by decide+kernel⟩ iw).app (ie h)) (by decide)
 | .lz s t _ _ _,h=>Sh.up (n:=3+20+1+20) (((Sh.app ⟨by decide+kernel,by decide+kernel⟩ (gG h.1)).app iw).app (gG h.2)) (by decide)
 | .either _ _,_=>show Sh 400 (Str.ofString "either") from⟨by decide+kernel,by decide+kernel⟩
 | .again _,_=>show Sh 400 (Str.ofString "again") from⟨by decide+kernel,by decide+kernel⟩
noncomputable def sorts:List (List Nat):=[[115,97,121],[99,97,108,108],[119,105,116,104,105,110],[97,108,108],[97,115,107],[98,121],[101,105,116,104,101,114],[97,103,97,105,110]]
theorem j7(x:Str)(r:List Str)(h:r≠[]):∃rest,(Str.join (Str.ofString " ") (x::r)).cps.toList=x.cps.toList++32::rest:=by
 have eb:Str.ofString " "=⟨#[32]⟩:=by decide+kernel
 rw[eb,rY];cases r with
 | nil=>exact absurd rfl h
 | cons y r=>exact⟨_,rfl⟩
theorem fm(x y:Str):(x++y).cps.toList=x.cps.toList++y.cps.toList:=by
 show(x.cps++y.cps).toList=_;rw[Tc]
theorem sh(r:Row)(h:qf r):∃rest,(bH r).cps.toList=(bJ r).cps.toList\/(bH r).cps.toList=(bJ r).cps.toList++32::rest:=by
 cases r with
 | say w=>exact⟨w.cps.toList,.inr (by show(Str.ofString "say "++w).cps.toList=_;rw[fm,show(Str.ofString "say ").cps.toList=(Str.ofString "say").cps.toList++[32] by decide+kernel];simp[bJ])⟩
 | call d ts=>obtain⟨rest,e⟩:=j7 (Str.ofString "call") (d::ts.map jd) (by simp);exact⟨rest,.inr e⟩
 | within l _=>exact⟨(gk l).cps.toList,.inr (by show(Str.ofString "within"++Str.ofString " "++gk l).cps.toList=_;rw[fm,fm,show(Str.ofString " ").cps.toList=[32] by decide+kernel];simp[bJ])⟩
 | all ls _=>
  by_cases z:ls.map gk=[]
  ·exact⟨[],.inl (by show(Str.join _ (_::ls.map gk)).cps.toList=_;rw[z];rfl)⟩
  ·obtain⟨rest,e⟩:=j7 (Str.ofString "all") (ls.map gk) z;exact⟨rest,.inr e⟩
 | ask l _ _=>exact⟨(gk l).cps.toList,.inr (by show(Str.ofString "ask"++Str.ofString " "++gk l).cps.toList=_;rw[fm,fm,show(Str.ofString " ").cps.toList=[32] by decide+kernel];simp[bJ])⟩
 | lz s t _ _ _=>exact⟨(jd s++Str.ofString " "++jd t).cps.toList,.inr (by show(Str.ofString "by "++jd s++Str.ofString " "++jd t).cps.toList=_;rw[fm,fm,fm,fm,fm,show(Str.ofString "by ").cps.toList=(Str.ofString "by").cps.toList++[32] by decide+kernel];simp[bJ])⟩
 | either _ _=>exact⟨[],.inl rfl⟩
 | again _=>exact⟨[],.inl rfl⟩
theorem wZ(r:Row):(bJ r).cps.toList∈sorts:=by
 have:∀w∈[Str.ofString "say",Str.ofString "call",Str.ofString "within",Str.ofString "all",Str.ofString "ask",Str.ofString "by",Str.ofString "either",Str.ofString "again"],w.cps.toList∈sorts:=by decide+kernel
 refine this _ ?_;cases r <;> simp[bJ]
theorem yQ:∀w∈sorts,32∉w:=by decide
theorem lq(r:Row)(h:qf r):∃q,Txt.split (bH r) (Str.ofString " ")=bJ r::q:=by
 obtain⟨rest,e⟩:=sh r h;obtain⟨q,e⟩:=je (yQ _ (wZ r)) e;exact⟨q,by rw[e,vV]⟩
theorem CW:∀w∈sorts,w.head?≠some 111/\w≠[101,110,100]/\∀rest,w++32::rest≠[101,110,100]:=by
 have:∀w∈sorts,w.head?≠some 111/\w≠[101,110,100]/\w≠[]/\32∉[101,110,100]:=by decide
 exactλw hw=>⟨(this w hw).1,(this w hw).2.1,λrest e=>(this w hw).2.2.2 (by rw[<-e];simp)⟩
theorem we(r:Row)(h:qf r):(bH r==Str.ofString "or")=false/\(bH r==Str.ofString "end")=false:=by
 obtain⟨rest,e⟩:=sh r h;obtain⟨a,b,c⟩:=CW _ (wZ r);constructor <;> rw[Sn] <;> intro z <;> rw[z] at e
 ·rw[show(Str.ofString "or").cps.toList=[111,114] by decide+kernel] at e;rcases e with e | e
  ·rw[<-e] at a;exact a rfl
  ·cases hw:(bJ r).cps.toList with
   | nil=>rw[hw] at e;cases e
   | cons x q=>rw[hw] at e a;exact a (by rw[<-(List.cons.inj e).1];rfl)
 ·rw[show(Str.ofString "end").cps.toList=[101,110,100] by decide+kernel] at e;rcases e with e | e
  ·exact b e.symm
  ·exact c rest e.symm
end Pg
namespace Sm
open PySem L2
theorem yj{α:Type}{e:EM}{h:MH}{t:DS}(A f:α->D):∀(xs:List α)(o:Option D),(∀x∈xs,e (some (A x)::t) h=some (f x,h))->bP [] (gN 0) dQ e (xs.map A) (o::t) h=some (xs.map f,h)
 | [],o,_=>rfl
 | x::r,o,hx=>by
  have e1:e (some (A x)::t) h=some (f x,h):=hx x Qh;have e2:=yj A f r (some (A x)) λy hy=>hx y (Qi _ hy);show((e (some (A x)::t) h).bind λy=>(bP [] (gN 0) dQ e (r.map A) (some (A x)::t) y.2).map λz=>(y.1::z.1,z.2))=_;rw[e1];show((bP [] (gN 0) dQ e (r.map A) (some (A x)::t) h).map λz=>(f x::z.1,z.2))=_;rw[e2];rfl
theorem uX{α:Type}{caps:List (Option Nat)}{ei e:EM}{δ t:DS}{o:Option D}{h:MH}{d:D}{xs:List α}(A f:α->D)(hi:ei δ h=some (d,h))(hs:dw d h=some (xs.map A,[]))(hc:gq caps δ=o::t)(hl:xs.length<=100000)(he:∀x∈xs,e (some (A x)::t) h=some (f x,h)):
  cm caps (eN ei) (gN 0) dQ e δ h=some (xs.map f,h):=by
 unfold cm eN;rw[hi];dsimp only[Option.bind_some];rw[hs];dsimp only[Option.map_some,Option.bind_some];rw[hc,yj A f xs o he];dsimp only[Option.bind_some];rw[Qf (by rw[Qb,show sizeLine=16777216 from rfl];lia)]
abbrev g2:GM:=gT 2 (ar (gN 0) (ar (gN 1) bU))
theorem yi{α:Type}{e:EM}{h:MH}{t:DS}(A B f:α->D):∀(xs:List α)(o o2:Option D),(∀x∈xs,e (some (A x)::some (B x)::t) h=some (f x,h))->bP [] g2 dQ e (xs.map λx=>.tup [A x,B x]) (o::o2::t) h=some (xs.map f,h)
 | [],o,o2,_=>rfl
 | x::r,o,o2,hx=>by
  have e1:e (some (A x)::some (B x)::t) h=some (f x,h):=hx x Qh;have e2:=yi A B f r (some (A x)) (some (B x)) λy hy=>hx y (Qi _ hy);show((e (some (A x)::some (B x)::t) h).bind λy=>(bP [] g2 dQ e (r.map λx=>.tup [A x,B x]) (some (A x)::some (B x)::t) y.2).map λz=>(y.1::z.1,z.2))=_;rw[e1];show((bP [] g2 dQ e (r.map λx=>.tup [A x,B x]) (some (A x)::some (B x)::t) h).map λz=>(f x::z.1,z.2))=_;rw[e2];rfl
theorem Ca{α:Type}{caps:List (Option Nat)}{ei e:EM}{δ t:DS}{o o2:Option D}{h:MH}{d:D}{xs:List α}(A B f:α->D)(hi:ei δ h=some (d,h))(hs:dw d h=some (xs.map λx=>.tup [A x,B x],[]))(hc:gq caps δ=o::o2::t)(hl:xs.length<=100000)(he:∀x∈xs,e (some (A x)::some (B x)::t) h=some (f x,h)):
  cm caps (eN ei) g2 dQ e δ h=some (xs.map f,h):=by
 unfold cm eN;rw[hi];dsimp only[Option.bind_some];rw[hs];dsimp only[Option.map_some,Option.bind_some];rw[hc,yi A B f xs o o2 he];dsimp only[Option.bind_some];rw[Qf (by rw[Qb,show sizeLine=16777216 from rfl];lia)]
end Sm
namespace Mi
open PySem Sm L2 Pg
theorem Mc{δ:DS}{h:MH}{a b:EM}{Q:D×MH->Prop}(r:Rn (a δ h) λp=>∃c,yJ p.1 p.2=some c/\(c=true->Q p)/\(c=false->Rn (b δ p.2) Q)):Rn (KD a b δ h) Q:=aY (r.imp λp ⟨c,e,q1,q2⟩=>by
 rw[e];show Rn (if c=true then some p else b δ p.2) Q;cases c with
 | true=>rw[Qf rfl];exact⟨_,rfl,q1 rfl⟩
 | false=>rw[Qo (by simp)];exact q2 rfl)
theorem len0{w:Str}(h:w.length=0):w=Str.ofString "":=by
 refine AG ?_;have:w.cps.toList.length=0:=by rw[Sq];exact h
 rw[List.length_eq_zero_iff.mp this];rfl
theorem fQ{t:Term}{h:MH}(ht:IK t):bt [bp t] h=some (.str (jd t),h):=by
 obtain⟨w,i⟩:=t;obtain⟨hw,h0,h1⟩:=ht;dsimp only at hw h0 h1;have hs:x8 [.int i] h=some (.str (Str.ofString (toString i)),h):=by
  show(if i.natAbs.log2 < 1920 then some (D.str (Str.ofString (toString i)),h) else none)=_;rw[Qf]
  by_cases z:i.natAbs=0
  ·rw[z];decide
  ·exact(Nat.log2_lt z).mpr (QF (show i.natAbs < 2^7 by lia) (U2 (by decide) (by decide)))
 have li:=(Sh.int ⟨h0,h1⟩).1;have lw:=hw.1;refine bS ?_;show Rn (bt [.tup [.str w,.int i]] h) _;refine bD ?_;refine fv (DF (rv (a:=(.tup [.str w,.int i],h)) rfl (rv (a:=([some (.tup [.str w,.int i]),some (.str w),some (.int i)],h)) rfl (sY ?_))));refine fh (w=Str.ofString ""\/i=0) ?_ (λz=>?_) (λz=>?_)
 ·nofun;refine⟨_,rfl,λy=>?_,λy=>?_⟩
  ·exact dT (.inl (eq_of_beq y)) _
  ·have y:w≠Str.ofString "":=by intro e;rw[e,QS] at y;cases y
   nofun;refine⟨_,rfl,?_⟩;rw[show(i==0)=decide (w=Str.ofString ""\/i=0) by rw[RK];simp[y]]
 ·nofun;refine Mc ?_;nofun
  by_cases e:w=Str.ofString ""
  ·subst e;refine⟨false,by ac_nf,λz=>(nomatch z),λ_=>?_⟩;nofun;refine rv hs ?_;nofun;unfold jd;rw[Qf rfl]
  ·have z0:i=0:=z.resolve_left e;subst z0;refine⟨true,?_,λ_=>?_,λz=>(nomatch z)⟩
   ·show(if w.length<=sizeLine then some ((w.length:Int) !=0) else none)=_;rw[Qf (Qr lw (by decide))];have:w.length≠0:=λy=>e (len0 y);congr 1;simp only[bne_iff_ne,ne_eq];lia
   ·nofun;unfold jd;rw[Qo e,Qf rfl]
 ·nofun;obtain⟨v,hv,hm,hvt⟩:∃(v:Int),om [.bl (decide (0 < i))] h=some (.int v,h)/\ip (.str (Str.ofString "+")) (.int v) h=some (.str (if 0 < i then Txt.mul (Str.ofString "+") 1 else Txt.mul (Str.ofString "+") 0),h)/\(if 0 < i then Txt.mul (Str.ofString "+") 1 else Txt.mul (Str.ofString "+") 0).length<=1:=by
   by_cases y:0 < i
   ·exact⟨1,by rw[QP y];rfl,by rw[Qf y];ac_nf,by rw[Qf y];decide+kernel⟩
   ·exact⟨0,by rw[QZ y];rfl,by rw[Qo y];ac_nf,by rw[Qo y];decide+kernel⟩
  refine rv hv (rv hm (rv (bE (by lia)) ?_));nofun;refine rv hs (rv (bE (by rw[QV];lia)) ?_);nofun;unfold jd;dsimp only;rw[Qo (λe=>z (.inl e)),Qo (λe=>z (.inr e))]
theorem iN{l:Lock}{h:MH}(hl:Lh l):b8 [aF l] h=some (.str (gk l),h):=by
 obtain⟨w,t⟩:=l;obtain⟨hw,ht⟩:=hl;have a:=hw.1;have b:=(gG ht).1;have c:(Str.ofString ":").length=1:=by decide+kernel
 dsimp only at a b;refine bS ?_;show Rn (b8 [.tup [.str w,bp t]] h) _;refine bD ?_;nofun;refine rv (bE (by lia)) ?_;nofun;refine rv (fQ ht) (rv (bE (by rw[QV];lia)) ?_);nofun;rfl
theorem wV{n:Nat}:∀{xs:List Str},(∀x∈xs,x.length<=n)->(xs.map (·.length)).sum<=n*xs.length
 | [],_=>by simp
 | x::r,h=>by
  have a:=h x (.head _);have b:=wV (n:=n) (xs:=r) λy hy=>h y (.tail _ hy);simp only[Qp,Q3,Qj];rw[Nat.mul_succ];lia
theorem n6{xs:List Str}(h:∀x∈xs,x.length<=1000)(hl:xs.length<=1000){H:MH}{d:D}{ws:List (Nat×MO)}(e:dw d H=some (xs.map D.str,ws)):pe (.str " ") [d] H=some (.str (Str.join (Str.ofString " ") xs),H):=by
 unfold pe;dsimp only;rw[e];dsimp only[Option.bind_some];rw[nG];dsimp only[Option.bind_some];have:=wV h;have c:(Str.ofString " ").length=1:=by decide+kernel
 rw[Qf (by rw[c];lia)]
theorem GW{r:Row}{h:MH}(hr:qf r):jM [aw r] h=some (.str (bH r),h):=by
 have cb:(Str.ofString " ").length=1:=by decide+kernel
 cases r with
 | either a b=>rw[aw];ac_nf
 | again a=>rw[aw];ac_nf
 | say w=>
  have a:=hr.1;refine bS (bD ?_);rw[aw];nofun;refine⟨true,by ac_nf,λ_=>?_,λz=>(nomatch z)⟩;nofun;refine rv (bE (by rw[show(Str.ofString "say ").length=4 by decide+kernel];lia)) ?_;nofun;rfl
 | call d ts=>
  have hd:=hr.1.1;have hl:=hr.2.1;have e1:cm [none] (eN (ao aP (ax 0) (eK (.int 2)))) (gN 0) dQ (ay bt (ag (ax 0) aM)) (entry 1 [.tup [.str "call",.str d,.tup (ts.map bp)]]) h=some (ts.map λt=>.str (jd t),h):=
   uX (t:=[]) (o:=none) bp (λt=>.str (jd t)) (d:=.tup (ts.map bp)) rfl rfl rfl (by lia) λt ht=>fQ (hr.2.2 t ht)
  refine bS (bD ?_);rw[aw];nofun;refine⟨false,by ac_nf,λz=>(nomatch z),λ_=>?_⟩;nofun;refine⟨true,by ac_nf,λ_=>?_,λz=>(nomatch z)⟩;nofun;refine gV ?_;nofun;refine⟨rfl,cO (mx (vD (rv (a:=([.str "call",.str d],h)) (by ac_nf) (vD (rv e1 ?_)))))⟩;refine rv (a:=(.lv ((Str.ofString "call"::d::ts.map jd).map D.str),h)) ?_ (kA (rv (n6 ?_ ?_ (ws:=[]) rfl) ?_))
  ·rw[Qp,Qp,Ra];simp only[az,tV,dR,QM,Qb,Qj,RI];rw[Qf (by rw[show sizeLine=16777216 from rfl];lia)];rfl
  ·intro x hx;rcases Ql.mp hx with rfl | hx
   ·decide+kernel
   ·rcases Ql.mp hx with rfl | hx
    ·lia
    ·obtain⟨t,ht,rfl⟩:=Q2.mp hx;have:=(gG (hr.2.2 t ht)).1
     lia
  ·simp;lia
  ·nofun;rfl
 | all ls b=>
  have hl:=hr.1;have e1:cm [none] (eN (ao aP (ax 0) (eK (.int 1)))) (gN 0) dQ (ay b8 (ag (ax 0) aM)) (entry 1 [.tup [.str "all",.tup (ls.map aF),.tup (cj b)]]) h=some (ls.map λt=>.str (gk t),h):=
   uX (t:=[]) (o:=none) aF (λt=>.str (gk t)) (d:=.tup (ls.map aF)) rfl rfl rfl (by lia) λt ht=>iN (hr.2.1 t ht)
  refine bS (bD ?_);rw[aw];nofun;refine⟨false,by ac_nf,λz=>(nomatch z),λ_=>?_⟩;nofun;refine⟨false,by ac_nf,λz=>(nomatch z),λ_=>?_⟩;nofun;refine⟨true,by ac_nf,λ_=>?_,λz=>(nomatch z)⟩;nofun;refine gV ?_;nofun;refine⟨rfl,cO (mx (vD (rv (a:=([.str "all"],h)) (by ac_nf) (vD (rv e1 ?_)))))⟩;refine rv (a:=(.lv ((Str.ofString "all"::ls.map gk).map D.str),h)) ?_ (kA (rv (n6 ?_ ?_ (ws:=[]) rfl) ?_))
  ·rw[Qp,Ra];simp only[az,tV,dR,QM,Qb,Qj,RI];rw[Qf (by rw[show sizeLine=16777216 from rfl];lia)];rfl
  ·intro x hx;rcases Ql.mp hx with rfl | hx
   ·decide+kernel
   ·obtain⟨t,ht,rfl⟩:=Q2.mp hx;have:=(ie (hr.2.1 t ht)).1
    lia
  ·simp;lia
  ·nofun;rfl
 | within l b=>
  have a:=(ie hr).1;refine bS (bD ?_);rw[aw];nofun;refine⟨false,by ac_nf,λz=>(nomatch z),λ_=>?_⟩;nofun;refine⟨false,by ac_nf,λz=>(nomatch z),λ_=>?_⟩;nofun;refine⟨false,by ac_nf,λz=>(nomatch z),λ_=>?_⟩;nofun;refine rv (a:=(.bl true,h)) (by ac_nf) ?_;nofun;refine⟨true,rfl,λ_=>?_,λz=>(nomatch z)⟩;nofun;refine rv (bE (by decide+kernel)) ?_;nofun;refine rv (iN hr) (rv (bE (by rw[QV,cb,show(Str.ofString "within").length=6 by decide+kernel];lia)) ?_);nofun;rfl
 | ask l b e=>
  have a:=(ie hr).1;refine bS (bD ?_);rw[aw];nofun;refine⟨false,by ac_nf,λz=>(nomatch z),λ_=>?_⟩;nofun;refine⟨false,by ac_nf,λz=>(nomatch z),λ_=>?_⟩;nofun;refine⟨false,by ac_nf,λz=>(nomatch z),λ_=>?_⟩;nofun;refine rv (a:=(.bl true,h)) (by ac_nf) ?_;nofun;refine⟨true,rfl,λ_=>?_,λz=>(nomatch z)⟩;nofun;refine rv (bE (by decide+kernel)) ?_;nofun;refine rv (iN hr) (rv (bE (by rw[QV,cb,show(Str.ofString "ask").length=3 by decide+kernel];lia)) ?_);nofun;rfl
 | lz s t a b c=>
  have l1:=(gG hr.1).1;have l2:=(gG hr.2).1;have l3:(Str.ofString "by ").length=3:=by decide+kernel
  refine bS (bD ?_);rw[aw];nofun;refine⟨false,by ac_nf,λz=>(nomatch z),λ_=>?_⟩;nofun;refine⟨false,by ac_nf,λz=>(nomatch z),λ_=>?_⟩;nofun;refine⟨false,by ac_nf,λz=>(nomatch z),λ_=>?_⟩;nofun;refine rv (a:=(.bl false,h)) (by ac_nf) ?_;nofun;refine⟨false,rfl,λz=>(nomatch z),λ_=>?_⟩;nofun;refine⟨true,by ac_nf,λ_=>?_,λz=>(nomatch z)⟩;nofun;refine rv (fQ hr.1) (rv (bE (by lia)) ?_);nofun;refine rv (bE (by rw[QV,cb];lia)) ?_;nofun;refine rv (fQ hr.2) (rv (bE (by rw[QV,QV,cb];lia)) ?_);nofun;rfl
end Mi
namespace Pg
open PySem Sm L2
abbrev Ln:=Int×Str
noncomputable def k9(x:Ln):D:=.tup [.int x.1,.str x.2]
noncomputable def pL(n:Nat):Ln:=((n:Int),Str.ofString "or")
noncomputable def fK(n:Nat):Ln:=((n:Int),Str.ofString "end")
noncomputable def aL(g:Nat->List Row->List Ln)(n:Nat):Nat->Nat->List (List Row)->List Ln
 | _,_,[]=>[]
 | j,k,a::r=>(if j=0 then[] else[pL n])++g k a++aL g n (j+1) (k+ak a) r
noncomputable def dm(g:Nat->List Row->List Ln)(k:Nat)(r:Row):List Ln:=((k:Int),bH r)::(aL g k 0 (k+1) (af r)++(if af r=[] then[] else[fK k]))
noncomputable def aV(g:Nat->List Row->List Ln):Nat->List Row->List Ln
 | _,[]=>[]
 | k,r::rs=>dm g k r++aV g (k+cnt r) rs
noncomputable def dU:Nat->Nat->List Row->List Ln
 | 0=>λ_ _=>[]
 | f+1=>aV (dU f)
def wN:Nat->List Row->Prop
 | 0,_=>True
 | f+1,l=>∀r∈l,qf r/\∀t∈af r,wN f t
theorem rW(g:Nat->List Row->List Ln)(n:Nat)(a:List Row):∀(j k:Nat)(x:List (List Row)),aL g n j k (x++[a])=aL g n j k x++((if j+x.length=0 then[] else[pL n])++g (k+(x.map ak).sum) a)
 | j,k,[]=>by simp[aL]
 | j,k,y::x=>by
  rw[QL,aL,aL,rW g n a (j+1) (k+ak y) x];simp only[QG,Qj,Qp,Q3];rw[show j+1+x.length=j+(x.length+1) by lia,show k+ak y+(x.map ak).sum=k+(ak y+(x.map ak).sum) by lia]
theorem rV(g:Nat->List Row->List Ln)(r:Row):∀(k:Nat)(x:List Row),aV g k (x++[r])=aV g k x++dm g (k+ak x) r
 | k,[]=>by simp[aV,ak]
 | k,y::x=>by
  rw[QL,aV,aV,rV g r (k+cnt y) x,QG];rw[show ak (y::x)=cnt y+ak x by simp[ak],Rz]
theorem uK{l:List Row}{i:Nat}{r:Row}(e:l[i]?=some r):ak (l.take (i+1))=ak (l.take i)+cnt r/\l.take (i+1)=l.take i++[r]:=by
 have h:l.take (i+1)=l.take i++[r]:=by rw[SK,e];rfl
 exact⟨by rw[h,m8];simp[ak],h⟩
theorem mY(l:List Row)(i:Nat):ak (l.take i)<=ak l:=by
 have:=m8 (l.take i) (l.drop i);rw[Rb] at this
 lia
end Pg
namespace Mi
open PySem Sm L2 Pg
noncomputable def zK:Row->Int
 | .say _=>2
 | .call _ _=>3
 | .within _ _=>2
 | .all _ _=>2
 | .ask _ _ _=>2
 | .lz _ _ _ _ _=>3
 | .either _ _=>1
 | .again _=>1
theorem sj(r:Row)(h:MH):JZ (.dv [(.inr (Str.ofString "say"),.int 2),(.inr (Str.ofString "call"),.int 3),(.inr (Str.ofString "by"),.int 3),(.inr (Str.ofString "either"),.int 1),(.inr (Str.ofString "again"),.int 1)]) [.str (bJ r),.int 2] h=some (.int (zK r),h)/\iS (aw r) (some (zK r)) none h=some (.tup ((af r).map bK),h):=by
 cases r <;> (rw[aw];exact⟨by ac_nf,by ac_nf⟩)
theorem t9(r:Row)(h:MH):aP (aw r) (.int 0) h=some (.str (bJ r),h):=by
 cases r <;> (rw[aw];rfl)
theorem z6{x:D}{b:Bool}{h:MH}:∃v:Int,om [.bl b] h=some (.int v,h)/\zv (.lv [x]) (.int v) h=some (.lv (if b then[x] else[]),h):=by
 cases b
 ·exact⟨0,rfl,rfl⟩
 ·exact⟨1,rfl,rfl⟩
theorem FY{h g:MH}{n:Nat}{o:MO}(hn:h.length<=n):(h++g).set n o=h++g.set (n-h.length) o:=Sd _ _ hn
theorem get_set{h:MH}{n:Nat}{o o':MO}(e:h[n]?=some o'):(h.set n o)[n]?=some o:=QR (Qc.mp e).1
theorem mO{h:MH}{n:Nat}{xs:List D}(e:h[n]?=some (.lst xs)):dR (.ob n) h=some xs:=by unfold dR;dsimp only;rw[e]
theorem Em(r:Row):(af r).length<=3:=by cases r <;> simp[af]
theorem iO{g:Nat->List Row->List Ln}(hg:∀k a,(g k a).length<=5*ak a)(n:Nat):∀(j k:Nat)(x:List (List Row)),(aL g n j k x).length<=5*(x.map ak).sum+x.length
 | _,_,[]=>by simp[aL]
 | j,k,a::r=>by
  have h1:=hg k a;have h2:=iO hg n (j+1) (k+ak a) r;rw[aL,Qk,Qk,Qp,Q3,Qj];have h3:(if j=0 then([]:List Ln) else[pL n]).length<=1:=by split <;> simp
  lia
theorem BI{g:Nat->List Row->List Ln}(hg:∀k a,(g k a).length<=5*ak a)(k:Nat)(r:Row):(dm g k r).length<=5*cnt r:=by
 have h2:=iO hg k 0 (k+1) (af r);have h4:=Em r;have h3:(if af r=[] then([]:List Ln) else[fK k]).length<=1:=by split <;> simp
 rw[dm,Qj,Qk,cW]
 lia
theorem k8{g:Nat->List Row->List Ln}(hg:∀k a,(g k a).length<=5*ak a):∀(k:Nat)(l:List Row),(aV g k l).length<=5*ak l
 | _,[]=>by simp[aV]
 | k,r::rs=>by
  have h1:=BI hg k r;have h2:=k8 hg (k+cnt r) rs;rw[aV,Qk,show ak (r::rs)=cnt r+ak rs by simp[ak]]
  lia
theorem iP:∀(f k:Nat)(l:List Row),(dU f k l).length<=5*ak l
 | 0,_,_=>by simp[dU]
 | f+1,k,l=>k8 (iP f) k l
theorem uA:∀(f:Nat)(l:List Row)(k:Nat)(h:MH),aS l<=f->wN f l->k+ak l<=1000->Rn (b7 f [.tup (cj l),.int (k:Int)] h) λp=>∃(n:Nat)(g:MH),p=(.tup [.ob n,.int ((k+ak l:Nat):Int)],h++g)/\(h++g)[n]?=some (.lst ((dU f k l).map k9))
 | 0,l,k,h,hn,_,_=>by
  exfalso;cases l with
  | nil=>rw[aS] at hn;lia
  | cons r rs=>rw[aS] at hn;lia
 | f+1,l,k,h,hn,hs,hk=>by
  unfold b7;refine bD ?_;nofun;refine⟨_,_,rfl,?_⟩;nofun;refine eR ?_;nofun;refine⟨_,_,rfl,?_⟩;rw[bT];refine cD (λi δ h'=>∃(n:Nat)(g:MH)(o4 o5 o6 o7 o8 o9 o10:Option D),δ=[some (.tup (l.map aw)),some (.int (k:Int)),some (.ob n),some (.int ((k+ak (l.take i):Nat):Int)),o4,o5,o6,o7,o8,o9,o10]/\h'=h++g/\h.length<=n/\(h++g)[n]?=some (.lst ((aV (dU f) k (l.take i)).map k9)))
   ⟨h.length,[.lst []],_,_,_,_,_,_,_,rfl,rfl,Qg _,by simp[aV]⟩ (λ_ _ _ _ _=>rfl) ?_ ?_
  ·rintro i x δ h' hx ⟨n,g,o4,o5,o6,o7,o8,o9,o10,rfl,rfl,hnl,hat⟩;rw[Qx] at hx;obtain⟨r,er,rfl⟩:=QD.mp hx;obtain⟨hsr,hsl⟩:=hs r (Qd er);obtain⟨hc1,ht1⟩:=uK er;have hcl:=mY l (i+1);have hcr:=cW r;have hnr:=bZ (Qd er);generalize hK:k+ak (l.take i)=K at*;generalize hX:(aV (dU f) k (l.take i))=X at*;have hXl:X.length<=5000:=by have:=k8 (iP f) k (l.take i);rw[hX] at this;lia
   nofun;refine gV ?_;nofun;refine⟨cy hat,?_⟩;nofun;refine rv (GW hsr) ?_;nofun;refine rv (cE hat (by rw[Qb,show sizeLine=16777216 from rfl];lia)) ?_;have hat1:=get_set (o:=.lst (X.map k9++[.tup [.int (K:Int),.str (bH r)]])) hat;rw[FY hnl] at hat1 ⊢;generalize g.set (n-h.length) _=g1 at hat1 ⊢;nofun;refine gV (rv (a:=(.dv [(.inr (Str.ofString "say"),.int 2),(.inr (Str.ofString "call"),.int 3),(.inr (Str.ofString "by"),.int 3),(.inr (Str.ofString "either"),.int 1),(.inr (Str.ofString "again"),.int 1)],h++g1)) (by ac_nf) ⟨rfl,?_⟩);nofun;refine rv (t9 r _) ?_;nofun;refine rv (sj r _).1 ?_;nofun;refine⟨_,rfl,?_⟩;nofun;refine rv (sj r _).2 ?_;nofun;refine my ?_;nofun;refine⟨_,_,_,rfl,rfl,?_⟩;refine cD (λj δ h'=>∃(n':Nat)(g':MH)(o8 o9 o10:Option D),δ=[some (.tup (l.map aw)),some (.int (k:Int)),some (.ob n'),some (.int ((K+1+(((af r).take j).map ak).sum:Nat):Int)),some (aw r),some (.int (K:Int)),some (.int (zK r)),some (.tup ((af r).map bK)),o8,o9,o10]/\h'=h++g'/\h.length<=n'/\(h++g')[n']?=some (.lst ((X++((K:Int),bH r)::aL (dU f) K 0 (K+1) ((af r).take j)).map k9)))
    ⟨n,g1,_,_,_,rfl,rfl,hnl,by rw[hat1,Qs];rfl⟩ (λ_ _ _ _ _=>rfl) ?_ ?_
   ·rintro j y δ h' hy ⟨n',g',o8,o9,o10,rfl,rfl,hnl',hat'⟩;obtain⟨t,et,rfl⟩:=mW hy;have htm:=Qd et;have hj:j < 3:=by have:=Em r;have:=(Qc.mp et).1;lia
    have hst:(((af r).take (j+1)).map ak).sum=(((af r).take j).map ak).sum+ak t/\(af r).take (j+1)=(af r).take j++[t]:=by
     have e:(af r).take (j+1)=(af r).take j++[t]:=by rw[SK,et];rfl
     exact⟨by rw[e];simp,e⟩
    have hsle:(((af r).take (j+1)).map ak).sum<=((af r).map ak).sum:=by
     have:=congrArg (λz=>(z.map ak).sum) (Rb (j+1) (af r));simp only[Qs,RH] at this
     lia
    have hlen:=iO (iP f) K 0 (K+1) ((af r).take j);have hlt:((af r).take j).length<=3:=by rw[QB];lia
    have hln:=iP f (K+1+(((af r).take j).map ak).sum) t;generalize hY:aL (dU f) K 0 (K+1) ((af r).take j)=Y at*;nofun;obtain⟨v,hv,hrep⟩:=z6 (x:=.tup [.int (K:Int),.str (Str.ofString "or")]) (b:=decide (0 < (j:Int))) (h:=h++g');refine vG ?_;nofun;refine rv hv (rv hrep ⟨_,_,mO hat',rfl,?_,?_⟩)
    ·rw[Qb,Qk,Qj,show sizeLine=16777216 from rfl]
     split <;> simp <;> lia
    have e1:(if decide (0 < (j:Int))=true then[D.tup [.int (K:Int),.str (Str.ofString "or")]] else[])=(if j=0 then([]:List Ln) else[pL K]).map k9:=by
     by_cases z:j=0
     ·subst z;rfl
     ·rw[Qf (QP (by lia)),Qo z];rfl
    rw[e1,<-Qs];have hO:(if j=0 then([]:List Ln) else[pL K]).length<=1:=by split <;> simp
    generalize hOO:(if j=0 then([]:List Ln) else[pL K])=O at*;generalize hZ:(X++((K:Int),bH r)::Y)++O=Z at*;have hZl:Z.length<=20000:=by rw[<-hZ,Qk,Qk,Qj];lia
    nofun;obtain⟨_,e2,n2,g2,rfl,hat2⟩:=uA f t (K+1+(((af r).take j).map ak).sum) ((h++g')++[.lst (Z.map k9)]) (by have:=bY htm;lia) (hsl t htm) (by lia);refine rv e2 ?_;have hat3:((h++g')++[.lst (Z.map k9)]++g2)[(h++g').length]?=some (.lst (Z.map k9)):=by
     rw[Qt (by simp)];simp
    nofun;refine vG ?_;nofun;refine⟨_,_,mO hat3,mO hat2,?_,?_⟩
    ·rw[Qb,Qb,show sizeLine=16777216 from rfl];lia
    rw[hst.1,<-Rz (K+1)];refine⟨_,g'++[.lst (Z.map k9)]++g2++[.lst (Z.map k9++(dU f (K+1+(((af r).take j).map ak).sum) t).map k9)],_,_,_,rfl,?_,?_,?_⟩
    ·show h++g'++_++g2++_=_;simp only[QG]
    ·show h.length<=(h++g'++_++g2).length;simp only[Qk];lia
    rw[hst.2,rW,hY,Q1,QB,RG (by have:=(Qc.mp et).1;lia),hOO];rw[show X++((K:Int),bH r)::(Y++(O++dU f (K+1+(((af r).take j).map ak).sum) t))=Z++dU f (K+1+(((af r).take j).map ak).sum) t by rw[<-hZ];simp];rw[Qs];simp
   ·rintro δ h' ⟨n',g',o8,o9,o10,rfl,rfl,hnl',hat'⟩;rw[cG,Qb,Q9] at hat' ⊢;have hlen:=iO (iP f) K 0 (K+1) (af r);have h3:=Em r;generalize hY:aL (dU f) K 0 (K+1) (af r)=Y at*;nofun;obtain⟨v,hv,hrep⟩:=z6 (x:=.tup [.int (K:Int),.str (Str.ofString "end")]) (b:=decide (0 < ((af r).length:Int))) (h:=h++g');refine vG ?_;nofun;rw[Qb];refine rv hv (rv hrep ⟨_,_,mO hat',rfl,?_,?_⟩)
    ·rw[Qb,Qk,Qj,show sizeLine=16777216 from rfl]
     split <;> simp <;> lia
    have e1:(if decide (0 < ((af r).length:Int))=true then[D.tup [.int (K:Int),.str (Str.ofString "end")]] else[])=(if af r=[] then([]:List Ln) else[fK K]).map k9:=by
     cases af r with
     | nil=>rfl
     | cons y q=>rw[Qf (QP (by simp)),Qo (by simp)];rfl
    rw[e1,<-Qs];nofun;rw[show k+ak (l.take (i+1))=K+1+((af r).map ak).sum by lia];refine⟨_,g'++[_],_,_,_,_,_,_,_,rfl,QG _ _ _,?_,?_⟩
    ·show h.length<=(h++g').length;simp only[Qk];lia
    ·rw[ht1,rV,hX,hK,dm,hY,<-QG h g'];simp
  ·rintro δ h' ⟨n,g,o4,o5,o6,o7,o8,o9,o10,rfl,rfl,hnl,hat⟩;nofun;rw[Qb,Q9] at hat ⊢;exact⟨n,g,rfl,hat⟩
end Mi
namespace Pg
open PySem Sm L2
noncomputable def ba(d:cB):Str:=Str.join (Str.ofString " ") (Str.ofString "deed"::d.1::d.2.1)
noncomputable def iL(x:Str):Ln:=(-1,x)
noncomputable def aN(f:Nat):Nat->List cB->List Ln
 | _,[]=>[]
 | k,d::ds=>iL (ba d)::(dU f k d.2.2++(iL (Str.ofString "end")::aN f (k+ak d.2.2) ds))
noncomputable def pR(P:Prog):List Ln:=iL (Str.join (Str.ofString " ") (Str.ofString "locks"::P.names))::aN 8 0 P.ai
structure Lk(P:Prog):Prop where
 fit:Hq P
 dl:P.ai.length<=6
 nl:P.names.length<=6
 nm:∀x∈P.names,Sh 8 x
 dd:∀d∈P.ai,Sh 8 d.1/\d.2.1.length<=3/\(∀x∈d.2.1,Sh 8 x)/\wN 8 d.2.2
 ct:(P.ai.map λd=>ak d.2.2).sum<=900
noncomputable def bM(ds:List cB):Nat:=(ds.map λd=>ak d.2.2).sum
theorem ph(f:Nat)(d:cB):∀(k:Nat)(x:List cB),aN f k (x++[d])=aN f k x++(iL (ba d)::(dU f (k+bM x) d.2.2++[iL (Str.ofString "end")]))
 | k,[]=>by simp[aN,bM]
 | k,y::x=>by
  rw[QL,aN,aN,ph f d (k+ak y.2.2) x];simp[bM,Rz]
theorem zC{d:cB}(h:Sh 8 d.1)(hl:d.2.1.length<=3)(hp:∀x∈d.2.1,Sh 8 x):Sh 100 (ba d):=by
 refine(Sh.join (n:=8) iw λx hx=>?_).up (by simp only[Qj];lia);rcases Ql.mp hx with rfl | hx
 ·exact⟨by decide+kernel,by decide+kernel⟩
 ·rcases Ql.mp hx with rfl | hx
  ·exact h
  ·exact hp x hx
theorem cU(f:Nat):∀(k:Nat)(x:List cB),(aN f k x).length<=5*bM x+2*x.length
 | k,[]=>by simp[aN]
 | k,y::x=>by
  have h1:=Mi.iP f k y.2.2;have h2:=cU f (k+ak y.2.2) x;rw[aN,Qj,Qk,Qj,Qj];simp only[bM,Qp,Q3] at h2 ⊢
  lia
end Pg
namespace Mi
open PySem Sm L2 Pg
theorem jZ{H g:MH}{d:D}(h1:∀n,d≠.ob n)(h2:gX H.length d=true):leave H d (H++g)=some (d,H):=by
 have h3:yK H.length (H++g) d=d:=by
  cases d with
  | ob n=>exact absurd rfl (h1 n)
  | _=>rfl
 unfold leave;rw[h3,S8 (Qg _),Q9,h2,uT];rfl
theorem E7(n:Nat):∀xs:List Ln,fz n (xs.map k9)=true
 | []=>rfl
 | x::r=>by rw[Qp];show(true&&true&&fz n _)=true;rw[E7 n r];rfl
theorem sC{xs ys:List D}{d:D}{h:MH}(e:dR d h=some ys)(hl:xs.length+ys.length<=1000000):az (.lv xs) d h=some (.lv (xs++ys),h):=by
 unfold az tV;cases d <;> first |(cases e;done) | skip
 all_goals
  simp only[dR,QM] at e ⊢
  first
   |(rw[e];dsimp only[Option.bind_some];rw[Qf (by rw[show sizeLine=16777216 from rfl];lia)])
   |(cases e;rw[Qf (by rw[show sizeLine=16777216 from rfl];lia)])
theorem xU{P:Prog}(hP:Lk P)(h:MH):fX [bq P] h=some (.lv ((pR P).map k9),h):=by
 have dl:=hP.dl;have nl:=hP.nl;have ct:=hP.ct;have hj:∀(x:Str)(ys:List Str)(H:MH),x.length<=8->ys.length<=6->(∀y∈ys,Sh 8 y)->pe (.str " ") [.tup ((x::ys).map D.str)] H=some (.str (Str.join (Str.ofString " ") (x::ys)),H):=λx ys H hx hl hy=>by
  refine n6 (ws:=[]) (λz hz=>?_) (by simp;lia) rfl;rcases Ql.mp hz with rfl | hz
  ·lia
  ·have:=(hy z hz).1;lia
 refine bS (kB ?_);nofun;refine gV ?_;nofun;refine⟨rfl,?_⟩;nofun;refine rv (a:=(.tup (P.names.map D.str),h)) rfl ?_;refine rv (su (by simp;lia)) ?_;nofun;refine rv (hj (Str.ofString "locks") P.names h (by decide+kernel) nl hP.nm) ?_;nofun;refine⟨_,_,rfl,?_⟩;nofun;refine eR ?_;nofun;refine rv (a:=(.tup (P.ai.map eF),h)) rfl ?_;refine⟨_,_,rfl,?_⟩;refine cD (λi δ h'=>∃(g:MH)(o3 o4 o5 o6:Option D),δ=[some (bq P),some (.lv ((iL (Str.join (Str.ofString " ") (Str.ofString "locks"::P.names))::aN 8 0 (P.ai.take i)).map k9)),some (.int ((bM (P.ai.take i):Nat):Int)),o3,o4,o5,o6]/\h'=h++g)
  ⟨[],_,_,_,_,rfl,by simp⟩ (λ_ _ _ _ _=>rfl) ?_ ?_
 ·rintro i x δ h' hx ⟨g,o3,o4,o5,o6,rfl,rfl⟩;rw[Qx] at hx;obtain⟨d,ed,rfl⟩:=QD.mp hx;obtain⟨s1,s2,s3,s4⟩:=hP.dd d (Qd ed);have nd:=hP.fit.nd d (Qd ed);have htk:P.ai.take (i+1)=P.ai.take i++[d]:=by rw[SK,ed];rfl
  have hc1:bM (P.ai.take (i+1))=bM (P.ai.take i)+ak d.2.2:=by rw[htk];simp[bM]
  have hcl:bM (P.ai.take (i+1))<=900:=by
   have:=congrArg bM (Rb (i+1) P.ai);simp only[bM,Qs,RH] at this ⊢
   lia
  have hlen:=cU 8 0 (P.ai.take i);have hli:=iP 8 (bM (P.ai.take i)) d.2.2;have htl:(P.ai.take i).length<=6:=by rw[QB];lia
  generalize hL:iL (Str.join (Str.ofString " ") (Str.ofString "locks"::P.names))::aN 8 0 (P.ai.take i)=L;have hLl:L.length<=6000:=by rw[<-hL,Qj];lia
  generalize hK:bM (P.ai.take i)=K at*;obtain⟨nm,ps,rows⟩:=d;dsimp only at s1 s2 s3 s4 nd hc1 hli;show Rn (gT 3 _ (.tup [.str nm,.tup (ps.map D.str),.tup (cj rows)]) _ _) _;nofun;obtain⟨_,e2,n2,g2,rfl,hat2⟩:=uA 8 rows K (h++g) (by lia) s4 (by lia);refine rv e2 ?_;nofun;refine gV ?_;nofun;refine⟨rfl,?_⟩;nofun;refine rv (su (by simp;lia)) ?_;nofun;refine rv (hj (Str.ofString "deed") (nm::ps) _ (by decide+kernel) (by simp;lia) (by intro y hy;rcases Ql.mp hy with rfl | hy;exact s1;exact s3 y hy)) ?_;nofun;refine rv (sC (ys:=[k9 (iL (ba (nm,ps,rows)))]) rfl (by simp;lia)) ?_;nofun;refine rv (sC (mO hat2) (by simp;lia)) ?_;nofun;refine rv (sC (ys:=[k9 (iL (Str.ofString "end"))]) rfl (by simp;lia)) ?_;nofun;rw[hc1,show iL (Str.join (Str.ofString " ") (Str.ofString "locks"::P.names))::aN 8 0 (P.ai.take (i+1))=L++[iL (ba (nm,ps,rows))]++dU 8 K rows++[iL (Str.ofString "end")] by rw[htk,ph,<-hL,Q1,hK];simp];rw[Qs,Qs,Qs];exact⟨g++g2,_,_,_,_,rfl,QG _ _ _⟩
 ·rintro δ h' ⟨g,o3,o4,o5,o6,rfl,rfl⟩;nofun;rw[Qb,Q9];exact rv (jZ (λn z=>(nomatch z)) (E7 _ _)) rfl
end Mi
namespace Pg
open PySem Sm L2
noncomputable def fO(w:Str):Bool:=!((Str.ofString "say"==w)||(Str.ofString "call"==w))
noncomputable def fw(x:Str):Bool:=match Txt.split x (Str.ofString " ") with
 | w::_=>fO w
 | []=>true
noncomputable def runM:Nat->Nat->List Ln->Option (Nat×Nat)
 | d,n,[]=>some (d,n)
 | d,n,x::r=>if x.2=Str.ofString "or" then(if d=0 then none else runM d n r) else if x.2=Str.ofString "end" then(if d=0 then none else runM (d-1) n r) else runM (if fw x.2 then d+1 else d) (if d=0 then n else n+1) r
theorem fu:∀(a b:List Ln)(d n:Nat),runM d n (a++b)=(runM d n a).bind λp=>runM p.1 p.2 b
 | [],b,d,n=>rfl
 | x::a,b,d,n=>by
  rw[QL,runM,runM]
  split
  ·split
   ·rfl
   ·exact fu a b d n
  ·split
   ·split
    ·rfl
    ·exact fu a b (d-1) n
   ·exact fu a b _ _
theorem qi:∀(a:List Ln)(d n d' n':Nat),runM d n a=some (d',n')->d'<=d+a.length/\n'<=n+a.length
 | [],d,n,d',n',e=>by cases e;exact⟨Qg _,Qg _⟩
 | x::a,d,n,d',n',e=>by
  rw[runM] at e;rw[Qj]
  split at e
  ·split at e
   ·cases e
   ·have:=qi a _ _ _ _ e;lia
  ·split at e
   ·split at e
    ·cases e
    ·have:=qi a _ _ _ _ e;lia
   ·have:=qi a _ _ _ _ e
    split at this <;> split at this <;> lia
end Pg
namespace Mi
open PySem Sm L2 Pg
theorem qE(L:List Ln)(hl:L.length<=100000)(h:MH):eJ [.lv (L.map k9)] h=some (.lv (L.map λx=>.str x.2),h):=by
 have e1:cm [none,none] (eN (ax 0)) g2 dQ (ax 1) (entry 1 [.lv (L.map k9)]) h=some (L.map λx=>.str x.2,h):=
  Ca (o:=none) (o2:=none) (t:=[]) (λx:Ln=>.int x.1) (λx=>.str x.2) (λx=>.str x.2) (d:=.lv (L.map k9)) rfl rfl rfl hl λx _=>rfl
 exact bS (bD (xt (vD (rv e1 rfl))))
theorem mP{n:Nat}(hn:0 < n):rZ n (-1)=some (n-1):=by
 unfold rZ;rw[Qo (by decide),Qf (by lia)];congr 1
 lia
theorem AU{cs:List Int}(hn:0 < cs.length):∃z,gz (cs.map D.int) (-1)=some (.int z):=by
 unfold gz;rw[Qb,mP hn];exact⟨cs[cs.length-1]'(by lia),by simp only[QM,Qx];rw[QA (by lia)];rfl⟩
theorem C0{a:D}{xs:List D}{h:MH}:iS (.lv (a::xs)) (some 1) none h=some (.lv xs,h):=by
 show some (D.lv (cutD (a::xs) (some ((1:Nat):Int)) none),h)=_;unfold cutD;rw[HT.lZ,HT.qh,RG (by simp)];simp
theorem ur(w:Str)(h:MH):oh (.str w) (.tup [.str "say",.str "call"]) h=some (.bl (fO w),h):=by
 have h1:∀x:Str,PyData.eqv (.str x) (.str w)=(x==w):=λx=>by simp[PyData.eqv]
 show some (D.bl (!(([PyData.str (Str.ofString "say"),PyData.str (Str.ofString "call")]).any λb=>PyData.eqv b (.str w))),h)=_;simp only[R9,List.any_nil,h1,Bool.or_false];rfl
theorem LW{cs:List Int}{p:Nat}{z:Int}:(cs.map D.int).set p (.int z)=(cs.set p z).map D.int:=by rw[List.map_set]
theorem zk(x0:Ln)(L:List Ln)(hl:L.length<=10000)(hs:∀x∈L,Sh 1000 x.2)(d n:Nat)(hr:runM 0 0 L=some (d,n))(h:MH):∃m dp:Int,cc [.lv ((x0::L).map λx=>.str x.2)] h=some (.tup [.int m,.int dp,.int (n:Int)],h):=by
 have e:Rn (cc [.lv ((x0::L).map λx=>.str x.2)] h) λp=>∃m dp:Int,p=(.tup [.int m,.int dp,.int (n:Int)],h):=by
  refine kB ?_;nofun;refine eR ?_;nofun;refine⟨_,rfl,?_⟩;nofun;refine rv C0 ⟨_,_,rfl,?_⟩;refine cD (λi δ h'=>∃(cs:List Int)(m dp:Int)(n':Nat)(o5 o6:Option D),δ=[some (.lv ((x0::L).map λx=>.str x.2)),some (.ob h.length),some (.int m),some (.int dp),some (.int (n':Int)),o5,o6]/\h'=h++[.lst (cs.map D.int)]/\runM 0 0 (L.take i)=some (cs.length,n'))
   ⟨[],0,0,0,_,_,rfl,rfl,rfl⟩ (λ_ _ _ _ _=>rfl) ?_ ?_
  ·rintro i x δ h' hx ⟨cs,m,dp,n',o5,o6,rfl,rfl,hrun⟩;rw[Qx] at hx;obtain⟨y,ey,rfl⟩:=QD.mp hx;have hy:=hs y (Qd ey);have hi:i < L.length:=(Qc.mp ey).1;have htk:L.take (i+1)=L.take i++[y]:=by rw[SK,ey];rfl
   have hle:=qi _ _ _ _ _ hrun;rw[QB] at hle;have hstep:∃p,runM cs.length n' [y]=some p/\runM 0 0 (L.take (i+1))=some p:=by
    have h1:runM 0 0 (L.take (i+1))=runM cs.length n' [y]:=by rw[htk,fu,hrun];rfl
    have h2:=fu (L.take (i+1)) (L.drop (i+1)) 0 0;rw[Rb,hr] at h2;cases h3:runM 0 0 (L.take (i+1)) with
    | none=>rw[h3] at h2;cases h2
    | some p=>exact⟨p,by rw[<-h1,h3],rfl⟩
   obtain⟨p,hp,hp'⟩:=hstep;obtain⟨w,q,hsp⟩:∃w q,Txt.split y.2 (Str.ofString " ")=w::q:=by
    have:=Tu y.2 (Str.ofString " ");cases hh:Txt.split y.2 (Str.ofString " ") with
    | nil=>rw[hh] at this;simp at this
    | cons w q=>exact⟨w,q,rfl⟩
   have hop:fw y.2=fO w:=by unfold fw;rw[hsp]
   rw[runM,runM] at hp;have hat:=ik (H:=h) (a:=.lst (cs.map D.int)) rfl;nofun;refine gV ?_;nofun;refine⟨rfl,?_⟩;nofun;refine rv (kO hy) ?_;rw[hsp];nofun;refine rv (show aP (.lv ((w::q).map D.str)) (.int ((0:Nat):Int)) _=_ from bL (x:=w) rfl) ?_;nofun;refine⟨_,rfl,λz=>?_,λz=>?_⟩
   ·have z:=eq_of_beq z;rw[Qf z] at hp;have hc:0 < cs.length:=by
     by_cases c:cs.length=0
     ·rw[Qf c] at hp;cases hp
     ·lia
    rw[Qo (by lia)] at hp;cases hp;nofun;refine rv (iT hat (by rw[Qb];exact mP hc)) ?_;rw[pI rfl,LW];nofun;exact⟨_,m,dp,n',_,_,rfl,rfl,by rw[hp',Rf]⟩
   ·have z0:y.2≠Str.ofString "or":=by intro e;rw[e,QS] at z;cases z
    rw[Qo z0] at hp;nofun;refine⟨_,rfl,λz=>?_,λz=>?_⟩
    ·have z:=eq_of_beq z;rw[Qf z] at hp;have hc:0 < cs.length:=by
      by_cases c:cs.length=0
      ·rw[Qf c] at hp;cases hp
      ·lia
     rw[Qo (by lia)] at hp;cases hp;nofun;refine gV ?_;nofun;refine⟨cy hat,?_⟩;nofun;refine rv (a:=(.int (cs[cs.length-1]'(by lia)),h++[.lst (cs.dropLast.map D.int)])) ?_ ?_
     ·unfold El;dsimp only;rw[hat];dsimp only;rw[Qb,Qx,QA (by lia)];simp only[QU];rw[pI rfl,List.map_dropLast]
     ·nofun;exact⟨_,m,dp,n',_,_,rfl,rfl,by rw[hp',U3]⟩
    ·have z1:y.2≠Str.ofString "end":=by intro e;rw[e,QS] at z;cases z
     rw[Qo z1,hop] at hp;cases hp;refine fv (Rn.imp (Q:=λr=>∃(cs':List Int)(m':Int),r=(Fl.nx,[some (.lv ((x0::L).map λx=>.str x.2)),some (.ob h.length),some (.int m'),some (.int dp),some (.int ((if cs.length=0 then n' else n'+1:Nat):Int)),some (.str y.2),some (.str w)],h++[.lst (cs'.map D.int)])/\cs'.length=cs.length) ?_ ?_)
     ·nofun;refine rv (oj hat) ⟨_,rfl,λz=>?_,λz=>?_⟩
      ·have hc:0 < cs.length:=by cases cs with | nil=>cases z | cons _ _=>simp
       obtain⟨v,hv⟩:=AU hc;nofun;refine rv (fJ hat hv) ?_;nofun;refine rv (iT hat (by rw[Qb];exact mP hc)) ?_;rw[pI rfl,LW];have hc2:0 < (cs.set (cs.length-1) (v+1)).length:=by rw[Rf];exact hc
       obtain⟨v2,hv2⟩:=AU hc2;have hat2:=ik (H:=h) (a:=.lst ((cs.set (cs.length-1) (v+1)).map D.int)) rfl;nofun;refine rv (fJ hat2 hv2) ?_;nofun;refine rv (fW _ _ _) ?_;nofun;refine⟨_,_,rfl,?_⟩;rw[Qo (by lia)];exact⟨_,_,rfl,Rf⟩
      ·have hc:cs=[]:=by cases cs with | nil=>rfl | cons _ _=>cases z
       subst hc;nofun;exact⟨[],m,rfl,rfl⟩
     ·rintro _ ⟨cs',m',rfl,hl'⟩;have hat':=ik (H:=h) (a:=.lst (cs'.map D.int)) rfl;show Rn _ _;nofun;refine rv (ur w _) ?_;nofun;refine⟨_,rfl,λz=>?_,λz=>?_⟩
      ·rw[Qf z] at hp';nofun;refine gV ?_;nofun;refine⟨cy hat',?_⟩;nofun;refine rv (cE hat' (by rw[Qb,show sizeLine=16777216 from rfl];lia)) ?_;rw[pI rfl];have hat3:=ik (H:=h) (a:=.lst (cs'.map D.int++[D.int 0])) rfl;nofun;refine rv (qt hat3) ?_;nofun;refine rv (fW _ _ _) ?_;exact⟨cs'++[0],m',_,_,_,_,rfl,by rw[Qs];rfl,by rw[hp',Qk,hl'];rfl⟩
      ·rw[Qo (by rw[z];simp)] at hp';nofun;exact⟨cs',m',dp,_,_,_,rfl,rfl,by rw[hp',hl']⟩
  ·rintro δ h' ⟨cs,m,dp,n',o5,o6,rfl,rfl,hrun⟩;rw[Qb,Q9,hr] at hrun;cases hrun;nofun;exact rv (jZ (λn z=>(nomatch z)) rfl) ⟨m,dp,rfl⟩
 obtain⟨p,e1,m,dp,rfl⟩:=e;exact⟨m,dp,e1⟩
end Mi
namespace Pg
open PySem Sm L2
noncomputable def GY(x:Ln):Bool:=decide (0<=x.1)&&!((Str.ofString "or"==x.2)||(Str.ofString "end"==x.2))
noncomputable def si(L:List Ln):List Int:=(L.filter GY).map (·.1)
theorem j8(a b:List Ln):si (a++b)=si a++si b:=by unfold si;rw[Vb,Qs]
noncomputable def yA(a b:Nat):List Int:=(List.range (b-a)).map λi=>((a+i:Nat):Int)
theorem md(a:Nat):yA a a=[]:=by simp[yA]
theorem rg{a b:Nat}(h:a < b):yA a b=(a:Int)::yA (a+1) b:=by
 unfold yA;rw[show b-a=(b-(a+1))+1 by lia,List.range_succ_eq_map,Qp,Ra];congr 1;refine U5 λi _=>?_;show((a+(i+1):Nat):Int)=((a+1+i:Nat):Int)
 lia
theorem vy{b c:Nat}(h2:b<=c):∀(j a:Nat),b-a=j->a<=b->yA a b++yA b c=yA a c
 | 0,a,e,h=>by rw[show a=b by lia,md,Rj]
 | j+1,a,e,h=>by
  rw[rg (show a < b by lia),rg (show a < c by lia),QL,vy h2 j (a+1) (by lia) (by lia)]
theorem JI(n:Nat):GY (pL n)=false:=by
 unfold GY pL;simp
theorem G5(n:Nat):GY (fK n)=false:=by
 unfold GY fK;simp
theorem Kr(n:Nat):si [pL n]=[]:=by unfold si;rw[RT,JI];rfl
theorem GX(n:Nat):si [fK n]=[]:=by unfold si;rw[RT,G5];rfl
structure Sg(N k c:Nat)(L:List Ln):Prop where
 nm:∀x∈L,x.1=(N:Int)\/((k:Int)<=x.1/\x.1 < k+c)
 hd:si L=yA k (k+c)
 rn:∀d m,1<=d->runM d m L=some (d,m+c)
theorem Sg.nil{N k:Nat}:Sg N k 0 []:=⟨λx h=>(nomatch h),by rw[UR,md];rfl,λd m _=>rfl⟩
theorem Sg.app{N k c c':Nat}{A B:List Ln}(a:Sg N k c A)(b:Sg N (k+c) c' B):Sg N k (c+c') (A++B):=by
 refine⟨λx hx=>?_,?_,λd m hd=>?_⟩
 ·rcases Qy.mp hx with h | h
  ·have:=a.nm x h;lia
  ·have:=b.nm x h;lia
 ·rw[j8,a.hd,b.hd,<-Rz];exact vy (by lia) _ _ rfl (by lia)
 ·rw[fu,a.rn d m hd];show runM d (m+c) B=_;rw[b.rn d _ hd,Rz]
theorem Sg.or{N k:Nat}(n:Nat)(h:n=N):Sg N k 0 [pL n]:=by
 subst h;refine⟨λx hx=>.inl (by rw[Qw.mp hx];rfl),by rw[Kr,UR,md],λd m hd=>?_⟩;rw[runM,Qf (show(pL n).2=Str.ofString "or" from rfl),Qo (by lia)];rfl
theorem Sg.mono{N N' k c:Nat}{L:List Ln}(a:Sg N k c L)(h:k<=N/\N < k+c):Sg N' k c L:=⟨λx hx=>by have:=a.nm x hx;lia,a.hd,a.rn⟩
theorem jW(r:Row):af r=[]↔fO (bJ r)=false:=by
 have hw:∀w∈[Str.ofString "within",Str.ofString "all",Str.ofString "ask",Str.ofString "by",Str.ofString "either",Str.ofString "again"],fO w=true:=by decide+kernel
 have hw':∀w∈[Str.ofString "say",Str.ofString "call"],fO w=false:=by decide+kernel
 cases r <;> simp only[af,bJ]
 case say=>simp[hw' (Str.ofString "say") (by simp)]
 case call=>simp[hw' (Str.ofString "call") (by simp)]
 case within=>simp[hw (Str.ofString "within") (by simp)]
 case all=>simp[hw (Str.ofString "all") (by simp)]
 case ask=>simp[hw (Str.ofString "ask") (by simp)]
 case lz=>simp[hw (Str.ofString "by") (by simp)]
 case either=>simp[hw (Str.ofString "either") (by simp)]
 case again=>simp[hw (Str.ofString "again") (by simp)]
theorem qg{g:Nat->List Row->List Ln}{N:Nat}:∀(x:List (List Row)) (j k:Nat),(∀k,∀t∈x,Sg N k (ak t) (g k t))->Sg N k (x.map ak).sum (aL g N j k x)
 | [],j,k,h=>Sg.nil
 | t::x,j,k,h=>by
  have h1:Sg N k 0 (if j=0 then[] else[pL N]):=by
   by_cases z:j=0
   ·rw[Qf z];exact Sg.nil
   ·rw[Qo z];exact Sg.or N rfl
  have h2:=h1.app (h k t (.head _));rw[Q1] at h2;have h3:=h2.app (qg x (j+1) (k+ak t) λk u hu=>h k u (.tail _ hu));rw[aL,Qp,Q3];exact h3
theorem IL{g:Nat->List Row->List Ln}{k:Nat}{r:Row}(hr:qf r)(h:∀k',∀t∈af r,Sg k k' (ak t) (g k' t)):Sg k k (cnt r) (dm g k r):=by
 have hl:=qg (g:=g) (N:=k) (af r) 0 (k+1) h;obtain⟨n1,n2⟩:=we r hr;have n1':bH r≠Str.ofString "or":=by intro e;rw[e,QS] at n1;cases n1
 have n2':bH r≠Str.ofString "end":=by intro e;rw[e,QS] at n2;cases n2
 have hop:fw (bH r)=fO (bJ r):=by
  obtain⟨q,e⟩:=lq r hr;unfold fw;rw[e]
 have hc:=cW r;have hh:GY ((k:Int),bH r)=true:=by
  unfold GY;rw[QP (by lia),Bool.true_and];have a1:(Str.ofString "or"==bH r)=false:=by rw[Sn];exact RM n1'
  have a2:(Str.ofString "end"==bH r)=false:=by rw[Sn];exact RM n2'
  dsimp only;rw[a1,a2];rfl
 unfold dm;refine⟨λx hx=>?_,?_,λd m hd=>?_⟩
 ·rcases Ql.mp hx with rfl | hx
  ·exact .inl rfl
  ·rcases Qy.mp hx with hx | hx
   ·have:=hl.nm x hx;lia
   ·left
    split at hx
    ·cases hx
    ·rw[Qw.mp hx];rfl
 ·show si ([((k:Int),bH r)]++(aL g k 0 (k+1) (af r)++(if af r=[] then[] else[fK k])))=_;rw[j8,j8,hl.hd];have e1:si [((k:Int),bH r)]=[(k:Int)]:=by unfold si;rw[RT,hh];rfl
  have e2:si (if af r=[] then[] else[fK k])=[]:=by
   split
   ·rfl
   ·exact GX k
  rw[e1,e2,Q6,rg (show k < k+cnt r by lia),hc];rw[show k+1+((af r).map ak).sum=k+(1+((af r).map ak).sum) by lia];rfl
 ·rw[runM,Qo n1',Qo n2',Qo (show ¬d=0 by lia),hop,fu]
  by_cases z:af r=[]
  ·rw[Qf z,(jW r).mp z,Qo (by simp),hl.rn d _ hd,z,hc,z];rfl
  ·have z1:fO (bJ r)=true:=by
    cases e:fO (bJ r) with
    | true=>rfl
    | false=>exact absurd ((jW r).mpr e) z
   rw[Qo z,z1,Qf rfl,hl.rn (d+1) _ (by lia)];show runM (d+1) _ [fK k]=_;rw[runM,Qo (show ¬(fK k).2=Str.ofString "or" from by show ¬Str.ofString "end"=Str.ofString "or";decide+kernel),Qf (show(fK k).2=Str.ofString "end" from rfl),Qo (by lia),hc];show some _=some _;congr 2
   lia
theorem zY{g:Nat->List Row->List Ln}:∀(l:List Row)(k N:Nat),(∀r∈l,qf r)->(∀k' N',∀r∈l,∀t∈af r,Sg N' k' (ak t) (g k' t))->Sg N k (ak l) (aV g k l)
 | [],k,N,_,_=>by rw[aV,show ak []=0 by simp[ak]];exact Sg.nil
 | r::rs,k,N,h1,h2=>by
  have hc:=cW r;have a:=(IL (g:=g) (k:=k) (h1 r (.head _)) λk' t ht=>h2 k' k r (.head _) t ht).mono (N':=N) ⟨Qg _,by lia⟩;have b:=zY rs (k+cnt r) N (λr hr=>h1 r (.tail _ hr)) λk' N' r hr=>h2 k' N' r (.tail _ hr);rw[aV,show ak (r::rs)=cnt r+ak rs by simp[ak]];exact a.app b
theorem vh:∀(f:Nat)(l:List Row)(k N:Nat),aS l<=f->wN f l->Sg N k (ak l) (dU f k l)
 | 0,l,k,N,hn,_=>by
  exfalso;cases l with
  | nil=>rw[aS] at hn;lia
  | cons r rs=>rw[aS] at hn;lia
 | f+1,l,k,N,hn,hs=>zY l k N (λr hr=>(hs r hr).1) λk' N' r hr t ht=>vh f t k' N' (by have:=bZ hr;have:=bY ht;lia) ((hs r hr).2 t ht)
theorem cnt_pos'(r:Row):1<=cnt r:=by have:=cW r;lia
theorem EA(x:Str):si [iL x]=[]:=by
 unfold si;rw[RT,show GY (iL x)=false by unfold GY iL;rw[QZ (by show ¬(0:Int)<=-1;decide)];rfl];rfl
theorem EV(d:cB)(m:Nat)(L:List Ln):runM 0 m (iL (ba d)::L)=runM 1 m L:=by
 obtain⟨rest,e⟩:=j7 (Str.ofString "deed") (d.1::d.2.1) (by simp);have e':(ba d).cps.toList=(Str.ofString "deed").cps.toList++32::rest:=e;rw[show(Str.ofString "deed").cps.toList=[100,101,101,100] by decide+kernel] at e';have n1:ba d≠Str.ofString "or":=by intro z;rw[z,show(Str.ofString "or").cps.toList=[111,114] by decide+kernel] at e';cases e'
 have n2:ba d≠Str.ofString "end":=by intro z;rw[z,show(Str.ofString "end").cps.toList=[101,110,100] by decide+kernel] at e';cases e'
 obtain⟨q,hq⟩:=je (x:=ba d) (w:=[100,101,101,100]) (by decide) (.inr e');have ho:fw (ba d)=true:=by unfold fw;rw[hq];show fO (HQ [100,101,101,100])=true;decide+kernel
 rw[runM,Qo (show ¬(iL (ba d)).2=Str.ofString "or" from n1),Qo (show ¬(iL (ba d)).2=Str.ofString "end" from n2)];show runM (if fw (ba d)=true then 0+1 else 0) (if 0=0 then m else m+1) L=_;rw[ho];rfl
theorem G4(d m:Nat)(L:List Ln):runM (d+1) m (iL (Str.ofString "end")::L)=runM d m L:=by
 rw[runM,Qo (show ¬(iL (Str.ofString "end")).2=Str.ofString "or" from by show ¬Str.ofString "end"=Str.ofString "or";decide+kernel),Qf (show(iL (Str.ofString "end")).2=Str.ofString "end" from rfl),Qo (by lia)];rfl
def Mx(d:cB):Prop:=aS d.2.2<=8/\wN 8 d.2.2
theorem eW(d:cB)(ds:List cB):bM (d::ds)=ak d.2.2+bM ds:=by simp[bM]
structure P9(k c:Nat)(L:List Ln):Prop where
 nm:∀x∈L,x.1=-1\/((k:Int)<=x.1/\x.1 < k+c)
 hd:si L=yA k (k+c)
 rn:∀m,runM 0 m L=some (0,m+c)
theorem FW:∀(ds:List cB)(k:Nat),(∀d∈ds,Mx d)->P9 k (bM ds) (aN 8 k ds)
 | [],k,_=>⟨λx h=>(nomatch h),by show _=yA k (k+0);rw[UR,md];rfl,λm=>rfl⟩
 | d::ds,k,h=>by
  have a:=vh 8 d.2.2 k 0 (h d (.head _)).1 (h d (.head _)).2;have a':=λN=>vh 8 d.2.2 k N (h d (.head _)).1 (h d (.head _)).2;have b:=FW ds (k+ak d.2.2) λd hd=>h d (.tail _ hd);rw[aN,eW];refine⟨λx hx=>?_,?_,λm=>?_⟩
  ·rcases Ql.mp hx with rfl | hx
   ·exact .inl rfl
   ·rcases Qy.mp hx with z | z
    ·have:=(a' (k+ak d.2.2+1)).nm x z;have:=(a' (k+ak d.2.2+2)).nm x z
     lia
    ·rcases Ql.mp z with rfl | z
     ·exact .inl rfl
     ·have:=b.nm x z;lia
  ·show si ([iL (ba d)]++(dU 8 k d.2.2++([iL (Str.ofString "end")]++aN 8 (k+ak d.2.2) ds)))=_;rw[j8,j8,j8,EA,EA,a.hd,b.hd,Rj,Rj,<-Rz];exact vy (by lia) _ _ rfl (by lia)
  ·rw[EV,fu,a.rn 1 m (Qg _)];show runM (0+1) _ (iL _::_)=_;rw[G4,b.rn,Rz]
noncomputable def outF(n:Int):Bool->List Ln->List Ln
 | _,[]=>[]
 | b,x::r=>if x.1=n then outF n (!(x.2==Str.ofString "or")) r else if b then x::outF n b r else outF n b r
theorem jx{n:Int}:∀(A B:List Ln),(∀x∈A,x.1≠n)->outF n true (A++B)=A++outF n true B
 | [],B,_=>rfl
 | x::A,B,h=>by rw[QL,outF,Qo (h x (.head _)),Qf rfl,jx A B λy hy=>h y (.tail _ hy)];rfl
theorem xF{n:Int}:∀(A B:List Ln),(∀x∈A,x.1≠n)->outF n false (A++B)=outF n false B
 | [],B,_=>rfl
 | x::A,B,h=>by rw[QL,outF,Qo (h x (.head _)),Qo (by simp),xF A B λy hy=>h y (.tail _ hy)]
theorem Ak(n:Nat)(b:Bool)(L:List Ln):outF n b (fK n::L)=outF n true L:=by
 rw[outF,Qf (show(fK n).1=(n:Int) from rfl),show(!((fK n).2==Str.ofString "or"))=true by show(!(Str.ofString "end"==Str.ofString "or"))=true;decide+kernel]
theorem JC(n:Nat)(b:Bool)(L:List Ln):outF n b (pL n::L)=outF n false L:=by
 rw[outF,Qf (show(pL n).1=(n:Int) from rfl),show(!((pL n).2==Str.ofString "or"))=false by show(!(Str.ofString "or"==Str.ofString "or"))=false;rw[QS];rfl]
theorem GC{n f:Nat}{r:Row}{b:List Row}{gone:List (List Row)}{post:List Ln}(hr:qf r)(hl:∀t∈af r,wN f t/\aS t<=f)(hb:af r=b::gone)(hg:gone.length<=1)(hp:∀x∈post,x.1≠(n:Int)):outF n true (dm (dU f) n r++post)=dU f (n+1) b++post:=by
 obtain⟨n1,n2⟩:=we r hr;have hseg:∀t∈af r,∀k,n < k->∀x∈dU f k t,x.1≠(n:Int):=λt ht k hk x hx=>by
  have a:=(vh f t k (n+1) (hl t ht).2 (hl t ht).1).nm x hx;have a':=(vh f t k (n+2) (hl t ht).2 (hl t ht).1).nm x hx
  lia
 have hpost:outF n true post=post:=by have:=jx (n:=n) post [] hp;simpa [outF] using this
 rw[dm,Qo (by rw[hb];simp),QL,outF,Qf rfl];dsimp only;rw[n1,hb,aL,Qf rfl,Rj];show outF n true _=_;cases gone with
 | nil=>
  rw[aL,Q6,QG,jx _ _ (hseg b (by rw[hb];exact .head _) _ (by lia))];congr 1;show outF n true (fK n::post)=_;rw[Ak,hpost]
 | cons e g=>
  obtain rfl:g=[]:=by cases g with | nil=>rfl | cons _ _=>simp at hg
  rw[aL,aL,Qo (by simp),Q6,QG,QG,jx _ _ (hseg b (by rw[hb];exact .head _) _ (by lia))];congr 1;show outF n true (pL n::(dU f (n+1+ak b) e++(fK n::post)))=_;rw[JC,xF _ _ (hseg e (by rw[hb];exact .tail _ (.head _)) _ (by lia)),Ak,hpost]
end Pg
namespace Sm
open PySem L2
theorem uJ{α:Type}{c:TM}{e:EM}{h:MH}{t:DS}(A B f:α->D)(p:α->Bool):∀(xs:List α)(o o2:Option D),(∀x∈xs,c (some (A x)::some (B x)::t) h=some (p x,h))->(∀x∈xs,p x=true->e (some (A x)::some (B x)::t) h=some (f x,h))->bP [] g2 c e (xs.map λx=>.tup [A x,B x]) (o::o2::t) h=some ((xs.filter p).map f,h)
 | [],o,o2,_,_=>rfl
 | x::r,o,o2,hc,he=>by
  have e2:=uJ A B f p r (some (A x)) (some (B x)) (λy hy=>hc y (Qi _ hy)) λy hy=>he y (Qi _ hy);show((c (some (A x)::some (B x)::t) h).bind λq=>if q.1=true then(e (some (A x)::some (B x)::t) q.2).bind λy=>(bP [] g2 c e (r.map λx=>.tup [A x,B x]) (some (A x)::some (B x)::t) y.2).map λz=>(y.1::z.1,z.2) else bP [] g2 c e (r.map λx=>.tup [A x,B x]) (some (A x)::some (B x)::t) q.2)=_;rw[hc x Qh];dsimp only[Option.bind_some]
  by_cases z:p x=true
  ·rw[Qf z,he x Qh z];dsimp only[Option.bind_some];rw[e2,RT,Qf z];rfl
  ·rw[Qo z,e2,RT,Qo z]
theorem zM{α:Type}{caps:List (Option Nat)}{ei e:EM}{c:TM}{δ t:DS}{o o2:Option D}{h:MH}{d:D}{xs:List α}(A B f:α->D)(p:α->Bool)(hi:ei δ h=some (d,h))(hs:dw d h=some (xs.map λx=>.tup [A x,B x],[]))(hc:gq caps δ=o::o2::t)(hl:xs.length<=100000)(ht:∀x∈xs,c (some (A x)::some (B x)::t) h=some (p x,h))(he:∀x∈xs,p x=true->e (some (A x)::some (B x)::t) h=some (f x,h)):
  cm caps (eN ei) g2 c e δ h=some ((xs.filter p).map f,h):=by
 unfold cm eN;rw[hi];dsimp only[Option.bind_some];rw[hs];dsimp only[Option.map_some,Option.bind_some];rw[hc,uJ A B f p xs o o2 ht he];dsimp only[Option.bind_some];rw[Qf (by have:=List.length_filter_le p xs;rw[Qb,show sizeLine=16777216 from rfl];lia)]
end Sm
namespace Mi
open PySem Sm L2 Pg
theorem JD(L:List Ln)(hl:L.length<=10000)(n:Int)(h:MH):lE [.lv (L.map k9),.int n] h=some (.lv ((outF n true L).map k9),h):=by
 refine bS (kB ?_);nofun;refine⟨_,_,rfl,?_⟩;nofun;refine eR ?_;nofun;refine⟨_,_,rfl,?_⟩;have key:∀(i:Nat),i<=L.length->(outF n true (L.take i)).length<=i:=λi hi=>by
  have:∀(A:List Ln)(b:Bool),(outF n b A).length<=A.length:=λA=>by
   induction A with
   | nil=>intro b;simp[outF]
   | cons x A ih=>
    intro b;rw[outF]
    split
    ·have:=ih (!(x.2==Str.ofString "or"));simp;lia
    ·split
     ·have:=ih b;simp;lia
     ·have:=ih b;simp;lia
  have:=this (L.take i) true;rw[QB] at this
  lia
 refine cD (λi δ h'=>∃(X:List Ln)(b:Bool)(o4 o5:Option D),δ=[some (.lv (L.map k9)),some (.int n),some (.ob h.length),some (.bl b),o4,o5]/\h'=h++[.lst (X.map k9)]/\X.length<=i/\X++outF n b (L.drop i)=outF n true L)
  ⟨[],true,_,_,rfl,rfl,Qg _,rfl⟩ (λ_ _ _ _ _=>rfl) ?_ ?_
 ·rintro i x δ h' hx ⟨X,b,o4,o5,rfl,rfl,hX,hout⟩;rw[Qx] at hx;obtain⟨y,ey,rfl⟩:=QD.mp hx;have hi:i < L.length:=(Qc.mp ey).1;have hd:L.drop i=y::L.drop (i+1):=by rw[Uy hi,(Qc.mp ey).2]
  rw[hd,outF] at hout;obtain⟨a,w⟩:=y;dsimp only at hout;have hat:=ik (H:=h) (a:=.lst (X.map k9)) rfl;show Rn (gT 2 _ (.tup [.int a,.str w]) _ _) _;nofun;refine⟨_,rfl,λz=>?_,λz=>?_⟩
  ·have z:=eq_of_beq z;rw[Qf z] at hout;nofun;refine⟨_,rfl,λy=>?_,λy=>?_⟩
   ·rw[y] at hout;nofun;exact⟨X,false,_,_,rfl,rfl,by lia,hout⟩
   ·rw[y] at hout;nofun;refine⟨_,rfl,λ_=>?_,λy=>?_⟩
    ·nofun;exact⟨X,true,_,_,rfl,rfl,by lia,hout⟩
    ·rw[z,QS] at y;cases y
  ·have z0:a≠n:=by intro e;rw[e,QS] at z;cases z
   rw[Qo z0] at hout;nofun;refine⟨λy=>(nomatch y),λ_=>?_⟩;nofun;refine⟨_,rfl,λy=>absurd (eq_of_beq y) z0,λ_=>?_⟩;nofun;refine⟨b,rfl,λy=>?_,λy=>?_⟩
   ·rw[Qf y] at hout;nofun;refine gV ?_;nofun;refine⟨cy hat,?_⟩;nofun;refine rv (cE hat (by rw[Qb,show sizeLine=16777216 from rfl];lia)) ?_;rw[pI rfl];nofun;exact⟨X++[(a,w)],b,_,_,rfl,by rw[Qs];rfl,by simp;lia,by rw[QG];exact hout⟩
   ·rw[Qo (by rw[y];simp)] at hout;nofun;exact⟨X,b,_,_,rfl,rfl,by lia,hout⟩
 ·rintro δ h' ⟨X,b,o4,o5,rfl,rfl,hX,hout⟩;rw[Qb,List.drop_length,outF,Q6] at hout;nofun;rw[<-hout];exact rv (n5 (E7 _ _)) rfl
end Mi
namespace Pg
open PySem Sm L2
noncomputable def Ke:Row->Bool
 | .within _ _=>true
 | .all _ _=>true
 | .ask _ _ _=>true
 | _=>false
theorem Er{r:Row}(h:Ke r=true):∃b gone,af r=b::gone/\gone.length<=1:=by
 cases r <;> first |(cases h;done) | exact⟨_,_,rfl,by simp⟩
end Pg
namespace Mi
open PySem Sm L2 Pg
theorem FQ{L pre post:List Ln}{n:Nat}{r:Row}(hr:qf r)(hL:L=pre++(((n:Int),bH r)::post))(hp:∀x∈pre,x.1≠(n:Int))(hl:L.length<=10000)(h:MH):jK [.lv (L.map k9),.int (n:Int)] h=some (.str (bJ r),h):=by
 have hf:L.filter (λx=>x.1==(n:Int))=((n:Int),bH r)::post.filter (λx=>x.1==(n:Int)):=by
  rw[hL,Vb,List.filter_eq_nil_iff.mpr (λx hx=>by simpa using hp x hx),Rj,RT,Qf (by simp)]
 have e1:cm [none,none,some 1] (eN (ax 0)) g2 (aE (ao cF (ax 0) (ax 2))) (ax 1) (entry 2 [.lv (L.map k9),.int (n:Int)]) h=some (((L.filter (λx=>x.1==(n:Int))).map λx=>.str x.2),h):=
  zM (o:=none) (o2:=none) (t:=[some (.int (n:Int))]) (λx:Ln=>.int x.1) (λx=>.str x.2) (λx=>.str x.2) (λx=>x.1==(n:Int)) (d:=.lv (L.map k9)) rfl rfl rfl (by lia) (λx _=>rfl) λx _ _=>rfl
 obtain⟨q,hq⟩:=lq r hr;refine bS (bD (xt (mx (gV (mx (vD (rv e1 ?_)))))));rw[hf,Qp];nofun;refine rv (show aP (.lv ((((n:Int),bH r)::post.filter (λx=>x.1==(n:Int))).map λx=>D.str x.2)) (.int ((0:Nat):Int)) _=_ from bL (x:=((n:Int),bH r)) rfl) ⟨rfl,?_⟩;nofun;refine rv (kO ((xZ hr).up (by decide))) ?_;rw[hq];nofun;refine rv (show aP (.lv ((bJ r::q).map D.str)) (.int ((0:Nat):Int)) _=_ from bL (x:=bJ r) rfl) ?_;nofun
theorem rT{P:Prog}(hP:Hq P){n j:Nat}{path:List Nat}{r:Row}(hn:(placesFrom 0 P.ai)[n]?=some (j,path,r))(hk:Ke r=true)(hs:qf r)(h:MH):dE [bq P,.int (n:Int)] h=some (.tup [gi j,dy path,aw r],h):=by
 have hlt:n < (placesFrom 0 P.ai).length:=(Qc.mp hn).1;have e1:fe [bq P,.int (n:Int)] h=some (.tup [gi j,dy path,aw r],h):=by
  refine bS (bD ?_);nofun;refine rv (jr hP h) ?_;have ec:jF Li Cj (eK (D.int 0)) (ax 1) (ay cz (ag (ax 2) aM)) (List.set (entry 3 [bq P,D.int (n:Int)]) 2 (some (D.lv ((placesFrom 0 P.ai).map gg)))) h=some (.bl true,h):=by
   refine bS (xu (rv rfl (rv (a:=(.int (n:Int),h)) rfl (rv rfl ⟨_,rfl,?_⟩))));rw[Qf (QP (show(0:Int)<=n by lia))];refine rv (a:=(.int ((placesFrom 0 P.ai).map gg).length,h)) rfl (rv rfl ?_);rw[Qb];show(D.bl (decide ((n:Int) < (placesFrom 0 P.ai).length)),h)=_;rw[QP (show(n:Int) < (placesFrom 0 P.ai).length by lia)]
  refine sY (fv (xp (nR (nS (rv ec ⟨true,rfl,?_⟩)))));refine⟨λz=>(nomatch z),λ_=>?_⟩;nofun;refine rv (bL hn) ?_;nofun;rfl
 have e2:∃x xs,dI [aw r] h=some (.tup (x::xs),h):=by
  cases r with
  | within l b=>rw[aw];exact⟨aF l,[],by ac_nf⟩
  | ask l b e=>rw[aw];exact⟨aF l,[],by ac_nf⟩
  | all ls b=>
   obtain⟨l0,ls0,rfl⟩:∃l0 ls0,ls=l0::ls0:=by
    cases ls with
    | nil=>exact absurd rfl hs.2.2
    | cons a b=>exact⟨a,b,rfl⟩
   rw[aw,Qp];exact⟨aF l0,ls0.map aF,by ac_nf⟩
  | _=>cases hk
 obtain⟨x,xs,e2⟩:=e2;refine bS (bD ?_);nofun;refine rv e1 ?_;nofun;refine rv e2 ⟨true,rfl,λz=>(nomatch z),λ_=>?_⟩;nofun
theorem DA{a:SM}{b:XM}{δ:DS}{h:MH}{Q:Str×MH->Prop}(r:Rn (a δ h) λp=>p.1=.nx/\Rn (b p.2.1 p.2.2) Q):Rn (wR a b δ h) Q:=aY (r.imp λp ⟨e,q⟩=>by
 obtain⟨f,δ',h'⟩:=p;obtain rfl:f=.nx:=e;exact q)
theorem L7{t:TM}{a b:XM}{δ:DS}{h:MH}{Q:Str×MH->Prop}(r:Rn (t δ h) λp=>(p.1=true->Rn (a δ p.2) Q)/\(p.1=false->Rn (b δ p.2) Q)):Rn (Io t a b δ h) Q:=aY (r.imp λp ⟨q1,q2⟩=>by
 obtain⟨c,h⟩:=p;cases c with
 | true=>exact q1 rfl
 | false=>exact q2 rfl)
theorem L8{f:Xn}{m:AM}{δ:DS}{h:MH}{Q:Str×MH->Prop}(r:Rn (m δ h) λp=>Rn (f p.1 p.2) Q):Rn (Ht f m δ h) Q:=aY r
theorem DB{c:Str}{m:AM}{δ:DS}{h:MH}{Q:Str×MH->Prop}(r:Rn (m δ h) λp=>Q (c,p.2)):Rn (nA c m δ h) Q:=Ds r
theorem Jb{a b:XM}{δ:DS}{h:MH}{Q:Str×MH->Prop}(n:a δ h=none)(r:Rn (b δ h) Q):Rn (Im a b δ h) Q:=by
 obtain⟨p,e,q⟩:=r;exact⟨p,by unfold Im;rw[n];exact e,q⟩
theorem Md{len:Nat}{b:XM}{ds:List D}{h:MH}{Q:Str×MH->Prop}(r:Rn (b (entry len ds) h) Q):Rn (JV len b ds h) Q:=r
theorem CI(h:MH):CJ wL "NoRow" h=some (.str "NoRow",h):=by
 have hx:(h++[MO.exc "NoRow"])[h.length]?=some (.exc "NoRow"):=by rw[Qv (Qg _),Sk];rfl
 have ei:∀(n:Str)(b:Bool)(δ:DS),decide (n∈(["NoRow","StuckError","ValueError"]:List Str))=b->δ[1]?=some (some (.ob h.length))->ot gA n (ax 1) δ (h++[MO.exc "NoRow"])=some (.bl b,h++[MO.exc "NoRow"]):=λn b δ hb hd=>by
  have e1:ax 1 δ (h++[MO.exc "NoRow"])=some (.ob h.length,h++[MO.exc "NoRow"]):=by unfold ax;rw[hd];rfl
  subst hb;unfold ot;rw[e1];show(match (h++[MO.exc "NoRow"])[h.length]? with | some (.exc c)=>(gA.lookup c).map λas=>(D.bl (decide (n∈as)),h++[MO.exc "NoRow"]) | _=>none)=_;rw[hx];have:gA.lookup ("NoRow":Str)=some (["NoRow","StuckError","ValueError"]:List Str):=by ac_nf
  show(gA.lookup ("NoRow":Str)).map _=_;rw[this];rfl
 have e:(wL [none,some (.ob h.length),none,none] (h++[.exc "NoRow"])).bind xl=some (.str "NoRow",h++[.exc "NoRow"]):=by
  refine bS (aY ?_);unfold wL;refine fv (xp (HG (nS (mx (fN rfl (HH (rv rfl ⟨false,rfl,⟨λz=>(nomatch z),λ_=>?_⟩⟩)))))));refine nR (y1 (rv (ei "ValueError" true _ (by decide+kernel) rfl) ⟨true,rfl,⟨λz=>(nomatch z),λ_=>rv rfl (sY ?_)⟩⟩));refine fv (rv (a:=(.nx,[none,some (.ob h.length),none,some (.lv [.bl true,.bl false,.bl false])],h++[.exc "NoRow"])) (bS (xr (vD (cO (rv (ei "NoRow" true _ (by decide+kernel) rfl) (cO (rv (ei "NoLock" false _ (by decide+kernel) rfl) (cO (rv (ei "NoText" false _ (by decide+kernel) rfl) (kA rfl)))))))))) (sY ?_));refine fv (rv (a:=(.nx,[none,some (.ob h.length),none,some (.lv [.bl true,.bl false,.bl false,.bl false,.bl false])],h++[.exc "NoRow"])) (bS (xr (mx (fN rfl (vD (cO (rv (ei "NoLine" false _ (by decide+kernel) rfl) (cO (rv (ei "NoStep" false _ (by decide+kernel) rfl) (kA (rv rfl rfl))))))))))) (sY ?_));refine rv (a:=(.rt (.str "NoRow"),[none,some (.ob h.length),none,some (.lv [.bl true,.bl false,.bl false,.bl false,.bl false])],h++[.exc "NoRow"])) (by ac_nf) ?_;exact rv rfl rfl
 unfold CJ;rw[e];exact jZ (λn=>by simp) rfl
theorem B6{caps:List (Option Nat)}{x:XM}{m:EM}{δ:DS}{h:MH}(e:x (gq caps δ) h=some (("NoRow":Str),h)):gn uL caps wL x m δ h=some (.str "NoRow",h):=by
 unfold gn;rw[e];show(if("NoRow":Str)∈uL then _ else _)=_;rw[Qf (by decide+kernel)];exact CI h
noncomputable def flat(st:List (Nat×Nat)):List Nat:=st.flatMap λs=>[s.1,s.2]
noncomputable def Br(st:List (Nat×Nat))(k:Nat):D:=dy (flat st++[k])
noncomputable def OT(l:List Row)(s:Nat×Nat):Option (List Row):=(l[s.1]?).bind λr=>(af r)[s.2]?
noncomputable def ic(rows:List Row):List (Nat×Nat)->Option (List Row)
 | []=>some rows
 | s::r=>(OT rows s).bind λl=>ic l r
theorem ED(st:List (Nat×Nat)):(flat st).length=2*st.length:=by
 induction st with
 | nil=>rfl
 | cons s r ih=>show([s.1,s.2]++flat r).length=_;rw[Qk,ih];simp;lia
theorem Az:∀{st:List (Nat×Nat)} {i:Nat} {s:Nat×Nat} (t:List Nat),st[i]?=some s->(flat st++t)[2*i]?=some s.1/\(flat st++t)[2*i+1]?=some s.2
 | x::r,0,s,t,e=>by cases e;exact⟨rfl,rfl⟩
 | x::r,i+1,s,t,e=>by
  have ⟨h1,h2⟩:=Az (st:=r) (i:=i) t e;show(x.1::x.2::(flat r++t))[2*(i+1)]?=_/\(x.1::x.2::(flat r++t))[2*(i+1)+1]?=_;rw[show 2*(i+1)=2*i+1+1 by lia,Rq,Rq,Rq,Rq];exact⟨h1,h2⟩
theorem iq{xs:List D}{i:Nat}{d:D}{h:MH}(e:xs[i]?=some d):aP (.tup xs) (.int (i:Int)) h=some (d,h):=by
 have q:gz xs (i:Int)=some d:=qy e;simp only[aP,dS,dw,QM,q,QU]
theorem mV{p:List Nat}{i x:Nat}{h:MH}(e:p[i]?=some x):aP (dy p) (.int (i:Int)) h=some (gi x,h):=
 iq (by rw[Qx,e];rfl)
theorem uG{p:List Nat}{i:Int}{j x:Nat}{h:MH}(hi:i=(j:Int))(e:p[j]?=some x):aP (dy p) (.int i) h=some (gi x,h):=by
 subst hi;exact mV e
theorem AA{l:List Row}{i:Nat}{r:Row}{h:MH}(e:l[i]?=some r):aP (bK l) (gi i) h=some (aw r,h):=
 iq (by rw[bT,Qx,e];rfl)
theorem C6(n:Nat):(Builtin.Range.rangeSize 1 ((2*n+1:Nat):Int) 2).toNat=n:=by
 unfold Builtin.Range.rangeSize;rw[Qf (by decide)]
 split
 ·lia
 ·lia
theorem Jg{m:AM}{δ:DS}{h:MH}{Q:List D×W×MH->Prop}(r:Rn (m δ h) λp=>∃i j c,p.1=[.int i,.int j,.int c]/\Fx i j c/\Q ((List.range (Builtin.Range.rangeSize i j c).toNat).map λ(k:Nat)=>D.int (i+(k:Int)*c),[],p.2)):Rn (GU m δ h) Q:=by
 obtain⟨⟨ds,h1⟩,e,i,j,c,rfl,ok,q⟩:=r;refine⟨_,?_,q⟩;unfold GU;rw[e];show(if Fx i j c then _ else _)=_;rw[Qf ok]
theorem pf{rows lot:List Row}{st:List (Nat×Nat)}{k:Nat}{h:MH}(e:ic rows st=some lot)(hl:st.length<=1000):iB [bK rows,Br st k] h=some (bK lot,h):=by
 have e0:Rn (iB [bK rows,Br st k] h) λp=>p=(bK lot,h):=by
  refine bD ?_;nofun;refine Jg ?_;nofun;refine rv (a:=(.int ((2*st.length+1:Nat):Int),h)) ?_ ?_
  ·show some (D.int (((flat st++[k]).map gi).length:Int),h)=_;rw[Qb,Qk,ED];rfl
  nofun;refine⟨_,_,_,rfl,?_,?_⟩
  ·unfold Fx;lia
  rw[C6];refine cD (λi δ h'=>h'=h/\∃(l:List Row)(d3:Option D),δ=[some (bK rows),some (Br st k),some (bK l),d3]/\ic l (st.drop i)=some lot) ⟨rfl,rows,_,rfl,e⟩ (λ_ _ _ _ _=>rfl) ?_ ?_
  ·rintro i x δ h' hx ⟨rfl,l,d3,rfl,el⟩;rw[Qx] at hx;obtain⟨j,hj,ej⟩:=gM hx;obtain⟨hi,hj⟩:=Qc.mp hj;rw[T9] at hj;subst hj;rw[QO] at hi;cases ej;rw[Uy hi] at el;have hs:st[i]?=some st[i]:=QA hi;obtain⟨g1,g2⟩:=Az [k] hs;obtain⟨l1,el1,el2⟩:=bB el;obtain⟨r,er,el3⟩:=bB el1;nofun;refine rv (uG (j:=2*i) (by lia) g1) ?_;nofun;refine rv (AA er) ?_;nofun;refine rv (fV r _) ?_;nofun;refine rv (uG (j:=2*i+1) (by lia) g2) ?_;nofun;refine rv (iq (d:=bK l1) (by rw[Qx,el3];rfl)) ?_;nofun;exact⟨rfl,l1,_,rfl,el2⟩
  ·rintro δ h' ⟨rfl,l,d3,rfl,el⟩;rw[Qb,QO,List.drop_length] at el;cases el;nofun
 obtain⟨p,e1,rfl⟩:=e0;exact e1
noncomputable def Dr:Row->List Lock
 | .within l _=>[l]
 | .all ls _=>ls
 | .ask l _ _=>[l]
 | _=>[]
theorem tS(r:Row)(h:MH):dI [aw r] h=some (.tup ((Dr r).map aF),h):=by
 have e0:Rn (dI [aw r] h) λp=>p=(.tup ((Dr r).map aF),h):=by
  refine bD ?_;cases r with
  | all _ _=>rw[aw];nofun;refine⟨true,by ac_nf,tt ?_⟩;nofun;rfl
  | within _ _=>rw[aw];nofun;refine⟨false,by ac_nf,ff ?_⟩;nofun;refine rv (a:=(.bl true,h)) (by ac_nf) ⟨true,rfl,tt ?_⟩;nofun;rfl
  | ask _ _ _=>rw[aw];nofun;refine⟨false,by ac_nf,ff ?_⟩;nofun;refine rv (a:=(.bl true,h)) (by ac_nf) ⟨true,rfl,tt ?_⟩;nofun;rfl
  | _=>rw[aw];nofun;refine⟨false,by ac_nf,ff ?_⟩;nofun;refine rv (a:=(.bl false,h)) (by ac_nf) ⟨false,rfl,ff ?_⟩;nofun;rfl
 obtain⟨p,e1,rfl⟩:=e0;exact e1
theorem zQ{a:SM}{b:XM}{δ δ':DS}{h h':MH}(e:a δ h=some (.nx,δ',h')):wR a b δ h=b δ' h':=by unfold wR;rw[e];rfl
theorem Cy{t:TM}{a b:XM}{δ:DS}{h h':MH}{c:Bool}(e:t δ h=some (c,h')):Io t a b δ h=if c=true then a δ h' else b δ h':=by unfold Io;rw[e];rfl
theorem rf{P:Prog}{i:Nat}{d:cB}{h:MH}(e:P.ai[i]?=some d):fZ [bq P,gi i] h=some (bK d.2.2,h):=by
 have e0:Rn (fZ [bq P,gi i] h) λp=>p=(bK d.2.2,h):=by
  refine bD ?_;unfold bq;nofun;refine rv (iq (by rw[Qx,e];rfl)) ?_;unfold eF;nofun;rfl
 obtain⟨p,e1,rfl⟩:=e0;exact e1
section
variable {P:Prog} {n j:Nat} {path:List Nat} {r:Row} {h:MH}
theorem yn(hn:(placesFrom 0 P.ai)[n]?=some (j,path,r))(h:MH):jF Li Cj (eK (D.int 0)) (ax 1) (ay cz (ag (ax 2) aM)) (List.set (entry 3 [bq P,D.int (n:Int)]) 2 (some (D.lv ((placesFrom 0 P.ai).map gg)))) h=some (.bl true,h):=by
 have hlt:n < (placesFrom 0 P.ai).length:=(Qc.mp hn).1;refine bS (xu (rv rfl (rv (a:=(.int (n:Int),h)) rfl (rv rfl ⟨_,rfl,?_⟩))));rw[Qf (QP (show(0:Int)<=n by lia))];refine rv (a:=(.int ((placesFrom 0 P.ai).map gg).length,h)) rfl (rv rfl ?_);rw[Qb];show(D.bl (decide ((n:Int) < (placesFrom 0 P.ai).length)),h)=_;rw[QP (show(n:Int) < (placesFrom 0 P.ai).length by lia)]
theorem DT(hP:Hq P)(hn:(placesFrom 0 P.ai)[n]?=some (j,path,r))(h:MH):fe [bq P,.int (n:Int)] h=some (.tup [gi j,dy path,aw r],h):=by
 refine bS (bD ?_);nofun;refine rv (jr hP h) ?_;refine sY (fv (xp (nR (nS (rv (yn hn h) ⟨true,rfl,?_⟩)))));refine⟨λz=>(nomatch z),λ_=>?_⟩;nofun;refine rv (bL hn) ?_;nofun;rfl
theorem yE(hP:Hq P)(hn:(placesFrom 0 P.ai)[n]?=some (j,path,r))(h:MH):eZ [bq P,.int (n:Int)] h=none:=by
 have e1:aR 2 (ay dO (ag (ax 0) aM)) (entry 3 [bq P,.int (n:Int)]) h=some (.nx,List.set (entry 3 [bq P,D.int (n:Int)]) 2 (some (D.lv ((placesFrom 0 P.ai).map gg))),h):=by
  refine bS ?_;nofun;refine rv (jr hP h) ?_;rfl
 unfold eZ JV;rw[show([bq P,D.int (n:Int)]:List D)=[bq P,.int (n:Int)] from rfl];rw[zQ e1];have e2:Sm.nF (aE (jF Li Cj (eK (.int 0)) (ax 1) (ay cz (ag (ax 2) aM)))) (List.set (entry 3 [bq P,D.int (n:Int)]) 2 (some (D.lv ((placesFrom 0 P.ai).map gg)))) h=some (false,h):=bS (nR (nS (rv (yn hn h) ⟨true,rfl,rfl⟩)));rw[Cy e2];rfl
theorem uY(hP:Hq P)(hn:(placesFrom 0 P.ai)[n]?=some (j,path,r))(hk:Ke r=true)(hs:qf r)(h:MH):cJ [bq P,.int (n:Int)] h=none:=by
 have hl:∃a as,Dr r=a::as:=by
  cases r with
  | within l b=>exact⟨l,[],rfl⟩
  | ask l b e=>exact⟨l,[],rfl⟩
  | all ls b=>
   cases ls with
   | nil=>exact absurd rfl hs.2.2
   | cons a b=>exact⟨a,b,rfl⟩
  | _=>cases hk
 obtain⟨a,as,hl⟩:=hl;have e0:Ht eZ (ag (ax 0) (ag (ax 1) aM)) (entry 5 [bq P,.int (n:Int)]) h=none:=by
  show(ag (ax 0) (ag (ax 1) aM) _ h).bind (λp=>eZ p.1 p.2)=none;exact yE hP hn h
 have e1:fD (ay fe (ag (ax 0) (ag (ax 1) aM))) (gT 3 (ar (gN 2) (ar (gN 3) (ar (gN 4) bU)))) (entry 5 [bq P,.int (n:Int)]) h=some (.nx,[some (bq P),some (.int (n:Int)),some (gi j),some (dy path),some (aw r)],h):=by
  refine bS ?_;nofun;refine rv (DT hP hn h) ?_;nofun;rfl
 have e2:Sm.nF (qG (ay dI (ag (ax 4) aM))) [some (bq P),some (.int (n:Int)),some (gi j),some (dy path),some (aw r)] h=some (false,h):=by
  refine bS (nR (y1 ?_));nofun;refine rv (tS r h) ?_;rw[hl];exact⟨true,rfl,rfl⟩
 unfold cJ JV Im;rw[e0];dsimp only;rw[zQ e1,Cy e2];rfl
end
end Mi
namespace Pg
open PySem Sm L2
noncomputable def bQ:Row->Nat->List Row->Row
 | .within l _,0,x=>.within l x
 | .all l _,0,x=>.all l x
 | .ask l _ e,0,x=>.ask l x e
 | .ask l b _,1,x=>.ask l b x
 | .lz s t _ b c,0,x=>.lz s t x b c
 | .lz s t a _ c,1,x=>.lz s t a x c
 | .lz s t a b _,2,x=>.lz s t a b x
 | .either _ b,0,x=>.either x b
 | .either a _,1,x=>.either a x
 | .again _,0,x=>.again x
 | r,_,_=>r
end Pg
namespace Mi
open PySem Sm L2 Pg
noncomputable def putAt(k:Nat)(x:List Row):List (Nat×Nat)->List Row->List Row
 | [],l=>l.take k++x++l.drop (k+1)
 | s::st,l=>match l[s.1]? with
  | some r=>match (af r)[s.2]? with
   | some t=>l.take s.1++[bQ r s.2 (putAt k x st t)]++l.drop (s.1+1)
   | none=>l
  | none=>l
theorem HB{xs:List D}{k:Nat}{h:MH}(hk:k<=xs.length):iS (.tup xs) none (some (k:Int)) h=some (.tup (xs.take k),h):=by
 unfold iS cutD;dsimp only;rw[HT.lZ,HT.qh,RG hk,Uv,Nat.sub_zero]
 split
 ·rename_i z;rw[RX (UQ z.2.symm)]
 ·rfl
theorem vg{xs:List D}{k:Nat}{h:MH}(hk:k<=xs.length):iS (.tup xs) (some (k:Int)) none h=some (.tup (xs.drop k),h):=by
 unfold iS cutD;dsimp only;rw[HT.lZ,HT.qh,RG hk]
 split
 ·rename_i z;rw[z.1,Uv]
 ·rw[RX (by rw[RS];exact Qg _)]
theorem F5{r:Row}{j:Nat}{t:List Row}(e:(af r)[j]?=some t)(x:List Row):∃(a q:Int)(A B:List D),eQ.lookup (bJ r)=some [a,q]/\
  (∀h,iS (aw r) none (some (a+(j:Int))) h=some (.tup A,h))/\(∀h,aP (aw r) (.int (a+(j:Int))) h=some (bK t,h))/\(∀h,iS (aw r) (some (a+(j:Int)+1)) none h=some (.tup B,h))/\aw (bQ r j x)=.tup (A++[bK x]++B)/\A.length<=10/\B.length<=10:=by
 cases r with
 | say w=>cases e
 | call d ts=>cases e
 | within l b=>match j,e with | 0,e=>cases e;exact⟨2,1,[.str "within",aF l],[],by ac_nf,λh=>by rw[aw];rfl,λh=>by rw[aw];rfl,λh=>by rw[aw];rfl,by rw[bQ,aw];rfl,by show 2<=10;decide,by decide⟩
 | all l b=>match j,e with | 0,e=>cases e;exact⟨2,1,[.str "all",.tup (l.map aF)],[],by ac_nf,λh=>by rw[aw];rfl,λh=>by rw[aw];rfl,λh=>by rw[aw];rfl,by rw[bQ,aw];rfl,by show 2<=10;decide,by decide⟩
 | ask l b c=>match j,e with
  | 0,e=>cases e;exact⟨2,2,[.str "ask",aF l],[bK c],by ac_nf,λh=>by rw[aw];rfl,λh=>by rw[aw];rfl,λh=>by rw[aw];rfl,by rw[bQ,aw];rfl,by show 2<=10;decide,by show 1<=10;decide⟩
  | 1,e=>cases e;exact⟨2,2,[.str "ask",aF l,bK b],[],by ac_nf,λh=>by rw[aw];rfl,λh=>by rw[aw];rfl,λh=>by rw[aw];rfl,by rw[bQ,aw];rfl,by show 3<=10;decide,by decide⟩
 | lz s u a b c=>match j,e with
  | 0,e=>cases e;exact⟨3,3,[.str "by",bp s,bp u],[bK b,bK c],by ac_nf,λh=>by rw[aw];rfl,λh=>by rw[aw];rfl,λh=>by rw[aw];rfl,by rw[bQ,aw];rfl,by show 3<=10;decide,by show 2<=10;decide⟩
  | 1,e=>cases e;exact⟨3,3,[.str "by",bp s,bp u,bK a],[bK c],by ac_nf,λh=>by rw[aw];rfl,λh=>by rw[aw];rfl,λh=>by rw[aw];rfl,by rw[bQ,aw];rfl,by show 4<=10;decide,by show 1<=10;decide⟩
  | 2,e=>cases e;exact⟨3,3,[.str "by",bp s,bp u,bK a,bK b],[],by ac_nf,λh=>by rw[aw];rfl,λh=>by rw[aw];rfl,λh=>by rw[aw];rfl,by rw[bQ,aw];rfl,by show 5<=10;decide,by decide⟩
 | either a b=>match j,e with
  | 0,e=>cases e;exact⟨1,2,[.str "either"],[bK b],by ac_nf,λh=>by rw[aw];rfl,λh=>by rw[aw];rfl,λh=>by rw[aw];rfl,by rw[bQ,aw];rfl,by decide,by show 1<=10;decide⟩
  | 1,e=>cases e;exact⟨1,2,[.str "either",bK a],[],by ac_nf,λh=>by rw[aw];rfl,λh=>by rw[aw];rfl,λh=>by rw[aw];rfl,by rw[bQ,aw];rfl,by show 2<=10;decide,by decide⟩
 | again a=>match j,e with | 0,e=>cases e;exact⟨1,1,[.str "again"],[],by ac_nf,λh=>by rw[aw];rfl,λh=>by rw[aw];rfl,λh=>by rw[aw];rfl,by rw[bQ,aw];rfl,by decide,by decide⟩
theorem iQ{a:Nat}:∀{xs:List Nat},a∈xs->a<=xs.sum
 | x::r,h=>by
  rw[Q3];rcases Ql.mp h with rfl | h
  ·exact QK _ _
  ·exact Qr (iQ h) (Nat.le_add_left _ _)
theorem E3{l:List Row}{i j:Nat}{r:Row}{t:List Row}(e1:l[i]?=some r)(e2:(af r)[j]?=some t):ak t<=ak l:=by
 have h1:=mY l (i+1);rw[(uK e1).1] at h1;have h2:=cW r;have h3:ak t<=((af r).map ak).sum:=iQ (So (Qd e2))
 lia
theorem jz(l:List Row):(cj l).length=l.length:=by rw[bT,Qb]
theorem xA{p:List Nat}{h:MH}:cz [dy p] h=some (.int (p.length:Int),h):=by
 show some (D.int ((p.map gi).length:Int),h)=_;rw[Qb]
theorem Eo{l:List Row}{k:Nat}{h:MH}(hk:k<=l.length):iS (bK l) none (some (k:Int)) h=some (bK (l.take k),h):=by
 unfold bK;rw[HB (by rw[jz];exact hk),bT,bT,TZ]
theorem xQ{l:List Row}{k:Nat}{h:MH}(hk:k<=l.length):iS (bK l) (some (k:Int)) none h=some (bK (l.drop k),h):=by
 unfold bK;rw[vg (by rw[jz];exact hk),bT,bT,UB]
theorem qq{a b:List Row}{h:MH}(hl:a.length+b.length<=10000):az (bK a) (bK b) h=some (bK (a++b),h):=by
 unfold bK;rw[su (by rw[jz,jz];exact hl),bT,bT,bT,Qs]
theorem y8{a b:Nat}{p:List Nat}{h:MH}:iS (dy (a::b::p)) (some 2) none h=some (dy p,h):=vg (xs:=gi a::gi b::p.map gi) (k:=2) (by simp)
theorem kE{k:Nat}{x:List Row}(hx:x.length<=1000):∀(st:List (Nat×Nat)) (f:Nat) (l lot:List Row) (h:MH),ic l st=some lot->st.length < f->k < lot.length->ak l<=1000->dH f [bK l,Br st k,bK x] h=some (bK (putAt k x st l),h)
 | [],f,l,lot,h,e,hf,hk,hc=>by
  cases e;cases f with
  | zero=>exact absurd hf (Tx _)
  | succ f=>
  have hl:=mZ l;rw[dH];refine bS (bD ?_);nofun;refine rv (mV (p:=flat []++[k]) (i:=0) rfl) ?_;nofun;refine rv (xA (p:=flat []++[k])) ?_;nofun;refine⟨false,rfl,λz=>(nomatch z),λ_=>?_⟩;nofun;refine⟨_,rfl,rv (Eo (RW hk)) ?_⟩;nofun;refine rv (qq (by rw[QB];lia)) ?_;nofun;refine rv (a:=(.int ((k+1:Nat):Int),h)) rfl ?_;nofun;refine⟨_,rfl,rv rfl (rv (xQ hk) ?_)⟩;nofun;refine rv (qq (by rw[Qk,QB,RS];lia)) ?_;nofun;rfl
 | s::st,f,l,lot,h,e,hf,hk,hc=>by
  obtain⟨t,e1,e2⟩:=bB e;obtain⟨r,e3,e4⟩:=bB e1;cases f with
  | zero=>exact absurd hf (Tx _)
  | succ f=>
  have hl:=mZ l;have ht:=E3 e3 e4;have hi:s.1 < l.length:=(Qc.mp e3).1;have ih:=kE hx st f t lot h e2 (UP hf) hk (Qr ht hc);have hput:putAt k x (s::st) l=l.take s.1++[bQ r s.2 (putAt k x st t)]++l.drop (s.1+1):=by
   simp only[putAt,e3,e4]
  obtain⟨a,q,A,B,p1,p2,p3,p4,p5,p6,p7⟩:=F5 e4 (putAt k x st t);rw[dH,hput];refine bS (bD ?_);nofun;refine rv (mV (p:=s.1::s.2::(flat st++[k])) (i:=0) rfl) ?_;nofun;refine rv (xA (p:=s.1::s.2::(flat st++[k]))) ?_;nofun;refine⟨true,?_,λ_=>?_,λz=>(nomatch z)⟩
  ·show D.bl (decide ((1:Int) < ((s.1::s.2::(flat st++[k])).length:Int)))=_;rw[QP (by simp only[Qj];lia)]
  nofun;refine rv (AA e3) ?_;nofun;refine rv (t9 r h) ?_;nofun;refine rv (a:=(.tup [.int a,.int q],h)) (by show(eQ.lookup (bJ r)).map _=_;rw[p1];rfl) ?_;nofun;refine rv (mV (p:=s.1::s.2::(flat st++[k])) (i:=1) rfl) ?_;nofun;refine rv (a:=(.int (a+(s.2:Int)),h)) rfl ?_;nofun;refine⟨_,rfl,rv (p2 h) ?_⟩;nofun;refine rv (p3 h) ?_;nofun;refine⟨_,rfl,rv rfl (rv (y8 (p:=flat st++[k])) ?_)⟩;nofun;refine rv ih ?_;nofun;refine rv (su (xs:=A) (ys:=[bK (putAt k x st t)]) (by simp;lia)) ?_;nofun;refine⟨_,rfl,rv rfl (rv (p4 h) ?_)⟩;nofun;refine rv (su (xs:=A++[bK (putAt k x st t)]) (ys:=B) (by simp;lia)) ?_;nofun;rw[show D.tup [D.tup (A++[bK (putAt k x st t)]++B)]=bK [bQ r s.2 (putAt k x st t)] by rw[<-p5];unfold bK;rw[bT];rfl];refine⟨_,rfl,rv (Eo (RW hi)) ?_⟩;nofun;refine rv (qq (b:=[bQ r s.2 (putAt k x st t)]) (by rw[QB];simp;lia)) ?_;nofun;refine rv (a:=(.int ((s.1+1:Nat):Int),h)) rfl ?_;nofun;refine⟨_,rfl,rv rfl (rv (xQ hi) ?_)⟩;nofun;refine rv (qq (by rw[Qk,QB,RS];simp;lia)) ?_;nofun
noncomputable def fE(P:Prog)(j k:Nat)(x:List Row)(st:List (Nat×Nat))(d:cB):Prog:={P with ai:=P.ai.take j++[(d.1,d.2.1,putAt k x st d.2.2)]++P.ai.drop (j+1)}
theorem mz{P:Prog}{j k:Nat}{x lot:List Row}{st:List (Nat×Nat)}{d:cB}(hx:x.length<=1000)(hd:P.ai[j]?=some d)(hl:ic d.2.2 st=some lot)(hst:st.length < 6)(hk:k < lot.length)(hc:ak d.2.2<=1000)(hP:P.ai.length<=1000)(h:MH):
  gv [bq P,gi j,Br st k,bK x] h=some (bq (fE P j k x st d),h):=by
 have hj:j < P.ai.length:=(Qc.mp hd).1;have e1:bq P=.tup [.tup (P.names.map D.str),.tup (P.ai.map eF)]:=rfl;have s1:iS (.tup (P.ai.map eF)) none (some (j:Int)) h=some (.tup ((P.ai.take j).map eF),h):=by rw[HB (by rw[Qb];lia),TZ]
 have s2:iS (.tup (P.ai.map eF)) (some ((j+1:Nat):Int)) none h=some (.tup ((P.ai.drop (j+1)).map eF),h):=by rw[vg (by rw[Qb];lia),UB]
 refine bS (bD ?_);rw[e1];nofun;refine rv (a:=(.tup [.str d.1,.tup (d.2.1.map D.str),bK d.2.2],h)) (iq (i:=j) (by rw[Qx,hd];rfl)) ?_;nofun;refine⟨_,rfl,rv s1 ?_⟩;nofun;refine rv (kE hx st 6 d.2.2 lot h hl hst hk hc) ?_;nofun;refine rv (su (ys:=[.tup [.str d.1,.tup (d.2.1.map D.str),bK (putAt k x st d.2.2)]]) (by simp;lia)) ?_;nofun;refine rv (a:=(.int ((j+1:Nat):Int),h)) rfl ?_;nofun;refine⟨_,rfl,rv rfl (rv s2 ?_)⟩;nofun;refine rv (su (by simp;lia)) ?_;nofun;show(D.tup [D.tup (P.names.map D.str),D.tup _],h)=(D.tup [D.tup (P.names.map D.str),D.tup ((P.ai.take j++[(d.1,d.2.1,putAt k x st d.2.2)]++P.ai.drop (j+1)).map eF)],h);rw[Qs,Qs];rfl
section
variable {P:Prog} {n j k:Nat} {st:List (Nat×Nat)} {r:Row} {d:cB} {lot b:List Row} {gone:List (List Row)}
theorem qp{l:List Row}{h:MH}:cz [bK l] h=some (.int (l.length:Int),h):=by
 show some (D.int ((cj l).length:Int),h)=_;rw[jz]
theorem BD(hd:P.ai[j]?=some d)(hl:ic d.2.2 st=some lot)(hst:st.length < 6)(x1 x4:Option D)(h:MH):
  aE (ao wj (ao az (ao sm (ay cz (ag (ay iB (ag (ay fZ (ag (ax 0) (ag (ax 2) aM))) (ag (ax 3) aM))) aM)) (eK (.int 1))) (ay cz (ag (ax 5) aM))) (eK (.int 12))) [some (bq P),x1,some (gi j),some (Br st k),x4,some (bK b)] h=some (decide (12 < (lot.length:Int)-1+(b.length:Int)),h):=by
 refine bS (nS ?_);nofun;refine rv (rf hd) ?_;nofun;refine rv (pf hl (by lia)) ?_;nofun;refine rv qp ?_;nofun;refine rv qp ?_;nofun;exact⟨_,rfl,rfl⟩
theorem BQ(hb:af r=b::gone)(δ:DS)(hδ:δ[4]?=some (some (aw r)))(h:MH):ao aP (ay dP (ag (ax 4) aM)) (eK (.int 0)) δ h=some (bK b,h):=by
 refine bS (mx (DD (cO (fN hδ (kA (rv (fV r h) ?_))))));rw[hb,Qp];exact HH (rv (show aP (.tup (bK b::gone.map bK)) (.int ((0:Nat):Int)) h=some (bK b,h) from iq rfl) rfl)
theorem qA(hP:Hq P)(hn:(placesFrom 0 P.ai)[n]?=some (j,flat st++[k],r))(hk:Ke r=true)(hs:qf r)(hb:af r=b::gone)(hd:P.ai[j]?=some d)(hl:ic d.2.2 st=some lot)(hst:st.length < 6)(hm:12 < (lot.length:Int)-1+(b.length:Int))(h:MH):
  cX [bq P,.int (n:Int)] h=some (("NoRow":Str),h):=by
 refine bS (Md (Jb ?_ (DA ?_)))
 ·show(ag (ax 0) (ag (ax 1) aM) _ h).bind (λp=>cJ p.1 p.2)=none;exact uY hP hn hk hs h
 ·nofun;refine rv (rT hP hn hk hs h) ?_;nofun;refine⟨rfl,DA (xr (rv (BQ hb _ (by rfl) h) ⟨rfl,?_⟩))⟩;refine L7 (rv (BD (k:=k) (b:=b) hd hl hst _ _ h) ⟨λ_=>DB (cO (HH (kA rfl))),λz=>?_⟩);exact absurd hm (T8 z)
theorem yF(hP:Hq P)(hn:(placesFrom 0 P.ai)[n]?=some (j,flat st++[k],r))(hk:Ke r=true)(hs:qf r)(hb:af r=b::gone)(hd:P.ai[j]?=some d)(hl:ic d.2.2 st=some lot)(hst:st.length < 6)(hkl:k < lot.length)(hc:ak d.2.2<=1000)(hbl:b.length<=1000)(hm:¬12 < (lot.length:Int)-1+(b.length:Int))(h:MH):
  cY [bq P,.int (n:Int)] h=some (bq (fE P j k b st d),h):=by
 refine bS (bD (fv ?_));nofun;refine rv (rT hP hn hk hs h) ?_;nofun;refine rv (fV r h) ?_;rw[hb,Qp];nofun;refine rv (rf hd) ?_;nofun;refine rv (pf hl (by lia)) ?_;nofun;refine rv qp ?_;nofun;refine rv qp ?_;nofun;refine⟨_,rfl,λz=>absurd (Q8 z) hm,λ_=>?_⟩;nofun;refine rv (mz hbl hd hl hst hkl hc hP.dl h) ?_;nofun
end
end Mi
namespace Pg
open PySem Sm L2
theorem gF{w:Str}(h:1<=w.length/\w.length<=7/\Mi.low w):Sh 8 w:=⟨by lia,Mi.Kc h.2.2⟩
section
variable {W:Wd} {fl:List Int} {odd:Int} {ps:List Str}
theorem qa(hp:∀w∈ps,Sh 8 w){t:Term}(h:eU ps t):IK t:=by
 refine⟨?_,h.2.1,h.2.2⟩;rcases h.1 with e | e
 ·rw[e];exact⟨by decide+kernel,by decide+kernel⟩
 ·exact hp _ e
theorem vY(ok:Mi.pX W fl odd)(hp:∀w∈ps,Sh 8 w){l:Lock}(h:fH W ps l):Lh l:=⟨gF (ok.sn _ h.1),qa hp h.2⟩
theorem IY(ok:Mi.pX W fl odd)(hp:∀w∈ps,Sh 8 w){n:Nat}{r:Row}(h:bg W ps n r):qf r/\∀t∈af r,bG W ps (n+1) t:=by
 cases r with
 | say w=>
  rw[bg] at h;refine⟨?_,λt ht=>(nomatch ht)⟩;rcases Qy.mp h with z | z
  ·exact gF (ok.sn _ z)
  ·exact gF (ok.sd _ z)
 | call d ts=>
  rw[bg] at h;obtain⟨⟨j,qs,e1,e2,e3⟩,ht⟩:=h;refine⟨⟨gF (ok.sd _ (Qd e1)),by rw[e3];exact ok.p3 qs (Qd e2),λt h=>qa hp (ht t h)⟩,λt ht=>(nomatch ht)⟩
 | within l b=>rw[bg] at h;exact⟨vY ok hp h.1,λt ht=>by rw[Qw.mp ht];exact h.2.2.2⟩
 | all ls b=>
  rw[bg] at h;exact⟨⟨h.1.2.1,λl hl=>vY ok hp (h.1.2.2.2 l hl),by intro e;have:=h.1.1;rw[e] at this;simp at this⟩,λt ht=>by rw[Qw.mp ht];exact h.2.2.2⟩
 | ask l b e=>
  rw[bg] at h;refine⟨vY ok hp h.1,λt ht=>?_⟩;rcases Ql.mp ht with rfl | ht
  ·exact h.2.2.2.2.1
  ·rw[Qw.mp ht];exact h.2.2.2.2.2
 | lz s t a b c=>
  rw[bg] at h;obtain⟨h1,h2,_,_,_,_,h3,h4,h5⟩:=h;refine⟨⟨qa hp h1,qa hp h2⟩,λt ht=>?_⟩;simp only[af,Ql,Uj,or_false] at ht;rcases ht with rfl | rfl | rfl
  ·exact h3
  ·exact h4
  ·exact h5
 | either a b=>
  rw[bg] at h;obtain⟨_,_,_,h3,h4⟩:=h;refine⟨trivial,λt ht=>?_⟩;simp only[af,Ql,Uj,or_false] at ht;rcases ht with rfl | rfl
  ·exact h3
  ·exact h4
 | again a=>rw[bg] at h;exact⟨trivial,λt ht=>by rw[Qw.mp ht];exact h.2.2⟩
theorem zo(ok:Mi.pX W fl odd)(hp:∀w∈ps,Sh 8 w):∀(f n:Nat)(l:List Row),bG W ps n l->wN f l
 | 0,_,_,_=>trivial
 | f+1,n,l,h=>λr hr=>by
  obtain⟨a,b⟩:=IY ok hp (nX h r hr);exact⟨a,λt ht=>zo ok hp f (n+1) t (b t ht)⟩
theorem Gm(ok:Mi.pX W fl odd){m:Nat}{P:Prog}(o:Ll W m P)(hm:m<=60):Lk P:=by
 have fit:=o.fit (by lia) ok.d2;refine⟨fit,by rw[o.dl];exact ok.d2,by rw[o.nm,(f9 W.names).length_eq];exact ok.n2,λx hx=>?_,λd hd=>?_,Qr o.ct (by lia)⟩
 ·rw[o.nm] at hx;exact gF (ok.sn x ((f9 W.names).mem_iff.mp hx))
 ·obtain⟨j,hj⟩:=RD.mp hd;obtain⟨e1,e2,e3,_⟩:=o.dd j d hj;have hps:∀w∈d.2.1,Sh 8 w:=λw hw=>gF (ok.sp d.2.1 (Qd e2) w hw);exact⟨gF (ok.sd _ (Qd e1)),ok.p3 _ (Qd e2),hps,zo ok hps 8 1 d.2.2 e3⟩
end
theorem Mr(n:Nat):Sh 1000 (pL n).2:=show Sh 1000 (Str.ofString "or") from⟨by decide+kernel,by decide+kernel⟩
theorem ES:Sh 1000 (Str.ofString "end"):=⟨by decide+kernel,by decide+kernel⟩
theorem Ar{g:Nat->List Row->List Ln}(n:Nat):∀(x:List (List Row)) (j k:Nat),(∀k,∀t∈x,∀y∈g k t,Sh 1000 y.2)->∀y∈aL g n j k x,Sh 1000 y.2
 | [],j,k,_,y,hy=>(nomatch hy)
 | t::x,j,k,h,y,hy=>by
  rw[aL] at hy;rcases Qy.mp hy with z | z
  ·rcases Qy.mp z with z | z
   ·split at z
    ·cases z
    ·rw[Qw.mp z];exact Mr n
   ·exact h k t (.head _) y z
  ·exact Ar n x (j+1) (k+ak t) (λk u hu=>h k u (.tail _ hu)) y z
theorem z5{g:Nat->List Row->List Ln}:∀(l:List Row)(k:Nat),(∀r∈l,qf r/\∀k,∀t∈af r,∀y∈g k t,Sh 1000 y.2)->∀y∈aV g k l,Sh 1000 y.2
 | [],k,_,y,hy=>(nomatch hy)
 | r::rs,k,h,y,hy=>by
  rw[aV] at hy;rcases Qy.mp hy with z | z
  ·rw[dm] at z;rcases Ql.mp z with rfl | z
   ·exact(xZ (h r (.head _)).1).up (by decide)
   ·rcases Qy.mp z with z | z
    ·exact Ar k (af r) 0 (k+1) (h r (.head _)).2 y z
    ·split at z
     ·cases z
     ·rw[Qw.mp z];exact ES
  ·exact z5 rs (k+cnt r) (λr hr=>h r (.tail _ hr)) y z
theorem xT:∀(f:Nat)(l:List Row)(k:Nat),wN f l->∀x∈dU f k l,Sh 1000 x.2
 | 0,l,k,_,x,hx=>(nomatch hx)
 | f+1,l,k,hs,x,hx=>z5 l k (λr hr=>⟨(hs r hr).1,λk t ht=>xT f t k ((hs r hr).2 t ht)⟩) x hx
theorem sG:∀(ds:List cB)(k:Nat),(∀d∈ds,Sh 8 d.1/\d.2.1.length<=3/\(∀x∈d.2.1,Sh 8 x)/\wN 8 d.2.2)->∀x∈aN 8 k ds,Sh 1000 x.2
 | [],k,_,x,hx=>(nomatch hx)
 | d::ds,k,h,x,hx=>by
  obtain⟨a,b,c,e⟩:=h d (.head _);rw[aN] at hx;rcases Ql.mp hx with rfl | hx
  ·exact(zC a b c).up (by decide)
  ·rcases Qy.mp hx with z | z
   ·exact xT 8 d.2.2 k e x z
   ·rcases Ql.mp z with rfl | z
    ·exact ES
    ·exact sG ds (k+ak d.2.2) (λd hd=>h d (.tail _ hd)) x z
end Pg
namespace Mi
open PySem Sm L2 Pg
def Dp(n:Nat)(d:D):Prop:=∃p,vH d=some p/\p.depth<=n/\PyData.eqv p p=true
def Cn(n:Nat)(xs:List D):Prop:=∃ps,oO xs=some ps/\PyData.depthAll ps<=n/\PyData.eqvAll ps ps=true
theorem Cn.nil{n:Nat}:Cn n []:=⟨[],rfl,by simp[PyData.depthAll],rfl⟩
theorem Cn.cons{n:Nat}{x:D}{xs:List D}(a:Dp n x)(b:Cn n xs):Cn n (x::xs):=by
 obtain⟨p,e1,e2,e3⟩:=a;obtain⟨ps,f1,f2,f3⟩:=b;refine⟨p::ps,?_,?_,?_⟩
 ·show(vH x).bind (λa=>(oO xs).map λb=>a::b)=_;rw[e1,f1];rfl
 ·rw[PyData.depthAll];exact Sw.mpr ⟨e2,f2⟩
 ·rw[PyData.eqvAll,e3,f3];rfl
theorem Cn.map{α:Type}{n:Nat}{f:α->D}:∀{xs:List α},(∀x∈xs,Dp n (f x))->Cn n (xs.map f)
 | [],_=>Cn.nil
 | x::xs,h=>Cn.cons (h x Qh) (Cn.map λy hy=>h y (Qi _ hy))
theorem Dp.lv{n:Nat}{xs:List D}(a:Cn n xs):Dp (n+1) (.lv xs):=by
 obtain⟨ps,f1,f2,f3⟩:=a;refine⟨.list ps,?_,?_,?_⟩
 ·show(oO xs).map _=_;rw[f1];rfl
 ·rw[PyData.depth];exact SX f2
 ·rw[PyData.eqv];exact f3
theorem Dp.str{n:Nat}(w:Str):Dp n (.str w):=⟨.str w,rfl,by simp[PyData.depth],by simp[PyData.eqv]⟩
end Mi
namespace Pg
open PySem Sm L2
noncomputable def dJ(p:List Nat×Nat)(x:Ln):Option (List Nat×Nat):=if x.2=Str.ofString "or" then(match p.1 with | []=>none | _::t=>some (0::t,p.2)) else if x.2=Str.ofString "end" then(match p.1 with | []=>none | _::t=>some (t,p.2)) else some (match p.1 with
  | []=>(if fw x.2 then[0] else[],p.2)
  | c::t=>(if fw x.2 then 0::(c+1)::t else(c+1)::t,max p.2 (c+1)))
noncomputable def dq(p:List Nat×Nat):List Ln->Option (List Nat×Nat)
 | []=>some p
 | x::r=>(dJ p x).bind λq=>dq q r
theorem ft:∀(a b:List Ln)(p:List Nat×Nat),dq p (a++b)=(dq p a).bind λq=>dq q b
 | [],b,p=>rfl
 | x::a,b,p=>by
  rw[QL,dq,dq];cases dJ p x with
  | none=>rfl
  | some q=>exact ft a b q
theorem Dn(p:List Nat×Nat)(x:Ln):dq p [x]=dJ p x:=by
 rw[dq];cases dJ p x <;> rfl
theorem CQ{p q:List Nat×Nat}{x:Ln}(e:dJ p x=some q):q.1.length<=p.1.length+1:=by
 obtain⟨cs,m⟩:=p;unfold dJ at e
 split at e
 ·cases cs with
  | nil=>cases e
  | cons c t=>cases e;simp
 ·split at e
  ·cases cs with
   | nil=>cases e
   | cons c t=>cases e;simp;lia
  ·cases cs with
   | nil=>cases e;dsimp only;split <;> simp
   | cons c t=>cases e;dsimp only;split <;> simp
theorem z3:∀(a:List Ln)(p q:List Nat×Nat),dq p a=some q->q.1.length<=p.1.length+a.length
 | [],p,q,e=>by cases e;exact Qg _
 | x::a,p,q,e=>by
  rw[dq] at e;rw[Qj];cases h:dJ p x with
  | none=>rw[h] at e;cases e
  | some s=>
   rw[h] at e;have h1:=CQ h;have h2:=z3 a s q e
   lia
end Pg
namespace Mi
open PySem Sm L2 Pg
noncomputable def nI(n:Nat):D:=.int (n:Int)
theorem P4{xs:List D}{x:D}:rZ (xs++[x]).length (-1)=some xs.length:=by
 rw[mP (by simp),Qk];rfl
theorem P8{xs:List D}{x:D}:gz (xs++[x]) (-1)=some x:=by
 unfold gz;rw[P4];simp
theorem Oo{xs:List D}{x z:D}:(xs++[x]).set xs.length z=xs++[z]:=by
 rw[Sd _ _ (Qg _),Sk];rfl
theorem JW(a b:Nat):max (a:Int) (b:Int)=((max a b:Nat):Int):=by lia
theorem HC{t:List Nat}{c z:Nat}:((c::t).reverse.map nI).set t.length (nI z)=(z::t).reverse.map nI:=by
 rw[Se,Se,Qs,Qs];have:=Oo (xs:=t.reverse.map nI) (x:=nI c) (z:=nI z);rw[Qb,TV] at this;exact this
theorem ME{t:List Nat}{c:Nat}:rZ ((c::t).reverse.map nI).length (-1)=some t.length:=by
 rw[mP (by simp),Qb,TV];rfl
theorem Nc{t:List Nat}{c:Nat}:gz ((c::t).reverse.map nI) (-1)=some (nI c):=by
 rw[Se,Qs];exact P8
theorem vW(x0:Ln)(L:List Ln)(hl:L.length<=10000)(hs:∀x∈L,Sh 1000 x.2)(ce:List Nat)(me:Nat)(hr:dq ([],0) L=some (ce,me))(h:MH):∃dp n:Int,cc [.lv ((x0::L).map λx=>.str x.2)] h=some (.tup [.int (me:Int),.int dp,.int n],h):=by
 have e:Rn (cc [.lv ((x0::L).map λx=>.str x.2)] h) λp=>∃dp n:Int,p=(.tup [.int (me:Int),.int dp,.int n],h):=by
  refine kB ?_;nofun;refine eR ?_;nofun;refine⟨_,rfl,?_⟩;nofun;refine rv C0 ⟨_,_,rfl,?_⟩;refine cD (λi δ h'=>∃(cs:List Nat)(m:Nat)(dp n:Int)(o5 o6:Option D),δ=[some (.lv ((x0::L).map λx=>.str x.2)),some (.ob h.length),some (.int (m:Int)),some (.int dp),some (.int n),o5,o6]/\h'=h++[.lst (cs.reverse.map nI)]/\dq ([],0) (L.take i)=some (cs,m))
   ⟨[],0,0,0,_,_,rfl,rfl,rfl⟩ (λ_ _ _ _ _=>rfl) ?_ ?_
  ·rintro i x δ h' hx ⟨cs,m,dp,n,o5,o6,rfl,rfl,hrun⟩;rw[Qx] at hx;obtain⟨y,ey,rfl⟩:=QD.mp hx;have hy:=hs y (Qd ey);have hi:i < L.length:=(Qc.mp ey).1;have htk:L.take (i+1)=L.take i++[y]:=by rw[SK,ey];rfl
   have hle:=z3 _ _ _ hrun;replace hle:cs.length<=0+(L.take i).length:=hle;rw[QB] at hle;have hstep:∃p,dJ (cs,m) y=some p/\dq ([],0) (L.take (i+1))=some p:=by
    have h1:dq ([],0) (L.take (i+1))=dJ (cs,m) y:=by rw[htk,ft,hrun];exact Dn _ _
    have h2:=ft (L.take (i+1)) (L.drop (i+1)) ([],0);rw[Rb,hr] at h2;cases h3:dq ([],0) (L.take (i+1)) with
    | none=>rw[h3] at h2;cases h2
    | some p=>exact⟨p,by rw[<-h1,h3],rfl⟩
   obtain⟨p,hp,hp'⟩:=hstep;obtain⟨w,q,hsp⟩:∃w q,Txt.split y.2 (Str.ofString " ")=w::q:=by
    have:=Tu y.2 (Str.ofString " ");cases hh:Txt.split y.2 (Str.ofString " ") with
    | nil=>rw[hh] at this;simp at this
    | cons w q=>exact⟨w,q,rfl⟩
   have hop:fw y.2=fO w:=by unfold fw;rw[hsp]
   unfold dJ at hp;have hat:=ik (H:=h) (a:=.lst (cs.reverse.map nI)) rfl;nofun;refine gV ?_;nofun;refine⟨rfl,?_⟩;nofun;refine rv (kO hy) ?_;rw[hsp];nofun;refine rv (show aP (.lv ((w::q).map D.str)) (.int ((0:Nat):Int)) _=_ from bL (x:=w) rfl) ?_;nofun;refine⟨_,rfl,λz=>?_,λz=>?_⟩
   ·have z:=eq_of_beq z;rw[Qf z] at hp;cases cs with
    | nil=>cases hp
    | cons c t=>
    cases hp;nofun;refine rv (iT hat ME) ?_;rw[pI rfl,show D.int 0=nI 0 from rfl,HC];nofun;exact⟨_,m,dp,n,_,_,rfl,rfl,hp'⟩
   ·have z0:y.2≠Str.ofString "or":=by intro e;rw[e,QS] at z;cases z
    rw[Qo z0] at hp;nofun;refine⟨_,rfl,λz=>?_,λz=>?_⟩
    ·have z:=eq_of_beq z;rw[Qf z] at hp;cases cs with
     | nil=>cases hp
     | cons c t=>
     cases hp;nofun;refine gV ?_;nofun;refine⟨cy hat,?_⟩;nofun;refine rv (a:=(nI c,h++[.lst (t.reverse.map nI)])) ?_ ?_
     ·unfold El;dsimp only;rw[hat];dsimp only;rw[Se,Qs,show([c].map nI)=[nI c] from rfl,Qk,show(t.reverse.map nI).length+[nI c].length-1=(t.reverse.map nI).length from rfl,Qv (Qg _),Sk,List.dropLast_concat];simp only[List.getElem?_cons_zero,QU];rw[pI rfl]
     ·nofun;exact⟨_,m,dp,n,_,_,rfl,rfl,hp'⟩
    ·have z1:y.2≠Str.ofString "end":=by intro e;rw[e,QS] at z;cases z
     rw[Qo z1,hop] at hp;refine fv (Rn.imp (Q:=λr=>∃(cs':List Nat)(m':Nat)(n':Int),r=(Fl.nx,[some (.lv ((x0::L).map λx=>.str x.2)),some (.ob h.length),some (.int (m':Int)),some (.int dp),some (.int n'),some (.str y.2),some (.str w)],h++[.lst (cs'.reverse.map nI)])/\cs'.length=cs.length/\p=(if fO w=true then 0::cs' else cs',m')) ?_ ?_)
     ·nofun;have hatI:(h++[MO.lst (cs.reverse.map nI)])[h.length]?=some (.lst ((cs.reverse.map λn:Nat=>(n:Int)).map D.int)):=by rw[Ra];exact hat
      refine rv (oj hatI) ⟨_,rfl,λz=>?_,λz=>?_⟩
      ·cases cs with
       | nil=>cases z
       | cons c t=>
       nofun;refine rv (fJ hat Nc) ?_;nofun;refine rv (a:=(nI (c+1),h++[MO.lst ((c::t).reverse.map nI)])) rfl ?_;nofun;refine rv (iT hat ME) ?_;rw[pI rfl,HC];have hat2:=ik (H:=h) (a:=.lst (((c+1)::t).reverse.map nI)) rfl;nofun;refine rv (fJ hat2 Nc) ?_;nofun;refine rv (a:=(.int ((max m (c+1):Nat):Int),h++[MO.lst (((c+1)::t).reverse.map nI)])) (by rw[<-JW];exact fW _ _ _) ?_;nofun;refine⟨_,_,rfl,?_⟩;refine⟨(c+1)::t,max m (c+1),_,rfl,rfl,?_⟩;cases hp;rfl
      ·have hc:cs=[]:=by
        cases cs with
        | nil=>rfl
        | cons c t=>rw[Se,Qs] at z;simp at z
       subst hc;nofun;refine⟨[],m,n,rfl,rfl,?_⟩;cases hp;rfl
     ·rintro _ ⟨cs',m',n',rfl,hl',rfl⟩;have hat':=ik (H:=h) (a:=.lst (cs'.reverse.map nI)) rfl;show Rn _ _;nofun;refine rv (ur w _) ?_;nofun;refine⟨_,rfl,λz=>?_,λz=>?_⟩
      ·rw[Qf z] at hp';nofun;refine gV ?_;nofun;refine⟨cy hat',?_⟩;nofun;refine rv (cE hat' (by rw[Qb,TV,show sizeLine=16777216 from rfl];lia)) ?_;rw[pI rfl];have hat3:=ik (H:=h) (a:=.lst (cs'.reverse.map nI++[D.int 0])) rfl;nofun;refine rv (qt hat3) ?_;nofun;refine rv (fW _ _ _) ?_;exact⟨0::cs',m',_,_,_,_,rfl,by rw[Se,Qs];rfl,hp'⟩
      ·rw[Qo (by rw[z];simp)] at hp';nofun;exact⟨cs',m',dp,_,_,_,rfl,rfl,hp'⟩
  ·rintro δ h' ⟨cs,m,dp,n,o5,o6,rfl,rfl,hrun⟩;rw[Qb,Q9,hr] at hrun;cases hrun;nofun;exact rv (jZ (λn z=>(nomatch z)) rfl) ⟨dp,n,rfl⟩
 obtain⟨p,e1,dp,n,rfl⟩:=e;exact⟨dp,n,e1⟩
end Mi
namespace Mi
open PySem Sm L2 Pg Builtin.Str
noncomputable def sg(g:List Row->List Str)(L:Nat):Nat->List (List Row)->List Str
 | _,[]=>[]
 | k,a::r=>g a++((if k=L then Str.ofString "end" else Str.ofString "or")::sg g L (k+1) r)
noncomputable def qH(g:List Row->List Str)(r:Row):List Str:=bH r::sg g (af r).length 1 (af r)
noncomputable def tL:Nat->List Row->List Str
 | 0,_=>[]
 | f+1,l=>l.flatMap (qH (tL f))
theorem Aq{gl:Nat->List Row->List Ln}{g:List Row->List Str}(hg:∀k a,(gl k a).map (·.2)=g a)(n k:Nat)(r:Row):(aL gl n 0 k (af r)++(if af r=[] then[] else[fK n])).map (·.2)=sg g (af r).length 1 (af r):=by
 cases r <;> simp[af,aL,sg,hg,pL,fK]
theorem lL:∀(f k:Nat)(l:List Row),(dU f k l).map (·.2)=tL f l
 | 0,_,_=>rfl
 | f+1,k,l=>by
  show(aV (dU f) k l).map (·.2)=l.flatMap (qH (tL f))
  induction l generalizing k with
  | nil=>rfl
  | cons r l ih=>
   rw[aV,Qs,ih,Tn];congr 1;unfold dm qH;rw[Qp,Aq (lL f)]
noncomputable def O0(d:cB):List Str:=ba d::(tL 8 d.2.2++[Str.ofString "end"])
noncomputable def NK(P:Prog):List Str:=Str.join (Str.ofString " ") (Str.ofString "locks"::P.names)::P.ai.flatMap O0
theorem sF:∀(k:Nat)(ds:List cB),(aN 8 k ds).map (·.2)=ds.flatMap O0
 | _,[]=>rfl
 | k,d::ds=>by
  rw[aN,Qp,Qs,Qp,lL,sF _ ds,Tn];unfold O0 iL;simp
theorem y9(P:Prog):(pR P).map (·.2)=NK P:=by
 unfold pR NK;rw[Qp,sF];rfl
end Mi
namespace Pg
open PySem Sm L2
theorem qM:∀(l:List Row)(n:Nat),n < ak l->∃x r y,l=x++r::y/\ak x<=n/\n < ak x+cnt r
 | [],n,h=>by simp[ak] at h
 | r::l,n,h=>by
  rw[ak] at h
  by_cases z:n < cnt r
  ·exact⟨[],r,l,rfl,by simp[ak],by simpa [ak] using z⟩
  ·obtain⟨x,r',y,rfl,h1,h2⟩:=qM l (n-cnt r) (by lia);exact⟨r::x,r',y,rfl,by rw[ak];lia,by rw[ak];lia⟩
theorem qN:∀(l:List (List Row)) (n:Nat),n < (l.map ak).sum->∃x t y,l=x++t::y/\(x.map ak).sum<=n/\n < (x.map ak).sum+ak t
 | [],n,h=>by simp at h
 | r::l,n,h=>by
  rw[Qp,Q3] at h
  by_cases z:n < ak r
  ·exact⟨[],r,l,rfl,by simp,by simpa using z⟩
  ·obtain⟨x,r',y,rfl,h1,h2⟩:=qN l (n-ak r) (by lia);exact⟨r::x,r',y,rfl,by rw[Qp,Q3];lia,by rw[Qp,Q3];lia⟩
theorem pg(g:Nat->List Row->List Ln):∀(x y:List Row)(k:Nat),aV g k (x++y)=aV g k x++aV g (k+ak x) y
 | [],y,k=>by simp[aV,ak]
 | r::x,y,k=>by rw[QL,aV,aV,pg g x y,QG,ak,Rz]
theorem jA(g:Nat->List Row->List Ln)(n:Nat):∀(x y:List (List Row)) (j k:Nat),aL g n j k (x++y)=aL g n j k x++aL g n (j+x.length) (k+(x.map ak).sum) y
 | [],y,j,k=>by simp[aL]
 | t::x,y,j,k=>by
  rw[QL,aL,aL,jA g n x y];simp only[QG,Qj,Qp,Q3];rw[show j+1+x.length=j+(x.length+1) by lia,show k+ak t+(x.map ak).sum=k+(ak t+(x.map ak).sum) by lia]
theorem xb{r:Row}{u v:List (List Row)}{t:List Row}(e:af r=u++t::v)(t':List Row):af (bQ r u.length t')=u++t'::v/\bH (bQ r u.length t')=bH r:=by
 have key:∀(L:List (List Row)),af r=L->L=u++t::v->(af (bQ r u.length t')=u++t'::v/\bH (bQ r u.length t')=bH r):=by
  intro L hL e;cases r <;> subst hL <;> (match u,e with
   | [],e=>first |(cases e;exact⟨rfl,rfl⟩) |(cases e;done)
   | [a],e=>first |(cases e;exact⟨rfl,rfl⟩) |(cases e;done)
   | [a,b],e=>first |(cases e;exact⟨rfl,rfl⟩) |(cases e;done)
   | a::b::c::w,e=>first |(have e:=congrArg List.length e;simp[af] at e;done) |(have e:=congrArg List.length e;simp[af] at e;lia))
 exact key _ rfl e
theorem rR{u v:List (List Row)}{t:List Row}:(u++t::v)[u.length]?=some t:=by
 rw[Qv (Qg _),Sk];rfl
theorem l9{u v:List Row}{t:Row}:(u++t::v)[u.length]?=some t:=by
 rw[Qv (Qg _),Sk];rfl
end Pg
namespace Mi
open PySem Sm L2 Pg
theorem xP{g:Nat->List Row->List Ln}{G:List Row->List Str}(hg:∀k a,(g k a).map (·.2)=G a):∀(x:List (List Row)) (n n' j k k':Nat),(aL g n j k x).map (·.2)=(aL g n' j k' x).map (·.2)
 | [],_,_,_,_,_=>rfl
 | t::x,n,n',j,k,k'=>by
  rw[aL,aL,Qs,Qs,Qs,Qs,hg,hg,xP hg x n n' (j+1) (k+ak t) (k'+ak t)];congr 2
  split <;> rfl
theorem xa{g g':List Row->List Str}{L:Nat}:∀(k:Nat)(x:List (List Row)),(∀t∈x,g t=g' t)->Mi.sg g L k x=Mi.sg g' L k x
 | _,[],_=>rfl
 | k,t::x,h=>by rw[Mi.sg,Mi.sg,h t (.head _),xa (k+1) x λu hu=>h u (.tail _ hu)]
theorem Hy:∀(f:Nat)(l:List Row),aS l<=f->tL (f+1) l=tL f l
 | 0,l,h=>by
  cases l with
  | nil=>rfl
  | cons r l=>have:=bZ (lot:=r::l) (r:=r) (.head _);lia
 | f+1,l,h=>by
  have key:∀r∈l,qH (tL (f+1)) r=qH (tL f) r:=λr hr=>by
   have hr1:=bZ hr;have ht:∀t∈af r,tL (f+1) t=tL f t:=λt ht=>Hy f t (by have:=bY ht;lia);unfold qH;congr 1;exact xa 1 _ ht
  show l.flatMap (qH (tL (f+1)))=l.flatMap (qH (tL f));clear h
  induction l with
  | nil=>rfl
  | cons r l ih=>rw[Tn,Tn,key r (.head _),ih λx hx=>key x (.tail _ hx)]
theorem nY(l:List Row):1<=aS l:=by cases l with
 | nil=>rw[aS];exact Qg _
 | cons r l=>rw[aS];lia
theorem needLe'{k:Nat}:∀{l:List Row},(∀r∈l,b9 r<=k)->aS l<=k+1
 | [],_=>by rw[aS];exact Nat.le_add_left _ _
 | r::l,h=>by
  have h1:=h r Qh;have h2:=needLe' λx hx=>h x (Qi _ hx);rw[aS];exact Sw.mpr ⟨by lia,h2⟩
theorem uv{x l:List Row}(h:∀r∈x,r∈l):aS x<=aS l:=by
 have h1:=nY l;have:=needLe' (k:=aS l-1) (l:=x) λr hr=>by have:=bZ (h r hr);lia
 lia
theorem uu{N k c n:Nat}{L:List Ln}(h:Sg N k c L)(hN:N≠n)(hn:n < k\/k+c<=n):∀x∈L,x.1≠(n:Int):=λx hx=>by
 have:=h.nm x hx
 lia
theorem FI(f K:Nat)(r:Row):(dm (dU f) K r).map (·.2)=qH (tL f) r:=by
 unfold dm qH;rw[Qp,Aq (lL f)]
theorem n4(p:List Nat):∀(k:Nat)(u:List (List Row)),(di p k u).length=(u.map ak).sum
 | _,[]=>rfl
 | k,t::u=>by rw[di,Qk,aQ,n4 p (k+1) u,Qp,Q3]
def Pk(f f' k n:Nat)(l:List Row)(a:List Nat)(st:List (Nat×Nat))(kk:Nat)(lot:List Row)(r:Row)(pre post:List Ln):Prop:=
 dU f k l=pre++(dm (dU f') (k+n) r++post)/\(∀x∈pre,x.1≠((k+n:Nat):Int))/\(∀x∈post,x.1≠((k+n:Nat):Int))/\
 (aU a 0 l)[n]?=some (a++(flat st++[kk]),r)/\ic l st=some lot/\lot[kk]?=some r/\st.length+1<=aS l/\f'+1<=f/\qf r/\(∀t∈af r,wN f' t/\aS t<=f')/\
 ∀z,tL f (putAt kk z st l)=pre.map (·.2)++(tL (f'+1) z++post.map (·.2))
theorem HX:∀(f:Nat)(l:List Row)(a:List Nat)(k n:Nat),n < ak l->aS l<=f->wN f l->∃f' st kk lot r pre post,Pk f f' k n l a st kk lot r pre post
 | 0,l,a,k,n,_,hn,_=>by have:=nY l;lia
 | f+1,l,a,k,n,hn,hd,hs=>by
  obtain⟨x,r0,y,rfl,h1,h2⟩:=qM l n hn;have hm0:r0∈x++r0::y:=Qq _ (.head _);obtain⟨s1,s2⟩:=hs r0 hm0;have hnr:=bZ hm0;have sx:∀N k',Sg N k' (ak x) (aV (dU f) k' x):=λN k'=>vh (f+1) x k' N (Qr (uv λr hr=>QH _ hr) hd) λr hr=>hs r (QH _ hr);have sy:∀N k',Sg N k' (ak y) (aV (dU f) k' y):=λN k'=>vh (f+1) y k' N (Qr (uv λr hr=>Qq _ (.tail _ hr)) hd) λr hr=>hs r (Qq _ (.tail _ hr));have hln:dU (f+1) k (x++r0::y)=aV (dU f) k x++(dm (dU f) (k+ak x) r0++aV (dU f) (k+ak x+cnt r0) y):=by
   show aV (dU f) k (x++r0::y)=_;rw[pg,aV]
  have htL:∀z,tL (f+1) z=z.flatMap (qH (tL f)):=λz=>rfl;have hxt:∀k',(aV (dU f) k' x).map (·.2)=tL (f+1) x:=λk'=>lL (f+1) k' x;have hyt:∀k',(aV (dU f) k' y).map (·.2)=tL (f+1) y:=λk'=>lL (f+1) k' y
  by_cases z:n=ak x
  ·subst z;refine⟨f,[],x.length,x++r0::y,r0,aV (dU f) k x,aV (dU f) (k+ak x+cnt r0) y,hln,uu (sx (k+ak x+1) k) (by lia) (.inr (by lia)),uu (sy (k+ak x+1) _) (by lia) (.inl (by have:=cnt_pos' r0;lia)),?_,rfl,l9,by show 0+1<=aS _;exact nY _,Qg _,s1,λt ht=>⟨s2 t ht,by have:=bY ht;lia⟩,λz=>?_⟩
   ·rw[gf,Qv (by rw[aQ];exact Qg _),aQ,Sk,Q1,aU];rfl
   ·rw[hxt,hyt];show tL (f+1) ((x++r0::y).take x.length++z++(x++r0::y).drop (x.length+1))=_;rw[SJ,show(x++r0::y).drop (x.length+1)=y by rw[Sl,Rw (RN _),show x.length+1-x.length=1 by lia];rfl];simp only[htL,TX,QG]
  ·have hc:=cW r0;obtain⟨u,t,v,eL,g1,g2⟩:=qN (af r0) (n-ak x-1) (by lia);have htm:t∈af r0:=by rw[eL];exact Qq _ (.head _)
   obtain⟨f',st,kk,lot,r,pre,post,d1,d2,d3,d4,d5,d6,d7,d8,d9,d10,d11⟩:=HX f t (a++[x.length]++[u.length]) (k+ak x+1+(u.map ak).sum) (n-ak x-1-(u.map ak).sum) (by lia) (by have:=bY htm;lia) (s2 t htm);have en:k+ak x+1+(u.map ak).sum+(n-ak x-1-(u.map ak).sum)=k+n:=by lia
   rw[en] at d1 d2 d3;generalize hK:k+ak x=K at*;have hl0:af r0≠[]:=by rw[eL];simp
   have hsu:Sg K (K+1) (u.map ak).sum (aL (dU f) K 0 (K+1) u):=qg u 0 (K+1) λk' w hw=>vh f w k' K (by have:=bY (l:=w) (r:=r0) (by rw[eL];exact QH _ hw);lia) (s2 w (by rw[eL];exact QH _ hw));have hsv:∀j k',Sg K k' (v.map ak).sum (aL (dU f) K j k' v):=λj k'=>qg v j k' λk' w hw=>vh f w k' K (by have:=bY (l:=w) (r:=r0) (by rw[eL];exact Qq _ (.tail _ hw));lia) (s2 w (by rw[eL];exact Qq _ (.tail _ hw)));have hrow:∀t',dm (dU f) K (bQ r0 u.length t')=((K:Int),bH r0)::(aL (dU f) K 0 (K+1) u++((if u.length=0 then[] else[pL K])++dU f (K+1+(u.map ak).sum) t'++aL (dU f) K (u.length+1) (K+1+(u.map ak).sum+ak t') v)++[fK K]):=λt'=>by
    obtain⟨q1,q2⟩:=xb eL t';unfold dm;rw[q1,q2,Qo (by simp),jA,aL,Q1]
   have hrow0:dm (dU f) K r0=((K:Int),bH r0)::(aL (dU f) K 0 (K+1) u++((if u.length=0 then[] else[pL K])++dU f (K+1+(u.map ak).sum) t++aL (dU f) K (u.length+1) (K+1+(u.map ak).sum+ak t) v)++[fK K]):=by
    unfold dm;rw[eL,Qo (by simp),jA,aL,Q1]
   have hsum:cnt r0=1+((u.map ak).sum+(ak t+(v.map ak).sum)):=by rw[hc,eL,Qs,RH,Qp,Q3]
   refine⟨f',(x.length,u.length)::st,kk,lot,r,aV (dU f) k x++(((K:Int),bH r0)::(aL (dU f) K 0 (K+1) u++((if u.length=0 then[] else[pL K])++pre))),post++(aL (dU f) K (u.length+1) (K+1+(u.map ak).sum+ak t) v++(fK K::aV (dU f) (K+cnt r0) y)),?_,?_,?_,?_,?_,d6,by rw[Qj];have:=bY htm;lia,by lia,d9,d10,λz=>?_⟩
   ·rw[hln,hrow0,d1];simp only[QG,QL,Rj]
   ·intro w hw;rcases Qy.mp hw with hw | hw
    ·exact uu (sx (k+n+1) k) (by lia) (.inr (by lia)) w hw
    rcases Ql.mp hw with rfl | hw
    ·show(K:Int)≠((k+n:Nat):Int);lia
    rcases Qy.mp hw with hw | hw
    ·exact uu hsu (by lia) (.inr (by lia)) w hw
    rcases Qy.mp hw with hw | hw
    ·have:w=pL K:=by
      split at hw
      ·cases hw
      ·exact Qw.mp hw
     rw[this];show(K:Int)≠((k+n:Nat):Int);lia
    ·exact d2 w hw
   ·intro w hw;rcases Qy.mp hw with hw | hw
    ·exact d3 w hw
    rcases Qy.mp hw with hw | hw
    ·exact uu (hsv _ _) (by lia) (.inl (by lia)) w hw
    rcases Ql.mp hw with rfl | hw
    ·show(K:Int)≠((k+n:Nat):Int);lia
    ·exact uu (sy (k+n+1) _) (by lia) (.inl (by lia)) w hw
   ·have hlen:(eS (a++[x.length]) r0).length=cnt r0-1:=by have:=rB (a++[x.length]) r0;lia
    rw[gf,Qv (by rw[aQ];lia),aQ,Q1,aU,show n-ak x=(n-ak x-1)+1 by lia,Rq,Qt (by lia),ue,eL,jX,Qv (by rw[n4];lia),n4,Q1,di,Qt (by rw[aQ];lia),d4];simp[flat]
   ·show((OT (x++r0::y) (x.length,u.length)).bind λl=>ic l st)=_;have e1:OT (x++r0::y) (x.length,u.length)=some t:=by
     show((x++r0::y)[x.length]?).bind (λr=>(af r)[u.length]?)=_;rw[l9];show(af r0)[u.length]?=_;rw[eL,rR]
    rw[e1];exact d5
   ·have e4:(af r0)[u.length]?=some t:=by rw[eL,rR]
    have e3:(x++r0::y)[x.length]?=some r0:=l9;have hput:putAt kk z ((x.length,u.length)::st) (x++r0::y)=x++[bQ r0 u.length (putAt kk z st t)]++y:=by
     simp only[putAt,e3,e4];rw[SJ,show(x++r0::y).drop (x.length+1)=y by rw[Sl,Rw (RN _),show x.length+1-x.length=1 by lia];rfl]
    rw[hput,htL,TX,TX,List.flatMap_singleton,<-FI f K,hrow,<-htL,<-htL];simp only[Qs,Qp,QG,QL,hxt,hyt,lL,d11 z,xP (lL f) v K K (u.length+1) (K+1+(u.map ak).sum+ak (putAt kk z st t)) (K+1+(u.map ak).sum+ak t),RY,Rj]
theorem yk(x y:List cB):bM (x++y)=bM x+bM y:=by unfold bM;rw[Qs,RH]
theorem oD:∀(ds:List cB)(n:Nat),n < bM ds->∃x d y,ds=x++d::y/\bM x<=n/\n < bM x+ak d.2.2
 | [],n,h=>by simp[bM] at h
 | d::ds,n,h=>by
  rw[eW] at h
  by_cases z:n < ak d.2.2
  ·exact⟨[],d,ds,rfl,by simp[bM],by simpa [bM] using z⟩
  ·obtain⟨x,d',y,rfl,h1,h2⟩:=oD ds (n-ak d.2.2) (by lia);exact⟨d::x,d',y,rfl,by rw[eW];lia,by rw[eW];lia⟩
theorem jB(f:Nat):∀(x y:List cB)(k:Nat),aN f k (x++y)=aN f k x++aN f (k+bM x) y
 | [],y,k=>by simp[aN,bM]
 | d::x,y,k=>by
  rw[QL,aN,aN,jB f x y,eW,Rz];simp only[QG,QL]
theorem BX{u v:List cB}{t:cB}:(u++t::v)[u.length]?=some t:=by
 rw[Qv (Qg _),Sk];rfl
theorem HY{P:Prog}(hP:Lk P){n:Nat}(hn:n < bM P.ai):∃(j:Nat)(st:List (Nat×Nat)) (kk:Nat) (lot:List Row) (r:Row) (f':Nat) (d:cB) (pre post:List Ln),
  pR P=pre++(dm (dU f') n r++post)/\(∀x∈pre,x.1≠(n:Int))/\(∀x∈post,x.1≠(n:Int))/\(placesFrom 0 P.ai)[n]?=some (j,flat st++[kk],r)/\P.ai[j]?=some d/\ic d.2.2 st=some lot/\lot[kk]?=some r/\st.length < 6/\f'<=7/\qf r/\(∀t∈af r,wN f' t/\aS t<=f')/\
  ∀z,NK (fE P j kk z st d)=pre.map (·.2)++(tL (f'+1) z++post.map (·.2)):=by
 obtain⟨x,d,y,eD,h1,h2⟩:=oD P.ai n hn;have hm:d∈P.ai:=by rw[eD];exact Qq _ (.head _)
 have hD:∀d∈P.ai,Mx d:=λd hd=>⟨Qr (hP.fit.nd d hd) (by decide),(hP.dd d hd).2.2.2⟩;have sx:=FW x 0 λd hd=>hD d (by rw[eD];exact QH _ hd);have sy:=λk=>FW y k λd hd=>hD d (by rw[eD];exact Qq _ (.tail _ hd));obtain⟨f',st,kk,lot,r,pre,post,d1,d2,d3,d4,d5,d6,d7,d8,d9,d10,d11⟩:=HX 8 d.2.2 [] (bM x) (n-bM x) (by lia) (hD d hm).1 (hD d hm).2;have en:bM x+(n-bM x)=n:=by lia
 rw[en] at d1 d2 d3;have hnd:=hP.fit.nd d hm;have hln:pR P=iL (Str.join (Str.ofString " ") (Str.ofString "locks"::P.names))::(aN 8 0 x++(iL (ba d)::(dU 8 (bM x) d.2.2++(iL (Str.ofString "end")::aN 8 (bM x+ak d.2.2) y)))):=by
  rw[pR,eD,jB,aN,Q1]
 refine⟨x.length,st,kk,lot,r,f',d,iL (Str.join (Str.ofString " ") (Str.ofString "locks"::P.names))::(aN 8 0 x++(iL (ba d)::pre)),post++(iL (Str.ofString "end")::aN 8 (bM x+ak d.2.2) y),?_,?_,?_,?_,by rw[eD];exact BX,d5,d6,by lia,by lia,d9,d10,λz=>?_⟩
 ·rw[hln,d1];simp only[QG,QL]
 ·intro w hw;rcases Ql.mp hw with rfl | hw
  ·show(-1:Int)≠n;lia
  rcases Qy.mp hw with hw | hw
  ·have:=sx.nm w hw;lia
  rcases Ql.mp hw with rfl | hw
  ·show(-1:Int)≠n;lia
  ·exact d2 w hw
 ·intro w hw;rcases Qy.mp hw with hw | hw
  ·exact d3 w hw
  rcases Ql.mp hw with rfl | hw
  ·show(-1:Int)≠n;lia
  ·have:=(sy _).nm w hw;lia
 ·have hlx:(placesFrom 0 x).length=bM x:=gd 0 x;rw[eD,eA,Qv (by rw[hlx];exact h1),hlx,Q1,placesFrom,Qt (by rw[Qb,aQ];lia),Qx,d4];rfl
 ·have e1:(fE P x.length kk z st d).ai=x++(d.1,d.2.1,putAt kk z st d.2.2)::y:=by
   show P.ai.take x.length++[(d.1,d.2.1,putAt kk z st d.2.2)]++P.ai.drop (x.length+1)=_;rw[eD,SJ,Sl,Rw (RN _),show x.length+1-x.length=1 by lia];simp
  rw[<-y9,pR,e1,jB,aN,Q1];simp only[Qs,Qp,QG,QL,lL,d11 z,sF];rfl
end Mi
namespace Pg
open PySem Sm L2
def lx:Nat->List Row->Prop
 | 0,_=>True
 | f+1,l=>l.length<=12/\∀r∈l,∀t∈af r,lx f t
theorem CO{r:Row}(hr:qf r)(k:Int)(c m:Nat)(T:List Nat):dJ (c::T,m) (k,bH r)=some (if af r=[] then(c+1)::T else 0::(c+1)::T,max m (c+1)):=by
 obtain⟨n1,n2⟩:=we r hr;have n1':bH r≠Str.ofString "or":=by intro e;rw[e,QS] at n1;cases n1
 have n2':bH r≠Str.ofString "end":=by intro e;rw[e,QS] at n2;cases n2
 have hop:fw (bH r)=fO (bJ r):=by
  obtain⟨q,e⟩:=lq r hr;unfold fw;rw[e]
 unfold dJ;dsimp only;rw[Qo n1',Qo n2',hop]
 by_cases z:af r=[]
 ·rw[Qf z,(jW r).mp z];rfl
 ·have:fO (bJ r)=true:=by
   cases e:fO (bJ r) with
   | true=>rfl
   | false=>exact absurd ((jW r).mpr e) z
  rw[Qo z,this];rfl
theorem FP(n c m:Nat)(T:List Nat):dJ (c::T,m) (pL n)=some (0::T,m):=by
 unfold dJ;rw[Qf (show(pL n).2=Str.ofString "or" from rfl)]
theorem CP(n c m:Nat)(T:List Nat):dJ (c::T,m) (fK n)=some (T,m):=by
 unfold dJ;rw[Qo (show ¬(fK n).2=Str.ofString "or" from by show ¬Str.ofString "end"=Str.ofString "or";decide+kernel),Qf (show(fK n).2=Str.ofString "end" from rfl)]
theorem xk{g:Nat->List Row->List Ln}{f n:Nat}:∀(x:List (List Row)) (j k c0 m:Nat) (T:List Nat),(j=0->c0=0)->(∀t∈x,∀k m,∃m',dq (0::T,m) (g k t)=some (t.length::T,m')/\(m'<=12↔m<=12/\lx f t))->∃c' m',dq (c0::T,m) (aL g n j k x)=some (c'::T,m')/\(m'<=12↔m<=12/\∀t∈x,lx f t)
 | [],j,k,c0,m,T,_,_=>⟨c0,m,rfl,by simp⟩
 | t::x,j,k,c0,m,T,hj,h=>by
  obtain⟨m1,e1,i1⟩:=h t (.head _) k m;obtain⟨c',m',e2,i2⟩:=xk x (j+1) (k+ak t) t.length m1 T (λz=>absurd z (Nat.succ_ne_zero _)) λu hu=>h u (.tail _ hu);refine⟨c',m',?_,?_⟩
  ·have e0:dq (c0::T,m) (if j=0 then[] else[pL n])=some (0::T,m):=by
    by_cases z:j=0
    ·rw[Qf z,hj z];rfl
    ·rw[Qo z,Dn,FP]
   rw[aL,QG,ft,e0];show dq (0::T,m) (g k t++_)=_;rw[ft,e1];exact e2
  ·rw[i2,i1,Si,and_assoc]
theorem F4{f:Nat}{r:Row}(hr:qf r)(k c m:Nat)(T:List Nat)(h:∀t∈af r,∀(T:List Nat) k m,∃m',dq (0::T,m) (dU f k t)=some (t.length::T,m')/\(m'<=12↔m<=12/\lx f t)):∃m',dq (c::T,m) (dm (dU f) k r)=some ((c+1)::T,m')/\(m'<=12↔m<=12/\c+1<=12/\∀t∈af r,lx f t):=by
 unfold dm;rw[dq,CO hr];show ∃m',dq _ _=_/\_
 by_cases z:af r=[]
 ·rw[Qf z,Qf z,z];exact⟨max m (c+1),rfl,by simp[Sw]⟩
 ·rw[Qo z,Qo z];obtain⟨c',m',e,i⟩:=xk (n:=k) (af r) 0 (k+1) 0 (max m (c+1)) ((c+1)::T) (λ_=>rfl) λt ht k m=>h t ht _ k m;refine⟨m',?_,by rw[i,Sw,and_assoc]⟩;rw[ft,e];show dq (c'::(c+1)::T,m') [fK k]=_;rw[Dn,CP]
theorem xj{f:Nat}:∀(l:List Row)(k c m:Nat)(T:List Nat),(∀r∈l,qf r)->(∀r∈l,∀t∈af r,∀(T:List Nat) k m,∃m',dq (0::T,m) (dU f k t)=some (t.length::T,m')/\(m'<=12↔m<=12/\lx f t))->∃m',dq (c::T,m) (aV (dU f) k l)=some ((c+l.length)::T,m')/\(m'<=12↔m<=12/\(l≠[]->c+l.length<=12)/\∀r∈l,∀t∈af r,lx f t)
 | [],k,c,m,T,_,_=>⟨m,rfl,by simp⟩
 | r::l,k,c,m,T,hs,h=>by
  obtain⟨m1,e1,i1⟩:=F4 (hs r (.head _)) k c m T (h r (.head _));obtain⟨m',e2,i2⟩:=xj l (k+cnt r) (c+1) m1 T (λx hx=>hs x (.tail _ hx)) λx hx=>h x (.tail _ hx);refine⟨m',?_,?_⟩
  ·rw[aV,ft,e1];show dq ((c+1)::T,m1) _=_;rw[e2,Qj,show c+1+l.length=c+(l.length+1) by lia]
  ·rw[i2,i1,Si,Qj];constructor
   ·rintro⟨⟨a1,a2,a3⟩,a4,a5⟩;refine⟨a1,λ_=>?_,a3,a5⟩;cases l with
    | nil=>simpa using a2
    | cons x y=>have:=a4 (by simp);lia
   ·rintro⟨a1,a2,a3,a5⟩;have:=a2 (by simp);exact⟨⟨a1,by lia,a3⟩,λ_=>by lia,a5⟩
theorem HD:∀(f:Nat)(l:List Row)(k m:Nat)(T:List Nat),aS l<=f->wN f l->∃m',dq (0::T,m) (dU f k l)=some (l.length::T,m')/\(m'<=12↔m<=12/\lx f l)
 | 0,l,k,m,T,hn,_=>by
  have:1<=aS l:=by cases l <;> rw[aS] <;> lia
  lia
 | f+1,l,k,m,T,hn,hs=>by
  obtain⟨m',e,i⟩:=xj l k 0 m T (λr hr=>(hs r hr).1) λr hr t ht T k m=>HD f t k m T (by have:=bZ hr;have:=bY ht;lia) ((hs r hr).2 t ht);refine⟨m',by rw[Q1] at e;exact e,?_⟩;rw[i,Q1,lx];constructor
  ·rintro⟨a,b,c⟩;refine⟨a,?_,c⟩;cases l with
   | nil=>exact RV _
   | cons x y=>exact b (by simp)
  ·rintro⟨a,b,c⟩;exact⟨a,λ_=>b,c⟩
theorem Bi(d:cB)(m:Nat):dJ ([],m) (iL (ba d))=some ([0],m):=by
 obtain⟨rest,e⟩:=j7 (Str.ofString "deed") (d.1::d.2.1) (by simp);have e':(ba d).cps.toList=(Str.ofString "deed").cps.toList++32::rest:=e;rw[show(Str.ofString "deed").cps.toList=[100,101,101,100] by decide+kernel] at e';have n1:ba d≠Str.ofString "or":=by intro z;rw[z,show(Str.ofString "or").cps.toList=[111,114] by decide+kernel] at e';cases e'
 have n2:ba d≠Str.ofString "end":=by intro z;rw[z,show(Str.ofString "end").cps.toList=[101,110,100] by decide+kernel] at e';cases e'
 obtain⟨q,hq⟩:=je (x:=ba d) (w:=[100,101,101,100]) (by decide) (.inr e');have ho:fw (ba d)=true:=by unfold fw;rw[hq];show fO (HQ [100,101,101,100])=true;decide+kernel
 unfold dJ;rw[Qo (show ¬(iL (ba d)).2=Str.ofString "or" from n1),Qo (show ¬(iL (ba d)).2=Str.ofString "end" from n2)];show some (if fw (ba d)=true then[0] else[],m)=_;rw[ho];rfl
theorem Bh(c m:Nat)(T:List Nat):dJ (c::T,m) (iL (Str.ofString "end"))=some (T,m):=by
 unfold dJ;rw[Qo (show ¬(iL (Str.ofString "end")).2=Str.ofString "or" from by show ¬Str.ofString "end"=Str.ofString "or";decide+kernel),Qf (show(iL (Str.ofString "end")).2=Str.ofString "end" from rfl)]
theorem HE:∀(ds:List cB)(k m:Nat),(∀d∈ds,Mx d)->∃m',dq ([],m) (aN 8 k ds)=some ([],m')/\(m'<=12↔m<=12/\∀d∈ds,lx 8 d.2.2)
 | [],k,m,_=>⟨m,rfl,by simp⟩
 | d::ds,k,m,h=>by
  obtain⟨m1,e1,i1⟩:=HD 8 d.2.2 k m [] (h d (.head _)).1 (h d (.head _)).2;obtain⟨m',e2,i2⟩:=HE ds (k+ak d.2.2) m1 λx hx=>h x (.tail _ hx);refine⟨m',?_,by rw[i2,i1,Si,and_assoc]⟩;rw[aN,dq,Bi];show dq ([0],m) _=_;rw[ft,e1];show dq ([d.2.2.length],m1) _=_;rw[dq,Bh];exact e2
theorem zh{W:Wd}{ps:List Str}{n:Nat}{r:Row}(h:bg W ps n r):∀t∈af r,t.length<=12/\bG W ps (n+1) t:=by
 intro t ht;cases r <;> simp only[af,Ql,Uj,or_false] at ht
 case within=>rw[bg] at h;subst ht;exact⟨h.2.2.1,h.2.2.2⟩
 case all=>rw[bg] at h;subst ht;exact⟨h.2.2.1,h.2.2.2⟩
 case ask=>rw[bg] at h;rcases ht with rfl | rfl;exact⟨h.2.2.1,h.2.2.2.2.1⟩;exact⟨h.2.2.2.1,h.2.2.2.2.2⟩
 case lz=>
  rw[bg] at h;obtain⟨_,_,_,h1,h2,h3,h4,h5,h6⟩:=h;rcases ht with rfl | rfl | rfl
  ·exact⟨h1,h4⟩
  ·exact⟨h2,h5⟩
  ·exact⟨h3,h6⟩
 case either=>
  rw[bg] at h;obtain⟨_,h1,h2,h4,h5⟩:=h;rcases ht with rfl | rfl
  ·exact⟨h1,h4⟩
  ·exact⟨h2,h5⟩
 case again=>rw[bg] at h;subst ht;exact⟨h.2.1,h.2.2⟩
theorem HP{W:Wd}{ps:List Str}:∀(f n:Nat)(l:List Row),bG W ps n l->l.length<=12->lx f l
 | 0,_,_,_,_=>trivial
 | f+1,n,l,h,hl=>⟨hl,λr hr t ht=>by
  obtain⟨a,b⟩:=zh (nX h r hr) t ht;exact HP f (n+1) t b a⟩
theorem g6{α:Type}:∀{l:List α} {i:Nat} {a:α},l[i]?=some a->∃x y,l=x++a::y/\x.length=i
 | a::l,0,_,h=>by cases h;exact⟨[],l,rfl,rfl⟩
 | b::l,i+1,a,h=>by
  obtain⟨x,y,rfl,e⟩:=g6 (l:=l) (i:=i) h;exact⟨b::x,y,rfl,by rw[Qj,e]⟩
theorem rP{K:Nat}:∀{l:List Row},1<=K->(∀r∈l,1+b9 r<=K)->aS l<=K
 | [],h,_=>by rw[aS];exact h
 | r::l,h,hr=>by
  rw[aS];exact Sw.mpr ⟨hr r (.head _),rP h λx hx=>hr x (.tail _ hx)⟩
theorem Eg{K:Nat}{r:Row}(h:∀t∈af r,aS t<=K):b9 r<=K:=by
 cases r with
 | say _=>rw[b9];exact RV _
 | call _ _=>rw[b9];exact RV _
 | within l b=>rw[b9];exact h b (.head _)
 | all l b=>rw[b9];exact h b (.head _)
 | ask l b e=>rw[b9];exact Sw.mpr ⟨h b (.head _),h e (.tail _ (.head _))⟩
 | lz s t a b c=>rw[b9];exact Sw.mpr ⟨h a (.head _),Sw.mpr ⟨h b (.tail _ (.head _)),h c (.tail _ (.tail _ (.head _)))⟩⟩
 | either a b=>rw[b9];exact Sw.mpr ⟨h a (.head _),h b (.tail _ (.head _))⟩
 | again a=>rw[b9];exact h a (.head _)
theorem FU{r:Row}{j:Nat}{t:List Row}(h:qf r):qf (bQ r j t):=by
 unfold bQ
 split <;> first | exact h |(simp only[qf] at h ⊢;exact h)
theorem kg:∀(a b:List Row),ak (a++b)=ak a+ak b
 | [],b=>by simp[ak]
 | r::a,b=>by rw[QL,ak,ak,kg a b,Rz]
end Pg
namespace Mi
open PySem Sm L2 Pg
theorem DJ{x y b:List Row}{r:Row}:putAt x.length b [] (x++r::y)=x++b++y:=by
 show(x++r::y).take x.length++b++(x++r::y).drop (x.length+1)=_;rw[SJ,Sl,Rw (RN _),show x.length+1-x.length=1 by lia];rfl
theorem DH{x y b t:List Row}{r:Row}{u v:List (List Row)}{st:List (Nat×Nat)}{k:Nat}(e:af r=u++t::v):putAt k b ((x.length,u.length)::st) (x++r::y)=x++bQ r u.length (putAt k b st t)::y:=by
 have e4:(af r)[u.length]?=some t:=by rw[e,rR]
 have e3:(x++r::y)[x.length]?=some r:=l9;simp only[putAt,e3,e4];rw[SJ,Sl,Rw (RN _),show x.length+1-x.length=1 by lia];simp
theorem need_one(l:List Row):1<=aS l:=by cases l <;> rw[aS] <;> lia
theorem ud{k:Nat}{lot b:List Row}{r:Row}(hr:lot[k]?=some r)(hb:b∈af r):∀(st:List (Nat×Nat)) (l:List Row),ic l st=some lot->
  aS (putAt k b st l)<=aS l/\ak (putAt k b st l)<=ak l/\((∀f,wN f l)->∀f,wN f (putAt k b st l))/\((∀f,lx f l)->∀f,st.length < f->(lx f (putAt k b st l)↔lot.length-1+b.length<=12))
 | [],l,e=>by
  cases e;obtain⟨x,y,rfl,rfl⟩:=g6 hr;have hm:r∈x++r::y:=Qq _ (.head _);have hbn:=bY hb;have hn:=bZ hm;rw[DJ];have hmem:∀w∈x++b++y,w∈x++r::y\/w∈b:=λw hw=>by
   rcases Qy.mp hw with hw | hw
   ·rcases Qy.mp hw with hw | hw
    ·exact .inl (QH _ hw)
    ·exact .inr hw
   ·exact .inl (Qq _ (.tail _ hw))
  refine⟨rP (need_one _) λw hw=>?_,?_,λh f=>?_,λh f hf=>?_⟩
  ·rcases hmem w hw with hw | hw
   ·exact bZ hw
   ·have:=bZ hw;lia
  ·have h1:=cW r;have h2:ak b<=((af r).map ak).sum:=iQ (So hb);rw[kg,kg,kg,ak]
   lia
  ·cases f with
   | zero=>trivial
   | succ f=>
    intro w hw;rcases hmem w hw with hw | hw
    ·exact h (f+1) w hw
    ·exact((h (f+2) r hm).2 b hb) w hw
  ·cases f with
   | zero=>exact absurd hf (Tx _)
   | succ f=>
    rw[lx];have hlen:(x++b++y).length=(x++r::y).length-1+b.length:=by simp only[Qk,Qj];lia
    rw[hlen];refine⟨λq=>q.1,λq=>⟨q,λw hw t ht=>?_⟩⟩;rcases hmem w hw with hw | hw
    ·exact(h (f+1)).2 w hw t ht
    ·exact(((h (f+2)).2 r hm b hb).2) w hw t ht
 |(i,j)::st,l,e=>by
  obtain⟨t,e1,e2⟩:=bB e;obtain⟨r0,e3,e4⟩:=bB e1;obtain⟨x,y,rfl,rfl⟩:=g6 e3;obtain⟨u,v,eL,rfl⟩:=g6 e4;obtain⟨i1,i2,i3,i4⟩:=ud hr hb st t e2;have hm:r0∈x++r0::y:=Qq _ (.head _);have htm:t∈af r0:=by rw[eL];exact Qq _ (.head _)
  obtain⟨q1,q2⟩:=xb eL (putAt k b st t);have hn:=bZ hm;rw[DH eL];generalize hr':bQ r0 u.length (putAt k b st t)=r' at*;have hmem:∀w∈x++r'::y,w∈x++r0::y\/w=r':=λw hw=>by
   rcases Qy.mp hw with hw | hw
   ·exact .inl (QH _ hw)
   ·rcases Ql.mp hw with rfl | hw
    ·exact .inr rfl
    ·exact .inl (Qq _ (.tail _ hw))
  have hlot:∀w∈af r',w∈af r0\/w=putAt k b st t:=λw hw=>by
   rw[q1] at hw;rw[eL];rcases Qy.mp hw with hw | hw
   ·exact .inl (QH _ hw)
   ·rcases Ql.mp hw with rfl | hw
    ·exact .inr rfl
    ·exact .inl (Qq _ (.tail _ hw))
  refine⟨rP (need_one _) λw hw=>?_,?_,λh f=>?_,λh f hf=>?_⟩
  ·rcases hmem w hw with hw | rfl
   ·exact bZ hw
   ·have:b9 w<=b9 r0:=Eg λz hz=>by
     rcases hlot z hz with hz | rfl
     ·exact bY hz
     ·exact Qr i1 (bY htm)
    lia
  ·have h1:=cW r0;have h2:=cW r';rw[eL,Qs,RH,Qp,Q3] at h1;rw[q1,Qs,RH,Qp,Q3] at h2;rw[kg,kg,ak,ak]
   lia
  ·cases f with
   | zero=>trivial
   | succ f=>
    intro w hw;rcases hmem w hw with hw | rfl
    ·exact h (f+1) w hw
    ·refine⟨by rw[<-hr'];exact FU (h 1 r0 hm).1,λz hz=>?_⟩;rcases hlot z hz with hz | rfl
     ·exact(h (f+1) r0 hm).2 z hz
     ·exact i3 (λf=>(h (f+1) r0 hm).2 t htm) f
  ·cases f with
   | zero=>exact absurd hf (Tx _)
   | succ f=>
    have i:=i4 (λf=>(h (f+1)).2 r0 hm t htm) f (UP hf);rw[<-i,lx];have hlen:(x++r'::y).length=(x++r0::y).length:=by simp only[Qk,Qj]
    refine⟨λq=>q.2 r' (Qq _ (.head _)) _ (by rw[q1];exact Qq _ (.head _)),λq=>⟨by rw[hlen];exact(h 1).1,λw hw z hz=>?_⟩⟩;rcases hmem w hw with hw | rfl
    ·exact(h (f+1)).2 w hw z hz
    ·rcases hlot z hz with hz | rfl
     ·exact(h (f+1)).2 r0 hm z hz
     ·exact q
theorem DI{P:Prog}(hP:Lk P)(hS:∀d∈P.ai,∀f,wN f d.2.2)(hL:∀d∈P.ai,∀f,lx f d.2.2){j k:Nat}{st:List (Nat×Nat)}{d:cB}{lot b:List Row}{r:Row}(hd:P.ai[j]?=some d)(hl:ic d.2.2 st=some lot)(hr:lot[k]?=some r)(hb:b∈af r)(hst:st.length < 6):
  Lk (fE P j k b st d)/\((∀e∈(fE P j k b st d).ai,lx 8 e.2.2)↔lot.length-1+b.length<=12):=by
 obtain⟨x,y,eD,ex⟩:=g6 hd;obtain⟨i1,i2,i3,i4⟩:=ud hr hb st d.2.2 hl;have hm:d∈P.ai:=Qd hd;have e1:(fE P j k b st d).ai=x++(d.1,d.2.1,putAt k b st d.2.2)::y:=by
  show P.ai.take j++[(d.1,d.2.1,putAt k b st d.2.2)]++P.ai.drop (j+1)=_;rw[eD,<-ex,SJ,Sl,Rw (RN _),show x.length+1-x.length=1 by lia];simp
 have hmem:∀e∈(fE P j k b st d).ai,e∈P.ai\/e=(d.1,d.2.1,putAt k b st d.2.2):=λe he=>by
  rw[e1] at he;rw[eD];rcases Qy.mp he with he | he
  ·exact .inl (QH _ he)
  ·rcases Ql.mp he with rfl | he
   ·exact .inr rfl
   ·exact .inl (Qq _ (.tail _ he))
 have hc:bM (fE P j k b st d).ai<=bM P.ai:=by
  rw[e1,eD,yk,yk,eW,eW];dsimp only
  lia
 have hlen:(fE P j k b st d).ai.length=P.ai.length:=by rw[e1,eD];simp only[Qk,Qj]
 have hct:bM P.ai<=900:=hP.ct;refine⟨⟨⟨λe he=>?_,by show bM _<=1000;lia,by rw[hlen];exact hP.fit.dl⟩,by rw[hlen];exact hP.dl,hP.nl,hP.nm,λe he=>?_,by show bM _<=900;lia⟩,?_⟩
 ·rcases hmem e he with he | rfl
  ·exact hP.fit.nd e he
  ·exact Qr i1 (hP.fit.nd d hm)
 ·rcases hmem e he with he | rfl
  ·exact hP.dd e he
  ·obtain⟨a1,a2,a3,_⟩:=hP.dd d hm;exact⟨a1,a2,a3,i3 (hS d hm) 8⟩
 ·rw[<-i4 (hL d hm) 8 (by lia)];refine⟨λq=>q (d.1,d.2.1,putAt k b st d.2.2) (by rw[e1];exact Qq _ (.head _)),λq e he=>?_⟩;rcases hmem e he with he | rfl
  ·exact hL e he 8
  ·exact q
theorem yY{P:Prog}{z:Int}{δ:DS}{i j:Nat}{h:MH}(e1:gq [some i,some j] δ=[some (.int z),some (bq P)])(e:cX [bq P,.int z] h=some (("NoRow":Str),h))(m:EM):gn uL [some i,some j] wL (Ht cX (ag (ax 1) (ag (ax 0) aM))) m δ h=some (.str "NoRow",h):=
 B6 (by rw[e1];exact bS (L8 (rv (a:=([bq P,.int z],h)) rfl (rv e rfl))))
theorem GH(ws:List Str)(h:MH):mU (.lv (ws.map D.str)) (.lv (ws.map D.str)) h=some (.bl false,h):=by
 obtain⟨p,e1,e2,e3⟩:=Dp.lv (n:=63) (Cn.map (f:=D.str) (xs:=ws) λw _=>Dp.str w);show(HU (.lv (ws.map D.str)) (.lv (ws.map D.str)) h).map _=_;unfold HU;show(((vH (.lv (ws.map D.str))).bind λa=>(vH (.lv (ws.map D.str))).bind _).map _)=_;rw[e1];show((if p.depth<=64/\p.depth<=64 then some (PyData.eqv p p) else none).map _)=_;rw[Qf ⟨e2,e2⟩,e3];rfl
theorem Dt{P:Prog}(hP:Lk P)(hS:∀d∈P.ai,∀f,wN f d.2.2)(hL:∀d∈P.ai,∀f,lx f d.2.2){n:Nat}(hn:n < bM P.ai){r0:Row}{p0:Nat×List Nat}(h0:(placesFrom 0 P.ai)[n]?=some (p0.1,p0.2,r0))(hk:Ke r0=true)(h:MH):
  i0 [bq P,.lv ((pR P).map k9),.int (n:Int)] h=some (.bl true,h):=by
 obtain⟨j,st,kk,lot,r,f',d,pre,post,d1,d2,d3,d4,d5,d6,d7,d8,d9,d10,d11,d12⟩:=HY hP hn;have er:r0=r:=by
  exact congrArg (·.2.2) (Option.some.inj (h0.symm.trans d4))
 subst er;obtain⟨b,gone,hb,hg⟩:=Er hk;have hbm:b∈af r0:=by rw[hb];exact .head _
 have hkl:kk < lot.length:=(Qc.mp d7).1;obtain⟨hP',hlx⟩:=DI hP hS hL d5 d6 d7 hbm d8;have hPl:(pR P).length<=6000:=by
  have:=cU 8 0 P.ai;have h1:bM P.ai<=900:=hP.ct;have:=hP.dl;rw[pR,Qj]
  lia
 have hout:outF n true (pR P)=pre++(dU f' (n+1) b++post):=by rw[d1,jx _ _ d2,GC d10 d11 hb hg d3]
 have htx:(outF n true (pR P)).map (·.2)=NK (fE P j kk b st d):=by
  rw[hout,d12 b,Hy f' b (d11 b hbm).2,Qs,Qs,lL]
 have htx':(outF n true (pR P)).map (λx=>D.str x.2)=((pR (fE P j kk b st d)).map λx=>D.str x.2):=by
  have:=congrArg (List.map D.str) (htx.trans (y9 _).symm)
  simpa [Ra,Function.comp_def] using this
 have hol:(outF n true (pR P)).length<=9000:=by
  have h1:=congrArg List.length htx;rw[<-y9,Qb,Qb] at h1;have:=cU 8 0 (fE P j kk b st d).ai;have h2:bM (fE P j kk b st d).ai<=900:=hP'.ct;have:=hP'.dl;rw[h1,pR,Qj]
  lia
 have hD':∀e∈(fE P j kk b st d).ai,Mx e:=λe he=>⟨Qr (hP'.fit.nd e he) (by decide),(hP'.dd e he).2.2.2⟩;obtain⟨me,em,im⟩:=HE (fE P j kk b st d).ai 0 0 hD';obtain⟨dp,rows,emm⟩:=vW (iL (Str.join (Str.ofString " ") (Str.ofString "locks"::(fE P j kk b st d).names))) (aN 8 0 (fE P j kk b st d).ai) (by
  have:=cU 8 0 (fE P j kk b st d).ai;have h2:bM (fE P j kk b st d).ai<=900:=hP'.ct;have:=hP'.dl
  lia) (sG _ 0 hP'.dd) [] me em h
 rw[hlx] at im;refine bS (bD ?_);nofun;refine rv (JD (pR P) (by lia) n h) ?_;nofun;refine rv (qE _ (by lia) h) ?_;rw[htx'];nofun;refine rv emm ?_;nofun;refine⟨_,rfl,λz=>?_,λz=>?_⟩
 ·have hgt:=Q8 z;have hm:12 < (lot.length:Int)-1+(b.length:Int):=by
   have:¬me<=12:=by lia
   have:¬lot.length-1+b.length<=12:=λq=>this (im.mpr ⟨by decide,q⟩)
   lia
  nofun;refine rv (yY (P:=P) (z:=(n:Int)) rfl (qA hP.fit d4 hk d10 hb d5 d6 d8 hm h) _) ?_;nofun
  ac_nf
 ·have hle:=T8 z;have hm:¬12 < (lot.length:Int)-1+(b.length:Int):=by
   have:=(im.mp (by lia)).2
   lia
  have hw:cY [bq P,.int (n:Int)] h=some (bq (fE P j kk b st d),h):=yF hP.fit d4 hk d10 hb d5 d6 d8 hkl (Qr (qb (Qd d5)) (Qr hP.ct (by decide))) (by
   have h1:=mZ b;have h2:=cW r0;have h3:=iQ (So (f:=ak) hbm);have h4:=E2 (Qd d7);have h5:=qb (Qd d5);have h6:=hP.ct
   lia) hm h
  nofun;refine gU ?_;nofun;refine⟨2,rfl,by decide,by decide,?_⟩;refine cD (λi δ h'=>∃(v4:Option D),δ=[some (bq P),some (.lv ((pR P).map k9)),some (.int (n:Int)),some (.lv ((pR (fE P j kk b st d)).map λx=>D.str x.2)),v4]/\h'=h)
   ⟨_,rfl,rfl⟩ (λ_ _ _ _ _=>rfl) ?_ ?_
  ·rintro i x δ h' hx ⟨v4,rfl,rfl⟩;nofun;refine rv hw ?_;nofun;refine rv (xU hP' h') ?_;nofun;refine rv (qE _ (by
    have:=cU 8 0 (fE P j kk b st d).ai;have h2:bM (fE P j kk b st d).ai<=900:=hP'.ct;have:=hP'.dl;rw[pR,Qj]
    lia) h') ?_
   nofun;refine rv (by have:=GH ((pR (fE P j kk b st d)).map (·.2)) h';rw[Ra] at this;exact this) ?_;nofun;refine⟨false,rfl,λy=>(nomatch y),λ_=>?_⟩;nofun;exact⟨_,rfl,rfl⟩
  ·rintro δ h' ⟨v4,rfl,rfl⟩;nofun
theorem M7{h:MH}{s c R:Nat}{cs:List Int}{Q:D×MH->Prop}(S:St s c cs (R+6200) h)(C:Cl h)(k:∀(W:Wd)(fl:List Int)(odd:Int)(m:Nat)(P:Prog)(h1:MH),m<=60->pX W fl odd->Ll W m P->Sb s c cs h R h1->Cl h1->Q (bq P,h1)):Rn (lF [.ob s] h) Q:=by
 refine bD ?_;nofun;refine kI (R:=R+6198+1) (is:=[4,8,12,20,40,60]) (λi=>0<=i/\i<=60) (by decide) S.sb λmost h1 hm _ A1=>?_;nofun;refine kI (R:=R+6198) (is:=[0,2,5,9]) (λi=>0<=i/\i<=9) (by decide) A1 λodd h2 ho _ A2=>?_;nofun;obtain⟨m,rfl⟩:=Rr hm.1;refine B7 (R:=R) (A2.le (by lia)) (C.but A2.S A2.b) ho.1 (by lia) λW fl P h3 ok okp A3 C3=>?_;nofun;exact k W fl odd m P h3 (by lia) ok okp A3 C3
theorem MJ(r:Row)(h:MH):MV (.str (bJ r)) (.tup [.str "within",.str "all",.str "ask"]) h=some (.bl (Ke r),h):=by
 cases r <;> ac_nf
theorem Qa(cs:List Int):Cl [.lst (cs.map D.int),.lst [.int 0,.ob 0,.int 0]]:=by
 intro o ho;rcases Ql.mp ho with rfl | ho
 ·exact eX _ D.int (λ_=>rfl) _
 ·rw[Qw.mp ho];rfl
theorem Bt{W:Wd}{fl:List Int}{odd:Int}(ok:pX W fl odd){m:Nat}{P:Prog}(o:Ll W m P):(∀d∈P.ai,∀f,wN f d.2.2)/\∀d∈P.ai,∀f,lx f d.2.2:=by
 refine⟨λd hd f=>?_,λd hd f=>?_⟩
 ·obtain⟨j,hj⟩:=RD.mp hd;obtain⟨e1,e2,e3,_⟩:=o.dd j d hj;exact zo ok (λw hw=>gF (ok.sp d.2.1 (Qd e2) w hw)) f 1 d.2.2 e3
 ·obtain⟨j,hj⟩:=RD.mp hd;obtain⟨e1,e2,e3,e4⟩:=o.dd j d hj;exact HP f 1 d.2.2 e3 e4
theorem law_true(ns:List Int)(hn:ns.length<=63):∃h',yz [.ro (ns.map D.int)] []=some (.bl true,h'):=by
 have e:Rn (yz [.ro (ns.map D.int)] []) λp=>p.1=.bl true:=by
  obtain⟨cs,ed,S0⟩:=zB ns hn 20000 (by decide);refine bD ?_;nofun;refine rv ed ?_;nofun;refine gU ?_;nofun;refine⟨2,rfl,by decide,by decide,?_⟩;refine cD (λi δ h=>∃(v2 v3 v4 v5:Option D),δ=[some (.ro (ns.map D.int)),some (.ob 1),v2,v3,v4,v5]/\St 1 0 cs (20000-6200*i) h/\Cl h)
   ⟨_,_,_,_,rfl,S0,Qa cs⟩ (λ_ _ _ _ _=>rfl) ?_ ?_
  ·rintro i x δ h hx ⟨v2,v3,v4,v5,rfl,S,C⟩;have hi:i < 2:=by
    have:=(Qc.mp hx).1
    simpa using this
   nofun;refine M7 (R:=20000-6200*(i+1)) (S.le (by lia)) C λW fl odd m P h1 hm ok okp A1 C1=>?_;have hP:=Gm ok okp hm;obtain⟨hS,hL⟩:=Bt ok okp;have hD:∀d∈P.ai,Mx d:=λd hd=>⟨Qr (hP.fit.nd d hd) (by decide),(hP.dd d hd).2.2.2⟩;have hct:bM P.ai<=900:=hP.ct;have hlen:=cU 8 0 P.ai;have hdl:=hP.dl;have hsh:=sG P.ai 0 hP.dd;have hsg:=FW P.ai 0 hD;have hPl:(pR P).length<=6000:=by rw[pR,Qj];lia
   nofun;refine rv (xU hP h1) ?_;nofun;refine gU ?_;nofun;refine rv (qE (pR P) (by lia) h1) ?_;nofun;obtain⟨m1,dp1,em⟩:=zk (iL (Str.join (Str.ofString " ") (Str.ofString "locks"::P.names))) (aN 8 0 P.ai) (by lia) hsh 0 (bM P.ai) (by rw[hsg.rn 0,Q1]) h1;refine rv em ?_;nofun;refine⟨_,rfl,by lia,by lia,?_⟩;refine cD (λj δ h=>∃(v5:Option D),δ=[some (.ro (ns.map D.int)),some (.ob 1),some x,some (bq P),some (.lv ((pR P).map k9)),v5]/\h=h1)
    ⟨_,rfl,rfl⟩ (λ_ _ _ _ _=>rfl) ?_ ?_
   ·rintro n y δ h' hy ⟨v5,rfl,rfl⟩;rw[Qx] at hy;obtain⟨q,eq,rfl⟩:=QD.mp hy;have hnlt:n < bM P.ai:=by have:=(Qc.mp eq).1;simpa using this
    obtain rfl:q=n:=by
     have:=(Qc.mp eq).2
     simpa using this.symm
    obtain⟨j,st,kk,lot,r,f',d,pre,post,d1,d2,d3,d4,d5,d6,d7,d8,d9,d10,d11,d12⟩:=HY hP hnlt;nofun;refine rv (FQ d10 (post:=_) (d1.trans rfl) d2 (by lia) h') ?_;nofun;refine rv (MJ r h') ?_;nofun;refine⟨_,rfl,λz=>?_,λz=>?_⟩
    ·nofun;refine rv (Dt hP hS hL hnlt (p0:=(j,flat st++[kk])) d4 z h') ?_;nofun;refine⟨true,rfl,λy=>(nomatch y),λ_=>?_⟩;nofun;exact⟨_,rfl,rfl⟩
    ·nofun;refine⟨λy=>(nomatch y),λ_=>?_⟩;nofun;exact⟨_,rfl,rfl⟩
   ·rintro δ h' ⟨v5,rfl,rfl⟩;nofun;exact⟨_,_,_,_,rfl,A1.S,C1⟩
  ·rintro δ h ⟨v2,v3,v4,v5,rfl,S,C⟩;nofun
 obtain⟨⟨d,h'⟩,e1,rfl⟩:=e;exact⟨h',e1⟩
end Mi
open PySem PySem.W PyProof.Rows
theorem Mi.OS:defOf Mi.view "law"=some (Hd.mr "law" Mi.lS,[]):=by ac_nf
theorem Mi.hp:PySem.Program.theDef Mi.pw "law"=some (L2.mX Mi.lS,L2.df Mi.lS,L2.aj Mi.lS):=by ac_nf
theorem PySem.Challenge.cw_neverstuck_k70_locks_taken_out_holds : PySem.Challenge.rw_neverstuck_k70_locks_taken_out.Holds := by
 refine holds_law Mi.IV λIV=>?_;refine PySem.W.holds_open (q:=Mi.view) (loose:=["SHAPES"]) (Xt:=Mi.Xt) (XP:=XL Mi.view []) (Yf:=Mi.Yf) (Ya:=Mi.ya) (YP:=λw h=>Hd.tabAt h "SHAPES"=(Mi.ya w).1/\Hd.pV h (Mi.gA.map (·.1)) Mi.pQ=(Mi.ya w).2) (N:=20000) (d:=Hd.mr "law" Mi.lS) (kwd:=[]) Mi.left (λ_ _ e=>⟨congrArg Prod.fst e,congrArg Prod.snd e⟩) (λ_ _ _ y k=>⟨Hd.yM k y.1,Hd.uI k y.2⟩) (λs e=>xl_of s (QE.mp e).1) XL.keeps Mi.OS Mi.hp (by ac_nf) (λs e=>recFacts_of (QE.mp e).2) (by ac_nf) IV (by decide+kernel) ⟨rfl,rfl,rfl,rfl,rfl,by decide+kernel⟩ (by w_witness2) ?_;exact Hd.Ks (k:=29) (by ac_nf) (by ac_nf) ⟨rfl,by decide,by decide⟩ λw s₀ mg mb h G Y=>Mi.all_mk G.T Y.1 Y.2 Mi.law_true
