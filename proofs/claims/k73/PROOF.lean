import PyProof.Rows.All
import Wide.All
import OpenK.AllK
import Wide.FinOn
import Lean
import PyProof.EqAt
import PyProof.EqKinds
import PyProof.TupleCall
import PyProof.AttrMissHeap
import KE.KDictOf
import PyProof.ConsumeWalk
import PyProof.ZipIter
import PyProof.EnumMake
import KE.KEqDict
import KE.KDictList
import KE.KDictSum
import KE.KIsAll
import KE.KItemsList
import KE.KLam
import KE.KMinKey
import KE.KSortTup
import PyProof.CallStr
import PyProof.CollectIter
import PyProof.DictFindH
import PyProof.DictRoadsH
import PyProof.ExcArgsOwn
import PyProof.ExcAttrAll.ValueError
import PyProof.ExcBaseAll.ValueError
import PyProof.ExcClass3
import PyProof.FString
import PyProof.FString5
import PyProof.FactsAll.tuple_2
import PyProof.FactsAll.zip_1
import PyProof.ListMulRoad
import PyProof.ListRange
import PyProof.MeetsStr
import PyProof.NeKinds
import PyProof.P3Eq
import PyProof.RaisesMany
import PyProof.Rows.CatchOwn
import PyProof.Rows.OwnQ
import PyProof.Rows.Range3
import PyProof.Rows.ReprOcc
import PyProof.Rows.RuleDivmod
import PyProof.Rows.SortShell
import PyProof.Rows.StrWeight2
import PyProof.Rows.Top
import PyProof.Rows.TopTwo
import PyProof.RulesAs
import PyProof.RulesDel
import PyProof.RulesTry
import PyProof.StationsW
import PyProof.StrCalls
import PyProof.StrCalls2
import PyProof.StrCalls5
import PyProof.StrWalks
import PyProof.WalkInts
import PyProof.WalksMore
import PySem.Challenge.RW_neverstuck_k73_locks_not_put_in
set_option Elab.async false
set_option linter.all false
set_option maxRecDepth 100000
set_option maxHeartbeats 4000000
set_option compiler.small 0
set_option compiler.extract_closed false
set_option compiler.reuse false
noncomputable section
local macro_rules | `(tactic| ac_nf) => `(tactic| kernel_rfl)
local macro_rules | `(tactic| nofun) => `(tactic| walk_at "r")
abbrev PC:=@List.length_map
abbrev PD:=@PySem.wpAny_bind
abbrev PF:=@List.mem_of_getElem?
abbrev PH:=@List.getElem?_eq_some_iff
abbrev PJ:=@Nat.le_refl
abbrev PL:=@if_pos
abbrev PN:=@PySem.Heap.get?_push_of_some
abbrev PQ:=@List.mem_cons_self
abbrev PR:=@List.length_append
abbrev PU:=@List.getElem?_append_left
abbrev PV:=@List.mem_cons_of_mem
abbrev PX:=@PySem.wpAny_pure
abbrev PY:=@Nat.le_trans
abbrev PZ:=@List.mem_cons
abbrev P0:=@if_neg
abbrev P1:=@List.length_cons
abbrev P2:=@PySem.Heap.lt_size
abbrev P4:=@List.mem_singleton
abbrev P5:=@List.size_toArray
abbrev P6:=@List.map_cons
abbrev P7:=@List.getElem?_eq_getElem
abbrev P8:=@List.getElem?_map
abbrev P9:=@List.getElem?_append_right
abbrev Qa:=@List.mem_append_right
abbrev Qb:=@List.length_take
abbrev Qc:=@Bool.and_eq_true_iff
abbrev Qd:=@Nat.lt_of_lt_of_le
abbrev Qe:=@Nat.ne_of_lt
abbrev Qf:=@List.map_append
abbrev Qg:=@Option.map_eq_some_iff
abbrev Qh:=@Nat.le_add_right
abbrev Qi:=@List.mem_append
abbrev Qj:=@decide_eq_true
abbrev Qk:=@PySem.Heap.get?_push_size
abbrev Ql:=@Option.bind_some
abbrev Qm:=@Bool.and_eq_true
abbrev Qo:=@PySem.wpAny_mono
abbrev Qp:=@List.getElem?_take_of_lt
abbrev Qq:=@of_decide_eq_true
abbrev Qr:=@List.getElem?_set_self
abbrev Qs:=@PySem.mem_of_lookup
abbrev Qt:=@PySem.Str.length_append
abbrev Qu:=@List.lookup_cons
abbrev Qv:=@decide_eq_false
abbrev Qw:=@Option.map_some
abbrev Qx:=@PySem.PassesOwn.never
abbrev Qy:=@List.length_range
abbrev Qz:=@List.mem_map
abbrev QA:=@List.getElem?_set_ne
abbrev QB:=@decide_eq_true_eq
abbrev QC:=@List.getElem?_eq_none
abbrev QD:=@List.append_nil
abbrev QE:=@List.append_assoc
abbrev QF:=@PyProof.Rows.slot_tuple_getitem
abbrev QG:=@PySem.W.kia_one
abbrev QH:=@PySem.wpAny_newObj_type
abbrev QI:=@List.replicate_succ
abbrev QJ:=@List.length_nil
abbrev QK:=@PySem.F.plainAttrs_list
abbrev QL:=@List.mem_append_left
abbrev QM:=@Int.eq_ofNat_of_zero_le
abbrev QN:=@List.filterMap_cons
abbrev QO:=@Int.emod_nonneg
abbrev QP:=@PySem.wpAny_standAt
abbrev QQ:=@PySem.wpAny_truthy_bool
abbrev QR:=@PySem.Heap.get?_update_other
abbrev QS:=@Nat.lt_of_le_of_lt
abbrev QT:=@List.take_length
abbrev QU:=@PySem.wpAny_field
abbrev QV:=@Nat.zero_add
abbrev QW:=@List.map_nil
abbrev QX:=@Int.le_trans
abbrev QY:=@PySem.W.hideAll_none
abbrev QZ:=@PySem.wpAny_Call_Name_kw
abbrev Q0:=@PySem.wpAny_holding
abbrev Q1:=@PyProof.Rows.callWith_type1
abbrev Q2:=@Ne.symm
abbrev Q3:=@PySem.wpAny_callSpecial?_slot
abbrev Q4:=@Nat.lt_irrefl
abbrev Q5:=@beq_self_eq_true
abbrev Q6:=@Nat.le_of_not_lt
abbrev Q7:=@List.length_drop
abbrev Q8:=@beq_iff_eq
abbrev Q9:=@List.mem_filterMap
abbrev Ra:=@Int.emod_lt_of_pos
abbrev Rb:=@Bool.false_ne_true
abbrev Rf:=@List.take_append_drop
abbrev Rg:=@List.mem_iff_getElem?
abbrev Rh:=@List.length_replicate
abbrev Ri:=@PySem.wpAny_execs_cons
abbrev Rj:=@PySem.wpAny_call_entry
abbrev Rk:=@List.length_set
abbrev Rl:=@Bool.or_eq_true
abbrev Rm:=@Bool.eq_iff_iff
abbrev Ro:=@List.map_map
abbrev Rp:=@List.flatten_cons
abbrev Rq:=@Option.isSome_iff_exists
abbrev Rr:=@List.sum_cons
abbrev Rt:=@PySem.sizeLine_eq
abbrev Ru:=@PySem.F.plain_max_loop
abbrev Rv:=@Nat.max_eq_right
abbrev Rw:=@List.mem_range
abbrev Rx:=@Nat.zero_le
abbrev Ry:=@Nat.le_of_lt
abbrev Rz:=@List.take_of_length_le
abbrev RA:=@List.length_eq_one_iff
abbrev RB:=@Int.lt_of_le_of_lt
abbrev RC:=@Nat.min_eq_left
abbrev RD:=@Nat.max_eq_left
abbrev RE:=@List.nil_append
abbrev RG:=@List.find?_cons
abbrev RH:=@List.any_cons
abbrev RI:=@PySem.F.slot_dict_get
abbrev RJ:=@Int.toNat_natCast
abbrev RK:=@PySem.tupleKind_room_in1
abbrev RL:=@PySem.F.slot_enumerate_next
abbrev RM:=@List.not_mem_nil
abbrev RN:=@List.mem_map_of_mem
abbrev RO:=@Int.toNat_of_nonneg
abbrev RP:=@Array.length_toList
abbrev RQ:=@PySem.F.slot_tuple_iterator_next
abbrev RS:=@Option.bind_eq_some_iff
abbrev RT:=@PySem.SeqAt.eqAt_reads
abbrev RU:=@PySem.F.slot_list_append
abbrev RV:=@PySem.F.entry_dict_get
abbrev RW:=@Nat.le_of_lt_succ
abbrev RX:=@PySem.wpAny_execs_nil
abbrev RY:=@PySem.wpAny_rule
abbrev RZ:=@PySem.wpAny_getItem_str_slice
abbrev R3:=@List.set_append_right
abbrev R6:=@List.length_singleton
abbrev R8:=@List.cons_append
abbrev R9:=@List.all_eq_true
abbrev Sa:=@PySem.codeAny_mono
abbrev Sd:=@List.take_append_of_le_length
abbrev Se:=@PySem.W.hideAll_get
abbrev Sf:=@PySem.Heap.get?_update_self
abbrev Sg:=@if_true
abbrev Si:=@PySem.W.of_hideAll
abbrev Sj:=@PySem.F.excBase_ValueError
abbrev Sk:=@List.filterMap_map
abbrev Sl:=@Array.getElem?_eq_some_iff
abbrev Sn:=@PySem.wpAny_passesOwn
abbrev So:=@PySem.F.type_list_append
abbrev Sq:=@PySem.F.args_tuple_add_2
abbrev Sr:=@List.length_filterMap_le
abbrev Ss:=@decide_eq_decide
abbrev Su:=@PySem.wpAny_tryCatch
abbrev Sv:=@PySem.wpAny_seqItems
abbrev Sw:=@PySem.wpAny_pyIter_tuple
abbrev Sx:=@PySem.call_meets
abbrev Sy:=@PySem.Heap.size_push
abbrev Sz:=@PySem.F.entry_tuple_add
abbrev SD:=@Nat.succ_le_succ
abbrev SF:=@List.getElem?_replicate
abbrev SH:=@List.getElem?_cons_succ
abbrev SJ:=@PySem.F.slot_tuple_add
abbrev SK:=@Nat.ne_of_gt
abbrev SN:=@Int.ofNat_lt
abbrev SO:=@Nat.min_le_left
abbrev SR:=@List.sum_append
abbrev SU:=@List.nodup_cons
abbrev SV:=@PySem.wpAny_comprehension_free
abbrev SX:=@PySem.F.slot_list_extend
abbrev SY:=@or_false
abbrev S8:=@Nat.le_succ
abbrev S9:=@List.mem_of_mem_take
abbrev Ta:=@List.getElem?_of_mem
abbrev Tb:=@List.forall_mem_cons
abbrev Tc:=@Array.mem_toList_iff
abbrev Td:=@beq_eq_false_iff_ne
abbrev Te:=@PySem.wpAny_Name
abbrev Tf:=@PySem.post_val_or_str
abbrev Tg:=@PySem.codeAny_builtin
abbrev Th:=@PySem.F.slot_int_rmul
abbrev Ti:=@List.map_take
abbrev Tj:=@of_decide_eq_false
abbrev Tn:=@if_false
abbrev To:=@PySem.wpAny_newFunctionEnv
abbrev Tp:=@PySem.wpAny_letGo
abbrev Tq:=@PySem.Around.under_plainId
abbrev Tr:=@Option.isSome_map
abbrev Ts:=@Nat.lt_trans
abbrev Tt:=@Nat.le_succ_of_le
abbrev Tu:=@Nat.add_left_comm
abbrev Tv:=@Nat.add_comm
abbrev Tw:=@List.take_sublist
abbrev Tx:=@List.take_add_one
abbrev Tz:=@List.nodup_append
abbrev TB:=@List.ext_getElem?
abbrev TC:=@PySem.wpAny_attempt
abbrev TF:=@PySem.plainId_quiet
abbrev TH:=@PySem.typeIs_int
abbrev TJ:=@PySem.Calls.spliced_cons
abbrev TL:=@List.of_mem_zip
abbrev TN:=@PySem.wpAny_typeOf
abbrev TQ:=@PySem.wpAny_loadPart_at
abbrev TR:=@PySem.call_meetsIn
abbrev TU:=@PySem.Calls.spliced_nil
abbrev TV:=@Nat.mul_le_mul
abbrev TX:=@List.take_succ
abbrev TY:=@List.drop_zero
abbrev TZ:=@PySem.F.slot_dict_getitem
abbrev T8:=@List.mem_or_eq_of_mem_set
abbrev T9:=@List.mem_of_find?_eq_some
abbrev Ua:=@PySem.noFill_tuple_add
abbrev Ub:=@PySem.F.type_list_extend
abbrev Uc:=@PySem.F.slot_tuple_mul
abbrev Ud:=@PySem.F.entry_max_loop
abbrev Ue:=@List.map_drop
abbrev Ug:=@List.Perm.eq_of_pairwise
abbrev Uh:=@decide_eq_false_iff_not
abbrev Ui:=@PySem.F.slot_list_index
abbrev Uj:=@PySem.F.slot_list_count
abbrev Uk:=@PySem.F.args_dict_get_3
abbrev Ul:=@PySem.F.args_dict_get_2
abbrev Um:=@Option.join_eq_some_iff
abbrev Uo:=@List.pairwise_mergeSort
abbrev Up:=@List.length_eq_zero_iff
abbrev Uq:=@PySem.wpAny_updateSeq
abbrev Ur:=@PySem.W.cellsFrom_some
abbrev Us:=@PySem.F.plainAttrs_str
abbrev Ut:=@PySem.F.args_tuple_iterator_next_1
abbrev Uu:=@Nat.sub_self
abbrev Uv:=@Nat.le_of_eq
abbrev Uw:=@List.sum_nil
abbrev Ux:=@Int.ediv_one
abbrev Uy:=@PySem.F.type_str_join
abbrev Uz:=@PySem.F.slot_str_join
abbrev UA:=@PySem.F.entry_tuple_iterator_next
abbrev UB:=@PyProof.Rows.assignInOrder_cons
abbrev UC:=@List.filterMap_eq_map
abbrev UD:=@Array.mem_of_getElem?
abbrev UE:=@PySem.wpAny_newFunctionEnv_cells
abbrev UG:=@PySem.wpAny_bindName
abbrev UH:=@PySem.Calls.Name_function_global
abbrev UI:=@Nat.pow_le_pow_right
abbrev UJ:=@PySem.wpAny_binaryOp_repeat_ref
abbrev UK:=@List.mergeSort_perm
abbrev UL:=@List.getElem?_range
abbrev UM:=@PySem.seq_tuple_add
abbrev UN:=@PySem.W.kitx_tuple
abbrev UO:=@PySem.W.callWith_K
abbrev UP:=@List.pairwise_cons
abbrev UQ:=@List.findIdx?_cons
abbrev UR:=@Bool.false_eq_true
abbrev US:=@Array.find?_toList
abbrev UT:=@PySem.W.kitx_list
abbrev UU:=@PySem.W.kitx_dict
abbrev UW:=@PySem.F.args_enumerate_next_1
abbrev UX:=@Nat.lt_succ_of_lt
abbrev UY:=@List.map_inj_left
abbrev UZ:=@List.getElem?_inj
abbrev U0:=@List.flatMap_cons
abbrev U1:=@List.any_eq_false
abbrev U2:=@Bool.not_eq_true'
abbrev U3:=@Array.isEmpty_iff
set_option hygiene false
set_option hygiene true
abbrev FR:=PySem.W.Frag
namespace Hd
open PySem PySem.W PySem.Spec PyProof.Rows
noncomputable def z7:List Value->Option (List Int)
 | []=>some []
 | .int i _::r=>(z7 r).map λis=>i::is
 | _=>none
noncomputable def Al(v:Value)(t:String):Bool:=match v with
 | .type s=>decide (s=t)
 | _=>false
noncomputable def rowAt(h:Heap)(e:DictEntry):Option (Str×Int×List Int):=match e.key with
 | .str x _=>match e.val with
  | .ref t=>match h.get? t with
   | some u=>if Al u.cls "tuple"&&u.dict.isNone then(match u.data with
     | .seq its _=>if its.size<=100 then(z7 its.toList).map λis=>(x,e.hash,is) else none
     | _=>none) else none
   | none=>none
  | _=>none
 | _=>none
noncomputable def jZ(h:Heap):List DictEntry->Option (List (Str×Int×List Int))
 | []=>some []
 | e::r=>(rowAt h e).bind λx=>(jZ h r).map λxs=>x::xs
noncomputable def tabAt(h:Heap)(nm:Str):Option (List (Str×Int×List Int)):=match h.nsMap mainGlobals nm with
 | some (.ref a)=>if a==sysModules then none else(match h.get? a with
  | some o=>if Al o.cls "dict"&&o.dict.isNone&&decide (o.slots=#[]) then(match o.data with
    | .dict es _=>jZ h es.toList
    | _=>none) else none
  | none=>none)
 | _=>none
noncomputable def tF(h:Heap)(ns:Addr)(name:Str):Option (Option Value):=match h.get? ns with
 | some ⟨_,_,.dict es _,_⟩=>(match es.toList.find? (·.key.isStr name) with
   | some e=>some (some e.val)
   | none=>if es.toList.any (·.refKey) then none else some none)
 | _=>none
noncomputable def iU(h:Heap)(name:Str):Value->Option (Option Value)
 | .type n=>some (fastBuiltinOwn n name)
 | .ref a=>(match h.get? a with
   | some ⟨_,_,.cls cd,_⟩=>tF h cd.ns name
   | _=>none)
 | _=>some none
noncomputable def cq(h:Heap)(name:Str):List Value->Option (Option Value)
 | []=>some none
 | c::r=>match iU h name c with
  | some (some v)=>some (some v)
  | some none=>cq h name r
  | none=>none
noncomputable def clsAt(h:Heap)(c:Str):Option (Addr×ClassData):=match h.nsMap mainGlobals c with
 | some (.ref C)=>match h.get? C with
  | some ⟨.type "type",_,.cls cd,_⟩=>some (C,cd)
  | _=>none
 | _=>none
noncomputable def isAt(h:Heap)(cd:ClassData)(n:Str):Option Bool:=(clsAt h n).map λp=>cd.mro.contains (.ref p.1)
noncomputable def jR(h:Heap)(ns:List Str)(c:Str):Option (List (Option Bool)):=(clsAt h c).bind λp=>
 if(cq h "__getattribute__" p.2.mro==some (some (.builtin "BaseException.__getattribute__"))&&cq h "__getattr__" p.2.mro==some none&&cq h "__class__" p.2.mro==some (some (.builtin "object.__class__"))&&
  p.2.mro.contains (.type "object")&&p.2.mro.contains (.type "BaseException")&&p.2.mro.contains (.type "ValueError")&&p.2.mro.contains (.ref p.1))=true then some (ns.map (isAt h p.2)) else none
noncomputable def oW(h:Heap)(cs ns:List Str):List (Option (List (Option Bool))):=cs.map (jR h ns)
theorem Gp(row:String)(h0:∀w:World,(fencedOpening treeTable p w N).map (λs₀=>(topFrom treeTable p (w.withFollow row false) N s₀).map (λs=>(openSeen q loose (importedModules p.main.body) Xt true s,Yf s)))=some (some (openGood q loose,Ya (w.withFollow row false))))(h1:∀w:World,(fencedOpening treeTable p w N).map (λs₀=>(topFrom treeTable p (w.withFollow row true) N s₀).map (λs=>(openSeen q loose (importedModules p.main.body) Xt true s,Yf s)))=some (some (openGood q loose,Ya (w.withFollow row true)))):LeftO p q loose Xt Yf Ya N true:=λw=>by
 obtain⟨s₀,a,b0⟩:=Qg.mp (h0 w);obtain⟨s₁,a1,b1⟩:=Qg.mp (h1 w);have e:=World.withFollow_self w row;unfold openEnds;cases hb:w.params.followText row <;> rw[hb] at e
 ·rw[a];rw[e] at b0;exact b0
 ·rw[a1];rw[e] at b1;exact b1
end Hd
namespace Mi
open PySem
abbrev pw:Program:=PySem.Challenge.pw_neverstuck_k73_locks_not_put_in
noncomputable def top(i:Nat):Stmt:=pw.main.body.getD i (.Pass ⟨0,0,0,0⟩)
noncomputable def eg:List (Str×List Int):=[("say",[2,0]),("call",[3,0]),("within",[2,1]),("all",[2,1]),("ask",[2,2]),("by",[3,3]),("either",[1,2]),("again",[1,1])]
noncomputable def eX:List (Str×List Str):=[("NoRow",["NoRow","StuckError","ValueError"]),("NoLock",["NoLock","StuckError","ValueError"])]
noncomputable def oU:List Str:=["StuckError","NoStep","NoRow","NoLock","NoText","NoLine"]
noncomputable def iy:List Str:=["NoRow","NoLock"]
noncomputable def view:Program:={pw with main:={pw.main with body:=[top 1,top 2,top 3,top 4,top 5,top 6,top 8,top 9,top 10,top 11,top 12,top 14,top 15,top 16,top 17,top 18,top 19,top 21,top 22,top 23,top 24,top 25,top 27,top 28,top 29,top 30,top 31,top 32,top 33,top 34,top 35,top 36,top 37,top 38,top 39,top 40,top 41,top 42,top 43,top 44,top 45,top 46,top 47,top 48,top 49,top 50]}}
end Mi
local macro_rules | `(tactic| walk_at "s") => `(tactic| exact⟨rfl, rfl, rfl, by decide +kernel, rfl, by decide +kernel, by decide +kernel⟩)
namespace Mi
open PySem PySem.W PyProof.Rows
abbrev ext:List (Option (List (Option Bool))):=eX.map λp=>some (oU.map λn=>some (decide (n∈p.2)))
abbrev ya(w:World):=(some (eg.map λx:Str×List Int=>(x.1,hashStr w x.1,x.2)),ext)
abbrev Xt:Shared->Bool:=λs=>xlAt view [] s&&recOk (RowW.records (OpenRow.toRowW PySem.Challenge.rw_neverstuck_k73_locks_not_put_in.row)) s
abbrev Yf:Shared->Option (List (Str×Int×List Int))×List (Option (List (Option Bool))):=λs=>(Hd.tabAt s.heap "SHAPES",Hd.oW s.heap (eX.map (·.1)) oU)
theorem Mt(w:World):(fencedOpening treeTable pw w 20000).map (λs₀=>(topFrom treeTable pw (w.withFollow "special-get-raises" false) 20000 s₀).map (λs=>(openSeen view (["SHAPES"]:List Str) (importedModules pw.main.body) Xt true s,Yf s)))=some (some (openGood view (["SHAPES"]:List Str),(ya) (w.withFollow "special-get-raises" false))):=by ac_nf
theorem Ms(w:World):(fencedOpening treeTable pw w 20000).map (λs₀=>(topFrom treeTable pw (w.withFollow "special-get-raises" true) 20000 s₀).map (λs=>(openSeen view (["SHAPES"]:List Str) (importedModules pw.main.body) Xt true s,Yf s)))=some (some (openGood view (["SHAPES"]:List Str),(ya) (w.withFollow "special-get-raises" true))):=by ac_nf
theorem left:LeftO pw view (["SHAPES"]:List Str) Xt Yf (ya) 20000:=Hd.Gp "special-get-raises" Mt Ms
theorem Ik:PySem.Challenge.rw_neverstuck_k73_locks_not_put_in.wellSaid=true:=by
 unfold OpenLaw.wellSaid
 repeat(with_reducible refine look_both ?_ (by decide+kernel))
 unfold OpenRow.wellSaid
 repeat(with_reducible refine look_both ?_ (by decide+kernel))
 unfold OpenRow.partSaid
 repeat(with_reducible refine look_both ?_ (by decide+kernel))
 unfold looksOpen
 repeat(with_reducible refine look_both ?_ (by decide+kernel))
 decide+kernel
end Mi
theorem bV{α:Type}{p:α}{C:Prop}(h:none=some p):C:=nomatch h
namespace L2
open PySem PySem.Spec PyProof.Rows
abbrev Key:=Sum Int Str
noncomputable def tO:Key->Value->Bool
 | .inl k,v=>Value.isInt k v
 | .inr x,v=>Value.isStrOf x v
noncomputable def JA(w:World):Key->Int
 | .inl k=>hashInt k
 | .inr x=>hashStr w x
theorem b9:∀{k:Key} {v:Value},tO k v=true->(∃i t,k=Sum.inl i/\v=Value.int i t)\/(∃x t,k=Sum.inr x/\v=Value.str x t)
 | .inl i,v,h=>by
  obtain⟨t,e⟩:=Value.isInt_shape (k:=i) (v:=v) h;exact .inl ⟨i,t,rfl,e⟩
 | .inr x,v,h=>by
  obtain⟨t,e⟩:=Value.isStrOf_shape (x:=x) (v:=v) h;exact .inr ⟨x,t,rfl,e⟩
theorem Bt(i:Int)(t:Tok):tO (.inl i) (.int i t)=true:=by simp[tO,Value.isInt]
theorem Br(x:Str)(t:Tok):tO (.inr x) (.str x t)=true:=by simp[tO,Value.isStrOf]
theorem Jz(a b:Int):decide ((Sum.inl a:Key)=Sum.inl b)=(a==b):=by
 by_cases e:a=b
 ·subst e;simp
 ·have h:¬(Sum.inl a:Key)=Sum.inl b:=λq=>e (Sum.inl.inj q);rw[Qv h];exact(Td.mpr e).symm
theorem Jw(a b:Str):decide ((Sum.inr a:Key)=Sum.inr b)=decide (a=b):=by
 by_cases e:a=b
 ·subst e;simp
 ·have h:¬(Sum.inr a:Key)=Sum.inr b:=λq=>e (Sum.inr.inj q);rw[Qv h,Qv e]
theorem Jy(a:Int)(b:Str):decide ((Sum.inl a:Key)=Sum.inr b)=false:=Qv (λq=>nomatch q)
theorem Jx(a:Str)(b:Int):decide ((Sum.inr a:Key)=Sum.inl b)=false:=Qv (λq=>nomatch q)
noncomputable def bQ(prog:Program)(w:World):PySem.KeyKind prog w Key where
 is:=tO
 hash:=JA w
 inj:=λv a b ha hb=>by
  rcases b9 ha with⟨i,t,rfl,rfl⟩ |⟨x,t,rfl,rfl⟩
  ·rcases b9 hb with⟨j,u,rfl,e⟩ |⟨y,u,rfl,e⟩
   ·injection e with e1 _;rw[e1]
   ·exact nomatch e
  ·rcases b9 hb with⟨j,u,rfl,e⟩ |⟨y,u,rfl,e⟩
   ·exact nomatch e
   ·injection e with e1 _;rw[e1]
 byValue:=λk v h=>by
  rcases b9 h with⟨i,t,rfl,rfl⟩ |⟨x,t,rfl,rfl⟩ <;> rfl
 pyHash:=λhv h=>by
  rcases b9 hv with⟨i,t,rfl,rfl⟩ |⟨x,t,rfl,rfl⟩
  ·exact wpAny_pyHash_int h
  ·exact wpAny_pyHash_str h
 eqBool:=λhu hv h=>by
  rcases b9 hu with⟨i,t,rfl,rfl⟩ |⟨x,t,rfl,rfl⟩
  ·rcases b9 hv with⟨j,u,rfl,rfl⟩ |⟨y,u,rfl,rfl⟩
   ·rw[Jz] at h;exact wpAny_eqBool_int h
   ·rw[Jy] at h;exact SeqAt.EqAt.int_str i t y u _ _ _ _ h
  ·rcases b9 hv with⟨j,u,rfl,rfl⟩ |⟨y,u,rfl,rfl⟩
   ·rw[Jx] at h;exact SeqAt.EqAt.str_int x t j u _ _ _ _ h
   ·rw[Jw] at h;exact wpAny_eqBool_str h
 «strs»:=λk x t v h=>by
  rcases b9 h with⟨i,u,rfl,e⟩ |⟨y,u,rfl,e⟩
  ·exact nomatch e
  ·injection e with e1 _
   subst e1;cases v <;> rfl
theorem w9(prog:Program)(w:World)(i:Int)(t:Tok):(bQ prog w).is (.inl i) (.int i t)=true:=Bt i t
theorem w5(prog:Program)(w:World)(x:Str)(t:Tok):(bQ prog w).is (.inr x) (.str x t)=true:=Br x t
inductive V where
 | bR | bl (b:Bool) | int (i:Int) | str (x:Str) | byt (b:Array UInt8) | KS (b:UInt64) | ref (a:Addr) | ty (n:String)
 deriving DecidableEq
def RelV:V->Value->Prop
 | .bR,u=>u=Value.none
 | .bl b,u=>u=Value.bool b
 | .int i,u=>∃t,u=Value.int i t
 | .str x,u=>∃t,u=Value.str x t
 | .byt b,u=>∃t,u=Value.bytes b t
 | .KS b,u=>∃t,u=Value.float b t
 | .ref a,u=>u=Value.ref a
 | .ty n,u=>u=Value.type n
abbrev Vals:List V->List Value->Prop:=Paired RelV
theorem Vals.length(r:Vals xs us):xs.length=us.length:=Paired.length r
theorem Vals.get:∀{xs:List V} {us:List Value} {i:Nat} {x:V},Vals xs us->xs[i]?=some x->∃u,us[i]?=some u/\RelV x u
 | _,_,_,_,.nil,e=>by simp at e
 | _,_,0,_,.cons r _,e=>by simp at e;subst e;exact⟨_,rfl,r⟩
 | _,_,i+1,x,.cons _ t,e=>by
  obtain⟨u,h1,h2⟩:=Vals.get (i:=i) (x:=x) t (by simpa using e);exact⟨u,by simpa using h1,h2⟩
theorem Vals.set(r:RelV x u):∀{xs:List V} {us:List Value} (i:Nat),Vals xs us->Vals (xs.set i x) (us.set i u)
 | _,_,_,.nil=>.nil
 | _,_,0,.cons _ t=>.cons r t
 | _,_,i+1,.cons q t=>.cons q (Vals.set r i t)
theorem Vals.append{xs ys:List V}{us ws:List Value}(a:Vals xs us)(s:Vals ys ws):Vals (xs++ys) (us++ws):=by
 induction a with
 | nil=>exact s
 | cons r t ih=>exact .cons r ih
theorem Vals.take:∀{xs:List V} {us:List Value} (n:Nat),Vals xs us->Vals (xs.take n) (us.take n)
 | _,_,0,_=>.nil
 | _,_,_+1,.nil=>.nil
 | _,_,n+1,.cons r t=>.cons r (Vals.take n t)
theorem Vals.drop:∀{xs:List V} {us:List Value} (n:Nat),Vals xs us->Vals (xs.drop n) (us.drop n)
 | _,_,0,r=>r
 | _,_,_+1,.nil=>.nil
 | _,_,n+1,.cons _ t=>Vals.drop n t
def nC:Option V->Option Value->Prop
 | some v,some u=>RelV v u
 | none,none=>True
 | _,_=>False
def KV{κ:Type}:List (κ×V)->List (κ×Value)->Prop:=Paired λ(p:κ×V)(q:κ×Value)=>p.1=q.1/\RelV p.2 q.2
noncomputable def kV:Key->V
 | .inl i=>.int i
 | .inr x=>.str x
inductive HO where
 | lst (xs:List V)
 | tup (xs:List V)
 | dK (kvs:List (Key×V)) | dT (kvs:List (List Key×V))
 | set (S:Int->Bool) (n:Nat)
 | ins (C dx:Addr) (fs:List (Str×V))
 | own (x:Addr)
 | xd (fs:List (Str×V))
 | met (f x:Addr)
 | Nm (lo hi:Int)
 | kF (o:Obj) (u:HO)
 | G3 (ps:Array Value)
 | ext (φ:Heap->Prop)
 | Ae (φ:World->Heap->Prop)
 | tb
abbrev Hp:=Addr->Option HO
noncomputable def upd(H:Hp)(a:Addr)(o:HO):Hp:=λb=>if b=a then some o else H b
theorem aP:upd H a o a=some o:=by unfold upd;rw[PL rfl]
theorem ay(h:b≠a):upd H a o b=H b:=by unfold upd;rw[P0 h]
theorem Mh{H:Hp}{a b:Addr}{o u:HO}(h:H a=some o)(h':H b=some u)(d:o≠u):a≠b:=by
 intro e;subst e;rw[h] at h';exact d (Option.some.inj h')
theorem aO{H:Hp}{a b:Addr}{o:HO}(h:H a=some o)(h':H b=none):a≠b:=by
 intro e;subst e;rw[h] at h';cases h'
def wb(h:Heap)(a:Addr)(items:Array Value):Prop:=∃o,h.get? a=some o/\o.cls=.type "tuple"/\(∃n,o.data=.seq items n)/\o.dict=none
theorem wb.tup(x:wb h a items):IsTup h a items:=let⟨o,e,c,d,_⟩:=x;⟨o,e,c,d⟩
theorem wb.new(h:Heap)(items:Array Value):wb (h.push {cls:=.type "tuple",data:=.seq items}) h.objs.size items:=⟨_,Qk _ rfl,rfl,⟨_,rfl⟩,rfl⟩
section
variable (P:Program) (w:World)
def bM(H:Hp)(h:Heap)(a:Addr):HO->Prop
 | .lst xs=>xs.length<=sizeLine/\∃(its:List Value)(n:Nat),Vals xs its/\h.get? a=some {cls:=.type "list",data:=.seq its.toArray n}
 | .tup xs=>xs.length<=sizeLine/\∃its:List Value,Vals xs its/\wb h a its.toArray
 | .dK kvs=>kvs.length<=sizeLine/\(a==sysModules)=false/\∃vs,KV kvs vs/\h.DictOf (bQ P w) a vs
 | .dT kvs=>kvs.length<=sizeLine/\(a==sysModules)=false/\∃xs:List (List Key×Addr×Value),
   Paired (λ(p:List Key×V)(q:List Key×Addr×Value)=>p.1=q.1/\H q.2.1=some (.tup (p.1.map kV))/\RelV p.2 q.2.2) kvs xs/\
   ∃o es ep,h.get? a=some o/\o.ExactDict/\o.data=.dict es ep/\es.toList=xs.map (entryOfKey (tupleKind (bQ P w)))/\(xs.map (·.1)).Nodup
 | .set S n=>h.SetOf (intKind P w) a S n
 | .ins C dx fs=>H dx=some (.own a)/\fs.length<=1000/\dx≠a/\h.get? a=some (PySem.W.instObj C dx)/\
   ∃mA,h.Ns1 dx mA/\(∀f,nC (fs.lookup f) (mA f))/\PySem.Within mA (fs.map (·.1))
 | .own _=>∃o,h.get? a=some o
 | .xd fs=>∃mA,h.Ns1 a mA/\∀f,nC (fs.lookup f) (mA f)
 | .Nm lo hi=>∃t u v,h.get? a=some {cls:=.type "range",data:=.fields #[.int lo t,.int hi u,.int 1 v]}
 | .kF o u=>h.get? a=some o/\bM H h a u
 | .G3 ps=>h.get? a=some {cls:=.none,data:=.fields ps}
 | .met f x=>h.get? a=some (PySem.W.methodObj (.ref f) (.ref x))
 | .ext φ=>φ h/\(∃o,h.get? a=some o)/\∀h1 h2:Heap,φ h1->(∀o,h1.get? a=some o->h2.get? a=some o)->φ h2
 | .Ae φ=>φ w h/\(∃o,h.get? a=some o)/\∀h1 h2:Heap,φ w h1->(∀o,h1.get? a=some o->h2.get? a=some o)->φ w h2
 | .tb=>∃ps:Array Value,h.get? a=some {cls:=.none,data:=.fields ps}/\TriplesOk ps.toList/\∀pos c,codeAmong pos ps.toList=some c->∃c' oc vs q t,c=.ref c'/\H c'=some (.kF oc (.own a))/\oc.data=.fields vs/\vs[1]?=some (.str q t)
def i6(H:Hp)(h:Heap):Prop:=∀a o,H a=some o->bM P w H h a o
end
theorem bM.lt(x:bM P w H h a o):a < h.objs.size:=by
 cases o with
 | lst xs=>obtain⟨_,_,_,_,e⟩:=x;exact P2 e
 | tup xs=>obtain⟨_,_,_,p⟩:=x;exact p.tup.lt
 | dK kvs=>obtain⟨_,_,_,_,o,_,_,e,_⟩:=x;exact P2 e
 | dT kvs=>obtain⟨_,_,_,_,o,_,_,e,_⟩:=x;exact P2 e
 | set S n=>obtain⟨o,_,_,_,e,_⟩:=x;exact P2 e
 | ins C dx fs=>obtain⟨_,_,_,e,_⟩:=x;exact P2 e
 | own y=>obtain⟨_,e⟩:=x;exact P2 e
 | xd fs=>obtain⟨_,⟨_,_,_,e,_⟩,_⟩:=x;exact P2 e
 | Nm lo hi=>obtain⟨_,_,_,e⟩:=x;exact P2 e
 | kF ob u=>obtain⟨e,_⟩:=x;exact P2 e
 | G3 ps=>exact P2 (show h.get? a=some _ from x)
 | met f y=>exact P2 (show h.get? a=some _ from x)
 | ext φ=>obtain⟨_,⟨_,e⟩,_⟩:=x;exact P2 e
 | Ae φ=>obtain⟨_,⟨_,e⟩,_⟩:=x;exact P2 e
 | tb=>obtain⟨_,e,_⟩:=x;exact P2 e
theorem Paired.Mk{α β:Type}{F G:α->β->Prop}{l₁:List α}{l₂:List β}(a:Paired F l₁ l₂)(f:∀a b,F a b->G a b):Paired G l₁ l₂:=by
 induction a with
 | nil=>exact .nil
 | cons r t ih=>exact .cons (f _ _ r) ih
theorem bM.mC(x:bM P w H h a o)(k:∀b u,(b=a\/H b=some (.own a))->h.get? b=some u->h'.get? b=some u)
  (ho:∀b,H b=some (.own a)->H' b=some (.own a)) (ht:∀b xs,H b=some (.tup xs)->H' b=some (.tup xs)) (hf:∀b o,H b=some (.kF o (.own a))->H' b=some (.kF o (.own a)):=by exactλ_ _ q=>q):bM P w H' h' a o:=by
 induction o with
 | lst xs=>obtain⟨z,its,n,r,e⟩:=x;exact⟨z,its,n,r,k _ _ (.inl rfl) e⟩
 | tup xs=>obtain⟨z,its,r,ob,e,c⟩:=x;exact⟨z,its,r,ob,k _ _ (.inl rfl) e,c⟩
 | dK kvs=>obtain⟨z,y,vs,r,ob,es,ep,e,c⟩:=x;exact⟨z,y,vs,r,ob,es,ep,k _ _ (.inl rfl) e,c⟩
 | dT kvs=>
  obtain⟨z,y,xs,r,ob,es,ep,e,c⟩:=x;exact⟨z,y,xs,Paired.Mk r λp q z=>⟨z.1,ht _ _ z.2.1,z.2.2⟩,ob,es,ep,k _ _ (.inl rfl) e,c⟩
 | set S n=>obtain⟨ob,es,ep,t,e,c⟩:=x;exact⟨ob,es,ep,t,k _ _ (.inl rfl) e,c⟩
 | ins C dx fs=>
  obtain⟨d,z,ne,e,mA,⟨od,es,ep,e2,c⟩,r⟩:=x;exact⟨ho _ d,z,ne,k _ _ (.inl rfl) e,mA,⟨od,es,ep,k _ _ (.inr d) e2,c⟩,r⟩
 | own y=>obtain⟨ob,e⟩:=x;exact⟨ob,k _ _ (.inl rfl) e⟩
 | xd fs=>obtain⟨mA,⟨od,es,ep,e,c⟩,r⟩:=x;exact⟨mA,⟨od,es,ep,k _ _ (.inl rfl) e,c⟩,r⟩
 | Nm lo hi=>obtain⟨t,u,v,e⟩:=x;exact⟨t,u,v,k _ _ (.inl rfl) e⟩
 | kF ob u ih=>obtain⟨e,q⟩:=x;exact⟨k _ _ (.inl rfl) e,ih q⟩
 | G3 ps=>
  have e:h.get? a=some {cls:=.none,data:=.fields ps}:=x;show h'.get? a=some {cls:=.none,data:=.fields ps};exact k a _ (.inl rfl) e
 | met f y=>
  have e:h.get? a=some (PySem.W.methodObj (.ref f) (.ref y)):=x;show h'.get? a=some (PySem.W.methodObj (.ref f) (.ref y));exact k a _ (.inl rfl) e
 | ext φ=>obtain⟨p,⟨o,e⟩,st⟩:=x;exact⟨st _ _ p λo q=>k _ _ (.inl rfl) q,⟨o,k _ _ (.inl rfl) e⟩,st⟩
 | Ae φ=>obtain⟨p,⟨o,e⟩,st⟩:=x;exact⟨st _ _ p λo q=>k _ _ (.inl rfl) q,⟨o,k _ _ (.inl rfl) e⟩,st⟩
 | tb=>
  obtain⟨ps,e,t,f⟩:=x;exact⟨ps,k _ _ (.inl rfl) e,t,λpos c ec=>let⟨c',oc,vs,q,tk,e1,e2,r⟩:=f pos c ec;⟨c',oc,vs,q,tk,e1,hf _ _ e2,r⟩⟩
theorem i6.lt(x:i6 P w H h)(e:H a=some o):a < h.objs.size:=(x a o e).lt
theorem i6.fresh(x:i6 P w H h)(e:h.objs.size<=a):H a=none:=by
 cases q:H a with
 | none=>rfl
 | some u=>exact absurd (Qd (x.lt q) e) (Q4 _)
theorem i6.kept(x:i6 P w H h)(k:∀b u,h.get? b=some u->h'.get? b=some u):i6 P w H h':=λa o e=>
 (x a o e).mC (λb u _ q=>k b u q) (λ_ q=>q) λ_ _ q=>q
theorem i6.laid(x:i6 P w H h)(k:∀b u,h.get? b=some u->h'.get? b=some u)(hp:h.objs.size<=a)(new:bM P w (upd H a o) h' a o):i6 P w (upd H a o) h':=λb u e=>by
 have hn:=x.fresh hp
 by_cases hb:b=a
 ·subst hb;rw[aP] at e;cases e;exact new
 ·rw[ay hb] at e;exact(x b u e).mC (λc v _ q=>k c v q) (λc q=>by rw[ay (aO q hn)];exact q) (λc xs q=>by rw[ay (aO q hn)];exact q) λc xs q=>by rw[ay (aO q hn)];exact q
def Rd(H:Hp)(a:Addr)(u:HO):Prop:=H a=some u\/∃o,H a=some (.kF o u)
theorem Rd.ok(r:Rd H a u)(x:i6 P w H h):bM P w H h a u:=by
 rcases r with r |⟨o,r⟩
 ·exact x a u r
 ·obtain⟨_,q⟩:=x a _ r;exact q
def M9:Option HO->Prop
 | some (.lst _)=>True
 | some (.dK _)=>True
 | some (.dT _)=>True
 | some (.set _ _)=>True
 | some (.ins _ _ _)=>True
 | some (.ext _)=>True
 | some (.Ae _)=>True
 | _=>False
theorem i6.write(ok:i6 P w H h)(mu:M9 (H x))(he:e=x\/H e=some (.own x))(k:∀b u,b≠e->h.get? b=some u->h'.get? b=some u)(heo:∃u,h'.get? e=some u)
  (new:bM P w (upd H x o') h' x o'):i6 P w (upd H x o') h':=λb u q=>by
 have nown:∀c y,H c=some (.own y)->c≠x:=λc y r z=>by subst z;rw[r] at mu;exact mu
 have ntup:∀c xs,H c=some (.tup xs)->c≠x:=λc xs r z=>by subst z;rw[r] at mu;exact mu
 by_cases hb:b=x
 ·subst hb;rw[aP] at q;cases q;exact new
 ·rw[ay hb] at q
  by_cases hbe:b=e
  ·have q':H b=some (.own x):=by
    rcases he with z | z
    ·exact absurd (hbe.trans z) hb
    ·rw[hbe];exact z
   rw[q] at q';cases q';obtain⟨v,hv⟩:=heo;exact⟨v,by rw[hbe];exact hv⟩
  ·refine(ok b u q).mC (λc v hc r=>k c v ?_ r) (λc r=>by rw[ay (nown c b r)];exact r) (λc xs r=>by rw[ay (ntup c xs r)];exact r) λc o r=>by rw[ay (λz=>by subst z;rw[r] at mu;exact mu)];exact r
   rcases hc with rfl | hc
   ·exact hbe
   ·rintro rfl;rcases he with z | z
    ·exact nown c b hc z
    ·rw[hc] at z;cases z;exact hb rfl
structure Un(fs ex:List Addr)(H H':Hp)(h h':Heap):Prop where
 keep:∀b o,h.get? b=some o->H b=none->b∉fs->b∉ex->h'.get? b=some o
 slot:∀b o,h.get? b=some o->H b=none->b∈fs->b∉ex->∃sl,h'.get? b=some {o with slots:=sl}
 free:∀b o,h.get? b=some o->H b=none->b∉ex->H' b=none
 there:∀b o,h.get? b=some o->b∉ex->∃o',h'.get? b=some o'
 mr:∀b xs,H b=some (.tup xs)->H' b=some (.tup xs)
 lK:∀b o u,H b=some (.kF o u)->H' b=some (.kF o u)
 mw:∀b ps,H b=some (.G3 ps)->∃more,H' b=some (.G3 (ps++more))
theorem Un.any(u:Un fs ex H H1 h h1)(q:h.get? b=some ob)(n:H b=none)(hx:b∉ex):∃sl,h1.get? b=some {ob with slots:=sl}:=by
 by_cases hb:b∈fs
 ·exact u.slot b ob q n hb hx
 ·exact⟨ob.slots,u.keep b ob q n hb hx⟩
theorem Un.kept(k:∀b u,h.get? b=some u->h'.get? b=some u):Un fs ex H H h h':=
 ⟨λb ob q _ _ _=>k b ob q,λb ob q _ _ _=>⟨ob.slots,k b ob q⟩,λ_ _ _ n _=>n,λb ob q _=>⟨ob,k b ob q⟩,λ_ _ q=>q,λ_ _ _ q=>q,λ_ ps q=>⟨#[],by rw[q];simp⟩⟩
theorem Un.refl:Un fs ex H H h h:=Un.kept λ_ _ q=>q
theorem Un.laid(k:∀b u,h.get? b=some u->h'.get? b=some u)(hp:h.objs.size<=a)(hn:H a=none):Un fs ex H (upd H a o) h h' where
 keep:=λb u q _ _ _=>k b u q
 slot:=λb u q _ _ _=>⟨u.slots,k b u q⟩
 free:=λb u q n _=>by rw[ay (Qe (Qd (P2 q) hp))];exact n
 there:=λb u q _=>⟨u,k b u q⟩
 mr:=λb xs q=>by rw[ay (aO q hn)];exact q
 lK:=λb u xs q=>by rw[ay (aO q hn)];exact q
 mw:=λb ps q=>⟨#[],by rw[ay (aO q hn),q];simp⟩
theorem Un.write(mu:M9 (H x))(he:e=x\/H e=some (.own x))(k:∀b u,b≠e->h.get? b=some u->h'.get? b=some u)(heo:∃u,h'.get? e=some u):Un fs ex H (upd H x o) h h':=by
 have hx:∀b,H b=none->b≠x:=λb n z=>by subst z;rw[n] at mu;exact mu
 have hb:∀b,H b=none->b≠e:=λb n z=>by
  subst z;rcases he with r | r
  ·exact hx b n r
  ·rw[n] at r;cases r
 have hm:∀b u,H b=some u->¬M9 (some u)->b≠x:=λb u q nm z=>by subst z;rw[q] at mu;exact nm mu
 refine⟨λb u q n _ _=>k b u (hb b n) q,λb u q n _ _=>⟨u.slots,k b u (hb b n) q⟩,λb u q n _=>by rw[ay (hx b n)];exact n,λb u q _=>?_,
  λb xs q=>by rw[ay (hm b _ q λz=>z)];exact q,λb u xs q=>by rw[ay (hm b _ q λz=>z)];exact q,λb ps q=>⟨#[],by rw[ay (hm b _ q λz=>z),q];simp⟩⟩
 by_cases hbe:b=e
 ·subst hbe;exact heo
 ·exact⟨u,k b u hbe q⟩
noncomputable def Nj(h:Heap)(H:Hp):List Addr:=(List.range h.objs.size).filter λa=>(H a).isSome
noncomputable def vB(h:Heap)(H:Hp):Heap:=PySem.W.hideAll h (Nj h H)
theorem Bw(h:Heap)(H:Hp):(vB h H).objs.size=h.objs.size:=PySem.W.hideAll_size _ _
theorem DZ(e:h.get? b=some o)(n:H b=none):(vB h H).get? b=some o:=
 Se _ e λhm=>by
  have q:(H b).isSome=true:=(List.mem_filter.mp hm).2;rw[n] at q;simp at q
theorem Gg(e:(vB h H).get? b=some o):h.get? b=some o/\H b=none:=by
 have e':h.get? b=some o:=Si (Nj h H) e;refine⟨e',?_⟩;cases q:H b with
 | none=>rfl
 | some x=>
  have hm:b∈Nj h H:=List.mem_filter.mpr ⟨Rw.mpr (P2 e'),by simp[q]⟩;have z:(vB h H).get? b=none:=QY (Nj h H) hm;rw[z] at e;cases e
structure Mod(K:FR)(mg:Str->Option Value)(base:Heap):Prop where
 Nq:K.In base
 glob:base.Ns mainGlobals mg
 blt:∃mb,base.Ns builtinsNs mb/\∀x:Str,x≠"__name__"->mb x=bootBuiltins x
 nolimit:base.NoLimit
structure Cx where
 prog:Program
 w:World
 K:FR
 mg:Str->Option Value
 base:Heap
 A:Around
 N:List Str
 s₀:Shared
 H₀:Hp
 env:Env
 outer:List Env
 stack:List Env
 ex:List Addr
 fn:Str->Bool
 calm:Bool
 pn:List (Addr×Obj)
 xe:Value->Shared->Prop
noncomputable def jv(l:List Env):List Addr:=l.filterMap (·.frame)
abbrev Cx.fs(X:Cx):List Addr:=jv X.outer
def Kt(sc:Scope)(x:Str):Prop:=sc.names.lookup x=some .local\/sc.names.lookup x=some .cell\/sc.names.lookup x=some .free
def Loc(sc:Scope)(x:Str):Prop:=sc.names.lookup x=some .local\/sc.names.lookup x=some .cell
def Look(env:Env)(h:Heap)(m:Str->Option Value)(x:Str)(u:Value):Prop:=
 (env.kindOf x=some .local/\m x=some u)\/((env.kindOf x=some .cell\/env.kindOf x=some .free)/\∃c,env.cells.lookup x=some c/\h.IsCell c (some u))
structure Cx.Ok(X:Cx):Prop where
 mod:Mod X.K X.mg X.base
 kind:X.env.scope.kind=.function
 glob:X.env.globals=mainGlobals
 blt:X.env.builtins=builtinsNs
 above:X.s₀.heap.objs.size<=X.env.locals
 inj:∀x y c,X.env.cells.lookup x=some c->X.env.cells.lookup y=some c->x=y
 has:∀x,(X.env.kindOf x=some .cell\/X.env.kindOf x=some .free)->∃c,X.env.cells.lookup x=some c
 KY:∀x c,X.fn x=true->X.env.cells.lookup x=some c->X.s₀.heap.objs.size<=c
 hd:X.calm=true->X.A.handled=none
 frames:X.A.frames=some X.stack
 Ly:X.stack=X.outer\/(X.stack=X.env::X.outer/\X.env.frame=some X.env.locals)
 Oz:∀b∈X.ex,b≠X.env.locals/\∀x c,X.env.cells.lookup x=some c->c≠b
 bs:∀b o,X.base.get? b=some o->X.s₀.heap.get? b=some o/\X.H₀ b=none
 E2:X.base.objs.size<=X.s₀.heap.objs.size
 Bc:∀b o,X.base.get? b=some o->b∉X.ex
 Ee:∀b∈X.ex,b∉X.fs
 ni:X.s₀.heap.FunFrames X.base X.outer
 Hk:∀b∈X.fs,X.H₀ b=none
structure Inv(X:Cx)(pins:List (Addr×Obj))(σ:List (Option V))(H:Hp)(s:Shared):Prop where
 ok:X.Ok
 os:s.os=X.s₀.os
 bare:AllBare s.gens
 base:Un X.fs X.ex X.H₀ H X.s₀.heap s.heap
 loc:∃m,s.heap.Ns X.env.locals m/\∀(i:Nat)(x:Str)(v:V),X.N[i]?=some x->σ[i]?=some (some v)->Kt X.env.scope x->∃u,RelV v u/\Look X.env s.heap m x u
 cell:∀x c,X.env.cells.lookup x=some c->∃v,s.heap.IsCell c v
 free:H X.env.locals=none
 fM:∀x c,X.env.cells.lookup x=some c->H c=none
 pin:∀p∈X.pn++pins,s.heap.get? p.1=some p.2/\H p.1=none/\p.1≠X.env.locals/\p.1∉X.fs/\∀v,p.2.data≠.cell v
 ba:i6 X.prog X.w H s.heap
 len:σ.length=X.N.length
section
variable {X:Cx} {pins:List (Addr×Obj)} {σ:List (Option V)} {H H':Hp} {s:Shared} {h':Heap}
theorem Cx.Ok.Om(ok:X.Ok)(e:X.base.get? b=some o):b∉X.fs:=λhb=>by
 have:=(ok.ni.mem hb).1;rw[e] at this;cases this
theorem Inv.bs(I:Inv X pins σ H s):∀b o,X.base.get? b=some o->s.heap.get? b=some o/\H b=none:=λb o e=>
 ⟨I.base.keep b o (I.ok.bs b o e).1 (I.ok.bs b o e).2 (I.ok.Om e) (I.ok.Bc b o e),I.base.free b o (I.ok.bs b o e).1 (I.ok.bs b o e).2 (I.ok.Bc b o e)⟩
theorem Inv.bk(I:Inv X pins σ H s):∀b o,X.base.get? b=some o->s.heap.get? b=some o:=λb o e=>(I.bs b o e).1
theorem Inv.mod(I:Inv X pins σ H s):Mod X.K X.mg X.base:=I.ok.mod
theorem Inv.ou(I:Inv X pins σ H s):X.K.In s.heap:=I.ok.mod.Nq.keeps I.bk
theorem Inv.nolimit(I:Inv X pins σ H s):s.heap.NoLimit:=I.ok.mod.nolimit.keeps I.bk
theorem Inv.lt(I:Inv X pins σ H s):X.env.locals < s.heap.objs.size:=let⟨_,hn,_⟩:=I.loc;hn.lt
theorem Inv.sz(I:Inv X pins σ H s):X.s₀.heap.objs.size<=s.heap.objs.size:=PY I.ok.above (Ry I.lt)
theorem Inv.Ol(I:Inv X pins σ H s)(h:s.heap.objs.size<=a):a∉X.fs:=λhb=>by
 obtain⟨_,o,ho,_⟩:=I.ok.ni.mem hb;exact absurd (Qd (P2 ho) (PY I.sz h)) (Q4 _)
theorem Inv.Eu(I:Inv X pins σ H s):∀x c,X.env.cells.lookup x=some c->c≠X.env.locals:=λx c e z=>by
 obtain⟨v,o,ho,hd⟩:=I.cell x c e;obtain⟨m,⟨o',es,ep,ho',hd',_⟩,_⟩:=I.loc;rw[z,ho'] at ho;cases ho;rw[hd'] at hd;cases hd
theorem Inv.ni(I:Inv X pins σ H s):s.heap.FunFrames X.base X.outer:=by
 have all:∀(l:List Env),(∀b∈jv l,b∈X.fs)->X.s₀.heap.FunFrames X.base l->s.heap.FunFrames X.base l:=by
  intro l
  induction l with
  | nil=>intro _ _;trivial
  | cons env r ih=>
   intro hs hl;obtain⟨hk,⟨L,o,hf,hn,ho,hd⟩,hr⟩:=hl;have hL:L∈X.fs:=hs L (by unfold jv;rw[QN,hf];exact PQ);obtain⟨sl,e⟩:=I.base.slot L o ho (I.ok.Hk L hL) hL λz=>I.ok.Ee L z hL;exact⟨hk,⟨L,_,hf,hn,e,hd⟩,ih (λb hb=>hs b (by unfold jv;rw[QN,hf];exact PV _ hb)) hr⟩
 exact all X.outer (λ_ hb=>hb) I.ok.ni
theorem Inv.stack(I:Inv X pins σ H s):s.heap.FunFrames X.base X.stack:=by
 rcases I.ok.Ly with e |⟨e,hf⟩
 ·rw[e];exact I.ni
 ·rw[e];obtain⟨m,hn,_⟩:=I.loc;refine .cons (by rw[I.ok.kind];decide) hf hn ?_ I.ni;exact Heap.get?_none_of_le (PY I.ok.E2 I.ok.above)
theorem Inv.mB(I:Inv X pins σ H s):∀b∈jv X.stack,b∈X.env.locals::X.fs:=λb hb=>by
 rcases I.ok.Ly with e |⟨e,hf⟩
 ·rw[e] at hb;exact PV _ hb
 ·rw[e] at hb;unfold jv at hb;rw[QN,hf] at hb;exact hb
theorem Inv.pe(I:Inv X pins σ H s):∀b∈jv X.stack,H b=none:=λb hb=>by
 rcases PZ.mp (I.mB b hb) with e | hb
 ·rw[e];exact I.free
 ·obtain⟨_,o,ho,_⟩:=I.ok.ni.mem hb;exact I.base.free b o ho (I.ok.Hk b hb) λz=>I.ok.Ee b z hb
theorem Inv.step{g':Array GenState}{t':Nat}{d':Drawn}{ch:List Addr}(I:Inv X pins σ H s)
  (hch:∀b∈ch,(b∈X.ex\/X.s₀.heap.objs.size<=b)/\b≠X.env.locals/\(∀x c,X.env.cells.lookup x=some c->c≠b)/\∀p∈X.pn++pins,p.1≠b)
  (keep:∀b o,b≠X.env.locals->b∉X.fs->b∉ch->s.heap.get? b=some o->H b=none->h'.get? b=some o)
  (slot:∀b o,b≠X.env.locals->b∈X.fs->b∉ch->s.heap.get? b=some o->H b=none->∃sl,h'.get? b=some {o with slots:=sl}) (free:∀b o,b∉ch->s.heap.get? b=some o->H b=none->H' b=none)
  (there:∀b o,b∉ch->s.heap.get? b=some o->∃o',h'.get? b=some o')
  (mr:∀b xs,H b=some (.tup xs)->H' b=some (.tup xs)) (lK:∀b o u,H b=some (.kF o u)->H' b=some (.kF o u)) (mw:∀b ps,H b=some (.G3 ps)->∃more,H' b=some (.G3 (ps++more)))
  (ns:∀m,s.heap.Ns X.env.locals m->h'.Ns X.env.locals m) (ba:i6 X.prog X.w H' h') (hg:AllBare g'):
  Inv X pins σ H' {s with heap:=h',gens:=g',drawn:=d',toks:=t'}:=by
 have neL:∀b o,X.s₀.heap.get? b=some o->b≠X.env.locals:=λb o e=>Qe (Qd (P2 e) I.ok.above);have neC:∀b o,X.s₀.heap.get? b=some o->b∉X.ex->b∉ch:=λb o e hx hb=>by
  rcases(hch b hb).1 with z | z
  ·exact hx z
  ·exact absurd (Qd (P2 e) z) (Q4 _)
 have cellK:∀x c,X.env.cells.lookup x=some c->∀v,s.heap.IsCell c v->h'.IsCell c v:=λx c e v ⟨o,ho,hd⟩=>by
  have nch:c∉ch:=λz=>(hch c z).2.2.1 x c e rfl
  by_cases hc:c∈X.fs
  ·obtain⟨sl,q⟩:=slot c o (I.Eu x c e) hc nch ho (I.fM x c e);exact⟨_,q,hd⟩
  ·exact⟨o,keep c o (I.Eu x c e) hc nch ho (I.fM x c e),hd⟩
 refine⟨I.ok,I.os,hg,⟨λb o e n hb hx=>?_,λb o e n hb hx=>?_,λb o e n hx=>?_,λb o e hx=>?_,λb xs e=>mr b xs (I.base.mr b xs e),λb o xs e=>lK b o xs (I.base.lK b o xs e),λb ps e=>?_⟩,?_,λx c e=>?_,?_,λx c e=>?_,λp hp=>?_,ba,I.len⟩
 ·exact keep b o (neL b o e) hb (neC b o e hx) (I.base.keep b o e n hb hx) (I.base.free b o e n hx)
 ·obtain⟨sl,e1⟩:=I.base.slot b o e n hb hx;obtain⟨sl',e2⟩:=slot b _ (neL b o e) hb (neC b o e hx) e1 (I.base.free b o e n hx);exact⟨sl',e2⟩
 ·obtain⟨o',e1⟩:=I.base.there b o e hx;exact free b o' (neC b o e hx) e1 (I.base.free b o e n hx)
 ·obtain⟨o',e1⟩:=I.base.there b o e hx;exact there b o' (neC b o e hx) e1
 ·obtain⟨m1,e1⟩:=I.base.mw b ps e;obtain⟨m2,e2⟩:=mw b _ e1;exact⟨m1++m2,by rw[e2,Array.append_assoc]⟩
 ·obtain⟨m,hn,hl⟩:=I.loc;refine⟨m,ns m hn,λi x v e1 e2 e3=>?_⟩;obtain⟨u,r,l⟩:=hl i x v e1 e2 e3;refine⟨u,r,?_⟩;rcases l with l |⟨k,c,e,z⟩
  ·exact .inl l
  ·exact .inr ⟨k,c,e,cellK x c e _ z⟩
 ·obtain⟨v,z⟩:=I.cell x c e;exact⟨v,cellK x c e v z⟩
 ·obtain⟨m,⟨o,_,_,ho,_⟩,_⟩:=I.loc;exact free _ o (λz=>(hch _ z).2.1 rfl) ho I.free
 ·obtain⟨v,o,ho,hd⟩:=I.cell x c e;exact free c o (λz=>(hch c z).2.2.1 x c e rfl) ho (I.fM x c e)
 ·obtain⟨e,n,ne,nf,d⟩:=I.pin p hp;have nch:p.1∉ch:=λz=>(hch p.1 z).2.2.2 p hp rfl;exact⟨keep p.1 p.2 ne nf nch e n,free p.1 p.2 nch e n,ne,nf,d⟩
theorem Inv.un{t':Nat}(I:Inv X pins σ H s)(u:Un X.fs [] H H' s.heap h')(ba:i6 X.prog X.w H' h'):Inv X pins σ H' {s with heap:=h',toks:=t'}:=by
 obtain⟨m,⟨o,es,ep,ho,r⟩,_⟩:=id I.loc;obtain⟨sl,hL⟩:=u.any ho I.free (by simp);exact I.step (g':=s.gens) (d':=s.drawn) (ch:=[]) (λ_ z=>nomatch z) (λb o _ hb _ e n=>u.keep b o e n hb (by simp)) (λb o _ hb _ e n=>u.slot b o e n hb (by simp)) (λb o _ e n=>u.free b o e n (by simp)) (λb o _ e=>u.there b o e (by simp)) u.mr u.lK u.mw (λm' hm=>by
  obtain⟨o',es',ep',ho',r'⟩:=hm;rw[ho] at ho';cases ho';exact⟨_,es',ep',hL,r'⟩) ba I.bare
theorem Inv.call{g':Array GenState}{t':Nat}{d':Drawn}{ch:List Addr}(I:Inv X pins σ H s)(u:Un (jv X.stack) ch H H' s.heap h')(ba:i6 X.prog X.w H' h')(hg:AllBare g')
  (hch:∀b∈ch,(b∈X.ex\/X.s₀.heap.objs.size<=b)/\b≠X.env.locals/\(∀x c,X.env.cells.lookup x=some c->c≠b)/\∀p∈X.pn++pins,p.1≠b):
  Inv X pins σ H' {s with heap:=h',gens:=g',drawn:=d',toks:=t'}:=by
 obtain⟨m,⟨o,es,ep,ho,r⟩,_⟩:=id I.loc;obtain⟨sl,hL⟩:=u.any ho I.free λz=>(hch _ z).2.1 rfl;exact I.step (ch:=ch) hch (λb o hL hb hc e n=>u.keep b o e n (λz=>(PZ.mp (I.mB b z)).elim hL hb) hc) (λb o _ _ hc e n=>u.any e n hc) (λb o hc e n=>u.free b o e n hc) (λb o hc e=>u.there b o e hc) u.mr u.lK u.mw (λm' hm=>by
  obtain⟨o',es',ep',ho',r'⟩:=hm;rw[ho] at ho';cases ho';exact⟨_,es',ep',hL,r'⟩) ba hg
theorem Inv.turned{t':Nat}{it:Addr}(I:Inv X pins σ H s)(k:∀b o,b≠it->s.heap.get? b=some o->h'.get? b=some o)(hn:H it=none)(hL:it≠X.env.locals)
  (h1:it∈X.ex\/X.s₀.heap.objs.size<=it) (h2:∀x c,X.env.cells.lookup x=some c->c≠it) (h3:∀p∈X.pn++pins,p.1≠it):Inv X pins σ H {s with heap:=h',toks:=t'}:=by
 have nit:∀b u,H b=some u->b≠it:=λb u e z=>by rw[z,hn] at e;cases e
 refine I.step (g':=s.gens) (d':=s.drawn) (ch:=[it]) (λb hb=>?_) (λb o _ _ hc e _=>k b o (λz=>hc (by simp[z])) e) (λb o _ _ hc e _=>⟨o.slots,k b o (λz=>hc (by simp[z])) e⟩) (λ_ _ _ _ n=>n)
  (λb o hc e=>⟨o,k b o (λz=>hc (by simp[z])) e⟩) (λ_ _ e=>e) (λ_ _ _ e=>e) (λb ps e=>⟨#[],by rw[e];simp⟩) (λm hm=>?_) (λb u e=>?_) I.bare
 ·have e:b=it:=by simpa using hb
  subst e;exact⟨h1,hL,h2,h3⟩
 ·obtain⟨o,es,ep,ho,r⟩:=hm;exact⟨o,es,ep,k _ o (Q2 hL) ho,r⟩
 ·refine(I.ba b u e).mC (λc v hc q=>k c v ?_ q) (λ_ q=>q) λ_ _ q=>q;rcases hc with z | z
  ·rw[z];exact nit b u e
  ·exact nit c _ z
theorem Inv.tok(I:Inv X pins σ H s)(t:Nat):Inv X pins σ H {s with toks:=t}:=I.un (h':=s.heap) (t':=t) Un.refl I.ba
theorem Inv.kept(I:Inv X pins σ H s)(k:∀b u,s.heap.get? b=some u->h'.get? b=some u):Inv X pins σ H {s with heap:=h',toks:=t'}:=I.un (Un.kept k) (I.ba.kept k)
theorem Inv.laid(I:Inv X pins σ H s)(k:∀b u,s.heap.get? b=some u->h'.get? b=some u)(hp:s.heap.objs.size<=a)(new:bM X.prog X.w (upd H a o) h' a o):
  Inv X pins σ (upd H a o) {s with heap:=h',toks:=t'}:=I.un (Un.laid k hp (I.ba.fresh hp)) (I.ba.laid k hp new)
theorem Inv.write(I:Inv X pins σ H s)(mu:M9 (H x))(he:e=x\/H e=some (.own x))(k:∀b u,b≠e->s.heap.get? b=some u->h'.get? b=some u)(heo:∃u,h'.get? e=some u)(new:bM X.prog X.w (upd H x o) h' x o):Inv X pins σ (upd H x o) {s with heap:=h',toks:=t'}:=I.un (Un.write mu he k heo) (I.ba.write mu he k heo new)
theorem Inv.zI(I:Inv X pins σ H s)(h:∀p∈pins',s.heap.get? p.1=some p.2/\H p.1=none/\p.1≠X.env.locals/\p.1∉X.fs/\∀v,p.2.data≠.cell v):Inv X pins' σ H s:=
 ⟨I.ok,I.os,I.bare,I.base,I.loc,I.cell,I.free,I.fM,λp hp=>(Qi.mp hp).elim (λz=>I.pin p (QL _ z)) (h p),I.ba,I.len⟩
theorem qD{N:List Str}(hN:N.Nodup){i j:Nat}{x:Str}(a:N[i]?=some x)(b:N[j]?=some x):i=j:=by
 obtain⟨h1,e1⟩:=PH.mp a;obtain⟨h2,e2⟩:=PH.mp b;exact(List.getElem_inj hN).mp (e1.trans e2.symm)
theorem sN{M:Model}{A:Around}{E:Value->Shared->Prop}{i:Nat}{x:Str}{v:V}{u:Value}{Q:Unit->Shared->Prop}(I:Inv X pins σ H s)(hN:X.N.Nodup)(hi:X.N[i]?=some x)(hx:Loc X.env.scope x)(r:RelV v u)
  (h:∀s',Inv X pins (σ.set i (some v)) H s'->(∃a,Heap.SameBut a s.heap s'.heap/\(a=X.env.locals\/X.env.cells.lookup x=some a))->Q () s') (hf:X.fn x=true\/X.env.scope.names.lookup x=some .local:=by first | exact .inl rfl | exact .inr rfl | assumption):wpAny M A (storeName X.env x u) Q E s:=by
 obtain⟨m,hn,hl⟩:=id I.loc;have hcls:(X.env.scope.kind==.class||(X.env.scope.kind==.module&&X.env.locals !=X.env.globals))=false:=by rw[I.ok.kind];rfl
 have hiσ:i < σ.length:=by rw[I.len];exact(PH.mp hi).1
 have Eu:=I.Eu;have tracked:∀{a:Addr} {h':Heap},(∃o,s.heap.get? a=some o/\H a=none)->Heap.SameBut a s.heap h'->i6 X.prog X.w H h':=λ{a h'} ha hs b ob e=>by
  obtain⟨_,_,hfree⟩:=ha;refine(I.ba b ob e).mC (λc w' hc q=>(hs.2 c ?_).trans q) (λ_ q=>q) λ_ _ q=>q;rintro rfl;rcases hc with rfl | hc
  ·rw[hfree] at e;cases e
  ·rw[hfree] at hc;cases hc
 rcases hx with hk | hk
 ·refine wpAny_storeName_local hk hn (λh' hn' hs=>?_) hcls;obtain⟨oL,_,_,hoL,_⟩:=id hn;refine h _ ⟨I.ok,I.os,I.bare,⟨λb o e n hb hx=>?_,λb o e n hb hx=>?_,I.base.free,λb o e hx=>?_,I.base.mr,I.base.lK,I.base.mw⟩,⟨_,hn',λj y v' e1 e2 e3=>?_⟩,λy c e=>?_,I.free,I.fM,λp hp=>?_,tracked ⟨oL,hoL,I.free⟩ hs,by simpa using I.len⟩ ⟨_,hs,.inl rfl⟩
  ·exact(hs.2 b (Qe (Qd (P2 e) I.ok.above))).trans (I.base.keep b o e n hb hx)
  ·obtain⟨sl,e1⟩:=I.base.slot b o e n hb hx;exact⟨sl,(hs.2 b (Qe (Qd (P2 e) I.ok.above))).trans e1⟩
  ·obtain⟨o',e1⟩:=I.base.there b o e hx;exact⟨o',(hs.2 b (Qe (Qd (P2 e) I.ok.above))).trans e1⟩
  ·by_cases hj:j=i
   ·subst hj;rw[hi] at e1;cases e1;rw[Qr hiσ] at e2;cases e2;exact⟨u,r,.inl ⟨hk,by simp⟩⟩
   ·rw[QA (Q2 hj)] at e2;obtain⟨u',r',q⟩:=hl j y v' e1 e2 e3;refine⟨u',r',?_⟩;rcases q with⟨k,e⟩ |⟨k,c,e,z⟩
    ·refine .inl ⟨k,?_⟩;have:y≠x:=λe=>hj (qD hN e1 (e ▸ hi));simp[this,e]
    ·exact .inr ⟨k,c,e,z.sameBut hs (Eu y c e)⟩
  ·obtain⟨w',z⟩:=I.cell y c e;exact⟨w',z.sameBut hs (Eu y c e)⟩
  ·obtain⟨e,n,ne,nf,d⟩:=I.pin p hp;exact⟨(hs.2 p.1 ne).trans e,n,ne,nf,d⟩
 ·have hfn:X.fn x=true:=by
   rcases hf with z | z
   ·exact z
   ·rw[z] at hk;cases hk
  obtain⟨c,hc⟩:=I.ok.has x (.inl hk);obtain⟨w',z⟩:=I.cell x c hc;refine wpAny_storeName_cell I.ok.kind hk hc z (λh' hc' hs=>?_);obtain⟨oc,hoc,hocd⟩:=id z;refine h {s with heap:=h'} ⟨I.ok,I.os,I.bare,⟨λb o e n hb hx=>?_,λb o e n hb hx=>?_,I.base.free,λb o e hx=>?_,I.base.mr,I.base.lK,I.base.mw⟩,⟨m,hn.sameBut hs (Q2 (Eu x c hc)),λj y v' e1 e2 e3=>?_⟩,λy c' e=>?_,I.free,I.fM,λp hp=>?_,tracked ⟨oc,hoc,I.fM x c hc⟩ hs,by simpa using I.len⟩ ⟨c,hs,.inr hc⟩
  ·exact(hs.2 b (Qe (Qd (P2 e) (I.ok.KY x c hfn hc)))).trans (I.base.keep b o e n hb hx)
  ·obtain⟨sl,e1⟩:=I.base.slot b o e n hb hx;exact⟨sl,(hs.2 b (Qe (Qd (P2 e) (I.ok.KY x c hfn hc)))).trans e1⟩
  ·obtain⟨o',e1⟩:=I.base.there b o e hx;exact⟨o',(hs.2 b (Qe (Qd (P2 e) (I.ok.KY x c hfn hc)))).trans e1⟩
  ·by_cases hj:j=i
   ·subst hj;rw[hi] at e1;cases e1;rw[Qr hiσ] at e2;cases e2;exact⟨u,r,.inr ⟨.inl hk,c,hc,hc'⟩⟩
   ·rw[QA (Q2 hj)] at e2;obtain⟨u',r',q⟩:=hl j y v' e1 e2 e3;refine⟨u',r',?_⟩;rcases q with q |⟨k,c',e,z'⟩
    ·exact .inl q
    ·refine .inr ⟨k,c',e,z'.sameBut hs ?_⟩;rintro rfl;exact hj (qD hN e1 (I.ok.inj _ _ _ e hc ▸ hi))
  ·by_cases hcc:c'=c
   ·subst hcc;exact⟨_,hc'⟩
   ·obtain⟨w2,z2⟩:=I.cell y c' e;exact⟨w2,z2.sameBut hs hcc⟩
  ·obtain⟨e,n,ne,nf,d⟩:=I.pin p hp;refine⟨(hs.2 p.1 ?_).trans e,n,ne,nf,d⟩;intro q;rw[q,hoc] at e;have q':oc=p.2:=Option.some.inj e;exact d w' (by rw[<-q'];exact hocd)
theorem gz(I:Inv X pins σ H s)(hN:X.N.Nodup)(hi:X.N[i]?=some x)(hx:Loc X.env.scope x)(r:RelV v u)(h:∀s',Inv X pins (σ.set i (some v)) H s'->Q () s')(hf:X.fn x=true\/X.env.scope.names.lookup x=some .local:=by first | exact .inl rfl | exact .inr rfl | assumption):wpAny M A (storeName X.env x u) Q E s:=
 sN I hN hi hx r (λs' I' _=>h s' I') hf
theorem Inv.call'(I:Inv X pins σ H s)(ho:s'.os=s.os)(u:Un (jv X.stack) ch H H' s.heap s'.heap)(ba:i6 X.prog X.w H' s'.heap)(hg:AllBare s'.gens)(hch:∀b∈ch,(b∈X.ex\/X.s₀.heap.objs.size<=b)/\b≠X.env.locals/\(∀x c,X.env.cells.lookup x=some c->c≠b)/\∀p∈X.pn++pins,p.1≠b):Inv X pins σ H' s':=by
 obtain⟨h',g',d',t',o'⟩:=s';have e:o'=s.os:=ho;subst e;exact I.call (g':=g') (t':=t') (d':=d') u ba hg hch
end
abbrev XK:=Value->Option Addr->Hp->Prop
abbrev St:=List (Option V)
abbrev VK:=V->Hp->Prop
abbrev TE:=St->Hp->VK->Prop
abbrev TT:=St->Hp->(Bool->Hp->Prop)->Prop
abbrev TA:=St->Hp->(List V->Hp->Prop)->Prop
structure Ends where
 nx:St->Hp->Prop
 rt:VK
 bk:St->Hp->Prop:=λ_ _=>False
 ct:St->Hp->Prop:=λ_ _=>False
abbrev TS:=Ends->St->Hp->Prop
inductive Pj(X:Cx)(pins:List (Addr×Obj))(σ:St)(Q:VK)(u:Value)(s':Shared):Prop where
 | mk (v H'):Inv X pins σ H' s'->RelV v u->Q v H'->Pj X pins σ Q u s'
def EP(X:Cx)(pins:List (Addr×Obj))(σ:St)(Q:VK)(u:Value)(s':Shared):Prop:=Pj X pins σ Q u s'
def TP(X:Cx)(pins:List (Addr×Obj))(σ:St)(Q:Bool->Hp->Prop)(b:Bool)(s':Shared):Prop:=∃H',Inv X pins σ H' s'/\Q b H'
inductive Pk(X:Cx)(pins:List (Addr×Obj))(σ:St)(Q:List V->Hp->Prop)(us:List Value)(s':Shared):Prop where
 | mk (vs H'):Inv X pins σ H' s'->Vals vs us->Q vs H'->Pk X pins σ Q us s'
def AP(X:Cx)(pins:List (Addr×Obj))(σ:St)(Q:List V->Hp->Prop)(us:List Value)(s':Shared):Prop:=Pk X pins σ Q us s'
def SP(X:Cx)(pins:List (Addr×Obj))(D:Ends)(f:Flow)(s':Shared):Prop:=
 match f with
 | .next=>∃σ' H',Inv X pins σ' H' s'/\D.nx σ' H'
 | .brk=>∃σ' H',Inv X pins σ' H' s'/\D.bk σ' H'
 | .cont=>∃σ' H',Inv X pins σ' H' s'/\D.ct σ' H'
 | .ret u=>∃v σ' H',Inv X pins σ' H' s'/\RelV v u/\D.rt v H'
def PE(X:Cx)(e:Expr)(t:TE):Prop:=
 ∀(pins:List (Addr×Obj)) (s:Shared) (σ:St) (H:Hp) (Q:VK),Inv X pins σ H s->t σ H Q->wpAny (model X.prog X.w) X.A (eval e X.env) (EP X pins σ Q) X.xe s
def PT(X:Cx)(e:Expr)(t:TT):Prop:=
 ∀(pins:List (Addr×Obj)) (s:Shared) (σ:St) (H:Hp) (Q:Bool->Hp->Prop),Inv X pins σ H s->t σ H Q->wpAny (model X.prog X.w) X.A (isTrue e X.env (eval e X.env)) (TP X pins σ Q) X.xe s
def PW(X:Cx)(e:Expr)(t:TT):Prop:=
 ∀(whole:Sem Value)(pins:List (Addr×Obj)) (s:Shared) (σ:St) (H:Hp) (Q:Bool->Hp->Prop),Inv X pins σ H s->t σ H Q->wpAny (model X.prog X.w) X.A (isTrue e X.env whole) (TP X pins σ Q) X.xe s
theorem PW.pt(h:PW X e t):PT X e t:=h _
def PA(X:Cx)(es:List Expr)(t:TA):Prop:=
 ∀(pos:Pos)(pins:List (Addr×Obj)) (s:Shared) (σ:St) (H:Hp) (Q:List V->Hp->Prop),Inv X pins σ H s->t σ H Q->wpAny (model X.prog X.w) X.A (spliced (backTo pos (starEach es X.env))) (AP X pins σ Q) X.xe s
def PS(X:Cx)(st:Stmt)(t:TS):Prop:=
 ∀(pins:List (Addr×Obj)) (s:Shared) (σ:St) (H:Hp) (D:Ends),Inv X pins σ H s->t D σ H->wpAny (model X.prog X.w) X.A (exec st X.env) (SP X pins D) X.xe s
def wk(X:Cx)(st:List Stmt)(t:TS):Prop:=
 ∀(pins:List (Addr×Obj)) (s:Shared) (σ:St) (H:Hp) (D:Ends),Inv X pins σ H s->t D σ H->wpAny (model X.prog X.w) X.A (execs st X.env) (SP X pins D) X.xe s
theorem cm(h:wpAny M A t Q E s)(hQ:∀a s,Q a s->Q' a s):wpAny M A t Q' E s:=Qo h hQ λ_ _ x=>x
section
variable {X:Cx}
def ND(i:Nat):TE:=λσ H Q=>∃v,σ[i]?=some (some v)/\Q v H
def tC(v:V):TE:=λ_ H Q=>Q v H
theorem Dr(hN:X.N[i]?=some x)(hv:Kt X.env.scope x)(hd:(x==("__debug__":Str))=false:=by decide)(hcd:(x==("__classdict__":Str))=false:=by decide):PE X (.Name x pos) (ND i):=by
 intro pins s σ H Q I h;obtain⟨v,e,h⟩:=h;obtain⟨m,hn,hl⟩:=I.loc;obtain⟨u,r,l⟩:=hl i x v hN e hv;have fin:EP X pins σ Q u s:=⟨v,H,I,r,h⟩;rcases l with⟨hk,hm⟩ |⟨hk,c,hc,hcell⟩
 ·exact Te (wpAny_loadName_local I.ok.kind hk hn hm fin) hd
 ·rcases hk with hk | hk
  ·exact Te (wpAny_loadName_cell I.ok.kind hk hc hcell fin) hd
  ·exact Te (wpAny_loadName_free I.ok.kind hk hc hcell fin hcd) hd
theorem I9{i j pos}:PE X (.Constant (.int i) j pos) (tC (.int i)):=λ_ _ _ H _ I h=>wpAny_Constant_int ⟨.int i,H,I.tok _,⟨_,rfl⟩,h⟩
theorem L7{b j pos}:PE X (.Constant (.bool b) j pos) (tC (.bl b)):=λ_ _ _ H _ I h=>Constant_bool ⟨.bl b,H,I,rfl,h⟩
theorem Dt{j pos}:PE X (.Constant .none j pos) (tC .bR):=λ_ _ _ H _ I h=>Constant_none ⟨.bR,H,I,rfl,h⟩
theorem IW{x j pos}:PE X (.Constant (.str x) j pos) (tC (.str x)):=λ_ _ _ H _ I h=>Calls.Constant_str ⟨.str x,H,I.tok _,⟨_,rfl⟩,h⟩
def Gl(X:Cx)(x:Str):Prop:=X.env.kindOf x=some .globalImplicit
theorem jr(I:Inv X pins σ H s)(hg:Gl X x)(hm:X.mg x=some u)(h:Q u s)(hd:(x==("__debug__":Str))=false:=by decide):wpAny (model X.prog X.w) X.A (eval (.Name x pos) X.env) Q E s:=
 UH I.ok.kind hg (Calls.loadGlobal_global (by rw[I.ok.glob];exact I.mod.glob.keeps I.bk) hm h) hd
theorem iW(I:Inv X pins σ H s)(hg:Gl X x)(hm:X.mg x=none)(hv:bootBuiltins x=some u)(h:Q u s)(hn:x≠"__name__":=by decide)(hd:(x==("__debug__":Str))=false:=by decide):wpAny (model X.prog X.w) X.A (eval (.Name x pos) X.env) Q E s:=by
 obtain⟨mb,h1,h2⟩:=I.mod.blt;exact UH I.ok.kind hg (Calls.loadGlobal_builtin (by rw[I.ok.glob];exact I.mod.glob.keeps I.bk) hm (by rw[I.ok.blt];exact h1.keeps I.bk) ((h2 x hn).trans hv) h) hd
theorem zJ(hg:Gl X x)(hm:X.mg x=some u)(r:RelV v u)(hd:(x==("__debug__":Str))=false:=by decide):PE X (.Name x pos) (tC v):=
 λ_ _ _ H _ I h=>jr I hg hm ⟨v,H,I,r,h⟩ hd
theorem zM(hg:Gl X x)(hm:X.mg x=none)(hv:bootBuiltins x=some u)(r:RelV v u)(hn:x≠"__name__":=by decide)(hd:(x==("__debug__":Str))=false:=by decide):PE X (.Name x pos) (tC v):=
 λ_ _ _ H _ I h=>iW I hg hm hv ⟨v,H,I,r,h⟩ hn hd
variable {a b:Expr} {ta tb:TE} {pos:Pos}
variable {tA tB':TT} {rest:List Expr}
def oN(t u:TT):TT:=λσ H Q=>t σ H λc H1=>if c=true then u σ H1 Q else Q false H1
def Cs(t u:TT):TT:=λσ H Q=>t σ H λc H1=>if c=true then Q true H1 else u σ H1 Q
def jC(t:TT):TT:=λσ H Q=>t σ H λc H1=>Q (!c) H1
theorem FH(ha:PT X a tA):PW X (.BoolOp .And [a] pos) tA:=by
 intro wh pins s σ H Q I h;refine isTrue_and (cm (ha pins s σ H Q I h) λc s1 e=>?_);cases c with
 | true=>exact isTrue_and_nil e
 | false=>exact e
theorem IG(ha:PT X a tA):PW X (.BoolOp .Or [a] pos) tA:=by
 intro wh pins s σ H Q I h;refine isTrue_or (cm (ha pins s σ H Q I h) λc s1 e=>?_);cases c with
 | false=>exact isTrue_or_nil e
 | true=>exact e
theorem IH(ha:PT X a tA)(hb:PW X (.BoolOp .And (b::rest) pos) tB'):PW X (.BoolOp .And (a::b::rest) pos) (oN tA tB'):=by
 intro wh pins s σ H Q I h;refine isTrue_and (cm (ha pins s σ H _ I h) λc s1 ⟨H1,I1,q1⟩=>?_);cases c with
 | true=>exact hb wh pins s1 σ H1 Q I1 q1
 | false=>exact⟨H1,I1,q1⟩
theorem LZ(ha:PT X a tA)(hb:PW X (.BoolOp .Or (b::rest) pos) tB'):PW X (.BoolOp .Or (a::b::rest) pos) (Cs tA tB'):=by
 intro wh pins s σ H Q I h;refine isTrue_or (cm (ha pins s σ H _ I h) λc s1 ⟨H1,I1,q1⟩=>?_);cases c with
 | true=>exact⟨H1,I1,q1⟩
 | false=>exact hb wh pins s1 σ H1 Q I1 q1
theorem IJ(ha:PT X a tA):PT X (.UnaryOp .Not a pos) (jC tA):=by
 intro pins s σ H Q I h;exact isTrue_not (ha pins s σ H (λc H1=>Q (!c) H1) I h)
def Lw(ta tb:TE):TE:=λσ H Q=>ta σ H λx H1=>∃c,x=.bl c/\if c=true then tb σ H1 Q else Q (.bl false) H1
def NH(ta tb:TE):TE:=λσ H Q=>ta σ H λx H1=>∃c,x=.bl c/\if c=true then Q (.bl true) H1 else tb σ H1 Q
def Lo(ta:TE):TE:=λσ H Q=>ta σ H λx H1=>∃c,x=.bl c/\Q (.bl (!c)) H1
theorem IY{op}(h:PE X a t):PE X (.BoolOp op [a] pos) t:=λpins s σ H Q I hw=>BoolOp_one (h pins s σ H Q I hw)
theorem Ja(ha:PE X a ta)(hb:PE X (.BoolOp .And (b::rest) pos) tb):PE X (.BoolOp .And (a::b::rest) pos) (Lw ta tb):=by
 intro pins s σ H Q I h;refine BoolOp_and (cm (ha pins s σ H _ I h) λv s1 ⟨x,H1,I1,r1,q1⟩=>?_);obtain⟨c,rfl,q1⟩:=q1;cases r1;refine QQ ?_;cases c with
 | true=>exact hb pins s1 σ H1 Q I1 q1
 | false=>exact⟨.bl false,H1,I1,rfl,q1⟩
theorem L4(ha:PE X a ta)(hb:PE X (.BoolOp .Or (b::rest) pos) tb):PE X (.BoolOp .Or (a::b::rest) pos) (NH ta tb):=by
 intro pins s σ H Q I h;refine BoolOp_or (cm (ha pins s σ H _ I h) λv s1 ⟨x,H1,I1,r1,q1⟩=>?_);obtain⟨c,rfl,q1⟩:=q1;cases r1;refine QQ ?_;cases c with
 | false=>exact hb pins s1 σ H1 Q I1 q1
 | true=>exact⟨.bl true,H1,I1,rfl,q1⟩
theorem IZ(ha:PE X a ta):PE X (.UnaryOp .Not a pos) (Lo ta):=by
 intro pins s σ H Q I h;refine UnaryOp_ (cm (ha pins s σ H _ I h) λv s1 ⟨x,H1,I1,r1,q1⟩=>?_);obtain⟨c,rfl,q1⟩:=q1;cases r1;exact not_of (QQ ⟨.bl (!c),H1,I1,rfl,q1⟩)
end
def fV(K:FR)(H:Hp)(a:Addr)(xs:List V):Prop:=
 Rd H a (.lst xs)\/
  ∃(o:Obj)(its:Array Value)(n:Nat),K.lookup a=some o/\o.cls=.type "list"/\o.dict=none/\o.data=.seq its n/\its.size<=sizeLine/\Vals xs its.toList
def jB(K:FR)(H:Hp)(a:Addr)(xs:List V):Prop:=
 Rd H a (.tup xs)\/
  ∃(o:Obj)(its:Array Value)(n:Nat),K.lookup a=some o/\o.cls=.type "tuple"/\o.data=.seq its n/\its.size<=sizeLine/\Vals xs its.toList/\o.dict=none
noncomputable def OL:Value->Option V
 | .none=>some .bR
 | .bool b=>some (.bl b)
 | .int i _=>some (.int i)
 | .str x _=>some (.str x)
 | .bytes b _=>some (.byt b)
 | .float b _=>some (.KS b)
 | .ref a=>some (.ref a)
 | .type n=>some (.ty n)
 | _=>none
theorem RelV.abs(r:RelV x u):OL u=some x:=by
 cases x with
 | bR=>cases r;rfl
 | bl _=>cases r;rfl
 | int _=>obtain⟨t,rfl⟩:=r;rfl
 | str _=>obtain⟨t,rfl⟩:=r;rfl
 | byt _=>obtain⟨t,rfl⟩:=r;rfl
 | KS _=>obtain⟨t,rfl⟩:=r;rfl
 | ref _=>cases r;rfl
 | ty _=>cases r;rfl
theorem RelV.inj(r:RelV x u)(q:RelV y u):x=y:=Option.some.inj (r.abs.symm.trans q.abs)
theorem Vals.inj{xs ys:List V}{us:List Value}(a:Vals xs us)(b:Vals ys us):xs=ys:=by
 induction a generalizing ys with
 | nil=>cases b;rfl
 | cons r t ih=>cases b with | cons r' t'=>rw[r.inj r',ih t']
theorem fV.of{K:FR}(h:H a=some (.lst xs)):fV K H a xs:=.inl (.inl h)
theorem Inv.list(I:Inv X pins σ H s)(h:fV X.K H a xs):∃its:List Value,Vals xs its/\PlainL s.heap a its.toArray/\xs.length<=sizeLine:=by
 rcases h with h |⟨o,its,n,hk,hc,hd,hs,hz,r⟩
 ·obtain⟨z,its,n,r,e⟩:=h.ok I.ba;exact⟨its,r,⟨_,n,e,rfl,rfl,rfl⟩,z⟩
 ·refine⟨its.toList,r,⟨o,n,I.ou a o hk,hc,hd,by simpa using hs⟩,?_⟩;have e:=r.length;simp only[RP] at e
  lia
theorem Inv.tuple(I:Inv X pins σ H s)(h:jB X.K H a xs):∃its:List Value,Vals xs its/\IsTup s.heap a its.toArray/\xs.length<=sizeLine:=by
 rcases h with h |⟨o,its,n,hk,hc,hs,hz,r,_⟩
 ·obtain⟨z,its,r,p⟩:=h.ok I.ba;exact⟨its,r,p.tup,z⟩
 ·refine⟨its.toList,r,⟨o,I.ou a o hk,hc,n,by simpa using hs⟩,?_⟩;have e:=r.length;simp only[RP] at e
  lia
theorem Inv.xh(I:Inv X pins σ H s)(h:fV X.K H a xs)(h':fV X.K H a ys):xs=ys:=by
 obtain⟨its,r,⟨o,n,e,_,_,d⟩,_⟩:=I.list h;obtain⟨its',r',⟨o',n',e',_,_,d'⟩,_⟩:=I.list h';rw[e] at e';cases e';rw[d] at d';injection d' with d1 _
 have:its=its':=by simpa using congrArg Array.toList d1
 subst this;exact r.inj r'
theorem Inv.sJ(I:Inv X pins σ H s)(h:jB X.K H a xs)(h':jB X.K H a ys):xs=ys:=by
 obtain⟨its,r,⟨o,e,_,n,d⟩,_⟩:=I.tuple h;obtain⟨its',r',⟨o',e',_,n',d'⟩,_⟩:=I.tuple h';rw[e] at e';cases e';rw[d] at d';injection d' with d1 _
 have:its=its':=by simpa using congrArg Array.toList d1
 subst this;exact r.inj r'
abbrev Cx.pJ(X:Cx)(E:Value->Shared->Prop):Cx:={X with xe:=E}
abbrev Cx.DK(X:Cx):Cx:=X.pJ λ_ _=>False
theorem Cx.Ok.pJ{X:Cx}(ok:X.Ok)(E:Value->Shared->Prop):(X.pJ E).Ok:=
 ⟨ok.mod,ok.kind,ok.glob,ok.blt,ok.above,ok.inj,ok.has,ok.KY,ok.hd,ok.frames,ok.Ly,ok.Oz,ok.bs,ok.E2,ok.Bc,ok.Ee,ok.ni,ok.Hk⟩
theorem Cx.Ok.gn{X:Cx}{E:Value->Shared->Prop}(ok:(X.pJ E).Ok):X.Ok:=
 ⟨ok.mod,ok.kind,ok.glob,ok.blt,ok.above,ok.inj,ok.has,ok.KY,ok.hd,ok.frames,ok.Ly,ok.Oz,ok.bs,ok.E2,ok.Bc,ok.Ee,ok.ni,ok.Hk⟩
theorem Inv.pJ(I:Inv X pins σ H s)(E:Value->Shared->Prop):Inv (X.pJ E) pins σ H s:=⟨I.ok.pJ E,I.os,I.bare,I.base,I.loc,I.cell,I.free,I.fM,I.pin,I.ba,I.len⟩
theorem Inv.gn(I:Inv (X.pJ E) pins σ H s):Inv X pins σ H s:=⟨I.ok.gn,I.os,I.bare,I.base,I.loc,I.cell,I.free,I.fM,I.pin,I.ba,I.len⟩
theorem SP.gn(h:SP (X.pJ E) pins D f s'):SP X pins D f s':=by
 cases f with
 | next=>obtain⟨σ',H',I,q⟩:=h;exact⟨σ',H',I.gn,q⟩
 | brk=>obtain⟨σ',H',I,q⟩:=h;exact⟨σ',H',I.gn,q⟩
 | cont=>obtain⟨σ',H',I,q⟩:=h;exact⟨σ',H',I.gn,q⟩
 | ret u=>obtain⟨v,σ',H',I,r,q⟩:=h;exact⟨v,σ',H',I.gn,r,q⟩
theorem wk.DK{st:List Stmt}{t:TS}(h:wk X.DK st t):wk X st t:=λpins s σ H D I hw=>
 Qo (h pins s σ H D (I.pJ _) hw) (λ_ _ q=>q.gn) λ_ _ z=>False.elim z
section
variable {X:Cx} {st:Stmt} {rest:List Stmt} {t u:TS} {e:Expr} {te:TE} {pos:Pos}
def Lq:TS:=λD σ H=>D.nx σ H
def Lj(t u:TS):TS:=λD σ H=>t {D with nx:=u D} σ H
theorem FK:wk X [] Lq:=λ_ _ σ H _ I h=>RX ⟨σ,H,I,h⟩
theorem wN(h1:PS X st t)(h2:wk X rest u):wk X (st::rest) (Lj t u):=by
 intro pins s σ H D I h;refine Ri (cm (h1 pins s σ H {D with nx:=u D} I h) λf s1 q=>?_);cases f with
 | next=>
  obtain⟨σ',H',I',q⟩:=q;exact h2 pins s1 σ' H' D I' q
 | ret v=>exact q
 | brk=>exact q
 | cont=>exact q
theorem FJ(h1:PS X st t):wk X [st] t:=by
 intro pins s σ H D I h;refine Ri (cm (h1 pins s σ H D I h) λf s1 q=>?_);cases f with
 | next=>exact RX q
 | ret v=>exact q
 | brk=>exact q
 | cont=>exact q
theorem Inv.quiet(I:Inv X pins σ H s):interactive X.env=false:=by simp[interactive,I.ok.kind]
def Lu(te:TE):TS:=λD σ H=>te σ H λ_ H1=>D.nx σ H1
theorem FO(he:PE X e te)(hs:swapsWith e none pos.line X.env=pure false:=by rfl):PS X (.Expr e pos) (Lu te):=by
 intro pins s σ H D I h;exact wpAny_Expr_any (cm (he pins s σ H _ I h) λv s1 ⟨x,H1,I1,r1,q1⟩=>⟨σ,H1,I1,q1⟩) I.quiet hs
def NG(te:TE):TS:=λD σ H=>te σ H D.rt
theorem IK(he:PE X e te):PS X (.Return (some e) pos) (NG te):=by
 intro pins s σ H D I h;exact wpAny_Return_some (cm (he pins s σ H _ I h) λv s1 ⟨x,H1,I1,r1,q1⟩=>⟨x,σ,H1,I1,r1,q1⟩)
def NK(c:TT)(t u:TS):TS:=λD σ H=>c σ H λb H1=>if b=true then t D σ H1 else u D σ H1
theorem He(hc:PT X c tc)(ha:wk X a t)(hb:wk X b u):PS X (.If c a b pos) (NK tc t u):=by
 intro pins s σ H D I h;refine wpAny_If (cm (hc pins s σ H _ I h) λd s1 ⟨H1,I1,q1⟩=>?_);cases d with
 | true=>exact ha pins s1 σ H1 D I1 q1
 | false=>exact hb pins s1 σ H1 D I1 q1
def HV:TS:=λ_ _ _=>False
theorem Dh:PS X st HV:=λ_ _ _ _ _ _ h=>h.elim
end
abbrev TG:=V->St->Hp->(St->Hp->Prop)->Prop
abbrev Kw:=List V->St->Hp->(St->Hp->Prop)->Prop
def PG(X:Cx)(target:Expr)(t:TG):Prop:=
 ∀(pins:List (Addr×Obj)) (s:Shared) (σ:St) (H:Hp) (v:V) (u:Value) (Q:St->Hp->Prop),Inv X pins σ H s->RelV v u->t v σ H Q->
  wpAny (model X.prog X.w) X.A (assign target X.env u) (λ_ s'=>∃σ' H',Inv X pins σ' H' s'/\Q σ' H') X.xe s
def HA(X:Cx)(ts:List Expr)(t:Kw):Prop:=
 ∀(pins:List (Addr×Obj)) (s:Shared) (σ:St) (H:Hp) (vs:List V) (us:List Value) (Q:St->Hp->Prop),Inv X pins σ H s->Vals vs us->t vs σ H Q->
  wpAny (model X.prog X.w) X.A (assignInOrder ((assignEach ts X.env).map (·.2)) us) (λ_ s'=>∃σ' H',Inv X pins σ' H' s'/\Q σ' H') X.xe s
abbrev MV:=V->V->V->Hp->(Hp->Prop)->Prop
def KC(X:Cx)(t:MV):Prop:=
 ∀(pins:List (Addr×Obj)) (s:Shared) (σ:St) (H:Hp) (o i v:V) (ov iv u:Value) (Q:Hp->Prop),Inv X pins σ H s->RelV o ov->RelV i iv->RelV v u->t o i v H Q->
  wpAny (model X.prog X.w) X.A (setItem ov iv u) (λ_ s'=>∃H',Inv X pins σ H' s'/\Q H') X.xe s
def xm(i:Nat):TG:=λv σ H Q=>Q (σ.set i (some v)) H
theorem F5(hN:X.N.Nodup)(hi:X.N[i]?=some x)(hx:Loc X.env.scope x)(hf:X.fn x=true\/X.env.scope.names.lookup x=some .local:=by first | exact .inl rfl | exact .inr rfl | assumption):PG X (.Name x pos) (xm i):=by
 intro pins s σ H v u Q I r h;exact wpAny_assign_Name (gz I hN hi hx r (λs' I'=>⟨_,H,I',h⟩) hf)
noncomputable def Ox:Kw:=λvs σ H Q=>vs=[]/\Q σ H
def Mv(t:TG)(u:Kw):Kw:=λvs σ H Q=>∃v r,vs=v::r/\t v σ H λσ' H'=>u r σ' H' Q
theorem F4:HA X [] Ox:=by
 intro pins s σ H vs us Q I r h;obtain⟨e,h⟩:=h;subst e;cases r;exact assignInOrder_nil ⟨σ,H,I,h⟩
theorem Dq(h1:PG X e t)(h2:HA X es u)(hs:(assignEach (e::es) X.env).map (·.2)=assign e X.env::(assignEach es X.env).map (·.2):=by rfl):HA X (e::es) (Mv t u):=by
 intro pins s σ H vs us Q I r h;obtain⟨v,vr,e1,h⟩:=h;subst e1;cases r with
 | cons r rr=>
  rw[hs];refine UB (cm (h1 pins s σ H _ _ _ I r h) λ_ s1 ⟨σ1,H1,I1,q1⟩=>?_);exact h2 pins s1 σ1 H1 _ _ Q I1 rr q1
def Ow(K:FR)(n:Nat)(t:Kw):TG:=λv σ H Q=>∃a xs,v=.ref a/\jB K H a xs/\xs.length=n/\t xs σ H Q
theorem IS(hc:X.calm=true)(h:HA X es t)(hn:(assignEach es X.env).length=n:=by rfl)(hst:(assignEach es X.env).findIdx? (·.1)=none:=by rfl):PG X (.Tuple es k pos) (Ow X.K n t):=by
 intro pins s σ H v u Q I r hw;obtain⟨a,xs,e1,hq,hl,hw⟩:=hw;subst e1;cases r;obtain⟨its,rv,ht,hz⟩:=I.tuple hq;refine assign_Tuple_tuple (I.ok.hd hc) ht (by simp[hn,<-hl,rv.length]) hst λh' hx=>?_;have I1:Inv X pins σ H {s with heap:=h'}:=I.kept (t':=s.toks) λb o e=>hx b o (Qe (P2 e)) e;exact h pins _ σ H xs _ Q I1 (by simpa using rv) hw
def sE(to ti:TE)(t:MV):TG:=λv σ H Q=>to σ H λo H1=>ti σ H1 λi H2=>t o i v H2 λH3=>Q σ H3
theorem IT (ho:PE X o to) (hi:PE X i ti) (hs:KC X t) (ha:∀v,assign (.Subscript o i pos) X.env v=(do
   let ov<-holding [v] (eval o X.env);let iv<-holding [v,ov] (eval i X.env)
   standAt pos
   holding [v,ov,iv] (setItem ov iv v)
   release [v,ov,iv] []):=by intro _;rfl):PG X (.Subscript o i pos) (sE to ti t):=by
 intro pins s σ H v u Q I r h;rw[ha];refine PD (Q0 (cm (ho pins s σ H _ I h) λov s1 ⟨x,H1,I1,r1,q1⟩=>?_));refine PD (Q0 (cm (hi pins s1 σ H1 _ I1 q1) λiv s2 ⟨y,H2,I2,r2,q2⟩=>?_));refine PD (QP (PD (Q0 (cm (hs pins s2 σ H2 x y v ov iv u _ I2 r1 r2 r q2) λ_ s3 ⟨H3,I3,q3⟩=>?_))));exact wpAny_release ⟨σ,H3,I3,q3⟩
def Fe(te:TE)(g:TG):TS:=λD σ H=>te σ H λx H1=>g x σ H1 D.nx
theorem Dj(he:PE X e te)(hg:PG X tg g)(hs:swapsWithSole [tg] e pos.line X.env=pure false:=by rfl)(hw:swappedStores [tg] e X.env=pure none:=by rfl)(h1:(assignEach [tg] X.env).map (·.2)=[assign tg X.env]:=by rfl):PS X (.Assign [tg] e pos) (Fe te g):=by
 intro pins s σ H D I h;refine wpAny_Assign_stores (cm (he pins s σ H _ I h) λv s1 ⟨x,H1,I1,r1,q1⟩=>?_) hs hw;rw[h1];exact cm (hg pins s1 σ H1 x v _ I1 r1 q1) λ_ s2 q=>q
theorem yp(hN:X.N.Nodup)(hi:X.N[i]?=some x)(hx:Loc X.env.scope x)(he:PE X e te)(hs:swapsWith e (some (.Name x pos')) pos.line X.env=pure false:=by rfl)(hf:X.fn x=true\/X.env.scope.names.lookup x=some .local:=by first | exact .inl rfl | exact .inr rfl | assumption):
  PS X (.Assign [.Name x pos'] e pos) (Fe te (xm i)):=by
 intro pins s σ H D I h;refine wpAny_Assign_Name (cm (he pins s σ H _ I h) λv s1 ⟨y,H1,I1,r1,q1⟩=>?_) hs;exact gz I1 hN hi hx r1 (λs2 I2=>⟨_,H1,I2,q1⟩) hf
def Ll(i j:Nat)(ta:TA):TS:=λD σ H=>ta σ H λvs H1=>∃v w,vs=[v,w]/\D.nx ((σ.set i (some v)).set j (some w)) H1
theorem uY{kt k2 pt2}(hc:X.calm=true)(hN:X.N.Nodup)(hi:X.N[i]?=some x)(hj:X.N[j]?=some y)(hij:i≠j)(hx:X.env.scope.names.lookup x=some .local)(hy:X.env.scope.names.lookup y=some .local)(ha:PA X [a,b] ta)(hw:swappedStores [.Tuple [.Name x px,.Name y py] kt pt] (.Tuple [a,b] k2 pt2) X.env=pure (some [x,y]))(hs:swapsWithSole [.Tuple [.Name x px,.Name y py] kt pt] (.Tuple [a,b] k2 pt2) pos.line X.env=pure false:=by rfl):
  PS X (.Assign [.Tuple [.Name x px,.Name y py] kt pt] (.Tuple [a,b] k2 pt2) pos) (Ll i j ta):=by
 intro pins s σ H D I h;rw[exec_Assign_arm];refine PD (QP ?_);rw[hs];refine PD (PX ?_);rw[P0 (by decide)];refine PD (Tuple_ (cm (ha _ pins s σ H _ I h) λus s1 ⟨vs,H1,I1,r1,q1⟩=>?_));obtain⟨v,w,e1,q1⟩:=q1;subst e1;obtain⟨u1,u2,rfl,rv,rw'⟩:∃u1 u2,us=[u1,u2]/\RelV v u1/\RelV w u2:=by
  cases r1 with
  | cons p q=>
   cases q with
   | cons p' q'=>
    cases q';exact⟨_,_,rfl,p,p'⟩
 refine QH ?_ (by show 2<=sizeLine;decide);have I2:Inv X pins σ H1 {s1 with heap:=s1.heap.push {cls:=.type "tuple",data:=.seq [u1,u2].toArray}}:=I1.kept (t':=s1.toks) λb o e=>PN _ e;rw[hw];refine PD (PX ?_);show wpAny (model X.prog X.w) X.A (do rule "assign.swapped-stores";let items<-unpackItems (.ref s1.heap.objs.size) 2 none;assignInOrder [λv=>bindName X.env y v,λv=>bindName X.env x v] items.reverse;pure Flow.next) _ _ _;refine PD (RY (PD (unpackItems_tuple (items:=#[u1,u2]) (I.ok.hd hc) (IsTup.new s1.heap _) λh' hx'=>?_)));have I3:=I2.kept (h':=h') (t':=s1.toks) λb o e=>hx' b o (Qe (P2 e)) e;show wpAny _ _ (assignInOrder [λv=>bindName X.env y v,λv=>bindName X.env x v] [u2,u1] >>=λ_=>pure Flow.next) _ _ _;refine PD (UB (UG (gz I3 hN hj (.inl hy) rw' (λs2 I4=>?_) (.inr hy))));refine UB (UG (gz I4 hN hi (.inl hx) rv (λs3 I5=>assignInOrder_nil (PX ?_)) (.inr hx)));rw[List.set_comm _ _ (Q2 hij)] at I5;exact⟨_,H1,I5,q1⟩
structure It where
 go:Nat->Hp->Prop
 G2:Nat->Hp->V->Hp->Prop
 stop:Nat->Hp->Prop
def gx(X:Cx)(pins:List (Addr×Obj))(H:Hp)(b:Addr):Prop:=
 H b=none/\b≠X.env.locals/\b∉X.fs/\(b∈X.ex\/X.s₀.heap.objs.size<=b)/\(∀x c,X.env.cells.lookup x=some c->c≠b)/\∀p∈X.pn++pins,p.1≠b
theorem Inv.D2(I:Inv X pins σ H s)(hb:s.heap.objs.size<=b)(hn:H' b=none):gx X pins H' b:=by
 refine⟨hn,SK (Qd I.lt hb),I.Ol hb,.inr (PY I.sz hb),λx c e z=>?_,λp hp z=>?_⟩
 ·obtain⟨v,q⟩:=I.cell x c e;exact absurd (Qd q.lt (by rw[z];exact hb)) (Q4 _)
 ·exact absurd (Qd (P2 (I.pin p hp).1) (by rw[z];exact hb)) (Q4 _)
structure Turn(P:Program)(w:World)(K:FR)(tg:Expr)(J:It)(fp:List Addr)(it:Addr)(tn:Nat->Heap->Prop):Prop where
 mem:it∈fp
 obj:∀i h,tn i h->∀b∈fp,∃o,h.get? b=some o/\∀v,o.data≠.cell v
 keep:∀i h h',tn i h->(∀b∈fp,∀o,h.get? b=some o->h'.get? b=some o)->tn i h'
 item:∀(X:Cx),X.prog=P->X.w=w->X.K=K->X.calm=true->∀(i:Nat)(pins:List (Addr×Obj)) (s:Shared) (σ:St) (H:Hp) (E:Value->Shared->Prop),Inv X pins σ H s->(∀b∈fp,gx X pins H b)->tn i s.heap->J.go i H->
  wpAny (model P w) X.A (pyNext (.ref it)) (λr s1=>∃u,r=some u/\
   wpAny (model P w) X.A (letOwnedTupleGo tg (.ref it) u) (λ_ s2=>∃x H',Inv X pins σ H' s2/\RelV x u/\J.G2 i H x H'/\tn (i+1) s2.heap/\∀b∈fp,H' b=none) E s1) E s
 done:∀(X:Cx),X.prog=P->X.w=w->X.K=K->X.calm=true->∀(i:Nat)(pins:List (Addr×Obj)) (s:Shared) (σ:St) (H:Hp) (E:Value->Shared->Prop),Inv X pins σ H s->(∀b∈fp,gx X pins H b)->tn i s.heap->J.stop i H->
  wpAny (model P w) X.A (pyNext (.ref it)) (λr s1=>r=none/\Inv X pins σ H s1) E s
 self:∀(A:Around)(i:Nat)(s:Shared)(Q:Value->Shared->Prop)(E:Value->Shared->Prop),tn i s.heap->Q (.ref it) s->wpAny (model P w) A (pyIter (.ref it)) Q E s
abbrev TI:=St->Hp->(It->Hp->Prop)->Prop
def Pd(X:Cx)(pins:List (Addr×Obj))(σ:St)(tg:Expr)(R:It->Hp->Prop)(itv:Value)(s2:Shared):Prop:=
 ∃(it:Addr)(fp:List Addr)(tn:Nat->Heap->Prop)(J:It)(H':Hp),itv=.ref it/\Inv X pins σ H' s2/\Turn X.prog X.w X.K tg J fp it tn/\tn 0 s2.heap/\(∀b∈fp,gx X pins H' b)/\R J H'
def PI(X:Cx)(tg iter:Expr)(wi:TI):Prop:=
 ∀(pins:List (Addr×Obj)) (s:Shared) (σ:St) (H:Hp) (R:It->Hp->Prop),Inv X pins σ H s->wi σ H R->
  wpAny (model X.prog X.w) X.A (eval iter X.env) (λv s1=>wpAny (model X.prog X.w) X.A (pyIter v) (Pd X pins σ tg R) X.xe s1) X.xe s
theorem D0(ho:s.heap.get? it=some o)(hc:o.cls=.type n)(hd:o.data=.fields vs)(hn:["enumerate","zip","dict_itemiterator","dict_reverseitemiterator","odict_iterator","itertools.zip_longest","itertools.pairwise"].contains n=false)(hQ:Q () s):wpAny M A (letOwnedTupleGo tg (.ref it) u) Q E s:=by
 unfold letOwnedTupleGo;cases tg <;> first
  | exact PX hQ
  |(cases u <;> first
    | exact PX hQ
    |(refine PD (wpAny_load ho ?_);rw[hc,hd];show wpAny M A (if(["enumerate","zip","dict_itemiterator","dict_reverseitemiterator","odict_iterator","itertools.zip_longest","itertools.pairwise"].contains n&&vs[0]?==some (rawInt _))=true then _ else _) Q E s;rw[P0 (by intro h;rw[hn,Bool.false_and] at h;cases h)];exact PX hQ))
noncomputable def OQ(K:FR)(a:Addr):It:=
 ⟨λi H=>∃xs x,fV K H a xs/\xs[i]?=some x,λi H x H'=>H'=H/\∀xs,fV K H a xs->xs[i]?=some x,λi H=>∃xs,fV K H a xs/\xs.length<=i⟩
noncomputable def OP(K:FR)(a:Addr):It:=
 ⟨λi H=>∃xs x,jB K H a xs/\xs[i]?=some x,λi H x H'=>H'=H/\∀xs,jB K H a xs->xs[i]?=some x,λi H=>∃xs,jB K H a xs/\xs.length<=i⟩
noncomputable def Nv(lo:Int)(n:Nat):It:=⟨λi _=>i < n,λi H x H'=>H'=H/\x=.int (lo+i),λi _=>n<=i⟩
theorem AB{P:Program}{w:World}{K:FR}{tg:Expr}(a it:Addr):Turn P w K tg (OQ K a) [it] it (λi h=>h.IsListIter it a i) where
 mem:=by simp
 obj:=λi h st b hb=>by
  have e:b=it:=by simpa using hb
  subst e;obtain⟨o,e,c,d⟩:=st;exact⟨o,e,λv z=>by rw[d] at z;cases z⟩
 keep:=λi h h' st k=>st.at λo e=>k it (by simp) o e
 item:=by
  intro X hP hw hK hc i pins s σ H E I hf st hg;subst hP hw hK;obtain⟨xs,x,hq,hx⟩:=hg;obtain⟨its,rv,p,hz⟩:=I.list hq;obtain⟨u,hu,ru⟩:=rv.get hx;obtain⟨f0,f1,f2,f3,f4,f5⟩:=hf it (by simp);refine wpAny_pyNext_list_item st p.isList (x:=u) (by simpa using hu) λh' st' sb=>?_;have I1:Inv X pins σ H {s with heap:=h'}:=I.turned (t':=s.toks) (λb o hb e=>(sb.2 b hb).trans e) f0 f1 f3 f4 f5;obtain⟨o,e,c,d⟩:=id st';exact⟨u,rfl,D0 (s:={s with heap:=h'}) e c d (by decide) ⟨x,H,I1,ru,⟨rfl,λys hy=>by rw[I.xh hy hq];exact hx⟩,st',λb hb=>(hf b hb).1⟩⟩
 done:=by
  intro X hP hw hK hc i pins s σ H E I hf st hg;subst hP hw hK;obtain⟨xs,hq,hx⟩:=hg;obtain⟨its,rv,p,hz⟩:=I.list hq;obtain⟨f0,f1,f2,f3,f4,f5⟩:=hf it (by simp);have hl:=rv.length;exact wpAny_pyNext_list_end (I.ok.hd hc) st p.isList (by simp;lia) λh' eb=>⟨rfl,I.turned (t':=s.toks) (λb o hb e=>eb b o hb e) f0 f1 f3 f4 f5⟩
 self:=λ_ _ _ _ _ st h=>wpAny_pyIter_listiter st h
theorem xX{P:Program}{w:World}{K:FR}{tg:Expr}(a it:Addr):Turn P w K tg (OP K a) [it] it (λi h=>h.IsTupleIter it a i) where
 mem:=by simp
 obj:=λi h st b hb=>by
  have e:b=it:=by simpa using hb
  subst e;obtain⟨o,e,c,d⟩:=st;exact⟨o,e,λv z=>by rw[d] at z;cases z⟩
 keep:=λi h h' st k=>st.at λo e=>k it (by simp) o e
 item:=by
  intro X hP hw hK hc i pins s σ H E I hf st hg;subst hP hw hK;obtain⟨xs,x,hq,hx⟩:=hg;obtain⟨its,rv,p,hz⟩:=I.tuple hq;obtain⟨u,hu,ru⟩:=rv.get hx;obtain⟨f0,f1,f2,f3,f4,f5⟩:=hf it (by simp);refine wpAny_pyNext_tuple_item st (show s.heap.IsTuple a its.toArray from p) (x:=u) (by simpa using hu) λh' st' sb=>?_;have I1:Inv X pins σ H {s with heap:=h'}:=I.turned (t':=s.toks) (λb o hb e=>(sb.2 b hb).trans e) f0 f1 f3 f4 f5;obtain⟨o,e,c,d⟩:=id st';exact⟨u,rfl,D0 (s:={s with heap:=h'}) e c d (by decide) ⟨x,H,I1,ru,⟨rfl,λys hy=>by rw[I.sJ hy hq];exact hx⟩,st',λb hb=>(hf b hb).1⟩⟩
 done:=by
  intro X hP hw hK hc i pins s σ H E I hf st hg;subst hP hw hK;obtain⟨xs,hq,hx⟩:=hg;obtain⟨its,rv,p,hz⟩:=I.tuple hq;obtain⟨f0,f1,f2,f3,f4,f5⟩:=hf it (by simp);have hl:=rv.length;exact wpAny_pyNext_tuple_end (I.ok.hd hc) st (show s.heap.IsTuple a its.toArray from p) (by simp;lia) λh' eb=>⟨rfl,I.turned (t':=s.toks) (λb o hb e=>eb b o hb e) f0 f1 f3 f4 f5⟩
 self:=λ_ _ _ _ _ st h=>wpAny_pyIter_tupleiter st h
theorem xY{P:Program}{w:World}{K:FR}{tg:Expr}(it:Addr)(lo:Int)(n:Nat):Turn P w K tg (Nv lo n) [it] it (λi h=>IsRangeIter h it (lo+(i:Nat)*1) ((n:Int)-(i:Nat)) 1) where
 mem:=by simp
 obj:=λi h st b hb=>by
  have e:b=it:=by simpa using hb
  subst e;exact⟨_,st,λv z=>by
   have z':Data.fields _=Data.cell v:=z;cases z'⟩
 keep:=λi h h' st k=>k it (by simp) _ st
 item:=by
  intro X hP hw hK hc i pins s σ H E I hf st hg;subst hP hw hK;obtain⟨f0,f1,f2,f3,f4,f5⟩:=hf it (by simp);have W:=Walks.range (prog:=X.prog) (w:=X.w) (I.ok.hd hc) it lo 1 n;refine W.item i s _ _ hg st λv h' tk hv st' kk=>?_;obtain⟨t,rfl⟩:=hv;have I1:Inv X pins σ H {s with heap:=h',toks:=tk}:=I.turned (λb o hb e=>kk b o (by simpa using hb) e) f0 f1 f3 f4 f5;refine⟨_,rfl,D0 (s:={s with heap:=h',toks:=tk}) (n:="range_iterator") st' rfl rfl (by decide) ⟨.int (lo+i),H,I1,⟨t,?_⟩,⟨rfl,rfl⟩,st',λb hb=>(hf b hb).1⟩⟩;rw[Int.mul_one]
 done:=by
  intro X hP hw hK hc i pins s σ H E I hf st hg;subst hP hw hK;obtain⟨f0,f1,f2,f3,f4,f5⟩:=hf it (by simp);exact wpAny_pyNext_range_end (I.ok.hd hc) st (by have:n<=i:=hg;lia) λh' eb=>⟨rfl,I.turned (t':=s.toks) (λb o hb e=>eb b o hb e) f0 f1 f3 f4 f5⟩
 self:=λ_ _ _ _ _ st h=>wpAny_pyIter_rangeiter st h
theorem CW{pins:List (Addr×Obj)}{σ:St}{H:Hp}{s:Shared}{R:It->Hp->Prop}{E:Value->Shared->Prop}{lo hi:Int}{t u v:Tok}{tk:Nat}(I:Inv X pins σ H s)(h1:-(2^62)<=lo)(h2:lo < 2^62)(h3:-(2^62)<=hi)(h4:hi < 2^62)
  (q:R (Nv lo (hi-lo).toNat) H):wpAny (model X.prog X.w) X.A (pyIter (.ref s.heap.objs.size)) (Pd X pins σ tg R) E {s with heap:=s.heap.push {cls:=.type "range",data:=.fields #[.int lo t,.int hi u,.int 1 v]},toks:=tk}:=by
 refine wpAny_pyIter_range (IsRange.new ..) (small_one h1 h2 h3 h4) ?_;have I1:Inv X pins σ H {s with heap:=s.heap.push {cls:=.type "range",data:=.fields #[.int lo t,.int hi u,.int 1 v]},toks:=tk}:=I.kept λb o e=>PN _ e;refine⟨(s.heap.push {cls:=.type "range",data:=.fields #[.int lo t,.int hi u,.int 1 v]}).objs.size,[(s.heap.push {cls:=.type "range",data:=.fields #[.int lo t,.int hi u,.int 1 v]}).objs.size],_,_,H,rfl,
  I1.kept (t':=tk) λb o e=>PN _ e,xY _ lo (hi-lo).toNat,?_,λb hb=>?_,q⟩
 ·have e1:lo+((0:Nat):Int)*1=lo:=by simp
  have e2:(((hi-lo).toNat:Nat):Int)-((0:Nat):Int)=Builtin.Range.rangeSize lo hi 1:=by rw[rangeSize_one];split <;> lia
  show IsRangeIter _ _ (lo+((0:Nat):Int)*1) ((((hi-lo).toNat:Nat):Int)-((0:Nat):Int)) 1;rw[e1,e2];exact Qk _ rfl
 ·have e:b=(s.heap.push {cls:=.type "range",data:=.fields #[.int lo t,.int hi u,.int 1 v]}).objs.size:=by simpa using hb
  subst e;exact I1.D2 (PJ _) (I1.ba.fresh (PJ _))
def Mp(ta:TA):TI:=λσ H R=>ta σ H λvs H1=>∃j:Int,vs=[.int j]/\-(2^62)<=j/\j < 2^62/\R (Nv 0 j.toNat) H1
theorem AY{a:Expr}{ta:TA}{p pos:Pos}(hg:Gl X "range")(hm:X.mg "range"=none)(ha:PA X [a] ta)(hs:starEach [a] X.env=[(false,eval a X.env)]:=by rfl):PI X tg (.Call (.Name "range" p) [a] [] pos) (Mp ta):=by
 intro pins s σ H R I h;refine Call_ (iW I hg hm boot_range (Q1 (cm (ha pos pins s σ H _ I h) λus s1 ⟨vs,H1,I1,r1,q1⟩=>?_) hs rfl));obtain⟨j,e,q1,q2,q⟩:=q1;subst e;cases r1 with
 | cons r rr=>
  cases rr;obtain⟨t,rfl⟩:=r;exact call_range_1 (CW I1 (by lia) (by lia) q1 q2 (by simpa using q))
def Ls(wi:TI)(g:TG)(tb:TS):TS:=λD σ H=>wi σ H λJ H1=>∃W:Nat->Nat->St->Hp->Prop,(∃m,W 0 m σ H1)/\∀i m σ H,W i m σ H->
 (J.stop i H/\D.nx σ H)\/(J.go i H/\∃N:St->Hp->Prop,(∀σ' H',N σ' H'->∃m',m' < m/\W (i+1) m' σ' H')/\∀x H',J.G2 i H x H'->g x σ H' λσ2 H2=>tb {D with nx:=N,ct:=N,bk:=D.nx} σ2 H2)
noncomputable def mQ(fp:List Addr)(h:Heap):List (Addr×Obj):=fp.filterMap λb=>(h.get? b).map λo=>(b,o)
theorem eD(hb:b∈fp)(e:h.get? b=some o):(b,o)∈mQ fp h:=Q9.mpr ⟨b,hb,by rw[e];rfl⟩
theorem Ba(hp:p∈mQ fp h):p.1∈fp/\h.get? p.1=some p.2:=by
 obtain⟨b,hb,e⟩:=Q9.mp hp;cases q:h.get? b with
 | none=>rw[q] at e;cases e
 | some o=>
  rw[q] at e;have e':(b,o)=p:=Option.some.inj e;subst e';exact⟨hb,q⟩
theorem Inv.pinned(I:Inv X pins σ H s)(hf:∀b∈fp,gx X pins H b)(ho:∀b∈fp,∃o,s.heap.get? b=some o/\∀v,o.data≠.cell v):Inv X (pins++mQ fp s.heap) σ H s:=
 I.zI λp hp=>(Qi.mp hp).elim (λz=>I.pin p (Qa _ z)) λz=>by
  obtain⟨hb,e⟩:=Ba z;obtain⟨f0,f1,f2,_⟩:=hf p.1 hb;obtain⟨o,e',d⟩:=ho p.1 hb;rw[e] at e';cases e';exact⟨e,f0,f1,f2,d⟩
theorem Inv.iG(I:Inv X (pins++pl) σ H s):Inv X pins σ H s:=I.zI λp hp=>I.pin p (Qa _ (QL _ hp))
theorem IL(hp:PassesOwn (model X.prog X.w) X.A X.env X.xe)(hc:X.calm=true)(hi:PI X tg iter wi)(hg:PG X tg g)(hb:wk X body tb)(hs:∀x,foldedSetIterable iter X.env x=pure x:=by intro _;rfl):PS X (.For tg iter body [] pos) (Ls wi g tb):=by
 intro pins s σ H D I h;refine wpAny_For (cm (hi pins s σ H _ I h) λv s1 h1=>cm h1 λitv s2 h2=>?_) hs;obtain⟨it,fp,tn,J,H2,e,I2,T,st2,f2,W,⟨m0,w0⟩,turn⟩:=h2;subst e;have stat:∀{H':Hp},(∀b∈fp,H' b=none)->∀b∈fp,gx X pins H' b:=λhn b hb=>⟨hn b hb,(f2 b hb).2⟩;refine codeAny_forLoop_any (λn s'=>∃i σ' H',Inv X pins σ' H' s'/\tn i s'.heap/\(∀b∈fp,H' b=none)/\W i n σ' H') ?_ m0 ⟨0,σ,H2,I2,st2,λb hb=>(f2 b hb).1,w0⟩;rintro n s3 ⟨i,σ3,H3,I3,st3,fr3,w3⟩;rcases turn i n σ3 H3 w3 with⟨stop,qn⟩ |⟨go,N,hN,step⟩
 ·refine Sn hp (cm (T.done X rfl rfl rfl hc i pins s3 σ3 H3 X.xe I3 (stat fr3) st3 stop) λr s4 ⟨hr,I4⟩=>?_);subst hr;exact RX ⟨σ3,H3,I4,qn⟩
 ·refine Sn hp (cm (T.item X rfl rfl rfl hc i pins s3 σ3 H3 X.xe I3 (stat fr3) st3 go) λr s4 ⟨u,hr,h4⟩=>?_);subst hr;refine Sn hp (cm h4 λ_ s5 ⟨x,H5,I5,r5,y5,st5,fr5⟩=>?_);have I5':=I5.pinned (stat fr5) (T.obj _ _ st5);refine Sn hp (cm (hg _ s5 σ3 H5 x u _ I5' r5 (step x H5 y5)) λ_ s6 ⟨σ6,H6,I6,q6⟩=>?_);refine Sn hp (cm (hb _ s6 σ6 H6 _ I6 q6) λf s7 q7=>?_);have again:∀{σ7:St} {H7:Hp},Inv X (pins++mQ fp s5.heap) σ7 H7 s7->N σ7 H7->∃m,m < n/\∃i σ' H',Inv X pins σ' H' s7/\tn i s7.heap/\(∀b∈fp,H' b=none)/\W i m σ' H':=λ{σ7 H7} I7 n7=>by
   obtain⟨m',hm,w7⟩:=hN σ7 H7 n7;refine⟨m',hm,i+1,σ7,H7,I7.iG,T.keep _ _ _ st5 λb hb o e=>(I7.pin (b,o) (Qa _ (Qa _ (eD hb e)))).1,λb hb=>?_,w7⟩;obtain⟨o,e,d⟩:=T.obj _ _ st5 b hb;exact(I7.pin (b,o) (Qa _ (Qa _ (eD hb e)))).2.1
  cases f with
  | next=>obtain⟨σ7,H7,I7,n7⟩:=q7;exact again I7 n7
  | cont=>obtain⟨σ7,H7,I7,n7⟩:=q7;exact again I7 n7
  | brk=>obtain⟨σ7,H7,I7,q7⟩:=q7;exact⟨σ7,H7,I7.iG,q7⟩
  | ret v=>obtain⟨x7,σ7,H7,I7,r7,q7⟩:=q7;exact⟨x7,σ7,H7,I7.iG,r7,q7⟩
abbrev R2:=V->V->Hp->VK->Prop
def kH(X:Cx)(f:Value->Value->Sem Value)(r:R2):Prop:=
 ∀(pins:List (Addr×Obj)) (s:Shared) (σ:St) (H:Hp) (x y:V) (v u:Value) (Q:VK),Inv X pins σ H s->RelV x v->RelV y u->r x y H Q->
  wpAny (model X.prog X.w) X.A (f v u) (EP X pins σ Q) X.xe s
def MT(X:Cx)(f:Value->Sem Value)(r:V->Hp->VK->Prop):Prop:=
 ∀(pins:List (Addr×Obj)) (s:Shared) (σ:St) (H:Hp) (x:V) (v:Value) (Q:VK),Inv X pins σ H s->RelV x v->r x H Q->
  wpAny (model X.prog X.w) X.A (f v) (EP X pins σ Q) X.xe s
def fz(X:Cx)(f:Value)(r:List V->Hp->VK->Prop):Prop:=
 ∀(pins:List (Addr×Obj)) (s:Shared) (σ:St) (H:Hp) (xs:List V) (us:List Value) (Q:VK),Inv X pins σ H s->Vals xs us->r xs H Q->
  wpAny (model X.prog X.w) X.A (call f us) (EP X pins σ Q) X.xe s
def OM(X:Cx)(r:V->Hp->(Bool->Hp->Prop)->Prop):Prop:=
 ∀(pins:List (Addr×Obj)) (s:Shared) (σ:St) (H:Hp) (x:V) (v:Value) (Q:Bool->Hp->Prop),Inv X pins σ H s->RelV x v->r x H Q->
  wpAny (model X.prog X.w) X.A (truthy v) (TP X pins σ Q) X.xe s
def Lm(r:R2)(ta tb:TE):TE:=λσ H Q=>ta σ H λx H1=>tb σ H1 λy H2=>r x y H2 Q
def Pn(r:V->Hp->VK->Prop)(ta:TE):TE:=λσ H Q=>ta σ H λx H1=>r x H1 Q
def rI(C:Int->Int->Prop)(g:Int->Int->V):R2:=λx y H Q=>∃i j,x=.int i/\y=.int j/\C i j/\Q (g i j) H
def FE(g:Int->Int->V):R2:=λx y H Q=>∃i j,x=.int i/\y=.int j/\Q (g i j) H
def rU(g:Int->V):V->Hp->VK->Prop:=λx H Q=>∃i,x=.int i/\Q (g i) H
theorem Kq(ha:PE X a ta)(hb:PE X b tb){pins:List (Addr×Obj)}{s:Shared}{σ:St}{H:Hp}{R:V->V->Hp->Prop}(I:Inv X pins σ H s)
  (h:ta σ H λx H1=>tb σ H1 λy H2=>R x y H2) {Q:Value->Shared->Prop} {f:Value->Value->Sem Value}
  (hf:∀v u s2 x y H2,Inv X pins σ H2 s2->RelV x v->RelV y u->R x y H2->wpAny (model X.prog X.w) X.A (f v u) Q X.xe s2):
  wpAny (model X.prog X.w) X.A (eval a X.env) (λv s₁=>wpAny (model X.prog X.w) X.A (eval b X.env) (λu s₂=>wpAny (model X.prog X.w) X.A (f v u) Q X.xe s₂) X.xe s₁) X.xe s:=by
 refine cm (ha pins s σ H _ I h) λv s1 ⟨x,H1,I1,r1,q1⟩=>?_;refine cm (hb pins s1 σ H1 _ I1 q1) λu s2 ⟨y,H2,I2,r2,q2⟩=>?_;exact hf v u s2 x y H2 I2 r1 r2 q2
theorem Hf{op:Operator}{r:R2}(ho:kH X (binaryOp op) r)(ha:PE X a ta)(hb:PE X b tb):PE X (.BinOp a op b pos) (Lm r ta tb):=by
 intro pins s σ H Q I h;exact wpAny_BinOp (Kq ha hb I h λv u s2 x y H2 I2 rx ry q=>ho pins s2 σ H2 x y v u Q I2 rx ry q)
theorem L3(ho:MT X (unaryOp op) r)(ha:PE X a ta):PE X (.UnaryOp op a pos) (Pn r ta):=by
 intro pins s σ H Q I h;exact UnaryOp_ (cm (ha pins s σ H _ I h) λv s1 ⟨x,H1,I1,r1,q1⟩=>ho pins s1 σ H1 x v Q I1 r1 q1)
theorem Np{f:Value->Value->Sem Value}{C:Int->Int->Prop}{g:Int->Int->Int}
  (rule:∀(i j:Int)(t u:Tok)(s:Shared)(Q:Value->Shared->Prop)(E:Value->Shared->Prop),C i j->Q (.int (g i j) s.toks) {s with toks:=s.toks+1}->wpAny (model X.prog X.w) X.A (f (.int i t) (.int j u)) Q E s):
  kH X f (rI C λi j=>.int (g i j)):=by
 intro pins s σ H x y v u Q I rx ry h;obtain⟨i,j,rfl,rfl,hc,q⟩:=h;obtain⟨t,rfl⟩:=rx;obtain⟨t',rfl⟩:=ry;exact rule i j t t' s _ _ hc ⟨.int (g i j),H,I.tok _,⟨_,rfl⟩,q⟩
theorem Me{f:Value->Value->Sem Value}{g:Int->Int->Int}
  (rule:∀(i j:Int)(t u:Tok)(s:Shared)(Q:Value->Shared->Prop)(E:Value->Shared->Prop),Q (.int (g i j) s.toks) {s with toks:=s.toks+1}->wpAny (model X.prog X.w) X.A (f (.int i t) (.int j u)) Q E s):
  kH X f (FE λi j=>.int (g i j)):=by
 intro pins s σ H x y v u Q I rx ry h;obtain⟨i,j,rfl,rfl,q⟩:=h;obtain⟨t,rfl⟩:=rx;obtain⟨t',rfl⟩:=ry;exact rule i j t t' s _ _ ⟨.int (g i j),H,I.tok _,⟨_,rfl⟩,q⟩
theorem Gf{f:Value->Value->Sem Value}{g:Int->Int->Bool}
  (rule:∀(i j:Int)(t u:Tok)(s:Shared)(Q:Value->Shared->Prop)(E:Value->Shared->Prop),Q (.bool (g i j)) s->wpAny (model X.prog X.w) X.A (f (.int i t) (.int j u)) Q E s):
  kH X f (FE λi j=>.bl (g i j)):=by
 intro pins s σ H x y v u Q I rx ry h;obtain⟨i,j,rfl,rfl,q⟩:=h;obtain⟨t,rfl⟩:=rx;obtain⟨t',rfl⟩:=ry;exact rule i j t t' s _ _ ⟨.bl (g i j),H,I,rfl,q⟩
def OT(i j:Int):Prop:=0<=j/\j<=1000000/\i.natAbs < 2^64
def KI(i j:Int):Prop:=(-(2^64) < i/\i < 2^64)\/(-(2^64) < j/\j < 2^64)
theorem KI.ok(h:KI i j):IntMulOk i j:=by
 rcases h with⟨h1,h2⟩ |⟨h1,h2⟩
 ·exact .of_left (intBits_le_64 h1 h2)
 ·exact .of_right (intBits_le_64 h1 h2)
theorem Jl:kH X (binaryOp .Add) (FE λi j=>.int (i+j)):=Me λ_ _ _ _ _ _ _ q=>add_int q
theorem Jf:kH X (binaryOp .Sub) (FE λi j=>.int (i-j)):=Me λ_ _ _ _ _ _ _ q=>sub_int q
theorem Ji:kH X (binaryOp .Mult) (rI KI λi j=>.int (i*j)):=Np λ_ _ _ _ _ _ _ hc q=>mul_int q hc.ok
theorem Jj:kH X (binaryOp .Mod) (rI (λ_ j=>0 < j) λi j=>.int (i % j)):=Np λi j _ _ _ _ _ hc q=>by
 have h1:(0:Int) < j:=hc;exact mod_int' (by lia) (by rw[Int.fmod_eq_emod_of_nonneg i (by lia)];exact q)
theorem Jh:kH X (binaryOp .Pow) (rI OT λi j=>.int (i^j.toNat)):=Np λ_ _ _ _ _ _ _ hc q=>pow_int_small hc.1 hc.2.1 hc.2.2 q
theorem Pl{f:Value->Sem Value}{g:Int->Int}
  (rule:∀(i:Int)(t:Tok)(s:Shared)(Q:Value->Shared->Prop)(E:Value->Shared->Prop),Q (.int (g i) s.toks) {s with toks:=s.toks+1}->wpAny (model X.prog X.w) X.A (f (.int i t)) Q E s):
  MT X f (rU λi=>.int (g i)):=by
 intro pins s σ H x v Q I rx h;obtain⟨i,rfl,q⟩:=h;obtain⟨t,rfl⟩:=rx;exact rule i t s _ _ ⟨.int (g i),H,I.tok _,⟨_,rfl⟩,q⟩
theorem HJ:MT X (unaryOp .USub) (rU λi=>.int (-i)):=Pl λ_ _ _ _ _ q=>neg_int q
theorem JN(I:Inv X pins σ H s)(q:Q (.bl k) H)(e:k=k'):EP X pins σ Q (.bool k') s:=by
 subst e;exact⟨.bl k,H,I,rfl,q⟩
theorem Ma:kH X (compareOp .Lt) (FE λi j=>.bl (decide (i < j))):=Gf λ_ _ _ _ _ _ _ q=>lt_int q
theorem Mb:kH X (compareOp .LtE) (FE λi j=>.bl (decide (i<=j))):=Gf λ_ _ _ _ _ _ _ q=>le_int q
theorem Mc:kH X (compareOp .Gt) (FE λi j=>.bl (decide (j < i))):=Gf λ_ _ _ _ _ _ _ q=>gt_int q
theorem Md:kH X (compareOp .GtE) (FE λi j=>.bl (decide (j<=i))):=Gf λ_ _ _ _ _ _ _ q=>ge_int q
theorem Jk:kH X (compareOp .Is) (λx y H Q=>y=.bR/\Q (.bl (decide (x=.bR))) H):=by
 intro pins s σ H x y v u Q I rx ry h;obtain⟨rfl,q⟩:=h;cases ry;refine is_none_gen (JN I q ?_);cases x <;> first
  |(cases rx;rfl)
  |(obtain⟨t,rfl⟩:=rx;rfl)
theorem dQ(b:Expr)(h:op≠.In:=by decide)(h2:op≠.NotIn:=by decide):behindInMarks op b=false:=by
 have e1:(op==CmpOp.In)=false:=by cases op <;> first | rfl | exact absurd rfl h
 have e2:(op==CmpOp.NotIn)=false:=by cases op <;> first | rfl | exact absurd rfl h2
 cases b <;> simp[behindInMarks,e1,e2]
theorem F7{op:CmpOp}{r:R2}(ho:kH X (compareOp op) r)(ha:PE X a ta)(hb:PE X b tb)(hm:behindInMarks op b=false):PE X (.Compare a [op] [b] pos) (Lm r ta tb):=by
 intro pins s σ H Q I h;exact wpAny_Compare1 (Kq ha hb I h λv u s2 x y H2 I2 rx ry q=>ho pins s2 σ H2 x y v u Q I2 rx ry q) hm
def G4(t:TE):TT:=λσ H Q=>t σ H λx H'=>∃k,x=.bl k/\Q k H'
theorem FI(ho:kH X (compareOp op) r)(ha:PE X a ta)(hb:PE X b tb)(hm:behindInMarks op b=false):PT X (.Compare a [op] [b] pos) (G4 (Lm r ta tb)):=by
 intro pins s σ H Q I h;refine wpAny_isTrue_Compare1 (cm (ha pins s σ H _ I h) λv s1 ⟨x,H1,I1,r1,q1⟩=>cm (hb pins s1 σ H1 _ I1 q1) λu s2 ⟨y,H2,I2,r2,q2⟩=>
  cm (ho pins s2 σ H2 x y v u _ I2 r1 r2 q2) λc s3 ⟨z,H3,I3,r3,k,e,q3⟩=>?_) hm
 subst e;cases r3;exact QQ ⟨H3,I3,q3⟩
def yb(r r':R2)(ta tb tc:TE):TE:=λσ H Q=>ta σ H λx H1=>tb σ H1 λy H2=>r x y H2 λz H3=>∃k,z=.bl k/\
 (if k=true then tc σ H3 λw' H4=>r' y w' H4 Q else Q (.bl false) H3)
theorem Dy(ho:kH X (compareOp op) r)(ho':kH X (compareOp op') r')(ha:PE X a ta)(hb:PE X b tb)(hc:PE X c tc)(hm:lastMarks [op,op'] [b,c]=false:=by with_unfolding_all rfl):PE X (.Compare a [op,op'] [b,c] pos) (yb r r' ta tb tc):=by
 intro pins s σ H Q I h;refine Compare_chain (cm (ha pins s σ H _ I h) λv s1 ⟨x,H1,I1,r1,q1⟩=>chain_link (cm (hb pins s1 σ H1 _ I1 q1) λu s2 ⟨y,H2,I2,r2,q2⟩=>
  cm (ho pins s2 σ H2 x y v u _ I2 r1 r2 q2) λd s3 ⟨z,H3,I3,r3,k,e,q3⟩=>?_)) hm
 subst e;cases r3;refine QQ ?_;cases k with
 | false=>exact ite_ff ⟨.bl false,H3,I3,rfl,q3⟩
 | true=>exact ite_tt (chain_last (cm (hc pins s3 σ H3 _ I3 q3) λw' s4 ⟨z',H4,I4,r4,q4⟩=>ho' pins s4 σ H4 y z' u w' Q I4 r2 r4 q4))
theorem De(ho:kH X (compareOp op) r)(ho':kH X (compareOp op') r')(ha:PE X a ta)(hb:PE X b tb)(hc:PE X c tc)(hm:lastMarks [op,op'] [b,c]=false:=by with_unfolding_all rfl):PT X (.Compare a [op,op'] [b,c] pos) (G4 (yb r r' ta tb tc)):=by
 intro pins s σ H Q I h;refine isTrue_chain (cm (ha pins s σ H _ I h) λv s1 ⟨x,H1,I1,r1,q1⟩=>test_link (cm (hb pins s1 σ H1 _ I1 q1) λu s2 ⟨y,H2,I2,r2,q2⟩=>
  cm (ho pins s2 σ H2 x y v u _ I2 r1 r2 q2) λd s3 ⟨z,H3,I3,r3,k,e,q3⟩=>?_)) hm
 subst e;cases r3;refine QQ ?_;cases k with
 | false=>
  obtain⟨k',e',q'⟩:=q3;cases e';exact ite_ff ⟨H3,I3,q'⟩
 | true=>
  refine ite_tt (test_last (cm (hc pins s3 σ H3 _ I3 q3) λw' s4 ⟨z',H4,I4,r4,q4⟩=>cm (ho' pins s4 σ H4 y z' u w' _ I4 r2 r4 q4) λd' s5 ⟨z2,H5,I5,r5,k2,e2,q5⟩=>?_));subst e2;cases r5;exact QQ ⟨H5,I5,q5⟩
def GY(K:FR)(x:V)(H:Hp)(k:Bool):Prop:=
 match x with
 | .bR=>k=false
 | .bl b=>k=b
 | .int i=>k=(i !=0)
 | .str y=>y.length<=sizeLine/\k=((y.length:Int) !=0)
 | .byt y=>y.size<=sizeLine/\k=((y.size:Int) !=0)
 | .ref p=>(∃xs,fV K H p xs/\k=!xs.isEmpty)\/(∃xs,jB K H p xs/\k=!xs.isEmpty)\/∃kvs,H p=some (.dK kvs)/\k=!kvs.isEmpty
 | _=>False
theorem yQ(r:KV kvs vs):(!vs.isEmpty)=!kvs.isEmpty:=by
 cases r <;> rfl
theorem qR(r:Vals xs its):(!its.toArray.isEmpty)=!xs.isEmpty:=by
 cases r <;> simp
theorem kl:(sizeLine:Nat) < 2^63:=by rw[Rt];decide
theorem Co:OM X (λx H Q=>∃k,GY X.K x H k/\Q k H):=by
 intro pins s σ H x v Q I rx h;obtain⟨k,e,q⟩:=h;have hl:=kl;have hs:sizeLine=16777216:=Rt;cases x with
 | bR=>
  cases rx;have e':k=false:=e;subst e';exact truthy_none ⟨H,I,q⟩
 | bl b=>
  cases rx;have e':k=b:=e;subst e';exact QQ ⟨H,I,q⟩
 | int i=>
  obtain⟨t,rfl⟩:=rx;have e':k=(i !=0):=e;subst e';exact PySem.P.truthy_int ⟨H,I,q⟩
 | str y=>
  obtain⟨t,rfl⟩:=rx;obtain⟨hy,e'⟩:y.length<=sizeLine/\k=((y.length:Int) !=0):=e;subst e';exact PySem.P.truthy_str (by lia) ⟨H,I.tok _,q⟩
 | byt y=>
  obtain⟨t,rfl⟩:=rx;obtain⟨hy,e'⟩:y.size<=sizeLine/\k=((y.size:Int) !=0):=e;subst e';exact PySem.W.truthy_bytes (by lia) ⟨H,I.tok _,q⟩
 | ref p=>
  cases rx;have e':(∃xs,fV X.K H p xs/\k=!xs.isEmpty)\/(∃xs,jB X.K H p xs/\k=!xs.isEmpty)\/∃kvs,H p=some (.dK kvs)/\k=!kvs.isEmpty:=e;rcases e' with⟨xs,hx,e'⟩ |⟨xs,hx,e'⟩ |⟨kvs,hx,e'⟩
  ·subst e';obtain⟨its,r,pl,hz⟩:=I.list hx;have hlen:=r.length;exact wpAny_truthy_list pl.isList (by simp only[P5];lia) ⟨H,I.tok _,by rw[qR r];exact q⟩
  ·subst e';obtain⟨its,r,pl,hz⟩:=I.tuple hx;have hlen:=r.length;exact truthy_tuple pl (by simp only[P5];lia) ⟨H,I.tok _,by rw[qR r];exact q⟩
  ·subst e';obtain⟨hz,hS,vs,r,m⟩:kvs.length<=sizeLine/\(p==sysModules)=false/\∃vs,KV kvs vs/\s.heap.DictOf (bQ X.prog X.w) p vs:=I.ba p _ hx;have hlen:kvs.length=vs.length:=Paired.length r;exact wpAny_truthy_dict hS m (by lia) ⟨H,I.tok _,by rw[yQ r];exact q⟩
 | _=>exact(show False from e).elim
theorem Dd(ha:PE X a ta)(he:∀whole,isTrue a X.env whole=(do let v<-whole;standAt a.pos;holding [v] (truthy v))):
  PT X a (λσ H Q=>ta σ H λx H'=>∃k,GY X.K x H' k/\Q k H'):=by
 intro pins s σ H Q I h;exact isTrue_plain (cm (ha pins s σ H _ I h) λv s1 ⟨x,H1,I1,r1,q1⟩=>Co pins s1 σ H1 x v Q I1 r1 q1) (he _)
theorem yz:kH X (binaryOp .Add) (λx y H Q=>∃i j,x=.str i/\y=.str j/\i.length+j.length<=sizeLine/\Q (.str (i++j)) H):=by
 intro pins s σ H x y v u Q I rx ry h;obtain⟨i,j,rfl,rfl,hz,q⟩:=h;obtain⟨t,rfl⟩:=rx;obtain⟨t',rfl⟩:=ry;exact add_str (λt' tk=>⟨.str (i++j),H,I.tok _,⟨_,rfl⟩,q⟩) hz
theorem vals1(r:Vals [x] us):∃u,us=[u]/\RelV x u:=by
 cases r with
 | cons r1 r2=>cases r2;exact⟨_,rfl,r1⟩
theorem vals2(r:Vals [x,y] us):∃u w',us=[u,w']/\RelV x u/\RelV y w':=by
 cases r with
 | cons r1 r2=>
  cases r2 with
  | cons r3 r4=>cases r4;exact⟨_,_,rfl,r1,r3⟩
theorem ED:fz X (.builtin "abs") (λxs H Q=>∃i,xs=[.int i]/\Q (.int (if i < 0 then -i else i)) H):=by
 intro pins s σ H xs us Q I r h;obtain⟨i,rfl,q⟩:=h;obtain⟨u,rfl,t,rfl⟩:=vals1 r;exact call_abs_int λu tk=>⟨.int (if i < 0 then -i else i),H,I.tok _,⟨_,rfl⟩,q⟩
theorem BL(hc:X.calm=true):fz X (.builtin "max") (λxs H Q=>∃i j,xs=[.int i,.int j]/\Q (.int (if j > i then j else i)) H):=by
 intro pins s σ H xs us Q I r h;obtain⟨i,j,rfl,q⟩:=h;obtain⟨u,w',rfl,⟨t,rfl⟩,⟨t',rfl⟩⟩:=vals2 r;refine max_two_ints (I.ok.hd hc) λh' tk k=>⟨_,H,I.kept k,?_,q⟩
 by_cases hj:j > i
 ·rw[PL hj,PL hj];exact⟨_,rfl⟩
 ·rw[P0 hj,P0 hj];exact⟨_,rfl⟩
theorem BK(hc:X.calm=true):fz X (.builtin "min") (λxs H Q=>∃i j,xs=[.int i,.int j]/\Q (.int (if j < i then j else i)) H):=by
 intro pins s σ H xs us Q I r h;obtain⟨i,j,rfl,q⟩:=h;obtain⟨u,w',rfl,⟨t,rfl⟩,⟨t',rfl⟩⟩:=vals2 r;refine min_two_ints (I.ok.hd hc) λh' tk k=>⟨_,H,I.kept k,?_,q⟩
 by_cases hj:j < i
 ·rw[PL hj,PL hj];exact⟨_,rfl⟩
 ·rw[P0 hj,P0 hj];exact⟨_,rfl⟩
theorem vO:fz X (.type "str") (λxs H Q=>∃i,xs=[.int i]/\i.natAbs.log2 < 1920/\Q (.str (toString i)) H):=by
 intro pins s σ H xs us Q I r h;obtain⟨i,rfl,hz,q⟩:=h;obtain⟨u,rfl,t,rfl⟩:=vals1 r;exact PySem.P.str_of_int hz ⟨.str _,H,I.tok _,⟨_,rfl⟩,q⟩
structure KH(h:Heap)(x dx C:Addr)(mA:Str->Option Value):Prop where
 obj:h.get? x=some (PySem.W.instObj C dx)
 ns:h.Ns1 dx mA
 ne:dx≠x
theorem Bl{h:Heap}{dx:Addr}{mA:Str->Option Value}(n:h.Ns1 dx mA):∃od,h.get? dx=some od/\∀name,PySem.W.lookIn name od=some (mA name):=by
 obtain⟨o,es,ep,ho,hd,hk,_,hm⟩:=n;refine⟨o,ho,λname=>?_⟩;have e:=hm name;unfold nsFind findBy at e;rw[<-US] at e;unfold PySem.W.lookIn;rw[hd];dsimp only
 split
 ·rename_i y q;rw[q] at e;exact congrArg some e
 ·rename_i q;rw[q] at e;have a:es.toList.any (·.refKey)=false:=by
   rw[U1];intro y hy;obtain⟨z,t,hkey⟩:=hk y (Tc.mp hy);simp[DictEntry.refKey,hkey]
  have a':¬es.toList.any (·.refKey)=true:=by rw[a];exact Rb
  rw[P0 a'];exact congrArg some e
theorem KH.look(I:KH h x dx C mA):∃od,PySem.W.InstAt h x (PySem.W.instObj C dx) C (some od)/\∀name,PySem.W.lookIn name od=some (mA name):=
 let⟨od,ho,hl⟩:=Bl I.ns
 ⟨od,⟨I.obj,rfl,rfl,ho⟩,hl⟩
section
variable {prog:Program} {w:World} {A:Around} {E:Value->Shared->Prop} {s:Shared} {K:FR} {x dx C f:Addr} {mA:Str->Option Value} {name:Str} {v:Value}
end
theorem nC.some_of(r:nC (some v) o):∃u,o=some u/\RelV v u:=by
 cases o with
 | none=>exact(show False from r).elim
 | some u=>exact⟨u,rfl,r⟩
theorem Gv(ba:i6 P w H h)(e:H a=some (.ins C dx fs)):∃mA,KH h a dx C mA/\(∀f,nC (fs.lookup f) (mA f))/\PySem.Within mA (fs.map (·.1))/\fs.length<=1000/\H dx=some (.own a):=by
 obtain⟨d,z,ne,ob,mA,n,r,q⟩:=(show bM P w H h a (.ins C dx fs) from ba a _ e);exact⟨mA,⟨ob,n,ne⟩,r,q,z,d⟩
structure OS(K:FR)(C:Addr):Prop where
 pg:PySem.W.plainGet K C Str.empty=true
 hd:PySem.W.hasDictIn K C=true
 po:PySem.W.plainOver K C=true
 sa:PySem.W.findIn K (.ref C) "__setattr__"=some (some (.builtin "object.__setattr__"))
theorem OS.get{K:FR}{C:Addr}(c:OS K C)(f:Str):PySem.W.plainGet K C f=true:=c.pg
inductive lV(K:FR)(H:Hp):V->Value->Prop where
 | bR:lV K H .bR (.type "NoneType")
 | bl (x:Bool):lV K H (.bl x) (.type "bool")
 | int (i:Int):lV K H (.int i) (.type "int")
 | str (x:Str):lV K H (.str x) (.type "str")
 | KS (x:UInt64):lV K H (.KS x) (.type "float")
 | lst {a:Addr} {xs:List V} (e:H a=some (.lst xs)):lV K H (.ref a) (.type "list")
 | kF {a:Addr} {o:Obj} {xs:List V} (e:H a=some (.kF o (.lst xs))):lV K H (.ref a) (.type "list")
 | tup {a:Addr} {xs:List V} (e:H a=some (.tup xs)):lV K H (.ref a) (.type "tuple")
 | dK {a:Addr} {kvs:List (Key×V)} (e:H a=some (.dK kvs)):lV K H (.ref a) (.type "dict")
 | dT {a:Addr} {kvs:List (List Key×V)} (e:H a=some (.dT kvs)):lV K H (.ref a) (.type "dict")
 | ins {a C dx:Addr} {fs:List (Str×V)} (e:H a=some (.ins C dx fs)) (cl:OS K C) (ha:PySem.W.findIn K (.ref C) "__class__"=some (some (.builtin "object.__class__")))
   (hn:PySem.W.specialIn K (.builtin "object.__class__") "__get__"=some (some (.builtin "getset_descriptor.__get__"))) (htk:PySem.W.takesIn K (.builtin "object.__class__")=some true)
   (hm:PySem.W.mroIn K C (.type "object")=some true):lV K H (.ref a) (.ref C)
theorem Bu(I:Inv X pins σ H s)(rx:RelV x u)(ty:lV X.K H x t)(e:PySem.W.kitOne X.K t c=some b)(h:∀tk,Q (.bool b) {s with toks:=tk}):
  wpAny (model X.prog X.w) A (call (.builtin "isinstance") [u,c]) Q E s:=by
 cases ty with
 | bR=>cases(show u=Value.none from rx);exact QG PySem.W.kitx_none I.ou True.intro e (λz=>nomatch z) h
 | bl y=>cases(show u=Value.bool y from rx);exact QG PySem.W.kitx_bool I.ou True.intro e (λz=>nomatch z) h
 | int i=>obtain⟨t,q⟩:=(show ∃t,u=Value.int i t from rx);cases q;exact QG PySem.W.kitx_int I.ou True.intro e (λz=>nomatch z) h
 | str y=>obtain⟨t,q⟩:=(show ∃t,u=Value.str y t from rx);cases q;exact QG PySem.W.kitx_str I.ou True.intro e (λz=>nomatch z) h
 | KS y=>obtain⟨t,q⟩:=(show ∃t,u=Value.float y t from rx);cases q;exact QG PySem.W.kitx_float I.ou True.intro e (λz=>nomatch z) h
 | @lst a xs ea=>
  cases(show u=Value.ref a from rx);obtain⟨_,_,n,_,h1⟩:=(show bM X.prog X.w H s.heap a (.lst xs) from I.ba a _ ea);exact QG UT I.ou ⟨_,h1,rfl⟩ e (λz=>nomatch z) h
 | @kF a ob xs ea=>
  cases(show u=Value.ref a from rx);obtain⟨_,_,_,n,_,h1⟩:=(show bM X.prog X.w H s.heap a (.kF ob (.lst xs)) from I.ba a _ ea);exact QG UT I.ou ⟨_,h1,rfl⟩ e (λz=>nomatch z) h
 | @tup a xs ea=>
  cases(show u=Value.ref a from rx);obtain⟨_,_,_,p⟩:=(show bM X.prog X.w H s.heap a (.tup xs) from I.ba a _ ea);obtain⟨o,h1,h2,_⟩:=p;exact QG UN I.ou ⟨o,h1,h2⟩ e (λz=>nomatch z) h
 | @dK a kvs ea=>
  cases(show u=Value.ref a from rx);obtain⟨_,_,vs,_,p⟩:=(show bM X.prog X.w H s.heap a (.dK kvs) from I.ba a _ ea);obtain⟨o,es,ep,h1,h2,_⟩:=p;exact QG UU I.ou ⟨o,h1,h2.1⟩ e (λz=>nomatch z) h
 | @dT a kvs ea=>
  cases(show u=Value.ref a from rx);obtain⟨_,_,xs,_,o,es,ep,h1,h2,_⟩:=(show bM X.prog X.w H s.heap a (.dT kvs) from I.ba a _ ea);exact QG UU I.ou ⟨o,h1,h2.1⟩ e (λz=>nomatch z) h
 | @ins a C dx fs ea cl ha hn htk hm=>
  cases(show u=Value.ref a from rx);obtain⟨mA,O,_⟩:=Gv I.ba ea;obtain⟨od,J,_⟩:=O.look;exact QG (PySem.W.kitx_own (cl.get _) cl.hd ha hn htk hm) I.ou J e (λz=>nomatch z) h
structure cD(k:Nat)(A:Around):Prop where
 hd:A.handled=none
 dp:A.depth+3*k+5 < recursionLimit
 un:A.units+16*k+200 < cLine
theorem cD.mono(r:cD k A)(h:j<=k):cD j A:=⟨r.hd,by have:=r.dp;lia,by have:=r.un;lia⟩
theorem cD.deeper(r:cD (k+1) A)(env:Env):cD k (A.deeper env):=
 ⟨r.hd,by have:=r.dp;show A.depth+1+3*k+5 < _;lia,by have:=r.un;show A.units+3+16*k+200 < _;lia⟩
theorem cD.depth(r:cD k A):A.depth < recursionLimit:=by have:=r.dp;lia
theorem cD.units(r:cD k A):A.units+64 < cLine:=by have:=r.un;lia
def Lp:TA:=λ_ H Q=>Q [] H
def G6(ta:TE)(tr:TA):TA:=λσ H Q=>ta σ H λx H1=>tr σ H1 λxs H2=>Q (x::xs) H2
theorem DA:PA X [] Lp:=λ_ _ _ _ H Q I h=>TU ⟨[],H,I,.nil,h⟩
theorem u9(ha:PE X e te)(hr:PA X es t)(hs:starEach (e::es) X.env=(false,eval e X.env)::starEach es X.env:=by rfl):PA X (e::es) (G6 te t):=by
 intro pos pins s σ H Q I h;rw[hs];show wpAny _ _ (spliced ((false,eval e X.env)::backTo pos (starEach es X.env))) _ _ s;refine TJ (cm (ha pins s σ H _ I h) λu s1 ⟨x,H1,I1,r1,q1⟩=>?_);exact cm (hr pos pins s1 σ H1 _ I1 q1) λus s2 ⟨xs,H2,I2,r2,q2⟩=>⟨x::xs,H2,I2,.cons r1 r2,q2⟩
def NF(t:TA):TE:=λσ H Q=>t σ H λxs H1=>xs.length<=sizeLine/\∀p,H1 p=none->Q (.ref p) (upd H1 p (.tup xs))
def NJ(t:TA):TE:=λσ H Q=>t σ H λxs H1=>xs.length<=sizeLine/\∀p,H1 p=none->Q (.ref p) (upd H1 p (.lst xs))
theorem IU{x1}(h:PA X es t):PE X (.Tuple es x1 pos) (NF t):=by
 intro pins s σ H Q I hq;refine wpAny_Tuple_spliced (cm (h pos pins s σ H _ I hq) λus s1 ⟨xs,H1,I1,r,z,q⟩=>⟨by rw[<-r.length];exact z,?_⟩);have hf:H1 s1.heap.objs.size=none:=I1.ba.fresh (PJ _);refine⟨.ref s1.heap.objs.size,upd H1 s1.heap.objs.size (.tup xs),I1.laid (t':=s1.toks) (λb u e=>PN _ e) (PJ _) ?_,rfl,q _ hf⟩;exact⟨z,us,r,⟨_,Qk _ rfl,rfl,⟨_,rfl⟩,rfl⟩⟩
theorem I0(h:PA X es t):PE X (.List es pos) (NJ t):=by
 intro pins s σ H Q I hq;refine wpAny_List_spliced (cm (h pos pins s σ H _ I hq) λus s1 ⟨xs,H1,I1,r,z,q⟩=>⟨by rw[<-r.length];exact z,?_⟩);have hf:H1 s1.heap.objs.size=none:=I1.ba.fresh (PJ _);refine⟨.ref s1.heap.objs.size,upd H1 s1.heap.objs.size (.lst xs),I1.laid (t':=s1.toks) (λb u e=>PN _ e) (PJ _) ?_,rfl,q _ hf⟩;exact⟨z,us,0,r,Qk _ rfl⟩
abbrev Sp:=List V->Hp->VK->XK->Prop
abbrev Aw:=List Env->Hp->Shared->XK->Value->Shared->Prop
structure EW(P:Program)(w:World)(K:FR)(mg:Str->Option Value)(base:Heap)(A:Around)(outer:List Env)(s:Shared)(H:Hp):Prop where
 frames:A.frames=some outer
 mod:Mod K mg base
 bs:∀b o,base.get? b=some o->s.heap.get? b=some o/\H b=none
 E2:base.objs.size<=s.heap.objs.size
 ni:s.heap.FunFrames base outer
 Hk:∀b∈jv outer,H b=none
 ba:i6 P w H s.heap
 bare:AllBare s.gens
def CE(outer:List Env)(P:Program)(w:World)(H:Hp)(s:Shared)(Q:VK)(u:Value)(s':Shared):Prop:=
 ∃v H',s'.os=s.os/\AllBare s'.gens/\Un (jv outer) [] H H' s.heap s'.heap/\i6 P w H' s'.heap/\RelV v u/\Q v H'
def CR(CX:Aw)(outer:List Env)(P:Program)(w:World)(H:Hp)(s:Shared)(Q:VK)(E:XK)(r:Result)(s':Shared):Prop:=
 match r with
 | .ok (.ret u)=>CE outer P w H s Q u s'
 | .ok _=>False
 | .error e=>CX outer H s E e s'
structure dY(P:Program)(w:World)(K:FR)(mg:Str->Option Value)(base:Heap)(CX:Aw)(k:Nat)(f:Addr)(fd:FuncData)(ps:List Str)(sp:Sp):Prop where
 len:∀vs H Q E,sp vs H Q E->vs.length=ps.length
 run:∀(A:Around)(outer:List Env)(s:Shared)(H:Hp)(args:Args)(us:List Value)(vs:List V)(Q:VK)(E:XK),cD k A->EW P w K mg base A outer s H->BindsTo s fd args (ps.zip us)->Vals vs us->sp vs H Q E->
  codeAny (model P w) A (.call (.ref f) args) (CR CX outer P w H s Q E) s
theorem dY.imp{P:Program}{w:World}{K:FR}{mg:Str->Option Value}{base:Heap}{CX:Aw}{k:Nat}{f:Addr}{fd:FuncData}{ps:List Str}{sp sp':Sp}(F:dY P w K mg base CX k f fd ps sp)
  (h:∀vs H Q E,sp' vs H Q E->sp vs H Q E):dY P w K mg base CX k f fd ps sp':=
 ⟨λvs H Q E q=>F.len vs H Q E (h _ _ _ _ q),λA outer s H args us vs Q E hr he hb hv hs=>F.run A outer s H args us vs Q E hr he hb hv (h _ _ _ _ hs)⟩
theorem Inv.JS(I:Inv X pins σ H s):EW X.prog X.w X.K X.mg X.base X.A X.stack s H:=
 ⟨I.ok.frames,I.ok.mod,I.bs,PY I.ok.E2 I.sz,I.stack,I.pe,I.ba,I.bare⟩
theorem Inv.after(I:Inv X pins σ H s)(h:CE X.stack X.prog X.w H s Q u s'):EP X pins σ Q u s':=by
 obtain⟨v,H',os,bare,un,ba,r,q⟩:=h;obtain⟨hh,g,d,t,os'⟩:=s';obtain rfl:os'=s.os:=os;exact⟨v,H',I.call (h':=hh) (g':=g) (d':=d) (t':=t) (ch:=[]) un ba bare (λb z=>absurd z (by simp)),r,q⟩
def Lv(sp:Sp)(dvs:List V)(E:XK)(t:TA):TE:=λσ H Q=>t σ H λvs H1=>sp (vs++dvs) H1 Q E
def Binds(K:FR)(fd:FuncData)(ps:List Str)(ds:List Value):Prop:=
 ∀(s:Shared)(us:List Value),K.In s.heap->(us++ds).length=ps.length->BindsTo s fd ⟨us,[]⟩ (ps.zip (us++ds))
theorem Binds.all{K:FR}{fd:FuncData}{ps:List Str}(h:∀us:List Value,us.length=ps.length->bindArgs fd ⟨us,[]⟩=pure (ps.zip us)):Binds K fd ps []:=λs us _ hl=>by
 rw[QD] at hl ⊢;exact .of_eq (h us hl)
def Passes(CX:Aw)(X:Cx)(E:XK):Prop:=∀(pins:List (Addr×Obj)) (σ:St) (H:Hp) (s:Shared) (e:Value) (s':Shared),Inv X pins σ H s->CX X.stack H s E e s'->X.xe e s'
theorem Im(F:dY X.prog X.w X.K X.mg X.base CX k f fd ps sp)(hr:cD k X.A)(hb:Binds X.K fd ps ds)(hd:Vals dvs ds)(hx:Passes CX X E)(I:Inv X pins σ H s)(r:Vals vs us)(h:sp (vs++dvs) H Q E):wpAny (model X.prog X.w) X.A (call (.ref f) us) (EP X pins σ Q) X.xe s:=by
 have r2:Vals (vs++dvs) (us++ds):=r.append hd;have hl:(us++ds).length=ps.length:=by rw[<-r2.length];exact F.len _ _ _ _ h
 refine wpAny_call (Sa (F.run X.A X.stack s H ⟨us,[]⟩ (us++ds) (vs++dvs) Q E hr I.JS (hb s us I.ou hl) r2 h) λr s' hq=>?_);cases r with
 | error e=>exact hx pins σ H s e s' I hq
 | ok fl=>
  cases fl with
  | ret u=>exact I.after hq
  | next=>exact False.elim hq
  | brk=>exact False.elim hq
  | cont=>exact False.elim hq
theorem zL(F:dY X.prog X.w X.K X.mg X.base CX k f fd ps sp)(hr:cD k X.A)(hg:Gl X x)(hm:X.mg x=some (.ref f))(hk:PySem.W.keepIn X.K (.ref f)=true)(hb:Binds X.K fd ps ds)(hd:Vals dvs ds)(hx:Passes CX X E)
  (ha:PA X (e::es) t) (hdb:(x==("__debug__":Str))=false:=by decide) (he:starEach (e::es) X.env=(false,eval e X.env)::starEach es X.env:=by rfl) (hpl:(backTo pos (starEach es X.env)).any (·.1)=false:=by rfl):
  PE X (.Call (.Name x p) (e::es) [] pos) (Lv sp dvs E t):=by
 intro pins s σ H Q I h;refine QZ (jr I hg hm ?_ hdb);refine UO (h₀:=X.base) I.ok.mod.Nq hk (cm (ha pos pins s σ H _ I h) λus s1 ⟨vs,H1,I1,r,q⟩=>⟨I1.ou,?_⟩) he hpl;exact Im F hr hb hd hx I1 r q
def PK(X:Cx)(kws:List Keyword)(t:TA):Prop:=
 ∀(pos:Pos)(pins:List (Addr×Obj)) (s:Shared) (σ:St) (H:Hp) (Q:List V->Hp->Prop),Inv X pins σ H s->t σ H Q->wpAny (model X.prog X.w) X.A (evalAll ((backToKw pos (keywordEach kws X.env)).map (·.2))) (AP X pins σ Q) X.xe s
theorem IP:PK X [] Lp:=λ_ _ _ _ H Q I h=>wpAny_evalAll_nil ⟨[],H,I,.nil,h⟩
theorem FZ(ha:PE X e te)(hr:PK X kws t):PK X (⟨nm,e,kpos⟩::kws) (G6 te t):=by
 intro pos pins s σ H Q I h;show wpAny _ _ (evalAll ((do let v<-eval e X.env;standAt pos;pure v)::(backToKw pos (keywordEach kws X.env)).map (·.2))) _ _ s;refine wpAny_evalAll_cons (PD (cm (ha pins s σ H _ I h) λu s1 ⟨x,H1,I1,r1,q1⟩=>PD (QP (PX ?_))));exact cm (hr pos pins s1 σ H1 _ I1 q1) λus s2 ⟨xs,H2,I2,r2,q2⟩=>⟨x::xs,H2,I2,.cons r1 r2,q2⟩
structure aE(N P:List Str)(sc:Scope):Prop where
 kind:sc.kind=.function
 co:sc.isCoroutine=false
 gen:sc.isGenerator=false
 nd:N.Nodup
 pre:N.take P.length=P
 par:∀x∈P,sc.names.lookup x=some .local\/sc.names.lookup x=some .cell
 Jp:∀y∈sc.names,y.2≠.free
theorem tZ{kindOf:Str->Option NameKind}{x:Str}:∀{binds:List (Str×Value)} {m:Str->Option Value},(∀v,(x,v)∉binds)->bindL kindOf binds m x=m x
 | [],_,_=>rfl
 |(n,v)::r,m,h=>by
  unfold bindL;rw[tZ λw hw=>h w (PV _ hw)]
  split
  ·have:x≠n:=by rintro rfl;exact h v PQ
   simp[this]
  ·rfl
theorem t5{kindOf:Str->Option NameKind}{x:Str}:∀{binds:List (Str×Value)} {m:Str->Option Value},(∀v,(x,v)∉binds)->bindC kindOf binds m x=m x
 | [],_,_=>rfl
 |(n,v)::r,m,h=>by
  unfold bindC;rw[t5 λw hw=>h w (PV _ hw)]
  split
  ·rfl
  ·have:x≠n:=by rintro rfl;exact h v PQ
   simp[this]
theorem t4{kindOf:Str->Option NameKind}{x:Str}{v:Value}:∀{P:List Str} {vs:List Value} {i:Nat} {m:Str->Option Value},P.Nodup->P[i]?=some x->vs[i]?=some v->kindOf x=some .local->
  bindL kindOf (P.zip vs) m x=some v
 | [],_,_,_,_,h,_,_=>by simp at h
 | _::_,[],_,_,_,_,h,_=>by simp at h
 | p::P,w::vs,0,m,nd,h1,h2,hk=>by
  simp at h1 h2;subst h1;subst h2;show bindL kindOf ((p,w)::P.zip vs) m p=_;unfold bindL;rw[tZ λv hv=>(SU.mp nd).1 (TL hv).1,PL hk];simp
 | p::P,w::vs,i+1,m,nd,h1,h2,hk=>by
  show bindL kindOf ((p,w)::P.zip vs) m x=_;unfold bindL;exact t4 (i:=i) (SU.mp nd).2 (by simpa using h1) (by simpa using h2) hk
theorem t6{kindOf:Str->Option NameKind}{x:Str}{v:Value}:∀{P:List Str} {vs:List Value} {i:Nat} {m:Str->Option Value},P.Nodup->P[i]?=some x->vs[i]?=some v->kindOf x≠some .local->
  bindC kindOf (P.zip vs) m x=some v
 | [],_,_,_,_,h,_,_=>by simp at h
 | _::_,[],_,_,_,_,h,_=>by simp at h
 | p::P,w::vs,0,m,nd,h1,h2,hk=>by
  simp at h1 h2;subst h1;subst h2;show bindC kindOf ((p,w)::P.zip vs) m p=_;unfold bindC;rw[t5 λv hv=>(SU.mp nd).1 (TL hv).1,P0 hk];simp
 | p::P,w::vs,i+1,m,nd,h1,h2,hk=>by
  show bindC kindOf ((p,w)::P.zip vs) m x=_;unfold bindC;exact t6 (i:=i) (SU.mp nd).2 (by simpa using h1) (by simpa using h2) hk
noncomputable def start(N:List Str)(vs:List V):St:=vs.map some++List.replicate (N.length-vs.length) none
abbrev eN(CX:Aw)(P:Program)(w:World)(K:FR)(mg:Str->Option Value)(base:Heap)(N:List Str)(qual:Str)(scope:Scope)(f:Addr)(cd:Value)(A:Around)(outer:List Env)(s:Shared)(H:Hp)(E:XK):Cx where
 prog:=P
 w:=w
 K:=K
 mg:=mg
 base:=base
 A:=A.deeper (envOfC qual scope s.heap.objs.size f cd)
 N:=N
 s₀:=s
 H₀:=H
 env:=envOfC qual scope s.heap.objs.size f cd
 outer:=outer
 stack:=envOfC qual scope s.heap.objs.size f cd::outer
 ex:=[]
 calm:=true
 fn:=λ_=>true
 pn:=[]
 xe:=λe s'=>wpAny (model P w) (A.deeper (envOfC qual scope s.heap.objs.size f cd)) (leaving (envOfC qual scope s.heap.objs.size f cd) e) (λ_ s''=>CX outer H s E e s'') (λe' s''=>CX outer H s E e' s'') s'
theorem xF{sc:Scope}{n:Nat}{x:Str}(h:sc.names.lookup x=some .cell):∃c,(cellsFrom n sc.names []).lookup x=some c:=by
 have q:=Ur sc.names n [] (.inl h);exact Rq.mp q
theorem tS{CX:Aw}{P:Program}{w:World}{K:FR}{mg:Str->Option Value}{base:Heap}{N ps:List Str}{qual:Str}{scope:Scope}{f:Addr}{cd:Value}{A:Around}{outer:List Env}{s s1:Shared}{H:Hp}{E:XK}{us:List Value}{vs:List V}
  (S:aE N ps scope) (hd:A.handled=none) (e0:EW P w K mg base A outer s H) (hl:vs.length=ps.length) (r:Vals vs us)
  (x:InCallC s s.heap.objs.size (bindL (envOfC qual scope s.heap.objs.size f cd).kindOf (ps.zip us) λ_=>none) (cellsFrom (s.heap.objs.size+1) scope.names []) (bindC (envOfC qual scope s.heap.objs.size f cd).kindOf (ps.zip us) λ_=>none) s1):
  Inv (eN CX P w K mg base N qual scope f cd A outer s H E) [] (start N vs) H s1:=by
 have hpl:ps.length<=N.length:=by have:=congrArg List.length S.pre;rw[Qb] at this;lia
 obtain⟨h1,tk,rfl,hk⟩:=x.done;have noA:∀b:Addr,b∉(eN CX P w K mg base N qual scope f cd A outer s H E).ex:=λb z=>absurd (show b∈([]:List Addr) from z) (by simp);refine⟨⟨e0.mod,S.kind,rfl,rfl,PJ _,λy z c h1 h2=>?_,λy hy=>?_,λy c _ h=>?_,λ_=>hd,Around.frames_deeper e0.frames,.inr ⟨rfl,rfl⟩,λb z=>absurd z (noA b),e0.bs,e0.E2,λb _ _=>noA b,λb z=>absurd z (noA b),e0.ni,e0.Hk⟩,
  rfl,e0.bare,Un.kept hk,⟨_,x.toInCall.ns,λi y v h1 h2 h3=>?_⟩,λy c h=>⟨_,x.cell y c h⟩,e0.ba.fresh (PJ _),λy c h=>?_,λp hp=>absurd (show p∈([]:List (Addr×Obj)) from hp) (by simp),e0.ba.kept hk,?_⟩
 ·exact name_of_addr x.apart (Qs h1) (Qs h2)
 ·have hy:scope.names.lookup y=some .cell\/scope.names.lookup y=some .free:=hy;rcases hy with hy | hy
  ·exact xF hy
  ·exact absurd rfl (S.Jp _ (Qs hy))
 ·exact Ry (x.above y c (Qs h))
 ·have hi:i < vs.length:=by
   unfold start at h2
   by_cases hi:i < vs.length
   ·exact hi
   ·rw[P9 (by simpa using hi)] at h2;rw[SF] at h2
    split at h2 <;> cases h2
  have ha:vs[i]?=some v:=by
   unfold start at h2;rw[PU (by simpa using hi),P8] at h2;cases e:vs[i]? with
   | none=>rw[e] at h2;cases h2
   | some a=>rw[e] at h2;cases h2;rfl
  obtain⟨u,hu,rv⟩:=r.get ha;have hp:ps[i]?=some y:=by
   rw[<-S.pre,Qp (by lia)];exact h1
  have ndP:ps.Nodup:=by rw[<-S.pre];exact S.nd.sublist (Tw _ _)
  refine⟨u,rv,?_⟩;rcases S.par y (PF hp) with k | k
  ·exact .inl ⟨k,t4 ndP hp hu k⟩
  ·obtain⟨c,e⟩:=xF (n:=s.heap.objs.size+1) k;refine .inr ⟨.inl k,c,e,?_⟩;have q:=x.cell y c e;rw[t6 ndP hp hu (by show scope.names.lookup y≠_;rw[k];decide)] at q;exact q
 ·exact e0.ba.fresh (Ry (x.above y c (Qs h)))
 ·unfold start;show _=N.length;rw[PR,PC,Rh]
  lia
theorem D3{CX:Aw}{P:Program}{w:World}{K:FR}{mg:Str->Option Value}{base:Heap}{k:Nat}{f:Addr}{name qual:Str}{params:Arguments}{body:List Stmt}{scope:Scope}{dV kV doc pm cdv ct oc:Value}{an od:Option Addr}
  {osl:Array (Option Value)} {N ps:List Str} {sp:Sp} (lk:K.lookup f=some ⟨oc,od,.func (PySem.W.fnOf name qual params body scope dV kV doc pm an cdv ct),osl⟩) (hcd:PySem.W.codeIn K cdv qual=true) (S:aE N ps scope)
  (len:∀vs H Q E,sp vs H Q E->vs.length=ps.length)
  (hbody:∀(A:Around)(outer:List Env)(s:Shared)(H:Hp)(vs:List V)(Q:VK)(E:XK),cD k (A.deeper (envOfC qual scope s.heap.objs.size f cdv))->sp vs H Q E->
   ∃t,wk (eN CX P w K mg base N qual scope f cdv A outer s H E) body t/\t {nx:=λ_ H'=>Q .bR H',rt:=Q} (start N vs) H):
  dY P w K mg base CX (k+1) f (PySem.W.fnOf name qual params body scope dV kV doc pm an cdv ct) ps sp:=by
 refine⟨len,λA outer s H args us vs Q E hr e0 hb r hsp=>?_⟩;have hl:=len _ _ _ _ hsp;have KX:K.In s.heap:=e0.mod.Nq.keeps λb o e=>(e0.bs b o e).1;have lim:s.heap.NoLimit:=e0.mod.nolimit.keeps λb o e=>(e0.bs b o e).1;have hkind:∀y∈ps.zip us,scope.names.lookup y.1=some .local\/(scope.names.lookup y.1=some .cell/\((cellsFrom (s.heap.objs.size+1) scope.names []).lookup y.1).isSome=true):=λ⟨n,v⟩ hy=>by
  rcases S.par n (TL hy).1 with q | q
  ·exact .inl q
  ·exact .inr ⟨q,Ur _ _ _ (.inl q)⟩
 refine codeAny_call_function hr.depth (KX _ _ lk) rfl S.co S.gen rfl (PySem.W.codeRec_of KX hcd) (hb _ _ _ _ ?_);refine UE S.kind hkind λenv he s1 x=>?_;subst he;refine⟨lim.keeps x.toInCall.keep,codeAny_func ?_⟩;obtain⟨t,ht,hq⟩:=hbody A outer s H vs Q E (hr.deeper _) hsp;have I:Inv (eN CX P w K mg base N qual scope f cdv A outer s H E) [] (start N vs) H s1:=tS S hr.hd e0 hl r x;refine Qo (ht [] s1 (start N vs) H _ I hq) (λfl s' hs=>?_) λe s' hs=>hs;have fin:∀{σ':St} {H':Hp} {v:V} {u:Value},Inv (eN CX P w K mg base N qual scope f cdv A outer s H E) [] σ' H' s'->RelV v u->Q v H'->CE outer P w H s Q u s':=
  λ{σ' H' v u} J rv q=>⟨v,H',J.os,J.bare,J.base,J.ba,rv,q⟩
 cases fl with
 | ret u=>
  obtain⟨v,σ',H',J,rv,q⟩:=hs;exact fin J rv q
 | next=>
  obtain⟨σ',H',J,q⟩:=hs;exact fin (v:=V.bR) (u:=Value.none) J rfl q
 | brk=>
  obtain⟨_,_,_,q⟩:=hs;exact False.elim q
 | cont=>
  obtain⟨_,_,_,q⟩:=hs;exact False.elim q
section
variable {X:Cx} {x:Str} {p pos:Pos} {e:Expr} {es:List Expr} {t:TA} {id T:String} {r:List V->Hp->VK->Prop}
def OW(r:List V->Hp->VK->Prop)(t:TA):TE:=λσ H Q=>t σ H λvs H1=>r vs H1 Q
theorem wO(hc:fz X (.builtin id) r)(hg:Gl X x)(hm:X.mg x=none)(hv:bootBuiltins x=some (.builtin id))(ha:PA X (e::es) t)(hn:x≠"__name__":=by decide)(hdb:(x==("__debug__":Str))=false:=by decide)
  (he:starEach (e::es) X.env=(false,eval e X.env)::starEach es X.env:=by rfl) (hpl:(backTo pos (starEach es X.env)).any (·.1)=false:=by rfl):PE X (.Call (.Name x p) (e::es) [] pos) (OW r t):=by
 intro pins s σ H Q I h;refine QZ (iW I hg hm hv ?_ hn hdb);exact PyProof.Rows.callWith_builtin1 (cm (ha pos pins s σ H _ I h) λus s1 ⟨vs,H1,I1,r1,q1⟩=>hc pins s1 σ H1 vs us Q I1 r1 q1) he hpl
theorem tj(hc:fz X (.type T) r)(hg:Gl X x)(hm:X.mg x=none)(hv:bootBuiltins x=some (.type T))(ha:PA X (e::es) t)(hn:x≠"__name__":=by decide)(hdb:(x==("__debug__":Str))=false:=by decide)
  (he:starEach (e::es) X.env=(false,eval e X.env)::starEach es X.env:=by rfl) (hpl:(backTo pos (starEach es X.env)).any (·.1)=false:=by rfl):PE X (.Call (.Name x p) (e::es) [] pos) (OW r t):=by
 intro pins s σ H Q I h;refine QZ (iW I hg hm hv ?_ hn hdb);exact Q1 (cm (ha pos pins s σ H _ I h) λus s1 ⟨vs,H1,I1,r1,q1⟩=>hc pins s1 σ H1 vs us Q I1 r1 q1) he hpl
end
end L2
namespace HT
open PySem PyProof.Rows
section
open PySem.SeqAt
open PySem.AutoSeq1 (wpAny_loadPart')
open PySem.MeetsSeq PySem.MeetsSeq2 PySem.MeetsSeq3
end
theorem GR(ht:IsTup s.heap t vs.toArray)(hb:IsTup s.heap b ws.toArray)(hv:vs≠[])(h1:ws=[]->Q (.ref t) s)(h2:ws≠[]->Q (.ref s.heap.objs.size) {s with heap:=s.heap.push {cls:=.type "tuple",data:=.seq (vs++ws).toArray}})(hsz:vs.length+ws.length<=sizeLine):wpAny (model prog w) A (binaryOp .Add (.ref t) (.ref b)) Q E s:=by
 obtain⟨⟨cls,dd,data,sl⟩,ho,hc,n,hd⟩:=id ht;obtain⟨⟨cls2,dd2,data2,sl2⟩,ho2,hc2,n2,hd2⟩:=id hb;simp only at hc hd hc2 hd2;subst hc hd hc2 hd2;have e:vs.toArray++ws.toArray=(vs++ws).toArray:=by simp
 by_cases hw:ws=[]
 ·exact concat_meets ⟨_,ho,rfl⟩ ⟨_,ho2,rfl⟩ Ua UM SJ Sz (Sq _ _)
   (tuple_addW1 t b vs.toArray ws.toArray n n2 dd dd2 sl sl2 (by simpa using hv) (by simp[hw])) ⟨ho,ho2,h1 hw⟩
 ·refine concat_meets ⟨_,ho,rfl⟩ ⟨_,ho2,rfl⟩ Ua UM SJ Sz (Sq _ _)
   (tuple_addW2 t b vs.toArray ws.toArray n n2 dd dd2 sl sl2 (by simpa using hv) (by simpa using hw) (by rw[P5,P5];exact hsz)) ⟨ho,ho2,?_⟩
  rw[e];exact h2 hw
noncomputable def cE(n d:Nat):Option Int->Nat
 | none=>d
 | some v=>if v < 0 then(v+(n:Int)).toNat else min v.toNat n
theorem qe(n d:Nat):cE n d none=d:=rfl
theorem uM(n d k:Nat):cE n d (some (k:Int))=min k n:=by
 show(if(k:Int) < 0 then((k:Int)+(n:Int)).toNat else min (k:Int).toNat n)=min k n;rw[P0 (by lia),RJ]
theorem Il(n d:Nat)(hd:d<=n)(o:Option Int):cE n d o<=n:=by
 cases o with
 | none=>exact hd
 | some v=>
  show(if v < 0 then(v+(n:Int)).toNat else min v.toNat n)<=n
  by_cases hv:v < 0
  ·rw[PL hv];lia
  ·rw[P0 hv];exact Nat.min_le_right _ _
theorem Am(v:Int)(n d:Nat):(if v < 0 then max (v+(n:Int)) 0 else min v (n:Int))=((cE n d (some v):Nat):Int):=by
 show(if v < 0 then max (v+(n:Int)) 0 else min v (n:Int))=(((if v < 0 then(v+(n:Int)).toNat else min v.toNat n):Nat):Int)
 by_cases hv:v < 0
 ·simp only[PL hv];lia
 ·simp only[P0 hv];lia
theorem zf(lo hi:Option Int)(n:Nat):Builtin.Slice.sliceAdjust lo hi 1 (n:Int)=(((cE n 0 lo:Nat):Int),((cE n n hi:Nat):Int)):=by
 have h1:¬((1:Int) < 0):=by lia
 unfold Builtin.Slice.sliceAdjust;simp only[h1,Tn];refine Prod.ext ?_ ?_
 ·cases lo with
  | none=>rfl
  | some v=>exact Am v n 0
 ·cases hi with
  | none=>rfl
  | some v=>exact Am v n n
theorem yr(i j:Nat):Builtin.Slice.slicePlaces (i:Int) (j:Int) 1=j-i:=by
 unfold Builtin.Slice.slicePlaces;have h1:(1:Int) > 0:=by lia
 simp only[h1,Sg,Ux]
 split <;> lia
theorem pQ(p:IsPart v o)(h:Q o s):wpAny (model prog w) A (Builtin.Slice.slicePartIndex v) Q E s:=by
 cases p with
 | none=>exact slicePart_none h
 | int i t=>exact slicePart_int h
theorem gB{sl:Addr}{vl vu:Value}{lo hi:Option Int}{n:Nat}{Q:Int×Int×Nat->Shared->Prop}(hs:s.heap.IsSliceOf sl vl vu .none)(pl:IsPart vl lo)(pu:IsPart vu hi)
  (h:Q (((cE n 0 lo:Nat):Int),1,cE n n hi-cE n 0 lo) s):wpAny (model prog w) A (Builtin.Slice.sliceApplied (.ref sl) (pure (n:Int))) Q E s:=by
 obtain⟨os,hos,hcs,hds⟩:=id hs;unfold Builtin.Slice.sliceApplied Builtin.Slice.sliceFields;refine PD (PD (QU hos hds (x:=vl) rfl (PD (QU hos hds (x:=vu) rfl (PD (QU hos hds (x:=.none) rfl (PX ?_)))))));refine PD (slicePart_none ?_);show wpAny _ _ (if((1:Int)==0)=true then _ else _) _ _ s;rw[P0 (by decide)];refine PD (pQ pl (PD (pQ pu (PD (PX ?_)))));show wpAny _ _ (match Builtin.Slice.sliceAdjust lo hi 1 (n:Int) with |(lo,hi)=>pure (lo,(1:Int),Builtin.Slice.slicePlaces lo hi 1)) _ _ s;rw[zf lo hi n];show wpAny _ _ (pure (((cE n 0 lo:Nat):Int),(1:Int),Builtin.Slice.slicePlaces ((cE n 0 lo:Nat):Int) ((cE n n hi:Nat):Int) 1)) _ _ s;rw[yr];exact PX h
theorem Dp(xs:Array Value)(i k:Nat):((List.range k).filterMap λ(m:Nat)=>xs[((i:Int)+(m:Int)*1).toNat]?).toArray=((xs.toList.drop i).take k).toArray:=by
 have e:(λ(m:Nat)=>xs[((i:Int)+(m:Int)*1).toNat]?)=λm=>xs[i+m]?:=by
  funext m
  have:((i:Int)+(m:Int)*1).toNat=i+m:=by lia
  rw[this]
 rw[e];have:=pick_run xs i k;rw[Sk] at this;have e2:((λx=>xs[x]?)∘λx=>i+x)=λm=>xs[i+m]?:=rfl;rw[e2] at this;rw[this]
theorem lI{t sl:Addr}{items:Array Value}{vl vu:Value}{lo hi:Option Int}{Q:Value->Shared->Prop}(ht:IsTup s.heap t items)(hs:s.heap.IsSliceOf sl vl vu .none)(pl:IsPart vl lo)(pu:IsPart vu hi)
  (hw:¬(cE items.size 0 lo=0/\cE items.size items.size hi=items.size))
  (h:Q (.ref s.heap.objs.size) {s with heap:=s.heap.push {cls:=.type "tuple",data:=.seq ((items.toList.drop (cE items.size 0 lo)).take (cE items.size items.size hi-cE items.size 0 lo)).toArray}})
  (hsz:items.size<=sizeLine):wpAny (model prog w) A (getItem (.ref t) (.ref sl)) Q E s:=by
 have htake:sizeOk (.seq ((items.toList.drop (cE items.size 0 lo)).take (cE items.size items.size hi-cE items.size 0 lo)).toArray):=by
  show((items.toList.drop (cE items.size 0 lo)).take (cE items.size items.size hi-cE items.size 0 lo)).toArray.size<=sizeLine;rw[P5,Qb,Q7,RP]
  lia
 have hj:cE items.size items.size hi<=items.size:=Il _ _ (PJ _) hi;obtain⟨os,hos,hcs,hds⟩:=id hs;have hTs:s.TypeIs (.ref sl) "slice":=⟨os,hos,hcs⟩;unfold getItem
 try with_reducible refine Q0 ?_
 first | refine PD (PX ?_) | skip
 refine PD (wpAny_sequenceKey ht.typeIs (by decide) ?_);refine PD (Q3 (name:=Str.ofString "__getitem__") ht.typeIs QF
  (Rj QF ht.typeIs entry_tuple_getitem ?_ (args_tuple_getitem _ _)))
 show wpAny _ _ (Builtin.Tuple.tupleItemsOf (.ref t) >>=_) _ _ s;refine PD (tupleItemsOf_ ht ?_);refine PD (TN hTs ?_);rw[PL (by decide)];refine PD (gB hs pl pu ?_);have hno:¬((((cE items.size 0 lo:Nat):Int)==0&&(1:Int)==1&&(cE items.size items.size hi-cE items.size 0 lo)==items.size)=true):=by
  intro q;rw[Qm,Qm] at q;have q1:((cE items.size 0 lo:Nat):Int)=0:=eq_of_beq q.1.1;have q2:cE items.size items.size hi-cE items.size 0 lo=items.size:=eq_of_beq q.2;exact hw ⟨by lia,by lia⟩
 show wpAny _ _ (if(((cE items.size 0 lo:Nat):Int)==0&&(1:Int)==1&&(cE items.size items.size hi-cE items.size 0 lo)==items.size)=true then _ else _) _ _ s;rw[P0 hno,Dp]
 first
  | exact PD (m:=Builtin.Tuple.tupleExact _) (QH (PX ⟨_,rfl,PX h⟩) htake)
  | exact PD (m:=Builtin.Tuple.tupleExact _) (QH (PD (PX (PX ⟨_,rfl,PX h⟩))) htake)
  | exact PD (PD (m:=Builtin.Tuple.tupleExact _) (QH (PX (PX ⟨_,rfl,PX h⟩)) htake))
  | exact PD (PD (m:=Builtin.Tuple.tupleExact _) (QH (PX ⟨_,rfl,PX h⟩) htake))
end HT
namespace L2
open PySem PySem.Spec PyProof.Rows
abbrev TO:=St->Hp->(Option Int->Hp->Prop)->Prop
def PO(X:Cx)(e:Option Expr)(t:TO):Prop:=
 ∀(pins:List (Addr×Obj)) (s:Shared) (σ:St) (H:Hp) (Q:Option Int->Hp->Prop),Inv X pins σ H s->t σ H Q->
  wpAny (model X.prog X.w) X.A (evalPart e X.env) (λu s'=>∃o H',Inv X pins σ H' s'/\IsPart u o/\Q o H') X.xe s
noncomputable def Fd:TO:=λ_ H Q=>Q none H
def Lk(t:TE):TO:=λσ H Q=>t σ H λx H1=>∃i,x=.int i/\Q (some i) H1
theorem intsAre_of:∀{us:List Value},Vals (ns.map V.int) us->IntsAre us ns:=by
 induction ns with
 | nil=>intro us r;rw[QW] at r;cases r;exact .nil
 | cons n ns ih=>
  intro us r;rw[P6] at r;cases r with
  | cons r1 r2=>
   obtain⟨t,e⟩:=r1;subst e;exact .cons n t (ih r2)
section
variable {X:Cx} {e:Expr} {te:TE} {lo hi:Option Expr} {tl th:TO} {pos p2:Pos}
theorem FW:PO X none Fd:=by
 intro pins s σ H Q I h;rw[evalPart_none];exact PX ⟨none,H,I,.none,h⟩
theorem FV(h:PE X e te):PO X (some e) (Lk te):=by
 intro pins s σ H Q I hw;rw[evalPart_some];refine cm (h pins s σ H _ I hw) λu s1 ⟨x,H1,I1,r1,q1⟩=>?_;obtain⟨i,rfl,q⟩:=q1;obtain⟨t,rfl⟩:=r1;exact⟨some i,H1,I1,.int i t,q⟩
def Kx(X:Cx)(r:V->Option Int->Option Int->Hp->VK->Prop):Prop:=
 ∀(pins:List (Addr×Obj)) (s:Shared) (σ:St) (H:Hp) (x:V) (v vl vu:Value) (lo hi:Option Int) (sl:Addr) (Q:VK),Inv X pins σ H s->RelV x v->s.heap.IsSliceOf sl vl vu .none->IsPart vl lo->IsPart vu hi->r x lo hi H Q->
  ∃T id,typeLookup (.type T) "__getitem__"=pure (some (.builtin id))/\s.TypeIs v T/\wpAny (model X.prog X.w) X.A (getItem v (.ref sl)) (EP X pins σ Q) X.xe s
def Po(r:V->Option Int->Option Int->Hp->VK->Prop)(te:TE)(tl th:TO):TE:=λσ H Q=>te σ H λx H1=>tl σ H1 λl H2=>th σ H2 λu H3=>r x l u H3 Q
theorem Ds(hr:Kx X r)(he:PE X e te)(hl:PO X lo tl)(hu:PO X hi th):PE X (.Subscript e (.Slice lo hi none p2) pos) (Po r te tl th):=by
 intro pins s σ H Q I h;refine Subscript_ (cm (he pins s σ H _ I h) λv s1 ⟨x,H1,I1,r1,q1⟩=>?_);refine wpAny_Slice (cm (hl pins s1 σ H1 _ I1 q1) λvl s2 ⟨l,H2,I2,pl,q2⟩=>cm (hu pins s2 σ H2 _ I2 q2) λvu s3 ⟨u,H3,I3,pu,q3⟩=>?_);rw[evalPart_none];refine PX ?_;have I4:Inv X pins σ H3 {s3 with heap:=s3.heap.push {cls:=.type "slice",data:=.fields #[vl,vu,.none]}}:=I3.kept (t':=s3.toks) λb ob q=>PN _ q;obtain⟨T,id,hT,ht,hg⟩:=hr pins {s3 with heap:=s3.heap.push {cls:=.type "slice",data:=.fields #[vl,vu,.none]}} σ H3 x v vl vu l u s3.heap.objs.size Q I4 r1 (Heap.IsSliceOf.new ..) pl pu q3;show wpAny (model X.prog X.w) X.A (subscriptTail e (.Slice lo hi none p2) v (.ref s3.heap.objs.size)) (EP X pins σ Q) X.xe {s3 with heap:=s3.heap.push {cls:=.type "slice",data:=.fields #[vl,vu,.none]}};exact tail_any (ops:=[.ref s3.heap.objs.size,v]) ht hT hg (by with_unfolding_all rfl)
noncomputable def rn(xs:List V)(lo hi:Option Int):List V:=(xs.drop (HT.cE xs.length 0 lo)).take (HT.cE xs.length xs.length hi-HT.cE xs.length 0 lo)
theorem oA(xs:List V)(lo hi:Option Int):(rn xs lo hi).length<=xs.length:=by
 unfold rn;rw[Qb,Q7]
 lia
def N6(K:FR):V->Option Int->Option Int->Hp->VK->Prop:=λx lo hi H Q=>∃a xs,x=.ref a/\jB K H a xs/\
 ¬(HT.cE xs.length 0 lo=0/\HT.cE xs.length xs.length hi=xs.length)/\∀p,H p=none->Q (.ref p) (upd H p (.tup (rn xs lo hi)))
theorem Ia:Kx X (N6 X.K):=by
 intro pins s σ H x v vl vu lo hi sl Q I rx hs pl pu h;obtain⟨a,xs,rfl,hx,hw,q⟩:=h;cases rx;obtain⟨its,r,ht,hz⟩:=I.tuple hx;have hlen:its.toArray.size=xs.length:=by rw[P5];exact r.length.symm
 refine⟨"tuple",_,QF.lookup,ht.typeIs,?_⟩;refine HT.lI ht hs pl pu (by rw[hlen];exact hw) ?_ (by rw[hlen];exact hz);rw[hlen];refine⟨.ref s.heap.objs.size,_,I.laid (t':=s.toks) (o:=.tup (rn xs lo hi)) (λb ob q=>PN _ q) (PJ _) ?_,rfl,q _ (I.ba.fresh (PJ _))⟩;exact⟨PY (oA xs lo hi) hz,_,(r.drop (HT.cE xs.length 0 lo)).take (HT.cE xs.length xs.length hi-HT.cE xs.length 0 lo),wb.new _ _⟩
def LY(K:FR):R2:=λx y H Q=>∃a b xs ys,x=.ref a/\y=.ref b/\jB K H a xs/\jB K H b ys/\xs≠[]/\xs.length+ys.length<=sizeLine/\
 (ys=[]->Q (.ref a) H)/\(ys≠[]->∀p,H p=none->Q (.ref p) (upd H p (.tup (xs++ys))))
theorem Vals.pv(r:Vals xs us):us=[]↔xs=[]:=by
 cases r with
 | nil=>simp
 | cons _ _=>simp
theorem Ge:kH X (binaryOp .Add) (LY X.K):=by
 intro pins s σ H x y v u Q I rx ry h;obtain⟨a,b,xs,ys,rfl,rfl,ha,hb,hx,hz,q1,q2⟩:=h;cases rx;cases ry;obtain⟨its,r1,p1,_⟩:=I.tuple ha;obtain⟨its2,r2,p2,_⟩:=I.tuple hb;refine HT.GR p1 p2 (λz=>hx (r1.pv.mp z)) (λz=>⟨.ref a,H,I,rfl,q1 (r2.pv.mp z)⟩) (λz=>?_) (by rw[<-r1.length,<-r2.length];exact hz);refine⟨.ref s.heap.objs.size,_,I.laid (t':=s.toks) (o:=.tup (xs++ys)) (λb ob q=>PN _ q) (PJ _) ?_,rfl,q2 (λw=>z (r2.pv.mpr w)) _ (I.ba.fresh (PJ _))⟩;exact⟨by rw[PR];exact hz,_,r1.append r2,wb.new _ _⟩
end
noncomputable def vz(n:Nat)(i:Int):Option Nat:=if 0<=i then(if i < n then some i.toNat else none) else if -(n:Int)<=i then some (i+n).toNat else none
noncomputable def gU{α:Type}(xs:List α)(i:Int):Option α:=(vz xs.length i).bind λj=>xs[j]?
theorem z5(h:vz n i=some j):seqIndex? i n=some j/\j < n/\-(n:Int)<=i/\i < n:=by
 unfold vz at h
 by_cases h0:0<=i
 ·rw[PL h0] at h
  by_cases h1:i < n
  ·rw[PL h1] at h;have e:i.toNat=j:=Option.some.inj h;exact⟨by rw[seqIndex_of h0 h1,e],by lia,by lia,h1⟩
  ·rw[P0 h1] at h;cases h
 ·rw[P0 h0] at h
  by_cases h1:-(n:Int)<=i
  ·rw[PL h1] at h;have e:(i+n).toNat=j:=Option.some.inj h;exact⟨by rw[seqIndex_neg (by lia) h1,e],by lia,h1,by lia⟩
  ·rw[P0 h1] at h;cases h
theorem pH(h:gU xs i=some v):∃j,seqIndex? i xs.length=some j/\xs[j]?=some v/\j < xs.length/\-(xs.length:Int)<=i/\i < xs.length:=by
 unfold gU at h;cases e:vz xs.length i with
 | none=>rw[e] at h;cases h
 | some j=>
  rw[e] at h;obtain⟨h1,h2,h3,h4⟩:=z5 e;exact⟨j,h1,h,h2,h3,h4⟩
theorem pG{α:Type}{xs:List α}{j:Nat}{v:α}(h:xs[j]?=some v):gU xs (j:Int)=some v:=by
 have hj:j < xs.length:=(PH.mp h).1;have e:vz xs.length (j:Int)=some j:=by
  unfold vz;rw[PL (by lia),PL (by lia)];simp
 unfold gU;rw[e];exact h
theorem EL(xs:List α)(v:α):gU (xs++[v]) (-1)=some v:=by
 have hl:(xs++[v]).length=xs.length+1:=by simp
 have e:vz (xs++[v]).length (-1)=some xs.length:=by
  unfold vz;rw[hl,P0 (by decide),PL (by lia)];congr 1
  lia
 unfold gU;rw[e];show(xs++[v])[xs.length]?=some v;simp
def md(b:Expr):Prop:=∀o i,subscripted b false o i=operate [o,i] (getItem o i)
def Na(X:Cx)(r:R2):Prop:=
 ∀(value slice:Expr)(pins:List (Addr×Obj)) (s:Shared) (σ:St) (H:Hp) (x y:V) (v u:Value) (Q:VK),Inv X pins σ H s->RelV x v->RelV y u->r x y H Q->
  subscripted slice false v u=operate [v,u] (getItem v u)->wpAny (model X.prog X.w) X.A (subscriptTail value slice v u) (EP X pins σ Q) X.xe s
def G0(X:Cx)(id:String)(r:V->List V->Hp->VK->Prop):Prop:=
 ∀(pins:List (Addr×Obj)) (s:Shared) (σ:St) (H:Hp) (x:V) (xs:List V) (v:Value) (us:List Value) (Q:VK),Inv X pins σ H s->RelV x v->Vals xs us->r x xs H Q->
  wpAny (model X.prog X.w) X.A (call (.builtin id) (v::us)) (EP X pins σ Q) X.xe s
section
variable {X:Cx} {a b:Expr} {ta tb:TE} {pos:Pos}
theorem L5(hr:Na X r)(ha:PE X a ta)(hb:PE X b tb)(hs:md b):PE X (.Subscript a b pos) (Lm r ta tb):=by
 intro pins s σ H Q I h;exact Subscript_ (Kq ha hb I h λv u s2 x y H2 I2 rx ry q=>hr a b pins s2 σ H2 x y v u Q I2 rx ry q (hs _ _))
def Oe(K:FR):R2:=λx y H Q=>∃p xs i v,x=.ref p/\y=.int i/\fV K H p xs/\gU xs i=some v/\Q v H
def Oc(K:FR):R2:=λx y H Q=>∃p xs i v,x=.ref p/\y=.int i/\jB K H p xs/\gU xs i=some v/\Q v H
def Od:R2:=λx y H Q=>∃z i c,x=.str z/\y=.int i/\z.length<=sizeLine/\gU z.cps.toList i=some c/\Q (.str ⟨#[c]⟩) H
theorem Gu:Na X (Oe X.K):=by
 intro value slice pins s σ H x y v u Q I rx ry h hs;obtain⟨p,xs,i,z,rfl,rfl,hq,he,q⟩:=h;cases rx;obtain⟨t,rfl⟩:=ry;obtain⟨its,r,pl,hz⟩:=I.list hq;obtain⟨j,h1,h2,h3,h4,h5⟩:=pH he;obtain⟨w,ew,rw'⟩:=r.get h2;have hl:=r.length;have hn:=kl;have fin:EP X pins σ Q w s:=⟨z,H,I,rw',q⟩
 by_cases h0:0<=i
 ·have hj:i.toNat=j:=by
   rw[seqIndex_of h0 h5] at h1;exact Option.some.inj h1
  exact item_listR pl.isList h0 (by lia) (by rw[hj];simpa using ew) fin hs
 ·have hj:(i+(its.toArray.size:Int)).toNat=j:=by
   rw[seqIndex_neg (by lia) h4] at h1;rw[P5,<-hl];exact Option.some.inj h1
  exact subscriptTail_builtinR (x:=w) pl.isList.typeIs slot_list_getitem.lookup
   (wpAny_getItem_list_neg (Q:=λr s'=>r=w/\EP X pins σ Q r s') pl.isList (by lia) (by rw[P5] <;> lia) (by lia) (by rw[hj];simpa using ew) ⟨rfl,fin⟩) hs
theorem JB:Na X (Oc X.K):=by
 intro value slice pins s σ H x y v u Q I rx ry h hs;obtain⟨p,xs,i,z,rfl,rfl,hq,he,q⟩:=h;cases rx;obtain⟨t,rfl⟩:=ry;obtain⟨its,r,pl,hz⟩:=I.tuple hq;obtain⟨j,h1,h2,h3,h4,h5⟩:=pH he;obtain⟨w,ew,rw'⟩:=r.get h2;have hl:=r.length;have hn:=kl;have fin:EP X pins σ Q w s:=⟨z,H,I,rw',q⟩;exact subscriptTail_builtinR (x:=w) pl.typeIs QF.lookup
  (getItem_tuple (j:=j) (Q:=λr s'=>r=w/\EP X pins σ Q r s') pl (by lia) (by lia) (by rw[P5,<-hl];exact h1) (by simpa using ew) ⟨rfl,fin⟩) hs
theorem JC:Na X Od:=by
 intro value slice pins s σ H x y v u Q I rx ry h hs;obtain⟨z,i,c,rfl,rfl,hz,he,q⟩:=h;obtain⟨t,rfl⟩:=rx;obtain⟨t',rfl⟩:=ry;obtain⟨j,h1,h2,h3,h4,h5⟩:=pH he;have hl:z.cps.toList.length=z.length:=by simp[Str.length]
 rw[hl] at h1 h4 h5;have hn:=kl;exact tail_any (typeIs_str s z t) slot_str_getitem.lookup (getItem_str (c:=c) (by
  have e1:decide (i < -(2^63:Int))=false:=Qv (by lia);have e2:decide (i≥2^63)=false:=Qv (by lia);rw[e1,e2,Bool.or_false]) (by rw[h1];simpa using h2) ⟨.str ⟨#[c]⟩,H,I.tok _,⟨_,rfl⟩,q⟩) hs
theorem yH(its:List Value)(n j:Nat)(u:Value):Obj.mapSeq (·.setIfInBounds j u) {cls:=.type "list",data:=.seq its.toArray n}={cls:=.type "list",data:=.seq (its.set j u).toArray n}:=by
 simp[Obj.mapSeq]
theorem Inv.lst(I:Inv X pins σ H s)(h:H p=some (.lst xs)):
  ∃(its:List Value)(n:Nat),Vals xs its/\s.heap.get? p=some {cls:=.type "list",data:=.seq its.toArray n}/\xs.length<=sizeLine:=by
 obtain⟨z,its,n,r,e⟩:=I.ba p _ h;exact⟨its,n,r,e,z⟩
theorem Inv.Jt{pins:List (Addr×Obj)}{σ:St}{H:Hp}{s:Shared}{p:Addr}{xs ys:List V}{its its':List Value}{n n':Nat}{f:Obj->Obj}(I:Inv X pins σ H s)(h:H p=some (.lst xs))
  (ho:s.heap.get? p=some {cls:=.type "list",data:=.seq its.toArray n}) (hf:f {cls:=.type "list",data:=.seq its.toArray n}={cls:=.type "list",data:=.seq its'.toArray n'}) (r:Vals ys its') (hz:ys.length<=sizeLine) (t:Nat):
  Inv X pins σ (upd H p (.lst ys)) {s with heap:=s.heap.update p f,toks:=t}:=by
 have e:(s.heap.update p f).get? p=some {cls:=.type "list",data:=.seq its'.toArray n'}:=by
  rw[Sf f ho (by rw[hf] <;> rfl),hf]
 refine I.write (x:=p) (e:=p) (by rw[h];trivial) (.inl rfl) (λb u hb q=>(QR _ _ (Q2 hb)).trans q) ⟨_,e⟩ ?_;exact⟨hz,its',n',r,e⟩
def LW:V->V->V->Hp->(Hp->Prop)->Prop:=λo i v H Q=>∃p xs k j,o=.ref p/\i=.int k/\H p=some (.lst xs)/\vz xs.length k=some j/\Q (upd H p (.lst (xs.set j v)))
theorem set_list:KC X LW:=by
 intro pins s σ H o i v ov iv u Q I ro ri rv h;obtain⟨p,xs,k,j,rfl,rfl,hp,hj,q⟩:=h;cases ro;obtain⟨t,rfl⟩:=ri;obtain⟨its,n,r,ho,hz⟩:=I.lst hp;obtain⟨h1,h2,h3,h4⟩:=z5 hj;have hl:=r.length;have hn:=kl;have I':Inv X pins σ (upd H p (.lst (xs.set j v))) {s with heap:=s.heap.update p (Obj.mapSeq (·.setIfInBounds j u))}:=
  I.Jt hp ho (yH its n j u) (r.set rv j) (by rw[Rk];exact hz) s.toks
 by_cases h0:0<=k
 ·have hk:k.toNat=j:=by
   rw[seqIndex_of h0 h4] at h1;exact Option.some.inj h1
  exact PySem.W.ki_setAt ho h0 (by lia) (by rw[P5,<-hl];exact h4) (by rw[hk];exact⟨_,I',q⟩)
 ·have hk:(k+(its.toArray.size:Int)).toNat=j:=by
   rw[seqIndex_neg (by lia) h3] at h1;rw[P5,<-hl];exact Option.some.inj h1
  exact PySem.W.ki_setBack ho (by lia) (by rw[P5,<-hl];exact h3) (by lia) (by rw[hk];exact⟨_,I',q⟩)
theorem uB(lo hi:Option Int)(n:Nat):(sliceBounds lo hi none n).1=((HT.cE n 0 lo:Nat):Int)/\(sliceBounds lo hi none n).2.1=((HT.cE n n hi:Nat):Int)/\(sliceBounds lo hi none n).2.2=1:=by
 refine⟨?_,?_,rfl⟩
 ·cases lo with
  | none=>simp[sliceBounds,HT.cE]
  | some i=>
   simp only[sliceBounds,HT.cE,Option.getD_none,show(1:Int) > 0 by decide,Sg]
   by_cases h:i < 0
   ·simp only[h,Sg] <;> lia
   ·simp only[h,Tn] <;> lia
 ·cases hi with
  | none=>simp[sliceBounds,HT.cE]
  | some i=>
   simp only[sliceBounds,HT.cE,Option.getD_none,show(1:Int) > 0 by decide,Sg]
   by_cases h:i < 0
   ·simp only[h,Sg] <;> lia
   ·simp only[h,Tn] <;> lia
theorem rY(its:List Value)(lo hi:Option Int):slicePick its.toArray lo hi none=((its.drop (HT.cE its.length 0 lo)).take (HT.cE its.length its.length hi-HT.cE its.length 0 lo)).toArray:=by
 obtain⟨h1,h2,h3⟩:=uB lo hi its.toArray.size;unfold slicePick;rw[h1,h2,h3];simp only[sliceRange_one,pick_run,P5] <;> rfl
def N8(K:FR):V->Option Int->Option Int->Hp->VK->Prop:=λx lo hi H Q=>∃a xs,x=.ref a/\fV K H a xs/\∀p,H p=none->Q (.ref p) (upd H p (.lst (rn xs lo hi)))
theorem Fm:Kx X (N8 X.K):=by
 intro pins s σ H x v vl vu lo hi sl Q I rx hs pl pu h;obtain⟨a,xs,rfl,hx,q⟩:=h;cases rx;obtain⟨its,r,ht,hz⟩:=I.list hx;have hlen:=r.length;refine⟨"list",_,slot_list_getitem.lookup,ht.isList.typeIs,?_⟩;refine wpAny_getItem_list_slice ht.isList hs pl pu .none (by simp) ?_ (by rw[P5] <;> lia);rw[rY,<-hlen];refine⟨.ref s.heap.objs.size,_,I.laid (t':=s.toks) (o:=.lst (rn xs lo hi)) (λb ob q=>PN _ q) (PJ _) ?_,rfl,q _ (I.ba.fresh (PJ _))⟩;exact⟨PY (oA xs lo hi) hz,_,0,(r.drop (HT.cE xs.length 0 lo)).take (HT.cE xs.length xs.length hi-HT.cE xs.length 0 lo),Qk _ rfl⟩
theorem vR:fz X (.builtin "len") (λxs H Q=>∃p ys,xs=[.ref p]/\(fV X.K H p ys\/jB X.K H p ys)/\Q (.int ys.length) H):=by
 intro pins s σ H xs us Q I r h;obtain⟨p,ys,rfl,hq,q⟩:=h;obtain⟨u,rfl,rx⟩:=vals1 r;cases rx;have hn:=kl;rcases hq with hq | hq
 ·obtain⟨its,r',pl,hz⟩:=I.list hq;have hlen:=r'.length;exact Calls.call_len_list pl.isList (by simp only[P5] <;> lia) ⟨.int ys.length,H,I.tok _,⟨s.toks+1,by rw[P5,hlen]⟩,q⟩
 ·obtain⟨its,r',pl,hz⟩:=I.tuple hq;have hlen:=r'.length;exact len_tuple pl (by simp only[P5] <;> lia) ⟨.int ys.length,H,I.tok _,⟨s.toks+1,by rw[P5,hlen]⟩,q⟩
theorem vQ:fz X (.builtin "len") (λxs H Q=>∃z,xs=[.str z]/\z.length<=sizeLine/\Q (.int z.length) H):=by
 intro pins s σ H xs us Q I r h;obtain⟨z,rfl,hz,q⟩:=h;obtain⟨u,rfl,t,rfl⟩:=vals1 r;have hn:=kl;exact len_str (by lia) ⟨.int z.length,H,I.tok _,⟨_,rfl⟩,q⟩
theorem vP:fz X (.type "list") (λxs H Q=>∃p ys,xs=[.ref p]/\(fV X.K H p ys\/jB X.K H p ys)/\∀l,H l=none->Q (.ref l) (upd H l (.lst ys))):=by
 intro pins s σ H xs us Q I r h;obtain⟨p,ys,rfl,hq,q⟩:=h;obtain⟨u,rfl,rx⟩:=vals1 r;cases rx;have fin:∀(its:List Value),Vals ys its->ys.length<=sizeLine->∀(h':Heap)(c':Nat),(∀b o',s.heap.get? b=some o'->h'.get? b=some o')->
   h'.get? s.heap.objs.size=some {cls:=.type "list",dict:=none,data:=.seq its.toArray c',slots:=#[]}->EP X pins σ Q (.ref s.heap.objs.size) {s with heap:=h'}:=λits r' hz h' c' kp e=>
  ⟨.ref s.heap.objs.size,_,I.laid (t':=s.toks) kp (PJ _) (show bM X.prog X.w _ h' _ (.lst ys) from⟨hz,its,c',r',e⟩),rfl,q _ (I.ba.fresh (PJ _))⟩
 rcases hq with hq | hq
 ·obtain⟨its,r',pl,hz⟩:=I.list hq;have hlen:=r'.length;obtain⟨o,ho,hc,n,hd⟩:=pl.isList;exact call_list_seq p (.inl rfl) ho hc hd (λh' c' kp e=>fin its r' hz h' c' kp e) (by simp only[P5] <;> lia)
 ·obtain⟨its,r',pl,hz⟩:=I.tuple hq;have hlen:=r'.length;obtain⟨o,ho,hc,n,hd⟩:=pl;exact call_list_seq p (.inr rfl) ho hc hd (λh' c' kp e=>fin its r' hz h' c' kp e) (by simp only[P5] <;> lia)
theorem sH:fz X (.type "tuple") (λxs H Q=>∃p ys,xs=[.ref p]/\((fV X.K H p ys/\∀l,H l=none->Q (.ref l) (upd H l (.tup ys)))\/(jB X.K H p ys/\Q (.ref p) H))):=by
 intro pins s σ H xs us Q I r h;obtain⟨p,ys,rfl,h⟩:=h;obtain⟨u,rfl,rx⟩:=vals1 r;cases rx;rcases h with⟨hq,q⟩ |⟨hq,q⟩
 ·obtain⟨its,r',pl,hz⟩:=I.list hq;have hlen:=r'.length;refine call_tuple_list pl.isList (λh' kp=>?_) (by simp only[P5] <;> lia);have I1:Inv X pins σ H {s with heap:=h'}:=I.kept (t':=s.toks) kp;have I2:Inv X pins σ (upd H h'.objs.size (.tup ys)) {s with heap:=h'.push {cls:=.type "tuple",data:=.seq its.toArray}}:=
   I1.laid (t':=s.toks) (λb o e=>PN _ e) (PJ _) (show bM X.prog X.w _ _ _ (.tup ys) from⟨hz,its,r',wb.new _ _⟩)
  exact⟨.ref h'.objs.size,_,I2,rfl,q _ (I1.ba.fresh (PJ _))⟩
 ·obtain⟨its,r',pl,hz⟩:=I.tuple hq;exact call_tuple_same pl ⟨.ref p,H,I,rfl,q⟩
def KJ(K:FR)(T:String)(x:V)(H:Hp):Prop:=match x with
 | .str _=>T="str"
 | .int _=>T="int"
 | .ref p=>(T="list"/\∃xs,fV K H p xs)\/(T="tuple"/\∃o,K.lookup p=some o/\o.cls=.type "tuple"/\o.dict=none)\/
   (T="dict"/\((∃kvs,H p=some (.dK kvs))\/(∃kvs,H p=some (.dT kvs))\/∃φ,H p=some (.Ae φ)/\∀w h,φ w h->∃o,h.get? p=some o/\o.ExactDict))\/(T="set"/\∃S n,H p=some (.set S n))
 | _=>False
theorem HM(I:Inv X pins σ H s)(r:RelV x v)(ty:KJ X.K T x H):
  s.TypeIs v T/\∀a,v=.ref a->∃ob,s.heap.get? a=some ob/\ob.dict=none:=by
 cases x with
 | str z=>
  obtain⟨t,rfl⟩:=r;cases(show T="str" from ty);exact⟨typeIs_str s z t,λ_ e=>nomatch e⟩
 | int i=>
  obtain⟨t,rfl⟩:=r;cases(show T="int" from ty);exact⟨TH s i t,λ_ e=>nomatch e⟩
 | ref p=>
  cases r;rcases ty with⟨rfl,xs,hq⟩ |⟨rfl,o,hk,hc,hd⟩ |⟨rfl,hk⟩ |⟨rfl,S,n,hk⟩
  ·obtain⟨its,_,pl,_⟩:=I.list hq;refine⟨pl.isList.typeIs,λa e=>?_⟩;cases e;obtain⟨o,n,e,c,hd,_⟩:=pl;exact⟨o,e,hd⟩
  ·refine⟨⟨o,I.ou p o hk,hc⟩,λa e=>?_⟩;cases e;exact⟨o,I.ou _ o hk,hd⟩
  ·have z:∃o,s.heap.get? p=some o/\o.ExactDict:=by
    rcases hk with⟨kvs,hk⟩ |⟨kvs,hk⟩ |⟨φ,hk,hφ⟩
    ·obtain⟨_,_,_,_,o,_,_,e,ex,_⟩:=I.ba p _ hk;exact⟨o,e,ex⟩
    ·obtain⟨_,_,_,_,o,_,_,e,ex,_⟩:=I.ba p _ hk;exact⟨o,e,ex⟩
    ·obtain⟨q,_⟩:=I.ba p _ hk;exact hφ _ _ q
   obtain⟨o,e,ex⟩:=z;refine⟨⟨o,e,ex.1⟩,λa e2=>?_⟩;cases e2;exact⟨o,e,ex.2.1⟩
  ·obtain⟨o,_,_,_,e,ex,_⟩:=I.ba p _ hk;refine⟨⟨o,e,ex.1⟩,λa e2=>?_⟩;cases e2;exact⟨o,e,ex.2.1⟩
 | _=>exact False.elim ty
def Pu(K:FR)(T:String)(r:V->List V->Hp->VK->Prop)(to:TE)(t:TA):TE:=λσ H Q=>to σ H λx H1=>KJ K T x H1/\t σ H1 λxs H2=>r x xs H2 Q
variable {o e:Expr} {es:List Expr} {to:TE} {t:TA} {name:Str} {apos cpos:Pos} {T id:String} {r:V->List V->Hp->VK->Prop}
theorem L6(pa:PlainAttrs T)(slot:Slot T name id)(hty:typeOf (.builtin id)=pure (.type "method_descriptor"))(hm:G0 X id r)(ho:PE X o to)(ha:PA X (e::es) t)
  (hbase:attributeBase o name X.env (eval o X.env)=eval o X.env:=by rfl)
  (hfew:((backTo cpos (starEach (e::es) X.env)).all (λx=>!x.1)&&(backToKw cpos (keywordEach [] X.env)).all (λx=>x.1.isSome)
   &&decide ((e::es).length+([]:List Keyword).length+(if([]:List Keyword).isEmpty then 0 else 1) < 30))=true:=by rfl)
  (hline:(apos.endLine==cpos.line)=true:=by rfl) (hs:starEach (e::es) X.env=(false,eval e X.env)::starEach es X.env:=by rfl) (hplain:(backTo cpos (starEach es X.env)).any (·.1)=false:=by rfl):
  PE X (.Call (.Attribute o name apos) (e::es) [] cpos) (Pu X.K T r to t):=by
 intro pins s σ H Q I h;refine wpAny_Call_method_late hbase hfew hline rfl (cm (ho pins s σ H _ I h) λv s1 ⟨x,H1,I1,r1,ty,q1⟩=>?_);obtain⟨h1,h2⟩:=HM I1 r1 ty;refine⟨T,id,pa,slot,hty,h1,h2,?_⟩;have hA:=ha cpos pins s1 σ H1 _ I1 q1;rw[hs] at hA ⊢;refine Calls.callWith_builtin (by show(false||(backTo cpos (starEach es X.env)).any (·.1))=false;rw[hplain] <;> rfl) (Calls.evalArgs_plain ?_);exact cm hA λus s2 ⟨vs,H2,I2,r2,q2⟩=>hm pins s2 σ H2 x vs v us Q I2 r1 r2 q2
end
def Pe(X:Cx)(id:String)(r:V->List V->Hp->VK->Prop):Prop:=
 ∀(pins:List (Addr×Obj)) (s:Shared) (σ:St) (H:Hp) (x:V) (xs:List V) (v:Value) (us:List Value) (Q:VK),Inv X pins σ H s->RelV x v->Vals xs us->r x xs H Q->
  wpAny (model X.prog X.w) X.A (call (.builtin id) (v::us)) (EP X pins σ Q) X.xe s
theorem Vals.one{x:V}{us:List Value}(h:Vals [x] us):∃u,us=[u]/\RelV x u:=by
 cases h with
 | cons r t=>cases t;exact⟨_,rfl,r⟩
theorem Vals.two{x y:V}{us:List Value}(h:Vals [x,y] us):∃u v,us=[u,v]/\RelV x u/\RelV y v:=by
 cases h with
 | cons r t=>cases t with
  | cons q z=>cases z;exact⟨_,_,rfl,r,q⟩
theorem Vals.rep(h:Vals xs us):∀k:Nat,Vals (List.replicate k xs).flatten (List.replicate k us).flatten
 | 0=>.nil
 | k+1=>by
  rw[QI,QI,Rp,Rp];exact Vals.append h (Vals.rep h k)
theorem foldl_rep(its:List Value):∀(k:Nat)(acc:List Value),
  List.foldl (λx1 x2=>x1++x2) acc.toArray (List.replicate k its.toArray)=(acc++(List.replicate k its).flatten).toArray
 | 0,acc=>by simp
 | k+1,acc=>by
  have e:acc.toArray++its.toArray=(acc++its).toArray:=by simp
  have e2:(acc++its)++(List.replicate k its).flatten=acc++(List.replicate (k+1) its).flatten:=by
   rw[QI,Rp,QE]
  rw[<-e2,<-foldl_rep its k (acc++its),<-e,QI,List.foldl_cons]
theorem Inv.Ml{its its':List Value}{n:Nat}{f:Array Value->Array Value}{t':Nat}(I:Inv X pins σ H s)(hH:H l=some (.lst xs))
  (e:s.heap.get? l=some {cls:=.type "list",data:=.seq its.toArray n}) (hf:f its.toArray=its'.toArray) (hv:Vals ys its') (hz:ys.length<=sizeLine):
  Inv X pins σ (upd H l (.lst ys)) {s with heap:=s.heap.update l (Obj.mapSeq f),toks:=t'}:=by
 have q:=PySem.IsL.update e f;rw[hf] at q;refine I.write (x:=l) (e:=l) (by rw[hH];exact trivial) (.inl rfl) (λb' u hb hu=>(QR s.heap (Obj.mapSeq f) (Q2 hb)).trans hu) ⟨_,q⟩ ?_;exact⟨hz,its',_,hv,q⟩
theorem Inv.Gn(I:Inv X pins σ H s)(hv:Vals ys its)(hz:ys.length<=sizeLine):
  Inv X pins σ (upd H s.heap.objs.size (.lst ys)) {s with heap:=s.heap.push {cls:=.type "list",data:=.seq its.toArray},toks:=t'}:=
 I.laid (λ_ _ q=>PN _ q) (PJ _) ⟨hz,its,0,hv,Qk _ rfl⟩
theorem Inv.fresh(I:Inv X pins σ H s):H s.heap.objs.size=none:=I.ba.fresh (PJ _)
theorem Inv.Bj(I:Inv X pins σ H s)(hH:H l=some (.lst xs)):xs.length<=sizeLine/\∃(its:List Value)(n:Nat),Vals xs its/\xs.length=its.length/\s.heap.get? l=some {cls:=.type "list",data:=.seq its.toArray n}:=by
 obtain⟨z,its,n,r,e⟩:=I.ba l _ hH;exact⟨z,its,n,r,r.length,e⟩
theorem wY(h:n<=sizeLine):Builtin.List.listTooLong n=false:=by
 unfold Builtin.List.listTooLong;exact Qv (by lia)
def FG:V->List V->Hp->VK->Prop:=λx vs H Q=>∃l xs y,x=.ref l/\vs=[y]/\H l=some (.lst xs)/\xs.length < sizeLine/\Q .bR (upd H l (.lst (xs++[y])))
theorem mY:Pe X "list.append" FG:=by
 intro pins s σ H x vs v us Q I rx rv h;obtain⟨l,xs,y,rfl,rfl,hH,hz,q⟩:=h;cases rx;obtain⟨u,rfl,ru⟩:=rv.one;obtain⟨z,its,n,r,hl,e⟩:=I.Bj hH;refine Sx RU ⟨_,e,rfl⟩ F.entry_list_append (F.args_list_append_2 _ _) (PySem.list_append l its.toArray n u (by rw[P5];lia)) ⟨e,?_⟩;refine⟨.bR,_,I.Ml (its':=its++[u]) hH e (by simp) (r.append (.cons ru .nil)) ?_,rfl,q⟩;rw[PR,R6]
 lia
def FF:V->List V->Hp->VK->Prop:=λx vs H Q=>∃l b xs zs,x=.ref l/\vs=[.ref b]/\H l=some (.lst xs)/\H b=some (.lst zs)/\xs.length+zs.length<=sizeLine/\Q .bR (upd H l (.lst (xs++zs)))
theorem Bd:Pe X "list.extend" FF:=by
 intro pins s σ H x vs v us Q I rx rv h;obtain⟨l,b,xs,zs,rfl,rfl,hH,hB,hz,q⟩:=h;cases rx;obtain⟨u,rfl,ru⟩:=rv.one;cases ru;obtain⟨z,its,n,r,hl,e⟩:=I.Bj hH;obtain⟨z2,its2,n2,r2,hl2,e2⟩:=I.Bj hB;have hsz:its.toArray.size+its2.toArray.size<=sizeLine:=by rw[P5,P5];lia
 have hlong:¬(!its.toArray.isEmpty&&Builtin.List.listTooLong (its.toArray.size+its2.toArray.size))=true:=by
  rw[wY hsz,Bool.and_false];exact Rb
 refine Sx SX ⟨_,e,rfl⟩ F.entry_list_extend (F.args_list_extend_2 _ _)
  (AutoSeq1.list_extend_list_list_0 l its.toArray n b its2.toArray n2 hlong (by rw[P5];lia) (by lia)) ⟨e,e2,?_⟩
 refine⟨.bR,_,I.Ml (its':=its++its2) hH e (by simp) (r.append r2) ?_,rfl,q⟩;rw[PR]
 lia
def Og:R2:=λx y H Q=>∃l b xs zs,x=.ref l/\y=.ref b/\H l=some (.lst xs)/\H b=some (.lst zs)/\xs.length+zs.length<=sizeLine/\∀p,H p=none->Q (.ref p) (upd H p (.lst (xs++zs)))
theorem DH:kH X (binaryOp .Add) Og:=by
 intro pins s σ H x y v u Q I rx ry h;obtain⟨l,b,xs,zs,rfl,rfl,hH,hB,hz,q⟩:=h;cases rx;cases ry;obtain⟨z,its,n,r,hl,e⟩:=I.Bj hH;obtain⟨z2,its2,n2,r2,hl2,e2⟩:=I.Bj hB;refine PySem.P.add_list e e2 ?_ (by rw[P5,P5];lia);have ea:its.toArray++its2.toArray=(its++its2).toArray:=by simp
 rw[ea];exact⟨.ref _,_,I.Gn (t':=s.toks) (r.append r2) (by rw[PR];lia),rfl,q _ I.fresh⟩
def Ob:R2:=λx y H Q=>∃l k xs,x=.ref l/\y=.int k/\H l=some (.lst xs)/\-(2^63)<=k/\k < 2^63/\xs.length*k.toNat<=sizeLine/\
 ∀p,H p=none->Q (.ref p) (upd H p (.lst (List.replicate k.toNat xs).flatten))
theorem len_rep(xs:List α)(k:Nat):(List.replicate k xs).flatten.length=k*xs.length:=by
 induction k with
 | zero=>simp
 | succ k ih=>rw[QI,Rp,PR,ih,Nat.succ_mul,Tv]
theorem Jg:kH X (binaryOp .Mult) Ob:=by
 intro pins s σ H x y v u Q I rx ry h;obtain⟨l,k,xs,rfl,rfl,hH,h1,h2,hz,q⟩:=h;cases rx;obtain⟨t,rfl⟩:=ry;obtain⟨z,its,n,r,hl,e⟩:=I.Bj hH;have hlen:its.toArray.size*k.toNat<=sizeLine:=by rw[P5,<-hl];exact hz
 have hcap:¬its.toArray.size*k.toNat > (2^63-1) / 8:=by
  have:(sizeLine:Nat)<=(2^63-1) / 8:=by decide
  lia
 have hfit:¬(!Builtin.List.listFitsIndex k)=true:=by
  rw[fitsIndex_both h1 h2];exact Rb
 have hlong:¬Builtin.List.listTooLong (its.toArray.size*k.toNat)=true:=by
  rw[wY hlen];exact Rb
 have hnew:List.foldl (λx1 x2=>x1++x2) #[] (List.replicate (if its.toArray.isEmpty=true then 0 else k.toNat) its.toArray)=(List.replicate k.toNat its).flatten.toArray:=by
  have f0:∀m:Nat,List.foldl (λx1 x2=>x1++x2) #[] (List.replicate m its.toArray)=(List.replicate m its).flatten.toArray:=λm=>by
   have:=foldl_rep its m [];rw[RE] at this;exact this
  rw[f0];cases its with
  | nil=>simp
  | cons a r'=>rw[P0 (by simp)]
 refine UJ (T:="list") (U:="int") (by decide) ⟨_,e,rfl⟩ (λs'=>TH s' k t) noFill_list_mul F.fills_int_mul Th repeat_list F.slot_int_index.lookup
  (Sx Th (TH s k t) F.entry_int_rmul (F.args_int_rmul_2 _ _) (int___rmul___int_list k t l its.toArray n)
   ⟨e,rfl,⟨_,e,rfl⟩,Sx F.slot_list_mul ⟨_,e,rfl⟩ F.entry_list_mul (F.args_list_mul_2 _ _) (AutoListH.list___mul___list_int_3 l its.toArray n k t hfit hcap hlong) ⟨e,?_⟩⟩)
 rw[hnew];exact⟨.ref _,_,I.Gn (t':=s.toks) (r.rep k.toNat) (by rw[len_rep,Nat.mul_comm];exact hz),rfl,q _ I.fresh⟩
section
variable {κ:Type} [DecidableEq κ]
noncomputable def iA(kvs:List (κ×V))(k:κ):Option V:=(kvs.find? λkv=>decide (kv.1=k)).map (·.2)
noncomputable def putK(kvs:List (κ×V))(k:κ)(v:V):List (κ×V):=
 if(kvs.any λkv=>decide (kv.1=k))=true then kvs.map (λkv=>if kv.1=k then(kv.1,v) else kv) else kvs++[(k,v)]
theorem pL{p:κ×V}{r:List (κ×V)}{k:κ}(e:p.1=k):iA (p::r) k=some p.2:=by simp[iA,RG,e]
theorem kJ{p:κ×V}{r:List (κ×V)}{k:κ}(e:¬p.1=k):iA (p::r) k=iA r k:=by simp[iA,RG,e]
theorem wq(k:κ):∀kvs:List (κ×V),(kvs.any λkv=>decide (kv.1=k))=(iA kvs k).isSome
 | []=>rfl
 | p::r=>by
  rw[RH]
  by_cases e:p.1=k
  ·simp only[pL e,Qj e,Bool.true_or,Option.isSome_some]
  ·rw[kJ e,Qv e,Bool.false_or];exact wq k r
theorem iV(kvs:List (κ×V))(k:κ)(v:V):(putK kvs k v).length<=kvs.length+1:=by
 unfold putK
 split
 ·rw[PC];lia
 ·rw[PR,P1,QJ];lia
theorem nC.gM(r:nC o u):o.isSome=u.isSome:=by
 cases o with
 | none=>cases u with
  | none=>rfl
  | some _=>exact(show False from r).elim
 | some _=>cases u with
  | none=>exact(show False from r).elim
  | some _=>rfl
theorem nC.getD(r:nC o u)(rd:RelV d d'):RelV (o.getD d) (u.getD d'):=by
 cases o with
 | none=>cases u with
  | none=>exact rd
  | some _=>exact(show False from r).elim
 | some _=>cases u with
  | none=>exact(show False from r).elim
  | some _=>exact r
theorem KV.val{kvs:List (κ×V)}{vs:List (κ×Value)}(r:KV kvs vs)(k:κ):nC (iA kvs k) (valueAt vs k):=by
 unfold KV at r
 induction r with
 | nil=>exact True.intro
 | @cons p q ps qs h t ih=>
  obtain⟨h1,h2⟩:=h
  by_cases e:p.1=k
  ·have e':q.1=k:=h1.symm.trans e;have b:valueAt (q::qs) k=some q.2:=by simp[valueAt,RG,e']
   rw[pL e,b];exact h2
  ·have e':¬q.1=k:=λz=>e (h1.trans z);have b:valueAt (q::qs) k=valueAt qs k:=by simp[valueAt,RG,e']
   rw[kJ e,b];exact ih
theorem KV.any(r:KV kvs vs)(k:κ):(kvs.any λkv=>decide (kv.1=k))=vs.any λkv=>decide (kv.1=k):=by
 unfold KV at r
 induction r with
 | nil=>rfl
 | cons h t ih=>rw[RH,RH,ih,h.1]
theorem KV.Iq(r:KV kvs vs)(k:κ)(ry:RelV y u):
  KV (kvs.map λkv=>if kv.1=k then(kv.1,y) else kv) (vs.map λkv=>if kv.1=k then(kv.1,u) else kv):=by
 unfold KV at r ⊢
 induction r with
 | nil=>exact .nil
 | @cons p q ps qs h t ih=>
  rw[P6,P6];refine .cons ?_ ih;obtain⟨h1,h2⟩:=h
  by_cases e:p.1=k
  ·rw[PL e,PL (h1.symm.trans e)];exact⟨h1,ry⟩
  ·rw[P0 e,P0 (λz=>e (h1.trans z))];exact⟨h1,h2⟩
theorem KV.put(r:KV kvs vs)(k:κ)(ry:RelV y u):KV (putK kvs k y) (stored vs k u):=by
 unfold putK stored;rw[r.any k]
 by_cases e:(vs.any λkv=>decide (kv.1=k))=true
 ·rw[PL e,PL e];exact r.Iq k ry
 ·rw[P0 e,P0 e];exact Paired.snoc r ⟨rfl,ry⟩
theorem KV.length(r:KV kvs vs):kvs.length=vs.length:=Paired.length r
end
theorem ot(r:RelV (kV k) u):(bQ P w).is k u=true:=by
 cases k with
 | inl i=>obtain⟨t,e⟩:=(show ∃t,u=Value.int i t from r);subst e;exact w9 P w i t
 | inr x=>obtain⟨t,e⟩:=(show ∃t,u=Value.str x t from r);subst e;exact w5 P w x t
theorem tR:∀{ks:List Key} {us:List Value},Vals (ks.map kV) us->ItemsAre (bQ P w) ks us
 | [],_,r=>by rw[QW] at r;cases r;exact .nil
 | k::ks,_,r=>by
  rw[P6] at r;cases r with
  | cons h t=>exact .cons (ot h) (tR t)
abbrev KT(H:Hp):List (List Key×V)->List (List Key×Addr×Value)->Prop:=Paired λp q=>p.1=q.1/\H q.2.1=some (.tup (p.1.map kV))/\RelV p.2 q.2.2
theorem KT.val{H:Hp}{kvs:List (List Key×V)}{xs:List (List Key×Addr×Value)}(r:KT H kvs xs)(k:List Key):nC (iA kvs k) ((atKey xs k).map (·.2)):=by
 induction r with
 | nil=>exact True.intro
 | @cons p q ps qs h t ih=>
  obtain⟨h1,_,h2⟩:=h
  by_cases e:p.1=k
  ·have e':q.1=k:=h1.symm.trans e;have b:atKey (q::qs) k=some q.2:=by simp[atKey,RG,e']
   rw[pL e,b];exact h2
  ·have e':¬q.1=k:=λz=>e (h1.trans z);have b:atKey (q::qs) k=atKey qs k:=by simp[atKey,RG,e']
   rw[kJ e,b];exact ih
theorem KT.Iq(r:KT H kvs xs)(k:List Key)(ry:RelV y u):
  KT H (kvs.map λkv=>if kv.1=k then(kv.1,y) else kv) (xs.map (putAt k u)):=by
 induction r with
 | nil=>exact .nil
 | @cons p q ps qs h t ih=>
  rw[P6,P6];refine .cons ?_ ih;obtain⟨h1,h2,h3⟩:=h;unfold putAt
  by_cases e:p.1=k
  ·rw[PL e,PL (h1.symm.trans e)];exact⟨h1,h2,ry⟩
  ·rw[P0 e,P0 (λz=>e (h1.trans z))];exact⟨h1,h2,h3⟩
theorem KT.put(r:KT H kvs xs)(k:List Key)(hb:H b=some (.tup (k.map kV)))(ry:RelV y u):
  KT H (putK kvs k y) (storedH xs k b u):=by
 have e:(kvs.any λkv=>decide (kv.1=k))=(atKey xs k).isSome:=by
  rw[wq,(r.val k).gM,Tr]
 unfold putK storedH;rw[e]
 by_cases q:(atKey xs k).isSome=true
 ·rw[PL q,PL q];exact r.Iq k ry
 ·rw[P0 q,P0 q];exact Paired.snoc r ⟨rfl,hb,ry⟩
theorem KT.keeps(r:KT H kvs xs)(ht:∀b ys,H b=some (.tup ys)->H' b=some (.tup ys)):KT H' kvs xs:=
 Paired.Mk r λ_ _ z=>⟨z.1,ht _ _ z.2.1,z.2.2⟩
theorem Ha(ok:i6 P w H h)(e:Rd H a u):bM P w H h a u:=e.ok ok
theorem oy(ok:i6 P w H h)(e:Rd H a (.dK kvs)):kvs.length<=sizeLine/\(a==sysModules)=false/\∃vs,KV kvs vs/\h.DictOf (bQ P w) a vs:=
 show bM P w H h a (.dK kvs) from Ha ok e
theorem Ah(ok:i6 P w H h)(e:H a=some (.dK kvs)):kvs.length<=sizeLine/\(a==sysModules)=false/\∃vs,KV kvs vs/\h.DictOf (bQ P w) a vs:=oy ok (.inl e)
theorem ko(ok:i6 P w H h)(e:H a=some (.tup (ks.map kV))):(tupleKind (bQ P w)).is h ks a:=by
 obtain⟨_,its,r,o,h1,h2,⟨n,h3⟩,_⟩:=(show bM P w H h a (.tup (ks.map kV)) from ok a _ e);exact⟨o,its.toArray,n,h1,h2,h3,by simpa using tR r⟩
theorem rj(ok:i6 P w H h)(e:Rd H a (.dT kvs)):kvs.length<=sizeLine/\(a==sysModules)=false/\
  ∃xs,KT H kvs xs/\h.DictOfH (tupleKind (bQ P w)) a xs:=by
 obtain⟨z,y,xs,r,o,es,ep,h1,h2,h3,h4,h5⟩:=(show bM P w H h a (.dT kvs) from Ha ok e);refine⟨z,y,xs,r,o,es,ep,h1,h2,h3,h4,λx hx=>?_,h5⟩;have all:∀{l:List (List Key×V)} {m:List (List Key×Addr×Value)},KT H l m->∀x∈m,(tupleKind (bQ P w)).is h x.1 x.2.1:=by
  intro l m q
  induction q with
  | nil=>intro x hx;exact nomatch hx
  | @cons p q ps qs hq t ih=>
   intro x hx;rcases PZ.mp hx with e | hx
   ·subst e;exact ko ok (by rw[<-hq.1];exact hq.2.1)
   ·exact ih x hx
 exact all r x hx
theorem MA(ok:i6 P w H h)(e:H a=some (.dT kvs)):kvs.length<=sizeLine/\(a==sysModules)=false/\
  ∃xs,KT H kvs xs/\h.DictOfH (tupleKind (bQ P w)) a xs:=rj ok (.inl e)
def mh(H:Hp)(a:Addr)(y:V)(r:Option V):Prop:=
 (∃kvs k,Rd H a (.dK kvs)/\y=kV k/\r=iA kvs k)\/∃kvs k b,Rd H a (.dT kvs)/\y=.ref b/\H b=some (.tup (k.map kV))/\r=iA kvs k
def G1(H:Hp)(a:Addr)(y v:V)(H':Hp):Prop:=
 (∃kvs k,H a=some (.dK kvs)/\y=kV k/\kvs.length < sizeLine/\H'=upd H a (.dK (putK kvs k v)))\/
 ∃kvs k b,H a=some (.dT kvs)/\y=.ref b/\H b=some (.tup (k.map kV))/\kvs.length < sizeLine/\H'=upd H a (.dT (putK kvs k v))
theorem mh.k{H:Hp}{a:Addr}{kvs:List (Key×V)}{k:Key}(e:H a=some (.dK kvs)):mh H a (kV k) (iA kvs k):=.inl ⟨kvs,k,.inl e,rfl,rfl⟩
theorem G1.k{H:Hp}{a:Addr}{kvs:List (Key×V)}{k:Key}{v:V}(e:H a=some (.dK kvs))(hl:kvs.length < sizeLine):G1 H a (kV k) v (upd H a (.dK (putK kvs k v))):=.inl ⟨kvs,k,e,rfl,hl,rfl⟩
theorem Inv.big(I:Inv X pins σ H s):sysModules < s.heap.objs.size:=by
 have h:mainGlobals < s.heap.objs.size:=(I.mod.glob.keeps I.bk).lt;exact Ts (by decide) h
theorem BG(hu:A.units+1 < cLine)(I:Inv X pins σ H s)(g:mh H a y (some v))(ry:RelV y u)(h:∀w' s',Inv X pins σ H s'->RelV v w'->Q w' s'):
  wpAny (model X.prog X.w) A (getItem (.ref a) u) Q E s:=by
 rcases g with⟨kvs,k,e,ey,l⟩ |⟨kvs,k,b,e,ey,eb,l⟩
 ·subst ey;obtain⟨z,hd,vs,rel,dd⟩:=oy I.ba e;obtain⟨w',hw,rw'⟩:=nC.some_of (v:=v) (o:=valueAt vs k) (by rw[l];exact rel.val k);exact wpAny_getItem_of (ot ry) dd.mapOf hw (h w' _ (I.tok _) rw')
 ·subst ey;cases(show u=Value.ref b from ry);obtain⟨z,hd,xs,rel,dd⟩:=rj I.ba e;obtain⟨w',hw,rw'⟩:=nC.some_of (v:=v) (o:=(atKey xs k).map (·.2)) (by rw[l];exact rel.val k);obtain⟨p,hp,hp2⟩:=Qg.mp hw;refine wpAny_getItem_heap (RK hu) (ko I.ba eb) dd hp ?_;rw[hp2];exact h w' _ (I.tok _) rw'
theorem OB(hu:A.units+1 < cLine)(I:Inv X pins σ H s)(g:mh H a y o)(ry:RelV y u)(h:∀s',Inv X pins σ H s'->Q (.bool o.isSome) s'):
  wpAny (model X.prog X.w) A (compareOp .In u (.ref a)) Q E s:=by
 rcases g with⟨kvs,k,e,ey,l⟩ |⟨kvs,k,b,e,ey,eb,l⟩
 ·subst ey;obtain⟨z,hd,vs,rel,dd⟩:=oy I.ba e;refine wpAny_in_of (ot ry) hd dd.mapOf ?_;rw[<-(rel.val k).gM,<-l];exact h _ (I.tok _)
 ·subst ey;cases(show u=Value.ref b from ry);obtain⟨z,hd,xs,rel,dd⟩:=rj I.ba e;refine wpAny_in_heap (RK hu) (ko I.ba eb) hd dd ?_;have q:=(rel.val k).gM;rw[Tr] at q;rw[<-q,<-l];exact h _ (I.tok _)
theorem GG(hu:A.units+1 < cLine)(I:Inv X pins σ H s)(g:mh H a y o)(ry:RelV y u)(h:∀s',Inv X pins σ H s'->Q (.bool (!o.isSome)) s'):
  wpAny (model X.prog X.w) A (compareOp .NotIn u (.ref a)) Q E s:=by
 rcases g with⟨kvs,k,e,ey,l⟩ |⟨kvs,k,b,e,ey,eb,l⟩
 ·subst ey;obtain⟨z,hd,vs,rel,dd⟩:=oy I.ba e;refine wpAny_notIn_of (ot ry) hd dd.mapOf ?_;rw[<-(rel.val k).gM,<-l];exact h _ (I.tok _)
 ·subst ey;cases(show u=Value.ref b from ry);obtain⟨z,hd,xs,rel,dd⟩:=rj I.ba e;refine wpAny_notIn_heap (RK hu) (ko I.ba eb) hd dd ?_;have q:=(rel.val k).gM;rw[Tr] at q;rw[<-q,<-l];exact h _ (I.tok _)
theorem vJ(I:Inv X pins σ H s)(mu:M9 (H a))(hs:Heap.SameBut a s.heap h')(he:∃q,h'.get? a=some q)(new:bM X.prog X.w (upd H a ob) h' a ob):
  Inv X pins σ (upd H a ob) {s with heap:=h',toks:=t'}:=
 I.write (x:=a) (e:=a) mu (.inl rfl) (λb q hb z=>(hs.2 b hb).trans z) he new
theorem Ek(z:kvs.length<=sizeLine)(hd:(a==sysModules)=false)(rel:KV kvs vs)(dd:h'.DictOf (bQ P w) a vs):
  bM P w H' h' a (.dK kvs):=⟨z,hd,vs,rel,dd⟩
theorem BF(hu:A.units+1 < cLine)(I:Inv X pins σ H s)(g:G1 H a y v H')(ry:RelV y u)(rv:RelV v r)(h:∀s',Inv X pins σ H' s'->Q () s'):
  wpAny (model X.prog X.w) A (setItem (.ref a) u r) Q E s:=by
 rcases g with⟨kvs,k,e,ey,l,eH⟩ |⟨kvs,k,b,e,ey,eb,l,eH⟩
 ·subst ey eH;obtain⟨z,hd,vs,rel,dd⟩:=Ah I.ba e;have hz:vs.length<=sizeLine:=by rw[<-rel.length];exact z
  have hl:(putK kvs k v).length<=sizeLine:=by have:=iV kvs k v;lia
  refine wpAny_setItem_pairs (hsz:=hz) (ot ry) dd λh' dd' hs=>h _ ?_;have he:∃q,h'.get? a=some q:=by obtain⟨q,_,_,hq,_⟩:=dd';exact⟨q,hq⟩
  exact vJ I (by rw[e];exact True.intro) hs he (Ek hl hd (rel.put k rv) dd')
 ·subst ey eH;cases(show u=Value.ref b from ry);obtain⟨z,hd,xs,rel,dd⟩:=MA I.ba e;have hz:xs.length<=sizeLine:=by rw[<-Paired.length rel];exact z
  have hl:(putK kvs k v).length<=sizeLine:=by have:=iV kvs k v;lia
  refine wpAny_setItem_heap (hsz:=hz) (RK hu) (ko I.ba eb) dd λh' dd' hs=>h _ ?_;obtain⟨q,es,ep,hq,h2,h3,h4,_,h5⟩:=dd';refine vJ I (by rw[e];exact True.intro) hs ⟨q,hq⟩ ⟨hl,hd,_,(rel.put k eb rv).keeps λc ys ec=>?_,q,es,ep,hq,h2,h3,h4,h5⟩;rw[ay (Mh ec e (λz=>nomatch z))];exact ec
theorem MB(I:Inv X pins σ H s)(e:Rd H a (.dK kvs))(h:∀t s',Inv X pins σ H s'->Q (.int kvs.length t) s'):wpAny (model X.prog X.w) A (call (.builtin "len") [.ref a]) Q E s:=by
 obtain⟨z,hd,vs,rel,dd⟩:=oy I.ba e;refine call_len_dict hd dd (by rw[<-rel.length];rw[Rt] at z;lia) ?_;rw[<-rel.length];exact h _ _ (I.tok _)
def GZ(i:Expr):Prop:=∀ov iv,subscripted i false ov iv=operate [ov,iv] (getItem ov iv)
theorem Ff{prog:Program}{w:World}{A:Around}{E:Value->Shared->Prop}{s:Shared}{env:Env}{value slice:Expr}{pos:Pos}{T id:String}{Q:Value->Shared->Prop}
  (hl:typeLookup (.type T) "__getitem__"=pure (some (.builtin id))) (hs:GZ slice)
  (h:wpAny (model prog w) A (eval value env) (λo s₁=>wpAny (model prog w) A (eval slice env) (λi s₂=>s₂.TypeIs o T/\wpAny (model prog w) A (getItem o i) Q E s₂) E s₁) E s):
  wpAny (model prog w) A (eval (.Subscript value slice pos) env) Q E s:=by
 refine Subscript_ (Qo h (λo s₁ h₁=>Qo h₁ (λi s₂ h₂=>?_) λ_ _ x=>x) λ_ _ x=>x);obtain⟨hT,h₂⟩:=h₂;unfold subscriptTail;refine PD ?_;rw[getitemInPython_of_ne hT.not_modules];refine PD (wpAny_specialOf hT hl ?_);have fin:wpAny (model prog w) A (subscripted slice false o i) (λr s₃=>wpAny (model prog w) A (letTemporaryGo value o r >>=λ_=>pure r) Q E s₃) E s₂:=by
  rw[hs o i];exact wpAny_operating (Qo h₂ (λr s₃ h₃=>PD (wpAny_letTemporaryGo (PX h₃))) λ_ _ x=>x)
 first
  | exact PX (PD fin)
  | exact PD (PX (PD fin))
  | exact PD fin
theorem xx(I:Inv X pins σ H s)(g:mh H a y o):s.TypeIs (.ref a) "dict":=by
 rcases g with⟨kvs,k,e,_,_⟩ |⟨kvs,k,b,e,_,_,_⟩
 ·obtain⟨_,_,vs,_,dd⟩:=oy I.ba e;exact dd.typeIs
 ·obtain⟨_,_,xs,_,dd⟩:=rj I.ba e;exact dd.typeIs
theorem xw(h:Heap)(hb:sysModules < h.objs.size):bM P w H (h.push {cls:=.type "dict",data:=.dict #[]}) h.objs.size (.dK []):=
 ⟨Rx _,Td.mpr (Q2 (Qe hb)),[],.nil,Heap.DictOf.new h⟩
def HX:TE:=λ_ H Q=>∀p,H p=none->Q (.ref p) (upd H p (.dK []))
theorem Dv:PE X (.Dict [] [] pos) HX:=λpins s σ H Q I h=>
 wpAny_Dict_empty ⟨.ref s.heap.objs.size,_,I.laid (a:=s.heap.objs.size) (o:=.dK []) (t':=s.toks) (λ_ _ q=>PN _ q) (PJ _) (xw s.heap I.big),rfl,h _ (I.ba.fresh (PJ _))⟩
def uv:List (TE×TE)->St->Hp->(List (V×V)->Hp->Prop)->Prop
 | [],_,H,Q=>Q [] H
 |(tk,tv)::r,σ,H,Q=>tk σ H λx H1=>tv σ H1 λy H2=>uv r σ H2 λps H3=>Q ((x,y)::ps) H3
abbrev VV:List (V×V)->List (Value×Value)->Prop:=Paired λp q=>RelV p.1 q.1/\RelV p.2 q.2
def KD(X:Cx)(pos:Pos)(keys:List (Option Expr))(values:List Expr)(trs:List (TE×TE)):Prop:=
 ∀(pins:List (Addr×Obj)) (s:Shared) (σ:St) (H:Hp) (Q:List (V×V)->Hp->Prop),Inv X pins σ H s->uv trs σ H Q->
  wpAny (model X.prog X.w) X.A (evalPairs (pairTrees keys values X.env pos)) (λvs s'=>∃ps H',Inv X pins σ H' s'/\VV ps vs/\Q ps H') X.xe s
theorem FU:KD X pos [] [] []:=λpins s σ H Q I h=>pairTrees_nil_walk ⟨[],H,I,.nil,h⟩
theorem Dm(hk:PE X k tk)(hv:PE X v tv)(hr:KD X pos ks vs trs):
  KD X pos (some k::ks) (v::vs) ((tk,tv)::trs):=λpins s σ H Q I h=>
 pairTrees_cons_walk (cm (hk pins s σ H _ I h) λu s1 ⟨x,H1,I1,rx,q1⟩=>cm (hv pins s1 σ H1 _ I1 q1) λw2 s2 ⟨y,H2,I2,ry,q2⟩=>
  cm (hr pins s2 σ H2 _ I2 q2) λws s3 ⟨ps,H3,I3,rel,q3⟩=>⟨(x,y)::ps,H3,I3,.cons ⟨rx,ry⟩ rel,q3⟩)
noncomputable def fL(kvs more:List (Key×V)):List (Key×V):=more.foldl (λacc kv=>putK acc kv.1 kv.2) kvs
theorem KV.merge:∀{more:List (Key×V)} {rs:List (Key×Value)} {kvs:List (Key×V)} {vs:List (Key×Value)},KV more rs->KV kvs vs->KV (fL kvs more) (merged vs rs):=by
 intro more rs kvs vs r;unfold KV at r
 induction r generalizing kvs vs with
 | nil=>intro q;exact q
 | @cons p q ps qs h t ih=>
  intro r0;have e:KV (putK kvs p.1 p.2) (stored vs q.1 q.2):=by
   have:=r0.put p.1 h.2;rw[<-h.1];exact this
  exact ih e
theorem jQ:∀(more kvs:List (Key×V)),(fL kvs more).length<=kvs.length+more.length
 | [],kvs=>by show kvs.length<=kvs.length+0;lia
 | p::r,kvs=>by
  have h1:=jQ r (putK kvs p.1 p.2);have h2:=iV kvs p.1 p.2;show(fL (putK kvs p.1 p.2) r).length<=_;rw[P1];lia
theorem rK:∀{kvs:List (Key×V)} {ws:List (Value×Value)},VV (kvs.map λkv=>(kV kv.1,kv.2)) ws->∃rs,Carries (bQ P w) ws rs/\KV kvs rs
 | [],_,r=>by rw[QW] at r;cases r;exact⟨[],True.intro,.nil⟩
 | p::kvs,_,r=>by
  rw[P6] at r;cases r with
  | @cons a b as bs h t=>
   obtain⟨rs,c,q⟩:=rK (P:=P) (w:=w) t;obtain⟨b1,b2⟩:=b;exact⟨(p.1,b2)::rs,⟨ot h.1,rfl,c⟩,.cons ⟨rfl,h.2⟩ q⟩
def Ct(trs:List (TE×TE)):TE:=λσ H Q=>∀p,H p=none->uv trs σ (upd H p (.dK [])) λps H2=>H2 p=some (.dK [])/\∃kvs:List (Key×V),ps=kvs.map (λkv=>(kV kv.1,kv.2))/\kvs.length<=15/\Q (.ref p) (upd H2 p (.dK (fL [] kvs)))
theorem zK(h:KD X pos keys values trs)(hall:keys.all (·.isSome)=true)(hl:keys.length=values.length)(h0:keys≠[])(h15:keys.length<=15):PE X (.Dict keys values pos) (Ct trs):=by
 intro pins s σ H Q I q;have hn:=I.ba.fresh (PJ s.heap.objs.size);have I1:=I.laid (a:=s.heap.objs.size) (o:=.dK []) (h':=s.heap.push {cls:=.type "dict",data:=.dict #[]}) (t':=s.toks) (λ_ _ q=>PN _ q) (PJ _) (xw s.heap I.big);refine wpAny_Dict_walk (knd:=bQ X.prog X.w) hall hl h0 h15 (cm (h pins _ σ _ _ I1 (q _ hn)) λws s2 ⟨ps,H2,I2,rel,e,kvs,ep,lk,q2⟩=>?_);subst ep;obtain⟨rs,c,rk⟩:=rK (P:=X.prog) (w:=X.w) rel;obtain⟨z,hd,vs0,r0,dd⟩:=Ah I2.ba e;cases r0;refine⟨rs,c,dd,λh' dd' hs=>⟨.ref s.heap.objs.size,_,?_,rfl,q2⟩⟩;have hz:(fL [] kvs).length<=sizeLine:=by
  have h1:=jQ kvs [];rw[QJ] at h1;rw[Rt];lia
 have he:∃q,h'.get? s.heap.objs.size=some q:=by obtain⟨q,_,_,hq,_⟩:=dd';exact⟨q,hq⟩
 exact vJ I2 (by rw[e];exact True.intro) hs he (Ek hz hd (rk.merge .nil) dd')
theorem JX(hu:A.units+1 < cLine)(I:Inv X pins σ H s)(g:mh H a y o)(ry:RelV y u)(h:∀w' s',Inv X pins σ H s'->RelV (o.getD .bR) w'->Q w' s'):
  wpAny (model X.prog X.w) A (call (.builtin "dict.get") [.ref a,u]) Q E s:=by
 rcases g with⟨kvs,k,e,ey,l⟩ |⟨kvs,k,b,e,ey,eb,l⟩
 ·subst ey;obtain⟨z,hd,vs,rel,dd⟩:=oy I.ba e;refine TR RI dd.typeIs RV (Ul _ _) (meets_dict_get (bQ X.prog X.w) a (ot ry) hd) ⟨_,dd.mapOf,h _ _ (I.tok _) ?_⟩;rw[l];exact(rel.val k).getD rfl
 ·subst ey;cases(show u=Value.ref b from ry);obtain⟨z,hd,xs,rel,dd⟩:=rj I.ba e;refine TR RI dd.typeIs RV (Ul _ _) (meetsH_dict_get (tupleKind (bQ X.prog X.w)) a b hd) ⟨RK hu,k,xs,ko I.ba eb,dd,h _ _ (I.tok _) ?_⟩;rw[l];exact(rel.val k).getD rfl
theorem JW(hu:A.units+1 < cLine)(I:Inv X pins σ H s)(g:mh H a y o)(ry:RelV y u)(rd:RelV d r)(h:∀w' s',Inv X pins σ H s'->RelV (o.getD d) w'->Q w' s'):
  wpAny (model X.prog X.w) A (call (.builtin "dict.get") [.ref a,u,r]) Q E s:=by
 rcases g with⟨kvs,k,e,ey,l⟩ |⟨kvs,k,b,e,ey,eb,l⟩
 ·subst ey;obtain⟨z,hd,vs,rel,dd⟩:=oy I.ba e;refine TR RI dd.typeIs RV (Uk _ _ _) (meets_dict_get_default (bQ X.prog X.w) a (ot ry) hd r) ⟨_,dd.mapOf,h _ _ (I.tok _) ?_⟩;rw[l];exact(rel.val k).getD rd
 ·subst ey;cases(show u=Value.ref b from ry);obtain⟨z,hd,xs,rel,dd⟩:=rj I.ba e;refine TR RI dd.typeIs RV (Uk _ _ _) (meetsH_dict_get_default (tupleKind (bQ X.prog X.w)) a b hd r) ⟨RK hu,k,xs,ko I.ba eb,dd,h _ _ (I.tok _) ?_⟩;rw[l];exact(rel.val k).getD rd
end L2
namespace Att
open PySem PySem.W PySem.Calls PyProof.Rows
theorem oV:∀(ns:List Int)(vs:List Value),WellAll P h vs (ns.map WData.int)->IntsAre vs ns:=by
 intro ns
 induction ns with
 | nil=>
  intro vs w;rw[QW] at w;cases w;exact .nil
 | cons n ns ih=>
  intro vs w;rw[P6] at w;cases w with
  | cons a b=>
   cases a;exact .cons _ _ (ih _ b)
theorem AQ{l:OpenLaw}{n:Nat}(hn:l.most=some n){P:Params}{h:Heap}{args:List WData}{vals:List Value}
  (hpre:l.row.toRowW.claim.pre args=true) (hwl:WellAll P h vals args):
  ∃a vs ns,vals=[Value.ref a]/\args=[WData.list (ns.map WData.int)]/\h.get? a=some {cls:=.type "list",data:=.seq vs.toArray}/\IntsAre vs ns/\ns.length<=n:=by
 have hsh:WShape.hasAll [] args [.list .int]=true:=(pre_splitW hpre).1;have hc:l.pre.holds [] {args:=args}=true:=(pre_splitW hpre).2;obtain⟨d,r,rfl,h1,h2⟩:=hasAllW_cons hsh;obtain rfl:=hasAllW_nil h2;obtain⟨xs,rfl,h3⟩:=hasW_list h1;obtain⟨ns,rfl⟩:=items_int h3;have hlen:ns.length<=n:=by
  unfold OpenLaw.pre at hc;have h4:(WTm.not (.lt (.lit (.int (n:Int))) (.len (.arg 0)))).holds [] {args:=[.list (ns.map .int)]}=true:=by
   have h4:=(holds_andW hc).1;rw[hn] at h4;exact h4
  have h5:=condW_of h4 (w_not (w_lt w_lit (w_len_list (w_arg rfl))));rw[PC] at h5;refine Q6 λq=>?_;have q':(n:Int) < ((ns.length:Nat):Int):=by lia
  first
   |(rw[Qj q'] at h5;exact absurd h5 (by decide))
   |(simp at h5;lia)
 cases hwl with
 | cons w1 w2=>
  cases w2;cases w1 with
  | list ho hall=>exact⟨_,_,ns,rfl,rfl,ho,oV ns _ hall,hlen⟩
theorem AX(l:OpenLaw)(args:List WData):l.row.toRowW.claim.post args (.bool true) args=true:=
 postW_of (r:=l.row.toRowW) (X:=(true==true))
  (show WShape.has [] (.bool true) .bool=true by first | rfl | decide | simp[WShape.has,WShape.arms,WShape.armsAll])
  (show(WTm.eq .res (.lit (.bool true))).value [] {args:=args,res:=some (.bool true),after:=args}=some (.bool (true==true)) from w_eq_bool (w_res rfl) w_lit) rfl
theorem xJ{l:OpenLaw}{n:Nat}{q:Program}{loose:List Str}{XP:(Str->Option Value)->Heap->Prop}{YP:World->Heap->Prop}{d:DefRec}
  (hn:l.most=some n) (hdf:d.params.defaults=[])
  (call:∀(w:World)(s₀ s₁:Shared)(mg mb:Str->Option Value)(fa:Addr)(o:Obj)(pm cd doc:Value)(a:Addr)(vs:List Value)(ns:List Int),
   Ground q loose [] XP w s₀ mg mb s₁.heap->YP w s₁.heap->
   s₁.heap.get? fa=some o->o.data=.func (docDef d.name d.params d.body d.scope pm cd doc)->s₁.heap.CodeRec cd d.name->mg d.name=some (.ref fa)->
   s₁.heap.get? a=some {cls:=.type "list",data:=.seq vs.toArray}->IntsAre vs ns->ns.length<=n->s₁.gens=#[]->
   codeAny (model l.prog w) callerA (.call (.ref fa) ⟨[.ref a],[]⟩) (λr s'=>r=.ok (.ret (.bool true))/\OldK s₁.heap s'.heap/\s'.os=s₁.os/\AllBare s'.gens) s₁):
  WalkO q loose XP YP l.row.toRowW d [] (λf vs=>PySem.call f vs):=by
 intro w s₀ s₁ mg mb G Y fa o pm cd doc dV kV ho hd hcd hD hmg hg args vals as hpre hlay hrd hwl hlo;obtain rfl:dV=.none:=Dflts.none hD hdf;obtain rfl:kV=.none:=Dflts.noKw hD;obtain⟨a,vs,ns,rfl,rfl,hobj,hints,hlen⟩:=AQ hn hpre hwl;refine enter_call (Sa (call w s₀ s₁ mg mb fa o pm cd doc a vs ns G Y ho (fd_plain hd) hcd hmg hobj hints hlen hg) λr s' hq=>?_);obtain⟨rfl,h2,h3,h4⟩:=hq;exact⟨.inl ⟨.bool true,.bool true,[],rfl,λ_=>rfl,.bool true,AX l _,λ_=>⟨List.Pairwise.nil,λ_ hm=>(nomatch hm)⟩⟩,h2,h3,h4⟩
section
variable {prog:Program} {w:World} {A:Around} {E:Value->Shared->Prop} {s:Shared} {K:Frag}
end
end Att
namespace L2
open PySem PySem.Spec PyProof.Rows
theorem mq{vs:List Value}{ns:List Int}(a:IntsAre vs ns):Vals (ns.map V.int) vs:=by
 induction a with
 | nil=>exact .nil
 | cons n t h ih=>exact .cons ⟨t,rfl⟩ ih
def gV(K:FR)(P:Addr):Prop:=∃vs:Array Value,(mainGlobals,({cls:=.none,data:=.fields vs}:Obj))∈K/\.ref P∈vs.toList
open Classical in
theorem DU{P:Program}{w:World}{K:FR}{mg mb:Str->Option Value}{CX:Aw}{k:Nat}{fa a:Addr}{fd:FuncData}{x:Str}{sp:Sp}{s₁:Shared}{vs:List Value}{ns:List Int}
  (KX:K.In s₁.heap) (hns:s₁.heap.Ns mainGlobals mg) (hb:s₁.heap.Ns builtinsNs mb) (hbb:∀x:Str,x≠"__name__"->mb x=bootBuiltins x) (hlim:s₁.heap.NoLimit) (hg:s₁.gens=#[])
  (ha:s₁.heap.get? a=some {cls:=.type "list",data:=.seq vs.toArray}) (hi:IntsAre vs ns) (hl:ns.length<=sizeLine) (hr:cD k callerA)
  (F:∀base:Heap,K.In base->base.Ns mainGlobals mg->dY P w K mg base CX k fa fd [x] sp) (hbind:∀(s:Shared)(u:Value),BindsTo s fd ⟨[u],[]⟩ [(x,u)])
  (hT:∀b,gV K b->isCodeTable s₁.heap b/\s₁.heap.get? b=some {cls:=.none,data:=.fields #[]}/\K.lookup b=none)
  (hsp:∀H:Hp,fV K H a (ns.map V.int)->(∀b,gV K b->H b=some .tb)->sp [.ref a] H (λv H'=>v=.bl true/\∀b,gV K b->H' b=some .tb) λ_ _ _=>False)
  (hCX:∀H e s',CX [] H s₁ (λ_ _ _=>False) e s'->False):
  codeAny (model P w) callerA (.call (.ref fa) ⟨[.ref a],[]⟩) (λr s'=>r=.ok (.ret (.bool true))/\OldK s₁.heap s'.heap/\s'.os=s₁.os/\AllBare s'.gens) s₁:=by
 have rv:=mq hi;have lenV:=hi.length;have hTa:¬gV K a:=λz=>by rw[(hT a z).2.1] at ha;cases ha
 have core:∀H:Hp,fV K H a (ns.map V.int)->i6 P w H s₁.heap->(∀b,gV K b->H b=some .tb)->(∀b u,H b=some u->gV K b\/(b=a/\K.lookup a=none/\∃o xs,u=.kF o (.lst xs)))->
   codeAny (model P w) callerA (.call (.ref fa) ⟨[.ref a],[]⟩) (λr s'=>r=.ok (.ret (.bool true))/\OldK s₁.heap s'.heap/\s'.os=s₁.os/\AllBare s'.gens) s₁:=by
  intro H hS ba hTb hA;have base_of:∀{b:Addr} {o:Obj},s₁.heap.get? b=some o->H b=none->(vB s₁.heap H).get? b=some o:=λe n=>DZ e n;have noA:∀{b:Addr} {o:Obj} {es:Array DictEntry} {ep:Nat},s₁.heap.get? b=some o->o.data=.dict es ep->H b=none:=λ{b o es ep} e d=>by
   cases q:H b with
   | none=>rfl
   | some u=>
    rcases hA b u q with z |⟨rfl,_⟩
    ·rw[(hT b z).2.1] at e;cases e;cases d
    ·rw[ha] at e;cases e;have d':Data.seq vs.toArray _=Data.dict es ep:=d;cases d'
  have nsK:∀{b:Addr} {m:Str->Option Value},s₁.heap.Ns b m->(vB s₁.heap H).Ns b m:=λ{b m} ⟨o,es,ep,e,d,r⟩=>⟨o,es,ep,base_of e (noA e d),d,r⟩;have hKb:K.In (vB s₁.heap H):=λb o e=>base_of (KX b o e) (by
   cases q:H b with
   | none=>rfl
   | some u=>
    rcases hA b u q with z |⟨rfl,hk,_⟩
    ·rw[(hT b z).2.2] at e;cases e
    ·rw[hk] at e;cases e)
  have hM:Mod K mg (vB s₁.heap H):=⟨hKb,nsK hns,⟨mb,nsK hb,hbb⟩,let⟨mc,h1,h2⟩:=hlim;⟨mc,nsK h1,h2⟩⟩;have e0:EW P w K mg (vB s₁.heap H) callerA [] s₁ H:=⟨rfl,hM,λb o e=>Gg e,Uv (Bw _ _),trivial,λb hb=>absurd (show b∈([]:List Addr) from hb) (by simp),ba,.of_eq hg⟩;refine Sa ((F _ hKb (nsK hns)).run callerA [] s₁ H ⟨[.ref a],[]⟩ [.ref a] [.ref a] _ _ hr e0 (hbind s₁ (.ref a)) (.cons rfl .nil) (hsp H hS hTb)) λr s' h=>?_;cases r with
  | error e=>exact(hCX H e s' h).elim
  | ok fl=>
   cases fl with
   | next=>exact False.elim h
   | brk=>exact False.elim h
   | cont=>exact False.elim h
   | ret u=>
    obtain⟨v,H',os,bare,un,hok',r',q⟩:=h;obtain⟨q',q2⟩:v=.bl true/\∀b,gV K b->H' b=some .tb:=q;subst q';obtain rfl:u=Value.bool true:=r';have kF:∀b o xs,H b=some (.kF o (.lst xs))->s₁.heap.get? b=some o/\s'.heap.get? b=some o:=λb o xs z=>by
     obtain⟨e1,_⟩:=ba b _ z;obtain⟨e2,_⟩:=hok' b _ (un.lK b _ _ z);exact⟨e1,e2⟩
    refine⟨rfl,⟨λb o e=>?_,λb o e=>un.there b o e (by simp)⟩,os,bare⟩;cases q:H b with
    | none=>exact .inl (un.keep b o e q (by intro z;exact absurd (show b∈([]:List Addr) from z) (by simp)) (by simp))
    | some u=>
     rcases hA b u q with z |⟨_,_,ob,xs,rfl⟩
     ·obtain⟨ps,e2,_⟩:=hok' b _ (q2 b z);have e1:=(hT b z).2.1;rw[e] at e1;cases e1;exact .inr (.inl ⟨(hT b z).1,rfl,#[],ps,rfl,by rw[e2];simp⟩)
     ·obtain⟨e1,e2⟩:=kF b ob xs q;rw[e] at e1;cases e1;exact .inl e2
 have tbOk:∀(H:Hp) b,gV K b->bM P w H s₁.heap b .tb:=λH b z=>⟨#[],(hT b z).2.1,trivial,λpos c e=>by simp[codeAmong] at e⟩;cases hk:K.lookup a with
 | some o=>
  have e:=KX a o hk;rw[ha] at e;cases e;refine core (λb=>if gV K b then some .tb else none) (.inr ⟨_,vs.toArray,_,hk,rfl,rfl,rfl,by rw[P5,lenV];exact hl,by simpa using rv⟩) (λb u z=>?_) (λb z=>PL z) λb u z=>?_
  ·by_cases hb:gV K b
   ·have z':=(PL hb).symm.trans z;cases z';exact tbOk _ b hb
   ·have z':=(P0 hb).symm.trans z;cases z'
  ·by_cases hb:gV K b
   ·exact .inl hb
   ·have z':=(P0 hb).symm.trans z;cases z'
 | none=>
  refine core (λb=>if gV K b then some .tb else if b=a then some (.kF {cls:=.type "list",data:=.seq vs.toArray} (.lst (ns.map V.int))) else none) (.inl (.inr ⟨{cls:=.type "list",data:=.seq vs.toArray},(P0 hTa).trans (PL rfl)⟩)) (λb u z=>?_) (λb z=>PL z) λb u z=>?_
  ·by_cases hb:gV K b
   ·have z':=(PL hb).symm.trans z;cases z';exact tbOk _ b hb
   ·have z':=(P0 hb).symm.trans z
    by_cases hb:b=a
    ·have z':=(PL hb).symm.trans z';cases z';subst hb;exact⟨ha,by rw[PC];exact hl,vs,_,rv,ha⟩
    ·have z':=(P0 hb).symm.trans z';cases z'
  ·by_cases hb:gV K b
   ·exact .inl hb
   ·have z':=(P0 hb).symm.trans z
    by_cases hb:b=a
    ·have z':=(PL hb).symm.trans z';cases z';exact .inr ⟨hb,hk,_,_,rfl⟩
    ·have z':=(P0 hb).symm.trans z';cases z'
noncomputable def lN(s:Stmt):Arguments:=match s with
 | .FunctionDef _ a _ _ _ _ _ _ _ _=>a
 | _=>{posonlyargs:=[],args:=[],vararg:=none,kwonlyargs:=[],kw_defaults:=[],kwarg:=none,defaults:=[]}
noncomputable def cY(s:Stmt):List Stmt:=match s with
 | .FunctionDef _ _ b _ _ _ _ _ _ _=>b
 | _=>[]
noncomputable def ah(s:Stmt):Scope:=match s with
 | .FunctionDef _ _ _ _ _ _ sc _ _ _=>sc
 | _=>{kind:=.function,names:=[],isGenerator:=false,isCoroutine:=false}
abbrev mm:Aw:=λ_ _ _ _ _ _=>False
abbrev E0:XK:=λ_ _ _=>False
theorem L8:Passes mm X E0:=λ_ _ _ _ _ _ _ h=>h.elim
structure rW(K:FR)(x qual:Str)(st:Stmt)(f:Addr)(fd:FuncData):Prop where
 ex:∃(oc:Value)(od:Option Addr)(kV doc pm:Value)(an:Option Addr)(cdv ct:Value)(osl:Array (Option Value)),
  fd=PySem.W.fnOf x qual (lN st) (cY st) (ah st) .none kV doc pm an cdv ct/\K.lookup f=some ⟨oc,od,.func fd,osl⟩/\PySem.W.codeIn K cdv qual=true
 kp:PySem.W.keepIn K (.ref f)=true
section
variable {P:Program} {w:World} {K:FR} {mg:Str->Option Value} {base:Heap}
theorem rW.ok{x qual:Str}{st:Stmt}{f:Addr}{fd:FuncData}{N ps:List Str}{k:Nat}{sp:Sp}(F:rW K x qual st f fd)(S:aE N ps (ah st))(len:∀vs H Q E,sp vs H Q E->vs.length=ps.length)
  (hbody:∀(cdv:Value)(A:Around)(outer:List Env)(s:Shared)(H:Hp)(vs:List V)(Q:VK)(E:XK),cD k (A.deeper (envOfC qual (ah st) s.heap.objs.size f cdv))->sp vs H Q E->
   ∃t,wk (eN mm P w K mg base N qual (ah st) f cdv A outer s H E).DK (cY st) t/\t {nx:=λ_ H'=>Q .bR H',rt:=Q} (start N vs) H):dY P w K mg base mm (k+1) f fd ps sp:=by
 obtain⟨oc,od,kV,doc,pm,an,cdv,ct,osl,rfl,lk,hcd⟩:=F.ex;refine D3 lk hcd S len λA outer s H vs Q E hr hsp=>?_;obtain⟨t,h,q⟩:=hbody cdv A outer s H vs Q E hr hsp;exact⟨t,h.DK,q⟩
theorem rW.binds{x qual:Str}{st:Stmt}{f:Addr}{fd:FuncData}{ps:List Str}(F:rW K x qual st f fd)
  (h:∀(kV doc pm:Value)(an:Option Addr)(cdv ct:Value)(us:List Value),us.length=ps.length->bindArgs (PySem.W.fnOf x qual (lN st) (cY st) (ah st) .none kV doc pm an cdv ct) ⟨us,[]⟩=pure (ps.zip us)):Binds K fd ps []:=by
 obtain⟨oc,od,kV,doc,pm,an,cdv,ct,osl,rfl,lk,hcd⟩:=F.ex;exact .all (h kV doc pm an cdv ct)
end
theorem Mq(hr:cD k A):A.units+1 < cLine:=QS (Nat.add_le_add_left (by decide:1<=64) _) hr.units
theorem BM:fz X (.builtin "len") (λxs H Q=>∃a kvs,xs=[V.ref a]/\H a=some (.dK kvs)/\Q (.int kvs.length) H):=by
 intro pins s σ H xs us Q I r h;obtain⟨a,kvs,rfl,ha,q⟩:=h;obtain⟨u,rfl,ru⟩:=vals1 r;cases ru;exact MB I (.inl ha) λt s' I'=>⟨.int kvs.length,H,I',⟨t,rfl⟩,q⟩
theorem JH{A B:Prop}(h:B):if false=true then A else B:=by
 rw[P0 Rb];exact h
theorem JG{A B:Prop}(h:A):if true=true then A else B:=by
 rw[PL rfl];exact h
section
variable {κ:Type} [DecidableEq κ]
end
theorem i6.off(ok:i6 P w H h)(hC:H C=none)(k:∀b u,b≠C->h.get? b=some u->h'.get? b=some u):i6 P w H h':=by
 intro a o e;have ne:a≠C:=by rintro rfl;rw[hC] at e;cases e
 refine(ok a o e).mC (λb u hb q=>k b u ?_ q) (λ_ x=>x) (λ_ _ x=>x);rcases hb with rfl | hb
 ·exact ne
 ·rintro rfl;rw[hC] at hb;cases hb
noncomputable def fD(env:Env):List (Str×NameKind)->List (Str×Addr)->List (Str×Addr)
 | [],acc=>acc
 |(n,k)::r,acc=>if(k==NameKind.free)=true then fD env r ((n,(env.cells.lookup n).getD 0)::acc) else fD env r acc
theorem ic(h:∀y∈scope.names,y.2=.free->∃c,env.cells.lookup y.1=some c):closureFor scope env=pure (fD env scope.names []):=by
 have key:∀(names:List (Str×NameKind)) (acc:List (Str×Addr)),(∀y∈names,y.2=.free->∃c,env.cells.lookup y.1=some c)->
   (forIn names acc (λ(x:Str×NameKind)(r:List (Str×Addr))=>match x with
    |(name,kind)=>if(kind==NameKind.free)=true then do let a<-cellOf env name;pure (ForInStep.yield ((name,a)::r)) else pure (ForInStep.yield r)):Sem (List (Str×Addr)))=pure (fD env names acc):=by
  intro names
  induction names with
  | nil=>intro acc _;rfl
  | cons y r ih=>
   intro acc hy;obtain⟨n,k⟩:=y;have hr:=λa=>ih a λz hz=>hy z (PV _ hz);rw[List.forIn_cons];unfold fD
   by_cases hk:(k==NameKind.free)=true
   ·have hk':k=.free:=by simpa using hk
    obtain⟨c,hc⟩:=hy (n,k) PQ hk';have e:cellOf env n=pure c:=by unfold cellOf;rw[hc]
    simp only[hk,Sg,e,hc,Option.getD_some];exact hr _
   ·simp only[hk,Tn];exact hr _
 have k:=key scope.names [] h;unfold closureFor;dsimp only;rw[k];rfl
theorem nu:∀(names:List (Str×NameKind)) (acc:List (Str×Addr)),(∀y∈names,y.2=.free->∃c,env.cells.lookup y.1=some c)->
  (∀d,acc.lookup x=some d->env.cells.lookup x=some d)->(fD env names acc).lookup x=some c->env.cells.lookup x=some c
 | [],acc,_,ha,h=>ha c h
 |(n,k)::r,acc,hy,ha,h=>by
  unfold fD at h;have hr:=λz hz=>hy z (PV _ hz)
  by_cases hk:(k==NameKind.free)=true
  ·rw[PL hk] at h;refine nu r _ hr (λd hd=>?_) h;have hk':k=.free:=by simpa using hk
   obtain⟨c',hc⟩:=hy (n,k) PQ hk';rw[Qu] at hd;cases hx:x==n with
   | true=>
    rw[hx] at hd;have e:x=n:=by simpa using hx
    rw[e,hc];rw[hc] at hd;exact hd
   | false=>
    rw[hx] at hd;exact ha d hd
  ·rw[P0 hk] at h;exact nu r _ hr ha h
theorem rG:∀(names:List (Str×NameKind)) (acc:List (Str×Addr)),(∃c,acc.lookup x=some c)->∃c,(fD env names acc).lookup x=some c
 | [],_,h=>h
 |(n,k)::r,acc,h=>by
  unfold fD
  by_cases hk:(k==NameKind.free)=true
  ·rw[PL hk];refine rG r _ ?_;rw[Qu];cases hx:x==n with
   | true=>exact⟨_,rfl⟩
   | false=>exact h
  ·rw[P0 hk];exact rG r _ h
theorem gR:∀(names:List (Str×NameKind)) (acc:List (Str×Addr)),(x,NameKind.free)∈names->∃c,(fD env names acc).lookup x=some c
 | [],_,h=>by cases h
 |(n,k)::r,acc,h=>by
  unfold fD;rcases PZ.mp h with e | h'
  ·injection e with e1 e2
   subst e1 e2;rw[PL (by rfl)];refine rG r _ ⟨(env.cells.lookup x).getD 0,?_⟩;rw[Qu,Q5]
  ·by_cases hk:(k==NameKind.free)=true
   ·rw[PL hk];exact gR r _ h'
   ·rw[P0 hk];exact gR r _ h'
theorem g7{env:Env}:∀{names:List (Str×NameKind)} {x:Str} {j:NameKind},
  (names.map λ(n,k)=>if(k==NameKind.free&&env.scope.kind==.function&&env.kindOf n==some .cell) then(n,NameKind.cell) else(n,k)).lookup x=some j->
  ∃k,names.lookup x=some k/\(j=k\/(k=.free/\j=.cell))
 | [],_,_,h=>by simp at h
 |(n,k)::r,x,j,h=>by
  have h':List.lookup x ((if(k==NameKind.free&&env.scope.kind==.function&&env.kindOf n==some .cell)=true then(n,NameKind.cell) else(n,k))::_)=some j:=h;rw[Qu];cases hx:x==n with
  | true=>
   refine⟨k,rfl,?_⟩
   by_cases hc:(k==NameKind.free&&env.scope.kind==.function&&env.kindOf n==some .cell)=true
   ·rw[PL hc,Qu,hx] at h';simp only[Qm,Q8] at hc;exact .inr ⟨hc.1.1,(Option.some.inj h').symm⟩
   ·rw[P0 hc,Qu,hx] at h';exact .inl (Option.some.inj h').symm
  | false=>
   by_cases hc:(k==NameKind.free&&env.scope.kind==.function&&env.kindOf n==some .cell)=true
   ·rw[PL hc,Qu,hx] at h';exact g7 h'
   ·rw[P0 hc,Qu,hx] at h';exact g7 h'
theorem g8{env:Env}:∀{names:List (Str×NameKind)} {x:Str},names.lookup x=some .free->
  (names.map λ(n,k)=>if(k==NameKind.free&&env.scope.kind==.function&&env.kindOf n==some .cell) then(n,NameKind.cell) else(n,k)).lookup x=some .cell\/
  (names.map λ(n,k)=>if(k==NameKind.free&&env.scope.kind==.function&&env.kindOf n==some .cell) then(n,NameKind.cell) else(n,k)).lookup x=some .free
 | [],_,h=>by simp at h
 |(n,k)::r,x,h=>by
  rw[P6];show List.lookup x ((if(k==NameKind.free&&env.scope.kind==.function&&env.kindOf n==some .cell)=true then(n,NameKind.cell) else(n,k))::_)=_\/List.lookup x ((if(k==NameKind.free&&env.scope.kind==.function&&env.kindOf n==some .cell)=true then(n,NameKind.cell) else(n,k))::_)=_;rw[Qu] at h;cases hx:x==n with
  | true=>
   rw[hx] at h;have hk:k=.free:=Option.some.inj h
   by_cases hc:(k==NameKind.free&&env.scope.kind==.function&&env.kindOf n==some .cell)=true
   ·rw[PL hc,Qu,hx];exact .inl rfl
   ·rw[P0 hc,Qu,hx,hk];exact .inr rfl
  | false=>
   rw[hx] at h
   by_cases hc:(k==NameKind.free&&env.scope.kind==.function&&env.kindOf n==some .cell)=true
   ·rw[PL hc,Qu,hx];exact g8 h
   ·rw[P0 hc,Qu,hx];exact g8 h
abbrev fU(X:Cx)(N':List Str)(scope:Scope)(C:Addr)(s₃:Shared)(H₃:Hp)(fp:List Addr)(pl:List (Addr×Obj)):Cx:=
 {X with N:=N',s₀:=s₃,H₀:=H₃,env:=compEnvC scope (fD X.env scope.names []) C X.env,outer:=X.stack,ex:=fp,fn:=λ_=>false,calm:=true,pn:=X.pn++pl,xe:=λ_ _=>False}
structure bj(X:Cx)(N':List Str)(caps:List (Option Nat))(scope:Scope):Prop where
 kind:scope.kind=.function
 mW:∀y∈scope.names,y.2≠.cell
 names:∀y∈scope.names,y.2=.local->scope.names.lookup y.1=some .local
 rJ:∀y∈scope.names,y.2=.free->X.env.kindOf y.1=some .cell\/X.env.kindOf y.1=some .free
 len:caps.length=N'.length
 O3:∀(j i:Nat)(x:Str),caps[j]?=some (some i)->N'[j]?=some x->X.N[i]?=some x/\scope.names.lookup x=some .free
 nd:N'.Nodup
noncomputable def i3(caps:List (Option Nat))(σ:St):St:=caps.map λo=>o.bind λi=>(σ[i]?).join
theorem bj.has(S:bj X N' caps scope)(ok:X.Ok):∀y∈scope.names,y.2=.free->∃c,X.env.cells.lookup y.1=some c:=λy hy e=>ok.has y.1 (S.rJ y hy e)
theorem bj.look(S:bj X N' caps scope)(ok:X.Ok)(h:(fD X.env scope.names []).lookup x=some c):X.env.cells.lookup x=some c:=
 nu scope.names [] (S.has ok) (λ_ z=>by simp at z) h
theorem Inv.block(S:bj X N' caps scope)(I:Inv X pins σ H s₃)(hc:X.calm=true)(hf:∀b∈fp,gx X pins H b)(hlt:∀b∈fp,b < s₃.heap.objs.size){h₄:Heap}{t₄:Nat}{m₄:Str->Option Value}
  (hn:h₄.Ns s₃.heap.objs.size m₄) (hk:∀b o,s₃.heap.get? b=some o->h₄.get? b=some o):
  Inv (fU X N' scope s₃.heap.objs.size s₃ H fp pins) [] (i3 caps σ) H {s₃ with heap:=h₄,toks:=t₄}:=by
 have ok:=I.ok;have fresh:∀b o,s₃.heap.get? b=some o->b≠s₃.heap.objs.size:=λb o e=>Qe (P2 e);have cellOk:∀x c,(fD X.env scope.names []).lookup x=some c->∃v,s₃.heap.IsCell c v:=λx c e=>I.cell x c (S.look ok e);refine⟨⟨ok.mod,?_,ok.glob,ok.blt,PJ _,?_,?_,?_,λ_=>ok.hd hc,ok.frames,.inl rfl,?_,I.bs,?_,?_,?_,I.stack,I.pe⟩,rfl,I.bare,Un.kept hk,?_,?_,I.ba.fresh (PJ _),?_,?_,I.ba.kept hk,?_⟩
 ·show(relabel scope X.env).kind=.function;exact S.kind
 ·intro x y c h1 h2;exact ok.inj x y c (S.look ok h1) (S.look ok h2)
 ·intro x hx;have hx':(relabel scope X.env).names.lookup x=some .cell\/(relabel scope X.env).names.lookup x=some .free:=hx;have key:∀j,(relabel scope X.env).names.lookup x=some j->j=.cell\/j=.free->∃c,(fD X.env scope.names []).lookup x=some c:=by
   intro j hj hjk;obtain⟨k,hk1,hk2⟩:=g7 hj;have hm:=Qs hk1;have hkf:k=.free:=by
    rcases hk2 with rfl |⟨e,_⟩
    ·rcases hjk with rfl | e
     ·exact absurd rfl (S.mW _ hm)
     ·exact e
    ·exact e
   subst hkf;exact gR scope.names [] hm
  rcases hx' with h | h
  ·exact key _ h (.inl rfl)
  ·exact key _ h (.inr rfl)
 ·intro x c h _;exact absurd (show false=true from h) (by decide)
 ·intro b hb;refine⟨Qe (hlt b hb),λx c h=>(hf b hb).2.2.2.2.1 x c (S.look ok h)⟩
 ·exact PY ok.E2 I.sz
 ·intro b o e hb;rcases(hf b hb).2.2.2.1 with z | z
  ·exact ok.Bc b o e z
  ·exact absurd (Qd (P2 e) ok.E2) (Nat.not_lt.mpr z)
 ·intro b hb z;rcases PZ.mp (I.mB b z) with e | e
  ·exact(hf b hb).2.1 e
  ·exact(hf b hb).2.2.1 e
 ·refine⟨m₄,hn,λj x v e1 e2 e3=>?_⟩;have e2':(caps.map λo=>o.bind λi=>(σ[i]?).join)[j]?=some (some v):=e2;rw[P8] at e2';cases hcj:caps[j]? with
  | none=>rw[hcj] at e2';cases e2'
  | some oi=>
   rw[hcj] at e2';have e2'':(oi.bind λi=>(σ[i]?).join)=some v:=Option.some.inj e2';cases oi with
   | none=>cases e2''
   | some i=>
    have hσ:(σ[i]?).join=some v:=e2'';have hσ':σ[i]?=some (some v):=by
     cases hs:σ[i]? with
     | none=>rw[hs] at hσ;cases hσ
     | some w=>rw[hs] at hσ;rw[show w=some v from hσ]
    obtain⟨hX,hfr⟩:=S.O3 j i x hcj e1;obtain⟨m,_,hl⟩:=I.loc;have hcgt:=S.rJ _ (Qs hfr) rfl;have hvis:Kt X.env.scope x:=by
     rcases hcgt with z | z
     ·exact .inr (.inl z)
     ·exact .inr (.inr z)
    obtain⟨u,ru,lk⟩:=hl i x v hX hσ' hvis;refine⟨u,ru,.inr ⟨?_,?_⟩⟩
    ·exact g8 hfr
    ·obtain⟨c,hcc⟩:=gR (env:=X.env) scope.names [] (Qs hfr);refine⟨c,hcc,?_⟩;rcases lk with⟨z,_⟩ |⟨_,c',hc',hcell⟩
     ·have z':X.env.kindOf x=some .local:=z;rcases hcgt with q | q
      ·rw[z'] at q;cases q
      ·rw[z'] at q;cases q
     ·have:=S.look I.ok hcc;rw[this] at hc';cases hc';obtain⟨o,ho,hd⟩:=hcell;exact⟨o,hk _ _ ho,hd⟩
 ·intro x c h;obtain⟨v,o,ho,hd⟩:=cellOk x c h;exact⟨v,o,hk _ _ ho,hd⟩
 ·intro x c h;exact I.fM x c (S.look ok h)
 ·intro p hp;have hp':p∈X.pn++pins:=by
   rcases Qi.mp hp with z | z
   ·exact z
   ·cases z
  obtain⟨e,n,ne,nf,d⟩:=I.pin p hp';refine⟨hk _ _ e,n,fresh _ _ e,λz=>?_,d⟩;rcases PZ.mp (I.mB p.1 z) with q | q
  ·exact ne q
  ·exact nf q
 ·show(caps.map _).length=N'.length;rw[PC];exact S.len
theorem Inv.oZ(S:bj X N' caps scope)(I:Inv X pins σ H s₃)(hf:∀b∈fp,gx X pins H b)(J:Inv (fU X N' scope s₃.heap.objs.size s₃ H fp pins) [] τ H' s')(hs:∀b u,b≠s₃.heap.objs.size->s'.heap.get? b=some u->h''.get? b=some u):Inv X pins σ H' {s' with heap:=h''}:=by
 have hC:H' s₃.heap.objs.size=none:=J.free;have u:Un (jv X.stack) fp H H' s₃.heap h'':=by
  have b:=J.base;have ne:∀x o,s₃.heap.get? x=some o->x≠s₃.heap.objs.size:=λx o e=>Qe (P2 e);refine⟨λx o e n hx hb=>hs _ _ (ne x o e) (b.keep x o e n hx hb),λx o e n hx hb=>?_,b.free,λx o e hb=>?_,b.mr,b.lK,b.mw⟩
  ·obtain⟨sl,q⟩:=b.slot x o e n hx hb;exact⟨sl,hs _ _ (ne x o e) q⟩
  ·obtain⟨o',q⟩:=b.there x o e hb;exact⟨o',hs _ _ (ne x o e) q⟩
 exact I.call' (s':={s' with heap:=h''}) (ch:=fp) J.os u (J.ba.off hC hs) J.bare λb hb=>⟨(hf b hb).2.2.2.1,(hf b hb).2.1,(hf b hb).2.2.2.2.1,(hf b hb).2.2.2.2.2⟩
def ER(X:Cx)(ifs:List Expr)(t:TT):Prop:=
 ∀(pins:List (Addr×Obj)) (s:Shared) (σ:St) (H:Hp) (Q:Bool->Hp->Prop),Inv X pins σ H s->t σ H Q->
  wpAny (model X.prog X.w) X.A (forIn ifs true λc r=>if r=true then do let ok<-isTrue c X.env (eval c X.env);pure (ForInStep.yield ok) else pure (ForInStep.yield r)) (TP X pins σ Q) X.xe s
def cx:TT:=λ_ H Q=>Q true H
theorem F2:ER X [] cx:=λpins s σ H Q I h=>wpAny_tests_nil ⟨H,I,h⟩
theorem F1(h:PT X c t):ER X [c] t:=λpins s σ H Q I q=>wpAny_tests_one (h pins s σ H Q I q)
def Nc(J:It)(g:TG)(tc:TT)(te:TE)(l:Addr)(Q:VK)(τ0:St)(H0:Hp):Prop:=
 ∃W:Nat->Nat->St->Hp->Prop,(∃m,W 0 m τ0 H0)/\∀i m τ H2,W i m τ H2->
  (J.stop i H2/\Q (.ref l) H2)\/(J.go i H2/\∃N:St->Hp->Prop,(∀τ' H',N τ' H'->∃m',m' < m/\W (i+1) m' τ' H')/\∀x H',J.G2 i H2 x H'->g x τ H' λτ2 H3=>
   tc τ2 H3 λb H4=>if b=true then te τ2 H4 λy H5=>∃xs,H5 l=some (.lst xs)/\xs.length < sizeLine/\N τ2 (upd H5 l (.lst (xs++[y]))) else N τ2 H4)
def Cu(caps:List (Option Nat))(wi:TI)(g:TG)(tc:TT)(te:TE):TE:=λσ H Q=>wi σ H λJ H1=>∀l,H1 l=none->Nc J g tc te l Q (i3 caps σ) (upd H1 l (.lst []))
theorem Lh(h:wpAny M A t Q (λ_ _=>False) s):wpAny M A t Q E s:=Qo h (λ_ _ q=>q) λ_ _ f=>f.elim
theorem BH(S:bj X N' caps scope)(hc:X.calm=true)(hg:∀C s₃ H₃ fp pl,PG (fU X N' scope C s₃ H₃ fp pl) tg g)(hif:∀C s₃ H₃ fp pl,ER (fU X N' scope C s₃ H₃ fp pl) ifs tc)
  (he:∀C s₃ H₃ fp pl,PE (fU X N' scope C s₃ H₃ fp pl) elt te) {pins:List (Addr×Obj)} {σ:St} {H3:Hp} {s3:Shared} {h₁:Heap} {t₁:Nat} {m₁:Str->Option Value} {it l:Addr} {fp:List Addr} {tn:Nat->Heap->Prop} {J:It}
  (I3:Inv X pins σ H3 s3) (T:Turn X.prog X.w X.K tg J fp it tn) (st3:tn 0 h₁) (hf3:∀b∈fp,gx X pins H3 b) (hlt3:∀b∈fp,b < s3.heap.objs.size) (hns₁:h₁.Ns s3.heap.objs.size m₁) (keep3:∀b o,s3.heap.get? b=some o->h₁.get? b=some o)
  {Q:VK} {RR:Value->Addr->Result->Shared->Prop} {W:Nat->Nat->St->Hp->Prop} {m0:Nat} (w0:W 0 m0 (i3 caps σ) H3) (turn:∀i m τ H2,W i m τ H2->
   (J.stop i H2/\Q (.ref l) H2)\/(J.go i H2/\∃N:St->Hp->Prop,(∀τ' H',N τ' H'->∃m',m' < m/\W (i+1) m' τ' H')/\∀x H',J.G2 i H2 x H'->g x τ H' λτ2 H3=>
    tc τ2 H3 λb H4=>if b=true then te τ2 H4 λy H5=>∃xs,H5 l=some (.lst xs)/\xs.length < sizeLine/\N τ2 (upd H5 l (.lst (xs++[y]))) else N τ2 H4))
  (hRR:∀(l C:Addr)(H':Hp)(s':Shared),H' C=none->C≠X.env.locals->X.s₀.heap.objs.size<=C->(∀x c,X.env.cells.lookup x=some c->c≠C)->(∀p∈X.pn++pins,p.1≠C)->(∃m,s'.heap.Ns C m)->Inv X pins σ H' s'->
   (∀h'':Heap,(∀b u,b≠C->s'.heap.get? b=some u->h''.get? b=some u)->Inv X pins σ H' {s' with heap:=h''})->Q (.ref l) H'->RR (.ref l) C (.ok .next) s'):
  codeAny (model X.prog X.w) X.A (.compStart (.ListComp elt [⟨tg,iter,ifs,0⟩] scope pos) 0 (.ref it) (.ref l) (compEnvC scope (fD X.env scope.names []) s3.heap.objs.size X.env))
   (RR (.ref l) s3.heap.objs.size) {s3 with heap:=h₁,toks:=t₁}:=by
 have J0:Inv (fU X N' scope s3.heap.objs.size s3 H3 fp pins) [] (i3 caps σ) H3 {s3 with heap:=h₁,toks:=t₁}:=Inv.block S I3 hc hf3 hlt3 hns₁ keep3;have fpB:∀{H':Hp},(∀b∈fp,H' b=none)->∀b∈fp,gx (fU X N' scope s3.heap.objs.size s3 H3 fp pins) [] H' b:=λ{H'} hn b hb=>by
  obtain⟨f0,f1,f2,f3,f4,f5⟩:=hf3 b hb;refine⟨hn b hb,Qe (hlt3 b hb),λz=>?_,.inl hb,λx c e=>f4 x c (S.look I3.ok e),λp hp=>?_⟩
  ·rcases PZ.mp (I3.mB b z) with q | q
   ·exact f1 q
   ·exact f2 q
  ·rcases Qi.mp hp with q | q
   ·exact f5 p q
   ·cases q
 have fin:∀{τ:St} {H':Hp} {s':Shared},Inv (fU X N' scope s3.heap.objs.size s3 H3 fp pins) [] τ H' s'->Q (.ref l) H'->RR (.ref l) s3.heap.objs.size (.ok .next) s':=λ{τ H' s'} J q=>by
  refine hRR _ _ H' s' J.free ?_ ?_ ?_ ?_ ?_ ?_ ?_ q
  ·exact(Qe I3.lt).symm
  ·exact I3.sz
  ·intro x c e z;obtain⟨v,o,ho,_⟩:=I3.cell x c e;exact Qe (P2 ho) z
  ·intro p hp z;obtain⟨e,_⟩:=I3.pin p hp;exact Qe (P2 e) z
  ·obtain⟨m,hm,_⟩:=J.loc;exact⟨m,hm⟩
  ·have:=Inv.oZ S I3 hf3 J (h'':=s'.heap) λb u _ e=>e;exact this
  ·exactλh'' hs=>Inv.oZ S I3 hf3 J hs
 have loop:codeAny (model X.prog X.w) X.A (.compLoop (.ListComp elt [⟨tg,iter,ifs,0⟩] scope pos) 0 (.ref it) (.ref l) (compEnvC scope (fD X.env scope.names []) s3.heap.objs.size X.env))
   (RR (.ref l) s3.heap.objs.size) {s3 with heap:=h₁,toks:=t₁}:=by
  refine codeAny_loop rfl (λn s'=>∃i τ H',Inv (fU X N' scope s3.heap.objs.size s3 H3 fp pins) [] τ H' s'/\tn i s'.heap/\(∀b∈fp,H' b=none)/\W i n τ H') ?_ m0 ⟨0,_,_,J0,st3,λb hb=>(hf3 b hb).1,w0⟩;rintro n s4 ⟨i,τ,H4,J4,st4,fr4,w4⟩;show wpAny _ X.A ((compTurn (.ListComp elt [⟨tg,iter,ifs,0⟩] scope pos) 0 (.ref it) (.ref l) (compEnvC scope (fD X.env scope.names []) s3.heap.objs.size X.env)).onRaise (λx=>do noteFrame x (compEnvC scope (fD X.env scope.names []) s3.heap.objs.size X.env);theTreesLotGoes x)) _ _ s4;refine wpAny_noted ?_;rw[compTurn_list];rcases turn i n τ H4 w4 with⟨stop,qn⟩ |⟨go,N,hN,step⟩
  ·refine PD (QP (PD (Qo (T.done (fU X N' scope s3.heap.objs.size s3 H3 fp pins) rfl rfl rfl rfl i [] s4 τ H4 _ J4 (fpB fr4) st4 stop) (λr s5 h5=>?_) λ_ _ e=>e)));obtain⟨hr,J5⟩:=h5;subst hr;exact PX (fin J5 qn)
  ·refine PD (QP (PD (Qo (T.item (fU X N' scope s3.heap.objs.size s3 H3 fp pins) rfl rfl rfl rfl i [] s4 τ H4 _ J4 (fpB fr4) st4 go) (λr s5 h5=>?_) λ_ _ e=>e)));obtain⟨u,hr,h5⟩:=h5;subst hr;refine PD (Qo h5 (λ_ s6 h6=>?_) λ_ _ e=>e);obtain⟨x,H6,J6,r6,y6,st6,fr6⟩:=h6;have J6':=J6.pinned (fpB fr6) (T.obj _ _ st6);refine PD (Qo (Lh (hg _ _ _ _ _ _ s6 τ H6 x u _ J6' r6 (step x H6 y6))) (λ_ s7 h7=>?_) λ_ _ e=>e);obtain⟨τ7,H7,J7,q7⟩:=h7;have again:∀{τ8:St} {H8:Hp} {s8:Shared},Inv (fU X N' scope s3.heap.objs.size s3 H3 fp pins) ([]++mQ fp s6.heap) τ8 H8 s8->N τ8 H8->
     ∃m,m < n/\∃i τ' H',Inv (fU X N' scope s3.heap.objs.size s3 H3 fp pins) [] τ' H' s8/\tn i s8.heap/\(∀b∈fp,H' b=none)/\W i m τ' H':=λ{τ8 H8 s8} J8 n8=>by
    obtain⟨m',hm,w8⟩:=hN τ8 H8 n8;refine⟨m',hm,i+1,τ8,H8,J8.iG,T.keep _ _ _ st6 λb hb o e=>(J8.pin (b,o) (Qa _ (Qa _ (eD hb e)))).1,λb hb=>?_,w8⟩;obtain⟨o,e,d⟩:=T.obj _ _ st6 b hb;exact(J8.pin (b,o) (Qa _ (Qa _ (eD hb e)))).2.1
   refine PD (Qo (Lh (hif _ _ _ _ _ _ s7 τ7 H7 _ J7 q7)) (λok s8 h8=>?_) λ_ _ e=>e);obtain⟨H8,J8,q8⟩:=h8;cases ok with
   | false=>exact PX ⟨rfl,again J8 (by simpa using q8)⟩
   | true=>
    have q8':te τ7 H8 λy H5=>∃xs,H5 l=some (.lst xs)/\xs.length < sizeLine/\N τ7 (upd H5 l (.lst (xs++[y]))):=by simpa using q8
    refine PD (PD (Qo (Lh (he _ _ _ _ _ _ s8 τ7 H8 _ J8 q8')) (λy s9 h9=>?_) λ_ _ e=>e));obtain⟨yv,H9,J9,r9,xs,hx,hz,n9⟩:=h9;refine PD (Qo (Lh (mY (X:=fU X N' scope s3.heap.objs.size s3 H3 fp pins) _ s9 τ7 H9 (.ref l) [yv] (.ref l) [y] (λ_ H'=>N τ7 H') J9 rfl (.cons r9 .nil) ⟨_,xs,yv,rfl,rfl,hx,hz,n9⟩)) (λ_ s10 h10=>?_) λ_ _ e=>e);obtain⟨_,H10,J10,_,n10⟩:=h10;exact PX (PX ⟨rfl,again J10 n10⟩)
 exact codeAny_compStart_list loop (T.self X.A 0 _ _ _ st3 loop)
theorem rB(S:bj X N' caps scope)(hc:X.calm=true)(hg:∀C s₃ H₃ fp pl,PG (fU X N' scope C s₃ H₃ fp pl) tg g)(hif:∀C s₃ H₃ fp pl,ER (fU X N' scope C s₃ H₃ fp pl) ifs tc)
  (he:∀C s₃ H₃ fp pl,PE (fU X N' scope C s₃ H₃ fp pl) elt te) {pins:List (Addr×Obj)} {σ:St} {H:Hp} {s:Shared} {it:Addr} {fp:List Addr} {tn:Nat->Heap->Prop} {J:It}
  (I:Inv X pins σ H s) (T:Turn X.prog X.w X.K tg J fp it tn) (st:tn 0 s.heap) (hf:∀b∈fp,gx X pins H b) {Q:VK} {RR:Value->Addr->Result->Shared->Prop} {E:Value->Shared->Prop}
  (h:∀l,H l=none->∃W:Nat->Nat->St->Hp->Prop,(∃m,W 0 m (i3 caps σ) (upd H l (.lst [])))/\∀i m τ H2,W i m τ H2->
   (J.stop i H2/\Q (.ref l) H2)\/(J.go i H2/\∃N:St->Hp->Prop,(∀τ' H',N τ' H'->∃m',m' < m/\W (i+1) m' τ' H')/\∀x H',J.G2 i H2 x H'->g x τ H' λτ2 H3=>
    tc τ2 H3 λb H4=>if b=true then te τ2 H4 λy H5=>∃xs,H5 l=some (.lst xs)/\xs.length < sizeLine/\N τ2 (upd H5 l (.lst (xs++[y]))) else N τ2 H4))
  (hRR:∀(l C:Addr)(H':Hp)(s':Shared),H' C=none->C≠X.env.locals->X.s₀.heap.objs.size<=C->(∀x c,X.env.cells.lookup x=some c->c≠C)->(∀p∈X.pn++pins,p.1≠C)->(∃m,s'.heap.Ns C m)->Inv X pins σ H' s'->
   (∀h'':Heap,(∀b u,b≠C->s'.heap.get? b=some u->h''.get? b=some u)->Inv X pins σ H' {s' with heap:=h''})->Q (.ref l) H'->RR (.ref l) C (.ok .next) s'):
  wpAny (model X.prog X.w) X.A (newList []) (λacc s₃=>wpAny (model X.prog X.w) X.A (newFunctionEnv scope X.env.globals (fD X.env scope.names []) [] X.env.qual none .none (some X.env)) (λcenv s₄=>
   codeAny (model X.prog X.w) X.A (.compStart (.ListComp elt [⟨tg,iter,ifs,0⟩] scope pos) 0 (.ref it) acc {cenv with scope:=relabel scope X.env}) (RR acc cenv.locals) s₄) E s₃) E s:=by
 obtain⟨W,⟨m0,w0⟩,turn⟩:=h s.heap.objs.size I.fresh;refine QH (To S.mW (by intro y hy;simp at hy) (λh₁ hns₁ hsb₁=>?_) S.kind);have I3:Inv X pins σ (upd H s.heap.objs.size (.lst [])) {s with heap:=s.heap.push {cls:=.type "list",data:=.seq ([]:List Value).toArray}}:=I.Gn (t':=s.toks) (its:=[]) (ys:=[]) .nil (Rx _);have hltf:∀b∈fp,b < s.heap.objs.size:=λb hb=>by
  obtain⟨o,e,_⟩:=T.obj 0 _ st b hb;exact P2 e
 have hf3:∀b∈fp,gx X pins (upd H s.heap.objs.size (.lst [])) b:=λb hb=>⟨by rw[ay (Qe (hltf b hb))];exact(hf b hb).1,(hf b hb).2⟩;have keep3:∀b o,(s.heap.push {cls:=.type "list",data:=.seq ([]:List Value).toArray}).get? b=some o->h₁.get? b=some o:=λb o e=>hsb₁.extBut b o (Qe (P2 e)) (PN _ e);have st3:tn 0 h₁:=T.keep 0 _ _ st λb hb o e=>keep3 b o (PN _ e);have hlt3:∀b∈fp,b < (s.heap.push {cls:=.type "list",data:=.seq ([]:List Value).toArray}).objs.size:=λb hb=>by
  have:=hltf b hb;rw[Sy];exact UX this
 exact BH (s3:={s with heap:=s.heap.push {cls:=.type "list",data:=.seq ([]:List Value).toArray}}) S hc hg hif he I3 T st3 hf3 hlt3 hns₁ keep3 w0 turn hRR
theorem Du(S:bj X N' caps scope)(hc:X.calm=true)(hi:PI X tg iter wi)(hg:∀C s₃ H₃ fp pl,PG (fU X N' scope C s₃ H₃ fp pl) tg g)(hif:∀C s₃ H₃ fp pl,ER (fU X N' scope C s₃ H₃ fp pl) ifs tc)
  (he:∀C s₃ H₃ fp pl,PE (fU X N' scope C s₃ H₃ fp pl) elt te) (hs:∀x,foldedSetIterable iter X.env x=pure x:=by intro _;rfl):PE X (.ListComp elt [⟨tg,iter,ifs,0⟩] scope pos) (Cu caps wi g tc te):=by
 intro pins s σ H Q I h;rw[eval_ListComp];refine SV (use:=none) rfl hs (ic (S.has I.ok)) S.kind S.names (cm (hi pins s σ H _ I h) λv s1 h1=>cm h1 λitv s2 h2=>?_);obtain⟨it,fp,tn,J,H2,e,I2,T,st2,f2,hQ⟩:=h2;subst e;refine rB (RR:=λacc C=>compPost (model X.prog X.w) X.A X.xe none (EP X pins σ Q) acc C) S hc hg hif he I2 T st2 f2 hQ ?_;intro l C H' s' _ _ _ _ _ hm _ hI q;obtain⟨m,hm⟩:=hm;exact⟨m,hm,λh'' hs''=>⟨.ref l,H',hI h'' λb u hb e=>hs''.extBut b u hb e,rfl,q⟩⟩
theorem Di(hN:X.N.Nodup)(hi':X.N[i]?=some y)(hy:X.env.scope.names.lookup y=some .local)(S:bj X N' caps scope)(hc:X.calm=true)(hi:PI X tg iter wi)(hg:∀C s₃ H₃ fp pl,PG (fU X N' scope C s₃ H₃ fp pl) tg g)(hif:∀C s₃ H₃ fp pl,ER (fU X N' scope C s₃ H₃ fp pl) ifs tc)(he:∀C s₃ H₃ fp pl,PE (fU X N' scope C s₃ H₃ fp pl) elt te)(hsw:swapsWith (.ListComp elt [⟨tg,iter,ifs,0⟩] scope pos) (some (.Name y py)) spos.line X.env=pure true:=by rfl)(hs:∀x,foldedSetIterable iter X.env x=pure x:=by intro _;rfl):
  PS X (.Assign [.Name y py] (.ListComp elt [⟨tg,iter,ifs,0⟩] scope pos) spos) (Fe (Cu caps wi g tc te) (xm i)):=by
 intro pins s σ H D I h;rw[exec_Assign_Name_used _ _ _ _ hsw];refine PD (QP (PD ?_));show wpAny _ X.A (do let _<-comprehension (.ListComp elt [⟨tg,iter,ifs,0⟩] scope pos) scope X.env _ (newList []) false (eval iter X.env) (some (assign (.Name y py) X.env))) _ _ s;refine PD (Qo (SV (use:=some (assign (.Name y py) X.env)) (Q:=λ_ s'=>SP X pins D .next s') rfl hs (ic (S.has I.ok)) S.kind S.names
  (cm (hi pins s σ H _ I h) λv s1 h1=>cm h1 λitv s2 h2=>?_)) (λ_ s' hq=>PX (PX hq)) λ_ _ e=>e)
 obtain⟨it,fp,tn,J,H2,e,I2,T,st2,f2,hQ⟩:=h2;subst e;refine rB (Q:=λx H1=>xm i x σ H1 D.nx) (RR:=λacc C=>compPost (model X.prog X.w) X.A X.xe (some (assign (.Name y py) X.env)) (λ_ s'=>SP X pins D .next s') acc C) S hc hg hif he I2 T st2 f2 hQ ?_;intro l C H' s' hC hCL hC0 hCc hCp hm hI0 hI q;obtain⟨m,hm⟩:=hm;show wpAny _ X.A (assign (.Name y py) X.env (.ref l)) _ _ s';refine wpAny_assign_Name (sN (v:=.ref l) hI0 hN hi' (.inl hy) rfl (λs5 I5 hch=>?_) (.inr hy));obtain⟨a,hsa,ha⟩:=hch;have hCa:C≠a:=by
  rcases ha with z | z
  ·rw[z];exact hCL
  ·exact(hCc _ _ z).symm
 refine⟨m,hm.sameBut hsa hCa,λh'' hs''=>?_⟩;have I6:=I5.turned (t':=s5.toks) (h':=h'') (it:=C) (λb o hb e=>hs''.extBut b o hb e) hC hCL (.inr hC0) hCc hCp;exact⟨_,H',I6,q⟩
def Nf(_ j:Int):Prop:=0 < j/\j<=10^40
theorem log2_small(h:n<=10^40):n.log2 < 9000:=by
 by_cases h0:n=0
 ·rw[h0];decide
 ·refine(Nat.log2_lt h0).mpr (QS h ?_);exact Qd (show 10^40 < 2^200 by decide) (UI (by decide) (by decide))
theorem DF:kH X (binaryOp .FloorDiv) (rI Nf λi j=>.int (i / j)):=Np λi j _ _ _ _ _ hc q=>by
 have h1:(0:Int) < j:=hc.1;have h2:j<=10^40:=hc.2;exact floordiv_int (by lia) (by rw[Int.fdiv_eq_ediv_of_nonneg i (by lia)];exact q) (.inl (PyProof.noPylong_of_log2 (log2_small (by lia))))
mutual
inductive B4(K:FR)(H:Hp):V->PyData->Prop where
 | bR:B4 K H .bR .none
 | bl (b:Bool):B4 K H (.bl b) (.bool b)
 | int (i:Int):B4 K H (.int i) (.int i)
 | str (x:Str):B4 K H (.str x) (.str x)
 | tup {a:Addr} {xs:List V} {ds:List PyData}:jB K H a xs->rP K H xs ds->B4 K H (.ref a) (.tuple ds)
 | lst {a:Addr} {xs:List V} {ds:List PyData}:fV K H a xs->rP K H xs ds->B4 K H (.ref a) (.list ds)
inductive rP(K:FR)(H:Hp):List V->List PyData->Prop where
 | nil:rP K H [] []
 | cons {x:V} {xs:List V} {d:PyData} {ds:List PyData}:B4 K H x d->rP K H xs ds->rP K H (x::xs) (d::ds)
end
mutual
theorem B4.reads(I:Inv X pins σ H s){x:V}{u:Value}{d:PyData}(z:B4 X.K H x d)(r:RelV x u):∃as,Reads s.heap u d as:=by
 cases z with
 | bR=>cases(show _=Value.none from r);exact⟨_,.none⟩
 | bl b=>cases(show _=Value.bool b from r);exact⟨_,.bool b⟩
 | int i=>obtain⟨t,e⟩:=(show ∃t,_=Value.int i t from r);cases e;exact⟨_,.int i t⟩
 | str x=>obtain⟨t,e⟩:=(show ∃t,_=Value.str x t from r);cases e;exact⟨_,.str x t⟩
 | tup hq hl=>
  cases(show _=Value.ref _ from r);obtain⟨its,rv,⟨o,h1,h2,n,h3⟩,_⟩:=I.tuple hq;obtain⟨as,q⟩:=rP.reads I hl rv;exact⟨_,.tuple h1 h2 h3 (by simpa using q)⟩
 | lst hq hl=>
  cases(show _=Value.ref _ from r);obtain⟨its,rv,pl,_⟩:=I.list hq;obtain⟨o,h1,h2,n,h3⟩:=pl.isList;obtain⟨as,q⟩:=rP.reads I hl rv;exact⟨_,.list h1 h2 h3 (by simpa using q)⟩
theorem rP.reads(I:Inv X pins σ H s){xs:List V}{us:List Value}{ds:List PyData}(z:rP X.K H xs ds)(v:Vals xs us):∃as,ReadsAll s.heap us ds as:=by
 cases z with
 | nil=>cases v;exact⟨_,.nil⟩
 | cons h t=>
  cases v with
  | cons r q=>
   obtain⟨as,p⟩:=B4.reads I h r;obtain⟨bs,p'⟩:=rP.reads I t q;exact⟨_,.cons p p'⟩
end
def N7:V->Option Int->Option Int->Hp->VK->Prop:=λx lo hi H Q=>∃z,x=.str z/\z.length<=sizeLine/\Q (.str (Txt.slice z lo hi)) H
theorem Ib:Kx X N7:=by
 intro pins s σ H x v vl vu lo hi sl Q I rx hs pl pu h;obtain⟨z,rfl,hz,q⟩:=h;obtain⟨t,rfl⟩:=(show ∃t,v=Value.str z t from rx);refine⟨"str",_,F.slot_str_getitem.lookup,typeIs_str _ _ _,?_⟩;obtain⟨o,h1,h2,h3⟩:=hs;have fin:(Txt.slice z lo hi).length<=sizeLine/\∀t' k,EP X pins σ Q (.str (Txt.slice z lo hi) t') {s with toks:=k}:=⟨PY (Txt.slice_le z _ _) hz,λt' k=>⟨.str _,H,I.tok k,⟨t',rfl⟩,q⟩⟩;cases pl with
 | none=>
  cases pu with
  | none=>exact RZ (l:=none) (u:=none) (st:=none) ⟨o,h1,h2,h3⟩ rfl (Tf fin)
  | int j uj=>exact RZ (l:=none) (u:=some (j,uj)) (st:=none) ⟨o,h1,h2,h3⟩ rfl (Tf fin)
 | int i ui=>
  cases pu with
  | none=>exact RZ (l:=some (i,ui)) (u:=none) (st:=none) ⟨o,h1,h2,h3⟩ rfl (Tf fin)
  | int j uj=>exact RZ (l:=some (i,ui)) (u:=some (j,uj)) (st:=none) ⟨o,h1,h2,h3⟩ rfl (Tf fin)
theorem EC:fz X (.builtin "isinstance") (λxs H Q=>∃x n t b,xs=[x,.ty n]/\lV X.K H x t/\PySem.W.kitOne X.K t (.type n)=some b/\Q (.bl b) H):=by
 intro pins s σ H xs us Q I r h;obtain⟨x,n,t,b,rfl,ty,e,q⟩:=h;obtain⟨u,w',rfl,ru,rw'⟩:=vals2 r;cases(show w'=Value.type n from rw');exact Bu I ru ty e λtk=>⟨.bl b,H,I.tok tk,rfl,q⟩
noncomputable def xc(out:List (Str×NameKind))(N N':List Str)(caps:List (Option Nat))(scope:Scope):Bool:=
 decide (scope.kind=.function)&&scope.names.all (λy=>decide (y.2≠.cell))&&scope.names.all (λy=>!decide (y.2=.local)||decide (scope.names.lookup y.1=some .local))&&
 scope.names.all (λy=>!decide (y.2=.free)||decide (out.lookup y.1=some .cell)||decide (out.lookup y.1=some .free))&&decide (caps.length=N'.length)&&
 (List.range caps.length).all (λj=>match caps[j]?,N'[j]? with
  | some (some i),some x=>decide (N[i]?=some x)&&decide (scope.names.lookup x=some .free)
  | _,_=>true)&&decide N'.Nodup
theorem bh(h:xc X.env.scope.names X.N N' caps scope=true):bj X N' caps scope:=by
 unfold xc at h;simp only[Qm,QB,R9,Rl,U2,Uh] at h;obtain⟨⟨⟨⟨⟨⟨h1,h2⟩,h3⟩,h4⟩,h5⟩,h6⟩,h7⟩:=h;refine⟨h1,h2,λy hy e=>?_,λy hy e=>?_,h5,λj i x hj hx=>?_,h7⟩
 ·rcases h3 y hy with z | z
  ·exact absurd e z
  ·exact z
 ·rcases h4 y hy with(z | z) | z
  ·exact absurd e z
  ·exact .inl z
  ·exact .inr z
 ·have hlt:j < caps.length:=(PH.mp hj).1;have:=h6 j (Rw.mpr hlt);rw[hj,hx] at this;simp only[Qm,QB] at this;exact this
end L2
namespace L2
end L2
namespace L2
open PySem PySem.Spec PyProof.Rows
theorem jd:PyData.strOk x=true↔∀c∈x.cps,c < 0x110000:=by
 unfold PyData.strOk;rw[Array.all_eq_true_iff_forall_mem];simp
theorem gy(ha:PyData.strOk a=true)(hb:PyData.strOk b=true):PyData.strOk (a++b)=true:=by
 rw[jd] at*;intro c hc;have hc':c∈a.cps++b.cps:=hc;rcases Array.mem_append.mp hc' with z | z
 ·exact ha c z
 ·exact hb c z
theorem wx(l u:Option Int)(h:PyData.strOk x=true):PyData.strOk (Txt.slice x l u)=true:=by
 unfold Txt.slice
 split
 ·exact h
 ·rw[jd] at*;intro c hc;have hc':c∈(List.filterMap (x.cps[·]?) (Builtin.Str.strSliceIndices l u 1 x.length)).toArray:=hc;rw[List.mem_toArray] at hc';obtain⟨i,_,e⟩:=Q9.mp hc';exact h c (UD e)
theorem AJ(h:PyData.strOk z=true)(hc:gU z.cps.toList i=some c):PyData.strOk (⟨#[c]⟩:Str)=true:=by
 rw[jd] at*;intro d hd;have e:d=c:=by simpa using hd
 subst e;obtain⟨j,_,hj,_⟩:=pH hc;exact h d (by have:=PF hj;simpa using this)
end L2
namespace L2
open PySem PySem.Spec PyProof.Rows PySem.SeqAt
noncomputable def OX:Nat->PyData->Bool
 | _,.int _=>true
 | _,.str x=>PyData.strOk x
 | n+1,.tuple xs=>xs.all (OX n)
 | _,_=>false
noncomputable def Mr(w:World):Nat->PyData->Int
 | _,.int i=>JA w (.inl i)
 | _,.str x=>JA w (.inr x)
 | n+1,.tuple xs=>reduceHash (Builtin.Tuple.tupleHashOf (xs.map (Mr w n)))
 | _,_=>0
noncomputable def JL(K:FR)(x:Str):Option Value:=match K.lookup mainGlobals with
 | some o=>match o.data with
  | .dict es _=>(es.toList.find? (λe=>Value.isStrOf x e.key)).map (·.val)
  | _=>none
 | none=>none
def xS(h:Heap)(x D:Addr):Prop:=∃o,h.get? x=some o/\o.cls=.ref D
def OR(a:Addr)(us:List (Addr×V))(ps:List PyData):World->Heap->Prop:=λw h=>us.length<=sizeLine/\(a==sysModules)=false/\ps.all (OX 8)=true/\ps.Nodup/\
 ∃ys:List (PyData×Addr×Value),Paired (λ(u:Addr×V)(y:PyData×Addr×Value)=>u.1=y.2.1/\RelV u.2 y.2.2) us ys/\ys.map (·.1)=ps/\
 ∃o es ep,h.get? a=some o/\o.ExactDict/\o.data=.dict es ep/\es.toList=ys.map λy=>⟨Mr w 8 y.1,.ref y.2.1,y.2.2⟩
end L2
namespace Sm
open PySem L2
inductive D where
 | bR | bl (b:Bool) | int (i:Int) | str (x:Str) | ty (n:String)
 | tup (xs:List D) | lv (xs:List D) | ro (xs:List D) | dv (kvs:List (Key×D)) | ob (n:Nat)
inductive MO where
 | lst (xs:List D) | dct (kvs:List (Key×D)) | dcH (kvs:List (D×D)) | exc (c:Str)
abbrev MH:=List MO
mutual
noncomputable def xP:D->Option PyData
 | .bR=>some .none
 | .bl b=>some (.bool b)
 | .int i=>some (.int i)
 | .str x=>some (.str x)
 | .tup xs=>(nS xs).map .tuple
 | .lv xs=>(nS xs).map .list
 | .ro xs=>(nS xs).map .list
 | _=>none
noncomputable def nS:List D->Option (List PyData)
 | []=>some []
 | x::r=>(xP x).bind λa=>(nS r).map λb=>a::b
end
abbrev DS:=List (Option D)
abbrev OY:Hp:=λ_=>none
structure Ad where
 ob:List Addr
 rs:List Addr
def Ad.has(ρ:Ad)(a:Addr):Prop:=a∈ρ.ob\/a∈ρ.rs
def TupAt(K:FR)(ρ:Ad)(H:Hp)(a:Addr)(vs:List V):Prop:=(Rd H a (.tup vs)/\¬ρ.has a)\/jB K OY a vs
def KA(K:FR)(ρ:Ad)(H:Hp)(a:Addr)(vs:List V):Prop:=(Rd H a (.lst vs)/\¬ρ.has a)\/fV K OY a vs
mutual
inductive Rep(K:FR)(ρ:Ad)(H:Hp):V->D->Prop where
 | bR:Rep K ρ H .bR .bR
 | bl (b:Bool):Rep K ρ H (.bl b) (.bl b)
 | int (i:Int):Rep K ρ H (.int i) (.int i)
 | str {x:Str} (h:PyData.strOk x=true):Rep K ρ H (.str x) (.str x)
 | ty (n:String):Rep K ρ H (.ty n) (.ty n)
 | tup {a:Addr} {vs:List V} {ds:List D}:TupAt K ρ H a vs->aF K ρ H vs ds->Rep K ρ H (.ref a) (.tup ds)
 | lv {a:Addr} {vs:List V} {ds:List D}:H a=some (.lst vs)->¬ρ.has a->aF K ρ H vs ds->Rep K ρ H (.ref a) (.lv ds)
 | ro {a:Addr} {vs:List V} {ds:List D}:KA K ρ H a vs->aF K ρ H vs ds->Rep K ρ H (.ref a) (.ro ds)
 | dv {a:Addr} {us:List (Key×V)} {kvs:List (Key×D)}:H a=some (.dK us)->¬ρ.has a->bD K ρ H us kvs->Rep K ρ H (.ref a) (.dv kvs)
 | ob {a:Addr} {n:Nat}:ρ.ob[n]?=some a->Rep K ρ H (.ref a) (.ob n)
inductive aF(K:FR)(ρ:Ad)(H:Hp):List V->List D->Prop where
 | nil:aF K ρ H [] []
 | cons {v:V} {vs:List V} {d:D} {ds:List D}:Rep K ρ H v d->aF K ρ H vs ds->aF K ρ H (v::vs) (d::ds)
inductive bD(K:FR)(ρ:Ad)(H:Hp):List (Key×V)->List (Key×D)->Prop where
 | nil:bD K ρ H [] []
 | cons {k:Key} {v:V} {vs:List (Key×V)} {d:D} {ds:List (Key×D)}:Rep K ρ H v d->bD K ρ H vs ds->bD K ρ H ((k,v)::vs) ((k,d)::ds)
end
structure Ch(ρ:Ad)(H:Hp)(ρ':Ad)(H':Hp):Prop where
 pre:∀(n:Nat) a,ρ.ob[n]?=some a->ρ'.ob[n]?=some a
 old:∀b o,¬ρ.has b->H b=some o->¬ρ'.has b/\H' b=some o
theorem Ch.refl(ρ:Ad)(H:Hp):Ch ρ H ρ H:=⟨λ_ _ e=>e,λ_ _ n e=>⟨n,e⟩⟩
theorem Ch.trans(a:Ch ρ H ρ1 H1)(b:Ch ρ1 H1 ρ2 H2):Ch ρ H ρ2 H2:=
 ⟨λn x e=>b.pre n x (a.pre n x e),λx o n e=>let⟨n',e'⟩:=a.old x o n e;b.old x o n' e'⟩
structure cM(ρ:Ad)(H:Hp)(ρ':Ad)(H':Hp):Prop extends Ch ρ H ρ' H' where
 rs:ρ'.rs=ρ.rs
 res:∀b∈ρ.rs,H' b=H b
theorem cM.refl(ρ:Ad)(H:Hp):cM ρ H ρ H:=⟨.refl _ _,rfl,λ_ _=>rfl⟩
theorem cM.trans(a:cM ρ H ρ1 H1)(b:cM ρ1 H1 ρ2 H2):cM ρ H ρ2 H2:=
 ⟨a.toCh.trans b.toCh,b.rs.trans a.rs,λx hx=>(b.res x (by rw[a.rs];exact hx)).trans (a.res x hx)⟩
instance {ρ ρ':Ad} {H H':Hp}:CoeOut (cM ρ H ρ' H') (Ch ρ H ρ' H'):=⟨cM.toCh⟩
theorem Ch.rd(S:Ch ρ H ρ' H')(h:Rd H a u)(n:¬ρ.has a):Rd H' a u/\¬ρ'.has a:=by
 rcases h with h |⟨o,h⟩
 ·obtain⟨q,e⟩:=S.old a _ n h;exact⟨.inl e,q⟩
 ·obtain⟨q,e⟩:=S.old a _ n h;exact⟨.inr ⟨o,e⟩,q⟩
mutual
theorem Rep.mono(S:Ch ρ H ρ' H'){v:V}{d:D}(r:Rep K ρ H v d):Rep K ρ' H' v d:=by
 cases r with
 | bR=>exact .bR
 | bl b=>exact .bl b
 | int i=>exact .int i
 | str x=>exact .str x
 | ty n=>exact .ty n
 | tup h l=>exact .tup (h.elim (λ⟨a,n⟩=>.inl (S.rd a n)) .inr) (aF.mono S l)
 | lv h n l=>have ⟨n',h'⟩:=S.old _ _ n h;exact .lv h' n' (aF.mono S l)
 | ro h l=>exact .ro (h.elim (λ⟨a,n⟩=>.inl (S.rd a n)) .inr) (aF.mono S l)
 | dv h n l=>have ⟨n',h'⟩:=S.old _ _ n h;exact .dv h' n' (bD.mono S l)
 | ob e=>exact .ob (S.pre _ _ e)
theorem aF.mono(S:Ch ρ H ρ' H'){vs:List V}{ds:List D}(r:aF K ρ H vs ds):aF K ρ' H' vs ds:=by
 cases r with
 | nil=>exact .nil
 | cons h t=>exact .cons (Rep.mono S h) (aF.mono S t)
theorem bD.mono(S:Ch ρ H ρ' H'){vs:List (Key×V)}{ds:List (Key×D)}(r:bD K ρ H vs ds):bD K ρ' H' vs ds:=by
 cases r with
 | nil=>exact .nil
 | cons h t=>exact .cons (Rep.mono S h) (bD.mono S t)
end
theorem aF.length:∀{vs:List V} {ds:List D},aF K ρ H vs ds->vs.length=ds.length:=by
 intro vs
 induction vs with
 | nil=>intro ds a;cases a;rfl
 | cons v vs ih=>intro ds a;cases a with | cons _ t=>rw[P1,P1,ih t]
theorem aF.got:∀{vs:List V} {ds:List D} {i:Nat} {d:D},aF K ρ H vs ds->ds[i]?=some d->∃v,vs[i]?=some v/\Rep K ρ H v d
 | _,_,_,_,.nil,e=>by simp at e
 | _,_,0,_,.cons r _,e=>by simp at e;subst e;exact⟨_,rfl,r⟩
 | _,_,i+1,d,.cons _ t,e=>by
  obtain⟨u,h1,h2⟩:=aF.got (i:=i) (d:=d) t (by simpa using e);exact⟨u,by simpa using h1,h2⟩
theorem aF.append:∀{vs ws:List V} {ds es:List D},aF K ρ H vs ds->aF K ρ H ws es->aF K ρ H (vs++ws) (ds++es):=by
 intro vs ws
 induction vs with
 | nil=>intro ds es a s;cases a;exact s
 | cons v vs ih=>intro ds es a s;cases a with | cons r t=>exact .cons r (ih t s)
theorem aF.take:∀{vs:List V} {ds:List D} (n:Nat),aF K ρ H vs ds->aF K ρ H (vs.take n) (ds.take n)
 | _,_,0,_=>.nil
 | _,_,_+1,.nil=>.nil
 | _,_,n+1,.cons r t=>.cons r (aF.take n t)
theorem aF.drop:∀{vs:List V} {ds:List D} (n:Nat),aF K ρ H vs ds->aF K ρ H (vs.drop n) (ds.drop n)
 | _,_,0,r=>r
 | _,_,_+1,.nil=>.nil
 | _,_,n+1,.cons _ t=>aF.drop n t
theorem aF.set(r:Rep K ρ H v d):∀{vs:List V} {ds:List D} (i:Nat),aF K ρ H vs ds->aF K ρ H (vs.set i v) (ds.set i d)
 | _,_,_,.nil=>.nil
 | _,_,0,.cons _ t=>.cons r t
 | _,_,i+1,.cons q t=>.cons q (aF.set r i t)
theorem aF.snoc(t:aF K ρ H vs ds)(r:Rep K ρ H v d):aF K ρ H (vs++[v]) (ds++[d]):=t.append (.cons r .nil)
theorem aF.isEmpty(t:aF K ρ H vs ds):vs.isEmpty=ds.isEmpty:=by cases t <;> rfl
theorem TupAt.sq(h:TupAt K ρ H a vs):jB K H a vs:=by
 rcases h with⟨h,_⟩ | h
 ·exact .inl h
 ·rcases h with(h |⟨o,h⟩) | h
  ·cases h
  ·cases h
  ·exact .inr h
theorem KA.sq(h:KA K ρ H a vs):fV K H a vs:=by
 rcases h with⟨h,_⟩ | h
 ·exact .inl h
 ·rcases h with(h |⟨o,h⟩) | h
  ·cases h
  ·cases h
  ·exact .inr h
def Av(K:FR)(ρ:Ad)(H:Hp)(a:Addr):MO->Prop
 | .lst ds=>∃vs,H a=some (.lst vs)/\aF K ρ H vs ds
 | .dct kvs=>∃us,H a=some (.dK us)/\bD K ρ H us kvs
 | .dcH kvs=>∃us ps,H a=some (.Ae (OR a us ps))/\aF K ρ H (us.map λu=>V.ref u.1) (kvs.map (·.1))/\aF K ρ H (us.map (·.2)) (kvs.map (·.2))/\nS (kvs.map (·.1))=some ps
 | .exc c=>∃C,JL K c=some (.ref C)/\H a=some (.Ae λ_ h=>xS h a C)
structure bF(K:FR)(ρ:Ad)(h:MH)(H:Hp):Prop where
 len:ρ.ob.length=h.length
 nd:ρ.ob.Nodup
 at_:∀(n:Nat) a o,ρ.ob[n]?=some a->h[n]?=some o->Av K ρ H a o
 rV:∀b∈ρ.rs,(∃o,H b=some o)/\b∉ρ.ob
 tb:∀P,gV K P->¬ρ.has P/\H P=some .tb
theorem bF.HS{K:FR}{ρ ρ':Ad}{h:MH}{H H':Hp}(S:bF K ρ h H)(T:Ch ρ H ρ' H'):∀P,gV K P->¬ρ'.has P/\H' P=some .tb:=λP t=>T.old P _ (S.tb P t).1 (S.tb P t).2
theorem Av.has(x:Av K ρ H a o):∃u,H a=some u:=by
 cases o with
 | lst ds=>obtain⟨vs,e,_⟩:=x;exact⟨_,e⟩
 | dct ds=>obtain⟨vs,e,_⟩:=x;exact⟨_,e⟩
 | dcH ds=>obtain⟨vs,_,e,_⟩:=x;exact⟨_,e⟩
 | exc c=>obtain⟨_,_,e⟩:=x;exact⟨_,e⟩
theorem Av.mono(x:Av K ρ H a o)(T:Ch ρ H ρ' H')(e:H' a=H a):Av K ρ' H' a o:=by
 cases o with
 | lst ds=>obtain⟨vs,x,r⟩:=x;exact⟨vs,e.trans x,r.mono T⟩
 | dct ds=>obtain⟨vs,x,r⟩:=x;exact⟨vs,e.trans x,r.mono T⟩
 | dcH ds=>obtain⟨us,ps,x,r,r2,p⟩:=x;exact⟨us,ps,e.trans x,r.mono T,r2.mono T,p⟩
 | exc c=>obtain⟨C,g,x⟩:=x;exact⟨C,g,e.trans x⟩
theorem bF.mem(S:bF K ρ h H)(ha:a∈ρ.ob):∃(n:Nat)(o:MO),ρ.ob[n]?=some a/\h[n]?=some o/\Av K ρ H a o:=by
 obtain⟨n,hn,e⟩:=List.mem_iff_getElem.mp ha;have hn':n < h.length:=by rw[<-S.len];exact hn
 have e1:ρ.ob[n]?=some a:=by rw[P7 hn,e]
 exact⟨n,h[n],e1,P7 hn',S.at_ n a _ e1 (P7 hn')⟩
theorem bF.has(S:bF K ρ h H)(ha:ρ.has a):∃u,H a=some u:=by
 rcases ha with ha | ha
 ·obtain⟨_,_,_,_,x⟩:=S.mem ha;exact x.has
 ·exact(S.rV a ha).1
theorem bF.fresh(S:bF K ρ h H)(hp:H p=none):¬ρ.has p:=λm=>by
 obtain⟨u,e⟩:=S.has m;rw[hp] at e;cases e
theorem cM.laid(S:bF K ρ h H)(hp:H p=none):cM ρ H ρ (upd H p o):=
 ⟨⟨λ_ _ e=>e,λb u n e=>⟨n,by rw[ay (aO e hp)];exact e⟩⟩,rfl,λb hb=>by
  obtain⟨u,e⟩:=(S.rV b hb).1;rw[ay (aO e hp)]⟩
theorem bF.same(S:bF K ρ h H)(T:cM ρ H ρ H')(k:∀a∈ρ.ob,H' a=H a):bF K ρ h H':=
 ⟨S.len,S.nd,λn a o e1 e2=>(S.at_ n a o e1 e2).mono T.toCh (k a (PF e1)),λb hb=>⟨by rw[T.res b hb];exact(S.rV b hb).1,(S.rV b hb).2⟩,S.HS T.toCh⟩
theorem bF.laid(S:bF K ρ h H)(hp:H p=none):bF K ρ h (upd H p o):=
 S.same (cM.laid S hp) λa ha=>by
  obtain⟨u,e⟩:=S.has (.inl ha);rw[ay (aO e hp)]
abbrev Ad.more(ρ:Ad)(p:Addr):Ad:=⟨ρ.ob++[p],ρ.rs⟩
theorem cM.made(S:bF K ρ h H)(hp:H p=none):cM ρ H (ρ.more p) (upd H p o):=by
 refine⟨⟨λn a e=>?_,λb u n e=>?_⟩,rfl,(cM.laid S hp).res⟩
 ·show(ρ.ob++[p])[n]?=_;rw[PU (PH.mp e).1];exact e
 ·refine⟨λm=>?_,by rw[ay (aO e hp)];exact e⟩;rcases m with m | m
  ·rcases Qi.mp m with m | m
   ·exact n (.inl m)
   ·exact aO e hp (P4.mp m)
  ·exact n (.inr m)
theorem bF.made(S:bF K ρ h H)(hp:H p=none)(ho:Av K (ρ.more p) (upd H p u) p o):bF K (ρ.more p) (h++[o]) (upd H p u):=by
 refine⟨by simp[S.len],?_,λn a x e1 e2=>?_,λb hb=>?_,S.HS (cM.made S hp).toCh⟩
 ·show(ρ.ob++[p]).Nodup;rw[Tz];refine⟨S.nd,by simp,λa ha b hb z=>?_⟩;rw[P4.mp hb] at z;exact S.fresh hp (.inl (z ▸ ha))
 ·by_cases hn:n < ρ.ob.length
  ·have e1:(ρ.ob++[p])[n]?=some a:=e1;rw[PU hn] at e1;rw[PU (by rw[<-S.len];exact hn)] at e2;have q:=S.at_ n a x e1 e2;obtain⟨w,ew⟩:=q.has;exact q.mono (cM.made S hp).toCh (ay (aO ew hp))
  ·have l1:=(PH.mp e1).1;simp at l1;have hn':n=ρ.ob.length:=by lia
   subst hn';have e1:(ρ.ob++[p])[ρ.ob.length]?=some a:=e1;rw[P9 (PJ _)] at e1;rw[P9 (by rw[S.len];exact PJ _)] at e2;simp at e1;rw[S.len] at e2;simp at e2;subst e1;subst e2;exact ho
 ·obtain⟨⟨v,e⟩,n⟩:=S.rV b hb;have z:=aO e hp;refine⟨⟨v,by rw[ay z];exact e⟩,λm=>?_⟩;rcases Qi.mp m with m | m
  ·exact n m
  ·exact z (P4.mp m)
theorem cM.wrote(S:bF K ρ h H)(ha:a∈ρ.ob):cM ρ H ρ (upd H a o):=
 ⟨⟨λ_ _ e=>e,λb u n e=>⟨n,by rw[ay (λ(z:b=a)=>n (.inl (by rw[z];exact ha)))];exact e⟩⟩,rfl,λb hb=>ay λ(z:b=a)=>(S.rV b hb).2 (by rw[z];exact ha)⟩
theorem bF.wrote(S:bF K ρ h H)(e:ρ.ob[n]?=some a)(ho:Av K ρ (upd H a u) a o):bF K ρ (h.set n o) (upd H a u):=by
 have ha:=PF e;have T:cM ρ H ρ (upd H a u):=cM.wrote S ha;refine⟨by rw[Rk];exact S.len,S.nd,λm b x e1 e2=>?_,λb hb=>⟨by rw[T.res b hb];exact(S.rV b hb).1,(S.rV b hb).2⟩,S.HS T.toCh⟩
 by_cases hm:n=m
 ·subst hm;have l2:n < h.length:=by rw[<-S.len];exact(PH.mp e).1
  rw[e] at e1;cases e1;rw[Qr l2] at e2;cases e2;exact ho
 ·rw[QA hm] at e2;have q:=S.at_ m b x e1 e2;have hb:b≠a:=by
   intro z;subst z;exact hm ((UZ (PH.mp e).1 S.nd).mp (e.trans e1.symm))
  exact q.mono T.toCh (ay hb)
abbrev Ad.keep(ρ:Ad)(l:Addr):Ad:=⟨ρ.ob,l::ρ.rs⟩
theorem Ch.keep(hl:H l=none):Ch ρ H (ρ.keep l) (upd H l o):=by
 refine⟨λn a e=>e,λb u n e=>⟨λm=>?_,by rw[ay (aO e hl)];exact e⟩⟩;rcases m with m | m
 ·exact n (.inl m)
 ·rcases PZ.mp m with m | m
  ·exact aO e hl m
  ·exact n (.inr m)
theorem bF.keep(S:bF K ρ h H)(hl:H l=none):bF K (ρ.keep l) h (upd H l o):=by
 refine⟨S.len,S.nd,λn a x e1 e2=>?_,λb hb=>?_,S.HS (Ch.keep hl)⟩
 ·have q:=S.at_ n a x e1 e2;obtain⟨w,ew⟩:=q.has;exact q.mono (Ch.keep hl) (ay (aO ew hl))
 ·rcases PZ.mp hb with rfl | hb
  ·exact⟨⟨_,aP⟩,λm=>S.fresh hl (.inl m)⟩
  ·obtain⟨⟨v,e⟩,n⟩:=S.rV b hb;exact⟨⟨v,by rw[ay (aO e hl)];exact e⟩,n⟩
theorem Ch.put(hl:l∈ρ.rs):Ch ρ H ρ (upd H l o):=⟨λn a e=>e,λb u n e=>⟨n,by rw[ay (λ(z:b=l)=>n (.inr (by rw[z];exact hl)))];exact e⟩⟩
theorem bF.put(S:bF K ρ h H)(hl:l∈ρ.rs):bF K ρ h (upd H l o):=by
 refine⟨S.len,S.nd,λn a x e1 e2=>(S.at_ n a x e1 e2).mono (Ch.put hl) (ay λ(z:a=l)=>(S.rV l hl).2 (by rw[<-z];exact PF e1)),λb hb=>⟨?_,(S.rV b hb).2⟩,S.HS (Ch.put hl)⟩
 by_cases z:b=l
 ·subst z;exact⟨_,aP⟩
 ·rw[ay z];exact(S.rV b hb).1
theorem Ch.free{os rs rs':List Addr}{H:Hp}(hs:∀b∈rs',b∈rs):Ch ⟨os,rs⟩ H ⟨os,rs'⟩ H:=⟨λn a e=>e,λb u n e=>⟨λm=>n (m.elim .inl λm=>.inr (hs b m)),e⟩⟩
theorem bF.free{os rs rs':List Addr}{H:Hp}(S:bF K ⟨os,rs⟩ h H)(hs:∀b∈rs',b∈rs):bF K ⟨os,rs'⟩ h H:=
 ⟨S.len,S.nd,λn a x e1 e2=>(S.at_ n a x e1 e2).mono (Ch.free hs) rfl,λb hb=>S.rV b (hs b hb),S.HS (Ch.free hs)⟩
structure b8(K:FR)(ρ:Ad)(H:Hp)(σ:St)(δ:DS):Prop where
 len:σ.length=δ.length
 at_:∀(i:Nat) d,δ[i]?=some (some d)->∃v,σ[i]?=some (some v)/\Rep K ρ H v d
theorem b8.mono(R:b8 K ρ H σ δ)(S:Ch ρ H ρ' H'):b8 K ρ' H' σ δ:=⟨R.len,λi d e=>let⟨v,a,b⟩:=R.at_ i d e;⟨v,a,b.mono S⟩⟩
theorem b8.set(R:b8 K ρ H σ δ)(r:Rep K ρ H v d)(i:Nat):b8 K ρ H (σ.set i (some v)) (δ.set i (some d)):=by
 refine⟨by rw[Rk,Rk];exact R.len,λj e he=>?_⟩
 by_cases hij:i=j
 ·subst hij;have hl:i < δ.length:=by
   have:=(PH.mp he).1;rw[Rk] at this;exact this
  rw[Qr hl] at he;cases he;exact⟨v,by rw[Qr (by rw[R.len];exact hl)],r⟩
 ·rw[QA hij] at he ⊢;exact R.at_ j e he
abbrev EM:=DS->MH->Option (D×MH)
abbrev TM:=DS->MH->Option (Bool×MH)
abbrev AM:=DS->MH->Option (List D×MH)
inductive Fl where
 | nx | bk | ct | rt (d:D)
abbrev SM:=DS->MH->Option (Fl×DS×MH)
abbrev GM:=D->DS->MH->Option (DS×MH)
abbrev Fn:=List D->MH->Option (D×MH)
inductive Hz(K:FR)(ρ:Ad)(H:Hp)(h':MH)(d:D)(v:V)(H':Hp):Prop where
 | mk (ρ'):cM ρ H ρ' H'->bF K ρ' h' H'->Rep K ρ' H' v d->Hz K ρ H h' d v H'
noncomputable def cT(K:FR)(ρ:Ad)(H:Hp)(h':MH)(d:D):VK:=λv H'=>Hz K ρ H h' d v H'
inductive O5(K:FR)(m:EM)(σ:L2.St)(H:Hp)(Q:VK):Prop where
 | mk (ρ δ h d h'):b8 K ρ H σ δ->bF K ρ h H->(m δ h=some (d,h'))->(∀v H',cT K ρ H h' d v H'->Q v H')->O5 K m σ H Q
def tM(K:FR)(m:EM):TE:=λσ H Q=>O5 K m σ H Q
inductive MX(K:FR)(m:TM)(σ:L2.St)(H:Hp)(Q:Bool->Hp->Prop):Prop where
 | mk (ρ δ h b h'):b8 K ρ H σ δ->bF K ρ h H->(m δ h=some (b,h'))->(∀ρ' H',cM ρ H ρ' H'->bF K ρ' h' H'->Q b H')->MX K m σ H Q
def BX(K:FR)(m:TM):TT:=λσ H Q=>MX K m σ H Q
inductive M4(K:FR)(m:AM)(σ:L2.St)(H:Hp)(Q:List V->Hp->Prop):Prop where
 | mk (ρ δ h ds h'):b8 K ρ H σ δ->bF K ρ h H->(m δ h=some (ds,h'))->(∀vs ρ' H',cM ρ H ρ' H'->bF K ρ' h' H'->aF K ρ' H' vs ds->Q vs H')->M4 K m σ H Q
def OV(K:FR)(m:AM):TA:=λσ H Q=>M4 K m σ H Q
inductive MY(K:FR)(m:SM)(E:Ends)(σ:L2.St)(H:Hp):Prop where
 | mk (ρ δ h fl δ' h'):b8 K ρ H σ δ->bF K ρ h H->(m δ h=some (fl,δ',h'))->(∀ρ' H',cM ρ H ρ' H'->bF K ρ' h' H'->
 match fl with
 | .nx=>∀σ',b8 K ρ' H' σ' δ'->E.nx σ' H'
 | .bk=>∀σ',b8 K ρ' H' σ' δ'->E.bk σ' H'
 | .ct=>∀σ',b8 K ρ' H' σ' δ'->E.ct σ' H'
 | .rt d=>∀v,Rep K ρ' H' v d->E.rt v H')->MY K m E σ H
def G5(K:FR)(m:SM):TS:=λE σ H=>MY K m E σ H
inductive M3(K:FR)(m:GM)(v:V)(σ:L2.St)(H:Hp)(Q:L2.St->Hp->Prop):Prop where
 | mk (ρ δ h d δ' h'):b8 K ρ H σ δ->bF K ρ h H->Rep K ρ H v d->(m d δ h=some (δ',h'))->(∀ρ' H' σ',cM ρ H ρ' H'->bF K ρ' h' H'->b8 K ρ' H' σ' δ'->Q σ' H')->M3 K m v σ H Q
def EY(K:FR)(m:GM):TG:=λv σ H Q=>M3 K m v σ H Q
def SE(X:Cx)(e:Expr)(m:EM):Prop:=PE X e (tM X.K m)
def ST(X:Cx)(e:Expr)(m:TM):Prop:=PT X e (BX X.K m)
def SW(X:Cx)(e:Expr)(m:TM):Prop:=PW X e (BX X.K m)
def SA(X:Cx)(es:List Expr)(m:AM):Prop:=PA X es (OV X.K m)
def SS(X:Cx)(s:Stmt)(m:SM):Prop:=PS X s (G5 X.K m)
def BU(X:Cx)(s:List Stmt)(m:SM):Prop:=wk X s (G5 X.K m)
def SG(X:Cx)(e:Expr)(m:GM):Prop:=PG X e (EY X.K m)
theorem _root_.L2.PE.imp(h:PE X e t)(i:∀σ H Q,t' σ H Q->t σ H Q):PE X e t':=λpins s σ H Q I q=>h pins s σ H Q I (i σ H Q q)
theorem _root_.L2.PT.imp(h:PT X e t)(i:∀σ H Q,t' σ H Q->t σ H Q):PT X e t':=λpins s σ H Q I q=>h pins s σ H Q I (i σ H Q q)
theorem _root_.L2.PW.imp(h:PW X e t)(i:∀σ H Q,t' σ H Q->t σ H Q):PW X e t':=λwh pins s σ H Q I q=>h wh pins s σ H Q I (i σ H Q q)
theorem _root_.L2.PA.imp(h:PA X e t)(i:∀σ H Q,t' σ H Q->t σ H Q):PA X e t':=λpos pins s σ H Q I q=>h pos pins s σ H Q I (i σ H Q q)
theorem _root_.L2.PS.imp(h:PS X e t)(i:∀E σ H,t' E σ H->t E σ H):PS X e t':=λpins s σ H E I q=>h pins s σ H E I (i E σ H q)
theorem _root_.L2.wk.imp(h:wk X e t)(i:∀E σ H,t' E σ H->t E σ H):wk X e t':=λpins s σ H E I q=>h pins s σ H E I (i E σ H q)
theorem _root_.L2.PG.imp(h:PG X e t)(i:∀v σ H Q,t' v σ H Q->t v σ H Q):PG X e t':=λpins s σ H v u Q I r q=>h pins s σ H v u Q I r (i v σ H Q q)
theorem bw(h:o.bind f=some b):∃a,o=some a/\f a=some b:=RS.mp h
theorem gf(h:o.map f=some b):∃a,o=some a/\f a=b:=Qg.mp h
theorem xG{x:D}{α:Type}{g:Bool->Option α}{z:α}(e:(match x with | .bl c=>g c | _=>none)=some z):∃c,x=.bl c/\g c=some z:=by
 cases x <;> first | exact absurd e (by intro z;cases z) | exact⟨_,rfl,e⟩
theorem cT.here(S:bF K ρ h H)(r:Rep K ρ H v d):cT K ρ H h d v H:=⟨ρ,.refl _ _,S,r⟩
theorem cT.step(T:cM ρ H ρ1 H1)(p:cT K ρ1 H1 h' d v H'):cT K ρ H h' d v H':=let⟨ρ2,T2,S2,r2⟩:=p;⟨ρ2,T.trans T2,S2,r2⟩
theorem cT.tup(S:bF K ρ h H)(r:aF K ρ H vs ds)(hp:H p=none):cT K ρ H h (.tup ds) (.ref p) (upd H p (.tup vs)):=
 ⟨ρ,cM.laid S hp,S.laid hp,.tup (.inl ⟨.inl aP,S.fresh hp⟩) (r.mono (cM.laid S hp).toCh)⟩
theorem cT.lv(S:bF K ρ h H)(r:aF K ρ H vs ds)(hp:H p=none):cT K ρ H h (.lv ds) (.ref p) (upd H p (.lst vs)):=
 ⟨ρ,cM.laid S hp,S.laid hp,.lv aP (S.fresh hp) (r.mono (cM.laid S hp).toCh)⟩
theorem cT.dv(S:bF K ρ h H)(r:bD K ρ H us ds)(hp:H p=none):cT K ρ H h (.dv ds) (.ref p) (upd H p (.dK us)):=
 ⟨ρ,cM.laid S hp,S.laid hp,.dv aP (S.fresh hp) (r.mono (cM.laid S hp).toCh)⟩
noncomputable def av(i:Nat):EM:=λδ h=>(δ[i]?).join.map λd=>(d,h)
noncomputable def eK(d:D):EM:=λ_ h=>some (d,h)
noncomputable def ao(f:D->D->MH->Option (D×MH))(a b:EM):EM:=λδ h=>(a δ h).bind λp=>(b δ p.2).bind λq=>f p.1 q.1 q.2
noncomputable def Ag(f:D->MH->Option (D×MH))(a:EM):EM:=λδ h=>(a δ h).bind λp=>f p.1 p.2
noncomputable def aH:AM:=λ_ h=>some ([],h)
noncomputable def af(a:EM)(r:AM):AM:=λδ h=>(a δ h).bind λp=>(r δ p.2).bind λq=>some (p.1::q.1,q.2)
noncomputable def ak(f:Fn)(a:AM):EM:=λδ h=>(a δ h).bind λp=>f p.1 p.2
noncomputable def aI(a:EM):TM:=λδ h=>(a δ h).bind λp=>match p.1 with
 | .bl b=>some (b,p.2)
 | _=>none
noncomputable def jC(t:TM):TM:=λδ h=>(t δ h).map λp=>(!p.1,p.2)
noncomputable def oN(a b:TM):TM:=λδ h=>(a δ h).bind λp=>if p.1 then b δ p.2 else some (false,p.2)
noncomputable def Cs(a b:TM):TM:=λδ h=>(a δ h).bind λp=>if p.1 then some (true,p.2) else b δ p.2
noncomputable def xu(a b:EM):EM:=λδ h=>(a δ h).bind λp=>match p.1 with
 | .bl c=>if c then b δ p.2 else some (.bl false,p.2)
 | _=>none
noncomputable def OA(a b:EM):EM:=λδ h=>(a δ h).bind λp=>match p.1 with
 | .bl c=>if c then some (.bl true,p.2) else b δ p.2
 | _=>none
noncomputable def az:Fn:=λds h=>some (.tup ds,h)
inductive O9(K:FR)(f:D->D->MH->Option (D×MH))(x y:V)(H:Hp)(Q:VK):Prop where
 | mk (ρ h d e z h'):bF K ρ h H->Rep K ρ H x d->Rep K ρ H y e->(f d e h=some (z,h'))->(∀v H',cT K ρ H h' z v H'->Q v H')->O9 K f x y H Q
def rS(K:FR)(f:D->D->MH->Option (D×MH)):R2:=λx y H Q=>O9 K f x y H Q
def kG(X:Cx)(g:Value->Value->Sem Value)(f:D->D->MH->Option (D×MH)):Prop:=kH X g (rS X.K f)
inductive O8(K:FR)(f:D->MH->Option (D×MH))(x:V)(H:Hp)(Q:VK):Prop where
 | mk (ρ h d z h'):bF K ρ h H->Rep K ρ H x d->(f d h=some (z,h'))->(∀v H',cT K ρ H h' z v H'->Q v H')->O8 K f x H Q
def rU(K:FR)(f:D->MH->Option (D×MH)):V->Hp->VK->Prop:=λx H Q=>O8 K f x H Q
inductive Pb(K:FR)(f:Fn)(vs:List V)(H:Hp)(Q:VK):Prop where
 | mk (ρ h ds z h'):bF K ρ h H->aF K ρ H vs ds->(f ds h=some (z,h'))->(∀v H',cT K ρ H h' z v H'->Q v H')->Pb K f vs H Q
def rF(K:FR)(f:Fn):List V->Hp->VK->Prop:=λvs H Q=>Pb K f vs H Q
def gm(X:Cx)(g:Value)(f:Fn):Prop:=fz X g (rF X.K f)
section
variable {X:Cx} {a b c e:Expr} {es:List Expr} {pos:Pos} {ma mb mc:EM} {mt mu:TM} {m:AM} {f:D->D->MH->Option (D×MH)}
theorem Ig(hN:X.N[i]?=some x)(hv:Kt X.env.scope x)(hd:(x==("__debug__":Str))=false:=by ac_nf)(hcd:(x==("__classdict__":Str))=false:=by ac_nf):SE X (.Name x pos) (av i):=
 (Dr hN hv hd hcd).imp λσ H Q ⟨ρ,δ,h,d,h',R,S,e,k⟩=>by
  obtain⟨d',e1,e2⟩:=gf e;cases e2;obtain⟨v,ev,r⟩:=R.at_ i _ (Um.mp e1);exact⟨v,ev,k v H (.here S r)⟩
theorem AO(hp:PE X e (tC v))(hr:∀ρ H,Rep X.K ρ H v d):SE X e (eK d):=hp.imp λσ H Q ⟨ρ,δ,h,d',h',R,S,ee,k⟩=>by
 cases ee;exact k v H (.here S (hr _ _))
theorem aM{i j}:SE X (.Constant (.int i) j pos) (eK (.int i)):=AO I9 λ_ _=>.int i
theorem G9{b j}:SE X (.Constant (.bool b) j pos) (eK (.bl b)):=AO L7 λ_ _=>.bl b
theorem ye{j}:SE X (.Constant .none j pos) (eK .bR):=AO Dt λ_ _=>.bR
theorem bo{x j}(h:PyData.strOk x=true:=by decide+kernel):SE X (.Constant (.str x) j pos) (eK (.str x)):=AO IW λ_ _=>.str h
theorem LF(hg:Gl X x)(hm:X.mg x=none)(hv:bootBuiltins x=some (.type n))(hn:x≠"__name__":=by decide)(hd:(x==("__debug__":Str))=false:=by ac_nf):SE X (.Name x pos) (eK (.ty n)):=
 AO (zM (v:=.ty n) hg hm hv rfl hn hd) λ_ _=>.ty n
theorem Fu(hg:Gl X x)(hm:X.mg x=some u)(r:RelV v u)(hr:∀ρ H,Rep X.K ρ H v d)(hd:(x==("__debug__":Str))=false:=by ac_nf):SE X (.Name x pos) (eK d):=
 AO (zJ hg hm r hd) hr
theorem zA(h:tM X.K (ao f ma mb) σ H Q):Lm (rS X.K f) (tM X.K ma) (tM X.K mb) σ H Q:=by
 obtain⟨ρ,δ,h,d,h',R,S,e,k⟩:=h;obtain⟨⟨x,h1⟩,e1,e⟩:=bw e;obtain⟨⟨y,h2⟩,e2,e3⟩:=bw e;refine⟨ρ,δ,h,x,h1,R,S,e1,λv H1 ⟨ρ1,T1,S1,r1⟩=>?_⟩;refine⟨ρ1,δ,h1,y,h2,R.mono T1,S1,e2,λu H2 ⟨ρ2,T2,S2,r2⟩=>?_⟩;exact⟨ρ2,h2,x,y,d,h',S2,r1.mono T2,r2,e3,λw H3 p=>k w H3 (p.step (T1.trans T2))⟩
theorem aW(ho:kG X (binaryOp op) f)(ha:SE X a ma)(hb:SE X b mb):SE X (.BinOp a op b pos) (ao f ma mb):=(Hf ho ha hb).imp λ_ _ _=>zA
theorem Ij(ho:kG X (compareOp op) f)(ha:SE X a ma)(hb:SE X b mb)(hm:behindInMarks op b=false):SE X (.Compare a [op] [b] pos) (ao f ma mb):=(F7 ho ha hb hm).imp λ_ _ _=>zA
theorem eh{op:CmpOp}(ho:kG X (compareOp op) f)(ha:SE X a ma)(hb:SE X b mb)(hm:behindInMarks op b=false):ST X (.Compare a [op] [b] pos) (aI (ao f ma mb)):=
 (FI ho ha hb hm).imp λσ H Q ⟨ρ,δ,h,c,h',R,S,e,k⟩=>by
  obtain⟨⟨x,h1⟩,e1,e2⟩:=bw e;obtain⟨c',rfl,e2⟩:=xG e2;cases e2;refine zA ⟨ρ,δ,h,.bl c,h1,R,S,e1,λv H' ⟨ρ',T,S',r⟩=>?_⟩;cases r;exact⟨c,rfl,k ρ' H' T S'⟩
theorem CD{op:UnaryOp}{f:D->MH->Option (D×MH)}(ho:MT X (unaryOp op) (rU X.K f))(ha:SE X a ma):SE X (.UnaryOp op a pos) (Ag f ma):=(L3 ho ha).imp λσ H Q ⟨ρ,δ,h,d,h',R,S,e,k⟩=>by
 obtain⟨⟨x,h1⟩,e1,e⟩:=bw e;exact⟨ρ,δ,h,x,h1,R,S,e1,λv H1 ⟨ρ1,T1,S1,r1⟩=>⟨ρ1,h1,x,d,h',S1,r1,e,λw H3 p=>k w H3 (p.step T1)⟩⟩
theorem aq:SA X [] aH:=DA.imp λσ H Q ⟨ρ,δ,h,d,h',R,S,e,k⟩=>by
 cases e;exact k [] ρ H (.refl _ _) S .nil
theorem aa(ha:SE X e ma)(hr:SA X es m)(hs:starEach (e::es) X.env=(false,eval e X.env)::starEach es X.env:=by ac_nf):SA X (e::es) (af ma m):=
 (u9 ha hr hs).imp λσ H Q ⟨ρ,δ,h,d,h',R,S,e,k⟩=>by
  obtain⟨⟨x,h1⟩,e1,e⟩:=bw e;obtain⟨⟨ys,h2⟩,e2,e3⟩:=bw e;cases e3;refine⟨ρ,δ,h,x,h1,R,S,e1,λv H1 ⟨ρ1,T1,S1,r1⟩=>?_⟩;exact⟨ρ1,δ,h1,ys,h2,R.mono T1,S1,e2,λvs ρ2 H2 T2 S2 rs=>k _ ρ2 H2 (T1.trans T2) S2 (.cons (r1.mono T2) rs)⟩
def jG(m:AM)(n:Nat):Prop:=∀δ h ds h',m δ h=some (ds,h')->ds.length=n
theorem aD:jG aH 0:=λδ h ds h' e=>by cases e;rfl
theorem ag(hr:jG m n):jG (af ma m) (n+1):=λδ h ds h' e=>by
 obtain⟨⟨x,h1⟩,e1,e⟩:=bw e;obtain⟨⟨ys,h2⟩,e2,e3⟩:=bw e;cases e3;rw[P1,hr _ _ _ _ e2]
theorem cA{x1}(h:SA X es m)(hl:jG m n)(hn:n<=sizeLine:=by decide):SE X (.Tuple es x1 pos) (ak az m):=(IU h).imp λσ H Q ⟨ρ,δ,h,d,h',R,S,e,k⟩=>by
 obtain⟨⟨x,h1⟩,e1,e⟩:=bw e;cases e;refine⟨ρ,δ,h,x,h1,R,S,e1,λvs ρ1 H1 T1 S1 r1=>⟨by rw[r1.length,hl _ _ _ _ e1];exact hn,λp hp=>k _ _ (cT.step T1 (.tup S1 r1 hp))⟩⟩
inductive M5(K:FR)(m:AM)(σ:L2.St)(H:Hp)(Q:VK):Prop where
 | mk (ρ δ h ds h'):b8 K ρ H σ δ->bF K ρ h H->(m δ h=some (ds,h'))->(∀ρ1 H1 p vs,cM ρ H ρ1 H1->bF K ρ1 h' H1->H1 p=none->aF K ρ1 H1 vs ds->Q (.ref p) (upd H1 p (.lst vs)))->M5 K m σ H Q
def Pr(K:FR)(m:AM):TE:=λσ H Q=>M5 K m σ H Q
def jF(X:Cx)(e:Expr)(m:AM):Prop:=PE X e (Pr X.K m)
noncomputable def eL(m:AM):EM:=λδ h=>(m δ h).map λp=>(.lv p.1,p.2)
noncomputable def yX(m:AM):EM:=λδ h=>(m δ h).map λp=>(.ob p.2.length,p.2++[.lst p.1])
theorem cT.ob(S:bF K ρ h H)(r:aF K ρ H vs ds)(hp:H p=none):cT K ρ H (h++[.lst ds]) (.ob h.length) (.ref p) (upd H p (.lst vs)):=
 ⟨ρ.more p,cM.made S hp,S.made hp ⟨vs,aP,r.mono (cM.made S hp).toCh⟩,.ob (show(ρ.ob++[p])[h.length]?=_ by rw[<-S.len,P9 (PJ _)];simp)⟩
theorem jF.lv(h:jF X e m):SE X e (eL m):=h.imp λσ H Q ⟨ρ,δ,h,d,h',R,S,e,k⟩=>by
 obtain⟨⟨ds,h1⟩,e1,e2⟩:=gf e;cases e2;exact⟨ρ,δ,h,ds,h1,R,S,e1,λρ1 H1 p vs T S1 hp r=>k _ _ (cT.step T (.lv S1 r hp))⟩
theorem jF.ob(h:jF X e m):SE X e (yX m):=h.imp λσ H Q ⟨ρ,δ,h,d,h',R,S,e,k⟩=>by
 obtain⟨⟨ds,h1⟩,e1,e2⟩:=gf e;cases e2;exact⟨ρ,δ,h,ds,h1,R,S,e1,λρ1 H1 p vs T S1 hp r=>k _ _ (cT.step T (.ob S1 r hp))⟩
theorem cO(h:SA X es m)(hl:jG m n)(hn:n<=sizeLine:=by decide):jF X (.List es pos) m:=(I0 h).imp λσ H Q ⟨ρ,δ,h,ds,h',R,S,e,k⟩=>
 ⟨ρ,δ,h,ds,h',R,S,e,λvs ρ1 H1 T1 S1 r1=>⟨by rw[r1.length,hl _ _ _ _ e];exact hn,λp hp=>k ρ1 H1 p vs T1 S1 hp r1⟩⟩
noncomputable def Px:EM:=λ_ h=>some (.dv [],h)
theorem LI:SE X (.Dict [] [] pos) Px:=Dv.imp λσ H Q ⟨ρ,δ,h,d,h',R,S,e,k⟩ p hp=>by
 cases e;exact k _ _ (.dv S .nil hp)
theorem FC{σ:St}{H:Hp}{Q:Bool->Hp->Prop}(h:BX X.K (aI ma) σ H Q):tM X.K ma σ H λx H1=>∃c,x=.bl c/\Q c H1:=by
 obtain⟨ρ,δ,h,c,h',R,S,e,k⟩:=h;obtain⟨⟨x,h1⟩,e1,e2⟩:=bw e;obtain⟨c',rfl,e2⟩:=xG e2;cases e2;refine⟨ρ,δ,h,.bl c,h1,R,S,e1,λv H' ⟨ρ',T,S',r⟩=>?_⟩;cases r;exact⟨c,rfl,k ρ' H' T S'⟩
theorem mE(h:ST X a mt):ST X (.UnaryOp .Not a pos) (jC mt):=(IJ h).imp λσ H Q ⟨ρ,δ,h,c,h',R,S,e,k⟩=>by
 obtain⟨⟨x,h1⟩,e1,e2⟩:=gf e;cases e2;exact⟨ρ,δ,h,x,h1,R,S,e1,λρ' H' T S'=>k ρ' H' T S'⟩
theorem zt(h:ST X a mt):SW X (.BoolOp .And [a] pos) mt:=FH h
theorem yc(h:ST X a mt):SW X (.BoolOp .Or [a] pos) mt:=IG h
theorem Cv{rest:List Expr}(ha:ST X a mt)(hb:SW X (.BoolOp .And (b::rest) pos) mu):SW X (.BoolOp .And (a::b::rest) pos) (oN mt mu):=(IH ha hb).imp λσ H Q ⟨ρ,δ,h,c,h',R,S,e,k⟩=>by
 obtain⟨⟨x,h1⟩,e1,e2⟩:=bw e;refine⟨ρ,δ,h,x,h1,R,S,e1,λρ' H' T S'=>?_⟩;cases x with
 | true=>rw[PL rfl] at e2 ⊢;exact⟨ρ',δ,h1,c,h',R.mono T,S',e2,λρ2 H2 T2 S2=>k ρ2 H2 (T.trans T2) S2⟩
 | false=>rw[P0 (by simp)] at e2 ⊢;cases e2;exact k ρ' H' T S'
theorem zr{rest:List Expr}(ha:ST X a mt)(hb:SW X (.BoolOp .Or (b::rest) pos) mu):SW X (.BoolOp .Or (a::b::rest) pos) (Cs mt mu):=(LZ ha hb).imp λσ H Q ⟨ρ,δ,h,c,h',R,S,e,k⟩=>by
 obtain⟨⟨x,h1⟩,e1,e2⟩:=bw e;refine⟨ρ,δ,h,x,h1,R,S,e1,λρ' H' T S'=>?_⟩;cases x with
 | false=>rw[P0 (by simp)] at e2 ⊢;exact⟨ρ',δ,h1,c,h',R.mono T,S',e2,λρ2 H2 T2 S2=>k ρ2 H2 (T.trans T2) S2⟩
 | true=>rw[PL rfl] at e2 ⊢;cases e2;exact k ρ' H' T S'
theorem SW.st(h:SW X a mt):ST X a mt:=PW.pt h
theorem iI{op}(h:SE X a ma):SE X (.BoolOp op [a] pos) ma:=IY h
theorem mG{rest:List Expr}(ha:SE X a ma)(hb:SE X (.BoolOp .And (b::rest) pos) mb):SE X (.BoolOp .And (a::b::rest) pos) (xu ma mb):=(Ja ha hb).imp λσ H Q ⟨ρ,δ,h,d,h',R,S,e,k⟩=>by
 obtain⟨⟨x,h1⟩,e1,e2⟩:=bw e;obtain⟨c,rfl,e2⟩:=xG e2;refine⟨ρ,δ,h,.bl c,h1,R,S,e1,λv H' ⟨ρ',T,S',r⟩=>?_⟩;cases r;refine⟨c,rfl,?_⟩;cases c with
 | true=>rw[PL rfl] at e2 ⊢;exact⟨ρ',δ,h1,d,h',R.mono T,S',e2,λv H2 p=>k v H2 (p.step T)⟩
 | false=>rw[P0 (by simp)] at e2 ⊢;cases e2;exact k _ _ ⟨ρ',T,S',.bl _⟩
theorem LG{rest:List Expr}(ha:SE X a ma)(hb:SE X (.BoolOp .Or (b::rest) pos) mb):SE X (.BoolOp .Or (a::b::rest) pos) (OA ma mb):=(L4 ha hb).imp λσ H Q ⟨ρ,δ,h,d,h',R,S,e,k⟩=>by
 obtain⟨⟨x,h1⟩,e1,e2⟩:=bw e;obtain⟨c,rfl,e2⟩:=xG e2;refine⟨ρ,δ,h,.bl c,h1,R,S,e1,λv H' ⟨ρ',T,S',r⟩=>?_⟩;cases r;refine⟨c,rfl,?_⟩;cases c with
 | false=>rw[P0 (by simp)] at e2 ⊢;exact⟨ρ',δ,h1,d,h',R.mono T,S',e2,λv H2 p=>k v H2 (p.step T)⟩
 | true=>rw[PL rfl] at e2 ⊢;cases e2;exact k _ _ ⟨ρ',T,S',.bl _⟩
noncomputable def Mz(a:EM):EM:=λδ h=>(a δ h).bind λp=>match p.1 with
 | .bl c=>some (.bl (!c),p.2)
 | _=>none
theorem Ih(ha:SE X a ma):SE X (.UnaryOp .Not a pos) (Mz ma):=(IZ ha).imp λσ H Q ⟨ρ,δ,h,d,h',R,S,e,k⟩=>by
 obtain⟨⟨x,h1⟩,e1,e2⟩:=bw e;obtain⟨c,rfl,e2⟩:=xG e2;cases e2;refine⟨ρ,δ,h,.bl c,h1,R,S,e1,λv H' ⟨ρ',T,S',r⟩=>?_⟩;cases r;exact⟨c,rfl,k _ _ ⟨ρ',T,S',.bl _⟩⟩
noncomputable def xZ(d:D)(h:MH):Option Bool:=match d with
 | .bR=>some false
 | .bl b=>some b
 | .int i=>some (i !=0)
 | .str x=>if x.length<=sizeLine then some ((x.length:Int) !=0) else none
 | .tup xs=>some (!xs.isEmpty)
 | .dv kvs=>some (!kvs.isEmpty)
 | .ob n=>match h[n]? with
  | some (.lst xs)=>some (!xs.isEmpty)
  | some (.dct kvs)=>some (!kvs.isEmpty)
  | _=>none
 | .lv xs=>some (!xs.isEmpty)
 | .ro xs=>some (!xs.isEmpty)
 | .ty _=>none
noncomputable def mx(a:EM):TM:=λδ h=>(a δ h).bind λp=>(xZ p.1 p.2).map λc=>(c,p.2)
theorem bD.isEmpty(t:bD K ρ H us ds):us.isEmpty=ds.isEmpty:=by cases t <;> rfl
theorem zo{K:FR}{ρ:Ad}{H:Hp}{h:MH}{v:V}{d:D}{c:Bool}(S:bF K ρ h H)(r:Rep K ρ H v d)(e:xZ d h=some c):GY K v H c:=by
 cases r with
 | bR=>cases e;exact rfl
 | bl b=>cases e;exact rfl
 | int i=>cases e;exact rfl
 | str hs=>
  unfold xZ at e
  by_cases z:‹Str›.length<=sizeLine
  ·simp only[PL z] at e;cases e;exact⟨z,rfl⟩
  ·simp only[P0 z] at e;cases e
 | ty n=>exact bV e
 | tup ht l=>cases e;exact .inr (.inl ⟨_,ht.sq,by rw[l.isEmpty]⟩)
 | lv ht n l=>cases e;exact .inl ⟨_,fV.of ht,by rw[l.isEmpty]⟩
 | ro ht l=>cases e;exact .inl ⟨_,ht.sq,by rw[l.isEmpty]⟩
 | dv ht n l=>cases e;exact .inr (.inr ⟨_,ht,by rw[l.isEmpty]⟩)
 | ob hn=>
  unfold xZ at e;rename_i a n;cases q:h[n]? with
  | none=>simp only[q] at e;cases e
  | some o=>
   have x:=S.at_ n a o hn q;cases o with
   | lst ds=>simp only[q] at e;cases e;obtain⟨vs,e1,l⟩:=x;exact .inl ⟨_,fV.of e1,by rw[l.isEmpty]⟩
   | dct ds=>simp only[q] at e;cases e;obtain⟨vs,e1,l⟩:=x;exact .inr (.inr ⟨_,e1,by rw[l.isEmpty]⟩)
   | dcH ds=>simp only[q] at e;cases e
   | exc c=>simp only[q] at e;cases e
theorem ux(ha:SE X a ma)(he:∀whole,isTrue a X.env whole=(do let v<-whole;standAt a.pos;holding [v] (truthy v)):=by intro _;ac_nf):ST X a (mx ma):=(Dd ha he).imp λσ H Q ⟨ρ,δ,h,c,h',R,S,e,k⟩=>by
 obtain⟨⟨x,h1⟩,e1,e2⟩:=bw e;obtain⟨c',e3,e4⟩:=gf e2;cases e4;exact⟨ρ,δ,h,x,h1,R,S,e1,λv H' ⟨ρ',T,S',r⟩=>⟨c,zo S' r e3,k ρ' H' T S'⟩⟩
end
mutual
noncomputable def GW:D->D->Bool
 | .bR,.bR=>true
 | .bl a,.bl b=>a==b
 | .int a,.int b=>a==b
 | .str a,.str b=>decide (a=b)
 | .ty a,.ty b=>a==b
 | .tup a,.tup b=>vW a b
 | .lv a,.lv b=>vW a b
 | .ro a,.ro b=>vW a b
 | .dv a,.dv b=>EH a b
 | .ob a,.ob b=>a==b
 | _,_=>false
noncomputable def vW:List D->List D->Bool
 | [],[]=>true
 | a::r,b::s=>GW a b&&vW r s
 | _,_=>false
noncomputable def EH:List (Key×D)->List (Key×D)->Bool
 | [],[]=>true
 |(k,a)::r,(j,b)::s=>decide (k=j)&&GW a b&&EH r s
 | _,_=>false
end
mutual
theorem Ar:∀(a b:D),GW a b=true->a=b
 | .bR,b,h=>by cases b <;> first | rfl |(cases h;done)
 | .bl x,b,h=>by cases b <;> first | exact congrArg _ (eq_of_beq h) |(cases h;done)
 | .int x,b,h=>by cases b <;> first | exact congrArg _ (eq_of_beq h) |(cases h;done)
 | .str x,b,h=>by cases b <;> first | exact congrArg _ (Qq h) |(cases h;done)
 | .ty x,b,h=>by cases b <;> first | exact congrArg _ (eq_of_beq h) |(cases h;done)
 | .ob x,b,h=>by cases b <;> first | exact congrArg _ (eq_of_beq h) |(cases h;done)
 | .tup x,b,h=>by cases b <;> first | exact congrArg _ (ie _ _ h) |(cases h;done)
 | .lv x,b,h=>by cases b <;> first | exact congrArg _ (ie _ _ h) |(cases h;done)
 | .ro x,b,h=>by cases b <;> first | exact congrArg _ (ie _ _ h) |(cases h;done)
 | .dv x,b,h=>by cases b <;> first | exact congrArg _ (vX _ _ h) |(cases h;done)
theorem ie:∀(a b:List D),vW a b=true->a=b
 | [],b,h=>by cases b <;> first | rfl |(cases h;done)
 | x::r,b,h=>by
  cases b with
  | nil=>cases h
  | cons y s=>have h:=Qc.mp h;rw[Ar _ _ h.1,ie _ _ h.2]
theorem vX:∀(a b:List (Key×D)),EH a b=true->a=b
 | [],b,h=>by cases b <;> first | rfl |(cases h;done)
 |(k,x)::r,b,h=>by
  cases b with
  | nil=>cases h
  | cons y s=>
   obtain⟨j,y⟩:=y;have h:=Qc.mp h;have g:=Qc.mp h.1;rw[Qq g.1,Ar _ _ g.2,vX _ _ h.2]
end
mutual
theorem t9:∀(a:D),GW a a=true
 | .bR=>rfl
 | .bl x=>Q5 x
 | .int x=>Q5 x
 | .str x=>Qj rfl
 | .ty x=>Q5 x
 | .ob x=>Q5 x
 | .tup x=>eQ x
 | .lv x=>eQ x
 | .ro x=>eQ x
 | .dv x=>ny x
theorem eQ:∀(a:List D),vW a a=true
 | []=>rfl
 | x::r=>Qc.mpr ⟨t9 x,eQ r⟩
theorem ny:∀(a:List (Key×D)),EH a a=true
 | []=>rfl
 |(k,x)::r=>Qc.mpr ⟨Qc.mpr ⟨Qj rfl,t9 x⟩,ny r⟩
end
noncomputable def EG:MO->MO->Bool
 | .lst a,.lst b=>vW a b
 | .dct a,.dct b=>EH a b
 | .dcH a,.dcH b=>vW (a.map (·.1)) (b.map (·.1))&&vW (a.map (·.2)) (b.map (·.2))
 | .exc a,.exc b=>decide (a=b)
 | _,_=>false
theorem wQ:∀{a b:List (D×D)},a.map (·.1)=b.map (·.1)->a.map (·.2)=b.map (·.2)->a=b
 | [],[],_,_=>rfl
 | [],_::_,h,_=>by cases h
 | _::_,[],h,_=>by cases h
 |(x,y)::a,(u,v)::b,h,g=>by
  obtain⟨h1,h2⟩:=List.cons.inj h;obtain⟨g1,g2⟩:=List.cons.inj g;dsimp only at h1 g1;rw[h1,g1,wQ h2 g2]
theorem Ap(h:EG a b=true):a=b:=by
 cases a <;> cases b <;> first |(cases h;done) | skip
 ·rw[ie _ _ h]
 ·rw[vX _ _ h]
 ·have h:=Qc.mp h;rw[wQ (ie _ _ h.1) (ie _ _ h.2)]
 ·rw[Qq h]
theorem t7(a:MO):EG a a=true:=by
 cases a with
 | lst x=>exact eQ x
 | dct x=>exact ny x
 | dcH x=>exact Qc.mpr ⟨eQ _,eQ _⟩
 | exc c=>exact Qj rfl
noncomputable def vY:MH->MH->Bool
 | [],[]=>true
 | a::r,b::s=>EG a b&&vY r s
 | _,_=>false
theorem Aq:∀{a b:MH},vY a b=true->a=b
 | [],b,h=>by cases b <;> first | rfl | simp[vY] at h
 | x::r,b,h=>by
  cases b with
  | nil=>simp[vY] at h
  | cons y s=>simp[vY] at h;rw[Ap h.1,Aq h.2]
noncomputable def bY:SM:=λδ h=>some (.nx,δ,h)
noncomputable def jY:SM:=λ_ _=>none
noncomputable def ar(a b:SM):SM:=λδ h=>(a δ h).bind λr=>match r.1 with
 | .nx=>b r.2.1 r.2.2
 | _=>some r
noncomputable def aR(i:Nat)(e:EM):SM:=λδ h=>(e δ h).bind λp=>some (.nx,δ.set i (some p.1),p.2)
noncomputable def fT(e:EM)(g:GM):SM:=λδ h=>(e δ h).bind λp=>(g p.1 δ p.2).bind λq=>some (.nx,q.1,q.2)
noncomputable def iu(e:EM):SM:=λδ h=>(e δ h).bind λp=>some (.nx,δ,p.2)
noncomputable def bc(e:EM):SM:=λδ h=>(e δ h).bind λp=>some (.rt p.1,δ,p.2)
noncomputable def fC(t:TM)(a b:SM):SM:=λδ h=>(t δ h).bind λp=>if p.1 then a δ p.2 else b δ p.2
noncomputable def gN(i:Nat):GM:=λd δ h=>some (δ.set i (some d),h)
abbrev E6:=List D->DS->MH->Option (DS×MH)
noncomputable def bZ:E6:=λds δ h=>match ds with
 | []=>some (δ,h)
 | _=>none
noncomputable def aA(g:GM)(u:E6):E6:=λds δ h=>match ds with
 | []=>none
 | d::r=>(g d δ h).bind λp=>u r p.1 p.2
noncomputable def gT(n:Nat)(u:E6):GM:=λd δ h=>match d with
 | .tup xs=>if xs.length=n then u xs δ h else none
 | _=>none
abbrev W:=List (Nat×MO)
abbrev IM:=DS->MH->Option (List D×W×MH)
noncomputable def lT:W->MH->Bool
 | [],_=>true
 |(n,o)::r,h=>(match h[n]? with | some u=>EG u o | none=>false)&&lT r h
noncomputable def jD(ws:W)(g:GM)(b:SM):List D->SM
 | [],δ,h=>if lT ws h then some (.nx,δ,h) else none
 | x::r,δ,h=>if lT ws h then(g x δ h).bind λq=>(b q.1 q.2).bind λz=>match z.1 with
  | .nx=>jD ws g b r z.2.1 z.2.2
  | .ct=>jD ws g b r z.2.1 z.2.2
  | .bk=>some (.nx,z.2.1,z.2.2)
  | .rt d=>some (.rt d,z.2.1,z.2.2)
  else none
noncomputable def gp(i:IM)(g:GM)(b:SM):SM:=λδ h=>(i δ h).bind λp=>jD p.2.1 g b p.1 δ p.2.2
section
variable {X:Cx} {a b c e tg iter:Expr} {es:List Expr} {st:Stmt} {sts rest:List Stmt} {pos:Pos} {ma mb:EM} {mt:TM} {ms mu:SM} {m:AM} {g:GM} {gs:E6}
theorem bx:BU X [] bY:=FK.imp λE σ H ⟨ρ,δ,h,fl,δ',h',R,S,e,k⟩=>by
 cases e;exact k ρ H (.refl _ _) S σ R
theorem gA:SS X st jY:=Dh.imp λE σ H ⟨ρ,δ,h,fl,δ',h',R,S,e,k⟩=>by cases e
theorem Iu(hh:G5 X.K (ar ms mu) E σ H):Lj (G5 X.K ms) (G5 X.K mu) E σ H:=by
 obtain⟨ρ,δ,h,fl,δ',h',R,S,e,k⟩:=hh;obtain⟨⟨f1,δ1,h1⟩,e1,e2⟩:=bw e;cases f1 with
 | nx=>exact⟨ρ,δ,h,.nx,δ1,h1,R,S,e1,λρ1 H1 T1 S1 σ' R'=>⟨ρ1,δ1,h1,fl,δ',h',R',S1,e2,λρ2 H2 T2 S2=>k ρ2 H2 (T1.trans T2) S2⟩⟩
 | bk=>cases e2;exact⟨ρ,δ,h,.bk,_,_,R,S,e1,λρ1 H1 T1 S1=>k ρ1 H1 T1 S1⟩
 | ct=>cases e2;exact⟨ρ,δ,h,.ct,_,_,R,S,e1,λρ1 H1 T1 S1=>k ρ1 H1 T1 S1⟩
 | rt d=>cases e2;exact⟨ρ,δ,h,.rt d,_,_,R,S,e1,λρ1 H1 T1 S1=>k ρ1 H1 T1 S1⟩
theorem ae(h1:SS X st ms)(h2:BU X rest mu):BU X (st::rest) (ar ms mu):=(wN h1 h2).imp λ_ _ _=>Iu
theorem aG(h1:SS X st ms):BU X [st] ms:=FJ h1
theorem CU(hh:G5 X.K (aR i ma) E σ H):Fe (tM X.K ma) (xm i) E σ H:=by
 obtain⟨ρ,δ,h,fl,δ',h',R,S,e,k⟩:=hh;obtain⟨⟨x,h1⟩,e1,e2⟩:=bw e;cases e2;exact⟨ρ,δ,h,x,h1,R,S,e1,λv H1 ⟨ρ1,T1,S1,r1⟩=>k ρ1 H1 T1 S1 _ ((R.mono T1).set r1 i)⟩
theorem HZ(hN:X.N.Nodup)(hi:X.N[i]?=some x)(hx:Loc X.env.scope x)(he:SE X e ma)(hs:swapsWith e (some (.Name x pos')) pos.line X.env=pure false:=by ac_nf)(hf:X.fn x=true\/X.env.scope.names.lookup x=some .local:=by first | exact .inl rfl | exact .inr rfl | assumption):SS X (.Assign [.Name x pos'] e pos) (aR i ma):=(yp hN hi hx he hs hf).imp λ_ _ _=>CU
theorem Fo(hN:X.N.Nodup)(hi:X.N[i]?=some x)(hx:Loc X.env.scope x)(hf:X.fn x=true\/X.env.scope.names.lookup x=some .local:=by first | exact .inl rfl | exact .inr rfl | assumption):SG X (.Name x pos) (gN i):=
 (F5 hN hi hx hf).imp λv σ H Q ⟨ρ,δ,h,d,δ',h',R,S,r,e,k⟩=>by
  cases e;exact k ρ H _ (.refl _ _) S (R.set r i)
inductive Hv(K:FR)(m:E6)(vs:List V)(σ:L2.St)(H:Hp)(Q:L2.St->Hp->Prop):Prop where
 | mk (ρ δ h ds δ' h'):b8 K ρ H σ δ->bF K ρ h H->aF K ρ H vs ds->(m ds δ h=some (δ',h'))->(∀ρ' H' σ',cM ρ H ρ' H'->bF K ρ' h' H'->b8 K ρ' H' σ' δ'->Q σ' H')->Hv K m vs σ H Q
noncomputable def NI(K:FR)(m:E6):Kw:=λvs σ H Q=>Hv K m vs σ H Q
def Nu(X:Cx)(es:List Expr)(m:E6):Prop:=HA X es (NI X.K m)
theorem _root_.L2.HA.imp{X:Cx}{e:List Expr}{t t':Kw}(h:HA X e t)(i:∀v σ H Q,t' v σ H Q->t v σ H Q):HA X e t':=λpins s σ H v u Q I r q=>h pins s σ H v u Q I r (i v σ H Q q)
theorem pf:Nu X [] bZ:=F4.imp λv σ H Q ⟨ρ,δ,h,d,δ',h',R,S,r,e,k⟩=>by
 cases r with
 | nil=>cases e;exact⟨rfl,k ρ H σ (.refl _ _) S R⟩
 | cons _ _=>cases e
theorem dP(h1:SG X e g)(h2:Nu X es gs)(hs:(assignEach (e::es) X.env).map (·.2)=assign e X.env::(assignEach es X.env).map (·.2):=by ac_nf):Nu X (e::es) (aA g gs):=(Dq h1 h2 hs).imp λv σ H Q ⟨ρ,δ,h,d,δ',h',R,S,r,e,k⟩=>by
 cases r with
 | nil=>cases e
 | cons r rs=>
  obtain⟨⟨δ1,h1⟩,e1,e2⟩:=bw e;exact⟨_,_,rfl,ρ,δ,h,_,δ1,h1,R,S,r,e1,λρ1 H1 σ1 T1 S1 R1=>⟨ρ1,δ1,h1,_,δ',h',R1,S1,rs.mono T1,e2,λρ2 H2 σ2 T2 S2 R2=>k ρ2 H2 σ2 (T1.trans T2) S2 R2⟩⟩
theorem uE(hc:X.calm=true)(h:Nu X es gs)(hn:(assignEach es X.env).length=n:=by ac_nf)(hst:(assignEach es X.env).findIdx? (·.1)=none:=by ac_nf):SG X (.Tuple es k0 pos) (gT n gs):=
 (IS hc h hn hst).imp λv σ H Q ⟨ρ,δ,h,d,δ',h',R,S,r,e,k⟩=>by
  cases r <;> first |(exact absurd e (by intro z;cases z)) | skip
  rename_i a vs ds ht l _;unfold gT at e;dsimp only at e
  by_cases z:ds.length=n
  ·rw[PL z] at e;exact⟨a,vs,rfl,ht.sq,by rw[l.length];exact z,ρ,δ,h,ds,δ',h',R,S,l,e,k⟩
  ·rw[P0 z] at e;cases e
theorem fG(he:SE X e ma)(hg:SG X tg g)(hs:swapsWithSole [tg] e pos.line X.env=pure false:=by ac_nf)(hw:swappedStores [tg] e X.env=pure none:=by ac_nf)
  (h1:(assignEach [tg] X.env).map (·.2)=[assign tg X.env]:=by ac_nf):SS X (.Assign [tg] e pos) (fT ma g):=(Dj he hg hs hw h1).imp λE σ H ⟨ρ,δ,h,fl,δ',h',R,S,e,k⟩=>by
 obtain⟨⟨x,h1⟩,e1,e2⟩:=bw e;obtain⟨⟨δ2,h2⟩,e4,e3⟩:=bw e2;cases e3;exact⟨ρ,δ,h,x,h1,R,S,e1,λv H1 ⟨ρ1,T1,S1,r1⟩=>⟨ρ1,δ,h1,x,_,_,R.mono T1,S1,r1,e4,λρ2 H2 σ2 T2 S2 R2=>k ρ2 H2 (T1.trans T2) S2 σ2 R2⟩⟩
theorem je(he:SE X e ma)(hs:swapsWith e none pos.line X.env=pure false:=by ac_nf):SS X (.Expr e pos) (iu ma):=(FO he hs).imp λE σ H ⟨ρ,δ,h,fl,δ',h',R,S,e,k⟩=>by
 obtain⟨⟨x,h1⟩,e1,e2⟩:=bw e;cases e2;exact⟨ρ,δ,h,x,h1,R,S,e1,λv H1 ⟨ρ1,T1,S1,r1⟩=>k ρ1 H1 T1 S1 σ (R.mono T1)⟩
theorem bG(he:SE X e ma):SS X (.Return (some e) pos) (bc ma):=(IK he).imp λE σ H ⟨ρ,δ,h,fl,δ',h',R,S,e,k⟩=>by
 obtain⟨⟨x,h1⟩,e1,e2⟩:=bw e;cases e2;exact⟨ρ,δ,h,x,h1,R,S,e1,λv H1 ⟨ρ1,T1,S1,r1⟩=>k ρ1 H1 T1 S1 v r1⟩
theorem bX(hc:ST X c mt)(ha:BU X sa ms)(hb:BU X sb mu):SS X (.If c sa sb pos) (fC mt ms mu):=(He hc ha hb).imp λE σ H ⟨ρ,δ,h,fl,δ',h',R,S,e,k⟩=>by
 obtain⟨⟨x,h1⟩,e1,e2⟩:=bw e;refine⟨ρ,δ,h,x,h1,R,S,e1,λρ1 H1 T1 S1=>?_⟩;cases x with
 | true=>rw[PL rfl] at e2 ⊢;exact⟨ρ1,δ,h1,fl,δ',h',R.mono T1,S1,e2,λρ2 H2 T2 S2=>k ρ2 H2 (T1.trans T2) S2⟩
 | false=>rw[P0 (by simp)] at e2 ⊢;exact⟨ρ1,δ,h1,fl,δ',h',R.mono T1,S1,e2,λρ2 H2 T2 S2=>k ρ2 H2 (T1.trans T2) S2⟩
structure K0(K:FR)(J:It)(ρ:Ad)(H:Hp)(ws:W)(xs:List D):Prop where
 run:∀ρ1 H1 h1,Ch ρ H ρ1 H1->bF K ρ1 h1 H1->lT ws h1=true->∀i:Nat,(xs.length<=i->J.stop i H1)/\∀x,xs[i]?=some x->J.go i H1/\∀v H2,J.G2 i H1 v H2->cM ρ1 H1 ρ1 H2/\bF K ρ1 h1 H2/\Rep K ρ1 H2 v x
inductive M1(K:FR)(m:IM)(σ:L2.St)(H:Hp)(R:It->Hp->Prop):Prop where
 | mk (ρ δ h xs ws h'):b8 K ρ H σ δ->bF K ρ h H->(m δ h=some (xs,ws,h'))->(∀J ρ1 H1,cM ρ H ρ1 H1->bF K ρ1 h' H1->K0 K J ρ1 H1 ws xs->R J H1)->M1 K m σ H R
def KO(K:FR)(m:IM):TI:=λσ H R=>M1 K m σ H R
def SI(X:Cx)(tg iter:Expr)(m:IM):Prop:=PI X tg iter (KO X.K m)
theorem _root_.L2.PI.imp(h:PI X tg e t)(i:∀σ H Q,t' σ H Q->t σ H Q):PI X tg e t':=λpins s σ H R I q=>h pins s σ H R I (i σ H R q)
theorem Iv(hh:G5 X.K (gp mi g ms) E σ H):Ls (KO X.K mi) (EY X.K g) (G5 X.K ms) E σ H:=by
 obtain⟨ρ,δ,h,fl,δ',h',R,S,e,k⟩:=hh;obtain⟨⟨xs,ws,h1⟩,e1,e2⟩:=bw e;refine⟨ρ,δ,h,xs,ws,h1,R,S,e1,λJ ρ1 H1 T1 S1 It=>?_⟩;refine⟨λi m σ2 H2=>∃ρ2 δ2 h2,m=xs.length-i/\i<=xs.length/\cM ρ1 H1 ρ2 H2/\b8 X.K ρ2 H2 σ2 δ2/\bF X.K ρ2 h2 H2/\jD ws g ms (xs.drop i) δ2 h2=some (fl,δ',h'),⟨_,ρ1,δ,h1,rfl,Rx _,.refl _ _,R.mono T1,S1,e2⟩,?_⟩;rintro i m σ2 H2 ⟨ρ2,δ2,h2,rfl,hi,T2,R2,S2,e3⟩;cases q:xs.drop i with
 | nil=>
  rw[q] at e3;unfold jD at e3
  by_cases hc:lT ws h2=true
  ·rw[PL hc] at e3;cases e3;have hl:xs.length<=i:=by have:=congrArg List.length q;rw[Q7,QJ] at this;lia
   exact .inl ⟨(It.run ρ2 H2 _ T2 S2 hc i).1 hl,k ρ2 H2 (T1.trans T2) S2 σ2 R2⟩
  ·rw[P0 hc] at e3;cases e3
 | cons x r=>
  rw[q] at e3;unfold jD at e3
  by_cases hc:lT ws h2=true
  ·rw[PL hc] at e3;have hx:xs[i]?=some x:=by
    have:=congrArg (λl=>l[0]?) q
    simpa using this
   have hlt:i < xs.length:=(PH.mp hx).1;have hr:xs.drop (i+1)=r:=by
    have:=congrArg List.tail q
    simpa using this
   obtain⟨⟨δ3,h3⟩,e4,e5⟩:=bw e3;obtain⟨⟨f4,δ4,h4⟩,e6,e7⟩:=bw e5;obtain⟨hgo,hy⟩:=(It.run ρ2 H2 h2 T2 S2 hc i).2 x hx;have NN:∀ρ5 H5 σ5,cM ρ2 H2 ρ5 H5->bF X.K ρ5 h4 H5->b8 X.K ρ5 H5 σ5 δ4->jD ws g ms r δ4 h4=some (fl,δ',h')->
     ∃m',m' < xs.length-i/\(∃ρ2 δ2 h2,m'=xs.length-(i+1)/\i+1<=xs.length/\cM ρ1 H1 ρ2 H5/\b8 X.K ρ2 H5 σ5 δ2/\bF X.K ρ2 h2 H5/\jD ws g ms (xs.drop (i+1)) δ2 h2=some (fl,δ',h')):=
    λρ5 H5 σ5 T5 S5 R5 e8=>⟨xs.length-(i+1),by lia,ρ5,δ4,h4,rfl,hlt,T2.trans T5,R5,S5,by rw[hr];exact e8⟩
   refine .inr ⟨hgo,λσ5 H5=>∃ρ5,cM ρ2 H2 ρ5 H5/\bF X.K ρ5 h4 H5/\b8 X.K ρ5 H5 σ5 δ4/\jD ws g ms r δ4 h4=some (fl,δ',h'),λσ5 H5 ⟨ρ5,T5,S5,R5,e8⟩=>NN ρ5 H5 σ5 T5 S5 R5 e8,λv H3 y3=>?_⟩;obtain⟨T3,S3,r3⟩:=hy v H3 y3;refine⟨ρ2,δ2,h2,x,δ3,h3,R2.mono T3,S3,r3,e4,λρ4 H4 σ4 T4 S4 R4=>?_⟩;refine⟨ρ4,δ3,h3,f4,δ4,h4,R4,S4,e6,λρ5 H5 T5 S5=>?_⟩;have T25:cM ρ2 H2 ρ5 H5:=T3.trans (T4.trans T5);cases f4 with
   | nx=>exactλσ' R'=>⟨ρ5,T25,S5,R',e7⟩
   | ct=>exactλσ' R'=>⟨ρ5,T25,S5,R',e7⟩
   | bk=>cases e7;exactλσ' R'=>k ρ5 H5 (T1.trans (T2.trans T25)) S5 σ' R'
   | rt d=>cases e7;exactλv r=>k ρ5 H5 (T1.trans (T2.trans T25)) S5 v r
  ·rw[P0 hc] at e3;cases e3
theorem cz(hp:PassesOwn (model X.prog X.w) X.A X.env X.xe)(hc:X.calm=true)(hi:SI X tg iter mi)(hg:SG X tg g)(hb:BU X body ms)(hs:∀x,foldedSetIterable iter X.env x=pure x:=by intro _;ac_nf):SS X (.For tg iter body [] pos) (gp mi g ms):=
 (IL hp hc hi hg hb hs).imp λ_ _ _=>Iv
end
end Sm
namespace L2
open PySem PySem.Spec PyProof.Rows
theorem IQ(hl:PE X l tl):PI X tg l (λσ H R=>tl σ H λx H1=>∃a,x=.ref a/\(((∃xs,fV X.K H1 a xs)/\R (OQ X.K a) H1)\/((∃xs,jB X.K H1 a xs)/\R (OP X.K a) H1))):=by
 intro pins s σ H R I h;refine cm (hl pins s σ H _ I h) λv s1 ⟨x,H1,I1,r1,q1⟩=>?_;obtain⟨a,e,q1⟩:=q1;subst e;cases r1;rcases q1 with⟨⟨xs,hq⟩,q⟩ |⟨⟨xs,hq⟩,q⟩
 ·obtain⟨its,rv,p,hz⟩:=I1.list hq;refine wpAny_pyIter_list p.isList ?_;refine⟨s1.heap.objs.size,[s1.heap.objs.size],_,_,H1,rfl,I1.kept (t':=s1.toks) λb o e=>PN _ e,AB a _,⟨_,Qk _ rfl,rfl,rfl⟩,λb hb=>?_,q⟩;have e:b=s1.heap.objs.size:=by simpa using hb
  subst e;exact I1.D2 (PJ _) (I1.ba.fresh (PJ _))
 ·obtain⟨its,rv,p,hz⟩:=I1.tuple hq;refine Sw (show s1.heap.IsTuple a its.toArray from p) ?_;refine⟨s1.heap.objs.size,[s1.heap.objs.size],_,_,H1,rfl,I1.kept (t':=s1.toks) λb o e=>PN _ e,xX a _,⟨_,Qk _ rfl,rfl,rfl⟩,λb hb=>?_,q⟩;have e:b=s1.heap.objs.size:=by simpa using hb
  subst e;exact I1.D2 (PJ _) (I1.ba.fresh (PJ _))
end L2
namespace Sm
open PySem L2
noncomputable def dE(d:D)(h:MH):Option (List D×W):=match d with
 | .lv xs=>some (xs,[])
 | .ro xs=>some (xs,[])
 | .tup xs=>some (xs,[])
 | .ob n=>match h[n]? with
  | some (.lst xs)=>some (xs,[(n,.lst xs)])
  | _=>none
 | _=>none
noncomputable def dc(e:EM):IM:=λδ h=>(e δ h).bind λp=>(dE p.1 p.2).map λq=>(q.1,q.2,p.2)
noncomputable def qT(m:AM):IM:=λδ h=>(m δ h).bind λp=>match p.1 with
 | [.int j]=>if -(2^62)<=j/\j < 2^62 then some ((List.range j.toNat).map λ(k:Nat)=>D.int (k:Int),[],p.2) else none
 | [.int i,.int j]=>if -(2^62)<=i/\i < 2^62/\-(2^62)<=j/\j < 2^62 then some ((List.range (j-i).toNat).map λ(k:Nat)=>D.int (i+(k:Int)),[],p.2) else none
 | _=>none
theorem yM(hl:∀ρ1 H1 h1,Ch ρ H ρ1 H1->bF K ρ1 h1 H1->lT ws h1=true->∃vs,aF K ρ1 H1 vs xs/\(∀i:Nat,vs.length<=i->J.stop i H1)/\∀(i:Nat) v,vs[i]?=some v->J.go i H1/\∀u H2,J.G2 i H1 u H2->H2=H1/\u=v):K0 K J ρ H ws xs:=by
 refine⟨λρ1 H1 h1 T S hc i=>?_⟩;obtain⟨vs,l,s1,s2⟩:=hl ρ1 H1 h1 T S hc;refine⟨λhi=>s1 i (by rw[l.length];exact hi),λx hx=>?_⟩;obtain⟨v,hv,r⟩:=l.got hx;obtain⟨g,y⟩:=s2 i v hv;refine⟨g,λu H2 yy=>?_⟩;obtain⟨rfl,rfl⟩:=y u H2 yy;exact⟨.refl _ _,S,r⟩
theorem JF(hl:∀ρ1 H1 h1,Ch ρ H ρ1 H1->bF K ρ1 h1 H1->lT ws h1=true->∃vs,aF K ρ1 H1 vs xs/\fV K H1 a vs):K0 K (OQ K a) ρ H ws xs:=
 yM λρ1 H1 h1 T S hc=>by
  obtain⟨vs,l,q⟩:=hl ρ1 H1 h1 T S hc;refine⟨vs,l,λi hi=>⟨vs,q,hi⟩,λi v hv=>⟨⟨vs,v,q,hv⟩,λu H2 ⟨e,y⟩=>⟨e,?_⟩⟩⟩;have:=y vs q;rw[hv] at this;exact(Option.some.inj this).symm
theorem JD(hl:∀ρ1 H1 h1,Ch ρ H ρ1 H1->bF K ρ1 h1 H1->lT ws h1=true->∃vs,aF K ρ1 H1 vs xs/\jB K H1 a vs):K0 K (OP K a) ρ H ws xs:=
 yM λρ1 H1 h1 T S hc=>by
  obtain⟨vs,l,q⟩:=hl ρ1 H1 h1 T S hc;refine⟨vs,l,λi hi=>⟨vs,q,hi⟩,λi v hv=>⟨⟨vs,v,q,hv⟩,λu H2 ⟨e,y⟩=>⟨e,?_⟩⟩⟩;have:=y vs q;rw[hv] at this;exact(Option.some.inj this).symm
theorem GQ(hc:lT [(n,o)] h=true):h[n]?=some o:=by
 unfold lT at hc;cases q:h[n]? with
 | none=>rw[q] at hc;cases hc
 | some u=>
  rw[q] at hc;simp[lT] at hc;rw[Ap hc]
inductive SeqAt(K:FR)(H:Hp)(a:Addr)(vs:List V):Bool->Prop where
 | l:fV K H a vs->SeqAt K H a vs true
 | t:jB K H a vs->SeqAt K H a vs false
noncomputable def yP:D->Bool
 | .tup _=>false
 | _=>true
theorem pS(S:bF K ρ h H)(r:Rep K ρ H v d)(e:dE d h=some (xs,ws)):∃a,v=.ref a/\(∃vs,SeqAt K H a vs (yP d)/\aF K ρ H vs xs)/\
  ∀ρ1 H1 h1,Ch ρ H ρ1 H1->bF K ρ1 h1 H1->lT ws h1=true->∃vs,aF K ρ1 H1 vs xs/\SeqAt K H1 a vs (yP d):=by
 cases r with
 | tup ht l=>
  cases e;refine⟨_,rfl,⟨_,.t ht.sq,l⟩,λρ1 H1 h1 T S1 _=>?_⟩;cases(Rep.tup ht l).mono T with
  | tup h1 l1=>exact⟨_,l1,.t h1.sq⟩
 | lv ht n l=>
  cases e;refine⟨_,rfl,⟨_,.l (fV.of ht),l⟩,λρ1 H1 h1 T S1 _=>?_⟩;cases(Rep.lv ht n l).mono T with
  | lv h1 _ l1=>exact⟨_,l1,.l (fV.of h1)⟩
 | ro ht l=>
  cases e;refine⟨_,rfl,⟨_,.l ht.sq,l⟩,λρ1 H1 h1 T S1 _=>?_⟩;cases(Rep.ro ht l).mono T with
  | ro h1 l1=>exact⟨_,l1,.l h1.sq⟩
 | @ob a n hn=>
  unfold dE at e;dsimp only at e;cases q:h[n]? with
  | none=>rw[q] at e;cases e
  | some o=>
   rw[q] at e;cases o with
   | dct _=>exact bV e
   | dcH _=>exact bV e
   | exc _=>exact bV e
   | lst ys=>
    cases e;obtain⟨vs,e1,l⟩:=S.at_ n a _ hn q;refine⟨a,rfl,⟨vs,.l (fV.of e1),l⟩,λρ1 H1 h1 T S1 hc=>?_⟩;obtain⟨us,e2,l2⟩:=S1.at_ n a _ (T.pre n a hn) (GQ hc);exact⟨us,l2,.l (fV.of e2)⟩
 | bR=>exact bV e
 | bl b=>exact bV e
 | int i=>exact bV e
 | str x=>exact bV e
 | ty x=>exact bV e
 | dv _ _ _=>exact bV e
section
variable {X:Cx} {a b c e tg iter:Expr} {es:List Expr} {pos:Pos} {ma mb:EM} {mt:TM} {ms mu:SM} {m:AM} {g:GM} {gs:E6}
theorem fh(h:SE X e ma):SI X tg e (dc ma):=(IQ h).imp λσ H Q ⟨ρ,δ,h,xs,ws,h',R,S,e,k⟩=>by
 obtain⟨⟨x,h1⟩,e1,e2⟩:=bw e;obtain⟨⟨ys,w⟩,e3,e4⟩:=gf e2;cases e4;refine⟨ρ,δ,h,x,h1,R,S,e1,λv H1 ⟨ρ1,T1,S1,r1⟩=>?_⟩;obtain⟨a,rfl,⟨vs,q,l⟩,st⟩:=pS S1 r1 e3;refine⟨a,rfl,?_⟩;generalize yP x=b at q st;cases q with
 | l q=>exact .inl ⟨⟨vs,q⟩,k _ ρ1 H1 T1 S1 (JF λρ2 H2 h2 T2 S2 hc=>by obtain⟨us,l2,q2⟩:=st ρ2 H2 h2 T2 S2 hc;cases q2 with | l q2=>exact⟨us,l2,q2⟩)⟩
 | t q=>exact .inr ⟨⟨vs,q⟩,k _ ρ1 H1 T1 S1 (JD λρ2 H2 h2 T2 S2 hc=>by obtain⟨us,l2,q2⟩:=st ρ2 H2 h2 T2 S2 hc;cases q2 with | t q2=>exact⟨us,l2,q2⟩)⟩
theorem mI:∀(ns:List Int),aF K ρ H (ns.map V.int) (ns.map D.int)
 | []=>.nil
 | _::r=>.cons (.int _) (mI r)
theorem JE(lo:Int)(n:Nat):K0 K (Nv lo n) ρ H [] ((List.range n).map λ(k:Nat)=>D.int (lo+(k:Int))):=by
 refine yM λρ1 H1 h1 T S hc=>⟨(List.range n).map λ(k:Nat)=>V.int (lo+(k:Int)),?_,λi hi=>?_,λi v hv=>?_⟩
 ·have:=mI (K:=K) (ρ:=ρ1) (H:=H1) ((List.range n).map λ(k:Nat)=>lo+(k:Int));rw[Ro,Ro] at this;exact this
 ·rw[PC,Qy] at hi;exact hi
 ·rw[P8] at hv;obtain⟨j,e1,e2⟩:=gf hv;obtain⟨hlt,e3⟩:=PH.mp e1;rw[Qy] at hlt;rw[List.getElem_range] at e3;subst e3;subst e2;exact⟨hlt,λu H2 ⟨p,q⟩=>⟨p,q⟩⟩
theorem AS(l:aF K ρ H vs [.int j]):vs=[.int j]:=by
 cases l with
 | cons r l=>cases l;cases r;rfl
theorem cW(hg:Gl X "range")(hm:X.mg "range"=none)(ha:SA X [a] m)(hs:starEach [a] X.env=[(false,eval a X.env)]:=by ac_nf)(hl:jG m 1):SI X tg (.Call (.Name "range" p) [a] [] pos) (qT m):=
 (AY hg hm ha hs).imp λσ H Q zz=>by
  obtain⟨ρ,δ,h,xs,ws,h',R,S,e,k⟩:=zz;obtain⟨⟨x,h1⟩,e1,e2⟩:=bw e;refine⟨ρ,δ,h,x,h1,R,S,e1,λvs ρ1 H1 T1 S1 r1=>?_⟩;obtain⟨d,rfl⟩:=RA.mp (hl _ _ _ _ e1);cases d <;> first | exact absurd e2 (by intro z;cases z) | skip
  rename_i j;dsimp only at e2
  by_cases z:-(2^62)<=j/\j < 2^62
  ·rw[PL z] at e2;cases e2;refine⟨j,AS r1,z.1,z.2,k _ ρ1 H1 T1 S1 ?_⟩;have:=JE (K:=X.K) (ρ:=ρ1) (H:=H1) 0 j.toNat
   simpa using this
  ·rw[P0 z] at e2;cases e2
noncomputable def cS(caps:List (Option Nat))(δ:DS):DS:=caps.map λo=>o.bind λi=>(δ[i]?).join
noncomputable def cx:TM:=λ_ h=>some (true,h)
noncomputable def cf(ws:W)(g:GM)(c:TM)(e:EM):List D->DS->MH->Option (List D×MH)
 | [],_,h=>if lT ws h then some ([],h) else none
 | x::r,δ,h=>if lT ws h then(g x δ h).bind λq=>(c q.1 q.2).bind λt=>if t.1 then(e q.1 t.2).bind λy=>(cf ws g c e r q.1 y.2).map λz=>(y.1::z.1,z.2) else cf ws g c e r q.1 t.2 else none
noncomputable def cZ(caps:List (Option Nat))(i:IM)(g:GM)(c:TM)(e:EM):AM:=λδ h=>(i δ h).bind λp=>(cf p.2.1 g c e p.1 (cS caps δ) p.2.2).bind λq=>if q.1.length<=sizeLine then some q else none
theorem b8.i3(R:b8 K ρ H σ δ)(caps:List (Option Nat)):b8 K ρ H (i3 caps σ) (cS caps δ):=by
 refine⟨by simp[L2.i3,cS],λi d hd=>?_⟩;unfold cS at hd;rw[P8] at hd;obtain⟨o,e1,e2⟩:=gf hd;cases o with
 | none=>exact bV e2
 | some j=>
  have e3:δ[j]?=some (some d):=Um.mp e2;obtain⟨v,ev,r⟩:=R.at_ j d e3;refine⟨v,?_,r⟩;unfold L2.i3;rw[P8,e1];simp[ev]
def Ky(X:Cx)(ifs:List Expr)(m:TM):Prop:=ER X ifs (BX X.K m)
theorem cV:Ky X [] cx:=λpins s σ H Q I hh=>by
 obtain⟨ρ,δ,h,b,h',R,S,e,k⟩:=hh;cases e;exact F2 pins s σ H Q I (k ρ H (.refl _ _) S)
theorem uD(h:ST X c mt):Ky X [c] mt:=F1 h
theorem zB(hh:tM X.K (eL (cZ caps mi g mt ma)) σ H Q):Cu caps (KO X.K mi) (EY X.K g) (BX X.K mt) (tM X.K ma) σ H Q:=by
 obtain⟨ρ,δ,h,d,h',R,S,ee,k⟩:=hh;obtain⟨⟨out,h0⟩,ea,e0⟩:=gf ee;cases e0;obtain⟨⟨xs,ws,h1⟩,e1,eb⟩:=bw ea;obtain⟨⟨ys,h2⟩,e2,e3⟩:=bw eb;dsimp only at e2 e3
 by_cases hz:ys.length<=sizeLine
 ·rw[PL hz] at e3;cases e3;refine⟨ρ,δ,h,xs,ws,h1,R,S,e1,λJ ρ1 H1 T1 S1 It l hl=>?_⟩;have nl:¬ρ1.has l:=S1.fresh hl;have Tl:Ch ρ1 H1 (ρ1.keep l) (upd H1 l (.lst [])):=Ch.keep hl;refine⟨λi m τ2 H2=>∃(ob2:List Addr)(δ2:DS)(h2:MH)(vs:List V)(as bs:List D),m=xs.length-i/\i<=xs.length/\Ch ρ1 H1 ⟨ob2,l::ρ1.rs⟩ H2/\(∀b∈ρ1.rs,H2 b=H1 b)/\b8 X.K ⟨ob2,l::ρ1.rs⟩ H2 τ2 δ2/\bF X.K ⟨ob2,l::ρ1.rs⟩ h2 H2/\
    H2 l=some (.lst vs)/\aF X.K ⟨ob2,l::ρ1.rs⟩ H2 vs as/\out=as++bs/\cf ws g mt ma (xs.drop i) δ2 h2=some (bs,h0),
   ⟨_,ρ1.ob,cS caps δ,h1,[],[],out,rfl,Rx _,Tl,λb hb=>ay λz=>nl (.inr (z ▸ hb)),((R.mono T1).i3 caps).mono Tl,S1.keep hl,aP,.nil,rfl,e2⟩,?_⟩
  rintro i m τ2 H2 ⟨ob2,δ2,h2,vs,as,bs,rfl,hi,T2,rs2,R2,S2,hl2,l2,eo,e3⟩;have hsub:∀b∈ρ1.rs,b∈l::ρ1.rs:=λb hb=>PV _ hb;have C2:Ch ⟨ob2,l::ρ1.rs⟩ H2 ⟨ob2,ρ1.rs⟩ H2:=Ch.free hsub;have T2':cM ρ1 H1 ⟨ob2,ρ1.rs⟩ H2:=⟨T2.trans C2,rfl,rs2⟩;have S2':bF X.K ⟨ob2,ρ1.rs⟩ h2 H2:=S2.free hsub;cases q:xs.drop i with
  | nil=>
   rw[q] at e3;unfold cf at e3
   by_cases hc:lT ws h2=true
   ·rw[PL hc] at e3;cases e3;rw[QD] at eo;subst eo;have hle:xs.length<=i:=by have:=congrArg List.length q;rw[Q7,QJ] at this;lia
    refine .inl ⟨(It.run _ H2 _ T2 S2 hc i).1 hle,k _ _ ⟨_,T1.trans T2',S2',.lv hl2 (λz=>?_) (l2.mono C2)⟩⟩;rcases z with z | z
    ·exact(S2.rV l PQ).2 z
    ·exact nl (.inr z)
   ·rw[P0 hc] at e3;cases e3
  | cons x r=>
   rw[q] at e3;unfold cf at e3
   by_cases hc:lT ws h2=true
   ·rw[PL hc] at e3;have hx:xs[i]?=some x:=by
     have:=congrArg (λl=>l[0]?) q
     simpa using this
    have hlt:i < xs.length:=(PH.mp hx).1;have hr:xs.drop (i+1)=r:=by
     have:=congrArg List.tail q
     simpa using this
    obtain⟨⟨δ3,h3⟩,e4,e5⟩:=bw e3;obtain⟨⟨t,h4⟩,e6,e7⟩:=bw e5;dsimp only at e4 e5 e6 e7;obtain⟨hgo,hy⟩:=(It.run _ H2 h2 T2 S2 hc i).2 x hx;refine .inr ⟨hgo,λτ5 H5=>∃(ob5:List Addr)(h5:MH)(vs:List V)(as bs:List D),Ch ρ1 H1 ⟨ob5,l::ρ1.rs⟩ H5/\(∀b∈ρ1.rs,H5 b=H1 b)/\b8 X.K ⟨ob5,l::ρ1.rs⟩ H5 τ5 δ3/\bF X.K ⟨ob5,l::ρ1.rs⟩ h5 H5/\
     H5 l=some (.lst vs)/\aF X.K ⟨ob5,l::ρ1.rs⟩ H5 vs as/\out=as++bs/\cf ws g mt ma r δ3 h5=some (bs,h0),?_,?_⟩
    ·rintro τ5 H5 ⟨ob5,h5,vs5,as5,bs5,T5,rs5,R5,S5,hl5,l5,eo5,e5⟩;exact⟨xs.length-(i+1),by lia,ob5,δ3,h5,vs5,as5,bs5,rfl,hlt,T5,rs5,R5,S5,hl5,l5,eo5,by rw[hr];exact e5⟩
    ·intro v H3 y3;obtain⟨T3,S3,r3⟩:=hy v H3 y3;refine⟨⟨ob2,l::ρ1.rs⟩,δ2,h2,x,δ3,h3,R2.mono T3,S3,r3,e4,λρ4 H4 τ4 T4 S4 R4=>?_⟩;refine⟨ρ4,δ3,h3,t,h4,R4,S4,e6,λρ5 H5 T5 S5=>?_⟩;have T25:cM ⟨ob2,l::ρ1.rs⟩ H2 ρ5 H5:=T3.trans (T4.trans T5);obtain⟨ob5,rs5⟩:=ρ5;have ers:rs5=l::ρ1.rs:=T25.rs;subst ers;cases t with
     | false=>
      rw[P0 (by simp)] at e7;refine JH ?_;exact⟨ob5,h4,vs,as,bs,T2.trans T25.toCh,λb hb=>(T25.res b (hsub b hb)).trans (rs2 b hb),R4.mono T5,S5,(T25.res l PQ).trans hl2,l2.mono T25.toCh,eo,e7⟩
     | true=>
      rw[PL rfl] at e7;refine JG ?_;obtain⟨⟨y,h6⟩,e8,e9⟩:=bw e7;obtain⟨⟨zs,h7⟩,e10,e11⟩:=gf e9;cases e11;refine⟨⟨ob5,l::ρ1.rs⟩,δ3,h4,y,h6,R4.mono T5,S5,e8,λu H6 ⟨ρ6,T6,S6,r6⟩=>?_⟩;have T26:cM ⟨ob2,l::ρ1.rs⟩ H2 ρ6 H6:=T25.trans T6;obtain⟨ob6,rs6⟩:=ρ6;have ers:rs6=l::ρ1.rs:=T26.rs;subst ers;have hl6:H6 l=some (.lst vs):=(T26.res l PQ).trans hl2;have hml:l∈(⟨ob6,l::ρ1.rs⟩:Ad).rs:=PQ;have hlen:vs.length < sizeLine:=by
       have h1:=l2.length;have h2:=congrArg List.length eo;rw[PR,P1] at h2
       lia
      have Cp:Ch ⟨ob6,l::ρ1.rs⟩ H6 ⟨ob6,l::ρ1.rs⟩ (upd H6 l (.lst (vs++[u]))):=Ch.put hml;refine⟨vs,hl6,hlen,ob6,h6,vs++[u],as++[y],zs,(T2.trans T26.toCh).trans Cp,λb hb=>?_,((R4.mono T5.toCh).mono T6.toCh).mono Cp,S6.put hml,aP,((l2.mono T26.toCh).snoc r6).mono Cp,by rw[eo];simp,e10⟩;rw[ay (λ(z:b=l)=>nl (.inr (z ▸ hb)))];exact(T26.res b (hsub b hb)).trans (rs2 b hb)
   ·rw[P0 hc] at e3;cases e3
 ·rw[P0 hz] at e3;cases e3
end
end Sm
namespace Sm
open PySem L2 PySem.Spec PyProof.Rows
section
variable {X:Cx} {a b c e tg iter elt:Expr} {es:List Expr} {pos:Pos} {ma mb:EM} {mt:TM} {ms mu:SM} {m:AM} {g:GM} {gs:E6}
theorem fY(C:bj X N' caps scope)(hc:X.calm=true)(hi:SI X tg iter mi)(hg:∀C s₃ H₃ fp pl,SG (fU X N' scope C s₃ H₃ fp pl) tg g)(hif:∀C s₃ H₃ fp pl,Ky (fU X N' scope C s₃ H₃ fp pl) ifs mt)(he:∀C s₃ H₃ fp pl,SE (fU X N' scope C s₃ H₃ fp pl) elt ma)(hs:∀x,foldedSetIterable iter X.env x=pure x:=by intro _;ac_nf):
  SE X (.ListComp elt [⟨tg,iter,ifs,0⟩] scope pos) (eL (cZ caps mi g mt ma)):=(Du (g:=EY X.K g) (tc:=BX X.K mt) (te:=tM X.K ma) C hc hi hg hif he hs).imp λ_ _ _=>zB
theorem jf(hN:X.N.Nodup)(hi':X.N[i]?=some y)(hy:X.env.scope.names.lookup y=some .local)(C:bj X N' caps scope)(hc:X.calm=true)(hi:SI X tg iter mi)(hg:∀C s₃ H₃ fp pl,SG (fU X N' scope C s₃ H₃ fp pl) tg g)(hif:∀C s₃ H₃ fp pl,Ky (fU X N' scope C s₃ H₃ fp pl) ifs mt)(he:∀C s₃ H₃ fp pl,SE (fU X N' scope C s₃ H₃ fp pl) elt ma)(hsw:swapsWith (.ListComp elt [⟨tg,iter,ifs,0⟩] scope pos) (some (.Name y py)) spos.line X.env=pure true:=by ac_nf)(hs:∀x,foldedSetIterable iter X.env x=pure x:=by intro _;ac_nf):
  SS X (.Assign [.Name y py] (.ListComp elt [⟨tg,iter,ifs,0⟩] scope pos) spos) (aR i (eL (cZ caps mi g mt ma))):=
 (Di (g:=EY X.K g) (tc:=BX X.K mt) (te:=tM X.K ma) hN hi' hy C hc hi hg hif he hsw hs).imp λE σ H hh=>by
  have q:=CU hh;exact zB q
end
inductive M7(K:FR)(n:Nat)(F:Fn)(vs:List V)(H:Hp)(Q:VK):Prop where
 | mk (ρ h ds d h'):bF K ρ h H->aF K ρ H vs ds->(ds.length=n)->(F ds h=some (d,h'))->(∀v H',cT K ρ H h' d v H'->Q v H')->M7 K n F vs H Q
def AK(K:FR)(n:Nat)(F:Fn):Sp:=λvs H Q _=>M7 K n F vs H Q
theorem Fw(G:dY X.prog X.w X.K X.mg X.base mm k f fd ps (AK X.K n F))(hr:cD k X.A)(hg:Gl X x)(hm:X.mg x=some (.ref f))(hk:PySem.W.keepIn X.K (.ref f)=true)(hb:Binds X.K fd ps [])
  (ha:SA X (e::es) m) (hl:jG m n) (hdb:(x==("__debug__":Str))=false:=by ac_nf) (he:starEach (e::es) X.env=(false,eval e X.env)::starEach es X.env:=by ac_nf) (hpl:(backTo pos (starEach es X.env)).any (·.1)=false:=by ac_nf):
  SE X (.Call (.Name x p) (e::es) [] pos) (ak F m):=(zL (E:=E0) G hr hg hm hk hb .nil L8 ha hdb he hpl).imp λσ H Q ⟨ρ,δ,h,d,h',R,S,e,q⟩=>by
 obtain⟨⟨ds,h1⟩,e1,e2⟩:=bw e;refine⟨ρ,δ,h,ds,h1,R,S,e1,λvs ρ1 H1 T1 S1 r1=>?_⟩;show AK X.K n F (vs++[]) H1 Q E0;rw[QD];exact⟨ρ1,h1,ds,d,h',S1,r1,hl _ _ _ _ e1,e2,λv H' P=>q v H' (P.step T1)⟩
noncomputable def r8(r:Fl×DS×MH):Option (D×MH):=match r.1 with
 | .rt d=>some (d,r.2.2)
 | .nx=>some (.bR,r.2.2)
 | _=>none
noncomputable def entry(len:Nat)(ds:List D):DS:=ds.map some++List.replicate (len-ds.length) none
noncomputable def jm(len:Nat)(body:SM):Fn:=λds h=>(body (entry len ds) h).bind r8
theorem b8.entry{K:FR}{ρ:Ad}{H:Hp}{vs:List V}{ds:List D}(N:List Str)(l:aF K ρ H vs ds):b8 K ρ H (L2.start N vs) (Sm.entry N.length ds):=by
 refine⟨by simp[L2.start,Sm.entry,l.length],λi d hd=>?_⟩;unfold Sm.entry at hd;unfold L2.start
 by_cases hi:i < ds.length
 ·rw[PU (by simpa using hi),P8] at hd;obtain⟨d',e1,e2⟩:=gf hd;cases e2;obtain⟨v,ev,r⟩:=l.got e1;refine⟨v,?_,r⟩;rw[PU (by rw[PC,l.length];exact hi),P8,ev];rfl
 ·rw[P9 (by simpa using hi),SF] at hd
  split at hd <;> cases hd
section
variable {P:Program} {w:World} {K:FR} {mg:Str->Option Value} {base:Heap} {x qual:Str} {st:Stmt} {f:Addr} {fd:FuncData} {N ps:List Str} {k:Nat}
theorem JM(F:rW K x qual st f fd)(Sc:aE N ps (ah st))(hb:∀(cdv:Value)(A:Around)(outer:List Env)(s:Shared)(H:Hp)(E:XK),cD k (A.deeper (envOfC qual (ah st) s.heap.objs.size f cdv))->BU (eN mm P w K mg base N qual (ah st) f cdv A outer s H E).DK (cY st) body):
  dY P w K mg base mm (k+1) f fd ps (AK K ps.length (jm N.length body)):=by
 refine F.ok Sc (λvs H Q E h=>?_) (λcdv A outer s H vs Q E hr h=>?_)
 ·obtain⟨ρ,h,ds,d,h',S,r,hl,_⟩:=h;rw[r.length];exact hl
 ·obtain⟨ρ,h,ds,d,h',S,r,hl,e,q⟩:=h;refine⟨_,hb cdv A outer s H E hr,?_⟩;obtain⟨⟨fl,δ1,h1⟩,e1,e2⟩:=bw e;refine⟨ρ,entry N.length ds,h,fl,δ1,h1,b8.entry N r,S,e1,λρ1 H1 T1 S1=>?_⟩;cases fl with
  | nx=>cases e2;exactλσ' R'=>q _ _ ⟨ρ1,T1,S1,.bR⟩
  | rt d=>cases e2;exactλv r=>q _ _ ⟨ρ1,T1,S1,r⟩
  | bk=>cases e2
  | ct=>cases e2
end
mutual
noncomputable def gu(n:Nat):D->Bool
 | .tup xs=>fc n xs
 | .lv xs=>fc n xs
 | .ro xs=>fc n xs
 | .dv kvs=>GP n kvs
 | .ob m=>decide (m < n)
 | _=>true
noncomputable def fc(n:Nat):List D->Bool
 | []=>true
 | x::r=>gu n x&&fc n r
noncomputable def GP(n:Nat):List (Key×D)->Bool
 | []=>true
 |(_,x)::r=>gu n x&&GP n r
end
noncomputable def xQ(n:Nat):MO->Bool
 | .lst xs=>fc n xs
 | .dct kvs=>GP n kvs
 | .dcH kvs=>fc n (kvs.map (·.1))&&fc n (kvs.map (·.2))
 | .exc _=>true
abbrev Ad.cut(ρ:Ad)(n:Nat):Ad:=⟨ρ.ob.take n,ρ.rs⟩
theorem Ad.jA{ρ:Ad}{n:Nat}{a:Addr}(h:(ρ.cut n).has a):ρ.has a:=h.elim (λm=>.inl (S9 m)) .inr
mutual
theorem Rep.cut{K:FR}{ρ:Ad}{H:Hp}{n:Nat}{v:V}{d:D}(r:Rep K ρ H v d)(c:gu n d=true):Rep K (ρ.cut n) H v d:=by
 cases r with
 | bR=>exact .bR
 | bl b=>exact .bl b
 | int i=>exact .int i
 | str x=>exact .str x
 | ty n=>exact .ty n
 | tup h l=>exact .tup (h.elim (λ⟨a,n⟩=>.inl ⟨a,λm=>n (Ad.jA m)⟩) .inr) (aF.cut l c)
 | lv h n l=>exact .lv h (λm=>n (Ad.jA m)) (aF.cut l c)
 | ro h l=>exact .ro (h.elim (λ⟨a,n⟩=>.inl ⟨a,λm=>n (Ad.jA m)⟩) .inr) (aF.cut l c)
 | dv h n l=>exact .dv h (λm=>n (Ad.jA m)) (bD.cut l c)
 | ob e=>exact .ob ((Qp (Qq c)).trans e)
theorem aF.cut{K:FR}{ρ:Ad}{H:Hp}{n:Nat}{v:List V}{d:List D}(r:aF K ρ H v d)(c:fc n d=true):aF K (ρ.cut n) H v d:=by
 cases r with
 | nil=>exact .nil
 | cons r l=>have c:=Qc.mp c;exact .cons (Rep.cut r c.1) (aF.cut l c.2)
theorem bD.cut{K:FR}{ρ:Ad}{H:Hp}{n:Nat}{v:List (Key×V)}{d:List (Key×D)}(r:bD K ρ H v d)(c:GP n d=true):bD K (ρ.cut n) H v d:=by
 cases r with
 | nil=>exact .nil
 | cons r l=>have c:=Qc.mp c;exact .cons (Rep.cut r c.1) (bD.cut l c.2)
end
mutual
theorem Rep.clean{K:FR}{ρ:Ad}{H:Hp}{v:V}{d:D}(r:Rep K ρ H v d):gu ρ.ob.length d=true:=by
 cases r with
 | tup h l=>exact aF.clean l
 | lv h n l=>exact aF.clean l
 | ro h l=>exact aF.clean l
 | dv h n l=>exact bD.clean l
 | ob e=>exact Qj (PH.mp e).1
 | _=>rfl
theorem aF.clean{K:FR}{ρ:Ad}{H:Hp}{v:List V}{d:List D}(r:aF K ρ H v d):fc ρ.ob.length d=true:=by
 cases r with
 | nil=>rfl
 | cons r l=>exact Qc.mpr ⟨Rep.clean r,aF.clean l⟩
theorem bD.clean{K:FR}{ρ:Ad}{H:Hp}{v:List (Key×V)}{d:List (Key×D)}(r:bD K ρ H v d):GP ρ.ob.length d=true:=by
 cases r with
 | nil=>rfl
 | cons r l=>exact Qc.mpr ⟨Rep.clean r,bD.clean l⟩
end
theorem Av.cut{K:FR}{ρ:Ad}{H:Hp}{n:Nat}{a:Addr}{o:MO}(x:Av K ρ H a o)(c:xQ n o=true):Av K (ρ.cut n) H a o:=by
 cases o with
 | lst ds=>obtain⟨vs,e,l⟩:=x;exact⟨vs,e,l.cut c⟩
 | dct ds=>obtain⟨vs,e,l⟩:=x;exact⟨vs,e,l.cut c⟩
 | dcH ds=>obtain⟨us,ps,e,l,l2,p⟩:=x;have c:=Qc.mp c;exact⟨us,ps,e,l.cut c.1,l2.cut c.2,p⟩
 | exc _=>exact x
theorem Av.clean{K:FR}{ρ:Ad}{H:Hp}{a:Addr}{o:MO}(x:Av K ρ H a o):xQ ρ.ob.length o=true:=by
 cases o with
 | lst ds=>obtain⟨vs,e,l⟩:=x;exact l.clean
 | dct ds=>obtain⟨vs,e,l⟩:=x;exact l.clean
 | dcH ds=>obtain⟨us,ps,e,l,l2,p⟩:=x;exact Qc.mpr ⟨l.clean,l2.clean⟩
 | exc _=>rfl
noncomputable def x5(n:Nat)(h:MH)(d:D):D:=match d with
 | .ob m=>if m < n then .ob m else match h[m]? with
  | some (.lst xs)=>.lv xs
  | some (.dct kvs)=>.dv kvs
  | _=>.ob m
 | d=>d
noncomputable def leave(h:MH)(d:D)(h':MH):Option (D×MH):=
 if gu h.length (x5 h.length h' d)&&(vY (h'.take h.length) h||(h'.take h.length).all (xQ h.length)) then some (x5 h.length h' d,h'.take h.length) else none
noncomputable def Hi(len:Nat)(body:SM):Fn:=λds h=>((body (entry len ds) h).bind r8).bind λp=>leave h p.1 p.2
theorem cT.leave{K:FR}{ρ:Ad}{H H':Hp}{h h1 h':MH}{d d':D}{v:V}(S:bF K ρ h H)(p:cT K ρ H h1 d v H')(e:Sm.leave h d h1=some (d',h')):cT K ρ H h' d' v H':=by
 obtain⟨ρ1,T,S1,r⟩:=p;unfold Sm.leave at e
 by_cases hc:(gu h.length (x5 h.length h1 d)&&(vY (h1.take h.length) h||(h1.take h.length).all (xQ h.length)))=true
 ·rw[PL hc] at e;cases e;rw[Qm] at hc;obtain⟨c1,c2⟩:=hc;have hle:h.length<=h1.length:=by
   rw[<-S.len,<-S1.len];refine Q6 λhlt=>?_;have e1:ρ.ob[ρ1.ob.length]?=some ρ.ob[ρ1.ob.length]:=P7 hlt;have:=(PH.mp (T.pre _ _ e1)).1
   lia
  have hall:∀(m:Nat) o,m < h.length->h1[m]?=some o->xQ h.length o=true:=by
   intro m o hm ho;rw[Rl] at c2;rcases c2 with c2 | c2
   ·have e1:=Aq c2;have e2:h[m]?=some o:=by rw[<-e1,Qp hm];exact ho
    have hm':m < ρ.ob.length:=by rw[S.len];exact hm
    have:=(S.at_ m _ o (P7 hm') e2).clean;rw[S.len] at this;exact this
   ·rw[R9] at c2;exact c2 o (PF (show(h1.take h.length)[m]?=some o by rw[Qp hm];exact ho))
  have Sc:bF K (ρ1.cut h.length) (h1.take h.length) H':=by
   refine⟨by simp[S1.len],S1.nd.sublist (Tw _ _),λn a o e1 e2=>?_,λb hb=>⟨(S1.rV b hb).1,λm=>(S1.rV b hb).2 (S9 m)⟩,λP t=>⟨λz=>(S1.tb P t).1 (Ad.jA z),(S1.tb P t).2⟩⟩;have hn:n < h.length:=by
    have:=(PH.mp e2).1;rw[Qb] at this
    lia
   have e1:(ρ1.ob.take h.length)[n]?=some a:=e1;rw[Qp hn] at e1 e2;exact(S1.at_ n a o e1 e2).cut (hall n o hn e2)
  refine⟨ρ1.cut h.length,⟨⟨λn a e=>?_,λb o n e=>?_⟩,T.rs,T.res⟩,Sc,?_⟩
  ·have hn:n < h.length:=by rw[<-S.len];exact(PH.mp e).1
   show(ρ1.ob.take h.length)[n]?=some a;rw[Qp hn];exact T.pre n a e
  ·obtain⟨n1,e1⟩:=T.old b o n e;exact⟨λm=>n1 (Ad.jA m),e1⟩
  ·cases d with
   | ob m=>
    unfold x5 at c1 ⊢;dsimp only at c1 ⊢
    by_cases hm:m < h.length
    ·rw[PL hm] at c1 ⊢;exact r.cut c1
    ·rw[P0 hm] at c1 ⊢;cases r with
     | ob hn=>
      rename_i a;have na:¬(ρ1.cut h.length).has a:=by
       intro z;rcases z with z | z
       ·obtain⟨j,hj⟩:=Ta z;have hj1:j < h.length:=by
         have:=(PH.mp hj).1;rw[Qb] at this
         lia
        rw[Qp hj1] at hj;have:=(UZ (PH.mp hj).1 S1.nd).mp (hj.trans hn.symm)
        lia
       ·exact(S1.rV a z).2 (PF hn)
      cases q:h1[m]? with
      | none=>rw[q] at c1;exact absurd c1 (by simp[gu];lia)
      | some o=>
       have x:=S1.at_ m a o hn q;cases o with
       | lst xs=>
        rw[q] at c1;obtain⟨vs,e1,l⟩:=x;exact .lv e1 na (l.cut (by simpa [gu] using c1))
       | dct xs=>
        rw[q] at c1;obtain⟨vs,e1,l⟩:=x;exact .dv e1 na (l.cut (by simpa [gu] using c1))
       | dcH xs=>rw[q] at c1;exact absurd c1 (by simp[gu];lia)
       | exc _=>rw[q] at c1;exact absurd c1 (by simp[gu];lia)
   | _=>exact r.cut c1
 ·rw[P0 hc] at e;cases e
section
variable {P:Program} {w:World} {K:FR} {mg:Str->Option Value} {base:Heap} {x qual:Str} {st:Stmt} {f:Addr} {fd:FuncData} {N ps:List Str} {k:Nat}
theorem gP(G:dY P w K mg base mm k f fd ps (AK K ps.length (jm N.length body))):dY P w K mg base mm k f fd ps (AK K ps.length (Hi N.length body)):=by
 refine G.imp λvs H Q E hh=>?_;obtain⟨ρ,h,ds,d,h',S,r,hl,e,q⟩:=hh;obtain⟨⟨d1,h1⟩,e1,e2⟩:=bw e;exact⟨ρ,h,ds,d1,h1,S,r,hl,e1,λv H' p=>q v H' (p.leave S e2)⟩
end
def spT(K:FR):Sp:=λvs H Q _=>∃(a:Addr)(ns:List Int),vs=[.ref a]/\fV K H a (ns.map V.int)/\ns.length<=63/\(∀b,gV K b->H b=some .tb)/\∀H',(∀b,gV K b->H' b=some .tb)->Q (.bl true) H'
theorem Gq{P:Program}{w:World}{K:FR}{mg:Str->Option Value}{base:Heap}{k:Nat}{f:Addr}{fd:FuncData}{ps:List Str}{F:Fn}(G:dY P w K mg base mm k f fd ps (AK K 1 F))
  (hF:∀ns:List Int,ns.length<=63->∃h',F [.ro (ns.map D.int)] []=some (.bl true,h')):dY P w K mg base mm k f fd ps (spT K):=by
 refine G.imp λvs H Q E hh=>?_;obtain⟨a,ns,rfl,ha,hl,ht,q⟩:=hh;obtain⟨h',e⟩:=hF ns hl;refine⟨⟨[],[]⟩,[],[.ro (ns.map D.int)],.bl true,h',⟨rfl,List.nodup_nil,λn a o e=>by simp at e,λb hb=>absurd hb (by simp),λP t=>⟨λz=>z.elim (λz=>absurd z (by simp)) λz=>absurd z (by simp),ht P t⟩⟩,.cons (.ro ?_ (mI ns)) .nil,rfl,e,λv H' ⟨ρ',T,S,r⟩=>?_⟩
 ·rcases ha with ha | ha
  ·exact .inl ⟨ha,λz=>z.elim (λz=>absurd z (by simp)) λz=>absurd z (by simp)⟩
  ·exact .inr (.inr ha)
 ·cases r;exact q H' λb t=>(S.tb b t).2
noncomputable def zD(h:MH)(d:D):Option PyData:=match d with
 | .ob n=>match h[n]? with
  | some (.lst xs)=>(nS xs).map .list
  | _=>none
 | d=>xP d
mutual
theorem Rep.sr{K:FR}{ρ:Ad}{H:Hp}{v:V}{d:D}{p:PyData}(r:Rep K ρ H v d)(e:xP d=some p):B4 K H v p/\p.canLay0=true:=by
 cases r with
 | bR=>cases e;exact⟨.bR,rfl⟩
 | bl b=>cases e;exact⟨.bl b,rfl⟩
 | int i=>cases e;exact⟨.int i,rfl⟩
 | str hs=>cases e;exact⟨.str _,by simpa [PyData.canLay0] using hs⟩
 | tup h l=>obtain⟨q,e1,rfl⟩:=gf e;obtain⟨a,b⟩:=aF.sr l e1;exact⟨.tup h.sq a,by simpa [PyData.canLay0] using b⟩
 | lv h n l=>obtain⟨q,e1,rfl⟩:=gf e;obtain⟨a,b⟩:=aF.sr l e1;exact⟨.lst (fV.of h) a,by simpa [PyData.canLay0] using b⟩
 | ro h l=>obtain⟨q,e1,rfl⟩:=gf e;obtain⟨a,b⟩:=aF.sr l e1;exact⟨.lst h.sq a,by simpa [PyData.canLay0] using b⟩
 | _=>exact bV e
theorem aF.sr{K:FR}{ρ:Ad}{H:Hp}{v:List V}{d:List D}{p:List PyData}(r:aF K ρ H v d)(e:nS d=some p):rP K H v p/\PyData.canLayAll0 p=true:=by
 cases r with
 | nil=>cases e;exact⟨.nil,rfl⟩
 | cons r l=>
  obtain⟨a,e1,e2⟩:=bw e;obtain⟨b,e3,rfl⟩:=gf e2;obtain⟨a1,a2⟩:=Rep.sr r e1;obtain⟨b1,b2⟩:=aF.sr l e3;exact⟨.cons a1 b1,by simp[PyData.canLayAll0,a2,b2]⟩
end
section
variable {K:FR} {ρ:Ad} {H:Hp} {h:MH} {v:V} {d:D}
theorem k9(S:bF K ρ h H)(r:Rep K ρ H v d)(e:zD h d=some p):B4 K H v p/\p.canLay0=true:=by
 cases r with
 | @ob a n hn=>
  unfold zD at e;dsimp only at e;cases q:h[n]? with
  | none=>rw[q] at e;cases e
  | some o=>
   rw[q] at e;cases o with
   | dct _=>exact bV e
   | dcH _=>exact bV e
   | exc _=>exact bV e
   | lst xs=>
    obtain⟨vs,e1,l⟩:=S.at_ n a _ hn q;obtain⟨b,e3,e4⟩:=gf e;subst e4;obtain⟨b1,b2⟩:=l.sr e3;exact⟨.lst (fV.of e1) b1,by simpa [PyData.canLay0] using b2⟩
 | bR=>exact Rep.sr (Rep.bR (ρ:=ρ)) e
 | bl b=>exact Rep.sr (Rep.bl (ρ:=ρ) b) e
 | int i=>exact Rep.sr (Rep.int (ρ:=ρ) i) e
 | str x=>exact Rep.sr (Rep.str (ρ:=ρ) x) e
 | ty n=>exact Rep.sr (Rep.ty (ρ:=ρ) n) e
 | tup h l=>exact Rep.sr (.tup h l) e
 | lv h n l=>exact Rep.sr (.lv h n l) e
 | ro h l=>exact Rep.sr (.ro h l) e
 | dv h n l=>exact Rep.sr (.dv h n l) e
noncomputable def dw(d:D)(h:MH):Option (List D):=match d with
 | .lv xs=>some xs
 | .ob n=>match h[n]? with
  | some (.lst xs)=>some xs
  | _=>none
 | _=>none
theorem dm(S:bF K ρ h H)(r:Rep K ρ H v d)(e:dw d h=some xs):∃a vs,v=.ref a/\H a=some (.lst vs)/\aF K ρ H vs xs:=by
 cases r with
 | @ob a n hn=>
  unfold dw at e;dsimp only at e;cases q:h[n]? with
  | none=>rw[q] at e;cases e
  | some o=>
   rw[q] at e;cases o with
   | dct _=>exact bV e
   | dcH _=>exact bV e
   | exc _=>exact bV e
   | lst ys=>
    cases e;obtain⟨vs,e1,l⟩:=S.at_ n a _ hn q;exact⟨a,vs,rfl,e1,l⟩
 | lv h n l=>cases e;exact⟨_,_,rfl,h,l⟩
 | _=>exact bV e
noncomputable def dG(d:D)(h:MH):Option (List (Key×D)):=match d with
 | .dv kvs=>some kvs
 | .ob n=>match h[n]? with
  | some (.dct kvs)=>some kvs
  | _=>none
 | _=>none
theorem ib(S:bF K ρ h H)(r:Rep K ρ H v d)(e:dG d h=some xs):∃a vs,v=.ref a/\H a=some (.dK vs)/\bD K ρ H vs xs:=by
 cases r with
 | @ob a n hn=>
  unfold dG at e;dsimp only at e;cases q:h[n]? with
  | none=>rw[q] at e;cases e
  | some o=>
   rw[q] at e;cases o with
   | lst _=>exact bV e
   | dcH _=>exact bV e
   | exc _=>exact bV e
   | dct ys=>
    cases e;obtain⟨vs,e1,l⟩:=S.at_ n a _ hn q;exact⟨a,vs,rfl,e1,l⟩
 | dv h n l=>cases e;exact⟨_,_,rfl,h,l⟩
 | _=>exact bV e
theorem kN(S:bF K ρ h H)(r:Rep K ρ H v d)(e:dE d h=some (xs,ws)):∃a vs,v=.ref a/\(fV K H a vs\/jB K H a vs)/\aF K ρ H vs xs:=by
 obtain⟨a,e1,⟨vs,q,l⟩,_⟩:=pS S r e;refine⟨a,vs,e1,?_,l⟩;generalize yP d=b at q;cases q with
 | l q=>exact .inl q
 | t q=>exact .inr q
noncomputable def vy:D->Option Key
 | .int i=>some (.inl i)
 | .str x=>some (.inr x)
 | _=>none
noncomputable def oK(kvs:List (Key×D))(k:Key):Option D:=(kvs.find? λkv=>decide (kv.1=k)).map (·.2)
noncomputable def putD(kvs:List (Key×D))(k:Key)(v:D):List (Key×D):=
 if(kvs.any λkv=>decide (kv.1=k))=true then kvs.map (λkv=>if kv.1=k then(kv.1,v) else kv) else kvs++[(k,v)]
theorem jt(r:Rep K ρ H v d)(e:vy d=some k):v=kV k:=by
 cases r with
 | int i=>cases e;rfl
 | str x=>cases e;rfl
 | _=>exact bV e
theorem bD.val:∀{us:List (Key×V)} {kvs:List (Key×D)} (k:Key),bD K ρ H us kvs->(oK kvs k=none/\iA us k=none)\/∃d v,oK kvs k=some d/\iA us k=some v/\Rep K ρ H v d:=by
 intro us
 induction us with
 | nil=>intro kvs k a;cases a;exact .inl ⟨rfl,rfl⟩
 | cons u us ih=>
  intro kvs k a;cases a with | @cons j v _ d ds r l=>
  by_cases z:j=k
  ·exact .inr ⟨d,v,by simp[oK,z],by simp[iA,z],r⟩
  ·have h1:oK ((j,d)::ds) k=oK ds k:=by simp only[oK,RG,z,decide_false]
   have h2:iA ((j,v)::us) k=iA us k:=kJ z;rw[h1,h2];exact ih k l
theorem bD.length:∀{us:List (Key×V)} {kvs:List (Key×D)},bD K ρ H us kvs->us.length=kvs.length:=by
 intro us
 induction us with
 | nil=>intro kvs a;cases a;rfl
 | cons u us ih=>intro kvs a;cases a with | cons _ l=>rw[P1,P1,ih l]
theorem bD.any(k:Key):∀{us:List (Key×V)} {kvs:List (Key×D)},bD K ρ H us kvs->(us.any λkv=>decide (kv.1=k))=(kvs.any λkv=>decide (kv.1=k))
 | _,_,.nil=>rfl
 | _,_,.cons _ l=>by rw[RH,RH,bD.any k l]
theorem bD.map(r:Rep K ρ H v d):∀{us:List (Key×V)} {kvs:List (Key×D)},bD K ρ H us kvs->bD K ρ H (us.map λkv=>if kv.1=k then(kv.1,v) else kv) (kvs.map λkv=>if kv.1=k then(kv.1,d) else kv)
 | _,_,.nil=>.nil
 | _,_,.cons (k:=j) q l=>by
  rw[P6,P6]
  by_cases z:j=k
  ·rw[PL z,PL z];exact .cons r (bD.map r l)
  ·rw[P0 z,P0 z];exact .cons q (bD.map r l)
theorem bD.append:∀{us vs:List (Key×V)} {ks ls:List (Key×D)},bD K ρ H us ks->bD K ρ H vs ls->bD K ρ H (us++vs) (ks++ls):=by
 intro us vs
 induction us with
 | nil=>intro ks ls a t;cases a;exact t
 | cons u us ih=>intro ks ls a t;cases a with | cons r l=>exact .cons r (ih l t)
theorem bD.put(l:bD K ρ H us kvs)(r:Rep K ρ H v d):bD K ρ H (putK us k v) (putD kvs k d):=by
 unfold putK putD;rw[l.any k]
 by_cases z:(kvs.any λkv=>decide (kv.1=k))=true
 ·rw[PL z,PL z];exact l.map r
 ·rw[P0 z,P0 z];exact l.append (.cons r .nil)
end
noncomputable def sG(d e:D)(h:MH):Option (D×MH):=match d,e with
 | .int i,.int j=>some (.int (i+j),h)
 | .str a,.str b=>if a.length+b.length<=sizeLine then some (.str (a++b),h) else none
 | .tup [],.tup _=>none
 | .tup (x::xs),.tup ys=>if xs.length+1+ys.length<=sizeLine then some (.tup (x::xs++ys),h) else none
 | d,e=>(dw d h).bind λxs=>(dw e h).bind λys=>if xs.length+ys.length<=sizeLine then some (.lv (xs++ys),h) else none
noncomputable def yS(d e:D)(h:MH):Option (D×MH):=match d,e with
 | .int i,.int j=>some (.int (i-j),h)
 | _,_=>none
noncomputable def lD(i j:Int):Bool:=(decide (-(2^64) < i)&&decide (i < 2^64))||(decide (-(2^64) < j)&&decide (j < 2^64))
noncomputable def JO(d e:D)(h:MH):Option (D×MH):=match d,e with
 | .int i,.int j=>if lD i j then some (.int (i*j),h) else none
 | _,_=>none
noncomputable def q9(d e:D)(h:MH):Option (D×MH):=match d,e with
 | .int i,.int j=>if 0 < j then some (.int (i % j),h) else none
 | _,_=>none
noncomputable def vH(d e:D)(h:MH):Option (D×MH):=match d,e with
 | .int i,.int j=>if 0 < j/\j<=10^40 then some (.int (i / j),h) else none
 | _,_=>none
noncomputable def Ea(d e:D)(h:MH):Option (D×MH):=match d,e with
 | .int i,.int j=>if 0<=j/\j<=1000000/\i.natAbs < 2^64 then some (.int (i^j.toNat),h) else none
 | _,_=>none
noncomputable def Ew(f:Int->Int->Bool)(d e:D)(h:MH):Option (D×MH):=match d,e with
 | .int i,.int j=>some (.bl (f i j),h)
 | _,_=>none
noncomputable def BZ:=Ew λi j=>decide (i < j)
noncomputable def B1:=Ew λi j=>decide (i<=j)
noncomputable def vG:=Ew λi j=>decide (j < i)
noncomputable def GF:=Ew λi j=>decide (j<=i)
noncomputable def KW(d e:D)(h:MH):Option Bool:=(zD h d).bind λa=>(zD h e).bind λb=>if a.depth<=64/\b.depth<=64 then some (PyData.eqv a b) else none
noncomputable def O0:D->Bool
 | .bR=>true
 | _=>false
noncomputable def JP(d e:D)(h:MH):Option (D×MH):=match e with
 | .bR=>some (.bl (O0 d),h)
 | _=>none
noncomputable def pM(d:D)(h:MH):Option (D×MH):=match d with
 | .int i=>some (.int (-i),h)
 | _=>none
noncomputable def inD(d e:D)(h:MH):Option Bool:=match dG e h with
 | some kvs=>(vy d).map λk=>(oK kvs k).isSome
 | none=>match d,e with
  | .str x,.str y=>some (!(Builtin.Str.occurrences y x 0 y.length 1).isEmpty)
  | d,e=>(dE e h).bind λp=>(zD h d).bind λa=>(nS p.1).bind λbs=>if a.depth<=60/\PyData.depthAll bs<=60 then some (bs.any λb=>PyData.eqv b a) else none
noncomputable def KU(d e:D)(h:MH):Option (D×MH):=(inD d e h).map λc=>(.bl c,h)
noncomputable def qZ(d e:D)(h:MH):Option (D×MH):=(inD d e h).map λc=>(.bl (!c),h)
noncomputable def aV(d e:D)(h:MH):Option (D×MH):=match dG d h with
 | some kvs=>(vy e).bind λk=>(oK kvs k).map λz=>(z,h)
 | none=>match d,e with
  | .str z,.int i=>if z.length<=sizeLine then(gU z.cps.toList i).map λc=>(.str ⟨#[c]⟩,h) else none
  | d,.int i=>(dE d h).bind λp=>(gU p.1 i).map λz=>(z,h)
  | _,_=>none
theorem iO{K:FR}{ρ:Ad}{H:Hp}{x:V}{i:Int}(r:Rep K ρ H x (.int i)):x=.int i:=by cases r;rfl
theorem ym{K:FR}{ρ:Ad}{H:Hp}{x:V}{i:Str}(r:Rep K ρ H x (.str i)):x=.str i/\PyData.strOk i=true:=by cases r with | str h=>exact⟨rfl,h⟩
theorem CP{K:FR}{ρ:Ad}{H:Hp}{x:V}{ds:List D}(r:Rep K ρ H x (.tup ds)):∃a vs,x=.ref a/\TupAt K ρ H a vs/\aF K ρ H vs ds:=by cases r with | tup h l=>exact⟨_,_,rfl,h,l⟩
theorem vc(ho:kH X g (rI C q))(hf:∀d e h z h',f d e h=some (z,h')->∃i j,d=.int i/\e=.int j/\C i j/\h'=h/\∀ρ H,Rep X.K ρ H (q i j) z):kG X g f:=by
 intro pins s σ H x y v u Q I rx ry hh;obtain⟨ρ,h,d,e,z,h',S,rd,re,ee,k⟩:=hh;obtain⟨i,j,rfl,rfl,c,rfl,rz⟩:=hf _ _ _ _ _ ee;obtain rfl:=iO rd;obtain rfl:=iO re;exact ho pins s σ H _ _ v u Q I rx ry ⟨i,j,rfl,rfl,c,k _ _ (.here S (rz _ _))⟩
theorem lx(ho:kH X g (FE q))(hf:∀d e h z h',f d e h=some (z,h')->∃i j,d=.int i/\e=.int j/\h'=h/\∀ρ H,Rep X.K ρ H (q i j) z):kG X g f:=by
 intro pins s σ H x y v u Q I rx ry hh;obtain⟨ρ,h,d,e,z,h',S,rd,re,ee,k⟩:=hh;obtain⟨i,j,rfl,rfl,rfl,rz⟩:=hf _ _ _ _ _ ee;obtain rfl:=iO rd;obtain rfl:=iO re;exact ho pins s σ H _ _ v u Q I rx ry ⟨i,j,rfl,rfl,k _ _ (.here S (rz _ _))⟩
theorem DC:kG X (binaryOp .Sub) yS:=lx Jf λd e h z h' ee=>by
 cases d <;> first |(exact bV ee) | skip
 cases e <;> first |(exact bV ee) | skip
 cases ee;exact⟨_,_,rfl,rfl,rfl,λ_ _=>.int _⟩
theorem Jb:kG X (binaryOp .Mult) JO:=vc Ji λd e h z h' ee=>by
 cases d <;> first |(exact bV ee) | skip
 cases e <;> first |(exact bV ee) | skip
 rename_i i j;unfold JO at ee;dsimp only at ee
 by_cases c:lD i j=true
 ·rw[PL c] at ee;cases ee;refine⟨i,j,rfl,rfl,?_,rfl,λ_ _=>.int _⟩;unfold lD at c;simp only[Rl,Qm,QB] at c;exact c
 ·rw[P0 c] at ee;cases ee
theorem qz:kG X (binaryOp .Mod) q9:=vc Jj λd e h z h' ee=>by
 cases d <;> first |(exact bV ee) | skip
 cases e <;> first |(exact bV ee) | skip
 rename_i i j;unfold q9 at ee;dsimp only at ee
 by_cases c:0 < j
 ·rw[PL c] at ee;cases ee;exact⟨i,j,rfl,rfl,c,rfl,λ_ _=>.int _⟩
 ·rw[P0 c] at ee;cases ee
theorem yx:kG X (binaryOp .FloorDiv) vH:=vc DF λd e h z h' ee=>by
 cases d <;> first |(exact bV ee) | skip
 cases e <;> first |(exact bV ee) | skip
 rename_i i j;unfold vH at ee;dsimp only at ee
 by_cases c:0 < j/\j<=10^40
 ·rw[PL c] at ee;cases ee;exact⟨i,j,rfl,rfl,c,rfl,λ_ _=>.int _⟩
 ·rw[P0 c] at ee;cases ee
theorem yw:kG X (binaryOp .Pow) Ea:=vc Jh λd e h z h' ee=>by
 cases d <;> first |(exact bV ee) | skip
 cases e <;> first |(exact bV ee) | skip
 rename_i i j;unfold Ea at ee;dsimp only at ee
 by_cases c:0<=j/\j<=1000000/\i.natAbs < 2^64
 ·rw[PL c] at ee;cases ee;exact⟨i,j,rfl,rfl,c,rfl,λ_ _=>.int _⟩
 ·rw[P0 c] at ee;cases ee
theorem Ak(ee:Ew f d e h=some (z,h')):∃i j,d=.int i/\e=.int j/\h'=h/\z=.bl (f i j):=by
 cases d <;> first |(exact bV ee) | skip
 cases e <;> first |(exact bV ee) | skip
 cases ee;exact⟨_,_,rfl,rfl,rfl,rfl⟩
theorem DE:kG X (compareOp .Lt) BZ:=lx Ma λd e h z h' ee=>by
 obtain⟨i,j,rfl,rfl,rfl,rfl⟩:=Ak ee;exact⟨i,j,rfl,rfl,rfl,λ_ _=>.bl _⟩
theorem wR:kG X (compareOp .LtE) B1:=lx Mb λd e h z h' ee=>by
 obtain⟨i,j,rfl,rfl,rfl,rfl⟩:=Ak ee;exact⟨i,j,rfl,rfl,rfl,λ_ _=>.bl _⟩
theorem zO:kG X (compareOp .Gt) vG:=lx Mc λd e h z h' ee=>by
 obtain⟨i,j,rfl,rfl,rfl,rfl⟩:=Ak ee;exact⟨i,j,rfl,rfl,rfl,λ_ _=>.bl _⟩
theorem wU:kG X (compareOp .GtE) GF:=lx Md λd e h z h' ee=>by
 obtain⟨i,j,rfl,rfl,rfl,rfl⟩:=Ak ee;exact⟨i,j,rfl,rfl,rfl,λ_ _=>.bl _⟩
theorem xW:MT X (unaryOp .USub) (rU X.K pM):=by
 intro pins s σ H x v Q I rx hh;obtain⟨ρ,h,d,z,h',S,rd,ee,k⟩:=hh;cases rd <;> first |(exact bV ee) | skip
 cases ee;exact HJ pins s σ H _ v Q I rx ⟨_,rfl,k _ _ (.here S (.int _))⟩
noncomputable def Kh(d e:D)(h:MH):Option (D×MH):=(dw d h).bind λxs=>(dw e h).bind λys=>if xs.length+ys.length<=sizeLine then some (D.lv (xs++ys),h) else none
def Ng(d e:D)(h:MH)(p:D×MH):Prop:=(∃i j,d=.int i/\e=.int j)\/(∃a b,d=.str a/\e=.str b)\/(∃x xs ys,d=.tup (x::xs)/\e=.tup ys)\/Kh d e h=some p
theorem wa{d e:D}{h:MH}{p:D×MH}(z:Kh d e h=some p):Ng d e h p:=.inr (.inr (.inr z))
theorem Ed{d e:D}{h:MH}{p:D×MH}(ee:sG d e h=some p):Ng d e h p:=by
 cases d with
 | int i=>cases e with
  | int j=>exact .inl ⟨i,j,rfl,rfl⟩
  | _=>exact wa ee
 | str a=>cases e with
  | str b=>exact .inr (.inl ⟨a,b,rfl,rfl⟩)
  | _=>exact wa ee
 | tup xs=>cases e with
  | tup ys=>cases xs with
   | nil=>exact bV ee
   | cons x xs=>exact .inr (.inr (.inl ⟨x,xs,ys,rfl,rfl⟩))
  | _=>cases xs <;> exact wa ee
 | _=>exact wa ee
theorem Je:kG X (binaryOp .Add) sG:=by
 intro pins s σ H x y v u Q I rx ry hh;obtain⟨ρ,h,d,e,z,h',S,rd,re,ee,k⟩:=hh;have lists:((dw d h).bind λxs=>(dw e h).bind λys=>if xs.length+ys.length<=sizeLine then some (D.lv (xs++ys),h) else none)=some (z,h')->wpAny (model X.prog X.w) X.A (binaryOp .Add v u) (EP X pins σ Q) X.xe s:=by
  intro ee;obtain⟨xs,e1,e4⟩:=bw ee;obtain⟨ys,e2,e3⟩:=bw e4
  by_cases c:xs.length+ys.length<=sizeLine
  ·rw[PL c] at e3;cases e3;obtain⟨a,vs,rfl,ha,la⟩:=dm S rd e1;obtain⟨b,us,rfl,hb,lb⟩:=dm S re e2;exact DH pins s σ H _ _ v u Q I rx ry ⟨a,b,vs,us,rfl,rfl,ha,hb,by rw[la.length,lb.length];exact c,λp hp=>k _ _ (.lv S (la.append lb) hp)⟩
  ·rw[P0 c] at e3;cases e3
 rcases(Ed ee:(∃i j,d=.int i/\e=.int j)\/(∃a b,d=.str a/\e=.str b)\/(∃x xs ys,d=.tup (x::xs)/\e=.tup ys)\/Kh d e h=some (z,h')) with⟨i,j,rfl,rfl⟩ |⟨a,b,rfl,rfl⟩ |⟨x0,xs,ys,rfl,rfl⟩ | z
 ·cases ee;obtain rfl:=iO rd;obtain rfl:=iO re;exact Jl pins s σ H _ _ v u Q I rx ry ⟨_,_,rfl,rfl,k _ _ (.here S (.int _))⟩
 ·unfold sG at ee;dsimp only at ee
  by_cases c:a.length+b.length<=sizeLine
  ·rw[PL c] at ee;cases ee;obtain⟨rfl,h1⟩:=ym rd;obtain⟨rfl,h2⟩:=ym re;exact yz pins s σ H _ _ v u Q I rx ry ⟨a,b,rfl,rfl,c,k _ _ (.here S (.str (gy h1 h2)))⟩
  ·rw[P0 c] at ee;cases ee
 ·unfold sG at ee;dsimp only at ee
  by_cases c:xs.length+1+ys.length<=sizeLine
  ·rw[PL c] at ee;cases ee;obtain⟨a,vs,rfl,h1,l1⟩:=CP rd;obtain⟨b,us,rfl,h2,l2⟩:=CP re;refine Ge pins s σ H _ _ v u Q I rx ry ⟨a,b,vs,us,rfl,rfl,h1.sq,h2.sq,?_,?_,λz=>?_,λ_ p hp=>k _ _ (.tup S (l1.append l2) hp)⟩
   ·intro z;rw[z] at l1;cases l1
   ·rw[l1.length,l2.length];exact c
   ·rw[z] at l2;cases l2;rw[QD] at k;exact k _ _ (.here S (.tup h1 l1))
  ·rw[P0 c] at ee;cases ee
 ·exact lists z
theorem jw(h1:p.canLay0=true)(h2:p.depth<=64):SeqAt.shaped p=true:=by
 unfold PySem.SeqAt.shaped;rw[h1,Qj h2];rfl
theorem FA{K:FR}{ρ:Ad}{H:Hp}{v:V}{d:D}(r:Rep K ρ H v d):decide (v=V.bR)=O0 d:=by
 cases r <;> rfl
theorem Jc:kG X (compareOp .Is) JP:=by
 intro pins s σ H x y v u Q I rx ry hh;obtain⟨ρ,h,d,e,z,h',S,rd,re,ee,k⟩:=hh;cases e <;> first |(exact bV ee) | skip
 cases ee;cases re;refine Jk pins s σ H _ _ v u Q I rx ry ⟨rfl,?_⟩;rw[FA rd];exact k _ _ (.here S (.bl _))
theorem ua{us:List Value}{ds:List PyData}{as:List Addr}(H:ReadsAll h us ds as)(hf:∀u d as,u∈us->Reads h u d as->d∈ds->f u=PyData.eqv d p):us.any f=ds.any λb=>PyData.eqv b p:=by
 cases H with
 | nil=>rfl
 | cons r l=>rw[RH,RH,hf _ _ _ PQ r PQ,ua l λu d as hu hr hd=>hf u d as (PV _ hu) hr (PV _ hd)]
open Classical in
noncomputable def Af(h:Heap)(p:PyData)(u:Value):Bool:=if q:∃d as,Reads h u d as/\d.canLay0=true then PyData.eqv q.choose p else false
theorem nq(r:Reads h u d as)(c:d.canLay0=true):Af h p u=PyData.eqv d p:=by
 have q:∃d as,Reads h u d as/\d.canLay0=true:=⟨d,as,r,c⟩;unfold Af;rw[dif_pos q];obtain⟨as',r',c'⟩:=q.choose_spec;rw[PySem.SeqAt.Reads.unique _ _ _ _ _ c' r' r]
theorem cj:∀{ds:List PyData} {d:PyData},PyData.canLayAll0 ds=true->d∈ds->d.canLay0=true
 | x::r,d,c,m=>by
  simp only[PyData.canLayAll0,Qm] at c;rcases PZ.mp m with rfl | m
  ·exact c.1
  ·exact cj c.2 m
theorem jy:∀{ds:List PyData} {d:PyData},d∈ds->d.depth<=PyData.depthAll ds
 | x::r,d,m=>by
  simp only[PyData.depthAll];rcases PZ.mp m with rfl | m
  ·lia
  ·have:=jy m;lia
theorem ji{us:List Value}{ds:List PyData}{as:List Addr}(H:ReadsAll h us ds as)(y:Value)(hy:y∈us):∃d as,Reads h y d as/\d∈ds:=by
 cases H with
 | nil=>cases hy
 | cons r l=>
  rcases PZ.mp hy with rfl | hy
  ·exact⟨_,_,r,PQ⟩
  ·obtain⟨d,as,a1,a2⟩:=ji l y hy;exact⟨d,as,a1,PV _ a2⟩
theorem in_of(hu:X.A.units+64 < cLine)(I:L2.Inv X pins σ H s)(rx:L2.RelV x v)(ry:L2.RelV y u)(S:bF X.K ρ h H)(rd:Rep X.K ρ H x d)(re:Rep X.K ρ H y e){c:Bool}(ee:inD d e h=some c){Q:Bool->Shared->Prop}(hq:∀s',L2.Inv X pins σ H s'->Q c s'):
  wpAny (model X.prog X.w) X.A (compareOp .In v u) (λr s'=>∃c,r=.bool c/\Q c s') X.xe s/\wpAny (model X.prog X.w) X.A (compareOp .NotIn v u) (λr s'=>∃c,r=.bool (!c)/\Q c s') X.xe s:=by
 unfold inD at ee;cases qd:dG e h with
 | some kvs=>
  rw[qd] at ee;obtain⟨k,e1,e2⟩:=gf ee;obtain⟨a,us,rfl,ha,l⟩:=ib S re qd;obtain rfl:u=Value.ref a:=ry;have ek:=jt rd e1;subst ek;have g:mh H a (kV k) (iA us k):=mh.k ha;have ec:(iA us k).isSome=c:=by
   rw[<-e2];rcases l.val k with⟨h1,h2⟩ |⟨d,v,h1,h2,_⟩
   ·rw[h1,h2];rfl
   ·rw[h1,h2];rfl
  refine⟨OB (by lia) I g rx λs' I'=>⟨c,by rw[ec],hq s' I'⟩,GG (by lia) I g rx λs' I'=>⟨c,by rw[ec],hq s' I'⟩⟩
 | none=>
  rw[qd] at ee;dsimp only at ee;have seqs:((dE e h).bind λp=>(zD h d).bind λa=>(nS p.1).bind λbs=>if a.depth<=60/\PyData.depthAll bs<=60 then some (bs.any λb=>PyData.eqv b a) else none)=some c->
    wpAny (model X.prog X.w) X.A (compareOp .In v u) (λr s'=>∃c,r=.bool c/\Q c s') X.xe s/\wpAny (model X.prog X.w) X.A (compareOp .NotIn v u) (λr s'=>∃c,r=.bool (!c)/\Q c s') X.xe s:=by
   intro ee;obtain⟨⟨xs,ws⟩,e1,e2⟩:=bw ee;obtain⟨p,e3,e4⟩:=bw e2;obtain⟨bs,e5,e6⟩:=bw e4
   by_cases w:p.depth<=60/\PyData.depthAll bs<=60
   ·rw[PL w] at e6;cases e6;obtain⟨a,vs,rfl,hq',l⟩:=kN S re e1;obtain rfl:u=Value.ref a:=ry;obtain⟨r1,c1⟩:=k9 S rd e3;obtain⟨r2,c2⟩:=l.sr e5;obtain⟨as,ra⟩:=r1.reads I rx;have key:∀its:List Value,Vals vs its->(∀y,y∈its->PySem.SeqAt.EqAt X.A.in1 s y v (Af s.heap p y))/\its.any (Af s.heap p)=bs.any λb=>PyData.eqv b p:=by
     intro its rv;obtain⟨bs',rb⟩:=r2.reads I rv;refine⟨λy hy=>?_,ua rb λu d as _ hr hd=>nq hr (cj c2 hd)⟩;obtain⟨d,as',hr,hd⟩:=ji rb y hy;rw[nq hr (cj c2 hd)];refine RT d p _ s y v as' as hr ra (cj c2 hd) c1 ?_;have h1:=jy hd;have h2:min d.depth p.depth<=d.depth:=SO _ _;show X.A.units+1+min d.depth p.depth < cLine;have h3:=w.2
     lia
    rcases hq' with hq' | hq'
    ·obtain⟨its,rv,pl,_⟩:=I.list hq';obtain⟨k1,k2⟩:=key its rv;have k1':∀y,y∈its.toArray->PySem.SeqAt.EqAt X.A.in1 s y v (Af s.heap p y):=λy hy=>k1 y (by simpa using hy);have k2':its.toArray.any (Af s.heap p)=bs.any λb=>PyData.eqv b p:=by rw[<-k2];simp
     exact⟨PySem.SeqAt.in_listAt _ pl.isList k1' ⟨_,rfl,by rw[k2'];exact hq s I⟩,PySem.SeqAt.notIn_listAt _ pl.isList k1' ⟨_,rfl,by rw[k2'];exact hq s I⟩⟩
    ·obtain⟨its,rv,pl,_⟩:=I.tuple hq';obtain⟨k1,k2⟩:=key its rv;have k1':∀y,y∈its.toArray->PySem.SeqAt.EqAt X.A.in1 s y v (Af s.heap p y):=λy hy=>k1 y (by simpa using hy);have k2':its.toArray.any (Af s.heap p)=bs.any λb=>PyData.eqv b p:=by rw[<-k2];simp
     exact⟨PySem.SeqAt.in_tupleAt _ pl k1' ⟨_,rfl,by rw[k2'];exact hq s I⟩,PySem.SeqAt.notIn_tupleAt _ pl k1' ⟨_,rfl,by rw[k2'];exact hq s I⟩⟩
   ·rw[P0 w] at e6;cases e6
  split at ee
  ·cases ee;cases rd;cases re;obtain⟨t,rfl⟩:=rx;obtain⟨t',rfl⟩:=ry;exact⟨in_str ⟨_,rfl,hq s I⟩,notIn_str ⟨_,rfl,hq s I⟩⟩
  ·exact seqs ee
theorem L9(hu:X.A.units+64 < cLine):kG X (compareOp .In) KU:=by
 intro pins s σ H x y v u Q I rx ry hh;obtain⟨ρ,h,d,e,z,h',S,rd,re,ee,k⟩:=hh;obtain⟨c,e1,e2⟩:=gf ee;cases e2;refine cm (in_of hu I rx ry S rd re e1 (Q:=λc' s'=>c'=c/\L2.Inv X pins σ H s') λs' I'=>⟨rfl,I'⟩).1 λr s' ⟨c',hr,hc,I'⟩=>?_;subst hr;subst hc;exact⟨.bl _,H,I',rfl,k _ _ (.here S (.bl _))⟩
theorem DD(hu:X.A.units+64 < cLine):kG X (compareOp .NotIn) qZ:=by
 intro pins s σ H x y v u Q I rx ry hh;obtain⟨ρ,h,d,e,z,h',S,rd,re,ee,k⟩:=hh;obtain⟨c,e1,e2⟩:=gf ee;cases e2;refine cm (in_of hu I rx ry S rd re e1 (Q:=λc' s'=>c'=c/\L2.Inv X pins σ H s') λs' I'=>⟨rfl,I'⟩).2 λr s' ⟨c',hr,hc,I'⟩=>?_;subst hr;subst hc;exact⟨.bl _,H,I',rfl,k _ _ (.here S (.bl _))⟩
theorem GX{K:FR}{ρ:Ad}{H:Hp}{vs:List V}{ds:List D}{i:Int}{d:D}(l:aF K ρ H vs ds)(e:gU ds i=some d):∃v,gU vs i=some v/\Rep K ρ H v d:=by
 unfold gU at e;obtain⟨j,e1,e2⟩:=bw e;obtain⟨v,e3,r⟩:=l.got e2;exact⟨v,by unfold gU;rw[l.length,e1];exact e3,r⟩
theorem BB{d e z:D}{h h':MH}(ee:aV d e h=some (z,h')):h'=h/\((∃kvs k,dG d h=some kvs/\vy e=some k/\oK kvs k=some z)\/(∃x i c,d=.str x/\e=.int i/\x.length<=sizeLine/\gU x.cps.toList i=some c/\z=.str ⟨#[c]⟩)\/∃i xs ws,e=.int i/\dE d h=some (xs,ws)/\gU xs i=some z):=by
 unfold aV at ee
 split at ee
 ·obtain⟨ky,e1,e2⟩:=bw ee;obtain⟨z',e3,e4⟩:=gf e2;cases e4;exact⟨rfl,.inl ⟨_,ky,‹_›,e1,e3⟩⟩
 ·split at ee
  ·split at ee
   ·obtain⟨c,e3,e4⟩:=gf ee;cases e4;exact⟨rfl,.inr (.inl ⟨_,_,c,rfl,rfl,‹_›,e3,rfl⟩)⟩
   ·cases ee
  ·obtain⟨⟨xs,ws⟩,e1,e2⟩:=bw ee;obtain⟨z',e3,e4⟩:=gf e2;cases e4;exact⟨rfl,.inr (.inr ⟨_,xs,ws,rfl,e1,e3⟩)⟩
  ·cases ee
theorem Mo(hu:X.A.units+64 < cLine):Na X (rS X.K aV):=by
 intro value slice pins s σ H x y v u Q I rx ry hh hs;obtain⟨ρ,h,d,e,z,h',S,rd,re,ee,k⟩:=hh;obtain⟨rfl,hc⟩:=BB ee;rcases hc with⟨kvs,ky,qd,e1,e3⟩ |⟨x0,i,ch,rfl,rfl,c,e3,rfl⟩ |⟨i,xs,ws,rfl,e1,e3⟩
 ·obtain⟨a,us,rfl,ha,l⟩:=ib S rd qd;obtain rfl:v=Value.ref a:=rx;have ek:=jt re e1;subst ek;rcases l.val ky with⟨h1,h2⟩ |⟨d',w,h1,h2,r⟩
  ·rw[h1] at e3;cases e3
  ·rw[h1] at e3;cases e3;have g:mh H a (kV ky) (some w):=by rw[<-h2];exact mh.k ha
   exact tail_any (xx I g) TZ.lookup (BG (by lia) I g ry λw' s3 I3 rw'=>⟨w,H,I3,rw',k _ _ (.here S r)⟩) hs
 ·obtain⟨rfl,hs0⟩:=ym rd;obtain rfl:=iO re;exact JC value slice pins s σ H _ _ v u Q I rx ry ⟨x0,i,ch,rfl,rfl,c,e3,k _ _ (.here S (.str (AJ hs0 e3)))⟩ hs
 ·obtain⟨a,vs,rfl,hq',l⟩:=kN S rd e1;obtain⟨w,e5,r⟩:=GX l e3;obtain rfl:=iO re;rcases hq' with hq' | hq'
  ·exact Gu value slice pins s σ H _ _ v u Q I rx ry ⟨a,vs,i,w,rfl,rfl,hq',e5,k _ _ (.here S r)⟩ hs
  ·exact JB value slice pins s σ H _ _ v u Q I rx ry ⟨a,vs,i,w,rfl,rfl,hq',e5,k _ _ (.here S r)⟩ hs
theorem LH(hu:X.A.units+64 < cLine)(ha:SE X a ma)(hb:SE X b mb)(hs:md b:=by unfold md;intro _ _;ac_nf):SE X (.Subscript a b pos) (ao aV ma mb):=(L5 (Mo hu) ha hb hs).imp λ_ _ _=>zA
abbrev PM:=DS->MH->Option (Option Int×MH)
noncomputable def we:PM:=λ_ h=>some (none,h)
noncomputable def wg(e:EM):PM:=λδ h=>(e δ h).bind λp=>match p.1 with
 | .int i=>some (some i,p.2)
 | _=>none
inductive MZ(K:FR)(m:PM)(σ:L2.St)(H:Hp)(Q:Option Int->Hp->Prop):Prop where
 | mk (ρ δ h b h'):b8 K ρ H σ δ->bF K ρ h H->(m δ h=some (b,h'))->(∀ρ' H',cM ρ H ρ' H'->bF K ρ' h' H'->Q b H')->MZ K m σ H Q
noncomputable def Pq(K:FR)(m:PM):TO:=λσ H Q=>MZ K m σ H Q
def SP'(X:Cx)(e:Option Expr)(m:PM):Prop:=PO X e (Pq X.K m)
theorem zw:SP' X none we:=λpins s σ H Q I hh=>by
 obtain⟨ρ,δ,h,b,h',R,S,e,k⟩:=hh;cases e;exact FW pins s σ H Q I (k ρ H (.refl _ _) S)
theorem zv(he:SE X e ma):SP' X (some e) (wg ma):=λpins s σ H Q I hh=>by
 obtain⟨ρ,δ,h,b,h',R,S,e,k⟩:=hh;obtain⟨⟨x,h1⟩,e1,e2⟩:=bw e;cases x <;> first |(cases e2;done) | skip
 cases e2;refine FV he pins s σ H Q I ⟨ρ,δ,h,_,_,R,S,e1,λv H' ⟨ρ',T,S',r⟩=>?_⟩;cases r;exact⟨_,rfl,k ρ' H' T S'⟩
noncomputable def cutD(xs:List D)(lo hi:Option Int):List D:=(xs.drop (HT.cE xs.length 0 lo)).take (HT.cE xs.length xs.length hi-HT.cE xs.length 0 lo)
noncomputable def Mx(d:D)(lo hi:Option Int)(h:MH):Option (D×MH):=match d with
 | .str z=>if z.length<=sizeLine then some (.str (Txt.slice z lo hi),h) else none
 | .tup xs=>if HT.cE xs.length 0 lo=0/\HT.cE xs.length xs.length hi=xs.length then none else some (.tup (cutD xs lo hi),h)
 | d=>(dE d h).map λp=>(.lv (cutD p.1 lo hi),h)
inductive M8(K:FR)(x:V)(lo hi:Option Int)(H:Hp)(Q:VK):Prop where
 | mk (ρ h d z h'):bF K ρ h H->Rep K ρ H x d->(Mx d lo hi h=some (z,h'))->(∀v H',cT K ρ H h' z v H'->Q v H')->M8 K x lo hi H Q
def Pw(K:FR):V->Option Int->Option Int->Hp->VK->Prop:=λx lo hi H Q=>M8 K x lo hi H Q
theorem aF.rn{K:FR}{ρ:Ad}{H:Hp}{vs:List V}{ds:List D}(l:aF K ρ H vs ds)(lo hi:Option Int):aF K ρ H (L2.rn vs lo hi) (cutD ds lo hi):=by
 unfold L2.rn cutD;rw[l.length];exact(l.drop _).take _
theorem G7:Kx X (Pw X.K):=by
 intro pins s σ H x v vl vu lo hi sl Q I rx hs pl pu hh;obtain⟨ρ,h,d,z,h',S,rd,ee,k⟩:=hh;have lists:yP d=true->((dE d h).map λp=>(D.lv (cutD p.1 lo hi),h))=some (z,h')->∃T id,typeLookup (.type T) "__getitem__"=pure (some (.builtin id))/\s.TypeIs v T/\wpAny (model X.prog X.w) X.A (getItem v (.ref sl)) (EP X pins σ Q) X.xe s:=by
  intro nt e2;obtain⟨⟨xs,ws⟩,e1,e2⟩:=gf e2;cases e2;obtain⟨a,rfl,⟨vs,q,l⟩,_⟩:=pS S rd e1;rw[nt] at q;cases q with
  | l q=>exact Fm pins s σ H _ v vl vu lo hi sl Q I rx hs pl pu ⟨a,vs,rfl,q,λp hp=>k _ _ (.lv S (l.rn lo hi) hp)⟩
 cases d with
 | str x0=>
  unfold Mx at ee;dsimp only at ee
  by_cases c:x0.length<=sizeLine
  ·rw[PL c] at ee;cases ee;cases rd with | str hs0=>
   exact Ib pins s σ H _ v vl vu lo hi sl Q I rx hs pl pu ⟨x0,rfl,c,k _ _ (.here S (.str (wx _ _ hs0)))⟩
  ·rw[P0 c] at ee;cases ee
 | tup xs=>
  unfold Mx at ee;dsimp only at ee
  by_cases c:HT.cE xs.length 0 lo=0/\HT.cE xs.length xs.length hi=xs.length
  ·rw[PL c] at ee;cases ee
  ·rw[P0 c] at ee;cases ee;cases rd with | tup h0 l0=>
   exact Ia pins s σ H _ v vl vu lo hi sl Q I rx hs pl pu ⟨_,_,rfl,h0.sq,by rw[l0.length];exact c,λp hp=>k _ _ (.tup S (l0.rn lo hi) hp)⟩
 | _=>exact lists rfl ee
theorem CL{x:Str}{id:String}{p pos:Pos}{e:Expr}{es:List Expr}{f:Fn}{m:AM}(hc:gm X (.builtin id) f)(hg:Gl X x)(hm:X.mg x=none)(hv:bootBuiltins x=some (.builtin id))(ha:SA X (e::es) m)(hn:x≠"__name__":=by decide)(hdb:(x==("__debug__":Str))=false:=by ac_nf)
  (he:starEach (e::es) X.env=(false,eval e X.env)::starEach es X.env:=by ac_nf) (hpl:(backTo pos (starEach es X.env)).any (·.1)=false:=by ac_nf):SE X (.Call (.Name x p) (e::es) [] pos) (ak f m):=
 (wO hc hg hm hv ha hn hdb he hpl).imp λσ H Q ⟨ρ,δ,h,d,h',R,S,e,k⟩=>by
  obtain⟨⟨ds,h1⟩,e1,e2⟩:=bw e;exact⟨ρ,δ,h,ds,h1,R,S,e1,λvs ρ1 H1 T1 S1 r1=>⟨ρ1,h1,ds,d,h',S1,r1,e2,λv H' P=>k v H' (P.step T1)⟩⟩
theorem CK{x:Str}{id:String}{p pos:Pos}{e:Expr}{es:List Expr}{f:Fn}{m:AM}(hc:gm X (.type id) f)(hg:Gl X x)(hm:X.mg x=none)(hv:bootBuiltins x=some (.type id))(ha:SA X (e::es) m)(hn:x≠"__name__":=by decide)(hdb:(x==("__debug__":Str))=false:=by ac_nf)
  (he:starEach (e::es) X.env=(false,eval e X.env)::starEach es X.env:=by ac_nf) (hpl:(backTo pos (starEach es X.env)).any (·.1)=false:=by ac_nf):SE X (.Call (.Name x p) (e::es) [] pos) (ak f m):=
 (tj hc hg hm hv ha hn hdb he hpl).imp λσ H Q ⟨ρ,δ,h,d,h',R,S,e,k⟩=>by
  obtain⟨⟨ds,h1⟩,e1,e2⟩:=bw e;exact⟨ρ,δ,h,ds,h1,R,S,e1,λvs ρ1 H1 T1 S1 r1=>⟨ρ1,h1,ds,d,h',S1,r1,e2,λv H' P=>k v H' (P.step T1)⟩⟩
noncomputable def ck:Fn:=λds h=>match ds with
 | [.str z]=>if z.length<=sizeLine then some (.int z.length,h) else none
 | [d]=>match dG d h with
  | some kvs=>some (.int kvs.length,h)
  | none=>(dE d h).map λp=>(.int p.1.length,h)
 | _=>none
noncomputable def JQ:Fn:=λds h=>match ds with
 | [.int i]=>some (.int (if i < 0 then -i else i),h)
 | _=>none
noncomputable def Ni(d:D)(h:MH):Option String:=match d with
 | .bR=>some "NoneType"
 | .bl _=>some "bool"
 | .int _=>some "int"
 | .str _=>some "str"
 | .tup _=>some "tuple"
 | .lv _=>some "list"
 | .dv _=>some "dict"
 | .ob n=>match h[n]? with
  | some (.lst _)=>some "list"
  | some (.dct _)=>some "dict"
  | _=>none
 | _=>none
noncomputable def zu(t n:String):Bool:=t==n||(t=="bool"&&n=="int")
noncomputable def vF:Fn:=λds h=>match ds with
 | [d,.ty n]=>if n∈["int","str","bool","tuple","list","dict"] then(Ni d h).map λt=>(.bl (zu t n),h) else none
 | _=>none
noncomputable def eJ:Fn:=λds h=>match ds with
 | [d]=>(dE d h).map λp=>(.tup p.1,h)
 | _=>none
theorem rep1{K:FR}{ρ:Ad}{H:Hp}{vs:List V}{d:D}(l:aF K ρ H vs [d]):∃v,vs=[v]/\Rep K ρ H v d:=by
 cases l with
 | cons r l=>cases l;exact⟨_,rfl,r⟩
theorem rep2{K:FR}{ρ:Ad}{H:Hp}{vs:List V}{d e:D}(l:aF K ρ H vs [d,e]):∃v u,vs=[v,u]/\Rep K ρ H v d/\Rep K ρ H u e:=by
 cases l with
 | cons r l=>cases l with
  | cons r' l=>cases l;exact⟨_,_,rfl,r,r'⟩
theorem rq:gm X (.builtin "len") ck:=by
 intro pins s σ H xs us Q I r hh;obtain⟨ρ,h,ds,z,h',S,l,ee,k⟩:=hh
 match ds,l,ee with
 | [],_,ee=>cases ee
 | _::_::_,_,ee=>exact absurd ee (by unfold ck;split <;> simp_all)
 | [d],l,ee=>
  obtain⟨v,rfl,rd⟩:=rep1 l;have oth:(match dG d h with | some kvs=>some (D.int kvs.length,h) | none=>(dE d h).map λp=>(D.int p.1.length,h))=some (z,h')->wpAny (model X.prog X.w) X.A (call (.builtin "len") us) (EP X pins σ Q) X.xe s:=by
   intro ee;cases q:dG d h with
   | some kvs=>
    rw[q] at ee;cases ee;obtain⟨a,ws,rfl,ha,lk⟩:=ib S rd q;refine BM pins s σ H _ us Q I r ⟨a,ws,rfl,ha,k _ _ ?_⟩;rw[lk.length];exact .here S (.int _)
   | none=>
    rw[q] at ee;obtain⟨⟨ys,w⟩,e1,e2⟩:=gf ee;cases e2;obtain⟨a,vs,rfl,hq,l2⟩:=kN S rd e1;refine vR pins s σ H _ us Q I r ⟨a,vs,rfl,hq,k _ _ ?_⟩;rw[l2.length];exact .here S (.int _)
  cases d with
  | str x0=>
   unfold ck at ee;dsimp only at ee
   by_cases c:x0.length<=sizeLine
   ·rw[PL c] at ee;cases ee;cases rd;exact vQ pins s σ H _ us Q I r ⟨x0,rfl,c,k _ _ (.here S (.int _))⟩
   ·rw[P0 c] at ee;cases ee
  | _=>exact oth ee
theorem Kc:gm X (.builtin "abs") JQ:=by
 intro pins s σ H xs us Q I r hh;obtain⟨ρ,h,ds,z,h',S,l,ee,k⟩:=hh
 match ds,l,ee with
 | [],_,ee=>cases ee
 | d::_::_,_,ee=>cases d <;> exact bV ee
 | [d],l,ee=>
  obtain⟨v,rfl,rd⟩:=rep1 l;cases rd <;> first |(exact bV ee) | skip
  cases ee;exact ED pins s σ H _ us Q I r ⟨_,rfl,k _ _ (.here S (.int _))⟩
theorem rp:gm X (.type "tuple") eJ:=by
 intro pins s σ H xs us Q I r hh;obtain⟨ρ,h,ds,z,h',S,l,ee,k⟩:=hh
 match ds,l,ee with
 | [],_,ee=>cases ee
 | _::_::_,_,ee=>cases ee
 | [d],l,ee=>
  obtain⟨v,rfl,rd⟩:=rep1 l;obtain⟨⟨ys,w⟩,e1,e2⟩:=gf ee;cases e2;obtain⟨a,rfl,⟨vs,q,l2⟩,_⟩:=pS S rd e1;refine sH pins s σ H _ us Q I r ⟨a,vs,rfl,?_⟩;generalize hb:yP d=b at q;cases q with
  | l q=>exact .inl ⟨q,λp hp=>k _ _ (.tup S l2 hp)⟩
  | t q=>
   refine .inr ⟨q,k _ _ ?_⟩;cases rd <;> first |(cases hb;done) | skip
   cases e1;exact .here S (.tup ‹_› ‹_›)
theorem zZ{K:FR}{t n:String}(ht:t∈["NoneType","bool","int","str","tuple","list","dict"])(hn:n∈["int","str","bool","tuple","list","dict"]):PySem.W.kitOne K (.type t) (.type n)=some (zu t n):=by
 simp only[PZ,List.mem_nil_iff,SY] at ht hn;rcases ht with rfl | rfl | rfl | rfl | rfl | rfl | rfl <;> rcases hn with rfl | rfl | rfl | rfl | rfl | rfl <;> rfl
theorem yV{ds:List D}{z:D}{h h':MH}(ee:vF ds h=some (z,h')):∃d n t,ds=[d,.ty n]/\n∈["int","str","bool","tuple","list","dict"]/\Ni d h=some t/\z=.bl (zu t n)/\h'=h:=by
 unfold vF at ee
 split at ee
 ·split at ee
  ·obtain⟨t,e1,e2⟩:=gf ee;cases e2;exact⟨_,_,t,rfl,‹_›,e1,rfl,rfl⟩
  ·cases ee
 ·cases ee
theorem HL{K:FR}{ρ:Ad}{H:Hp}{h:MH}{v:V}{d:D}{t:String}(S:bF K ρ h H)(rd:Rep K ρ H v d)(e1:Ni d h=some t):t∈["NoneType","bool","int","str","tuple","list","dict"]/\(lV K H v (.type t)\/t="tuple"/\∃a vs,v=.ref a/\jB K H a vs):=by
 cases rd with
 | bR=>cases e1;exact⟨by decide,.inl .bR⟩
 | bl b=>cases e1;exact⟨by decide,.inl (.bl b)⟩
 | int i=>cases e1;exact⟨by decide,.inl (.int i)⟩
 | str h0=>cases e1;exact⟨by decide,.inl (.str _)⟩
 | ty _=>exact bV e1
 | ro _ _=>exact bV e1
 | lv h0 _ _=>cases e1;exact⟨by decide,.inl (.lst h0)⟩
 | dv h0 _ _=>cases e1;exact⟨by decide,.inl (.dK h0)⟩
 | tup h0 l0=>cases e1;exact⟨by decide,.inr ⟨rfl,_,_,rfl,h0.sq⟩⟩
 | @ob a m hm=>
  unfold Ni at e1;dsimp only at e1;cases q:h[m]? with
  | none=>rw[q] at e1;cases e1
  | some o=>
   rw[q] at e1;have x:=S.at_ m a o hm q;cases o with
   | lst _=>cases e1;obtain⟨vs,e3,_⟩:=x;exact⟨by decide,.inl (.lst e3)⟩
   | dct _=>cases e1;obtain⟨vs,e3,_⟩:=x;exact⟨by decide,.inl (.dK e3)⟩
   | dcH _=>exact bV e1
   | exc _=>exact bV e1
theorem rA:gm X (.builtin "isinstance") vF:=by
 intro pins s σ H xs us Q I r hh;obtain⟨ρ,h,ds,z,h',S,l,ee,k⟩:=hh;obtain⟨d,n,t,rfl,hn,e1,rfl,rfl⟩:=yV ee;obtain⟨v,u,rfl,rd,ru⟩:=rep2 l;cases ru;have fin:=k (.bl (zu t n)) H (.here S (.bl _));obtain⟨hm,hty |⟨rfl,a,vs,rfl,hq⟩⟩:=HL S rd e1
 ·exact EC pins s σ H _ us Q I r ⟨v,n,_,_,rfl,hty,zZ hm hn,fin⟩
 ·obtain⟨u1,u2,rfl,r1,r2⟩:=Vals.two r;obtain rfl:u1=Value.ref a:=r1;obtain rfl:u2=Value.type n:=r2;obtain⟨its,_,⟨o,h1,h2,_⟩,_⟩:=I.tuple hq;exact QG UN I.ou ⟨o,h1,h2⟩ (zZ (t:="tuple") (by decide) hn) (λz=>nomatch z) λtk=>⟨.bl _,H,I.tok tk,rfl,fin⟩
noncomputable def EO(m:AM):AM:=λδ h=>(m δ h).bind λp=>match p.1 with
 | [d]=>(dE d p.2).map λq=>(q.1,p.2)
 | _=>none
theorem Fp(hg:Gl X x)(hm:X.mg x=none)(hv:bootBuiltins x=some (.type "list"))(ha:SA X [e] m)(hl:jG m 1)(hn:x≠"__name__":=by decide)(hdb:(x==("__debug__":Str))=false:=by ac_nf)(he:starEach [e] X.env=(false,eval e X.env)::starEach [] X.env:=by ac_nf)(hpl:(backTo pos (starEach [] X.env)).any (·.1)=false:=by ac_nf):jF X (.Call (.Name x p) [e] [] pos) (EO m):=
 (tj vP hg hm hv ha hn hdb he hpl).imp λσ H Q zz=>by
  obtain⟨ρ,δ,h,d,h',R,S,e,k⟩:=zz;obtain⟨⟨ds,h1⟩,e1,e2⟩:=bw e;refine⟨ρ,δ,h,ds,h1,R,S,e1,λvs ρ1 H1 T1 S1 r1=>?_⟩;obtain⟨d,rfl⟩:=RA.mp (hl _ _ _ _ e1);obtain⟨⟨ys,w⟩,e3,e4⟩:=gf e2;cases e4;obtain⟨v,rfl,rd⟩:=rep1 r1;obtain⟨a,ws,rfl,hq,l2⟩:=kN S1 rd e3;exact⟨a,ws,rfl,hq,λl hl=>k ρ1 H1 l ws T1 S1 hl l2⟩
noncomputable def sF(o i v:D)(h:MH):Option MH:=match o with
 | .ob n=>match h[n]? with
  | some (.lst xs)=>match i with
   | .int j=>(vz xs.length j).map λp=>h.set n (.lst (xs.set p v))
   | _=>none
  | some (.dct kvs)=>(vy i).bind λk=>if kvs.length < sizeLine then some (h.set n (.dct (putD kvs k v))) else none
  | _=>none
 | _=>none
noncomputable def sE(o i:EM):GM:=λv δ h=>(o δ h).bind λp=>(i δ p.2).bind λq=>(sF p.1 q.1 v q.2).map λh'=>(δ,h')
inductive Hx(K:FR)(o i v:V)(H:Hp)(Q:Hp->Prop):Prop where
 | mk (ρ h a b c h'):bF K ρ h H->Rep K ρ H o a->Rep K ρ H i b->Rep K ρ H v c->(sF a b c h=some h')->(∀ρ' H',cM ρ H ρ' H'->bF K ρ' h' H'->Q H')->Hx K o i v H Q
def Oa(K:FR):V->V->V->Hp->(Hp->Prop)->Prop:=λo i v H Q=>Hx K o i v H Q
theorem FN(hu:X.A.units+64 < cLine):KC X (Oa X.K):=by
 intro pins s σ H o i v ov iv u Q I ro ri rv hh;obtain⟨ρ,h,a,b,c,h',S,ra,rb,rc,ee,k⟩:=hh;cases ra <;> first |(exact bV ee) | skip
 rename_i a n hn;unfold sF at ee;dsimp only at ee;cases q:h[n]? with
 | none=>rw[q] at ee;cases ee
 | some w=>
  rw[q] at ee;have x:=S.at_ n a w hn q;have ma:=PF hn;cases w with
  | lst xs=>
   dsimp only at ee;cases rb <;> first |(exact bV ee) | skip
   rename_i j;obtain⟨p,e1,e2⟩:=gf ee;cases e2;obtain⟨vs,e3,l⟩:=x;have T:cM ρ H ρ (upd H a (.lst (vs.set p v))):=cM.wrote S ma;exact set_list pins s σ H _ _ v ov iv u Q I ro ri rv ⟨a,vs,j,p,rfl,rfl,e3,by rw[l.length];exact e1,k ρ _ T (S.wrote hn ⟨_,aP,(l.set rc p).mono T.toCh⟩)⟩
  | dct kvs=>
   dsimp only at ee;obtain⟨ky,e1,e2⟩:=bw ee
   by_cases z:kvs.length < sizeLine
   ·rw[PL z] at e2;cases e2;obtain⟨us,e3,l⟩:=x;have ek:=jt rb e1;subst ek;obtain rfl:ov=Value.ref a:=ro;have T:cM ρ H ρ (upd H a (.dK (putK us ky v))):=cM.wrote S ma;exact BF (by lia) I (G1.k e3 (by rw[l.length];exact z)) ri rv λs' I'=>⟨_,I',k ρ _ T (S.wrote hn ⟨_,aP,(l.put rc).mono T.toCh⟩)⟩
   ·rw[P0 z] at e2;cases e2
  | dcH _=>exact bV ee
  | exc _=>exact bV ee
theorem mF (hu:X.A.units+64 < cLine) (ho:SE X o mo) (hi:SE X i mi) (ha:∀v,assign (.Subscript o i pos) X.env v=(do
   let ov<-holding [v] (eval o X.env);let iv<-holding [v,ov] (eval i X.env)
   standAt pos
   holding [v,ov,iv] (setItem ov iv v)
   release [v,ov,iv] []):=by intro _;ac_nf):SG X (.Subscript o i pos) (sE mo mi):=
 (IT ho hi (FN hu) ha).imp λv σ H Q ⟨ρ,δ,h,d,δ',h',R,S,r,e,k⟩=>by
  obtain⟨⟨x,h1⟩,e1,e2⟩:=bw e;obtain⟨⟨y,h2⟩,e3,e4⟩:=bw e2;obtain⟨h3,e5,e6⟩:=gf e4;cases e6;exact⟨ρ,δ,h,x,h1,R,S,e1,λov H1 ⟨ρ1,T1,S1,r1⟩=>⟨ρ1,δ,h1,y,h2,R.mono T1,S1,e3,λiv H2 ⟨ρ2,T2,S2,r2⟩=>
   ⟨ρ2,h2,x,y,d,_,S2,r1.mono T2,r2,r.mono (T1.trans T2).toCh,e5,λρ3 H3 T3 S3=>k ρ3 H3 σ (T1.trans (T2.trans T3)) S3 (R.mono (T1.trans (T2.trans T3)).toCh)⟩⟩⟩
abbrev ET:=D->List D->MH->Option (D×MH)
inductive Pa(K:FR)(f:ET)(x:V)(vs:List V)(H:Hp)(Q:VK):Prop where
 | mk (ρ h d ds z h'):bF K ρ h H->Rep K ρ H x d->aF K ρ H vs ds->(f d ds h=some (z,h'))->(∀v H',cT K ρ H h' z v H'->Q v H')->Pa K f x vs H Q
def rM(K:FR)(f:ET):V->List V->Hp->VK->Prop:=λx vs H Q=>Pa K f x vs H Q
noncomputable def eM(isT:D->MH->Bool)(f:ET)(o:EM)(m:AM):EM:=λδ h=>(o δ h).bind λp=>if isT p.1 p.2 then(m δ p.2).bind λq=>f p.1 q.1 q.2 else none
noncomputable def dB(d:D)(h:MH):Bool:=(dw d h).isSome
noncomputable def DY(d:D)(h:MH):Bool:=(dG d h).isSome
noncomputable def eT:ET:=λd ds h=>match d,ds with
 | .ob n,[y]=>match h[n]? with
  | some (.lst xs)=>if xs.length < sizeLine then some (.bR,h.set n (.lst (xs++[y]))) else none
  | _=>none
 | _,_=>none
noncomputable def jo:ET:=λd ds h=>match d,ds with
 | .ob n,[y]=>match h[n]? with
  | some (.lst xs)=>(dw y h).bind λzs=>if xs.length+zs.length<=sizeLine then some (.bR,h.set n (.lst (xs++zs))) else none
  | _=>none
 | _,_=>none
theorem gY{K:FR}{ρ:Ad}{H:Hp}{h:MH}{v:V}{d:D}(S:bF K ρ h H)(r:Rep K ρ H v d)(e:dB d h=true):KJ K "list" v H:=by
 obtain⟨xs,e1⟩:=Rq.mp e;obtain⟨a,vs,rfl,ha,_⟩:=dm S r e1;exact .inl ⟨rfl,vs,fV.of ha⟩
theorem HK{K:FR}{ρ:Ad}{H:Hp}{h:MH}{v:V}{d:D}(S:bF K ρ h H)(r:Rep K ρ H v d)(e:DY d h=true):KJ K "dict" v H:=by
 obtain⟨xs,e1⟩:=Rq.mp e;obtain⟨a,vs,rfl,ha,_⟩:=ib S r e1;exact .inr (.inr (.inl ⟨rfl,.inl ⟨vs,ha⟩⟩))
theorem pT{T id:String}{name:Str}{o e:Expr}{es:List Expr}{apos cpos:Pos}{f:ET}{mo:EM}{m:AM}{isT:D->MH->Bool}(hT:∀{K:FR} {ρ:Ad} {H:Hp} {h:MH} {v:V} {d:D},bF K ρ h H->Rep K ρ H v d->isT d h=true->KJ K T v H)
  (pa:PlainAttrs T) (slot:Slot T name id) (hty:typeOf (.builtin id)=pure (.type "method_descriptor")) (hm:G0 X id (rM X.K f)) (ho:SE X o mo) (ha:SA X (e::es) m)
  (hbase:attributeBase o name X.env (eval o X.env)=eval o X.env:=by ac_nf)
  (hfew:((backTo cpos (starEach (e::es) X.env)).all (λx=>!x.1)&&(backToKw cpos (keywordEach [] X.env)).all (λx=>x.1.isSome)
   &&decide ((e::es).length+([]:List Keyword).length+(if([]:List Keyword).isEmpty then 0 else 1) < 30))=true:=by ac_nf)
  (hline:(apos.endLine==cpos.line)=true:=by ac_nf) (hs:starEach (e::es) X.env=(false,eval e X.env)::starEach es X.env:=by ac_nf) (hplain:(backTo cpos (starEach es X.env)).any (·.1)=false:=by ac_nf):
  SE X (.Call (.Attribute o name apos) (e::es) [] cpos) (eM isT f mo m):=(L6 pa slot hty hm ho ha hbase hfew hline hs hplain).imp λσ H Q ⟨ρ,δ,h,d,h',R,S,e,k⟩=>by
 obtain⟨⟨x,h1⟩,e1,e2⟩:=bw e;dsimp only at e2
 by_cases c:isT x h1=true
 ·rw[PL c] at e2;obtain⟨⟨ds,h2⟩,e3,e4⟩:=bw e2;exact⟨ρ,δ,h,x,h1,R,S,e1,λv H1 ⟨ρ1,T1,S1,r1⟩=>⟨hT S1 r1 c,ρ1,δ,h1,ds,h2,R.mono T1,S1,e3,λvs ρ2 H2 T2 S2 r2=>⟨ρ2,h2,x,ds,d,h',S2,r1.mono T2,r2,e4,λw H3 p=>k w H3 (p.step (T1.trans T2))⟩⟩⟩
 ·rw[P0 c] at e2;cases e2
theorem DI{K:FR}{ρ:Ad}{H:Hp}{h:MH}{n:Nat}{xs:List D}{v:V}(S:bF K ρ h H)(r:Rep K ρ H v (.ob n))(q:h[n]?=some (.lst xs)):∃a vs,v=.ref a/\ρ.ob[n]?=some a/\H a=some (.lst vs)/\aF K ρ H vs xs:=by
 cases r with
 | ob hn=>obtain⟨vs,e,l⟩:=S.at_ n _ _ hn q;exact⟨_,vs,rfl,hn,e,l⟩
theorem jn:G0 X "list.append" (rM X.K eT):=by
 intro pins s σ H x xs v us Q I rx rs hh;obtain⟨ρ,h,d,ds,z,h',S,rd,l,ee,k⟩:=hh;cases d <;> first |(exact bV ee) | skip
 rename_i n
 match ds,l,ee with
 | [],_,ee=>exact bV ee
 | _::_::_,_,ee=>exact bV ee
 | [y],l,ee=>
  unfold eT at ee;dsimp only at ee;cases q:h[n]? with
  | none=>rw[q] at ee;cases ee
  | some w=>
   rw[q] at ee;cases w with
   | dct _=>exact bV ee
   | dcH _=>exact bV ee
   | exc _=>exact bV ee
   | lst ys=>
    dsimp only at ee
    by_cases c:ys.length < sizeLine
    ·rw[PL c] at ee;cases ee;obtain⟨a,vs,rfl,hn,e1,l1⟩:=DI S rd q;obtain⟨u,rfl,ru⟩:=rep1 l;have T:cM ρ H ρ (upd H a (.lst (vs++[u]))):=cM.wrote S (PF hn);exact mY pins s σ H _ _ v us Q I rx rs ⟨a,vs,u,rfl,rfl,e1,by rw[l1.length];exact c,k _ _ ⟨ρ,T,S.wrote hn ⟨_,aP,(l1.snoc ru).mono T.toCh⟩,.bR⟩⟩
    ·rw[P0 c] at ee;cases ee
theorem tH:G0 X "list.extend" (rM X.K jo):=by
 intro pins s σ H x xs v us Q I rx rs hh;obtain⟨ρ,h,d,ds,z,h',S,rd,l,ee,k⟩:=hh;cases d <;> first |(exact bV ee) | skip
 rename_i n
 match ds,l,ee with
 | [],_,ee=>exact bV ee
 | _::_::_,_,ee=>exact bV ee
 | [y],l,ee=>
  unfold jo at ee;dsimp only at ee;cases q:h[n]? with
  | none=>rw[q] at ee;cases ee
  | some w=>
   rw[q] at ee;cases w with
   | dct _=>exact bV ee
   | dcH _=>exact bV ee
   | exc _=>exact bV ee
   | lst ys=>
    dsimp only at ee;obtain⟨zs,e2,e3⟩:=bw ee
    by_cases c:ys.length+zs.length<=sizeLine
    ·rw[PL c] at e3;cases e3;obtain⟨a,vs,rfl,hn,e1,l1⟩:=DI S rd q;obtain⟨u,rfl,ru⟩:=rep1 l;obtain⟨b,ws,rfl,eb,l2⟩:=dm S ru e2;have T:cM ρ H ρ (upd H a (.lst (vs++ws))):=cM.wrote S (PF hn);exact Bd pins s σ H _ _ v us Q I rx rs ⟨a,b,vs,ws,rfl,rfl,e1,eb,by rw[l1.length,l2.length];exact c,k _ _ ⟨ρ,T,S.wrote hn ⟨_,aP,(l1.append l2).mono T.toCh⟩,.bR⟩⟩
    ·rw[P0 c] at e3;cases e3
end Sm
namespace Sb
open PySem L2 PySem.Spec PyProof.Rows
open Builtin.SmallTypes (nextOf ownedTupleIsFree ownedTupleHandOut)
noncomputable def kn:Bool->String
 | true=>"list_iterator"
 | false=>"tuple_iterator"
def At(b:Bool)(h:Heap)(j l:Addr)(i:Nat):Prop:=∃o,h.get? j=some o/\o.cls=.type (kn b)/\o.data=.fields #[.ref l,.int i 0]
def Of(b:Bool)(h:Heap)(l:Addr)(items:Array Value):Prop:=match b with
 | true=>h.IsList l items
 | false=>h.IsTuple l items
theorem At.up(x:At b h j l i)(k:∀o,h.get? j=some o->h'.get? j=some o):At b h' j l i:=let⟨o,e,r⟩:=x;⟨o,k o e,r⟩
theorem At.lt(x:At b h j l i):j < h.objs.size:=let⟨_,e,_⟩:=x;P2 e
theorem Mf(hj:At b s.heap j l i)(hl:Of b s.heap l items)(hx:items[i]?=some x)(k:∀h',At b h' j l (i+1)->Heap.SameBut j s.heap h'->Q x {s with heap:=h'}):wpAny (model P w) A (nextOf (.ref j)) Q E s:=by
 cases b with
 | true=>exact wpAny_nextOf_list_item (show s.heap.IsListIter j l i from hj) (show s.heap.IsList l items from hl) hx k
 | false=>
  have hj':s.heap.IsTupleIter j l i:=hj;obtain⟨o,eo,ec,ed⟩:=hj';obtain⟨ol,el,_,nl,edl⟩:=(show s.heap.IsTuple l items from hl);unfold nextOf;refine PD (Q3 (name:=Str.ofString "__next__") (show s.TypeIs (.ref j) "tuple_iterator" from⟨o,eo,ec⟩) RQ
   (Rj RQ (show s.TypeIs (.ref j) "tuple_iterator" from⟨o,eo,ec⟩) UA ?_ (Ut _)))
  show wpAny _ _ (field (.ref j) 0 >>=_) _ _ s;refine PD (QU eo ed (x:=.ref l) rfl ?_);show wpAny _ _ (if(Value.ref l==Value.none)=true then _ else _) _ _ s;rw[P0 (show ¬((Value.ref l==Value.none)=true) by exact Rb)];show wpAny _ _ (field (.ref j) 1 >>=_) _ _ s;refine PD (QU eo ed (x:=.int i 0) rfl ?_);show wpAny _ _ (seqItems? (.ref l) >>=_) _ _ s;refine PD (Sv el edl ?_);simp only[RJ,hx];refine PD (wpAny_setField eo ed (by simp) (PX ⟨x,rfl,PX (k _ ?_ (Heap.SameBut.update ..))⟩));exact⟨_,Sf _ eo (Obj.isFreed_of_fields (Obj.data_mapFields ed _)),(Obj.cls_mapFields ..).trans ec,by rw[Obj.data_mapFields ed];simp[rawInt]⟩
theorem Mg(hh:A.handled=none)(hj:At b s.heap j l i)(hl:Of b s.heap l items)(hx:items[i]?=none)(k:∀h' e,Heap.ExtBut j s.heap h'->(∃o,h'.get? e=some o/\o.cls=.type "StopIteration")->E (.ref e) {s with heap:=h'}):wpAny (model P w) A (nextOf (.ref j)) Q E s:=by
 cases b with
 | true=>exact wpAny_nextOf_list_end hh (show s.heap.IsListIter j l i from hj) (show s.heap.IsList l items from hl) hx k
 | false=>
  have hj':s.heap.IsTupleIter j l i:=hj;obtain⟨o,eo,ec,ed⟩:=hj';obtain⟨ol,el,_,nl,edl⟩:=(show s.heap.IsTuple l items from hl);unfold nextOf;refine PD (Q3 (name:=Str.ofString "__next__") (show s.TypeIs (.ref j) "tuple_iterator" from⟨o,eo,ec⟩) RQ
   (Rj RQ (show s.TypeIs (.ref j) "tuple_iterator" from⟨o,eo,ec⟩) UA ?_ (Ut _)))
  show wpAny _ _ (field (.ref j) 0 >>=_) _ _ s;refine PD (QU eo ed (x:=.ref l) rfl ?_);show wpAny _ _ (if(Value.ref l==Value.none)=true then _ else _) _ _ s;rw[P0 (show ¬((Value.ref l==Value.none)=true) by exact Rb)];show wpAny _ _ (field (.ref j) 1 >>=_) _ _ s;refine PD (QU eo ed (x:=.int i 0) rfl ?_);show wpAny _ _ (seqItems? (.ref l) >>=_) _ _ s;refine PD (Sv el edl ?_);simp only[RJ,hx];refine PD (RY (PD (wpAny_setField eo ed (by simp) ?_)));show wpAny _ _ (newExc (.type "StopIteration") [] >>=_) _ _ _;refine PD ?_;simp only[newExc,newTuple];refine PD (QH ?_ (by size_fits));refine PD (m:=firstArgMember _ _) (wpAny_of_eq (a:=Value.none) (by first |(simp only[firstArgMember];rfl) | rfl) ?_);refine QH ?_ (by size_fits);simp only[raiseNew];refine PD (wpAny_handled ?_)
  first | rw[hh] | rw[show A.in1.handled=none from hh]
  refine PD (PX (wpAny_throw (k _ _ (((Heap.SameBut.update ..).extBut.push _).push _) ⟨_,Qk _ rfl,rfl⟩)))
open Builtin.SmallTypes (nextOf ownedTupleIsFree ownedTupleHandOut)
variable {P:Program} {w:World} {A:Around} {E:Value->Shared->Prop} {s:Shared} {b c:Bool}
theorem BE{e j l:Addr}{i:Nat}{items:Array Value}{x old:Value}{Q:Option Value->Shared->Prop}(hE:IsEnum s.heap e j i old)(hj:At b s.heap j l i)(hl:Of b s.heap l items)(hx:items[i]?=some x)(ne:e≠j)
  (k:∀h',IsEnumOut h' e j ((i:Int)+1) x s.heap.objs.size->At b h' j l (i+1)->h'.get? s.heap.objs.size=some {cls:=.type "tuple",data:=.seq #[.int i s.toks,x]}->h'.objs.size=s.heap.objs.size+1->
   (∀a o,a≠e->a≠j->s.heap.get? a=some o->h'.get? a=some o)->Q (some (.ref s.heap.objs.size)) {s with heap:=h',toks:=s.toks+1}):wpAny (model P w) A (pyNext (.ref e)) Q E s:=by
 have hT:s.TypeIs (.ref e) "enumerate":=⟨_,hE,rfl⟩;unfold pyNext;refine PD (TC (Q3 (name:=Str.ofString "__next__") hT RL (Rj RL hT F.entry_enumerate_next ?_ (UW _))));obtain⟨hp,g,d,tk,os⟩:=s;show wpAny _ _ (field (.ref e) 2 >>=_) _ _ _;refine PD (QU hE rfl (x:=.ref j) rfl (PD (Mf hj hl hx λk₁ j₁ t₁=>?_)));replace t₁:Heap.SameBut j hp k₁:=t₁;have E₁:IsEnum k₁ e j i old:=(t₁.2 e ne).trans hE;show wpAny _ _ (field (.ref e) 3 >>=_) _ _ ⟨k₁,g,d,tk,os⟩;refine PD (QU E₁ rfl (x:=rawInt i) rfl ?_);show wpAny _ _ (field (.ref e) 4 >>=_) _ _ ⟨k₁,g,d,tk,os⟩;refine PD (QU E₁ rfl (x:=.none) rfl ?_);show wpAny _ _ (mkInt i >>=_) _ _ ⟨k₁,g,d,tk,os⟩;refine PD (wpAny_mkInt ?_);show wpAny _ _ (setField (.ref e) 3 (rawInt ((i:Int)+1)) >>=_) _ _ ⟨k₁,g,d,tk+1,os⟩;refine PD (wpAny_setField_rec E₁ (by simp) λk₂ E₂ t₂=>?_);replace t₂:Heap.SameBut e k₁ k₂:=t₂;replace E₂:IsEnum k₂ e j ((i:Int)+1) old:=E₂;show wpAny _ _ (setField (.ref e) 4 .none >>=_) _ _ ⟨k₂,g,d,tk+1,os⟩;refine PD (wpAny_setField_rec E₂ (by simp) λk₃ E₃ t₃=>?_);replace t₃:Heap.SameBut e k₂ k₃:=t₃;replace E₃:IsEnum k₃ e j ((i:Int)+1) old:=E₃;show wpAny _ _ (newTuple [.int i tk,x] >>=_) _ _ ⟨k₃,g,d,tk+1,os⟩;refine PD (wpAny_newTuple ?_);have E₄:IsEnum (k₃.push {cls:=.type "tuple",data:=.seq #[.int i tk,x]}) e j ((i:Int)+1) old:=PN _ E₃;generalize eq₄:k₃.push {cls:=.type "tuple",data:=.seq #[.int i tk,x]}=k₄ at E₄;have sz:k₃.objs.size=hp.objs.size:=by rw[t₃.1,t₂.1,t₁.1]
 have lte:e < hp.objs.size:=P2 hE;have tp:k₄.get? hp.objs.size=some {cls:=.type "tuple",data:=.seq #[.int i tk,x]}:=by rw[<-eq₄,<-sz];exact Qk _ rfl
 have sz₄:k₄.objs.size=hp.objs.size+1:=by rw[<-eq₄,Sy,sz]
 have up₄:∀a o,a≠e->a≠j->hp.get? a=some o->k₄.get? a=some o:=λa o z1 z2 q=>by
  rw[<-eq₄];exact PN _ (t₃.extBut a o z1 (t₂.extBut a o z1 (t₁.extBut a o z2 q)))
 have j₄:At b k₄ j l (i+1):=j₁.up λo q=>by rw[<-eq₄];exact PN _ (t₃.extBut j o (Q2 ne) (t₂.extBut j o (Q2 ne) q))
 show wpAny _ _ (ownedTupleIsFree (.ref e) >>=_) _ _ ⟨k₄,g,d,tk+1,os⟩;rw[sz];clear eq₄ E₃ t₃ E₂ t₂ E₁ t₁ j₁ sz k₃ k₂ k₁;refine PD ?_;unfold ownedTupleIsFree;refine PD (QU E₄ rfl (x:=.none) rfl (PX ?_));simp only[Sg];refine PD (RY (PD (QU E₄ rfl (x:=old) rfl (PD (wpAny_setField_rec E₄ (by simp) λk₅ E₅ t₅=>?_)))));replace t₅:Heap.SameBut e k₄ k₅:=t₅;replace E₅:IsEnum k₅ e j ((i:Int)+1) x:=E₅;show wpAny _ _ (ownedTupleHandOut (.ref e) (.ref hp.objs.size) >>=_) _ _ ⟨k₅,g,d,tk+1,os⟩;refine PD ?_;unfold ownedTupleHandOut;refine PD (wpAny_setField_rec E₅ (by simp) λk₆ E₆ t₆=>?_);replace t₆:Heap.SameBut e k₅ k₆:=t₆;replace E₆:IsEnumOut k₆ e j ((i:Int)+1) x hp.objs.size:=E₆;refine wpAny_setField_rec E₆ (by simp) λk₇ E₇ t₇=>?_;replace t₇:Heap.SameBut e k₆ k₇:=t₇;replace E₇:IsEnumOut k₇ e j ((i:Int)+1) x hp.objs.size:=E₇;have up:∀a o,a≠e->k₄.get? a=some o->k₇.get? a=some o:=λa o z q=>t₇.extBut a o z (t₆.extBut a o z (t₅.extBut a o z q));refine PD (Tp (PX ⟨_,rfl,PX (k k₇ E₇ (j₄.up λo q=>up j o (Q2 ne) q) (up _ _ (SK lte) tp) ?_ λa o z1 z2 q=>up a o z1 (up₄ a o z1 z2 q))⟩));rw[t₇.1,t₆.1,t₅.1,sz₄]
theorem Eh{e j l:Addr}{i:Nat}{items:Array Value}{old:Value}{Q:Option Value->Shared->Prop}(hh:A.handled=none)(hE:IsEnum s.heap e j i old)(hj:At b s.heap j l i)(hl:Of b s.heap l items)(hx:items[i]?=none)
  (k:∀h',Heap.ExtBut j s.heap h'->Q none {s with heap:=h'}):wpAny (model P w) A (pyNext (.ref e)) Q E s:=by
 have hT:s.TypeIs (.ref e) "enumerate":=⟨_,hE,rfl⟩;unfold pyNext;refine PD (TC (Q3 (name:=Str.ofString "__next__") hT RL (Rj RL hT F.entry_enumerate_next ?_ (UW _))));show wpAny _ _ (field (.ref e) 2 >>=_) _ _ _;refine PD (QU hE rfl (x:=.ref j) rfl (PD (Mg hh hj hl hx λh' y he' ⟨o,ho,hc⟩=>?_)));exact PD (wpAny_isInstance (T:="StopIteration") (b:=true) ⟨o,ho,hc⟩ isSubtype_stop (PX (k _ he')))
theorem BD(x:Of b s.heap l items)(k:∀h',IsEnum h' (s.heap.objs.size+1) s.heap.objs.size 0 .none->At b h' s.heap.objs.size l 0->h'.objs.size=s.heap.objs.size+2->(∀a o,s.heap.get? a=some o->h'.get? a=some o)->Q (.ref (s.heap.objs.size+1)) {s with heap:=h'}):
  wpAny (model P w) A (call (.type "enumerate") [.ref l]) Q E s:=by
 cases b with
 | true=>exact call_enumerate_list (show s.heap.IsList l items from x) k
 | false=>
  have mt:PySem.Meets (Builtin.«enumerate.__new__» ⟨[.type "enumerate",.ref l],[]⟩) (λ_ R s=>s.heap.IsTuple l items/\
    R (.ok (.ret (.ref (s.heap.push {cls:=.type "tuple_iterator",data:=.fields #[.ref l,.int 0 0]}).objs.size)))
     {s with heap:=(s.heap.push {cls:=.type "tuple_iterator",data:=.fields #[.ref l,.int 0 0]}).push {cls:=.type "enumerate",data:=.fields #[.none,.bool false,.ref s.heap.objs.size,rawInt 0,.none,.none]}}):=
   .of_wp λprog w A R s h=>by
    obtain⟨hp,g,d,tk,os⟩:=s;obtain⟨hl,h⟩:=h;have sub:=sub_enumerate;have hL:Heap.IsTuple (Shared.heap ⟨hp,g,d,tk,os⟩) l items:=hl;obtain⟨o0,e0,c0,n0,d0⟩:=id hL
    wp_walk
    refine wpAny_stack_any λst=>PX ?_
    split
    ·rename_i c _ _ _ _ _;cases(c==Value.type "enumerate")
     ·wp_walk using Sw hL
      exact⟨_,rfl,h⟩
     ·wp_walk using Sw hL
      exact⟨_,rfl,h⟩
    ·wp_walk using Sw hL
     exact⟨_,rfl,h⟩
  refine callType_new F.called_enumerate (by decide) (F.typeCall_enumerate_1 _) (F.newCall_enumerate_1 _) (λobj=>F.args_object_init_2 obj _) F.entry_enumerate_new mt ⟨x,?_⟩;have z1:(s.heap.push {cls:=.type "tuple_iterator",data:=.fields #[.ref l,.int 0 0]}).objs.size=s.heap.objs.size+1:=Sy ..;show _/\_;rw[z1];have eE:IsEnum ((s.heap.push {cls:=.type "tuple_iterator",data:=.fields #[.ref l,.int 0 0]}).push
    {cls:=.type "enumerate",data:=.fields #[.none,.bool false,.ref s.heap.objs.size,rawInt 0,.none,.none]}) (s.heap.objs.size+1) s.heap.objs.size 0 .none:=by
   have q:=Qk (s.heap.push {cls:=.type "tuple_iterator",data:=.fields #[.ref l,.int 0 0]}) (o:={cls:=.type "enumerate",data:=.fields #[.none,.bool false,.ref s.heap.objs.size,rawInt 0,.none,.none]}) rfl;rw[z1] at q;exact q
  refine⟨⟨_,eE,rfl⟩,k _ eE ⟨_,PN _ (Qk _ rfl),rfl,rfl⟩ (by rw[Sy,z1]) λa o q=>PN _ (PN _ q)⟩
end Sb
namespace Sb
open PySem L2 PySem.Spec PyProof.Rows
open Builtin.SmallTypes (nextOf ownedTupleIsFree ownedTupleHandOut)
section
variable {X:Cx} {pins:List (Addr×Obj)} {σ:L2.St} {H:Hp} {s:Shared} {h':Heap} {fp:List Addr}
theorem zm(I:L2.Inv X pins σ H s)(k:∀b o,b∉fp->s.heap.get? b=some o->h'.get? b=some o)(hf:∀b∈fp,gx X pins H b):L2.Inv X pins σ H {s with heap:=h',toks:=t'}:=by
 have nit:∀b u,H b=some u->b∉fp:=λb u e z=>by rw[(hf b z).1] at e;cases e
 have nL:X.env.locals∉fp:=λz=>(hf _ z).2.1 rfl;refine I.step (g':=s.gens) (d':=s.drawn) (ch:=fp) (λb hb=>?_) (λb o _ _ hc e _=>k b o hc e) (λb o _ _ hc e _=>⟨o.slots,k b o hc e⟩) (λ_ _ _ _ n=>n)
  (λb o hc e=>⟨o,k b o hc e⟩) (λ_ _ e=>e) (λ_ _ _ e=>e) (λb ps e=>⟨#[],by rw[e];simp⟩) (λm hm=>?_) (λb u e=>?_) I.bare
 ·obtain⟨f0,f1,f2,f3,f4,f5⟩:=hf b hb;exact⟨f3,f1,f4,f5⟩
 ·obtain⟨o,es,ep,ho,r⟩:=hm;exact⟨o,es,ep,k _ o nL ho,r⟩
 ·refine(I.ba b u e).mC (λc v hc q=>k c v ?_ q) (λ_ q=>q) λ_ _ q=>q;rcases hc with z | z
  ·rw[z];exact nit b u e
  ·exact nit c _ z
theorem Fc(I:L2.Inv X pins σ H s)(k:∀b o,b∉fp->s.heap.get? b=some o->h'.get? b=some o)(hf:∀b∈fp,gx X pins H b)(hlt:∀b∈fp,b < s.heap.objs.size)(ht:h'.get? s.heap.objs.size=some {cls:=.type "tuple",data:=.seq us.toArray n})(r:Vals vs us)(hz:vs.length<=sizeLine):L2.Inv X pins σ (upd H s.heap.objs.size (.tup vs)) {s with heap:=h',toks:=t'}:=by
 have nit:∀b u,H b=some u->b∉fp:=λb u e z=>by rw[(hf b z).1] at e;cases e
 have nL:X.env.locals∉fp:=λz=>(hf _ z).2.1 rfl;have hp:H s.heap.objs.size=none:=I.ba.fresh (PJ _);have np:∀b o,s.heap.get? b=some o->b≠s.heap.objs.size:=λb o e=>Qe (P2 e);have nH:∀b u,H b=some u->b≠s.heap.objs.size:=λb u e=>aO e hp;refine I.step (g':=s.gens) (d':=s.drawn) (ch:=fp) (λb hb=>?_) (λb o _ _ hc e _=>k b o hc e) (λb o _ _ hc e _=>⟨o.slots,k b o hc e⟩) (λb o _ e n=>by rw[ay (np b o e)];exact n)
  (λb o hc e=>⟨o,k b o hc e⟩) (λb _ e=>by rw[ay (nH b _ e)];exact e) (λb _ _ e=>by rw[ay (nH b _ e)];exact e) (λb ps e=>⟨#[],by rw[ay (nH b _ e),e];simp⟩) (λm hm=>?_) (λb u e=>?_) I.bare
 ·obtain⟨f0,f1,f2,f3,f4,f5⟩:=hf b hb;exact⟨f3,f1,f4,f5⟩
 ·obtain⟨o,es,ep,ho,q⟩:=hm;exact⟨o,es,ep,k _ o nL ho,q⟩
 ·by_cases z:b=s.heap.objs.size
  ·subst z;rw[aP] at e;cases e;exact⟨hz,us,r,⟨_,ht,rfl,⟨n,rfl⟩,rfl⟩⟩
  ·rw[ay z] at e;refine(I.ba b u e).mC (λc v hc q=>k c v ?_ q) (λc q=>?_) (λc u q=>?_) λc u q=>?_
   ·rcases hc with y | y
    ·rw[y];exact nit b u e
    ·exact nit c _ y
   ·rw[ay (nH _ _ q)];exact q
   ·rw[ay (nH _ _ q)];exact q
   ·rw[ay (nH _ _ q)];exact q
end
def E5(b:Bool)(K:FR)(H:Hp)(l:Addr)(xs:List V):Prop:=match b with
 | true=>fV K H l xs
 | false=>jB K H l xs
theorem E5.of(I:L2.Inv X pins σ H s)(q:E5 b X.K H l xs):∃its:List Value,Vals xs its/\Of b s.heap l its.toArray:=by
 cases b with
 | true=>obtain⟨its,r,p,_⟩:=I.list (show fV X.K H l xs from q);exact⟨its,r,p.isList⟩
 | false=>obtain⟨its,r,p,_⟩:=I.tuple (show jB X.K H l xs from q);exact⟨its,r,p⟩
theorem E5.inj(I:L2.Inv X pins σ H s)(q:E5 b X.K H l xs)(q':E5 b X.K H l ys):xs=ys:=by
 cases b with
 | true=>exact I.xh q q'
 | false=>exact I.sJ q q'
noncomputable def Ph(b:Bool)(K:FR)(l:Addr):It:=
 ⟨λi H=>∃xs x,E5 b K H l xs/\xs[i]?=some x,λi H x H'=>∃p y,H p=none/\x=.ref p/\H'=upd H p (.tup [.int (i:Int),y])/\∀xs,E5 b K H l xs->xs[i]?=some y,λi H=>∃xs,E5 b K H l xs/\xs.length<=i⟩
theorem AD{P:Program}{w:World}{K:FR}{es:List Expr}{k0:Nat}{pos:Pos}(b:Bool)(l e j:Addr)(ne:e≠j):Turn P w K (.Tuple es k0 pos) (Ph b K l) [e,j] e (λi h=>(∃old,IsEnum h e j i old)/\At b h j l i) where
 mem:=by simp
 obj:=λi h st a ha=>by
  obtain⟨⟨old,h1⟩,o,h2,_,d2⟩:=st;simp at ha;rcases ha with rfl | rfl
  ·exact⟨_,h1,λv z=>by cases z⟩
  ·exact⟨o,h2,λv z=>by rw[d2] at z;cases z⟩
 keep:=λi h h' ⟨⟨old,h1⟩,h2⟩ k=>⟨⟨old,k e (by simp) _ h1⟩,h2.up λo q=>k j (by simp) o q⟩
 item:=by
  intro X hP hw hK hc i pins s σ H E I hf st hg;subst hP hw hK;obtain⟨xs,x,hq,hx⟩:=hg;obtain⟨⟨old,h1⟩,h2⟩:=st;obtain⟨its,rv,hO⟩:=hq.of I;obtain⟨u,hu,ru⟩:=rv.get hx;have hlt:∀a∈[e,j],a < s.heap.objs.size:=λa ha=>by
   simp at ha;rcases ha with rfl | rfl
   ·exact P2 h1
   ·exact h2.lt
  refine BE h1 h2 hO (x:=u) (by simpa using hu) ne λh' a1 a2 a3 a4 a5=>⟨_,rfl,wpAny_letOwnedTupleGo_enum a1 λh'' b1 b2=>?_⟩;have hp:H s.heap.objs.size=none:=I.ba.fresh (PJ _);have I1:=Fc (t':=s.toks+1) (vs:=[.int (i:Int),x]) (us:=[.int i s.toks,u]) (n:=0) I (λa o ha q=>a5 a o (λz=>ha (by simp[z])) (λz=>ha (by simp[z])) q) hf hlt a3 (.cons ⟨_,rfl⟩ (.cons ru .nil)) (show 2<=sizeLine by decide);have hf1:∀a∈[e,j],gx X pins (upd H s.heap.objs.size (.tup [.int (i:Int),x])) a:=λa ha=>by
   obtain⟨f0,f⟩:=hf a ha;exact⟨by rw[ay (Qe (hlt a ha))];exact f0,f⟩
  have I2:=zm (t':=s.toks+1) I1 (h':=h'') (λa o ha q=>b2.extBut a o (λz=>ha (by simp[z])) q) hf1;exact⟨.ref s.heap.objs.size,_,I2,rfl,⟨_,x,hp,rfl,rfl,λys hy=>by rw[hy.inj I hq];exact hx⟩,⟨⟨_,by simpa using b1⟩,a2.up λo q=>b2.extBut j o (Q2 ne) q⟩,λa ha=>(hf1 a ha).1⟩
 done:=by
  intro X hP hw hK hc i pins s σ H E I hf st hg;subst hP hw hK;obtain⟨xs,hq,hx⟩:=hg;obtain⟨⟨old,h1⟩,h2⟩:=st;obtain⟨its,rv,hO⟩:=hq.of I;have hl:=rv.length;exact Eh (I.ok.hd hc) h1 h2 hO (by simp;lia) λh' eb=>⟨rfl,zm (t':=s.toks) I (λa o ha q=>eb a o (λz=>ha (by simp[z])) q) hf⟩
 self:=λA i s Q E ⟨⟨old,h1⟩,_⟩ q=>by
  have hT:s.TypeIs (.ref e) "enumerate":=⟨_,h1,rfl⟩;refine wpAny_pyIter_slot hT F.slot_enumerate_iter (Rj F.slot_enumerate_iter hT F.entry_enumerate_iter ?_ (F.args_enumerate_iter_1 _));show wpAny _ _ (ret (.ref e)) _ _ s;exact PX ⟨_,rfl,"enumerate",_,hT,RL.lookup,q⟩
theorem BP:bootBuiltins "enumerate"=some (.type "enumerate"):=by decide+kernel
theorem F3(hg:Gl X "enumerate")(hm:X.mg "enumerate"=none)(ha:PA X [a] ta)(hs:starEach [a] X.env=[(false,eval a X.env)]:=by ac_nf):
  PI X (.Tuple es k0 tpos) (.Call (.Name "enumerate" p) [a] [] pos) (λσ H R=>ta σ H λvs H1=>∃l b,vs=[.ref l]/\(∃xs,E5 b X.K H1 l xs)/\R (Ph b X.K l) H1):=by
 intro pins s σ H R I h;refine Call_ (iW I hg hm BP (Q1 (cm (ha pos pins s σ H _ I h) λus s1 ⟨vs,H1,I1,r1,q1⟩=>?_) hs rfl));obtain⟨l,b,e,⟨xs,hq⟩,q⟩:=q1;subst e;obtain⟨u,rfl,ru⟩:=Vals.one r1;obtain rfl:u=Value.ref l:=ru;obtain⟨its,rv,hO⟩:=hq.of I1;refine BD hO λh' a1 a2 a3 a4=>?_;have I2:L2.Inv X pins σ H1 {s1 with heap:=h'}:=I1.kept (t':=s1.toks) a4;have hf:∀c∈[s1.heap.objs.size+1,s1.heap.objs.size],gx X pins H1 c:=λc hc=>by
  simp at hc;rcases hc with rfl | rfl
  ·exact I1.D2 (S8 _) (I1.ba.fresh (S8 _))
  ·exact I1.D2 (PJ _) (I1.ba.fresh (PJ _))
 have T:=AD (P:=X.prog) (w:=X.w) (K:=X.K) (es:=es) (k0:=k0) (pos:=tpos) b l (s1.heap.objs.size+1) s1.heap.objs.size (Nat.succ_ne_self _);refine T.self X.A 0 {s1 with heap:=h'} _ X.xe ⟨⟨_,a1⟩,a2⟩ ?_;exact⟨_,[s1.heap.objs.size+1,s1.heap.objs.size],_,_,H1,rfl,I2,T,⟨⟨_,a1⟩,a2⟩,hf,q⟩
end Sb
namespace Sm
open PySem L2 PySem.Spec PyProof.Rows
noncomputable def jS:Nat->List D->List D
 | _,[]=>[]
 | k,x::r=>.tup [.int (k:Int),x]::jS (k+1) r
theorem nr:∀(xs:List D)(k i:Nat),(jS k xs)[i]?=(xs[i]?).map λx=>.tup [.int ((k+i:Nat):Int),x]
 | [],k,i=>by simp[jS]
 | x::r,k,0=>by simp[jS]
 | x::r,k,i+1=>by
  show(jS (k+1) r)[i]?=_;rw[nr r (k+1) i];simp only[SH];congr 1
  funext y
  rw[show k+1+i=k+(i+1) by lia]
theorem cC:∀(xs:List D)(k:Nat),(jS k xs).length=xs.length
 | [],_=>rfl
 | _::r,k=>by simp[jS,cC r (k+1)]
theorem SeqAt.Nk{K:FR}{H:Hp}{a:Addr}{vs:List V}{b:Bool}(q:SeqAt K H a vs b):Sb.E5 b K H a vs:=by
 cases q with
 | l q=>exact q
 | t q=>exact q
noncomputable def ow(m:AM):IM:=λδ h=>(m δ h).bind λp=>match p.1 with
 | [d]=>(dE d p.2).map λq=>(jS 0 q.1,q.2,p.2)
 | _=>none
theorem Oq{α:Type}{l:List α}(h:l.length=2):∃a b,l=[a,b]:=by
 cases l with
 | nil=>cases h
 | cons a l=>obtain⟨b,rfl⟩:=RA.mp (Nat.succ.inj h);exact⟨a,b,rfl⟩
theorem jg(hg:Gl X "enumerate")(hm:X.mg "enumerate"=none)(ha:SA X [a] m)(hl:jG m 1)(hs:starEach [a] X.env=[(false,eval a X.env)]:=by ac_nf):SI X (.Tuple es k0 tpos) (.Call (.Name "enumerate" p) [a] [] pos) (ow m):=
 (Sb.F3 hg hm ha hs).imp λσ H Q zz=>by
  obtain⟨ρ,δ,h,xs,ws,h',R,S,e,k⟩:=zz;obtain⟨⟨ds,h1⟩,e1,e2⟩:=bw e;refine⟨ρ,δ,h,ds,h1,R,S,e1,λvs ρ1 H1 T1 S1 r1=>?_⟩;obtain⟨d,rfl⟩:=RA.mp (hl _ _ _ _ e1);obtain⟨⟨ys,w⟩,e3,e4⟩:=gf e2;cases e4;obtain⟨v,rfl,rd⟩:=rep1 r1;obtain⟨a,rfl,⟨us,q,l⟩,st⟩:=pS S1 rd e3;refine⟨a,yP d,rfl,⟨us,q.Nk⟩,k _ ρ1 H1 T1 S1 ⟨λρ2 H2 h2 T2 S2 hc i=>?_⟩⟩;obtain⟨ws,l2,q2⟩:=st ρ2 H2 h2 T2 S2 hc;refine⟨λhi=>⟨ws,q2.Nk,by rw[l2.length];rw[cC] at hi;exact hi⟩,λx hx=>?_⟩;rw[nr] at hx;obtain⟨y,ey,hx⟩:=gf hx;subst hx;obtain⟨v,ev,rv⟩:=l2.got ey;refine⟨⟨ws,v,q2.Nk,ev⟩,λu H3 ⟨p,y',hp,hu,hH,hy⟩=>?_⟩;subst hu;subst hH;have hy':y'=v:=by have:=hy ws q2.Nk;rw[ev] at this;exact(Option.some.inj this).symm
  subst hy';refine⟨cM.laid S2 hp,S2.laid hp,.tup (.inl ⟨.inl aP,S2.fresh hp⟩) (.cons ?_ (.cons (rv.mono (cM.laid S2 hp).toCh) .nil))⟩;rw[QV];exact .int _
noncomputable def vI(ls:List (Key×D)):List (Key×D)->Option Bool
 | []=>some true
 |(k,v)::r=>match oK ls k with
  | none=>some false
  | some u=>(xP v).bind λa=>(xP u).bind λb=>if a.depth<=60/\b.depth<=60 then(vI ls r).map λc=>PyData.eqv a b&&c else none
noncomputable def El(ks ls:List (Key×D)):Option Bool:=if ks.length=ls.length then vI ls ks else some false
noncomputable def Hm(d e:D)(h:MH):Option Bool:=match dG d h,dG e h with
 | some ks,some ls=>El ks ls
 | _,_=>KW d e h
noncomputable def df(d e:D)(h:MH):Option (D×MH):=(Hm d e h).map λc=>(.bl c,h)
noncomputable def jE(d e:D)(h:MH):Option (D×MH):=(Hm d e h).map λc=>(.bl (!c),h)
theorem Gw(hu:X.A.units+64 < cLine)(I:L2.Inv X pins σ H s)(lb:bD X.K ρ H vs ls)(rb:KV vs kb):
  ∀{us:List (Key×V)} {ks:List (Key×D)} {ka:List (Key×Value)} {c:Bool},bD X.K ρ H us ks->KV us ka->vI ls ks=some c->PySem.W.KeqHits X.A.in1 s kb ka c:=by
 intro us
 induction us with
 | nil=>
  intro ks ka c a ra e;cases a;cases ra;cases e;exact .nil
 | cons u0 us ih=>
  intro ks ka c a ra e;cases a with | @cons k v _ d _ r l=>
  cases ra with
  | cons ra rr=>
   rename_i p ka;obtain⟨k',y⟩:=p;obtain⟨ek,ry⟩:=ra;dsimp only at ek ry;subst ek;simp only[vI] at e;have rel:=rb.val k;rcases lb.val k with⟨h1,h2⟩ |⟨d',v',h1,h2,r'⟩
   ·rw[h1] at e;cases e;rw[h2] at rel;refine .miss ?_;cases q:valueAt kb k with
    | none=>rfl
    | some _=>rw[q] at rel;exact rel.elim
   ·rw[h1] at e;obtain⟨a,e1,e⟩:=bw e;obtain⟨b,e2,e⟩:=bw e
    by_cases z:a.depth<=60/\b.depth<=60
    ·rw[PL z] at e;obtain⟨c',e3,e4⟩:=gf e;subst e4;rw[h2] at rel;cases q:valueAt kb k with
     | none=>rw[q] at rel;exact rel.elim
     | some y'=>
      rw[q] at rel;obtain⟨r1,c1⟩:=r.sr e1;obtain⟨r2,c2⟩:=r'.sr e2;obtain⟨as,ra1⟩:=r1.reads I ry;obtain⟨bs,ra2⟩:=r2.reads I rel;refine .hit q (RT a b _ s y y' as bs ra1 ra2 c1 c2 ?_) (ih l rr e3);have:min a.depth b.depth<=a.depth:=SO _ _;show X.A.units+1+min a.depth b.depth < cLine
      lia
    ·rw[P0 z] at e;cases e
theorem Eg(hu:X.A.units+64 < cLine)(I:L2.Inv X pins σ H s)(rx:L2.RelV x v)(ry:L2.RelV y u)(S:bF X.K ρ h H)(rd:Rep X.K ρ H x d)(re:Rep X.K ρ H y e)(ee:Hm d e h=some c):
  (∀Q:Value->Shared->Prop,Q (.bool c) s->wpAny (model X.prog X.w) X.A (compareOp .Eq v u) Q X.xe s)/\∀Q:Value->Shared->Prop,Q (.bool (!c)) s->wpAny (model X.prog X.w) X.A (compareOp .NotEq v u) Q X.xe s:=by
 have data:KW d e h=some c->(∀Q:Value->Shared->Prop,Q (.bool c) s->wpAny (model X.prog X.w) X.A (compareOp .Eq v u) Q X.xe s)/\∀Q:Value->Shared->Prop,Q (.bool (!c)) s->wpAny (model X.prog X.w) X.A (compareOp .NotEq v u) Q X.xe s:=by
  intro ee;obtain⟨a,e3,e4⟩:=bw ee;obtain⟨b,e5,e6⟩:=bw e4
  by_cases w:a.depth<=64/\b.depth<=64
  ·rw[PL w] at e6;cases e6;obtain⟨r1,c1⟩:=k9 S rd e3;obtain⟨r2,c2⟩:=k9 S re e5;obtain⟨as,ra⟩:=r1.reads I rx;obtain⟨bs,rb⟩:=r2.reads I ry;exact⟨λQ q=>eq_dataH ra rb (jw c1 w.1) (jw c2 w.2) hu q,λQ q=>ne_dataH ra rb (jw c1 w.1) (jw c2 w.2) hu q⟩
  ·rw[P0 w] at e6;cases e6
 unfold Hm at ee;cases q1:dG d h with
 | none=>rw[q1] at ee;exact data ee
 | some ks=>
  cases q2:dG e h with
  | none=>rw[q1,q2] at ee;exact data ee
  | some ls=>
   rw[q1,q2] at ee;obtain⟨a,us,rfl,ha,la⟩:=ib S rd q1;obtain⟨b,ws,rfl,hb,lb⟩:=ib S re q2;obtain rfl:v=Value.ref a:=rx;obtain rfl:u=Value.ref b:=ry;obtain⟨_,na,ka,ra,da⟩:=Ah I.ba ha;obtain⟨_,nb,kb,rb,db⟩:=Ah I.ba hb;have l1:ka.length=ks.length:=by rw[<-la.length];exact(Paired.length ra).symm
   have l2:kb.length=ls.length:=by rw[<-lb.length];exact(Paired.length rb).symm
   dsimp only[El] at ee
   by_cases z:ks.length=ls.length
   ·rw[PL z] at ee;have hits:=Gw hu I lb rb la ra ee;have ez:(ka.length==kb.length&&c)=c:=by rw[l1,l2,z,Q5,Bool.true_and]
    exact⟨λQ q=>PySem.W.keq_eq na nb da db (by lia) (λ_=>hits) (by rw[ez];exact q),λQ q=>PySem.W.keq_ne na nb da db (by lia) (λ_=>hits) (by rw[ez];exact q)⟩
   ·rw[P0 z] at ee;cases ee;have ez:(ka.length==kb.length&&false)=false:=Bool.and_false _;have nh:ka.length=kb.length->PySem.W.KeqHits X.A.in1 s kb ka false:=λq=>absurd (by rw[<-l1,<-l2];exact q) z;exact⟨λQ q=>PySem.W.keq_eq na nb da db (by lia) nh (by rw[ez];exact q),λQ q=>PySem.W.keq_ne na nb da db (by lia) nh (by rw[ez];exact q)⟩
theorem Jd(hu:X.A.units+64 < cLine):kG X (compareOp .Eq) df:=by
 intro pins s σ H x y v u Q I rx ry hh;obtain⟨ρ,h,d,e,z,h',S,rd,re,ee,k⟩:=hh;obtain⟨c,e1,e2⟩:=gf ee;cases e2;exact(Eg hu I rx ry S rd re e1).1 _ ⟨.bl _,H,I,rfl,k _ _ (.here S (.bl _))⟩
theorem mU(hu:X.A.units+64 < cLine):kG X (compareOp .NotEq) jE:=by
 intro pins s σ H x y v u Q I rx ry hh;obtain⟨ρ,h,d,e,z,h',S,rd,re,ee,k⟩:=hh;obtain⟨c,e1,e2⟩:=gf ee;cases e2;exact(Eg hu I rx ry S rd re e1).2 _ ⟨.bl _,H,I,rfl,k _ _ (.here S (.bl _))⟩
noncomputable def yF(acc:List (Key×D))(ps:List (Key×D)):List (Key×D):=ps.foldl (λa p=>putD a p.1 p.2) acc
theorem bD.merge{K:FR}{ρ:Ad}{H:Hp}:∀{kvs:List (Key×V)} {ps:List (Key×D)} {acc:List (Key×V)} {ac:List (Key×D)},bD K ρ H acc ac->bD K ρ H kvs ps->bD K ρ H (fL acc kvs) (yF ac ps):=by
 intro kvs
 induction kvs with
 | nil=>intro ps acc ac a b;cases b;exact a
 | cons x kvs ih=>intro ps acc ac a b;cases b with | @cons k v _ d _ r l=>exact ih (acc:=putK acc k v) (ac:=putD ac k d) (a.put r) l
theorem Ao:bootBuiltins "list"=some (.type "list"):=by decide+kernel
theorem lU:bootBuiltins "tuple"=some (.type "tuple"):=by decide+kernel
theorem GV:bootBuiltins "bool"=some (.type "bool"):=by decide+kernel
theorem EF:bootBuiltins "int"=some (.type "int"):=by decide+kernel
theorem vV:bootBuiltins "str"=some (.type "str"):=by decide+kernel
theorem rL:bootBuiltins "len"=some (.builtin "len"):=by decide+kernel
theorem Kp:bootBuiltins "abs"=some (.builtin "abs"):=by decide+kernel
theorem dg:bootBuiltins "isinstance"=some (.builtin "isinstance"):=by decide+kernel
noncomputable def HI(sc:Scope)(x:Str):Bool:=match sc.names.lookup x with
 | some .local=>true
 | some .cell=>true
 | some .free=>true
 | _=>false
noncomputable def Gm(sc:Scope)(x:Str):Bool:=match sc.names.lookup x with
 | some .local=>true
 | some .cell=>true
 | _=>false
noncomputable def Nr(X:Cx)(x:Str):Bool:=X.fn x||(match X.env.scope.names.lookup x with
 | some .local=>true
 | _=>false)
theorem HH(h:HI sc x=true):Kt sc x:=by
 unfold HI at h
 split at h <;> first |(cases h;done) | skip
 ·exact .inl ‹_›
 ·exact .inr (.inl ‹_›)
 ·exact .inr (.inr ‹_›)
theorem DP(h:Gm sc x=true):Loc sc x:=by
 unfold Gm at h
 split at h <;> first |(cases h;done) | skip
 ·exact .inl ‹_›
 ·exact .inr ‹_›
theorem D5(h:Nr X x=true):X.fn x=true\/X.env.scope.names.lookup x=some .local:=by
 unfold Nr at h;rw[Rl] at h;rcases h with h | h
 ·exact .inl h
 ·split at h
  ·exact .inr ‹_›
  ·cases h
theorem sv(i:Nat)(hN:X.N[i]?=some x:=by ac_nf)(hv:HI X.env.scope x=true:=by ac_nf)(hd:(x==("__debug__":Str))=false:=by ac_nf)(hcd:(x==("__classdict__":Str))=false:=by ac_nf):SE X (.Name x pos) (av i):=Ig hN (HH hv) hd hcd
theorem sset(i:Nat)(hN:X.N.Nodup)(he:SE X e ma)(hi:X.N[i]?=some x:=by ac_nf)(hx:Gm X.env.scope x=true:=by ac_nf)(hs:swapsWith e (some (.Name x pos')) pos.line X.env=pure false:=by ac_nf)(hf:Nr X x=true:=by ac_nf):SS X (.Assign [.Name x pos'] e pos) (aR i ma):=HZ hN hi (DP hx) he hs (D5 hf)
theorem sgn(i:Nat)(hN:X.N.Nodup)(hi:X.N[i]?=some x:=by ac_nf)(hx:Gm X.env.scope x=true:=by ac_nf)(hf:Nr X x=true:=by ac_nf):SG X (.Name x pos) (gN i):=Fo hN hi (DP hx) (D5 hf)
noncomputable def AR(i j:Nat)(m:AM):SM:=λδ h=>(m δ h).bind λp=>match p.1 with
 | [a,b]=>some (.nx,(δ.set i (some a)).set j (some b),p.2)
 | _=>none
theorem Fh(i j:Nat){kt k2 pt2}(hN:X.N.Nodup)(hl:jG m 2)(hc:X.calm=true)(hij:i≠j)(P:PS X (.Assign [.Tuple [.Name x px,.Name y py] kt pt] (.Tuple [a,b] k2 pt2) pos) (Ll i j (OV X.K m))):
  SS X (.Assign [.Tuple [.Name x px,.Name y py] kt pt] (.Tuple [a,b] k2 pt2) pos) (AR i j m):=P.imp λE σ H zz=>by
 obtain⟨ρ,δ,h,fl,δ',h',R,S,e,k⟩:=zz;obtain⟨⟨ds,h1⟩,e1,e2⟩:=bw e;refine⟨ρ,δ,h,ds,h1,R,S,e1,λvs ρ1 H1 T1 S1 r1=>?_⟩;obtain⟨d,d',rfl⟩:=Oq (hl _ _ _ _ e1);cases e2;obtain⟨v,u,rfl,rd,rd'⟩:=rep2 r1;exact⟨v,u,rfl,k ρ1 H1 T1 S1 _ (((R.mono T1.toCh).set rd i).set rd' j)⟩
structure Df(P:Program)(w:World)(K:FR)(mg:Str->Option Value)(base:Heap)(nm:Str)(k:Nat)(ps:List Str)(n:Nat)(F:Fn):Prop where
 ex:∃(f:Addr)(fd:FuncData),dY P w K mg base mm k f fd ps (AK K n F)/\PySem.W.keepIn K (.ref f)=true/\Binds K fd ps []/\mg nm=some (.ref f)
theorem LJ(d:Df X.prog X.w X.K X.mg X.base nm k ps n F)(hr:cD k' X.A)(hk:k<=k')(ha:SA X (e::es) m)(hl:jG m n)(hg:Gl X nm:=by unfold Gl;ac_nf)(hdb:(nm==("__debug__":Str))=false:=by ac_nf)(he:starEach (e::es) X.env=(false,eval e X.env)::starEach es X.env:=by ac_nf)(hpl:(backTo pos (starEach es X.env)).any (·.1)=false:=by ac_nf):SE X (.Call (.Name nm p) (e::es) [] pos) (ak F m):=by
 obtain⟨f,fd,G,kf,bf,mf⟩:=d.ex;exact Fw G (hr.mono hk) hg mf kf bf ha hl hdb he hpl
theorem gd{P:Program}{w:World}{K:FR}{mg:Str->Option Value}{base:Heap}{k n:Nat}{f:Addr}{fd:FuncData}{ps:List Str}:dY P w K mg base mm k f fd ps (AK K n λ_ _=>none):=
 ⟨λvs H Q E hh=>(by obtain⟨_,_,_,_,_,_,_,_,e,_⟩:=hh;cases e),λA outer s H args us vs Q E _ _ _ _ hh=>(by obtain⟨_,_,_,_,_,_,_,_,e,_⟩:=hh;cases e)⟩
end Sm
namespace L2
open PySem PySem.Spec PyProof.Rows
abbrev TK:=St->Hp->(St->Hp->Prop)->Prop
def PM(B:Cx)(act:Sem Unit)(t:TK):Prop:=
 ∀(pins:List (Addr×Obj)) (s:Shared) (τ:St) (H:Hp) (N:St->Hp->Prop),Inv B pins τ H s->t τ H N->wpAny (model B.prog B.w) B.A act (λ_ s'=>∃τ' H',Inv B pins τ' H' s'/\N τ' H') B.xe s
def rR(J:It)(g:TG)(tc:TT)(tm:TK)(N:St->Hp->Prop)(τ0:St)(H0:Hp):Prop:=
 ∃W:Nat->Nat->St->Hp->Prop,(∃m,W 0 m τ0 H0)/\∀i m τ H2,W i m τ H2->
  (J.stop i H2/\N τ H2)\/(J.go i H2/\∃N':St->Hp->Prop,(∀τ' H',N' τ' H'->∃m',m' < m/\W (i+1) m' τ' H')/\∀x H',J.G2 i H2 x H'->g x τ H' λτ2 H3=>
   tc τ2 H3 λb H4=>if b=true then tm τ2 H4 N' else N' τ2 H4)
noncomputable def gZ(e:Expr)(d:Nat)(tg:Expr)(ifs:List Expr)(act:Sem Unit)(p:Pos)(it acc:Value)(env:Env):Sem Fin:=do
 standAt p
 match<-pyNext it with
 | none=>pure (.done .next)
 | some v=>
  letOwnedTupleGo tg it v
  assign tg env v
  let mut ok:=true
  for c in ifs do
   if ok then ok<-isTrue c env (eval c env)
  if ok then act
  again (.compLoop e d it acc env)
noncomputable def lC(e:Expr)(d:Nat)(iter:Expr)(acc:Value)(env:Env):Sem Unit:=do
 let x<-eval iter env
 standAt iter.pos
 let x<-foldedSetIterable iter env x;let _<-runOwn (.compStart e d (<-holding [x] (pyIter x)) acc env) env
noncomputable def lM(elt:Expr)(acc:Value)(env:Env):Sem Unit:=do let _<-call (.builtin "list.append") [acc,<-eval elt env]
theorem uq(elt t1 i1 t2 i2:Expr)(f1 f2:List Expr)(sc:Scope)(pos:Pos)(it acc:Value)(env:Env):
  compTurn (.ListComp elt [⟨t1,i1,f1,0⟩,⟨t2,i2,f2,0⟩] sc pos) 0 it acc env=gZ (.ListComp elt [⟨t1,i1,f1,0⟩,⟨t2,i2,f2,0⟩] sc pos) 0 t1 f1 (lC (.ListComp elt [⟨t1,i1,f1,0⟩,⟨t2,i2,f2,0⟩] sc pos) 1 i2 acc env) i1.pos it acc env:=by
 refine Eq.trans (b:=(do
   standAt i1.pos
   match<-pyNext it with
   | none=>pure (.done .next)
   | some v=>
    letOwnedTupleGo t1 it v
    assign t1 env v
    let mut ok:=true
    for c in f1 do
     if ok then ok<-isTrue c env (eval c env)
    if ok then
     let x<-eval i2 env
     standAt i2.pos
     let x<-foldedSetIterable i2 env x;let _<-runOwn (.compStart (.ListComp elt [⟨t1,i1,f1,0⟩,⟨t2,i2,f2,0⟩] sc pos) 1 (<-holding [x] (pyIter x)) acc env) env
    again (.compLoop (.ListComp elt [⟨t1,i1,f1,0⟩,⟨t2,i2,f2,0⟩] sc pos) 0 it acc env):Sem Fin)) rfl ?_
 unfold gZ lC;simp only[bind_assoc,pure_bind]
theorem uo(elt t1 i1 t2 i2:Expr)(f1 f2:List Expr)(sc:Scope)(pos:Pos)(it acc:Value)(env:Env):
  compTurn (.ListComp elt [⟨t1,i1,f1,0⟩,⟨t2,i2,f2,0⟩] sc pos) 1 it acc env=gZ (.ListComp elt [⟨t1,i1,f1,0⟩,⟨t2,i2,f2,0⟩] sc pos) 1 t2 f2 (lM elt acc env) i2.pos it acc env:=by rfl
structure Plain(e:Expr):Prop where
 loop:∀(P:Program)(w:World)(d:Nat)(it acc:Value)(env:Env),(model P w).den (.compLoop e d it acc env)=(compTurn e d it acc env).onRaise (λx=>do noteFrame x env;theTreesLotGoes x)
 start:∀(P:Program)(w:World)(d:Nat)(it acc:Value)(env:Env),(model P w).den (.compStart e d it acc env)=(compStart e d it acc env).onRaise (λx=>do noteFrame x env;standAt theWindowsPlace)
 ul:∀(A:Around)(d:Nat)(it acc:Value)(env:Env),A.under (.compLoop e d it acc env)=A
 us:∀(A:Around)(d:Nat)(it acc:Value)(env:Env),A.under (.compStart e d it acc env)=A
theorem qr(elt:Expr)(gs:List Comprehension)(sc:Scope)(pos:Pos):Plain (.ListComp elt gs sc pos):=⟨λ_ _ _ _ _ _=>rfl,λ_ _ _ _ _ _=>rfl,λ_ _ _ _ _=>rfl,λ_ _ _ _ _=>rfl⟩
theorem Hq(hk:Plain e)(ht:compTurn e d (.ref it) acc B.env=gZ e d tg ifs act p (.ref it) acc B.env)(hc:B.calm=true)(hx:B.xe=λ_ _=>False)(hg:PG B tg g)(hif:ER B ifs tc)(hm:PM B act tm)(I:Inv B pins τ H s)(T:Turn B.prog B.w B.K tg J fp it tn)(st:tn 0 s.heap)(hf:∀b∈fp,gx B pins H b)(hw:rR J g tc tm N τ H):
  codeAny (model B.prog B.w) B.A (.compLoop e d (.ref it) acc B.env) (λr s'=>r=.ok .next/\∃τ' H',Inv B pins τ' H' s'/\N τ' H') s:=by
 obtain⟨W,⟨m0,w0⟩,turn⟩:=hw;have stat:∀{H':Hp},(∀b∈fp,H' b=none)->∀b∈fp,gx B pins H' b:=λhn b hb=>⟨hn b hb,(hf b hb).2⟩;have up:∀{α:Type} {t:Sem α} {Q:α->Shared->Prop} {E:Value->Shared->Prop} {s:Shared},wpAny (model B.prog B.w) B.A t Q B.xe s->wpAny (model B.prog B.w) B.A t Q E s:=λh=>Lh (hx ▸ h);refine codeAny_loop rfl (λn s'=>∃i τ' H',Inv B pins τ' H' s'/\tn i s'.heap/\(∀b∈fp,H' b=none)/\W i n τ' H') ?_ m0 ⟨0,_,_,I,st,λb hb=>(hf b hb).1,w0⟩;rintro n s4 ⟨i,τ4,H4,J4,st4,fr4,w4⟩;rw[hk.ul,hk.loop];refine wpAny_noted ?_;rw[ht];unfold gZ;rcases turn i n τ4 H4 w4 with⟨stop,qn⟩ |⟨go,N',hN,step⟩
 ·refine PD (QP (PD (Qo (T.done B rfl rfl rfl hc i pins s4 τ4 H4 _ J4 (stat fr4) st4 stop) (λr s5 h5=>?_) λ_ _ e=>e)));obtain⟨hr,J5⟩:=h5;subst hr;exact PX ⟨rfl,_,_,J5,qn⟩
 ·refine PD (QP (PD (Qo (T.item B rfl rfl rfl hc i pins s4 τ4 H4 _ J4 (stat fr4) st4 go) (λr s5 h5=>?_) λ_ _ e=>e)));obtain⟨u,hr,h5⟩:=h5;subst hr;refine PD (Qo h5 (λ_ s6 h6=>?_) λ_ _ e=>e);obtain⟨x,H6,J6,r6,y6,st6,fr6⟩:=h6;have J6':=J6.pinned (stat fr6) (T.obj _ _ st6);refine PD (Qo (up (hg _ s6 τ4 H6 x u _ J6' r6 (step x H6 y6))) (λ_ s7 h7=>?_) λ_ _ e=>e);obtain⟨τ7,H7,J7,q7⟩:=h7;have again:∀{τ8:St} {H8:Hp} {s8:Shared},Inv B (pins++mQ fp s6.heap) τ8 H8 s8->N' τ8 H8->
    ∃m,m < n/\∃i τ' H',Inv B pins τ' H' s8/\tn i s8.heap/\(∀b∈fp,H' b=none)/\W i m τ' H':=λ{τ8 H8 s8} J8 n8=>by
   obtain⟨m',hm,w8⟩:=hN τ8 H8 n8;refine⟨m',hm,i+1,τ8,H8,J8.iG,T.keep _ _ _ st6 λb hb o e=>(J8.pin (b,o) (Qa _ (Qa _ (eD hb e)))).1,λb hb=>?_,w8⟩;obtain⟨o,e,d⟩:=T.obj _ _ st6 b hb;exact(J8.pin (b,o) (Qa _ (Qa _ (eD hb e)))).2.1
  refine PD (Qo (up (hif _ s7 τ7 H7 _ J7 q7)) (λok s8 h8=>?_) λ_ _ e=>e);obtain⟨H8,J8,q8⟩:=h8;cases ok with
  | false=>exact PX ⟨rfl,again J8 (by simpa using q8)⟩
  | true=>
   have q8':tm τ7 H8 N':=by simpa using q8
   refine PD (Qo (up (hm _ s8 τ7 H8 _ J8 q8')) (λ_ s9 h9=>?_) λ_ _ e=>e);obtain⟨τ9,H9,J9,n9⟩:=h9;exact PX ⟨rfl,again J9 n9⟩
theorem Ep{env:Env}{it acc:Value}{iter:Expr}{prog:Program}{w:World}{A:Around}{s:Shared}{R:Result->Shared->Prop}(hk:Plain e)(hcl:(clausesOf e)[d]?=some ⟨tg,iter,ifs,0⟩)
  (h0:codeAny (model prog w) A (.compLoop e d it acc env) R s)
  (h:wpAny (model prog w) A (pyIter it) (λit' s'=>codeAny (model prog w) A (.compLoop e d it' acc env) R s') (notedBy (model prog w) A env λx s'=>R (.error x) s') s):
  codeAny (model prog w) A (.compStart e d it acc env) R s:=by
 refine codeAny_of_tree ?_;rw[hk.us,hk.start];refine wpAny_notedAt ?_;unfold compStart;rw[hcl];show wpAny _ _ (ask >>=_) _ _ s;refine PD (wpAny_askSetting (wpAny_ite ?_))
 split
 ·first
   | exact PD (PX (PX (And.intro rfl h0)))
   | exact PX (And.intro rfl h0)
 ·first
   | exact PD (RY (PD (QP (PD (Qo h (λit' s' h'=>PX (And.intro rfl h')) λ_ _ x=>x)))))
   |(refine PD (RY ?_);show wpAny _ _ (standAt iter.pos >>=_) _ _ s;exact PD (QP (PD (Qo h (λit' s' h'=>PX (And.intro rfl h')) λ_ _ x=>x))))
def Lr(wi:TI)(g:TG)(tc:TT)(tm:TK):TK:=λτ H N=>wi τ H λJ H1=>rR J g tc tm N τ H1
theorem FX(hk:Plain e)(hcl:(clausesOf e)[d]?=some ⟨tg,iter,ifs,0⟩)(ht:∀it:Addr,compTurn e d (.ref it) acc B.env=gZ e d tg ifs act p (.ref it) acc B.env)(hc:B.calm=true)(hx:B.xe=λ_ _=>False)(hi:PI B tg iter wi)(hg:PG B tg g)(hif:ER B ifs tc)(hm:PM B act tm)(hs:∀x,foldedSetIterable iter B.env x=pure x:=by intro _;rfl):PM B (lC e d iter acc B.env) (Lr wi g tc tm):=by
 intro pins s τ H N I h;unfold lC;refine PD (cm (hi pins s τ H _ I h) λv s1 h1=>?_);refine PD (QP (PD (wpAny_of_eq (hs v) (PD (Q0 (cm h1 λitv s2 h2=>?_))))));obtain⟨it,fp,tn,J,H2,e,I2,T,st2,f2,hQ⟩:=h2;subst e;have lp:=Hq hk (ht it) hc hx hg hif hm I2 T st2 f2 hQ;refine PD (wpAny_runOwn (Sa (Ep hk hcl lp (T.self B.A 0 _ _ _ st2 lp)) λr s' hr=>?_));obtain⟨rfl,q⟩:=hr;exact PX q
def KG(X:Cx)(na:Sem Value)(o:Addr->HO):Prop:=∀(pins:List (Addr×Obj)) (s:Shared) (σ:St) (H:Hp) (Q:Value->Shared->Prop) (E:Value->Shared->Prop),Inv X pins σ H s->
 (∀(obj:Obj)(t':Nat),Inv X pins σ (upd H s.heap.objs.size (o s.heap.objs.size)) {s with heap:=s.heap.push obj,toks:=t'}->Q (.ref s.heap.objs.size) {s with heap:=s.heap.push obj,toks:=t'})->wpAny (model X.prog X.w) X.A na Q E s
def uw(caps:List (Option Nat))(wi:TI)(o:Addr->HO)(g:TG)(tc:TT)(tm:Addr->TK):TE:=λσ H Q=>wi σ H λJ H1=>∀l,H1 l=none->rR J g tc (tm l) (λ_ H'=>Q (.ref l) H') (i3 caps σ) (upd H1 l (o l))
section
variable {X:Cx} {N':List Str} {caps:List (Option Nat)} {scope:Scope} {e tg iter:Expr} {ifs:List Expr} {p:Pos} {wi:TI} {g:TG} {tc:TT} {tm:Addr->TK} {o:Addr->HO} {na:Sem Value} {act:Addr->Env->Sem Unit}
theorem Kg(S:bj X N' caps scope)(hc:X.calm=true)(hk:Plain e)(hcl:(clausesOf e)[0]?=some ⟨tg,iter,ifs,0⟩)(ht:∀(it l:Addr)(env:Env),compTurn e 0 (.ref it) (.ref l) env=gZ e 0 tg ifs (act l env) p (.ref it) (.ref l) env)
  (hA:KG X na o) (hg:∀C s₃ H₃ fp pl,PG (fU X N' scope C s₃ H₃ fp pl) tg g) (hif:∀C s₃ H₃ fp pl,ER (fU X N' scope C s₃ H₃ fp pl) ifs tc)
  (hm:∀C s₃ H₃ fp pl l,PM (fU X N' scope C s₃ H₃ fp pl) (act l (fU X N' scope C s₃ H₃ fp pl).env) (tm l)) {pins:List (Addr×Obj)} {σ:St} {H:Hp} {s:Shared} {it:Addr} {fp:List Addr} {tn:Nat->Heap->Prop} {J:It}
  (I:Inv X pins σ H s) (T:Turn X.prog X.w X.K tg J fp it tn) (st:tn 0 s.heap) (hf:∀b∈fp,gx X pins H b) {Q:VK} {RR:Value->Addr->Result->Shared->Prop} {E:Value->Shared->Prop}
  (h:∀l,H l=none->rR J g tc (tm l) (λ_ H'=>Q (.ref l) H') (i3 caps σ) (upd H l (o l)))
  (hRR:∀(l C:Addr)(H':Hp)(s':Shared),H' C=none->C≠X.env.locals->X.s₀.heap.objs.size<=C->(∀x c,X.env.cells.lookup x=some c->c≠C)->(∀p∈X.pn++pins,p.1≠C)->(∃m,s'.heap.Ns C m)->Inv X pins σ H' s'->
   (∀h'':Heap,(∀b u,b≠C->s'.heap.get? b=some u->h''.get? b=some u)->Inv X pins σ H' {s' with heap:=h''})->Q (.ref l) H'->RR (.ref l) C (.ok .next) s'):
  wpAny (model X.prog X.w) X.A na (λacc s₃=>wpAny (model X.prog X.w) X.A (newFunctionEnv scope X.env.globals (fD X.env scope.names []) [] X.env.qual none .none (some X.env)) (λcenv s₄=>
   codeAny (model X.prog X.w) X.A (.compStart e 0 (.ref it) acc {cenv with scope:=relabel scope X.env}) (RR acc cenv.locals) s₄) E s₃) E s:=by
 have hw:=h s.heap.objs.size I.fresh;refine hA pins s σ H _ _ I λobj t' I3=>To S.mW (by intro y hy;simp at hy) (λh₁ hns₁ hsb₁=>?_) S.kind;have hltf:∀b∈fp,b < s.heap.objs.size:=λb hb=>by
  obtain⟨o,e,_⟩:=T.obj 0 _ st b hb;exact P2 e
 have hf3:∀b∈fp,gx X pins (upd H s.heap.objs.size (o s.heap.objs.size)) b:=λb hb=>⟨by rw[ay (Qe (hltf b hb))];exact(hf b hb).1,(hf b hb).2⟩;have keep3:∀b u,(s.heap.push obj).get? b=some u->h₁.get? b=some u:=λb u e=>hsb₁.extBut b u (Qe (P2 e)) (PN _ e);have st3:tn 0 h₁:=T.keep 0 _ _ st λb hb o e=>keep3 b o (PN _ e);have hlt3:∀b∈fp,b < (s.heap.push obj).objs.size:=λb hb=>by
  have:=hltf b hb;rw[Sy];exact UX this
 have J0:=Inv.block S I3 hc hf3 hlt3 hns₁ keep3 (t₄:=t');have fpB:∀b∈fp,gx (fU X N' scope (s.heap.push obj).objs.size {s with heap:=s.heap.push obj,toks:=t'} (upd H s.heap.objs.size (o s.heap.objs.size)) fp pins) [] (upd H s.heap.objs.size (o s.heap.objs.size)) b:=λb hb=>by
  obtain⟨f0,f1,f2,f3,f4,f5⟩:=hf3 b hb;refine⟨f0,Qe (hlt3 b hb),λz=>?_,.inl hb,λx c e=>f4 x c (S.look I3.ok e),λp hp=>?_⟩
  ·rcases PZ.mp (I3.mB b z) with q | q
   ·exact f1 q
   ·exact f2 q
  ·rcases Qi.mp hp with q | q
   ·exact f5 p q
   ·cases q
 have lp:=Hq hk (ht it s.heap.objs.size _) rfl rfl (hg _ _ _ _ _) (hif _ _ _ _ _) (hm _ _ _ _ _ s.heap.objs.size) J0 T st3 fpB hw;refine Sa (Ep hk hcl lp (T.self X.A 0 _ _ _ st3 lp)) λr s' hr=>?_;obtain⟨rfl,τ,H',J,q⟩:=hr;refine hRR _ _ H' s' J.free ?_ ?_ ?_ ?_ ?_ ?_ ?_ q
 ·exact(Qe I3.lt).symm
 ·exact I3.sz
 ·intro x c e z;obtain⟨v,o,ho,_⟩:=I3.cell x c e;exact Qe (P2 ho) z
 ·intro p hp z;obtain⟨e,_⟩:=I3.pin p hp;exact Qe (P2 e) z
 ·obtain⟨m,hm,_⟩:=J.loc;exact⟨m,hm⟩
 ·have:=Inv.oZ S I3 hf3 J (h'':=s'.heap) λb u _ e=>e;exact this
 ·exactλh'' hs=>Inv.oZ S I3 hf3 J hs
theorem Dw(S:bj X N' caps scope)(hc:X.calm=true)(hk:Plain e)(hcl:clausesOf e=⟨tg,iter,ifs,0⟩::gs)(ht:∀(it l:Addr)(env:Env),compTurn e 0 (.ref it) (.ref l) env=gZ e 0 tg ifs (act l env) p (.ref it) (.ref l) env)(hA:KG X na o)(hi:PI X tg iter wi)(hg:∀C s₃ H₃ fp pl,PG (fU X N' scope C s₃ H₃ fp pl) tg g)(hif:∀C s₃ H₃ fp pl,ER (fU X N' scope C s₃ H₃ fp pl) ifs tc)(hm:∀C s₃ H₃ fp pl l,PM (fU X N' scope C s₃ H₃ fp pl) (act l (fU X N' scope C s₃ H₃ fp pl).env) (tm l))(he:eval e X.env=comprehension e scope X.env p0 na false (eval iter X.env))(hs:∀x,foldedSetIterable iter X.env x=pure x:=by intro _;rfl):PE X e (uw caps wi o g tc tm):=by
 intro pins s σ H Q I h;rw[he];refine SV (use:=none) hcl hs (ic (S.has I.ok)) S.kind S.names (cm (hi pins s σ H _ I h) λv s1 h1=>cm h1 λitv s2 h2=>?_);obtain⟨it,fp,tn,J,H2,e,I2,T,st2,f2,hQ⟩:=h2;subst e;refine Kg (RR:=λacc C=>compPost (model X.prog X.w) X.A X.xe none (EP X pins σ Q) acc C) S hc hk (by rw[hcl];rfl) ht hA hg hif hm I2 T st2 f2 hQ ?_;intro l C H' s' _ _ _ _ _ hm _ hI q;obtain⟨m,hm⟩:=hm;exact⟨m,hm,λh'' hs''=>⟨.ref l,H',hI h'' λb u hb e=>hs''.extBut b u hb e,rfl,q⟩⟩
end
end L2
namespace Sm
open PySem L2 PySem.Spec PyProof.Rows
structure Ac(α:Type)where
 at_:FR->Ad->Hp->Addr->α->Prop
 mono:∀{K:FR} {ρ ρ':Ad} {H H':Hp} {l:Addr} {a:α},at_ K ρ H l a->Ch ρ H ρ' H'->H' l=H l->at_ K ρ' H' l a
abbrev MK(α:Type):=DS->MH->α->Option (DS×MH×α)
noncomputable def fN{α:Type}(ws:W)(g:GM)(c:TM)(m:MK α):List D->MK α
 | [],δ,h,a=>if lT ws h then some (δ,h,a) else none
 | x::r,δ,h,a=>if lT ws h then(g x δ h).bind λq=>(c q.1 q.2).bind λt=>if t.1 then(m q.1 t.2 a).bind λz=>fN ws g c m r z.1 z.2.1 z.2.2 else fN ws g c m r q.1 t.2 a else none
structure l9(l:Addr)(ρ:Ad)(H:Hp)(ρ':Ad)(H':Hp):Prop where
 ch:Ch ρ H ρ' H'
 rs:ρ'.rs=ρ.rs
 res:∀b∈ρ.rs,b≠l->H' b=H b
theorem l9.refl:l9 l ρ H ρ H:=⟨.refl _ _,rfl,λ_ _ _=>rfl⟩
theorem l9.trans(a:l9 l ρ H ρ1 H1)(b:l9 l ρ1 H1 ρ2 H2):l9 l ρ H ρ2 H2:=⟨a.ch.trans b.ch,b.rs.trans a.rs,λx hx n=>(b.res x (a.rs ▸ hx) n).trans (a.res x hx n)⟩
theorem cM.NB(a:cM ρ H ρ1 H1):l9 l ρ H ρ1 H1:=⟨a.toCh,a.rs,λb hb _=>a.res b hb⟩
inductive M0{α:Type}(K:FR)(A:Ac α)(l:Addr)(m:MK α)(τ:L2.St)(H:Hp)(N:L2.St->Hp->Prop):Prop where
 | mk (ρ δ h a δ' h' a'):b8 K ρ H τ δ->bF K ρ h H->l∈ρ.rs->A.at_ K ρ H l a->(m δ h a=some (δ',h',a'))->(∀ρ' H' τ',l9 l ρ H ρ' H'->bF K ρ' h' H'->b8 K ρ' H' τ' δ'->A.at_ K ρ' H' l a'->N τ' H')->M0 K A l m τ H N
def KN{α:Type}(K:FR)(A:Ac α)(l:Addr)(m:MK α):TK:=λτ H N=>M0 K A l m τ H N
section
variable {α:Type} {K:FR} {A:Ac α} {l:Addr} {g:GM} {mt:TM} {m:MK α}
theorem zC(It:K0 K J ρ H ws xs)(T1:Ch ρ H ρ1 H1)(R:b8 K ρ1 H1 τ δ)(S:bF K ρ1 h H1)(hl:l∈ρ1.rs)(hA:A.at_ K ρ1 H1 l a)(e:fN ws g mt m xs δ h a=some (δ',h',a'))(k:∀ρ2 H2 τ2,l9 l ρ1 H1 ρ2 H2->bF K ρ2 h' H2->b8 K ρ2 H2 τ2 δ'->A.at_ K ρ2 H2 l a'->N τ2 H2):rR J (EY K g) (BX K mt) (KN K A l m) N τ H1:=by
 refine⟨λi n τ2 H2=>∃(ρ2:Ad)(δ2:DS)(h2:MH)(a2:α),n=xs.length-i/\i<=xs.length/\l9 l ρ1 H1 ρ2 H2/\b8 K ρ2 H2 τ2 δ2/\bF K ρ2 h2 H2/\A.at_ K ρ2 H2 l a2/\fN ws g mt m (xs.drop i) δ2 h2 a2=some (δ',h',a'),
  ⟨_,ρ1,δ,h,a,rfl,Rx _,.refl,R,S,hA,e⟩,?_⟩
 rintro i n τ2 H2 ⟨ρ2,δ2,h2,a2,rfl,hi,T2,R2,S2,hA2,e3⟩;have hl2:l∈ρ2.rs:=by rw[T2.rs];exact hl
 cases q:xs.drop i with
 | nil=>
  rw[q] at e3;unfold fN at e3
  by_cases hc:lT ws h2=true
  ·rw[PL hc] at e3;cases e3;have hle:xs.length<=i:=by have:=congrArg List.length q;rw[Q7,QJ] at this;lia
   exact .inl ⟨(It.run _ H2 _ (T1.trans T2.ch) S2 hc i).1 hle,k _ _ _ T2 S2 R2 hA2⟩
  ·rw[P0 hc] at e3;cases e3
 | cons x r=>
  rw[q] at e3;unfold fN at e3
  by_cases hc:lT ws h2=true
  ·rw[PL hc] at e3;have hx:xs[i]?=some x:=by
    have:=congrArg (λl=>l[0]?) q
    simpa using this
   have hlt:i < xs.length:=(PH.mp hx).1;have hr:xs.drop (i+1)=r:=by
    have:=congrArg List.tail q
    simpa using this
   obtain⟨⟨δ3,h3⟩,e4,e5⟩:=bw e3;obtain⟨⟨t,h4⟩,e6,e7⟩:=bw e5;dsimp only at e4 e5 e6 e7;obtain⟨hgo,hy⟩:=(It.run _ H2 h2 (T1.trans T2.ch) S2 hc i).2 x hx;refine .inr ⟨hgo,λτ5 H5=>∃(ρ5:Ad)(δ5:DS)(h5:MH)(a5:α),l9 l ρ1 H1 ρ5 H5/\b8 K ρ5 H5 τ5 δ5/\bF K ρ5 h5 H5/\A.at_ K ρ5 H5 l a5/\fN ws g mt m r δ5 h5 a5=some (δ',h',a'),?_,?_⟩
   ·rintro τ5 H5 ⟨ρ5,δ5,h5,a5,T5,R5,S5,A5,e5⟩;exact⟨xs.length-(i+1),by lia,ρ5,δ5,h5,a5,rfl,hlt,T5,R5,S5,A5,by rw[hr];exact e5⟩
   ·intro v H3 y3;obtain⟨T3,S3,r3⟩:=hy v H3 y3;refine⟨ρ2,δ2,h2,x,δ3,h3,R2.mono T3.toCh,S3,r3,e4,λρ4 H4 τ4 T4 S4 R4=>?_⟩;refine⟨ρ4,δ3,h3,t,h4,R4,S4,e6,λρ5 H5 T5 S5=>?_⟩;have T25:cM ρ2 H2 ρ5 H5:=T3.trans (T4.trans T5);have A5:A.at_ K ρ5 H5 l a2:=A.mono hA2 T25.toCh (T25.res l hl2);cases t with
    | false=>
     rw[P0 (by simp)] at e7;exact JH ⟨ρ5,δ3,h4,a2,T2.trans T25.NB,R4.mono T5.toCh,S5,A5,e7⟩
    | true=>
     rw[PL rfl] at e7;obtain⟨⟨δ6,h6,a6⟩,e8,e9⟩:=bw e7;refine JG ⟨ρ5,δ3,h4,a2,δ6,h6,a6,R4.mono T5.toCh,S5,by rw[T25.rs];exact hl2,A5,e8,λρ7 H7 τ7 T7 S7 R7 A7=>?_⟩;exact⟨ρ7,δ6,h6,a6,(T2.trans T25.NB).trans T7,R7,S7,A7,e9⟩
  ·rw[P0 hc] at e3;cases e3
theorem CV(h0:∀ρ H l,A.at_ K ρ (upd H l (o l)) l a0)(hh:∃ρ δ h xs ws h1 δ' h' a',b8 K ρ H σ δ/\bF K ρ h H/\mi δ h=some (xs,ws,h1)/\fN ws g mt m xs (cS caps δ) h1 a0=some (δ',h',a')/\∀l ρ' H',cM ρ H ρ' H'->bF K ρ' h' H'->¬ρ'.has l->A.at_ K ρ' H' l a'->Q (.ref l) H'):
  uw caps (KO K mi) o (EY K g) (BX K mt) (λl=>KN K A l m) σ H Q:=by
 obtain⟨ρ,δ,h,xs,ws,h1,δ',h',a',R,S,e1,e2,k⟩:=hh;refine⟨ρ,δ,h,xs,ws,h1,R,S,e1,λJ ρ1 H1 T1 S1 It l hl=>?_⟩;have nl:¬ρ1.has l:=S1.fresh hl;have Tl:Ch ρ1 H1 (ρ1.keep l) (upd H1 l (o l)):=Ch.keep hl;refine zC It Tl (((R.mono T1.toCh).i3 caps).mono Tl) (S1.keep hl) (PQ) (h0 _ _ _) e2 λρ2 H2 τ2 T2 S2 R2 A2=>?_;obtain⟨ob2,rs2⟩:=ρ2;have ers:rs2=l::ρ1.rs:=T2.rs;subst ers;have hsub:∀b∈ρ1.rs,b∈l::ρ1.rs:=λb hb=>PV _ hb;have C2:Ch ⟨ob2,l::ρ1.rs⟩ H2 ⟨ob2,ρ1.rs⟩ H2:=Ch.free hsub;have hne:∀b∈ρ1.rs,b≠l:=λb hb z=>nl (.inr (z ▸ hb));have T2':cM ρ1 H1 ⟨ob2,ρ1.rs⟩ H2:=⟨(Tl.trans T2.ch).trans C2,rfl,λb hb=>(T2.res b (hsub b hb) (hne b hb)).trans (ay (hne b hb))⟩;refine k l _ H2 (T1.trans T2') (S2.free hsub) (λz=>?_) (A.mono A2 C2 rfl);rcases z with z | z
 ·exact(S2.rV l PQ).2 z
 ·exact nl (.inr z)
end
def ON{α:Type}(X:Cx)(act:Addr->Env->Sem Unit)(A:Ac α)(m:MK α):Prop:=∀l,L2.PM X (act l X.env) (KN X.K A l m)
theorem _root_.L2.PM.imp(h:L2.PM X a t)(i:∀σ H Q,t' σ H Q->t σ H Q):L2.PM X a t':=λpins s σ H Q I q=>h pins s σ H Q I (i σ H Q q)
noncomputable def om{α:Type}(i:IM)(g:GM)(c:TM)(m:MK α):MK α:=λδ h a=>(i δ h).bind λp=>fN p.2.1 g c m p.1 δ p.2.2 a
section
variable {α:Type} {X:Cx} {A:Ac α} {g:GM} {mt:TM} {m:MK α} {mi:IM} {e tg iter:Expr} {ifs:List Expr} {d:Nat} {p:Pos} {act:Addr->Env->Sem Unit}
theorem Fi(hk:Plain e)(hcl:(clausesOf e)[d]?=some ⟨tg,iter,ifs,0⟩)(ht:∀(it l:Addr)(env:Env),compTurn e d (.ref it) (.ref l) env=gZ e d tg ifs (act l env) p (.ref it) (.ref l) env)(hc:X.calm=true)(hx:X.xe=λ_ _=>False)
  (hi:SI X tg iter mi) (hg:SG X tg g) (hif:Ky X ifs mt) (hm:ON X act A m) (hs:∀x,foldedSetIterable iter X.env x=pure x:=by intro _;ac_nf):ON X (λl env=>lC e d iter (.ref l) env) A (om mi g mt m):=λl=>
 (FX hk hcl (λit=>ht it l X.env) hc hx hi hg hif (hm l) hs).imp λσ H Q ⟨ρ,δ,h,a,δ',h',a',R,S,hl,hA,ee,k⟩=>by
  obtain⟨⟨xs,ws,h1⟩,e1,e2⟩:=bw ee;exact⟨ρ,δ,h,xs,ws,h1,R,S,e1,λJ ρ1 H1 T1 S1 It=>zC It (.refl _ _) (R.mono T1.toCh) S1 (by rw[T1.rs];exact hl) (A.mono hA T1.toCh (T1.res l hl)) e2 λρ2 H2 τ2 T2 S2 R2 A2=>k ρ2 H2 τ2 (T1.NB.trans T2) S2 R2 A2⟩
end
end Sm
namespace L2
open PySem PySem.Spec PyProof.Rows
section
variable {P:Program} {w:World} {A:Around} {E:Value->Shared->Prop} {s:Shared} {a:Addr} {ks:List Str}
end
noncomputable def BY(a b:Str):Bool:=!ltCps b.cps.toList a.cps.toList
theorem hW:BY a b=true↔strKind.kle a.cps.toList b.cps.toList:=by
 unfold BY KeyOrd.kle;rw[ltCps_eq];simp
theorem tN(a b c:Str)(h1:BY a b=true)(h2:BY b c=true):BY a c=true:=hW.mpr (KeyOrd.kle_trans (hW.mp h1) (hW.mp h2))
theorem Bq(a b:Str):(BY a b||BY b a)=true:=by
 rw[Rl]
 by_cases z:strKind.klt b.cps.toList a.cps.toList
 ·exact .inr (hW.mpr (KeyOrd.kle_of_klt z))
 ·exact .inl (hW.mpr (KeyOrd.kle_of_not_klt z))
theorem DQ(a b:Str)(h1:BY a b=true)(h2:BY b a=true):a=b:=by
 have:=KeyOrd.kle_antisymm (hW.mp h1) (hW.mp h2);cases a;cases b;congr 1;exact Array.toList_inj.mp this
noncomputable def il(ks:List Str):List Str:=ks.mergeSort BY
theorem cN(ks:List Str):(il ks).Perm ks:=UK _ _
theorem uz(ks:List Str):(il ks).Pairwise λa b=>BY a b=true:=Uo tN Bq ks
theorem td:∀(l:List Str)(p:Str),risingS p l=true->(p::l).Pairwise λa b=>BY a b=true
 | [],p,_=>by simp
 | x::r,p,h=>by
  have h':(!ltCps x.cps.toList p.cps.toList&&risingS x r)=true:=h;rw[Qm] at h';have ih:=td r x h'.2;refine UP.mpr ⟨λy hy=>?_,ih⟩;rcases PZ.mp hy with rfl | hy
  ·exact h'.1
  ·exact tN _ _ _ h'.1 ((UP.mp ih).1 y hy)
theorem CA(hp:ss.Perm ks)(h:sortedS ss=true):ss=il ks:=by
 refine Ug (λa b _ _=>DQ a b) ?_ (uz ks) (hp.trans (cN ks).symm)
 match ss,h with
 | [],_=>exact .nil
 | x::r,h=>exact td r x h
theorem A9:KG X (newList []) (λ_=>.lst []):=λpins s σ H Q E I h=>QH (h _ _ (I.Gn (t':=s.toks) (its:=[]) (ys:=[]) .nil (Rx _)))
def HW(te:TE)(l:Addr):TK:=λτ H N=>te τ H λy H5=>∃xs,H5 l=some (.lst xs)/\xs.length < sizeLine/\N τ (upd H5 l (.lst (xs++[y])))
theorem FY(he:PE B elt te):PM B (lM elt (.ref l) B.env) (HW te l):=λpins s τ H N I h=>by
 unfold lM;refine PD (cm (he pins s τ H _ I h) λy s9 h9=>?_);obtain⟨yv,H9,J9,r9,xs,hx,hz,n9⟩:=h9;refine PD (Qo (mY (X:=B) _ s9 τ H9 (.ref l) [yv] (.ref l) [y] (λ_ H'=>N τ H') J9 rfl (.cons r9 .nil) ⟨_,xs,yv,rfl,rfl,hx,hz,n9⟩) (λ_ s10 h10=>?_) λ_ _ e=>e);obtain⟨_,H10,J10,_,n10⟩:=h10;exact PX ⟨_,_,J10,n10⟩
end L2
namespace Sm
open PySem L2 PySem.Spec PyProof.Rows
noncomputable def Nt:Ac (List D) where
 at_:=λK ρ H l a=>∃vs,H l=some (.lst vs)/\aF K ρ H vs a
 mono:=λ⟨vs,e,r⟩ T q=>⟨vs,q.trans e,r.mono T⟩
noncomputable def mL(e:EM):MK (List D):=λδ h a=>(e δ h).bind λp=>if a.length < sizeLine then some (δ,p.2,a++[p.1]) else none
theorem l9.put{K:FR}(T:cM ρ H ρ1 H1)(hl:l∈ρ.rs):l9 l ρ H ρ1 (upd H1 l o):=by
 have hl1:l∈ρ1.rs:=by rw[T.rs];exact hl
 exact⟨T.toCh.trans (Ch.put hl1),T.rs,λb hb n=>(ay n).trans (T.res b hb)⟩
theorem Fj(he:SE X elt me):ON X (λl env=>lM elt (.ref l) env) Nt (mL me):=λl=>(FY he).imp λτ H N ⟨ρ,δ,h,a,δ',h',a',R,S,hl,⟨vs,hv,rl⟩,e,kk⟩=>by
 obtain⟨⟨y,h1⟩,e1,e2⟩:=bw e;dsimp only at e2
 by_cases hz:a.length < sizeLine
 ·rw[PL hz] at e2;cases e2;refine⟨ρ,δ,h,y,_,R,S,e1,λu H1 ⟨ρ1,T1,S1,r1⟩=>⟨vs,(T1.res l hl).trans hv,by rw[rl.length];exact hz,?_⟩⟩;have hl1:l∈ρ1.rs:=by rw[T1.rs];exact hl
  have Cp:Ch ρ1 H1 ρ1 (upd H1 l (.lst (vs++[u]))):=Ch.put hl1;exact kk ρ1 _ τ (l9.put (K:=X.K) T1 hl) (S1.put hl1) ((R.mono T1.toCh).mono Cp) ⟨_,aP,((rl.mono T1.toCh).snoc r1).mono Cp⟩
 ·rw[P0 hz] at e2;cases e2
theorem bD.len{K:FR}{ρ:Ad}{H:Hp}:∀{us:List (Key×V)} {ks:List (Key×D)},bD K ρ H us ks->us.length=ks.length
 | _,_,.nil=>rfl
 | _,_,.cons _ r=>by rw[P1,P1,r.len]
end Sm
namespace L2
open PySem PySem.Spec PyProof.Rows
theorem Az{us:List Value}{ss:List Str}(a:StrsAre us ss):Vals (ss.map V.str) us:=by
 induction a with
 | nil=>exact .nil
 | cons x t r ih=>exact .cons ⟨t,rfl⟩ ih
end L2
namespace Sm
open PySem L2 PySem.Spec PyProof.Rows
noncomputable def JU{α:Type}(caps:List (Option Nat))(i:IM)(g:GM)(c:TM)(m:MK α)(a0:α)(out:α->D):EM:=λδ h=>(i δ h).bind λp=>(fN p.2.1 g c m p.1 (cS caps δ) p.2.2 a0).map λq=>(out q.2.2,q.2.1)
section
variable {α:Type} {K:FR} {A:Ac α} {g:GM} {mt:TM} {m:MK α}
theorem Iw(h0:∀ρ H l,A.at_ K ρ (upd H l (o l)) l a0)(hout:∀ρ H l a,A.at_ K ρ H l a->¬ρ.has l->Rep K ρ H (.ref l) (out a))(hh:tM K (JU caps mi g mt m a0 out) σ H Q):uw caps (KO K mi) o (EY K g) (BX K mt) (λl=>KN K A l m) σ H Q:=by
 obtain⟨ρ,δ,h,d,h',R,S,ee,k⟩:=hh;obtain⟨⟨xs,ws,h1⟩,e1,e2⟩:=bw ee;obtain⟨⟨δ',h2,a'⟩,e3,e4⟩:=gf e2;cases e4;exact CV h0 ⟨ρ,δ,h,xs,ws,h1,δ',_,a',R,S,e1,e3,λl ρ' H' T S' n at'=>k _ _ ⟨ρ',T,S',hout _ _ _ _ at' n⟩⟩
theorem LL{caps:List (Option Nat)}{mi:IM}{m:MK (List D)}{σ:L2.St}{H:Hp}{Q:VK}(hh:tM K (JU caps mi g mt m [] .lv) σ H Q):uw caps (KO K mi) (λ_=>.lst []) (EY K g) (BX K mt) (λl=>KN K Nt l m) σ H Q:=
 Iw (A:=Nt) (o:=λ_=>.lst []) (a0:=[]) (out:=.lv) (λρ H l=>show ∃us,_ from⟨[],aP,.nil⟩) (λρ H l a h n=>by obtain⟨us,e,r⟩:=h;exact .lv e n r) hh
end
section
variable {X:Cx} {k v tg iter elt tg2 iter2:Expr} {pos:Pos} {mk mv me:EM} {mt mt2:TM} {g g2:GM} {N':List Str} {caps:List (Option Nat)} {scope:Scope} {ifs ifs2:List Expr} {mi mi2:IM}
theorem AN(C:bj X N' caps scope)(hc:X.calm=true)(hi:SI X tg iter mi)(hg:∀C s₃ H₃ fp pl,SG (fU X N' scope C s₃ H₃ fp pl) tg g)(hif:∀C s₃ H₃ fp pl,Ky (fU X N' scope C s₃ H₃ fp pl) ifs mt)
  (hi2:∀C s₃ H₃ fp pl,SI (fU X N' scope C s₃ H₃ fp pl) tg2 iter2 mi2) (hg2:∀C s₃ H₃ fp pl,SG (fU X N' scope C s₃ H₃ fp pl) tg2 g2) (hif2:∀C s₃ H₃ fp pl,Ky (fU X N' scope C s₃ H₃ fp pl) ifs2 mt2)
  (he:∀C s₃ H₃ fp pl,SE (fU X N' scope C s₃ H₃ fp pl) elt me) (hs:∀x,foldedSetIterable iter X.env x=pure x:=by intro _;ac_nf) (hs2:∀env x,foldedSetIterable iter2 env x=pure x:=by intro _ _;ac_nf):
  SE X (.ListComp elt [⟨tg,iter,ifs,0⟩,⟨tg2,iter2,ifs2,0⟩] scope pos) (JU caps mi g mt (om mi2 g2 mt2 (mL me)) [] .lv):=
 (Dw (g:=EY X.K g) (tc:=BX X.K mt) (tm:=λl=>KN X.K Nt l (om mi2 g2 mt2 (mL me))) C hc (qr ..) rfl (λit l env=>uq ..) A9 hi hg hif
  (λC s₃ H₃ fp pl l=>Fi (X:=fU X N' scope C s₃ H₃ fp pl) (qr ..) rfl (λit l env=>uo ..) rfl rfl (hi2 C s₃ H₃ fp pl) (hg2 C s₃ H₃ fp pl) (hif2 C s₃ H₃ fp pl) (Fj (he C s₃ H₃ fp pl)) (hs2 _) l) rfl hs).imp λ_ _ _=>
  LL
theorem sV{K:FR}{ρ:Ad}{H:Hp}:∀(ss:List Str),(∀k∈ss,PyData.strOk k=true)->aF K ρ H (ss.map V.str) (ss.map D.str)
 | [],_=>.nil
 | x::r,h=>.cons (.str (h x PQ)) (sV r λk hk=>h k (PV _ hk))
end
end Sm
namespace L2
open PySem PySem.Spec PyProof.Rows
section
variable {X:Cx} {e st:Expr} {te ts:TE} {pos p2:Pos}
end
end L2
namespace Sm
open PySem L2 PySem.Spec PyProof.Rows
section
variable {X:Cx} {e st a b c:Expr} {ma ms mb mc:EM} {pos p2:Pos}
abbrev Hy:=DS->MH->Option (List (Key×D)×MH)
noncomputable def F9:Hy:=λ_ h=>some ([],h)
noncomputable def dZ(k v:EM)(r:Hy):Hy:=λδ h=>(k δ h).bind λp=>(v δ p.2).bind λq=>(vy p.1).bind λkk=>(r δ q.2).map λz=>((kk,q.1)::z.1,z.2)
inductive MW(K:FR)(m:Hy)(σ:L2.St)(H:Hp)(Q:List (V×V)->Hp->Prop):Prop where
 | mk (ρ δ h kvs h'):b8 K ρ H σ δ->bF K ρ h H->(m δ h=some (kvs,h'))->(∀us ρ' H',cM ρ H ρ' H'->bF K ρ' h' H'->bD K ρ' H' us kvs->Q (us.map λkv=>(kV kv.1,kv.2)) H')->MW K m σ H Q
def Pp(K:FR)(m:Hy):L2.St->Hp->(List (V×V)->Hp->Prop)->Prop:=λσ H Q=>MW K m σ H Q
def SP(X:Cx)(pos:Pos)(keys:List (Option Expr))(vals:List Expr)(m:Hy):Prop:=∃trs,KD X pos keys vals trs/\∀σ H Q,Pp X.K m σ H Q->uv trs σ H Q
theorem Cy:SP X pos [] [] F9:=⟨[],FU,λσ H Q ⟨ρ,δ,h,kvs,h',R,S,e,k⟩=>by
 cases e;exact k [] ρ H (.refl _ _) S .nil⟩
theorem dO(hk:SE X kx mk)(hv:SE X vx mv)(hr:SP X pos ks vs m):SP X pos (some kx::ks) (vx::vs) (dZ mk mv m):=by
 obtain⟨trs,h1,h2⟩:=hr;refine⟨_,Dm hk hv h1,λσ H Q ⟨ρ,δ,h,kvs,h',R,S,ee,k⟩=>?_⟩;obtain⟨⟨x,ha⟩,e1,e2⟩:=bw ee;obtain⟨⟨y,hb⟩,e3,e4⟩:=bw e2;obtain⟨kk,e5,e6⟩:=bw e4;obtain⟨⟨zs,hz⟩,e7,e8⟩:=gf e6;cases e8;refine⟨ρ,δ,h,x,ha,R,S,e1,λv H1 ⟨ρ1,T1,S1,r1⟩=>⟨ρ1,δ,ha,y,hb,R.mono T1.toCh,S1,e3,λu H2 ⟨ρ2,T2,S2,r2⟩=>?_⟩⟩;refine h2 σ H2 _ ⟨ρ2,δ,hb,zs,_,(R.mono T1.toCh).mono T2.toCh,S2,e7,λus ρ3 H3 T3 S3 r3=>?_⟩;have ek:=jt r1 e5;subst ek;exact k ((kk,u)::us) ρ3 H3 ((T1.trans T2).trans T3) S3 (.cons (r2.mono T3.toCh) r3)
noncomputable def Hn(m:Hy):EM:=λδ h=>(m δ h).bind λp=>if p.1.length<=15 then some (.dv (yF [] p.1),p.2) else none
theorem Fv(h:SP X pos keys vals m)(hall:keys.all (·.isSome)=true)(hl:keys.length=vals.length)(h0:keys≠[])(hp:∀trs,KD X pos keys vals trs->PE X (.Dict keys vals pos) (Ct trs)):SE X (.Dict keys vals pos) (Hn m):=by
 obtain⟨trs,h1,h2⟩:=h;refine(hp trs h1).imp λσ H Q ⟨ρ,δ,h,d,h',R,S,ee,k⟩ p hpn=>?_;obtain⟨⟨kvs,ha⟩,e1,e2⟩:=bw ee;dsimp only at e2
 by_cases z:kvs.length<=15
 ·rw[PL z] at e2;cases e2;have Tl:Ch ρ H (ρ.keep p) (upd H p (.dK [])):=Ch.keep hpn;have nl:¬ρ.has p:=S.fresh hpn;refine h2 σ _ _ ⟨ρ.keep p,δ,h,kvs,_,R.mono Tl,S.keep hpn,e1,λus ρ2 H2 T2 S2 r2=>?_⟩;have hp2:H2 p=some (.dK []):=(T2.res p PQ).trans aP;refine⟨hp2,us,rfl,by rw[r2.len];exact z,?_⟩;obtain⟨ob2,rs2⟩:=ρ2;have ers:rs2=p::ρ.rs:=T2.rs;subst ers;have hml:p∈(⟨ob2,p::ρ.rs⟩:Ad).rs:=PQ;have hsub:∀b∈ρ.rs,b∈p::ρ.rs:=λb hb=>PV _ hb;have hne:∀b∈ρ.rs,b≠p:=λb hb z=>nl (.inr (z ▸ hb));have Cp:Ch ⟨ob2,p::ρ.rs⟩ H2 ⟨ob2,p::ρ.rs⟩ (upd H2 p (.dK (fL [] us))):=Ch.put hml;have C2:Ch ⟨ob2,p::ρ.rs⟩ (upd H2 p (.dK (fL [] us))) ⟨ob2,ρ.rs⟩ (upd H2 p (.dK (fL [] us))):=Ch.free hsub;refine k _ _ ⟨⟨ob2,ρ.rs⟩,⟨((Tl.trans T2.toCh).trans Cp).trans C2,rfl,λb hb=>?_⟩,(S2.put hml).free hsub,.dv aP (λz=>?_) ((bD.merge .nil r2).mono (Cp.trans C2))⟩
  ·show upd H2 p _ b=H b;rw[ay (hne b hb),T2.res b (hsub b hb)];exact ay (hne b hb)
  ·rcases z with z | z
   ·exact(S2.rV p PQ).2 z
   ·exact nl (.inr z)
 ·rw[P0 z] at e2;cases e2
end
end Sm
namespace L2
open PySem PySem.Spec PyProof.Rows
open HT in
theorem AE{t sl:Addr}{items:Array Value}{vl vu:Value}{lo hi:Option Int}{Q:Value->Shared->Prop}(ht:IsTup s.heap t items)(hs:s.heap.IsSliceOf sl vl vu .none)(pl:IsPart vl lo)(pu:IsPart vu hi)
  (hw:cE items.size 0 lo=0/\cE items.size items.size hi=items.size) (h:Q (.ref t) s):wpAny (model prog w) A (getItem (.ref t) (.ref sl)) Q E s:=by
 obtain⟨os,hos,hcs,hds⟩:=id hs;have hTs:s.TypeIs (.ref sl) "slice":=⟨os,hos,hcs⟩;unfold getItem
 try with_reducible refine Q0 ?_
 first | refine PD (PX ?_) | skip
 refine PD (wpAny_sequenceKey ht.typeIs (by decide) ?_);refine PD (Q3 (name:=Str.ofString "__getitem__") ht.typeIs QF (Rj QF ht.typeIs entry_tuple_getitem ?_ (args_tuple_getitem _ _)));show wpAny _ _ (Builtin.Tuple.tupleItemsOf (.ref t) >>=_) _ _ s;refine PD (tupleItemsOf_ ht (PD (TN hTs ?_)));rw[PL (by decide)];refine PD (gB hs pl pu ?_);show wpAny _ _ (if(((cE items.size 0 lo:Nat):Int)==0&&(1:Int)==1&&(cE items.size items.size hi-cE items.size 0 lo)==items.size)=true then _ else _) _ _ s;rw[PL (by rw[hw.1,hw.2];simp)];unfold Builtin.Tuple.tupleIsExact;simp only[bind_assoc,pure_bind];refine PD (TN ht.typeIs ?_);rw[PL (by decide)]
 first
  | exact PD (RY (PX ⟨_,rfl,PX h⟩))
  | exact PD (RY (PD (PX (PX ⟨_,rfl,PX h⟩))))
def N5(K:FR):V->Option Int->Option Int->Hp->VK->Prop:=λx lo hi H Q=>∃a xs,x=.ref a/\jB K H a xs/\(HT.cE xs.length 0 lo=0/\HT.cE xs.length xs.length hi=xs.length)/\Q (.ref a) H
theorem CB:Kx X (N5 X.K):=by
 intro pins s σ H x v vl vu lo hi sl Q I rx hs pl pu h;obtain⟨a,xs,rfl,hx,hw,q⟩:=h;cases rx;obtain⟨its,r,ht,hz⟩:=I.tuple hx;have hlen:its.toArray.size=xs.length:=by rw[P5];exact r.length.symm
 exact⟨"tuple",_,QF.lookup,ht.typeIs,AE ht hs pl pu (by rw[hlen];exact hw) ⟨.ref a,H,I,rfl,q⟩⟩
end L2
namespace Sm
open PySem L2 PySem.Spec PyProof.Rows
section
variable {X:Cx}
noncomputable def iD(d:D)(lo hi:Option Int)(h:MH):Option (D×MH):=match d with
 | .tup xs=>if HT.cE xs.length 0 lo=0/\HT.cE xs.length xs.length hi=xs.length then some (.tup xs,h) else some (.tup (cutD xs lo hi),h)
 | d=>Mx d lo hi h
noncomputable def iE(a:EM)(l u:PM):EM:=λδ h=>(a δ h).bind λp=>(l δ p.2).bind λq=>(u δ q.2).bind λr=>iD p.1 q.1 r.1 r.2
inductive Hw(K:FR)(x:V)(lo hi:Option Int)(H:Hp)(Q:VK):Prop where
 | mk (ρ h d z h'):bF K ρ h H->Rep K ρ H x d->(iD d lo hi h=some (z,h'))->(∀v H',cT K ρ H h' z v H'->Q v H')->Hw K x lo hi H Q
def N9(K:FR):V->Option Int->Option Int->Hp->VK->Prop:=λx lo hi H Q=>Hw K x lo hi H Q
theorem HY:Kx X (N9 X.K):=by
 intro pins s σ H x v vl vu lo hi sl Q I rx hs pl pu hh;obtain⟨ρ,h,d,z,h',S,rd,ee,k⟩:=hh;cases d with
 | tup xs=>
  unfold iD at ee;dsimp only at ee
  by_cases c:HT.cE xs.length 0 lo=0/\HT.cE xs.length xs.length hi=xs.length
  ·rw[PL c] at ee;cases ee;have rd0:=rd;cases rd with | tup h0 l0=>
   exact CB pins s σ H _ v vl vu lo hi sl Q I rx hs pl pu ⟨_,_,rfl,h0.sq,by rw[l0.length];exact c,k _ _ (.here S rd0)⟩
  ·rw[P0 c] at ee;exact G7 pins s σ H x v vl vu lo hi sl Q I rx hs pl pu ⟨ρ,h,_,z,h',S,rd,by unfold Mx;dsimp only;rw[P0 c];exact ee,k⟩
 | _=>exact G7 pins s σ H x v vl vu lo hi sl Q I rx hs pl pu ⟨ρ,h,_,z,h',S,rd,ee,k⟩
theorem CG{a:Expr}{lo hi:Option Expr}{pos p2:Pos}{ma:EM}{ml mu:PM}(ha:SE X a ma)(hl:SP' X lo ml)(hu:SP' X hi mu):SE X (.Subscript a (.Slice lo hi none p2) pos) (iE ma ml mu):=
 (Ds HY ha hl hu).imp λσ H Q ⟨ρ,δ,h,d,h',R,S,e,k⟩=>by
  obtain⟨⟨x,h1⟩,e1,e2⟩:=bw e;obtain⟨⟨l,h2⟩,e3,e4⟩:=bw e2;obtain⟨⟨u,h3⟩,e5,e6⟩:=bw e4;exact⟨ρ,δ,h,x,h1,R,S,e1,λv H1 ⟨ρ1,T1,S1,r1⟩=>⟨ρ1,δ,h1,l,h2,R.mono T1.toCh,S1,e3,λρ2 H2 T2 S2=>⟨ρ2,δ,h2,u,h3,(R.mono T1.toCh).mono T2.toCh,S2,e5,λρ3 H3 T3 S3=>
   ⟨ρ3,h3,x,d,h',S3,r1.mono (T2.trans T3).toCh,e6,λw H4 p=>k w H4 (p.step (T1.trans (T2.trans T3)))⟩⟩⟩⟩
noncomputable def nj:Fn:=λds h=>match ds with
 | [.bl b]=>some (.int (if b then 1 else 0),h)
 | _=>none
theorem Kb:gm X (.type "int") nj:=by
 intro pins s σ H xs us Q I r hh;obtain⟨ρ,h,ds,z,h',S,l,ee,k⟩:=hh
 match ds,l,ee with
 | [],_,ee=>exact bV ee
 | _::_::_,_,ee=>exact absurd ee (by unfold nj;split <;> simp_all)
 | [d],l,ee=>
  obtain⟨v,rfl,rd⟩:=rep1 l;cases rd <;> first |(exact bV ee) | skip
  cases ee;obtain⟨u,rfl,ru⟩:=Vals.one r;cases ru;exact call_int_bool ⟨.int _,H,I.kept (t':=s.toks+1) (h':=s.heap) λ_ _ e=>e,⟨_,rfl⟩,k _ _ (.here S (.int _))⟩
noncomputable def gQ(d e:D)(h:MH):Option (D×MH):=match d,e with
 | .str x,.int n=>if x.length<=1000/\0<=n/\n<=1000/\PyData.strOk (Txt.mul x n)=true then some (.str (Txt.mul x n),h) else none
 | d,e=>JO d e h
theorem gb:kG X (binaryOp .Mult) gQ:=by
 intro pins s σ H x y v u Q I rx ry hh;obtain⟨ρ,h,d,e,z,h',S,rd,re,ee,k⟩:=hh;unfold gQ at ee
 split at ee
 ·rename_i x0 n
  by_cases c:x0.length<=1000/\0<=n/\n<=1000/\PyData.strOk (Txt.mul x0 n)=true
  ·rw[PL c] at ee;cases ee;cases rd;cases re;obtain⟨t1,rfl⟩:=rx;obtain⟨t2,rfl⟩:=ry;obtain⟨c1,c2,c3,c4⟩:=c;refine SB.mul ⟨?_,λ_ _=>?_,λ_ _=>?_⟩ λt' k'=>⟨.str _,H,I.kept (t':=k') (h':=s.heap) λ_ _ e=>e,⟨t',rfl⟩,k _ _ (.here S (.str c4))⟩
   ·rw[Qv (by lia),Qv (by lia)];rfl
   ·have h1:(9007199254740991:Int)<=(2^63-1) / n:=by
     refine Int.le_ediv_of_mul_le (by lia) ?_;have:9007199254740991*n<=9007199254740991*1000:=Int.mul_le_mul_of_nonneg_left c3 (by decide)
     lia
    lia
   ·have h1:x0.length*n.toNat<=1000*1000:=TV c1 (by lia);refine Qv ?_;have:=Rt
    lia
  ·rw[P0 c] at ee;cases ee
 ·exact Jb pins s σ H x y v u Q I rx ry ⟨ρ,h,_,_,z,h',S,rd,re,ee,k⟩
noncomputable def fv(f f':D->D->MH->Option (D×MH))(ma mb mc:EM):EM:=λδ h=>(ma δ h).bind λp=>(mb δ p.2).bind λq=>(f p.1 q.1 q.2).bind λr=>match r.1 with
 | .bl true=>(mc δ r.2).bind λu=>f' q.1 u.1 u.2
 | .bl false=>some (.bl false,r.2)
 | _=>none
theorem wK(hh:tM X.K (fv f f' ma mb mc) σ H Q):yb (rS X.K f) (rS X.K f') (tM X.K ma) (tM X.K mb) (tM X.K mc) σ H Q:=by
 obtain⟨ρ,δ,h,d,h',R,S,ee,k⟩:=hh;obtain⟨⟨x,h1⟩,e1,e2⟩:=bw ee;obtain⟨⟨y,h2⟩,e3,e4⟩:=bw e2;obtain⟨⟨z,h3⟩,e5,e6⟩:=bw e4;dsimp only at e3 e5 e6;refine⟨ρ,δ,h,x,h1,R,S,e1,λv H1 ⟨ρ1,T1,S1,r1⟩=>⟨ρ1,δ,h1,y,h2,R.mono T1.toCh,S1,e3,λu H2 ⟨ρ2,T2,S2,r2⟩=>⟨ρ2,h2,x,y,z,h3,S2,r1.mono T2.toCh,r2,e5,λw H3 ⟨ρ3,T3,S3,r3⟩=>?_⟩⟩⟩;cases z with
 | bl b=>
  cases r3;refine⟨b,rfl,?_⟩;cases b with
  | false=>
   cases e6;exact JH (k _ _ (cT.step (T1.trans (T2.trans T3)) (.here S3 (.bl false))))
  | true=>
   obtain⟨⟨u',h4⟩,e7,e8⟩:=bw e6;have T:=T1.trans (T2.trans T3);exact JG ⟨ρ3,δ,h3,u',h4,R.mono T.toCh,S3,e7,λv' H4 ⟨ρ4,T4,S4,r4⟩=>⟨ρ4,h4,y,u',d,h',S4,r2.mono (T3.trans T4).toCh,r4,e8,λw' H5 P=>k w' H5 (P.step (T.trans T4))⟩⟩
 | _=>exact bV e6
theorem CJ(ho:kG X (compareOp op) f)(ho':kG X (compareOp op') f')(ha:SE X a ma)(hb:SE X b mb)(hc:SE X c mc)(hm:lastMarks [op,op'] [b,c]=false:=by with_unfolding_all rfl):
  SE X (.Compare a [op,op'] [b,c] pos) (fv f f' ma mb mc):=(Dy ho ho' ha hb hc hm).imp λ_ _ _=>wK
theorem wy(ho:kG X (compareOp op) f)(ho':kG X (compareOp op') f')(ha:SE X a ma)(hb:SE X b mb)(hc:SE X c mc)(hm:lastMarks [op,op'] [b,c]=false:=by with_unfolding_all rfl):
  ST X (.Compare a [op,op'] [b,c] pos) (aI (fv f f' ma mb mc)):=(De ho ho' ha hb hc hm).imp λσ H Q h=>wK (FC h)
end
end Sm
namespace L2
open PySem PySem.Spec PyProof.Rows
section
variable {X:Cx} {e st:Expr} {te ts:TE} {pos p2:Pos}
end
end L2
namespace Sm
open PySem L2 PySem.Spec PyProof.Rows
section
variable {X:Cx} {e st:Expr} {ma ms:EM} {pos p2:Pos}
end
end Sm
namespace L2
open PySem PySem.Spec PyProof.Rows
open HT in
theorem EA{t b:Addr}{vs ws:List Value}{Q:Value->Shared->Prop}(ht:IsTup s.heap t vs.toArray)(hb:IsTup s.heap b ws.toArray)(hv:vs=[])(h:Q (.ref b) s):wpAny (model prog w) A (binaryOp .Add (.ref t) (.ref b)) Q E s:=by
 obtain⟨⟨cls,dd,data,sl⟩,ho,hc,n,hd⟩:=id ht;obtain⟨⟨cls2,dd2,data2,sl2⟩,ho2,hc2,n2,hd2⟩:=id hb;simp only at hc hd hc2 hd2;subst hc hd hc2 hd2;exact concat_meets ⟨_,ho,rfl⟩ ⟨_,ho2,rfl⟩ Ua UM SJ Sz (Sq _ _)
   (tuple_addW0 t b vs.toArray ws.toArray n n2 dd dd2 sl sl2 (by simp[hv])) ⟨ho,ho2,h⟩
theorem DG:kH X (binaryOp .Add) (λx y H Q=>∃a b ys,x=.ref a/\y=.ref b/\jB X.K H a []/\jB X.K H b ys/\Q (.ref b) H):=by
 intro pins s σ H x y v u Q I rx ry h;obtain⟨a,b,ys,rfl,rfl,ha,hb,q⟩:=h;cases rx;cases ry;obtain⟨its,r1,p1,_⟩:=I.tuple ha;obtain⟨its2,r2,p2,_⟩:=I.tuple hb;exact EA p1 p2 (r1.pv.mpr rfl) ⟨.ref b,H,I,rfl,q⟩
end L2
namespace Sm
open PySem L2 PySem.Spec PyProof.Rows
noncomputable def aw(d e:D)(h:MH):Option (D×MH):=match d,e with
 | .tup [],.tup ys=>some (.tup ys,h)
 | d,e=>sG d e h
theorem bg:kG X (binaryOp .Add) aw:=by
 intro pins s σ H x y v u Q I rx ry hh;obtain⟨ρ,h,d,e,z,h',S,rd,re,ee,k⟩:=hh;unfold aw at ee
 split at ee
 ·cases ee;have re0:=re;cases rd with | tup h1 l1=>cases re with | tup h2 l2=>
  cases l1;exact DG pins s σ H _ _ v u Q I rx ry ⟨_,_,_,rfl,rfl,h1.sq,h2.sq,k _ _ (.here S re0)⟩
 ·exact Je pins s σ H _ _ v u Q I rx ry ⟨ρ,h,_,_,z,h',S,rd,re,ee,k⟩
noncomputable def Eb:Fn:=λds h=>match ds with
 | [.int i,.int j]=>some (.int (if j < i then j else i),h)
 | _=>none
noncomputable def vE:Fn:=λds h=>match ds with
 | [.int i,.int j]=>some (.int (if j > i then j else i),h)
 | _=>none
theorem JZ(hc:X.calm=true):gm X (.builtin "min") Eb:=by
 intro pins s σ H xs us Q I r hh;obtain⟨ρ,h,ds,z,h',S,l,ee,k⟩:=hh
 match ds,l,ee with
 | [],_,ee=>exact bV ee
 | [_],_,ee=>exact absurd ee (by unfold Eb;split <;> simp_all)
 | _::_::_::_,_,ee=>exact absurd ee (by unfold Eb;split <;> simp_all)
 | [d,e],l,ee=>
  obtain⟨v,w,rfl,rd,re⟩:=rep2 l;cases rd <;> first |(exact bV ee) | skip
  cases re <;> first |(exact bV ee) | skip
  cases ee;exact BK hc pins s σ H _ us Q I r ⟨_,_,rfl,k _ _ (.here S (.int _))⟩
theorem Ka(hc:X.calm=true):gm X (.builtin "max") vE:=by
 intro pins s σ H xs us Q I r hh;obtain⟨ρ,h,ds,z,h',S,l,ee,k⟩:=hh
 match ds,l,ee with
 | [],_,ee=>exact bV ee
 | [_],_,ee=>exact absurd ee (by unfold vE;split <;> simp_all)
 | _::_::_::_,_,ee=>exact absurd ee (by unfold vE;split <;> simp_all)
 | [d,e],l,ee=>
  obtain⟨v,w,rfl,rd,re⟩:=rep2 l;cases rd <;> first |(exact bV ee) | skip
  cases re <;> first |(exact bV ee) | skip
  cases ee;exact BL hc pins s σ H _ us Q I r ⟨_,_,rfl,k _ _ (.here S (.int _))⟩
noncomputable def Js:ET:=λd ds h=>(dG d h).bind λkvs=>match ds with
 | [k]=>(vy k).map λkey=>((oK kvs key).getD .bR,h)
 | [k,x]=>(vy k).map λkey=>((oK kvs key).getD x,h)
 | _=>none
theorem Jr(hu:X.A.units+1 < cLine):G0 X "dict.get" (rM X.K Js):=by
 intro pins s σ H x xs v us Q I rx rs hh;obtain⟨ρ,h,d,ds,z,h',S,rd,l,ee,k⟩:=hh;obtain⟨kvs,e1,e2⟩:=bw ee;obtain⟨a,ws,rfl,ha,lk⟩:=ib S rd e1;obtain rfl:v=Value.ref a:=rx
 match ds,l,e2 with
 | [],_,e2=>exact bV e2
 | [y],l,e2=>
  obtain⟨key,e3,e4⟩:=gf e2;cases e4;obtain⟨yv,rfl,ry⟩:=rep1 l;obtain⟨u,rfl,ru⟩:=Vals.one rs;have hy:=jt ry e3;subst hy;refine JX hu I (mh.k ha) ru λw' s' I' r'=>⟨_,H,I',r',k _ _ ?_⟩;rcases lk.val key with⟨q1,q2⟩ |⟨d',v',q1,q2,q3⟩
  ·rw[q1,q2];exact .here S .bR
  ·rw[q1,q2];exact .here S q3
 | [y,x0],l,e2=>
  obtain⟨key,e3,e4⟩:=gf e2;cases e4;obtain⟨yv,xv,rfl,ry,rx0⟩:=rep2 l;obtain⟨u,u2,rfl,ru,ru2⟩:=Vals.two rs;have hy:=jt ry e3;subst hy;refine JW hu I (mh.k ha) ru ru2 λw' s' I' r'=>⟨_,H,I',r',k _ _ ?_⟩;rcases lk.val key with⟨q1,q2⟩ |⟨d',v',q1,q2,q3⟩
  ·rw[q1,q2];exact .here S rx0
  ·rw[q1,q2];exact .here S q3
 | _::_::_::_,_,e2=>exact absurd e2 (by simp)
noncomputable def yW(a b:EM):EM:=λδ h=>(a δ h).bind λp=>(xZ p.1 p.2).bind λc=>if c=true then some p else b δ p.2
end Sm
namespace L2
open PySem PySem.Spec PyProof.Rows
section
variable {X:Cx} {a b:Expr} {rest:List Expr} {pos:Pos} {ta tb:TE}
theorem IX(ha:PE X a ta)(hb:PE X (.BoolOp .Or (b::rest) pos) tb):PE X (.BoolOp .Or (a::b::rest) pos) (λσ H Q=>ta σ H λx H1=>∃c,GY X.K x H1 c/\if c=true then Q x H1 else tb σ H1 Q):=by
 intro pins s σ H Q I h;refine BoolOp_or (cm (ha pins s σ H _ I h) λv s1 ⟨x,H1,I1,r1,c,ht,q1⟩=>?_);refine cm (Co pins s1 σ H1 x v (λc H2=>if c=true then Q x H2 else tb σ H2 Q) I1 r1 ⟨c,ht,q1⟩) λc' s2 ⟨H2,I2,q2⟩=>?_;cases c' with
 | false=>exact hb pins s2 σ H2 Q I2 q2
 | true=>exact⟨x,H2,I2,r1,q2⟩
end
end L2
namespace Sm
open PySem L2 PySem.Spec PyProof.Rows
section
variable {X:Cx} {a b:Expr} {pos:Pos} {ma mb:EM}
theorem CH{rest:List Expr}(ha:SE X a ma)(hb:SE X (.BoolOp .Or (b::rest) pos) mb):SE X (.BoolOp .Or (a::b::rest) pos) (yW ma mb):=(IX ha hb).imp λσ H Q ⟨ρ,δ,h,d,h',R,S,e,k⟩=>by
 obtain⟨⟨x,h1⟩,e1,e2⟩:=bw e;obtain⟨c,e3,e4⟩:=bw e2;refine⟨ρ,δ,h,x,h1,R,S,e1,λv H' ⟨ρ',T,S',r⟩=>⟨c,zo S' r e3,?_⟩⟩;cases c with
 | false=>rw[P0 (by simp)] at e4 ⊢;exact⟨ρ',δ,h1,d,h',R.mono T,S',e4,λv H2 p=>k v H2 (p.step T)⟩
 | true=>rw[PL rfl] at e4 ⊢;cases e4;exact k _ _ ⟨ρ',T,S',r⟩
end
end Sm
namespace L2
open PySem PySem.Spec PyProof.Rows
end L2
namespace Sm
open PySem L2 PySem.Spec PyProof.Rows
theorem Kn:bootBuiltins "min"=some (.builtin "min"):=by decide+kernel
theorem Ko:bootBuiltins "max"=some (.builtin "max"):=by decide+kernel
section
variable {X:Cx} {g:GM} {mt:TM} {ma:EM}
end
end Sm
namespace L2
open PySem PySem.Spec PyProof.Rows
theorem pK:∀{ns:List Int} {us:List Value},Vals (ns.map V.int) us->∃xs:List (Int×Tok),us=xs.map (λp=>Value.int p.1 p.2)/\xs.map (·.1)=ns
 | [],_,.nil=>⟨[],rfl,rfl⟩
 | n::r,_,.cons q l=>by
  obtain⟨t,rfl⟩:=q;obtain⟨xs,rfl,e⟩:=pK l;exact⟨(n,t)::xs,rfl,by rw[P6,e]⟩
theorem jc:∀{ss:List Str} {us:List Value},Vals (ss.map V.str) us->StrsAre us ss
 | [],_,.nil=>.nil
 | x::r,_,.cons q l=>by obtain⟨t,rfl⟩:=q;exact .cons x t (jc l)
theorem y8:fz X (.builtin "sorted") (λxs H Q=>∃a ss,xs=[.ref a]/\fV X.K H a (ss.map V.str)/\ss.length < 64/\∀l,H l=none->Q (.ref l) (upd H l (.lst ((il ss).map V.str)))):=by
 intro pins s σ H xs us Q I r h;obtain⟨a,ss,rfl,ha,h64,q⟩:=h;obtain⟨u,rfl,ru⟩:=vals1 r;cases ru;obtain⟨its,rv,p,hz⟩:=I.list ha;have hS:=jc rv;have hlen:its.length=ss.length:=by have:=rv.length;rw[PC] at this;exact this.symm
 refine sorted_strs p.isList hS (by lia) λout ss' h1 h2 h3=>?_;have:=CA h2 h3;subst this;have hl:s.heap.objs.size<=s.heap.objs.size+1:=S8 _;obtain⟨e,ho⟩:=sortedAll_at s.heap its out;have hz':((il ss).map V.str).length<=sizeLine:=by rw[PC,(cN ss).length_eq,Rt];lia
 refine⟨.ref (s.heap.objs.size+1),_,I.laid (t':=s.toks) (o:=.lst ((il ss).map V.str)) (λb o q=>sortedAll_old q) hl ⟨hz',out.toList,e,Az h1,?_⟩,rfl,q _ (I.ba.fresh hl)⟩;rw[ho]
end L2
namespace Sm
open PySem L2 PySem.Spec PyProof.Rows
noncomputable def lH:List D->Option (List Int)
 | []=>some []
 | .int i::r=>(lH r).map λis=>i::is
 | _=>none
theorem qS:∀{xs:List D} {ns:List Int},lH xs=some ns->xs=ns.map D.int
 | [],_,e=>by cases e;rfl
 | d::r,ns,e=>by
  cases d <;> first |(exact bV e) | skip
  obtain⟨is,e1,e2⟩:=gf (show(lH r).map _=some ns from e);cases e2;rw[qS e1];rfl
theorem ng:∀(ns:List Int),lH (ns.map D.int)=some ns
 | []=>rfl
 | n::r=>by show(lH (r.map D.int)).map _=_;rw[ng r];rfl
theorem qh{K:FR}{ρ:Ad}{H:Hp}:∀{vs:List V} {ns:List Int},aF K ρ H vs (ns.map D.int)->vs=ns.map V.int:=by
 intro vs ns
 induction ns generalizing vs with
 | nil=>intro a;cases a;rfl
 | cons n r ih=>intro a;cases a with | cons q l=>cases q;rw[ih l];rfl
noncomputable def nE:List D->Option (List Str)
 | []=>some []
 | .str i::r=>(nE r).map λis=>i::is
 | _=>none
theorem pO:∀{xs:List D} {ns:List Str},nE xs=some ns->xs=ns.map D.str
 | [],_,e=>by cases e;rfl
 | d::r,ns,e=>by
  cases d <;> first |(exact bV e) | skip
  obtain⟨is,e1,e2⟩:=gf (show(nE r).map _=some ns from e);cases e2;rw[pO e1];rfl
theorem mz:∀(ns:List Str),nE (ns.map D.str)=some ns
 | []=>rfl
 | n::r=>by show(nE (r.map D.str)).map _=_;rw[mz r];rfl
theorem j5{K:FR}{ρ:Ad}{H:Hp}:∀{vs:List V} {ns:List Str},aF K ρ H vs (ns.map D.str)->vs=ns.map V.str/\∀k∈ns,PyData.strOk k=true
 | _,[],.nil=>⟨rfl,λ_ h=>(nomatch h)⟩
 | _,n::r,.cons q l=>by
  cases q with
  | str h=>
   obtain⟨e,f⟩:=j5 l;refine⟨by rw[e];rfl,λk hk=>?_⟩;rcases PZ.mp hk with rfl | hk
   ·exact h
   ·exact f k hk
noncomputable def D8:Fn:=λds h=>match ds with
 | [d]=>(dw d h).bind λxs=>(nE xs).bind λns=>if ns.length < 64 then some (.lv ((il ns).map D.str),h) else none
 | _=>none
theorem Er:gm X (.builtin "sorted") D8:=by
 intro pins s σ H xs us Q I r hh;obtain⟨ρ,h,ds,z,h',S,l,ee,k⟩:=hh
 match ds,l,ee with
 | [],_,ee=>exact bV ee
 | _::_::_,_,ee=>exact bV ee
 | [d],l,ee=>
  obtain⟨v,rfl,rd⟩:=rep1 l;obtain⟨ys,e1,e2⟩:=bw ee;obtain⟨ns,e3,e4⟩:=bw e2
  by_cases c:ns.length < 64
  ·rw[PL c] at e4;cases e4;obtain⟨a,vs,rfl,ha,la⟩:=dm S rd e1;have:=pO e3;subst this;obtain⟨e5,f⟩:=j5 la;subst e5;refine y8 pins s σ H _ us Q I r ⟨a,ns,rfl,fV.of ha,c,λl hl=>k _ _ (.lv S (sV _ λx hx=>f x ((cN ns).mem_iff.mp hx)) hl)⟩
  ·rw[P0 c] at e4;cases e4
section
variable {α:Type} {K:FR} {A:Ac α} {l:Addr} {g:GM} {mt:TM} {m:MK α}
mutual
theorem Rep.calm(hs:∀a,ρ'.has a->ρ.has a){v:V}{d:D}(r:Rep K ρ H v d)(c:gu 0 d=true):Rep K ρ' H v d:=by
 cases r with
 | bR=>exact .bR
 | bl b=>exact .bl b
 | int i=>exact .int i
 | str h=>exact .str h
 | ty n=>exact .ty n
 | tup h l=>exact .tup (h.elim (λ⟨a,n⟩=>.inl ⟨a,λz=>n (hs _ z)⟩) .inr) (aF.calm hs l c)
 | lv h n l=>exact .lv h (λz=>n (hs _ z)) (aF.calm hs l c)
 | ro h l=>exact .ro (h.elim (λ⟨a,n⟩=>.inl ⟨a,λz=>n (hs _ z)⟩) .inr) (aF.calm hs l c)
 | dv h n l=>exact .dv h (λz=>n (hs _ z)) (bD.calm hs l c)
 | ob e=>simp[gu] at c
theorem aF.calm(hs:∀a,ρ'.has a->ρ.has a){vs:List V}{ds:List D}(r:aF K ρ H vs ds)(c:fc 0 ds=true):aF K ρ' H vs ds:=by
 cases r with
 | nil=>exact .nil
 | cons r l=>have c:=Qc.mp c;exact .cons (Rep.calm hs r c.1) (aF.calm hs l c.2)
theorem bD.calm(hs:∀a,ρ'.has a->ρ.has a){vs:List (Key×V)}{ds:List (Key×D)}(r:bD K ρ H vs ds)(c:GP 0 ds=true):bD K ρ' H vs ds:=by
 cases r with
 | nil=>exact .nil
 | cons r l=>have c:=Qc.mp c;exact .cons (Rep.calm hs r c.1) (bD.calm hs l c.2)
end
end
section
variable {X:Cx} {k v tg iter:Expr} {pos:Pos} {mk mv:EM} {mt:TM} {g:GM} {N':List Str} {caps:List (Option Nat)} {scope:Scope} {ifs:List Expr} {mi:IM}
end
theorem tY:bootBuiltins "sorted"=some (.builtin "sorted"):=by decide+kernel
end Sm
namespace L2
open PySem PySem.Spec PyProof.Rows
end L2
namespace Sm
open PySem L2 PySem.Spec PyProof.Rows
end Sm
namespace L2
open PySem PySem.Spec PyProof.Rows
end L2
namespace Sm
open PySem L2 PySem.Spec PyProof.Rows
end Sm
namespace Hd
open PySem PySem.W PySem.Spec PyProof.Rows L2 Sm
noncomputable def kr:Obj->Bool
 |⟨.none,none,.fields vs,sl⟩=>vs.isEmpty&&sl.isEmpty
 | _=>false
noncomputable def xk(o:Obj):Bool:=!kr o
theorem uu(h:kr o=true):o={cls:=.none,data:=.fields #[]}:=by
 unfold kr at h
 split at h
 ·rw[Qm] at h;have e1:=U3.mp h.1;have e2:=U3.mp h.2;subst e1;subst e2;rfl
 ·cases h
theorem gh(h:∀vs,o.data≠.fields vs):xk o=true:=by
 unfold xk;cases q:kr o with
 | false=>rfl
 | true=>exact absurd (by rw[uu q]) (h #[])
theorem D7{o:Obj}{vs:Array Value}{i:Nat}{x:Value}(e:o.data=.fields vs)(h:vs[i]?=some x):xk o=true:=by
 unfold xk;cases q:kr o with
 | false=>rfl
 | true=>rw[uu q] at e;cases e;simp at h
noncomputable def DX(h:Heap)(a:Addr):Option (Addr×Obj):=match h.get? a with
 | some o=>if xk o then some (a,o) else none
 | none=>none
noncomputable def sD(h:Heap):Frag:=(List.range h.objs.size).filterMap (DX h)
noncomputable def pC(h:Heap)(c:Addr):Option Value:=match h.get? c with
 | some ⟨.type "code",_,.fields vs,_⟩=>match (vs[11]?:Option Value) with
  | some (.ref P)=>match h.get? P with
   | some o=>if kr o then some (.ref P) else none
   | none=>none
  | _=>none
 | _=>none
noncomputable def x8(h:Heap):List Value:=(List.range h.objs.size).filterMap (pC h)
noncomputable def aC(h:Heap):Frag:=if((sD h).lookup mainGlobals).isSome=true then sD h++[(mainGlobals,{cls:=.none,data:=.fields (x8 h).toArray})] else sD h
theorem ju{h:Heap}{a:Addr}:(aC h).lookup a=(sD h).lookup a:=by
 unfold aC
 split
 ·rename_i hs;rw[List.lookup_append];cases q:(sD h).lookup a with
  | some o=>rfl
  | none=>
   rw[Option.none_or];rw[Qu];cases r:a==mainGlobals with
   | false=>rfl
   | true=>rw[Q8.mp r] at q;rw[q] at hs;cases hs
 ·rfl
theorem jq(h:Heap)(a:Addr):∀l:List Addr,(l.filterMap (DX h)).lookup a=if a∈l then(DX h a).map (·.2) else none
 | []=>rfl
 | b::r=>by
  have ih:=jq h a r
  by_cases hb:a=b
  ·subst hb;rw[PL PQ];rw[QN];cases e:DX h a with
   | none=>
    dsimp only;rw[ih,e]
    split <;> rfl
   | some p=>
    have hp:p.1=a:=by
     unfold DX at e
     split at e
     ·split at e
      ·cases e;rfl
      ·cases e
     ·cases e
    obtain⟨p1,p2⟩:=p;dsimp only at hp;subst hp;simp
  ·have hm:(a∈b::r)↔a∈r:=by simp[hb]
   rw[QN];cases e:DX h b with
   | none=>dsimp only;rw[ih];simp only[hm]
   | some p=>
    have hp:p.1=b:=by
     unfold DX at e
     split at e
     ·split at e
      ·cases e;rfl
      ·cases e
     ·cases e
    obtain⟨p1,p2⟩:=p;dsimp only at hp;subst hp;have hab:(a==p1)=false:=by simpa using hb
    rw[Qu,hab];dsimp only;rw[ih];simp only[hm]
theorem bB(e:h.get? a=some o)(f:xk o=true):(aC h).lookup a=some o:=by
 rw[ju];unfold sD;rw[jq,PL]
 ·unfold DX;rw[e];dsimp only;rw[PL f];rfl
 ·rw[Rw];exact P2 e
theorem Gs(h:Heap):(aC h).In h:=λa o e=>by
 rw[ju] at e;unfold sD at e;rw[jq] at e
 split at e
 ·unfold DX at e;cases g:h.get? a with
  | none=>rw[g] at e;cases e
  | some o'=>
   rw[g] at e;dsimp only at e
   split at e
   ·cases e;rfl
   ·cases e
 ·cases e
theorem y2(e:pC h c=some v):∃P,v=.ref P/\isCodeTable h P/\h.get? P=some {cls:=.none,data:=.fields #[]}:=by
 unfold pC at e
 split at e
 ·rename_i vs sl hc
  split at e
  ·rename_i P h11
   split at e
   ·rename_i o hP
    split at e
    ·rename_i ht;cases e;exact⟨P,rfl,⟨c,_,_,hc,rfl,rfl,h11⟩,by rw[hP,uu ht]⟩
    ·cases e
   ·cases e
  ·cases e
 ·cases e
theorem HU(g:h.Ns mainGlobals mg)(t:gV (aC h) b):isCodeTable h b/\h.get? b=some {cls:=.none,data:=.fields #[]}/\(aC h).lookup b=none:=by
 obtain⟨vs,m,hv⟩:=t;have key:.ref b∈x8 h:=by
  have nf:∀vs:Array Value,(mainGlobals,({cls:=.none,data:=.fields vs}:Obj))∉sD h:=λvs m=>by
   obtain⟨a,_,e⟩:=Q9.mp m;unfold DX at e
   split at e
   ·rename_i o ho
    split at e
    ·cases e;obtain⟨o',es,ep,g1,g2,_⟩:=g;rw[g1] at ho;cases ho;cases g2
    ·cases e
   ·cases e
  unfold aC at m
  split at m
  ·rcases Qi.mp m with m | m
   ·exact absurd m (nf vs)
   ·have e:=P4.mp m;cases e
    simpa using hv
  ·exact absurd m (nf vs)
 obtain⟨c,_,e⟩:=Q9.mp key;obtain⟨P,e1,e2,e3⟩:=y2 e;cases e1;refine⟨e2,e3,?_⟩;rw[ju];unfold sD;rw[jq]
 split
 ·unfold DX;rw[e3];rfl
 ·rfl
noncomputable def posOf(s:Stmt):Pos:=match s with
 | .FunctionDef _ _ _ _ _ _ _ _ _ p=>p
 | _=>⟨0,0,0,0⟩
noncomputable def k8(n:Str)(s:Stmt):DefRec:=⟨n,lN s,cY s,ah s,posOf s⟩
theorem GK(r:h.CodeRec cd q):codeIn (aC h) cd q=true:=by
 obtain⟨c,o,vs,t,rfl,g,d,e⟩:=r;have f:xk o=true:=D7 d e;unfold codeIn;dsimp only;rw[bB g f];obtain⟨oc,od,dt,sl⟩:=o;dsimp only at d;subst d;dsimp only;obtain⟨l⟩:=vs;cases l with
 | nil=>cases e
 | cons x l=>cases l with
  | nil=>cases e
  | cons y r=>cases y <;> first |(cases e;simp;done) |(cases e;done)
theorem z9{q:Program}{loose:List Str}{mean:ExcName->Option Value}{mg mb:Str->Option Value}{h:Heap}(T:Top q loose mean mg mb h){n:Str}{st:Stmt}(e:(recsOf q).find? (λe=>e.name==n)=some (k8 n st)):
  ∃f fd,mg n=some (.ref f)/\rW (aC h) n n st f fd:=by
 have hm:k8 n st∈recsOf q:=T9 e;obtain⟨a,o,pm,code,doc,m,g,d,c⟩:=T.fn _ hm;have f:xk o=true:=gh λvs z=>by rw[d] at z;cases z
 have lk:=bB g f;have kp:keepIn (aC h) (.ref a)=true:=by
  unfold keepIn;dsimp only;rw[lk];obtain⟨oc,od,dt,sl⟩:=o;dsimp only at d;subst d;rfl
 obtain⟨oc,od,dt,sl⟩:=o;dsimp only at d;subst d;exact⟨a,_,m,⟨oc,od,.none,doc,pm,_,code,_,sl,rfl,lk,GK c⟩,kp⟩
theorem _root_.L2.rW.one{K:Frag}{x qual:Str}{st:Stmt}{f:Addr}{fd:FuncData}{p:Str}(F:rW K x qual st f fd)
  (h:∀(kV doc pm:Value)(an:Option Addr)(cdv ct:Value)(u:Value),bindArgs (PySem.W.fnOf x qual (lN st) (cY st) (ah st) .none kV doc pm an cdv ct) ⟨[u],[]⟩=pure [(p,u)]) (s:Shared) (u:Value):BindsTo s fd ⟨[u],[]⟩ [(p,u)]:=by
 obtain⟨oc,od,kV,doc,pm,an,cdv,ct,osl,rfl,lk,hcd⟩:=F.ex;exact .of_eq (h kV doc pm an cdv ct u)
theorem JK{l:OpenLaw}{q:Program}{loose:List Str}{XP:(Str->Option Value)->Heap->Prop}{YP:World->Heap->Prop}{d:DefRec}{k:Nat}(hn:l.most=some 63)(hdf:d.params.defaults=[])(hr:cD k callerA)
  (F:∀(w:World)(s₀:Shared)(mg mb:Str->Option Value)(h:Heap),Ground q loose [] XP w s₀ mg mb h->YP w h->∃(fa:Addr)(fd:FuncData),mg d.name=some (.ref fa)/\(∀(s:Shared)(u:Value),BindsTo s fd ⟨[u],[]⟩ [("_law_script",u)])/\
   ∀base:Heap,(aC h).In base->base.Ns mainGlobals mg->dY l.prog w (aC h) mg base mm k fa fd ["_law_script"] (spT (aC h))):
  WalkO q loose XP YP l.row.toRowW d [] (λf vs=>PySem.call f vs):=by
 refine Att.xJ hn hdf λw s₀ s₁ mg mb fa o pm cd doc a vs ns G Y ho hd hcd hmg hobj hints hlen hg=>?_;obtain⟨fa',fd,e,hb,hF⟩:=F w s₀ mg mb _ G Y;rw[e] at hmg;cases hmg;exact DU (Gs _) G.T.g G.T.b G.T.builtins G.T.nolimit hg hobj hints (PY hlen (by decide)) hr hF hb (λ_=>HU G.T.g) (λH hS ht=>⟨a,ns,rfl,hS,hlen,ht,λ_ t=>⟨rfl,t⟩⟩) λ_ _ _ z=>z
noncomputable def freeOk(q:Program)(loose xs:List Str):Bool:=xs.all λx=>!startupNames.contains x&&!(looseW q loose).contains x&&!((recsOf q).map (·.name)).contains x&&!((litsOf q).map (·.1)).contains x&&!((clssOf q (looseW q loose)).map (·.name)).contains x
theorem cL(T:Top q (looseW q loose) mean mg mb h)(e:freeOk q loose xs=true)(hx:x∈xs):mg x=none:=by
 have:=R9.mp e x hx;simp only[Qm,U2,List.contains_eq_mem,Uh] at this;exact T.free x this.1.1.1.1 this.1.1.1.2 this.1.1.2 this.1.2 this.2
end Hd
namespace Sm
open PySem L2
noncomputable def Mn(f:Expr->Option D):List Expr->Option (List D)
 | []=>some []
 | e::es=>(f e).bind λd=>(Mn f es).bind λds=>some (d::ds)
noncomputable def kD:Nat->Expr->Option D
 | 0,_=>none
 | n+1,e=>match e with
  | .Constant .none _ _=>some .bR
  | .Constant (.bool b) _ _=>some (.bl b)
  | .Constant (.int i) _ _=>some (.int i)
  | .Constant (.str x) _ _=>if PyData.strOk x then some (.str x) else none
  | .UnaryOp .USub (.Constant (.int i) _ _) _=>some (.int (-i))
  | .Tuple es _ _=>(Mn (kD n) es).bind λds=>if ds.length<=1000 then some (.tup ds) else none
  | .List es _=>(Mn (kD n) es).bind λds=>if ds.length<=1000 then some (.lv ds) else none
  | .Dict [] [] _=>some (.dv [])
  | _=>none
noncomputable def aK(ds:List D):AM:=λ_ h=>some (ds,h)
theorem MR(ds:List D):jG (aK ds) ds.length:=λδ h xs h' e=>by cases e;rfl
section
variable {X:Cx}
theorem Cw(h:kD n e=some d)(es:List Expr):starEach (e::es) X.env=(false,eval e X.env)::starEach es X.env:=by
 cases n with
 | zero=>exact bV h
 | succ n=>cases e <;> first | rfl |(exfalso;exact(nomatch h))
theorem uL(hf:∀{e:Expr} {d:D},f e=some d->SE X e (eK d))(hs:∀{e:Expr} {d:D},f e=some d->∀es:List Expr,starEach (e::es) X.env=(false,eval e X.env)::starEach es X.env):
  ∀{es:List Expr} {ds:List D},Mn f es=some ds->SA X es (aK ds)
 | [],ds,h=>by cases h;exact aq
 | e::es,ds,h=>by
  unfold Mn at h;obtain⟨d,e1,h⟩:=bw h;obtain⟨r,e2,h⟩:=bw h;cases h;exact(aa (hf e1) (uL hf hs e2) (hs e1 es):SA X _ (af (eK d) (aK r)))
theorem cB:∀(n:Nat) {e:Expr} {d:D},kD n e=some d->SE X e (eK d)
 | 0,_,_,h=>by cases h
 | n+1,e,d,h=>by
  cases e <;> first |(exact bV h) | skip
  case Constant c _ _=>
   cases c <;> first |(exact bV h) | skip
   case none=>cases h;exact ye
   case bool=>cases h;exact G9
   case int=>cases h;exact aM
   case str x=>
    have h:(if PyData.strOk x then some (D.str x) else none)=some d:=h
    by_cases hs:PyData.strOk x=true
    ·rw[PL hs] at h;cases h;exact bo hs
    ·rw[P0 hs] at h;cases h
  case UnaryOp o e _=>
   cases o <;> first |(exact bV h) | skip
   cases e <;> first |(exact bV h) | skip
   rename_i c _ _;cases c <;> first |(exact bV h) | skip
   cases h;exact(CD xW aM:SE X _ (Ag pM (eK _)))
  case Tuple es _ _=>
   obtain⟨ds,e1,e2⟩:=bw h
   by_cases hl:ds.length<=1000
   ·rw[PL hl] at e2;cases e2;exact(cA (uL (cB n) Cw e1) (MR ds) (PY hl (by decide)):SE X _ (ak az (aK ds)))
   ·rw[P0 hl] at e2;cases e2
  case List es _=>
   obtain⟨ds,e1,e2⟩:=bw h
   by_cases hl:ds.length<=1000
   ·rw[PL hl] at e2;cases e2;exact(jF.lv (cO (uL (cB n) Cw e1) (MR ds) (PY hl (by decide))):SE X _ (eL (aK ds)))
   ·rw[P0 hl] at e2;cases e2
  case Dict ks vs _=>
   cases ks <;> first |(exact bV h) | skip
   cases vs <;> first |(exact bV h) | skip
   cases h;exact LI
end
end Sm
namespace L2
open PySem PySem.Spec PyProof.Rows
noncomputable def jH(ns:List Int):List Int:=ns.mergeSort λa b=>decide (a<=b)
theorem g0(ns:List Int):(jH ns).Perm ns:=UK _ _
theorem uy(ns:List Int):(jH ns).Pairwise (·<=·):=by
 have:=Uo (le:=λa b:Int=>decide (a<=b)) (λa b c h1 h2=>by simp at h1 h2 ⊢;lia) (λa b=>by simp;lia) ns;exact this.imp λh=>by simpa using h
theorem Cz(hp:ss.Perm ns)(h:ss.Pairwise (·<=·)):ss=jH ns:=
 Ug (λa b _ _ h1 h2=>Int.le_antisymm h1 h2) h (uy ns) (hp.trans (g0 ns).symm)
theorem y9:fz X (.builtin "sorted") (λxs H Q=>∃a ss,xs=[.ref a]/\fV X.K H a (ss.map V.int)/\ss.length < 64/\∀l,H l=none->Q (.ref l) (upd H l (.lst ((jH ss).map V.int)))):=by
 intro pins s σ H xs us Q I r h;obtain⟨a,ss,rfl,ha,h64,q⟩:=h;obtain⟨u,rfl,ru⟩:=vals1 r;cases ru;obtain⟨its,rv,p,hz⟩:=I.list ha;have hS:=intsAre_of rv;have hlen:its.length=ss.length:=by have:=rv.length;rw[PC] at this;exact this.symm
 refine sorted_ints p.isList hS (by lia) λout ss' h1 h2 h3=>?_;have:=Cz h2 h3;subst this;have hl:s.heap.objs.size<=s.heap.objs.size+1:=S8 _;obtain⟨e,ho⟩:=sortedAll_at s.heap its out;have hz':((jH ss).map V.int).length<=sizeLine:=by rw[PC,(g0 ss).length_eq,Rt];lia
 refine⟨.ref (s.heap.objs.size+1),_,I.laid (t':=s.toks) (o:=.lst ((jH ss).map V.int)) (λb o q=>sortedAll_old q) hl ⟨hz',out.toList,e,mq h1,?_⟩,rfl,q _ (I.ba.fresh hl)⟩;rw[ho]
end L2
namespace Sm
open PySem L2 PySem.Spec PyProof.Rows
noncomputable def D9:Fn:=λds h=>match ds with
 | [d]=>(dw d h).bind λxs=>(lH xs).bind λns=>if ns.length < 64 then some (.lv ((jH ns).map D.int),h) else none
 | _=>none
theorem repL_ints'{K:FR}{ρ:Ad}{H:Hp}:∀(ns:List Int),aF K ρ H (ns.map V.int) (ns.map D.int)
 | []=>.nil
 | n::r=>.cons (.int n) (repL_ints' r)
theorem Es:gm X (.builtin "sorted") D9:=by
 intro pins s σ H xs us Q I r hh;obtain⟨ρ,h,ds,z,h',S,l,ee,k⟩:=hh
 match ds,l,ee with
 | [],_,ee=>exact bV ee
 | _::_::_,_,ee=>exact bV ee
 | [d],l,ee=>
  obtain⟨v,rfl,rd⟩:=rep1 l;obtain⟨ys,e1,e2⟩:=bw ee;obtain⟨ns,e3,e4⟩:=bw e2
  by_cases c:ns.length < 64
  ·rw[PL c] at e4;cases e4;obtain⟨a,vs,rfl,ha,la⟩:=dm S rd e1;have:=qS e3;subst this;have:=qh la;subst this;exact y9 pins s σ H _ us Q I r ⟨a,ns,rfl,fV.of ha,c,λl hl=>k _ _ (.lv S (repL_ints' _) hl)⟩
  ·rw[P0 c] at e4;cases e4
noncomputable def yY(m:Hy):EM:=λδ h=>(m δ h).bind λp=>if p.1.length<=15 then some (.ob p.2.length,p.2++[.dct (yF [] p.1)]) else none
theorem CI(h:SP X pos keys vals m)(hall:keys.all (·.isSome)=true)(hl:keys.length=vals.length)(h0:keys≠[])(hp:∀trs,KD X pos keys vals trs->PE X (.Dict keys vals pos) (Ct trs)):SE X (.Dict keys vals pos) (yY m):=by
 obtain⟨trs,h1,h2⟩:=h;refine(hp trs h1).imp λσ H Q ⟨ρ,δ,h,d,h',R,S,ee,k⟩ p hpn=>?_;obtain⟨⟨kvs,ha⟩,e1,e2⟩:=bw ee;dsimp only at e2
 by_cases z:kvs.length<=15
 ·rw[PL z] at e2;cases e2;have Tl:Ch ρ H (ρ.keep p) (upd H p (.dK [])):=Ch.keep hpn;have nl:¬ρ.has p:=S.fresh hpn;refine h2 σ _ _ ⟨ρ.keep p,δ,h,kvs,_,R.mono Tl,S.keep hpn,e1,λus ρ2 H2 T2 S2 r2=>?_⟩;have hp2:H2 p=some (.dK []):=(T2.res p PQ).trans aP;refine⟨hp2,us,rfl,by rw[r2.len];exact z,?_⟩;obtain⟨ob2,rs2⟩:=ρ2;have ers:rs2=p::ρ.rs:=T2.rs;subst ers;have hml:p∈(⟨ob2,p::ρ.rs⟩:Ad).rs:=PQ;have npo:p∉ob2:=(S2.rV p hml).2;have hne:∀b∈ρ.rs,b≠p:=λb hb z=>nl (.inr (z ▸ hb));generalize hH3:upd H2 p (.dK (fL [] us))=H3;have at3:∀b,b≠p->H3 b=H2 b:=λb hb=>by rw[<-hH3,ay hb]
  have C23:Ch ⟨ob2,p::ρ.rs⟩ H2 ⟨ob2++[p],ρ.rs⟩ H3:=by
   refine⟨λn a e=>?_,λb o nb eb=>⟨λz=>?_,?_⟩⟩
   ·show(ob2++[p])[n]?=_;rw[PU (PH.mp e).1];exact e
   ·rcases z with z | z
    ·rcases Qi.mp z with z | z
     ·exact nb (.inl z)
     ·exact nb (.inr (by rw[P4.mp z];exact PQ))
    ·exact nb (.inr (PV _ z))
   ·rw[at3 b (λz=>nb (.inr (by rw[z];exact PQ)))];exact eb
  refine k _ _ ⟨⟨ob2++[p],ρ.rs⟩,⟨(Tl.trans T2.toCh).trans C23,rfl,λb hb=>?_⟩,?_,.ob (by show(ob2++[p])[ha.length]?=_;rw[<-S2.len];simp)⟩
  ·rw[at3 b (hne b hb),T2.res b (PV _ hb)];exact ay (hne b hb)
  ·refine⟨by show(ob2++[p]).length=_;simp;exact S2.len,?_,λn a x e1 e2=>?_,λb hb=>?_,S.HS ((Tl.trans T2.toCh).trans C23)⟩
   ·show(ob2++[p]).Nodup;rw[Tz];exact⟨S2.nd,by simp,λa ha b hb z=>npo (by rw[<-P4.mp hb,<-z];exact ha)⟩
   ·have e1:(ob2++[p])[n]?=some a:=e1;have hlen:ob2.length=ha.length:=S2.len
    by_cases hn:n < ob2.length
    ·rw[PU hn] at e1;rw[PU (by lia)] at e2;exact(S2.at_ n a x e1 e2).mono C23 (at3 a λz=>npo (z ▸ PF e1))
    ·have l1:=(PH.mp e1).1;simp at l1;have hn':n=ob2.length:=by lia
     subst hn';rw[P9 (PJ _)] at e1;rw[P9 (by lia),hlen] at e2;simp at e1 e2;subst e1;subst e2;exact⟨fL [] us,by rw[<-hH3];exact aP,(bD.merge .nil r2).mono C23⟩
   ·obtain⟨⟨o,eo⟩,nb⟩:=S2.rV b (PV _ hb);refine⟨⟨o,by rw[at3 b (hne b hb)];exact eo⟩,λz=>?_⟩;rcases Qi.mp z with z | z
    ·exact nb z
    ·exact hne b hb (P4.mp z)
 ·rw[P0 z] at e2;cases e2
noncomputable def qY(d e:D)(h:MH):Option (D×MH):=match e with
 | .int n=>(dw d h).bind λxs=>if 0<=n/\n<=1000/\xs.length<=1000 then some (.lv (List.replicate n.toNat xs).flatten,h) else none
 | _=>none
theorem aF.rep{K:FR}{ρ:Ad}{H:Hp}{vs:List V}{ds:List D}(h:aF K ρ H vs ds):∀k:Nat,aF K ρ H (List.replicate k vs).flatten (List.replicate k ds).flatten
 | 0=>.nil
 | k+1=>by
  rw[QI,QI,Rp,Rp];exact h.append (aF.rep h k)
theorem mT:kG X (binaryOp .Mult) qY:=by
 intro pins s σ H x y v u Q I rx ry hh;obtain⟨ρ,h,d,e,z,h',S,rd,re,ee,k⟩:=hh;cases e <;> first |(exact bV ee) | skip
 rename_i n;obtain⟨xs,e1,e2⟩:=bw (show(dw d h).bind _=_ from ee)
 by_cases c:0<=n/\n<=1000/\xs.length<=1000
 ·rw[PL c] at e2;cases e2;obtain⟨a,vs,rfl,ha,la⟩:=dm S rd e1;cases re;have hb:xs.length*n.toNat<=1000*1000:=TV c.2.2 (by lia);exact Jg pins s σ H _ _ v u Q I rx ry ⟨a,n,vs,rfl,rfl,ha,by lia,by lia,by rw[la.length,show sizeLine=16777216 from rfl];lia,λl hl=>k _ _ (.lv S (la.rep _) hl)⟩
 ·rw[P0 c] at e2;cases e2
end Sm
namespace L2
open PySem PySem.Spec PyProof.Rows
theorem sI:∀(us:List Value)(o:Nat),(∀(j:Nat) v,us[j]?=some v->∃t,v=.int ((o:Int)+j) t)->Vals ((List.range' o us.length).map λ(k:Nat)=>V.int k) us
 | [],_,_=>.nil
 | u::r,o,h=>by
  rw[P1,List.range'_succ,P6];obtain⟨t,e⟩:=h 0 u rfl;refine .cons ⟨t,by rw[e];simp⟩ (sI r (o+1) λj v hv=>?_);obtain⟨t,e⟩:=h (j+1) v (by simpa using hv);exact⟨t,by rw[e];congr 1;lia⟩
theorem AZ(hc:X.calm=true)(hg1:Gl X "list")(hm1:X.mg "list"=none)(hg2:Gl X "range")(hm2:X.mg "range"=none)(hv:bootBuiltins "list"=some (.type "list"))(ha:PA X [a] ta)(hs:starEach [a] X.env=[(false,eval a X.env)]):
  PE X (.Call (.Name "list" p) [.Call (.Name "range" p2) [a] [] pos2] [] pos) (λσ H Q=>ta σ H λvs H1=>∃j:Int,vs=[.int j]/\0<=j/\j<=1000/\∀l,H1 l=none->Q (.ref l) (upd H1 l (.lst ((List.range j.toNat).map λ(k:Nat)=>V.int k)))):=by
 intro pins s σ H Q I h;refine QZ (iW I hg1 hm1 hv ?_);refine Q1 ?_ rfl rfl;show wpAny _ _ (spliced ((false,eval (.Call (.Name "range" p2) [a] [] pos2) X.env)::backTo pos (starEach [] X.env))) _ _ s;refine TJ ?_;refine QZ (iW I hg2 hm2 boot_range (Q1 (cm (ha pos2 pins s σ H _ I h) λus s1 ⟨vs,H1,I1,r1,q1⟩=>?_) hs rfl));obtain⟨j,e,j0,j1,q⟩:=q1;subst e;cases r1 with
 | cons r rr=>
  cases rr;obtain⟨t,rfl⟩:=r;refine call_range_1 ?_;have I2:Inv X pins σ H1 {s1 with heap:=s1.heap.push {cls:=.type "range",data:=.fields #[.int 0 s1.toks,.int j t,.int 1 (s1.toks+1)]},toks:=s1.toks+1+1}:=I1.kept λb o e=>PN _ e;refine TU ?_;refine call_list_range (n:=j.toNat) (I1.ok.hd hc) (IsRange.new ..) (small_one (by lia) (by lia) (by lia) (by lia)) (by rw[rangeSize_one];split <;> lia) (by lia) λh' tk acc' c' hk hS' hacc=>?_;have hlen:acc'.toList.length=j.toNat:=by rw[RP];exact hacc.1
  have hv:Vals ((List.range j.toNat).map λ(k:Nat)=>V.int k) acc'.toList:=by
   have:=sI acc'.toList 0 λi v hv=>by
    obtain⟨t,e⟩:=hacc.2 i v (by simpa using hv);exact⟨t,by rw[e];congr 1;simp⟩
   rw[hlen] at this;rw[List.range_eq_range'];exact this
  refine⟨.ref _,_,I2.laid (t':=tk) (o:=.lst ((List.range j.toNat).map λ(k:Nat)=>V.int k)) hk (PJ _) ⟨by rw[PC,Qy,Rt];lia,acc'.toList,c',hv,?_⟩,rfl,q _ (I2.ba.fresh (PJ _))⟩;rw[hS']
end L2
namespace Sm
open PySem L2 PySem.Spec PyProof.Rows
noncomputable def Ks(m:AM):AM:=λδ h=>(m δ h).bind λp=>match p.1 with
 | [.int j]=>if 0<=j/\j<=1000 then some ((List.range j.toNat).map λ(k:Nat)=>D.int k,p.2) else none
 | _=>none
theorem qg{K:FR}{ρ:Ad}{H:Hp}:∀l:List Nat,aF K ρ H (l.map λ(k:Nat)=>V.int k) (l.map λ(k:Nat)=>D.int k)
 | []=>.nil
 | n::r=>.cons (.int n) (qg r)
theorem AL(hc:X.calm=true)(hg1:Gl X "list")(hm1:X.mg "list"=none)(hg2:Gl X "range")(hm2:X.mg "range"=none)(hv:bootBuiltins "list"=some (.type "list"))(ha:SA X [a] m)(hs:starEach [a] X.env=[(false,eval a X.env)]:=by ac_nf):
  jF X (.Call (.Name "list" p) [.Call (.Name "range" p2) [a] [] pos2] [] pos) (Ks m):=(AZ hc hg1 hm1 hg2 hm2 hv ha hs).imp λσ H Q ⟨ρ,δ,h,ds,h',R,S,e,k⟩=>by
 obtain⟨⟨xs,h1⟩,e1,e2⟩:=bw e;dsimp only at e2
 split at e2
 ·rename_i j
  split at e2
  ·rename_i c;cases e2;refine⟨ρ,δ,h,_,_,R,S,e1,λvs ρ1 H1 T1 S1 r1=>?_⟩;obtain⟨v,rfl,rd⟩:=rep1 r1;cases rd;exact⟨j,rfl,c.1,c.2,λl hl=>k ρ1 H1 l _ T1 S1 hl (qg _)⟩
  ·cases e2
 ·cases e2
noncomputable def BR(ma mb:EM):AM:=λδ h=>(ma δ h).bind λp=>(mb δ p.2).bind λq=>(dw p.1 q.2).bind λxs=>(dw q.1 q.2).bind λys=>if xs.length+ys.length<=sizeLine then some (xs++ys,q.2) else none
theorem uF(ha:SE X a ma)(hb:SE X b mb):jF X (.BinOp a .Add b pos) (BR ma mb):=(Hf DH ha hb).imp λσ H Q ⟨ρ,δ,h,ds,h',R,S,e,k⟩=>by
 obtain⟨⟨x,h1⟩,e1,e2⟩:=bw e;obtain⟨⟨y,h2⟩,e3,e4⟩:=bw e2;obtain⟨xs,e5,e6⟩:=bw e4;obtain⟨ys,e7,e8⟩:=bw e6;dsimp only at e3 e5 e7
 split at e8
 ·rename_i c;cases e8;refine⟨ρ,δ,h,x,h1,R,S,e1,λv H1 ⟨ρ1,T1,S1,r1⟩=>⟨ρ1,δ,h1,y,h2,R.mono T1.toCh,S1,e3,λu H2 ⟨ρ2,T2,S2,r2⟩=>?_⟩⟩;obtain⟨a,vs,rfl,hA,lA⟩:=dm S2 (r1.mono T2.toCh) e5;obtain⟨b,us,rfl,hB,lB⟩:=dm S2 r2 e7;exact⟨a,b,vs,us,rfl,rfl,hA,hB,by rw[lA.length,lB.length];exact c,λp hp=>k ρ2 H2 p (vs++us) (T1.trans T2) S2 hp (lA.append lB)⟩
 ·cases e8
end Sm
namespace Sm
open PySem L2
theorem qq:∀cs:List Int,nS (cs.map D.int)=some (cs.map PyData.int)
 | []=>rfl
 | c::r=>by simp only[P6,nS,xP,qq r,Ql,Qw]
theorem kz:∀cs:List Int,PyData.depthAll (cs.map PyData.int)=0
 | []=>rfl
 | c::r=>by simp only[P6,PyData.depthAll,kz r,PyData.depth];rfl
theorem BA{h:MH}{c:Nat}{cs:List Int}(hc:h[c]?=some (.lst (cs.map D.int))):jE (.ob c) (.lv []) h=some (.bl (!cs.isEmpty),h):=by
 simp only[jE,Hm,dG,hc,KW,zD,qq,xP,nS,Qw,Ql,PyData.depth,kz];cases cs <;> rfl
theorem iY(hn:h[n]?=some (.lst xs))(e:gU xs i=some d):aV (.ob n) (.int i) h=some (d,h):=by
 simp only[aV,dG,hn,dE,Ql,e,Qw]
theorem Ab(hn:h[n]?=some (.lst xs)):ck [.ob n] h=some (.int xs.length,h):=by
 simp only[ck,dG,hn,dE,Qw]
theorem vC(hn:h[n]?=some (.lst xs))(e:vz xs.length i=some p):sF (.ob n) (.int i) d h=some (h.set n (.lst (xs.set p d))):=by
 simp only[sF,hn,e,Qw]
theorem EN(cs:List Int)(i:Int)(h0:0<=i)(h1:i < cs.length):∃z,gU (cs.map D.int) i=some (.int z):=by
 have hlt:i.toNat < cs.length:=by lia
 refine⟨cs[i.toNat]'hlt,?_⟩;have e:((i.toNat:Nat):Int)=i:=RO h0;have q:gU (cs.map D.int) ((i.toNat:Nat):Int)=some (D.int (cs[i.toNat]'hlt)):=pG (by rw[P8,P7 hlt];rfl);rw[e] at q;exact q
theorem EK(h0:0<=i)(h1:i < xs.length):∃v,gU xs i=some v/\v∈xs:=by
 have hlt:i.toNat < xs.length:=by lia
 have e:((i.toNat:Nat):Int)=i:=RO h0;have q:gU xs ((i.toNat:Nat):Int)=some (xs[i.toNat]'hlt):=pG (P7 hlt);rw[e] at q;exact⟨_,q,List.getElem_mem hlt⟩
end Sm
namespace Sm
open PySem
def Rn{α:Type}(o:Option α)(Q:α->Prop):Prop:=∃a,o=some a/\Q a
theorem rv(e:o=some a)(q:Q a):Rn o Q:=⟨a,e,q⟩
theorem Rn.imp(r:Rn o Q)(f:∀a,Q a->Q' a):Rn o Q':=let⟨a,e,q⟩:=r;⟨a,e,f a q⟩
theorem a8(r:Rn o λa=>Rn (f a) Q):Rn (o.bind f) Q:=by
 obtain⟨a,e,b,e2,q⟩:=r;exact⟨b,by rw[e];exact e2,q⟩
theorem CN(r:Rn o λa=>Q (f a)):Rn (o.map f) Q:=by
 obtain⟨a,e,q⟩:=r;exact⟨f a,by rw[e];rfl,q⟩
theorem eY(e:δ[i]?=some (some d))(q:Q (d,h)):Rn (av i δ h) Q:=⟨(d,h),by unfold av;rw[e];rfl,q⟩
theorem C5(q:Q (d,h)):Rn (eK d δ h) Q:=⟨_,rfl,q⟩
theorem mO(r:Rn (a δ h) λp=>Rn (b δ p.2) λq=>Rn (f p.1 q.1 q.2) Q):Rn (ao f a b δ h) Q:=a8 (r.imp λ_ r=>a8 r)
theorem N0(r:Rn (a δ h) λp=>Rn (f p.1 p.2) Q):Rn (Ag f a δ h) Q:=a8 r
theorem fI(q:Q ([],h)):Rn (aH δ h) Q:=⟨_,rfl,q⟩
theorem bO(r:Rn (a δ h) λp=>Rn (m δ p.2) λq=>Q (p.1::q.1,q.2)):Rn (af a m δ h) Q:=a8 (r.imp λ_ r=>a8 (r.imp λ_ q=>⟨_,rfl,q⟩))
theorem FD(r:Rn (m δ h) λp=>Rn (f p.1 p.2) Q):Rn (ak f m δ h) Q:=a8 r
theorem iQ(r:Rn (a δ h) λp=>∃c,p.1=.bl c/\Q (c,p.2)):Rn (aI a δ h) Q:=a8 (r.imp λp ⟨c,e,q⟩=>⟨(c,p.2),by rw[e],q⟩)
theorem uS(r:Rn (a δ h) λp=>∃c,xZ p.1 p.2=some c/\Q (c,p.2)):Rn (mx a δ h) Q:=a8 (r.imp λp ⟨c,e,q⟩=>⟨(c,p.2),by rw[e];rfl,q⟩)
theorem j8(r:Rn (t δ h) λp=>Q (!p.1,p.2)):Rn (Sm.jC t δ h) Q:=CN r
theorem Iz(r:Rn (a δ h) λp=>(p.1=true->Rn (b δ p.2) Q)/\(p.1=false->Q (false,p.2))):Rn (Sm.oN a b δ h) Q:=a8 (r.imp λp ⟨q1,q2⟩=>by
 obtain⟨c,h⟩:=p;cases c with
 | true=>exact q1 rfl
 | false=>exact⟨_,rfl,q2 rfl⟩)
theorem CZ(r:Rn (a δ h) λp=>(p.1=true->Q (true,p.2))/\(p.1=false->Rn (b δ p.2) Q)):Rn (Sm.Cs a b δ h) Q:=a8 (r.imp λp ⟨q1,q2⟩=>by
 obtain⟨c,h⟩:=p;cases c with
 | true=>exact⟨_,rfl,q1 rfl⟩
 | false=>exact q2 rfl)
theorem LV(r:Rn (a δ h) λp=>∃c,p.1=.bl c/\(c=true->Rn (b δ p.2) Q)/\(c=false->Q (.bl false,p.2))):Rn (xu a b δ h) Q:=a8 (r.imp λp ⟨c,e,q1,q2⟩=>by
 rw[e];cases c with
 | true=>exact q1 rfl
 | false=>exact⟨_,rfl,q2 rfl⟩)
theorem N3(r:Rn (a δ h) λp=>∃c,p.1=.bl c/\(c=true->Q (.bl true,p.2))/\(c=false->Rn (b δ p.2) Q)):Rn (OA a b δ h) Q:=a8 (r.imp λp ⟨c,e,q1,q2⟩=>by
 rw[e];cases c with
 | true=>exact⟨_,rfl,q1 rfl⟩
 | false=>exact q2 rfl)
theorem uU(r:Rn (m δ h) λp=>Q (.lv p.1,p.2)):Rn (eL m δ h) Q:=CN r
theorem N4(r:Rn (m δ h) λp=>Q (.ob p.2.length,p.2++[.lst p.1])):Rn (yX m δ h) Q:=CN r
theorem IB(r:Rn (m δ h) λp=>∃d xs ws,p.1=[d]/\dE d p.2=some (xs,ws)/\Q (xs,p.2)):Rn (EO m δ h) Q:=a8 (r.imp λp ⟨d,xs,ws,e,e2,q⟩=>⟨(xs,p.2),by rw[e];dsimp only;rw[e2];rfl,q⟩)
theorem LM(q:Q (none,h)):Rn (we δ h) Q:=⟨_,rfl,q⟩
theorem LN(r:Rn (a δ h) λp=>∃i,p.1=.int i/\Q (some i,p.2)):Rn (wg a δ h) Q:=a8 (r.imp λp zz=>by obtain⟨c,e,q⟩:=zz;exact⟨_,by rw[e],q⟩)
abbrev SQ:=Fl×DS×MH->Prop
theorem IA(q:Q (.nx,δ,h)):Rn (bY δ h) Q:=⟨_,rfl,q⟩
def zq(b:SM)(Q:SQ):SQ:=λr=>match r.1 with
 | .nx=>Rn (b r.2.1 r.2.2) Q
 | _=>Q r
theorem de(r:Rn (a δ h) (zq b Q)):Rn (ar a b δ h) Q:=a8 (r.imp λp q=>by
 obtain⟨f,δ',h'⟩:=p;cases f with
 | nx=>exact q
 | bk=>exact⟨_,rfl,q⟩
 | ct=>exact⟨_,rfl,q⟩
 | rt d=>exact⟨_,rfl,q⟩)
theorem sX(r:Rn (e δ h) λp=>Q (.nx,δ.set i (some p.1),p.2)):Rn (aR i e δ h) Q:=a8 (r.imp λ_ q=>⟨_,rfl,q⟩)
theorem C7(r:Rn (e δ h) λp=>Rn (g p.1 δ p.2) λq=>Q (.nx,q.1,q.2)):Rn (fT e g δ h) Q:=a8 (r.imp λ_ r=>a8 (r.imp λ_ q=>⟨_,rfl,q⟩))
theorem C6(r:Rn (e δ h) λp=>Q (.nx,δ,p.2)):Rn (iu e δ h) Q:=a8 (r.imp λ_ q=>⟨_,rfl,q⟩)
theorem zF(r:Rn (e δ h) λp=>Q (.rt p.1,δ,p.2)):Rn (bc e δ h) Q:=a8 (r.imp λ_ q=>⟨_,rfl,q⟩)
theorem gI(r:Rn (t δ h) λp=>(p.1=true->Rn (a δ p.2) Q)/\(p.1=false->Rn (b δ p.2) Q)):Rn (fC t a b δ h) Q:=a8 (r.imp λp ⟨q1,q2⟩=>by
 obtain⟨c,h⟩:=p;cases c with
 | true=>exact q1 rfl
 | false=>exact q2 rfl)
theorem LO(r:Rn (m δ h) λp=>∃a b,p.1=[a,b]/\Q (.nx,(δ.set i (some a)).set j (some b),p.2)):Rn (AR i j m δ h) Q:=a8 (r.imp λp zz=>by obtain⟨a,b,e,q⟩:=zz;exact⟨_,by rw[e],q⟩)
theorem AV(q:Q (δ.set i (some d),h)):Rn (gN i d δ h) Q:=⟨_,rfl,q⟩
theorem ID(r:Rn (o δ h) λp=>Rn (i δ p.2) λq=>Rn (sF p.1 q.1 v q.2) λh'=>Q (δ,h')):Rn (Sm.sE o i v δ h) Q:=a8 (r.imp λ_ r=>a8 (r.imp λ_ r=>CN r))
theorem IC(hn:xs.length=n)(r:Rn (u xs δ h) Q):Rn (gT n u (.tup xs) δ h) Q:=by
 unfold gT;dsimp only;rw[PL hn];exact r
theorem gJ(r:Rn (g d δ h) λp=>Rn (u xs p.1 p.2) Q):Rn (aA g u (d::xs) δ h) Q:=a8 r
theorem uV(q:Q (δ,h)):Rn (bZ [] δ h) Q:=⟨_,rfl,q⟩
def Fz(Q:D×MH->Prop):SQ:=λr=>match r.1 with
 | .rt d=>Q (d,r.2.2)
 | .nx=>Q (.bR,r.2.2)
 | _=>False
theorem Oh(q:Q (d,h)):Fz Q (.rt d,δ,h):=q
theorem Oi(q:Q (.bR,h)):Fz Q (.nx,δ,h):=q
theorem oM(r:Rn (b δ h) Q):zq b Q (.nx,δ,h):=r
theorem NC(q:Q (.rt d,δ,h)):zq b Q (.rt d,δ,h):=q
def Hj(I:DS->MH->Prop)(Q:SQ):SQ:=λz=>match z.1 with
 | .nx=>I z.2.1 z.2.2
 | .ct=>I z.2.1 z.2.2
 | .bk=>Q (.nx,z.2.1,z.2.2)
 | .rt d=>Q (.rt d,z.2.1,z.2.2)
theorem Ot(q:I δ h):Hj I Q (.nx,δ,h):=q
theorem bL(r:Rn (b (entry len ds) h) (Fz Q)):Rn (jm len b ds h) Q:=a8 (r.imp λp q=>by
 obtain⟨f,δ',h'⟩:=p;cases f with
 | nx=>exact⟨_,rfl,q⟩
 | rt d=>exact⟨_,rfl,q⟩
 | bk=>exact q.elim
 | ct=>exact q.elim)
theorem LU(r:Rn (i δ h) λp=>Rn (jD p.2.1 g b p.1 δ p.2.2) Q):Rn (gp i g b δ h) Q:=a8 r
theorem cK:∀{xs:List D} {δ:DS} {h:MH} (I:Nat->DS->MH->Prop),I 0 δ h->(∀i δ h,i<=xs.length->I i δ h->lT ws h=true)->
  (∀i x δ h,xs[i]?=some x->I i δ h->Rn (g x δ h) λq=>Rn (b q.1 q.2) (Hj (I (i+1)) Q))->(∀δ h,I xs.length δ h->Q (.nx,δ,h))->Rn (jD ws g b xs δ h) Q
 | [],δ,h,I,h0,hc,_,hq=>by
  unfold jD;rw[PL (hc 0 δ h (PJ _) h0)];exact⟨_,rfl,hq δ h h0⟩
 | x::xs,δ,h,I,h0,hc,ht,hq=>by
  unfold jD;rw[PL (hc 0 δ h (Rx _) h0)];obtain⟨q,e1,z,e2,hz⟩:=ht 0 x δ h rfl h0;rw[e1];show Rn ((b q.1 q.2).bind _) Q;rw[e2];obtain⟨f,δ',h'⟩:=z;have next:I 1 δ' h'->Rn (jD ws g b xs δ' h') Q:=λhi=>cK (λi=>I (i+1)) hi (λi δ h hl=>hc (i+1) δ h (SD hl)) (λi x δ h hx=>ht (i+1) x δ h (by simpa using hx)) hq
  cases f with
  | nx=>exact next hz
  | ct=>exact next hz
  | bk=>exact⟨_,rfl,hz⟩
  | rt d=>exact⟨_,rfl,hz⟩
theorem du(r:Rn (e δ h) λp=>∃xs ws,dE p.1 p.2=some (xs,ws)/\Q (xs,ws,p.2)):Rn (dc e δ h) Q:=a8 (r.imp λp ⟨xs,ws,e,q⟩=>⟨(xs,ws,p.2),by rw[e];rfl,q⟩)
theorem g9(r:Rn (m δ h) λp=>∃j:Int,p.1=[.int j]/\-(2^62)<=j/\j < 2^62/\Q ((List.range j.toNat).map λ(k:Nat)=>D.int (k:Int),[],p.2)):Rn (qT m δ h) Q:=a8 (r.imp λp ⟨j,e,h1,h2,q⟩=>by
 rw[e];dsimp only;rw[PL ⟨h1,h2⟩];exact⟨_,rfl,q⟩)
theorem jj(r:Rn (m δ h) λp=>∃d xs ws,p.1=[d]/\dE d p.2=some (xs,ws)/\Q (jS 0 xs,ws,p.2)):Rn (ow m δ h) Q:=
 a8 (r.imp λp zz=>by obtain⟨d,xs,ws,e1,e2,q⟩:=zz;exact⟨_,by rw[e1];dsimp only;rw[e2];rfl,q⟩)
theorem IE(r:Rn (i δ h) λp=>Rn (cf p.2.1 g c e p.1 (cS caps δ) p.2.2) λq=>q.1.length<=sizeLine/\Q q):Rn (cZ caps i g c e δ h) Q:=
 a8 (r.imp λp r=>a8 (r.imp λq ⟨hz,hq⟩=>⟨q,by rw[PL hz],hq⟩))
theorem uW(hc:lT ws h=true)(f:D->Option D)(J:DS->Prop):∀{xs:List D} {δ:DS},J δ->
  (∀x∈xs,∀δ,J δ->Rn (g x δ h) λq=>q.2=h/\Rn (c q.1 h) λt=>t.2=h/\J q.1/\(t.1=true->∃y,f x=some y/\Rn (e q.1 h) λp=>p=(y,h))/\(t.1=false->f x=none))->
  cf ws g c e xs δ h=some (xs.filterMap f,h)
 | [],δ,_,_=>by unfold cf;rw[PL hc];rfl
 | x::xs,δ,hJ,ht=>by
  unfold cf;rw[PL hc];obtain⟨⟨δ1,h1⟩,e1,rfl,⟨t,h2⟩,e2,rfl,J1,q1,q2⟩:=ht x PQ δ hJ;rw[e1];dsimp only[Option.bind_some] at e2 q1 q2 ⊢;rw[e2];dsimp only[Option.bind_some];have ih:=uW hc f J J1 (xs:=xs) λy hy=>ht y (PV _ hy);cases t with
  | true=>
   obtain⟨y,ef,p,ep,rfl⟩:=q1 rfl;rw[PL rfl,ep];dsimp only[Option.bind_some];rw[ih,QN,ef];rfl
  | false=>
   rw[P0 (by simp),ih,QN,q2 rfl]
end Sm
namespace Sm
theorem Iy(q:Q (d,h))(e:δ[i]?=some (some d):=by with_unfolding_all rfl):Rn (av i δ h) Q:=eY e q
theorem LR(r:Rn (u xs δ h) Q)(hn:xs.length=n:=by with_unfolding_all rfl):Rn (gT n u (.tup xs) δ h) Q:=IC hn r
end Sm
namespace Sm
open PySem L2
theorem yo(hh:Rn (a δ h) λp=>Rn (l δ p.2) λq=>Rn (u δ q.2) λr=>Rn (iD p.1 q.1 r.1 r.2) Q):Rn (iE a l u δ h) Q:=a8 (hh.imp λ_ x=>a8 (x.imp λ_ y=>a8 y))
theorem qp(hh:Rn (ma δ h) λp=>Rn (mb δ p.2) λq=>Rn (f p.1 q.1 q.2) λr=>∃b,r.1=.bl b/\if b=true then Rn (mc δ r.2) λu=>Rn (f' q.1 u.1 u.2) Q else Q (.bl false,r.2)):Rn (fv f f' ma mb mc δ h) Q:=
 a8 (hh.imp λp x=>a8 (x.imp λq y=>a8 (y.imp λr ⟨b,e,k⟩=>by
  rw[e];cases b with
  | true=>rw[PL rfl] at k;exact a8 k
  | false=>rw[P0 (by simp)] at k;exact⟨_,rfl,k⟩)))
theorem K8(q:Q (.tup ds,h)):Rn (az ds h) Q:=⟨_,rfl,q⟩
theorem La(q:Q (.int (-a),h)):Rn (pM (.int a) h) Q:=⟨_,rfl,q⟩
theorem w_add(q:Q (.int (a+b),h)):Rn (aw (.int a) (.int b) h) Q:=⟨_,rfl,q⟩
theorem w_sub(q:Q (.int (a-b),h)):Rn (yS (.int a) (.int b) h) Q:=⟨_,rfl,q⟩
theorem w_lt(q:Q (.bl (decide (a < b)),h)):Rn (BZ (.int a) (.int b) h) Q:=⟨_,rfl,q⟩
theorem Nx(q:Q (.bl (decide (b < a)),h)):Rn (vG (.int a) (.int b) h) Q:=⟨_,rfl,q⟩
theorem Ny(q:Q (.bl (decide (b<=a)),h)):Rn (GF (.int a) (.int b) h) Q:=⟨_,rfl,q⟩
theorem Lg(q:Q (.bl (a==b),h)):Rn (df (.int a) (.int b) h) Q:=⟨_,rfl,q⟩
theorem Lf(q:Q (.bl (x==y),h)):Rn (df (.str x) (.str y) h) Q:=⟨_,rfl,q⟩
theorem Lb(q:Q (.bl (!(x==y)),h)):Rn (jE (.str x) (.str y) h) Q:=⟨_,rfl,q⟩
theorem Le(q:Q (d,h)):Rn (aV (.tup (d::r)) (.int 0) h) Q:=⟨_,by
 show((gU (d::r) 0).map λz=>(z,h))=_;have:gU (d::r) 0=some d:=by unfold gU;rw[show vz (d::r).length 0=some 0 by unfold vz;simp;try lia];rfl
 rw[this];rfl,q⟩
theorem Ld(q:Q (e,h)):Rn (aV (.tup (d::e::r)) (.int 1) h) Q:=⟨_,by
 show((gU (d::e::r) 1).map λz=>(z,h))=_;have:gU (d::e::r) 1=some e:=by unfold gU;rw[show vz (d::e::r).length 1=some 1 by unfold vz;simp;try lia];rfl
 rw[this];rfl,q⟩
theorem Lc(q:Q (f,h)):Rn (aV (.tup (d::e::f::r)) (.int 2) h) Q:=⟨_,by
 show((gU (d::e::f::r) 2).map λz=>(z,h))=_;have:gU (d::e::f::r) 2=some f:=by unfold gU;rw[show vz (d::e::f::r).length 2=some 2 by unfold vz;simp;try lia];rfl
 rw[this];rfl,q⟩
theorem HE(q:Q (.int r.length,h)):Rn (ck [.tup r] h) Q:=⟨_,rfl,q⟩
theorem HF(q:Q (.int r.length,h)):Rn (ck [.lv r] h) Q:=⟨_,rfl,q⟩
inductive rT{α β:Type}(R:α->β->Prop):List α->List β->Prop where
 | nil:rT R [] []
 | cons {x y xs ys}:R x y->rT R xs ys->rT R (x::xs) (y::ys)
theorem rT.length{xs:List α}{ys:List β}(a:rT R xs ys):ys.length=xs.length:=by
 induction a with
 | nil=>rfl
 | cons _ t ih=>rw[P1,P1,ih]
theorem rT.right{xs:List α}{ys:List β}(a:rT R xs ys):∀y∈ys,∃x∈xs,R x y:=by
 induction a with
 | nil=>exactλ_ h=>(nomatch h)
 | cons r t ih=>
  intro y h;rcases PZ.mp h with rfl | h
  ·exact⟨_,PQ,r⟩
  ·obtain⟨x,hx,r⟩:=ih y h;exact⟨x,PV _ hx,r⟩
theorem pj(R:D->D->Prop):∀{xs:List D} {δ:DS} {h:MH} (J:Nat->DS->MH->Prop),J 0 δ h->(∀i δ h,i<=xs.length->J i δ h->lT ws h=true)->
  (∀i x δ h,xs[i]?=some x->J i δ h->Rn (g x δ h) λq=>Rn (e q.1 q.2) λy=>R x y.1/\J (i+1) q.1 y.2)->Rn (cf ws g cx e xs δ h) λp=>rT R xs p.1/\∃δ',J xs.length δ' p.2
 | [],δ,h,J,hJ,hc,_=>by
  unfold cf;rw[PL (hc 0 δ h (PJ _) hJ)];exact⟨_,rfl,.nil,δ,hJ⟩
 | x::xs,δ,h,J,hJ,hc,ht=>by
  unfold cf;rw[PL (hc 0 δ h (Rx _) hJ)];obtain⟨⟨δ1,h1⟩,e1,⟨y,h2⟩,e2,r,J1⟩:=ht 0 x δ h rfl hJ;dsimp only at e2 r J1;obtain⟨⟨ys,h3⟩,e3,a,δ',J2⟩:=pj R (xs:=xs) (λi=>J (i+1)) J1 (λi δ h hl=>hc (i+1) δ h (SD hl)) λi y δ h hy=>ht (i+1) y δ h (by simpa using hy);refine⟨(y::ys,h3),?_,.cons r a,δ',J2⟩;rw[e1];dsimp only[Option.bind_some];show((some (true,h1)).bind _)=_;dsimp only[Option.bind_some];rw[PL rfl,e2];dsimp only[Option.bind_some];rw[e3];rfl
theorem ph(R:D->D->Prop):∀{xs:List D} {δ:DS} {h:MH} (J:Nat->DS->MH->Prop),J 0 δ h->(∀i δ h,i<=xs.length->J i δ h->lT ws h=true)->
  (∀i x δ h,xs[i]?=some x->J i δ h->Rn (g x δ h) λq=>Rn (c q.1 q.2) λt=>(t.1=true->Rn (e q.1 t.2) λy=>R x y.1/\J (i+1) q.1 y.2)/\(t.1=false->J (i+1) q.1 t.2))->Rn (cf ws g c e xs δ h) λp=>p.1.length<=xs.length/\(∀y∈p.1,∃x∈xs,R x y)/\∃δ',J xs.length δ' p.2
 | [],δ,h,J,hJ,hc,_=>by
  unfold cf;rw[PL (hc 0 δ h (PJ _) hJ)];exact⟨_,rfl,PJ _,λ_ z=>(nomatch z),δ,hJ⟩
 | x::xs,δ,h,J,hJ,hc,ht=>by
  unfold cf;rw[PL (hc 0 δ h (Rx _) hJ)];obtain⟨⟨δ1,h1⟩,e1,⟨t,h2⟩,e2,q1,q2⟩:=ht 0 x δ h rfl hJ;dsimp only at e2 q1 q2;rw[e1];dsimp only[Option.bind_some];rw[e2];dsimp only[Option.bind_some];have next:=λ{δ':DS} {h':MH} (J1:J 1 δ' h')=>ph R (xs:=xs) (λi=>J (i+1)) J1 (λi δ h hl=>hc (i+1) δ h (SD hl)) λi y δ h hy=>ht (i+1) y δ h (by simpa using hy)
  cases t with
  | true=>
   obtain⟨⟨y,h3⟩,e3,r,J1⟩:=q1 rfl;dsimp only at r J1;obtain⟨⟨ys,h4⟩,e4,l,a,δ',J2⟩:=next J1
   refine⟨(y::ys,h4),?_,SD l,λz hz=>?_,δ',J2⟩
   ·rw[PL rfl,e3];dsimp only[Option.bind_some];rw[e4];rfl
   ·rcases PZ.mp hz with rfl | hz
    ·exact⟨x,PQ,r⟩
    ·obtain⟨u,hu,r⟩:=a z hz;exact⟨u,PV _ hu,r⟩
  | false=>
   obtain⟨⟨ys,h4⟩,e4,l,a,δ',J2⟩:=next (q2 rfl)
   refine⟨(ys,h4),?_,Tt l,λz hz=>?_,δ',J2⟩
   ·rw[P0 (by decide),e4]
   ·obtain⟨u,hu,r⟩:=a z hz;exact⟨u,PV _ hu,r⟩
theorem MD(r:Rn (e δ h) λp=>Rn (b (δ.set i (some p.1)) p.2) Q):Rn (ar (aR i e) b δ h) Q:=de (sX (r.imp λ_ q=>oM q))
theorem MJ(r:Rn (e δ h) λp=>Rn (g p.1 δ p.2) λq=>Rn (b q.1 q.2) Q):Rn (ar (fT e g) b δ h) Q:=de (C7 (r.imp λ_ q=>q.imp λ_ q=>oM q))
theorem Kl(r:Rn (e δ h) λp=>Rn (b δ p.2) Q):Rn (ar (iu e) b δ h) Q:=de (C6 (r.imp λ_ q=>oM q))
theorem Py(r:Rn (m δ h) λq=>Q (d::q.1,q.2))(e:δ[i]?=some (some d):=by with_unfolding_all rfl):Rn (af (av i) m δ h) Q:=bO (eY e r)
theorem Pz(r:Rn (m δ h) λq=>Q (d::q.1,q.2)):Rn (af (eK d) m δ h) Q:=bO (C5 r)
theorem OJ(r:Rn (f [d] h) Q)(e:δ[i]?=some (some d):=by with_unfolding_all rfl):Rn (ak f (af (av i) aH) δ h) Q:=FD (bO (eY e (fI r)))
theorem OI(r:Rn (f [d,d'] h) Q)(e:δ[i]?=some (some d):=by with_unfolding_all rfl)(e':δ[j]?=some (some d'):=by with_unfolding_all rfl):Rn (ak f (af (av i) (af (av j) aH)) δ h) Q:=FD (bO (eY e (bO (eY e' (fI r)))))
theorem OH(r:Rn (f [d,d',d''] h) Q)(e:δ[i]?=some (some d):=by with_unfolding_all rfl)(e':δ[j]?=some (some d'):=by with_unfolding_all rfl)(e'':δ[k]?=some (some d''):=by with_unfolding_all rfl):Rn (ak f (af (av i) (af (av j) (af (av k) aH))) δ h) Q:=FD (bO (eY e (bO (eY e' (bO (eY e'' (fI r)))))))
theorem MF(r:Rn (f d c h) Q)(e:δ[i]?=some (some d):=by with_unfolding_all rfl):Rn (ao f (av i) (eK c) δ h) Q:=mO (eY e (C5 r))
theorem ME(r:Rn (f d d' h) Q)(e:δ[i]?=some (some d):=by with_unfolding_all rfl)(e':δ[j]?=some (some d'):=by with_unfolding_all rfl):Rn (ao f (av i) (av j) δ h) Q:=mO (eY e (eY e' r))
theorem OF(r:Rn (b δ h) λq=>Rn (f d q.1 q.2) Q)(e:δ[i]?=some (some d):=by with_unfolding_all rfl):Rn (ao f (av i) b δ h) Q:=mO (eY e r)
theorem OG(r:Rn (a δ h) λq=>Rn (f q.1 c q.2) Q):Rn (ao f a (eK c) δ h) Q:=mO (r.imp λ_ r=>C5 r)
theorem MI(q:Q ((δ.set i (some a)).set j (some b),h)):Rn (gT 2 (aA (gN i) (aA (gN j) bZ)) (.tup [a,b]) δ h) Q:=IC rfl (gJ (AV (gJ (AV (uV q)))))
theorem MG(q:Q (((δ.set i (some a)).set j (some b)).set k (some c),h)):Rn (gT 3 (aA (gN i) (aA (gN j) (aA (gN k) bZ))) (.tup [a,b,c]) δ h) Q:=IC rfl (gJ (AV (gJ (AV (gJ (AV (uV q)))))))
theorem Ki(q:Q (.rt d,δ,h))(e:δ[i]?=some (some d):=by with_unfolding_all rfl):Rn (bc (av i) δ h) Q:=zF (eY e q)
theorem Kj(q:Q (.rt d,δ,h)):Rn (bc (eK d) δ h) Q:=zF (C5 q)
end Sm
namespace L2
open PySem PySem.Spec PyProof.Rows
abbrev Oo:Hp:=λ_=>none
structure Tab(P:Program)(w:World)(K:FR)(mg:Str->Option Value)(nm:Str)(tb:List (Str×List Int)):Prop where
 ex:∃(a:Addr)(o:Obj)(es:Array DictEntry)(ep:Nat)(kvs:List (Str×Value)),mg nm=some (.ref a)/\K.lookup a=some o/\o.ExactDict/\o.data=.dict es ep/\(a==sysModules)=false/\KeysOf (strKind P w) es/\Pairs (strKind P w) es.toList kvs/\(kvs.map (·.1)).Nodup/\
  Sm.rT (λ(x:Str×List Int)(y:Str×Value)=>x.1=y.1/\∃(t:Addr)(u:Obj)(its:Array Value)(n:Nat),y.2=.ref t/\K.lookup t=some u/\u.cls=.type "tuple"/\u.dict=none/\u.data=.seq its n/\its.size<=sizeLine/\IntsAre its.toList x.2) tb kvs
theorem AH{K:FR}:∀{tb:List (Str×List Int)} {kvs:List (Str×Value)},Sm.rT (λ(x:Str×List Int)(y:Str×Value)=>x.1=y.1/\∃(t:Addr)(u:Obj)(its:Array Value)(n:Nat),y.2=.ref t/\K.lookup t=some u/\u.cls=.type "tuple"/\u.dict=none/\u.data=.seq its n/\its.size<=sizeLine/\IntsAre its.toList x.2) tb kvs->∀x:Str,
  (∀is,tb.lookup x=some is->∃t,valueAt kvs x=some (.ref t)/\∀H,jB K H t (is.map V.int))/\(valueAt kvs x).isSome=(tb.lookup x).isSome:=by
 intro tb kvs h
 induction h with
 | nil=>exactλx=>⟨λis e=>(nomatch e),rfl⟩
 | @cons p q tb kvs r l ih=>
  intro x;obtain⟨a,is0⟩:=p;obtain⟨b,v⟩:=q;obtain⟨e0,t,u,its,n,e1,h1,h2,h3,h4,h5,h6⟩:=r;dsimp only at e0 e1 h6;subst e0;subst e1
  by_cases hx:x=a
  ·subst hx;have hv:valueAt ((x,Value.ref t)::kvs) x=some (.ref t):=by unfold valueAt;simp
   have hl:((x,is0)::tb).lookup x=some is0:=by simp
   refine⟨λis e=>?_,by rw[hv,hl];rfl⟩;rw[hl] at e;cases e;exact⟨t,hv,λH=>.inr ⟨u,its,n,h1,h2,h4,h5,mq h6,h3⟩⟩
  ·have hv:valueAt ((a,Value.ref t)::kvs) x=valueAt kvs x:=by
    unfold valueAt;rw[List.find?_cons_of_neg (by simpa using λz=>hx z.symm)]
   have hl:((a,is0)::tb).lookup x=tb.lookup x:=by
    rw[Qu,show(x==a)=false by simpa using hx]
   rw[hv,hl];exact ih x
theorem Tab.dict(T:Tab X.prog X.w X.K X.mg nm tb)(I:Inv X pins σ H s):∃(a:Addr)(kvs:List (Str×Value)),X.mg nm=some (.ref a)/\(a==sysModules)=false/\s.heap.DictOf (strKind X.prog X.w) a kvs/\∀x:Str,
  (∀is,tb.lookup x=some is->∃t,valueAt kvs x=some (.ref t)/\∀H,jB X.K H t (is.map V.int))/\(valueAt kvs x).isSome=(tb.lookup x).isSome:=by
 obtain⟨a,o,es,ep,kvs,h1,h2,h3,h4,h5,h6,h7,h8,h9⟩:=T.ex;exact⟨a,kvs,h1,h5,⟨o,es,ep,I.ou a o h2,h3,h4,h6,h7,h8⟩,AH h9⟩
theorem IV(T:Tab X.prog X.w X.K X.mg nm tb)(hg:Gl X nm)(hi:PE X i ti)(hs:GZ i)(hd:(nm==("__debug__":Str))=false):
  PE X (.Subscript (.Name nm p) i pos) (λσ H Q=>ti σ H λy H1=>∃x is,y=.str x/\tb.lookup x=some is/\∀t,jB X.K Oo t (is.map V.int)->Q (.ref t) H1):=by
 intro pins s σ H Q I h;obtain⟨a,kvs,hm,hsm,dd,hv⟩:=T.dict I;refine Ff TZ.lookup hs (jr I hg hm (cm (hi pins s σ H _ I h) λiv s2 ⟨y,H2,I2,ry,x,is,ey,l,q⟩=>?_) hd);subst ey;obtain⟨t,rfl⟩:=ry;obtain⟨a',kvs',hm',hsm',dd',hv'⟩:=T.dict I2;rw[hm] at hm';cases hm';obtain⟨u,e,sq⟩:=(hv' x).1 is l;exact⟨dd'.typeIs,wpAny_getItem_of (by show Value.isStrOf x (.str x t)=true;unfold Value.isStrOf;simp) dd'.mapOf e ⟨.ref u,H2,I2.tok _,rfl,q u (sq _)⟩⟩
end L2
namespace Sm
open PySem L2 PySem.Spec PyProof.Rows
noncomputable def GA(tb:List (Str×List Int))(d:D)(h:MH):Option (D×MH):=match d with
 | .str x=>(tb.lookup x).map λis=>(.tup (is.map D.int),h)
 | _=>none
theorem CF(T:Tab X.prog X.w X.K X.mg nm tb)(hi:SE X i mi)(hg:Gl X nm:=by unfold Gl;ac_nf)(hs:GZ i:=by unfold GZ;intro _ _;ac_nf)(hd:(nm==("__debug__":Str))=false:=by ac_nf):SE X (.Subscript (.Name nm p) i pos) (Ag (GA tb) mi):=
 (IV T hg hi hs hd).imp λσ H Q ⟨ρ,δ,h,d,h',R,S,e,k⟩=>by
  obtain⟨⟨x,h1⟩,e1,e2⟩:=bw e;dsimp only at e2;refine⟨ρ,δ,h,x,h1,R,S,e1,λv H1 ⟨ρ1,T1,S1,r1⟩=>?_⟩;unfold GA at e2
  split at e2
  ·rename_i y;obtain⟨is,e3,e4⟩:=gf e2;cases e4;cases r1;exact⟨_,is,rfl,e3,λt sq=>k _ _ ⟨ρ1,T1,S1,.tup (.inr sq) (repL_ints' is)⟩⟩
  ·cases e2
end Sm
namespace Hd
open PySem PySem.W PySem.Spec PyProof.Rows L2 Sm
abbrev Sub(h h':Heap):Prop:=∀b o,h.get? b=some o->h'.get? b=some o
theorem yl(k:Sub h h')(x:rowAt h e=some r):rowAt h' e=some r:=by
 unfold rowAt at x ⊢
 split at x
 ·split at x
  ·split at x
   ·rename_i u hu;rw[k _ _ hu];exact x
   ·cases x
  ·cases x
 ·cases x
theorem nQ(k:Sub h h'):∀{es:List DictEntry} {r:List (Str×Int×List Int)},jZ h es=some r->jZ h' es=some r
 | [],_,x=>x
 | e::es,r,x=>by
  unfold jZ at x ⊢;obtain⟨y,e1,x⟩:=RS.mp x;obtain⟨ys,e2,x⟩:=Qg.mp x;rw[yl k e1,nQ k e2];exact congrArg some x
theorem x9(k:Sub h h')(x:tabAt h nm=some r):tabAt h' nm=some r:=by
 have hg:∀v,h.nsMap mainGlobals nm=some v->h'.nsMap mainGlobals nm=some v:=λv e=>by
  unfold Heap.nsMap at e ⊢
  split at e
  ·rename_i o ho;rw[k _ _ ho];exact e
  ·cases e
 unfold tabAt at x ⊢
 split at x
 ·rename_i a ha;rw[hg _ ha];dsimp only
  split at x
  ·cases x
  ·rename_i hs;rw[P0 hs]
   split at x
   ·rename_i o ho;rw[k _ _ ho];dsimp only
    split at x
    ·rename_i hc;rw[PL hc]
     split at x
     ·exact nQ k x
     ·cases x
    ·cases x
   ·cases x
 ·cases x
theorem xl:∀{vs:List Value} {is:List Int},z7 vs=some is->IntsAre vs is
 | [],_,e=>by cases e;exact .nil
 | v::r,is,e=>by
  cases v <;> first |(exact bV e) | skip
  obtain⟨js,e1,e2⟩:=Qg.mp (show(z7 r).map _=some is from e);subst e2;exact .cons _ _ (xl e1)
theorem xC(h:Al v t=true):v=.type t:=by
 unfold Al at h
 split at h
 ·rw[Qq h]
 ·cases h
theorem qf:∀{es:List DictEntry} {tb:List (Str×List Int)},jZ h es=some (tb.map λx=>(x.1,hashStr w x.1,x.2))->
  ∃kvs:List (Str×Value),(∀e∈es,∃k,(PySem.strKind P w).is k e.key=true/\e.hash=(PySem.strKind P w).hash k)/\Pairs (PySem.strKind P w) es kvs/\kvs.map (·.1)=tb.map (·.1)/\
   rT (λ(x:Str×List Int)(y:Str×Value)=>x.1=y.1/\∃(t:Addr)(u:Obj)(its:Array Value)(n:Nat),y.2=.ref t/\(aC h).lookup t=some u/\u.cls=.type "tuple"/\u.dict=none/\u.data=.seq its n/\its.size<=sizeLine/\IntsAre its.toList x.2) tb kvs
 | [],tb,x=>by
  have hz:tb=[]:=by
   have:=Option.some.inj x;exact List.map_eq_nil_iff.mp this.symm
  subst hz;exact⟨[],λ_ z=>(nomatch z),.nil,rfl,.nil⟩
 | e::es,tb,x=>by
  unfold jZ at x;obtain⟨y,e1,x⟩:=RS.mp x;obtain⟨ys,e2,x⟩:=Qg.mp x;cases tb with
  | nil=>cases x
  | cons q tb=>
   rw[P6] at x;obtain⟨rfl,rfl⟩:=List.cons.inj x;obtain⟨kvs,h1,h2,h3,h4⟩:=qf (P:=P) e2;unfold rowAt at e1
   split at e1
   ·rename_i x0 tk hk
    split at e1
    ·rename_i t hv
     split at e1
     ·rename_i u hu
      split at e1
      ·rename_i hc;rw[Qm] at hc
       split at e1
       ·rename_i its n hd
        split at e1
        ·rename_i hs;obtain⟨is,e3,e4⟩:=Qg.mp e1;have e5:x0=q.1:=congrArg (·.1) e4;have e6:e.hash=hashStr w q.1:=congrArg (·.2.1) e4;have e7:is=q.2:=congrArg (·.2.2) e4;have hki:(PySem.strKind P w).is q.1 e.key=true:=by rw[hk,e5];show Value.isStrOf q.1 (.str q.1 tk)=true;unfold Value.isStrOf;simp
         refine⟨(q.1,.ref t)::kvs,λe' he'=>?_,.cons hki hv h2,by rw[P6,P6,h3],.cons ⟨rfl,t,u,its,n,rfl,bB hu (gh λvs z=>by rw[hd] at z;cases z),xC hc.1,by simpa using hc.2,hd,PY hs (by decide),by rw[<-e7];exact xl e3⟩ h4⟩;rcases PZ.mp he' with rfl | he'
         ·exact⟨q.1,hki,e6⟩
         ·exact h1 e' he'
        ·cases e1
       ·cases e1
      ·cases e1
     ·cases e1
    ·cases e1
   ·cases e1
theorem tab_of(x:tabAt h nm=some (tb.map λx=>(x.1,hashStr w x.1,x.2)))(g:h.Ns mainGlobals mg)(nd:(tb.map (·.1)).Nodup):Tab P w (aC h) mg nm tb:=by
 unfold tabAt at x
 split at x
 ·rename_i a ha
  split at x
  ·cases x
  ·rename_i hs
   split at x
   ·rename_i o ho
    split at x
    ·rename_i hc;rw[Qm,Qm] at hc
     split at x
     ·rename_i es ep hd;obtain⟨kvs,h1,h2,h3,h4⟩:=qf (P:=P) x;have hm:mg nm=some (.ref a):=by
       obtain⟨o',es',ep',g1,g2,_,g3⟩:=g;rw[<-g3 nm,<-ha];unfold Heap.nsMap;rw[g1];dsimp only;rw[g2]
      exact⟨a,o,es,ep,kvs,hm,bB ho (gh λvs z=>by rw[hd] at z;cases z),⟨xC hc.1.1,by simpa using hc.1.2,Qq hc.2⟩,hd,by simpa using hs,λe he=>h1 e (Tc.mpr he),h2,by rw[h3];exact nd,h4⟩
     ·cases x
    ·cases x
   ·cases x
 ·cases x
end Hd
namespace L2
open PySem PySem.Spec PyProof.Rows
end L2
namespace Sm
open PySem L2 PySem.Spec PyProof.Rows
end Sm
namespace Sb
open PySem L2 PySem.Spec PyProof.Rows
open Builtin.SmallTypes (nextOf ownedTupleIsFree ownedTupleHandOut)
end Sb
namespace PySem
end PySem
namespace L2
open PySem PySem.Spec PyProof.Rows
end L2
namespace L2
open PySem PySem.Spec PyProof.Rows Sb
end L2
namespace Sm
open PySem L2 PySem.Spec PyProof.Rows Sb
end Sm
namespace Sb
open PySem L2 PySem.Spec PyProof.Rows
variable {P:Program} {w:World} {A:Around} {E:Value->Shared->Prop} {s:Shared} {b c:Bool}
end Sb
namespace Sb
open PySem L2 PySem.Spec PyProof.Rows
variable {P:Program} {w:World} {A:Around} {E:Value->Shared->Prop} {s:Shared} {b c:Bool}
end Sb
namespace L2
open PySem PySem.Spec PyProof.Rows Sb
end L2
namespace Sm
open PySem L2 PySem.Spec PyProof.Rows Sb
end Sm
namespace PySem
theorem iH:typeLookup (.type "tuple") "__rmul__"=pure (some (.builtin "tuple.__rmul__")):=by rw[typeLookup_type,builtinLookup_eq_fast];ac_nf
theorem mX:fillsNumberSlot (.type "tuple") "mul"=pure false:=
 fillsNumberSlot_seq (id:="tuple.__mul__") (r:=some (.builtin "tuple.__rmul__")) Uc.lookup (by decide+kernel) iH (by decide+kernel)
theorem uO:seqRepeat? (.type "tuple")=pure (some (.builtin "tuple.__mul__")):=by
 unfold seqRepeat?;rw[seqSlot_of (T:="tuple") (name:="__mul__") (id:="tuple.__mul__") Uc.lookup (by decide+kernel),seqSlot_of (T:="tuple") (name:="__rmul__") (id:="tuple.__rmul__") iH (by decide+kernel)];rfl
theorem ia(a:Int)(t:Tok)(l:Addr)(o:Obj)(items:Array Value)(n:Nat)(hc:o.cls=.type "tuple")(hd:o.data=.seq items n):
  Meets (Builtin.«int.__rmul__» ⟨[.int a t,.ref l],[]⟩) (λ_ R s=>s.heap.get? l=some o/\R (.ok (.ret Value.notImplemented)) s):=
 .of_wp λprog w A R s h=>by
  obtain⟨c,dd,da,sl⟩:=o;dsimp only at hc hd;subst hc;subst hd;obtain⟨hp,g,d,tk,os⟩:=s;obtain⟨hl,h⟩:=h;wp_walk;exact⟨_,rfl,h⟩
end PySem
namespace L2
open PySem PySem.Spec PyProof.Rows
def LX(K:FR):R2:=λx y H Q=>∃l k xs,x=.ref l/\y=.int k/\jB K H l xs/\-(2^62)<=k/\k < 2^62/\xs.length*k.toNat<=1000000/\
 ((xs.isEmpty||k==1)=true->Q (.ref l) H)/\((xs.isEmpty||k==1)=false->∀p,H p=none->Q (.ref p) (upd H p (.tup (List.replicate k.toNat xs).flatten)))
theorem yR(its:List Value)(m:Nat):List.foldl (λx1 x2=>x1++x2) #[] (List.replicate m its.toArray)=(List.replicate m its).flatten.toArray:=by
 have:=foldl_rep its m [];rw[RE] at this;exact this
theorem Gd:kH X (binaryOp .Mult) (LX X.K):=by
 intro pins s σ H x y v u Q I rx ry h;obtain⟨l,k,xs,rfl,rfl,hH,h1,h2,hz,q1,q2⟩:=h;cases rx;obtain⟨t,rfl⟩:=ry;obtain⟨its,rv,pt,hz2⟩:=I.tuple hH;have hl:=rv.length;obtain⟨o,e1,e2,n,e3⟩:=id pt;have hT:s.TypeIs (.ref l) "tuple":=⟨o,e1,e2⟩;refine UJ (T:="tuple") (U:="int") (by decide) hT (λs'=>TH s' k t) mX F.fills_int_mul Th uO F.slot_int_index.lookup
  (Sx Th (TH s k t) F.entry_int_rmul (F.args_int_rmul_2 _ _) (ia k t l o its.toArray n e2 e3)
   ⟨e1,rfl,hT,Rj Uc hT F.entry_tuple_mul ?_ (F.args_tuple_mul_2 _ _)⟩)
 show wpAny _ _ (asIndex (.int k t) >>=_) _ _ _;refine PD (PX ?_);rw[P0 (by simp;lia)];refine PD (wpAny_tupleItemsOf e1 e3 ?_);have hem:its.toArray.isEmpty=xs.isEmpty:=by
  cases its with
  | nil=>cases xs with | nil=>rfl | cons _ _=>simp at hl
  | cons _ _=>cases xs with | nil=>simp at hl | cons _ _=>rfl
 rw[hem]
 by_cases c:(xs.isEmpty||k==1)=true
 ·rw[PL c];refine PD ?_;unfold Builtin.Tuple.tupleIsExact;refine PD (TN hT (PX ?_));rw[PL (by decide)];refine PD (RY (PX ⟨_,rfl,?_⟩));exact⟨.ref l,H,I,rfl,q1 c⟩
 ·rw[P0 c];have c':(xs.isEmpty||k==1)=false:=by simpa using c
  have hne:xs.isEmpty=false:=by cases hx:xs.isEmpty <;> simp_all
  have fin:∀(w:List Value),Vals (List.replicate k.toNat xs).flatten w->(List.replicate k.toNat xs).flatten.length<=sizeLine->wpAny (model X.prog X.w) X.A.in1 (Builtin.Tuple.tupleExact w.toArray >>=λv=>ret v) (λfin s'=>∃v,fin=Fin.done (Flow.ret v)/\EP X pins σ Q v s') X.xe s:=λw hw hlw=>by
   unfold Builtin.Tuple.tupleExact;refine PD (QH (PX ⟨_,rfl,?_⟩) (by simp[sizeOk];rw[<-hw.length];exact hlw));exact⟨.ref _,_,I.laid (t':=s.toks) (o:=.tup (List.replicate k.toNat xs).flatten) (λb o e=>PN _ e) (PJ _) ⟨hlw,w,hw,wb.new _ _⟩,rfl,q2 c' _ I.fresh⟩
  by_cases c2:k<=0
  ·rw[PL (by simp[c2])];have h0:k.toNat=0:=by lia
   refine fin [] ?_ ?_
   ·rw[h0];exact .nil
   ·rw[h0];exact Rx _
  ·rw[P0 (by rw[Qv c2,hne];decide)];have hp:its.length*k.toNat<=1000000:=by rw[<-hl];exact hz
   have hkk:((k.toNat:Nat):Int)=k:=RO (by lia);have hpi:((its.toArray.size:Nat):Int)*k<=1000000:=by
    rw[<-hkk,P5];have h9:((its.length*k.toNat:Nat):Int)<=((1000000:Nat):Int):=Int.ofNat_le.mpr hp;rw[Int.natCast_mul] at h9;exact h9
   rw[P0 (by lia)];rw[P0 (by unfold Builtin.Tuple.tupleTooMany;simp only[QB,Int.not_lt];rw[Rt];show _<=(16777216:Int);lia)];rw[yR];refine fin _ (rv.rep k.toNat) ?_;rw[len_rep,Nat.mul_comm,Rt]
   lia
end L2
namespace Sm
open PySem L2 PySem.Spec PyProof.Rows
noncomputable def Aa(d e:D)(h:MH):Option (D×MH):=match d,e with
 | .tup xs,.int n=>if -1000<=n/\n<=1000/\xs.length<=1000 then some (.tup (List.replicate n.toNat xs).flatten,h) else none
 | _,_=>none
theorem Gb:kG X (binaryOp .Mult) Aa:=by
 intro pins s σ H x y v u Q I rx ry hh;obtain⟨ρ,h,d,e,z,h',S,rd,re,ee,k⟩:=hh;cases rd <;> first |(exact bV ee) | skip
 cases re <;> first |(exact bV ee) | skip
 rename_i a vs ds ht la n
 by_cases c:-1000<=n/\n<=1000/\ds.length<=1000
 ·rw[show Aa (.tup ds) (.int n) h=some (.tup (List.replicate n.toNat ds).flatten,h) by show(if _ then _ else _)=_;rw[PL c]] at ee;cases ee;have hb:ds.length*n.toNat<=1000*1000:=TV c.2.2 (by lia);refine Gd pins s σ H _ _ v u Q I rx ry ⟨a,n,vs,rfl,rfl,ht.sq,by lia,by lia,by rw[la.length];lia,λhc=>?_,λ_ l hl=>k _ _ (.tup S (la.rep _) hl)⟩;have:(List.replicate n.toNat ds).flatten=ds:=by
   rw[Rl] at hc;rcases hc with hc | hc
   ·have hv:vs=[]:=by cases vs with | nil=>rfl | cons _ _=>cases hc
    have hd:ds=[]:=by have:=la.length;rw[hv] at this;cases ds with | nil=>rfl | cons _ _=>simp at this
    rw[hd];simp
   ·have:n=1:=by simpa using hc
    subst this;simp
  rw[this] at k;exact k _ _ (cT.here S (.tup ht la))
 ·rw[show Aa (.tup ds) (.int n) h=none by show(if _ then _ else _)=_;rw[P0 c]] at ee;cases ee
end Sm
namespace L2
open PySem PySem.Spec PyProof.Rows
end L2
namespace L2
open PySem PySem.Spec PyProof.Rows PySem.SeqAt
end L2
namespace Sm
open PySem L2 PySem.Spec PyProof.Rows
def Nb(mg:Str->Option Value)(x:Str)(d:D):Prop:=∃(v:V)(u:Value),mg x=some u/\RelV v u/\∀K ρ H,Rep K ρ H v d
theorem iJ(C:Nb X.mg x d)(hg:Gl X x)(hd:(x==("__debug__":Str))=false:=by ac_nf):SE X (.Name x pos) (eK d):=by
 obtain⟨v,u,h1,h2,h3⟩:=C;exact Fu hg h1 h2 (λρ H=>h3 X.K ρ H) hd
end Sm
namespace Hd
open PySem PySem.W PySem.Spec PyProof.Rows L2 Sm
theorem vK(T:Top q loose mean mg mb h)(e:valOf q x=some (.int i)):Nb mg x (.int i):=by
 obtain⟨v,h1,h2⟩:=T.const x _ e;have:=h2 h;cases this with
 | int _ t=>exact⟨.int i,_,h1,⟨t,rfl⟩,λ_ _ _=>.int i⟩
end Hd
namespace L2
open PySem PySem.Spec PyProof.Rows
end L2
namespace Sm
open PySem L2 PySem.Spec PyProof.Rows
end Sm
namespace L2
open PySem PySem.Spec PyProof.Rows
end L2
namespace Sm
open PySem L2 PySem.Spec PyProof.Rows
end Sm
namespace L2
open PySem PySem.Spec PyProof.Rows
end L2
namespace Sm
open PySem L2
end Sm
namespace Sm
open PySem L2 PySem.Spec PyProof.Rows
end Sm
namespace L2
open PySem PySem.Spec PyProof.Rows
end L2
namespace Sm
open PySem L2 PySem.Spec PyProof.Rows
theorem fk(d:Df X.prog X.w X.K X.mg X.base nm k ps n F)(hr:cD k' X.A)(ha:SA X (e::es) m)(hk:k<=k':=by decide)(hl:jG m n:=by repeat(first | exact aD | refine ag ?_))(hg:Gl X nm:=by unfold Gl;ac_nf)(hdb:(nm==("__debug__":Str))=false:=by ac_nf)(he:starEach (e::es) X.env=(false,eval e X.env)::starEach es X.env:=by ac_nf)(hpl:(backTo pos (starEach es X.env)).any (·.1)=false:=by ac_nf):SE X (.Call (.Name nm p) (e::es) [] pos) (ak F m):=LJ d hr hk ha hl hg hdb he hpl
theorem yf{x:Str}{id:String}{p pos:Pos}{e:Expr}{es:List Expr}{f:Fn}{m:AM}(hc:gm X (.builtin id) f)(hm:X.mg x=none)(hv:bootBuiltins x=some (.builtin id))(ha:SA X (e::es) m)(hg:Gl X x:=by unfold Gl;ac_nf)(hn:x≠"__name__":=by decide)(hdb:(x==("__debug__":Str))=false:=by ac_nf)
  (he:starEach (e::es) X.env=(false,eval e X.env)::starEach es X.env:=by ac_nf) (hpl:(backTo pos (starEach es X.env)).any (·.1)=false:=by ac_nf):SE X (.Call (.Name x p) (e::es) [] pos) (ak f m):=CL hc hg hm hv ha hn hdb he hpl
theorem KQ{x:Str}{id:String}{p pos:Pos}{e:Expr}{es:List Expr}{f:Fn}{m:AM}(hc:gm X (.type id) f)(hm:X.mg x=none)(hv:bootBuiltins x=some (.type id))(ha:SA X (e::es) m)(hg:Gl X x:=by unfold Gl;ac_nf)(hn:x≠"__name__":=by decide)(hdb:(x==("__debug__":Str))=false:=by ac_nf)
  (he:starEach (e::es) X.env=(false,eval e X.env)::starEach es X.env:=by ac_nf) (hpl:(backTo pos (starEach es X.env)).any (·.1)=false:=by ac_nf):SE X (.Call (.Name x p) (e::es) [] pos) (ak f m):=CK hc hg hm hv ha hn hdb he hpl
theorem Lx(hm:X.mg x=none)(hv:bootBuiltins x=some (.type n))(hg:Gl X x:=by unfold Gl;ac_nf)(hn:x≠"__name__":=by decide)(hd:(x==("__debug__":Str))=false:=by ac_nf):SE X (.Name x pos) (eK (.ty n)):=LF hg hm hv hn hd
theorem six(hr:cD k X.A)(ha:SE X a ma)(hb:SE X b mb)(hs:md b:=by unfold md;intro _ _;ac_nf):SE X (.Subscript a b pos) (ao aV ma mb):=LH hr.units ha hb hs
end Sm
namespace Hd
open PySem PySem.W PySem.Spec PyProof.Rows L2 Sm
theorem u0{P:List Value->Prop}(h:P [])(us:List Value)(hl:us.length=0):P us:=by cases us with | nil=>exact h | cons _ _=>cases hl
theorem u1{P:List Value->Prop}(h:∀a,P [a])(us:List Value)(hl:us.length=1):P us:=by
 cases us with
 | nil=>cases hl
 | cons a r=>exact u0 (P:=λr=>P (a::r)) (h a) r (Nat.succ.inj hl)
theorem u2{P:List Value->Prop}(h:∀a b,P [a,b])(us:List Value)(hl:us.length=2):P us:=by
 cases us with
 | nil=>cases hl
 | cons a r=>exact u1 (P:=λr=>P (a::r)) (h a) r (Nat.succ.inj hl)
theorem u3{P:List Value->Prop}(h:∀a b c,P [a,b,c])(us:List Value)(hl:us.length=3):P us:=by
 cases us with
 | nil=>cases hl
 | cons a r=>exact u2 (P:=λr=>P (a::r)) (h a) r (Nat.succ.inj hl)
theorem u4{P:List Value->Prop}(h:∀a b c d,P [a,b,c,d])(us:List Value)(hl:us.length=4):P us:=by
 cases us with
 | nil=>cases hl
 | cons a r=>exact u3 (P:=λr=>P (a::r)) (h a) r (Nat.succ.inj hl)
theorem u5{P:List Value->Prop}(h:∀a b c d e,P [a,b,c,d,e])(us:List Value)(hl:us.length=5):P us:=by
 cases us with
 | nil=>cases hl
 | cons a r=>exact u4 (P:=λr=>P (a::r)) (h a) r (Nat.succ.inj hl)
theorem u6{P:List Value->Prop}(h:∀a b c d e f,P [a,b,c,d,e,f])(us:List Value)(hl:us.length=6):P us:=by
 cases us with
 | nil=>cases hl
 | cons a r=>exact u5 (P:=λr=>P (a::r)) (h a) r (Nat.succ.inj hl)
theorem u7{P:List Value->Prop}(h:∀a b c d e f g,P [a,b,c,d,e,f,g])(us:List Value)(hl:us.length=7):P us:=by
 cases us with
 | nil=>cases hl
 | cons a r=>exact u6 (P:=λr=>P (a::r)) (h a) r (Nat.succ.inj hl)
theorem Mj{q:Program}{loose:List Str}{mean:ExcName->Option Value}{mg mb:Str->Option Value}{h base:Heap}{P:Program}{w:World}(T:Top q loose mean mg mb h){n:Str}{st:Stmt}(e:(recsOf q).find? (λe=>e.name==n)=some (k8 n st)){ps:List Str}{k N:Nat}{F:Fn}
  (hb:∀{f:Addr} {fd:FuncData},rW (aC h) n n st f fd->Binds (aC h) fd ps []) (ok:∀{f:Addr} {fd:FuncData},rW (aC h) n n st f fd->keepIn (aC h) (.ref f)=true->Binds (aC h) fd ps []->mg n=some (.ref f)->dY P w (aC h) mg base mm k f fd ps (AK (aC h) N F)):Df P w (aC h) mg base n k ps N F:=by
 obtain⟨f,fd,m,G⟩:=z9 T e;exact⟨f,fd,ok G G.kp (hb G) m,G.kp,hb G,m⟩
end Hd
namespace L2
open PySem PySem.Spec PyProof.Rows Builtin.Str
theorem Gj{X:Cx}:G0 X "str.join" (λx vs H Q=>∃p a ss,x=.str p/\vs=[.ref a]/\(fV X.K H a (ss.map V.str)\/jB X.K H a (ss.map V.str))/\(ss.map (·.length)).sum+ss.length*p.length<=16777216/\Q (.str (Txt.join p ss)) H):=by
 intro pins s σ H x xs v us Q I rx rs h;obtain⟨p,a,ss,rfl,rfl,ha,hz,q⟩:=h;obtain⟨t,rfl⟩:=rx;obtain⟨u,rfl,ru⟩:=vals1 rs;cases ru;rcases ha with ha | ha
 ·obtain⟨its,rv,p,_⟩:=I.list ha;exact join_list p.isList (by simpa using jc rv) hz λt' k=>⟨.str _,H,I.kept (t':=k) λ_ _ e=>e,⟨t',rfl⟩,q⟩
 ·obtain⟨its,rv,p,_⟩:=I.tuple ha;exact join_tuple p (by simpa using jc rv) hz λt' k=>⟨.str _,H,I.kept (t':=k) λ_ _ e=>e,⟨t',rfl⟩,q⟩
end L2
namespace L2
open PySem PySem.Spec PyProof.Rows
end L2
namespace Sm
open PySem L2 PySem.Spec PyProof.Rows Builtin.Str
theorem gy{x y:Str}(hx:PyData.strOk x=true)(hy:PyData.strOk y=true):PyData.strOk (x++y)=true:=by
 unfold PyData.strOk at*;show(x.cps++y.cps).all _=true;rw[Array.all_append,hx,hy];rfl
noncomputable def isStr(d:D)(_:MH):Bool:=match d with
 | .str _=>true
 | _=>false
theorem ty_str{K:FR}{ρ:Ad}{H:Hp}{h:MH}{v:V}{d:D}(S:bF K ρ h H)(r:Rep K ρ H v d)(e:isStr d h=true):KJ K "str" v H:=by
 cases r <;> first |(cases e;done) | exact rfl
noncomputable def xa:ET:=λd ds h=>match d,ds with
 | .str x,[y]=>(dE y h).bind λp=>(nE p.1).bind λns=>if(ns.map (·.length)).sum+ns.length*x.length<=16777216 then some (.str (Str.join x ns),h) else none
 | _,_=>none
theorem pP{x:Str}(hx:PyData.strOk x=true):∀ns:List Str,(∀y∈ns,PyData.strOk y=true)->PyData.strOk (Str.join x ns)=true
 | [],_=>by ac_nf
 | [y],h=>h y (.head _)
 | y::z::r,h=>gy (gy (h y (.head _)) hx) (pP hx (z::r) λa ha=>h a (.tail _ ha))
theorem zU{X:Cx}:G0 X "str.join" (rM X.K xa):=by
 intro pins s σ H x xs v us Q I rx rs hh;obtain⟨ρ,h,d,ds,z,h',S,rd,l,ee,k⟩:=hh;cases rd <;> first |(exact bV ee) | skip
 rename_i p hp
 match ds,l,ee with
 | [],_,ee=>cases ee
 | _::_::_,_,ee=>cases ee
 | [y],l,ee=>
  obtain⟨⟨ys,w⟩,e1,e2⟩:=bw ee;obtain⟨ns,e3,e4⟩:=bw e2
  by_cases c:(ns.map (·.length)).sum+ns.length*p.length<=16777216
  ·rw[PL c] at e4;cases e4;obtain⟨v1,rfl,ry⟩:=rep1 l;obtain⟨a,vs,rfl,hq,l2⟩:=kN S ry e1;have:=pO e3;dsimp only at this;subst this;obtain⟨e5,f⟩:=j5 l2;subst e5;refine Gj pins s σ H _ _ v us Q I rx rs ⟨p,a,ns,rfl,rfl,hq,c,?_⟩;rw[show Txt.join p ns=Str.join p ns from StrLaws.glued_eq_join p ns];exact k _ _ (.here S (.str (pP hp ns f)))
  ·rw[P0 c] at e4;cases e4
theorem sM(i:Int):PyData.strOk (Str.ofString (toString i))=true:=by
 unfold PyData.strOk;rw[Array.all_eq_true'];intro c hc;refine Qj (Nat.lt_of_not_le λh=>?_);exact int_text_free' c ⟨by lia,.inr (by lia)⟩ i (Tc.mpr hc)
noncomputable def xn:Fn:=λds h=>match ds with
 | [.int i]=>if i.natAbs.log2 < 1920 then some (.str (toString i),h) else none
 | _=>none
theorem Aj{X:Cx}:gm X (.type "str") xn:=by
 intro pins s σ H xs us Q I r hh;obtain⟨ρ,h,ds,z,h',S,l,ee,k⟩:=hh
 match ds,l,ee with
 | [],_,ee=>cases ee
 | d::_::_,_,ee=>cases d <;> exact bV ee
 | [d],l,ee=>
  obtain⟨v,rfl,rd⟩:=rep1 l;cases rd <;> first |(exact bV ee) | skip
  unfold xn at ee;dsimp only at ee
  split at ee
  ·rename_i c;cases ee;refine vO pins s σ H _ us Q I r ⟨_,rfl,c,k _ _ (.here S (.str ?_))⟩;exact sM _
  ·cases ee
end Sm
namespace L2
open PySem PySem.Spec PyProof.Rows
section
variable {X:Cx}
end
end L2
namespace Sm
open PySem L2 PySem.Spec PyProof.Rows
section
variable {X:Cx}
end
theorem Bv{h:Heap}{f:Value->Bool}{p:PyData}:∀{us:List Value} {ds:List PyData} {as:List Addr},ReadsAll h us ds as->(∀u d as,u∈us->Reads h u d as->d∈ds->f u=PyData.eqv d p)->us.findIdx? f=ds.findIdx? λb=>PyData.eqv b p:=by
 intro us
 induction us with
 | nil=>intro ds as r _;cases r;rfl
 | cons v us ih=>
  intro ds as r hf;cases r with | cons r l=>
  rw[UQ,UQ,hf _ _ _ PQ r PQ,ih l λu d as hu hr hd=>hf u d as (PV _ hu) hr (PV _ hd)]
noncomputable def zV:ET:=λd ds h=>match ds with
 | [x]=>(dw d h).bind λys=>(zD h x).bind λp=>(nS ys).bind λbs=>if p.depth<=60/\PyData.depthAll bs<=60 then(bs.findIdx? λb=>PyData.eqv b p).map λj:Nat=>(D.int (Int.ofNat j),h) else none
 | _=>none
theorem Bh{X:Cx}(hu:X.A.units+64 < cLine):G0 X "list.index" (rM X.K zV):=by
 intro pins s σ H x xs v us Q I rx rs hh;obtain⟨ρ,h,d,ds,z,h',S,rd,l,ee,k⟩:=hh
 match ds,l,ee with
 | [],_,ee=>exact bV ee
 | _::_::_,_,ee=>exact bV ee
 | [y],l,ee=>
  obtain⟨ys,e1,e2⟩:=bw ee;obtain⟨p,e3,e4⟩:=bw e2;obtain⟨bs,e5,e6⟩:=bw e4
  by_cases w:p.depth<=60/\PyData.depthAll bs<=60
  ·rw[PL w] at e6;obtain⟨j,e7,e8⟩:=gf e6;cases e8;obtain⟨a,vs,rfl,ha,l1⟩:=dm S rd e1;obtain rfl:v=Value.ref a:=rx;obtain⟨yv,rfl,ry⟩:=rep1 l;obtain⟨u,rfl,ru⟩:=Vals.one rs;obtain⟨r1,c1⟩:=k9 S ry e3;obtain⟨r2,c2⟩:=l1.sr e5;obtain⟨as,ra⟩:=r1.reads I ru;obtain⟨its,rv,pl,hz⟩:=I.list (.inl (.inl ha));obtain⟨bs',rb⟩:=r2.reads I rv;have hj:=(Bv (f:=Af s.heap p) rb λu d as _ hr hd=>nq hr (cj c2 hd)).trans e7;obtain⟨j1,j2,j3⟩:=List.findIdx?_eq_some_iff_getElem.mp hj;have key:∀y,y∈its.toArray->PySem.SeqAt.EqAt X.A.in1 s y u (Af s.heap p y):=by
    intro y hy;obtain⟨d,as',hr,hd⟩:=ji rb y (by simpa using hy);rw[nq hr (cj c2 hd)];refine RT d p _ s y u as' as hr ra (cj c2 hd) c1 ?_;have h1:=jy hd;have h2:min d.depth p.depth<=d.depth:=SO _ _;show X.A.units+1+min d.depth p.depth < cLine;have h3:=w.2
    lia
   obtain⟨o,n,g,o1,o2,o3⟩:=pl;obtain⟨oc,od,oda,os⟩:=o;dsimp only at o1 o2 o3;subst o1 o2 o3;have hz2:=rv.length;rw[Rt] at hz;refine Sx Ui ⟨_,g,rfl⟩ PySem.F.entry_list_index (PySem.F.args_list_index_2 _ _)
    (PySem.SeqAt.list_indexAt a its.toArray n none os u (Af s.heap p) j (by simpa using j1) (by lia) (by simpa using j2) (λm hm hlt=>by simpa using j3 m hlt)) ⟨g,key,?_⟩
   exact⟨.int _,H,I.kept (t':=s.toks+1) λ_ _ e=>e,⟨_,rfl⟩,k _ _ (.here S (.int _))⟩
  ·rw[P0 w] at e6;cases e6
end Sm
namespace L2
open PySem PySem.Spec PyProof.Rows
end L2
namespace Sm
open PySem L2 PySem.Spec PyProof.Rows
end Sm
namespace L2
open PySem PySem.Spec PyProof.Rows
section
variable {P:Program} {w:World} {A:Around} {E:Value->Shared->Prop} {s:Shared} {a:Addr} {es:Array (Int×Value)}
end
end L2
namespace L2
open PySem PySem.Spec PyProof.Rows PySem.SeqAt
end L2
namespace L2
open PySem PySem.Spec PyProof.Rows
section
variable {P:Program} {w:World} {A:Around} {E:Value->Shared->Prop} {s:Shared} {a:Addr} {ks:List Int}
end
end L2
namespace Sm
open PySem L2 PySem.Spec PyProof.Rows
end Sm
namespace L2
open PySem PySem.Spec PyProof.Rows
end L2
namespace Sm
open PySem L2 PySem.Spec PyProof.Rows
end Sm
namespace L2
open PySem PySem.Spec PyProof.Rows PySem.SeqAt
section
variable {P:Program} {w:World} {E:Value->Shared->Prop}
end
noncomputable local instance:DecidableEq PyData:=λa b=>Classical.propDecidable _
end L2
namespace L2
open PySem PySem.Spec PyProof.Rows PySem.W
section
variable {ks:List PKey} {i j:Nat}
end
section
variable {P:Program} {w:World} {A:Around} {E:Value->Shared->Prop} {s:Shared}
end
end L2
namespace L2
open PySem PySem.Spec PyProof.Rows PySem.W PySem.SeqAt
section
variable {P:Program} {w:World} {A:Around} {E:Value->Shared->Prop} {s:Shared} {a:Addr}
end
end L2
namespace Sm
open PySem L2 PySem.Spec PyProof.Rows
end Sm
namespace L2
open PySem PySem.Spec PyProof.Rows
end L2
namespace Sm
open PySem L2 PySem.Spec PyProof.Rows
end Sm
namespace L2
open PySem PySem.Spec PyProof.Rows PySem.SeqAt
end L2
namespace Sm
open PySem L2 PySem.Spec PyProof.Rows
end Sm
namespace Sm
open PySem L2 PySem.Spec PyProof.Rows PySem.SeqAt
noncomputable local instance:DecidableEq PyData:=λa b=>Classical.propDecidable _
section
variable {K:FR} {ρ ρ':Ad} {H H':Hp}
end
section
variable {X:Cx}
end
end Sm
namespace Sm
open PySem L2 PySem.Spec PyProof.Rows
abbrev v0:EM:=av 0
abbrev v1:EM:=av 1
abbrev v2:EM:=av 2
abbrev v3:EM:=av 3
abbrev v4:EM:=av 4
abbrev v5:EM:=av 5
abbrev v6:EM:=av 6
abbrev v7:EM:=av 7
abbrev v8:EM:=av 8
abbrev v9:EM:=av 9
abbrev v10:EM:=av 10
abbrev v11:EM:=av 11
abbrev NA:EM:=av 12
abbrev Nz:EM:=av 13
abbrev OU:EM:=av 14
abbrev ki(i:Int):EM:=eK (.int i)
abbrev ks(x:Str):EM:=eK (.str x)
abbrev a1(x:EM):AM:=af x aH
abbrev a2(x y:EM):AM:=af x (af y aH)
abbrev a3(x y z:EM):AM:=af x (af y (af z aH))
abbrev a4(x y z u:EM):AM:=af x (af y (af z (af u aH)))
section
variable {P:Program} {w:World} {K:FR} {mg:Str->Option Value} {base:Heap} {x qual:Str} {st:Stmt} {f:Addr} {fd:FuncData} {N ps:List Str} {k:Nat}
theorem aU(F:rW K x qual st f fd)(Sc:aE N ps (ah st))(hb:∀(cdv:Value)(A:Around)(outer:List Env)(s:Shared)(H:Hp)(E:XK),cD k (A.deeper (envOfC qual (ah st) s.heap.objs.size f cdv))->N.Nodup->BU (eN mm P w K mg base N qual (ah st) f cdv A outer s H E).DK (cY st) body):
  dY P w K mg base mm (k+1) f fd ps (AK K ps.length (jm N.length body)):=JM F Sc λc A o s H E hr=>hb c A o s H E hr Sc.nd
end
theorem Lz{op:CmpOp}(ho:kG X (compareOp op) f)(ha:SE X a ma)(hb:SE X b mb)(hm:behindInMarks op b=false:=by first | exact dQ _ | ac_nf):ST X (.Compare a [op] [b] pos) (aI (ao f ma mb)):=eh ho ha hb hm
theorem LD{op:CmpOp}(ho:kG X (compareOp op) f)(ha:SE X a ma)(hb:SE X b mb)(hm:behindInMarks op b=false:=by first | exact dQ _ | ac_nf):SE X (.Compare a [op] [b] pos) (ao f ma mb):=Ij ho ha hb hm
theorem NQ{x1}(h:SA X es aH):SE X (.Tuple es x1 pos) (ak az aH):=cA h aD
theorem NP{x1}(h:SA X es (af m0 aH)):SE X (.Tuple es x1 pos) (ak az (af m0 aH)):=cA h (ag aD)
theorem NO{x1}(h:SA X es (af m0 (af m1 aH))):SE X (.Tuple es x1 pos) (ak az (af m0 (af m1 aH))):=cA h (ag (ag aD))
theorem NM{x1}(h:SA X es (af m0 (af m1 (af m2 aH)))):SE X (.Tuple es x1 pos) (ak az (af m0 (af m1 (af m2 aH)))):=cA h (ag (ag (ag aD)))
theorem NL{x1}(h:SA X es (af m0 (af m1 (af m2 (af m3 (af m4 (af m5 aH))))))):SE X (.Tuple es x1 pos) (ak az (af m0 (af m1 (af m2 (af m3 (af m4 (af m5 aH))))))):=cA h (ag (ag (ag (ag (ag (ag aD))))))
theorem NY(h:SA X es aH):jF X (.List es pos) aH:=cO h aD
theorem NX(h:SA X es (af m0 aH)):jF X (.List es pos) (af m0 aH):=cO h (ag aD)
theorem NW(h:SA X es (af m0 (af m1 aH))):jF X (.List es pos) (af m0 (af m1 aH)):=cO h (ag (ag aD))
theorem NV(h:SA X es (af m0 (af m1 (af m2 aH)))):jF X (.List es pos) (af m0 (af m1 (af m2 aH))):=cO h (ag (ag (ag aD)))
theorem NU(h:SA X es (af m0 (af m1 (af m2 (af m3 aH))))):jF X (.List es pos) (af m0 (af m1 (af m2 (af m3 aH)))):=cO h (ag (ag (ag (ag aD))))
theorem NT(h:SA X es (af m0 (af m1 (af m2 (af m3 (af m4 aH)))))):jF X (.List es pos) (af m0 (af m1 (af m2 (af m3 (af m4 aH))))):=cO h (ag (ag (ag (ag (ag aD)))))
theorem NS(h:SA X es (af m0 (af m1 (af m2 (af m3 (af m4 (af m5 (af m6 (af m7 aH))))))))):jF X (.List es pos) (af m0 (af m1 (af m2 (af m3 (af m4 (af m5 (af m6 (af m7 aH)))))))):=cO h (ag (ag (ag (ag (ag (ag (ag (ag aD))))))))
end Sm
namespace Hd
open PySem PySem.W PySem.Spec PyProof.Rows L2 Sm
theorem br{q:Program}{loose:List Str}{mean:ExcName->Option Value}{mg mb:Str->Option Value}{h base:Heap}{P:Program}{w:World}(T:Top q loose mean mg mb h){n:Str}{st:Stmt}(e:(recsOf q).find? (λe=>e.name==n)=some (k8 n st)){ps:List Str}{k N:Nat}{F:Fn}
  (ok:∀{f:Addr} {fd:FuncData},rW (aC h) n n st f fd->keepIn (aC h) (.ref f)=true->Binds (aC h) fd ps []->mg n=some (.ref f)->dY P w (aC h) mg base mm k f fd ps (AK (aC h) N F)) (hb:∀{f:Addr} {fd:FuncData},rW (aC h) n n st f fd->Binds (aC h) fd ps []:=by walk_at "b"):Df P w (aC h) mg base n k ps N F:=Mj T e hb ok
end Hd
namespace L2
open PySem PySem.Spec PyProof.Rows
section
variable {P:Program} {w:World} {A:Around} {E:Value->Shared->Prop} {s:Shared} {d J:Addr} {o:Obj} {es:Array DictEntry} {ep:Nat}
end
end L2
namespace Sm
open PySem L2 PySem.Spec PyProof.Rows PySem.SeqAt
end Sm
namespace Sb
open PySem L2 PySem.Spec PyProof.Rows
open Builtin.SmallTypes (nextOf ownedTupleIsFree ownedTupleHandOut)
section
variable {P:Program} {w:World} {A:Around} {E:Value->Shared->Prop} {s:Shared} {b c:Bool}
end
section
variable {P:Program} {w:World} {A:Around} {E:Value->Shared->Prop} {s:Shared}
end
end Sb
namespace Sm
open PySem L2 PySem.Spec PyProof.Rows
end Sm
namespace L2
open PySem PySem.Spec PyProof.Rows
end L2
namespace Sm
open PySem L2 PySem.Spec PyProof.Rows
mutual
noncomputable def Hb:D->Bool
 | .bR=>true
 | .bl _=>true
 | .int _=>true
 | .str _=>true
 | .tup xs=>Dc xs
 | _=>false
noncomputable def Dc:List D->Bool
 | []=>true
 | x::r=>Hb x&&Dc r
end
section
variable {K:FR} {ρ ρ':Ad} {H H':Hp} (hh:∀b vs,Rd H b (.tup vs)->¬ρ.has b->Rd H' b (.tup vs)/\¬ρ'.has b)
include hh
mutual
theorem CO{v:V}{d:D}(r:Rep K ρ H v d)(f:Hb d=true):Rep K ρ' H' v d:=by
 cases r with
 | bR=>exact .bR
 | bl b=>exact .bl b
 | int i=>exact .int i
 | str h=>exact .str h
 | tup h l=>exact .tup (h.elim (λ⟨a,n⟩=>.inl (hh _ _ a n)) .inr) (sW l f)
 | _=>cases f
theorem sW{vs:List V}{ds:List D}(r:aF K ρ H vs ds)(f:Dc ds=true):aF K ρ' H' vs ds:=by
 cases r with
 | nil=>exact .nil
 | cons h t=>
  have f:=Qc.mp f;exact .cons (CO h f.1) (sW t f.2)
end
end
end Sm
namespace L2
open PySem PySem.Spec PyProof.Rows
def O4(h:Heap)(x T:Addr)(C:Value):Prop:=
 ∃oe vs oT ts,h.get? x=some oe/\oe.cls=C/\oe.data=.fields vs/\vs[1]?=some (.ref T)/\T≠x/\h.get? T=some oT/\oT.data=.fields ts/\ts[3]?=some .none
noncomputable def gX(P:Program)(w:World):Aw:=λouter H s E e s'=>∃x T C H',e=.ref x/\s.heap.get? x=none/\s.heap.get? T=none/\H' x=none/\H' T=none/\O4 s'.heap x T C/\s'.os=s.os/\AllBare s'.gens/\
 Un (jv outer) [] H H' s.heap s'.heap/\i6 P w H' s'.heap/\E C none H'
theorem bM.ex(x:bM P w H h a o):∃u,h.get? a=some u:=by
 cases o with
 | lst xs=>obtain⟨_,_,_,_,e⟩:=x;exact⟨_,e⟩
 | tup xs=>obtain⟨_,_,_,o,e,_⟩:=x;exact⟨_,e⟩
 | dK kvs=>obtain⟨_,_,_,_,o,_,_,e,_⟩:=x;exact⟨_,e⟩
 | dT kvs=>obtain⟨_,_,_,_,o,_,_,e,_⟩:=x;exact⟨_,e⟩
 | set S n=>obtain⟨o,_,_,_,e,_⟩:=x;exact⟨_,e⟩
 | ins C dx fs=>obtain⟨_,_,_,e,_⟩:=x;exact⟨_,e⟩
 | own y=>exact x
 | xd fs=>obtain⟨_,⟨_,_,_,e,_⟩,_⟩:=x;exact⟨_,e⟩
 | Nm lo hi=>obtain⟨_,_,_,e⟩:=x;exact⟨_,e⟩
 | kF ob u=>exact⟨_,x.1⟩
 | G3 ps=>exact⟨_,x⟩
 | met f y=>exact⟨_,x⟩
 | ext φ=>exact x.2.1
 | Ae φ=>exact x.2.1
 | tb=>obtain⟨_,e,_⟩:=x;exact⟨_,e⟩
theorem pB{h base base':Heap}:∀{l:List Env},h.FunFrames base l->(∀b∈jv l,base'.get? b=none)->h.FunFrames base' l
 | [],_,_=>trivial
 | env::r,⟨hk,⟨L,o,hf,hn,ho,hd⟩,hr⟩,k=>by
  have k':∀b,b=L\/b∈jv r->base'.get? b=none:=λb hb=>k b (by unfold jv;rw[QN,hf];exact PZ.mpr hb);exact⟨hk,⟨L,o,hf,k' L (.inl rfl),ho,hd⟩,pB hr λb hb=>k' b (.inr hb)⟩
abbrev JY(CX:Aw)(P:Program)(w:World)(K:FR)(mg:Str->Option Value)(base:Heap)(N:List Str)(qual:Str)(scope:Scope)(fn:Str->Bool)(cl:List (Str×Addr))(f:Addr)(cd:Value)(A:Around)(outer:List Env)(s:Shared)(H:Hp)(E:XK):Cx where
 prog:=P
 w:=w
 K:=K
 mg:=mg
 base:=base
 A:=A.deeper (PySem.W.envX qual scope s.heap.objs.size f cd cl)
 N:=N
 s₀:=s
 H₀:=H
 env:=PySem.W.envX qual scope s.heap.objs.size f cd cl
 outer:=outer
 stack:=PySem.W.envX qual scope s.heap.objs.size f cd cl::outer
 ex:=[]
 calm:=true
 fn:=fn
 pn:=[]
 xe:=λe s'=>wpAny (model P w) (A.deeper (PySem.W.envX qual scope s.heap.objs.size f cd cl)) (leaving (PySem.W.envX qual scope s.heap.objs.size f cd cl) e) (λ_ s''=>CX outer H s E e s'') (λe' s''=>CX outer H s E e' s'') s'
section
variable {CX:Aw} {P:Program} {w:World} {K:FR} {mg:Str->Option Value} {base:Heap} {N:List Str} {qual:Str} {scope:Scope} {fn:Str->Bool} {cl:List (Str×Addr)} {f:Addr} {cd:Value} {A:Around} {outer:List Env} {s₀:Shared} {H₀:Hp} {E:XK} {pins:List (Addr×Obj)} {σ:St} {H:Hp} {s:Shared} {x T:Addr} {C:Value}
theorem xi(J:Inv (JY (gX P w) P w K mg base N qual scope fn cl f cd A outer s₀ H₀ E) pins σ H s)(hx0:s₀.heap.get? x=none)(hHx:H x=none)(hT:∀b,b∈(x::ts)->H b=none/\s₀.heap.get? b=none){h':Heap}
  (hl:Heap.Left (PySem.W.hideAll s.heap ((x::ts)++jv (PySem.W.envX qual scope s₀.heap.objs.size f cd cl::outer))) (PySem.W.envX qual scope s₀.heap.objs.size f cd cl::outer) x C s.heap h') (e:E C none H):gX P w outer H₀ s₀ E (.ref x) {s with heap:=h'}:=by
 obtain⟨st,ff,⟨oe,vs,T,oT,tr,he,hc,hd,h1,hbT,hTx,hgT,hdT,h3⟩,sl⟩:=hl;have keep:∀b o,s.heap.get? b=some o->b∉(x::ts)->b∉jv (PySem.W.envX qual scope s₀.heap.objs.size f cd cl::outer)->h'.get? b=some o:=λb o eb n1 n2=>
  st b o (Se _ eb λz=>(Qi.mp z).elim n1 n2)
 have fr:∀b∈jv (PySem.W.envX qual scope s₀.heap.objs.size f cd cl::outer),H b=none:=J.pe;have fo:∀b o,s₀.heap.get? b=some o->b∉jv outer->b∉jv (PySem.W.envX qual scope s₀.heap.objs.size f cd cl::outer):=λb o eb n z=>by
  rcases PZ.mp (show b∈s₀.heap.objs.size::jv outer from z) with z | z
  ·rw[z] at eb;exact absurd (P2 eb) (Q4 _)
  ·exact n z
 have hTT:H T=none/\s₀.heap.get? T=none:=by
  by_cases z:T∈x::ts
  ·exact hT T z
  ·by_cases z2:T∈jv (PySem.W.envX qual scope s₀.heap.objs.size f cd cl::outer)
   ·obtain⟨_,o,eo,hn⟩:=ff.mem z2;rw[hgT] at eo;cases eo;exact absurd hdT (hn _)
   ·have hn:s.heap.get? T=none:=by
     cases q:s.heap.get? T with
     | none=>rfl
     | some o=>rw[Se _ q λy=>(Qi.mp y).elim z z2] at hbT;cases hbT
    refine⟨?_,?_⟩
    ·cases q:H T with
     | none=>rfl
     | some u=>obtain⟨o,eo⟩:=(J.ba T u q).ex;rw[hn] at eo;cases eo
    ·cases q:s₀.heap.get? T with
     | none=>rfl
     | some o=>obtain⟨o',eo⟩:=J.base.there T o q (λy=>(nomatch y));rw[hn] at eo;cases eo
 have sx:∀b o,s₀.heap.get? b=some o->b∉x::ts:=λb o eb z=>by rw[(hT b z).2] at eb;cases eb
 refine⟨x,T,C,H,rfl,hx0,hTT.2,hHx,hTT.1,⟨oe,vs,oT,tr,he,hc,hd,h1,hTx,hgT,hdT,h3⟩,J.os,J.bare,⟨λb o eb n hb _=>?_,λb o eb n hb _=>?_,λb o eb n _=>J.base.free b o eb n (λy=>(nomatch y)),λb o eb _=>?_,J.base.mr,J.base.lK,J.base.mw⟩,?_,e⟩
 ·exact keep b o (J.base.keep b o eb n hb (λy=>(nomatch y))) (sx b o eb) (fo b o eb hb)
 ·obtain⟨sl1,e1⟩:=J.base.slot b o eb n hb (λy=>(nomatch y));obtain⟨_,o',eo,hn⟩:=J.stack.mem (PV _ hb);rw[e1] at eo;cases eo;obtain⟨sl2,e2⟩:=sl b _ e1 hn;exact⟨sl2,e2⟩
 ·obtain⟨o1,e1⟩:=J.base.there b o eb (λy=>(nomatch y))
  by_cases z:b∈jv (PySem.W.envX qual scope s₀.heap.objs.size f cd cl::outer)
  ·obtain⟨_,o',eo,hn⟩:=J.stack.mem z;obtain⟨sl2,e2⟩:=sl b _ eo hn;exact⟨_,e2⟩
  ·exact⟨_,keep b _ e1 (sx b o eb) z⟩
 ·have nt:∀b u,H b=some u->b∉x::ts/\b∉jv (PySem.W.envX qual scope s₀.heap.objs.size f cd cl::outer):=λb u eb=>⟨λz=>(by rw[(hT b z).1] at eb;cases eb),λz=>(by rw[fr b z] at eb;cases eb)⟩;intro b u eb;refine(J.ba b u eb).mC (λc v hc q=>?_) (λ_ q=>q) λ_ _ q=>q;have:∃u,H c=some u:=by
   rcases hc with rfl | hc
   ·exact⟨u,eb⟩
   ·exact⟨_,hc⟩
  obtain⟨u',eu⟩:=this;exact keep c v q (nt c u' eu).1 (nt c u' eu).2
theorem Ax(J:Inv (JY (gX P w) P w K mg base N qual scope fn cl f cd A outer s₀ H₀ E) pins σ H s)(hx0:s₀.heap.get? x=none)(hHx:H x=none){oe:Obj}{vs:Array Value}(he:s.heap.get? x=some oe)(hd:oe.data=.fields vs)(h1:vs[1]?=some .none)(e:E oe.cls none H):
  (JY (gX P w) P w K mg base N qual scope fn cl f cd A outer s₀ H₀ E).xe (.ref x) s:=by
 refine wpAny_leaving_first (base:=PySem.W.hideAll s.heap ([x]++jv (PySem.W.envX qual scope s₀.heap.objs.size f cd cl::outer))) J.ok.frames (pB J.stack λb hb=>QY _ (Qa _ hb)) rfl he (λb o eb=>Si _ eb) (QY _ (QL _ PQ)) hd h1 λh' hl=>?_;refine xi (ts:=[]) J hx0 hHx (λb hb=>?_) hl e;rw[P4.mp hb];exact⟨hHx,hx0⟩
theorem B6(J:Inv (JY (gX P w) P w K mg base N qual scope fn cl f cd A outer s₀ H₀ E) pins σ H s)(hx0:s₀.heap.get? x=none)(hT0:s₀.heap.get? T=none)(hHx:H x=none)(hHT:H T=none)(hX:O4 s.heap x T C)(e:E C none H):
  (JY (gX P w) P w K mg base N qual scope fn cl f cd A outer s₀ H₀ E).xe (.ref x) s:=by
 obtain⟨oe,vs,oT,tr,he,hc,hd,h1,hTx,hgT,hdT,h3⟩:=hX;refine wpAny_leaving_next (cls:=C) (base:=PySem.W.hideAll s.heap ([x,T]++jv (PySem.W.envX qual scope s₀.heap.objs.size f cd cl::outer))) J.ok.frames (pB J.stack λb hb=>QY _ (Qa _ hb)) rfl ⟨oe,vs,T,oT,tr,he,hc,hd,h1,QY _ (QL _ (PV _ PQ)),hTx,hgT,hdT,h3⟩ (λb o eb=>Si _ eb) (QY _ (QL _ PQ)) λh' hl=>?_;refine xi (ts:=[T]) J hx0 hHx (λb hb=>?_) hl e;rcases PZ.mp hb with rfl | hb
 ·exact⟨hHx,hx0⟩
 ·rw[P4.mp hb];exact⟨hHT,hT0⟩
theorem zN:Passes (gX P w) (JY (gX P w) P w K mg base N qual scope fn cl f cd A outer s₀ H₀ E) E:=λpins σ H s e s' I h=>by
 obtain⟨x,T,C,H',rfl,nx,nT,hx,hT,X,os,bare,un,ba,q⟩:=h;have J:Inv (JY (gX P w) P w K mg base N qual scope fn cl f cd A outer s₀ H₀ E) pins σ H' s':=I.call' os un ba bare λb z=>(nomatch z);have old:∀b,s.heap.get? b=none->s₀.heap.get? b=none:=λb hb=>by
  cases q:s₀.heap.get? b with
  | none=>rfl
  | some o=>obtain⟨o',eo⟩:=I.base.there b o q (λy=>(nomatch y));rw[hb] at eo;cases eo
 exact B6 J (old x nx) (old T nT) hx hT X q
end
section
variable {P:Program} {w:World} {K:FR} {mg:Str->Option Value} {base:Heap} {N:List Str} {qual:Str} {scope:Scope} {f:Addr} {cd:Value} {A:Around} {outer:List Env} {s₀:Shared} {H₀:Hp} {E:XK} {pins:List (Addr×Obj)} {σ:St} {H:Hp} {s:Shared} {x T:Addr} {C:Value}
theorem B7(J:Inv (eN (gX P w) P w K mg base N qual scope f cd A outer s₀ H₀ E) pins σ H s)(hx0:s₀.heap.get? x=none)(hHx:H x=none){oe:Obj}{vs:Array Value}(he:s.heap.get? x=some oe)(hd:oe.data=.fields vs)(h1:vs[1]?=some .none)(e:E oe.cls none H):
  (eN (gX P w) P w K mg base N qual scope f cd A outer s₀ H₀ E).xe (.ref x) s:=Ax (fn:=λ_=>true) (cl:=cellsFrom (s₀.heap.objs.size+1) scope.names []) J hx0 hHx he hd h1 e
theorem F8:Passes (gX P w) (eN (gX P w) P w K mg base N qual scope f cd A outer s₀ H₀ E) E:=zN (fn:=λ_=>true) (cl:=cellsFrom (s₀.heap.objs.size+1) scope.names [])
end
structure BS(mg:Str->Option Value)(base:Heap)(nm:Str)(C:Addr):Prop where
 own:OwnCls nm C [.type "ValueError",.type "Exception",.type "BaseException",.type "object"] "ValueError.__new__" mg base
section
variable {P:Program} {w:World} {K:FR} {mg:Str->Option Value} {base:Heap} {N:List Str} {qual:Str} {scope:Scope} {f:Addr} {cd:Value} {A:Around} {outer:List Env} {s₀:Shared} {H₀:Hp} {E:XK}
theorem Dg{nm:Str}{C:Addr}{a:Expr}{np cpos pos:Pos}{ta:TA}(O:BS mg base nm C)(hg:Gl (eN (gX P w) P w K mg base N qual scope f cd A outer s₀ H₀ E) nm)(ha:PA (eN (gX P w) P w K mg base N qual scope f cd A outer s₀ H₀ E) [a] ta)
  (he:starEach [a] (envOfC qual scope s₀.heap.objs.size f cd)=[(false,eval a (envOfC qual scope s₀.heap.objs.size f cd))]) (hdb:(nm==("__debug__":Str))=false):
  PS (eN (gX P w) P w K mg base N qual scope f cd A outer s₀ H₀ E) (.Raise (some (.Call (.Name nm np) [a] [] cpos)) none pos) (λ_ σ H=>ta σ H λvs H1=>vs.length<=sizeLine/\E (.ref C) none H1):=by
 intro pins s σ H D I h;obtain⟨tl,Nn,nm',q,bs,hdct,sn,sub,ab,col,dd,k0,k1,k2,k3,k5,mN,hC,hN,hni,T⟩:=O.own.obj;refine wpAny_Raise_call_subU (C:=C) (nm:=nm') (q:=q) (N:=Nn) (bs:=bs) (bm:=tl) (hdct:=hdct) (sn:=sn) (sub:=sub) (ab:=ab) (col:=col) (dd:=dd) (k0:=k0) (k1:=k1) (k2:=k2) (k3:=k3) (k5:=k5)
  Sj (by decide) Sj (mN:=mN) (T.hasType Sj.hasBase) (I.ok.hd rfl) (by
   show(backTo cpos (starEach [a] (envOfC qual scope s₀.heap.objs.size f cd))).any (·.1)=false;rw[he];rfl) hni (jr I hg O.own.bound ⟨rfl,?_⟩ hdb)
 show wpAny _ _ (evalArgs (.ref C) true (backTo cpos (starEach [a] (envOfC qual scope s₀.heap.objs.size f cd))) []) _ _ s;have hh:=ha cpos pins s σ H _ I h;have hh:wpAny _ _ (spliced (backTo cpos (starEach [a] (envOfC qual scope s₀.heap.objs.size f cd)))) _ _ s:=hh;rw[he] at hh ⊢;refine Calls.evalArgs_plain (Qo hh (λus s2 hq=>?_) λ_ _ y=>y);obtain⟨vs,H1,I1,r1,hl,q1⟩:=hq;refine⟨rfl,by rw[<-r1.length];exact hl,I1.bk _ _ hC,hN.keeps I1.bk,T.keeps I1.bk,λh' e hm=>?_⟩;have I2:Inv (eN (gX P w) P w K mg base N qual scope f cd A outer s₀ H₀ E) pins σ H1 {s2 with heap:=h'}:=I1.kept (t':=s2.toks) hm.keeps;obtain⟨t,ht,_,_⟩:=hm.there;refine B7 I2 ?_ ?_ ht rfl rfl q1
 ·cases q:s₀.heap.get? e with
  | none=>rfl
  | some o=>obtain⟨o',eo⟩:=I1.base.there e o q (λy=>(nomatch y));rw[hm.new] at eo;cases eo
 ·cases q:H1 e with
  | none=>rfl
  | some u=>obtain⟨o,eo⟩:=(I1.ba e u q).ex;rw[hm.new] at eo;cases eo
end
end L2
namespace Sm
open PySem L2 PySem.Spec PyProof.Rows
abbrev XM:=DS->MH->Option (Str×MH)
abbrev Xn:=List D->MH->Option (Str×MH)
def MS(K:FR)(mg:Str->Option Value)(E:XK)(ρ:Ad)(H:Hp)(c:Str)(h':MH):Prop:=∀C ρ' H',mg c=some C->cM ρ H ρ' H'->bF K ρ' h' H'->E C none H'
theorem MS.step{K:FR}{mg:Str->Option Value}{E:XK}{ρ ρ1:Ad}{H H1:Hp}{c:Str}{h':MH}(k:MS K mg E ρ H c h')(T:cM ρ H ρ1 H1):MS K mg E ρ1 H1 c h':=λC ρ' H' m T' S=>k C ρ' H' m (T.trans T') S
inductive MU(K:FR)(mg:Str->Option Value)(E:XK)(x:XM)(σ:L2.St)(H:Hp):Prop where
 | mk (ρ δ h c h'):b8 K ρ H σ δ->bF K ρ h H->x δ h=some (c,h')->MS K mg E ρ H c h'->MU K mg E x σ H
def XE(X:Cx)(E:XK)(e:Expr)(x:XM):Prop:=PE X e λσ H _=>MU X.K X.mg E x σ H
def XS(X:Cx)(E:XK)(s:Stmt)(x:XM):Prop:=PS X s λ_ σ H=>MU X.K X.mg E x σ H
def E3(X:Cx)(E:XK)(s:List Stmt)(x:XM):Prop:=wk X s λ_ σ H=>MU X.K X.mg E x σ H
noncomputable def K7:XM:=λ_ _=>none
noncomputable def Ce(a b:XM):XM:=λδ h=>match a δ h with
 | some r=>some r
 | none=>b δ h
noncomputable def Cf(t:TM)(a b:XM):XM:=λδ h=>(t δ h).bind λp=>if p.1 then a δ p.2 else b δ p.2
noncomputable def uh(a:SM)(b:XM):XM:=λδ h=>(a δ h).bind λr=>match r.1 with
 | .nx=>b r.2.1 r.2.2
 | _=>none
noncomputable def E9(f:Xn)(a:AM):XM:=λδ h=>(a δ h).bind λp=>f p.1 p.2
noncomputable def jW(c:Str)(a:AM):XM:=λδ h=>(a δ h).map λp=>(c,p.2)
noncomputable def Jq(len:Nat)(body:XM):Xn:=λds h=>body (entry len ds) h
inductive M6(K:FR)(mg:Str->Option Value)(n:Nat)(F:Xn)(vs:List V)(H:Hp)(E:XK):Prop where
 | mk (ρ h ds c h'):bF K ρ h H->aF K ρ H vs ds->ds.length=n->F ds h=some (c,h')->MS K mg E ρ H c h'->M6 K mg n F vs H E
def LA(K:FR)(mg:Str->Option Value)(n:Nat)(F:Xn):Sp:=λvs H _ E=>M6 K mg n F vs H E
section
variable {X:Cx} {E:XK} {a b c e tg iter elt:Expr} {es:List Expr} {st:Stmt} {sa sb sts:List Stmt} {pos:Pos} {ma mb:EM} {mt:TM} {ms mu:SM} {m:AM} {x y:XM}
theorem uf:E3 X E sts K7:=λ_ _ _ _ _ _ h=>by obtain⟨_,_,_,_,_,_,_,z,_⟩:=h;cases z
theorem xT(ha:E3 X E sts x)(hb:E3 X E sts y):E3 X E sts (Ce x y):=λpins s σ H D I ⟨ρ,δ,h,c,h',R,S,z,k⟩=>by
 unfold Ce at z;cases q:x δ h with
 | none=>rw[q] at z;exact hb pins s σ H D I ⟨ρ,δ,h,c,h',R,S,z,k⟩
 | some r=>rw[q] at z;cases z;exact ha pins s σ H D I ⟨ρ,δ,h,c,h',R,S,q,k⟩
theorem dH(h1:XS X E st x):E3 X E (st::sts) x:=λpins s σ H D I h=>
 Ri (cm (h1 pins s σ H {nx:=λ_ _=>False,rt:=λ_ _=>False,bk:=λ_ _=>False,ct:=λ_ _=>False} I h) λf s1 q=>by
  cases f with
  | next=>obtain⟨_,_,_,q⟩:=q;exact q.elim
  | ret v=>obtain⟨_,_,_,_,_,q⟩:=q;exact q.elim
  | brk=>obtain⟨_,_,_,q⟩:=q;exact q.elim
  | cont=>obtain⟨_,_,_,q⟩:=q;exact q.elim)
theorem iF(h1:SS X st ms)(h2:E3 X E sts x):E3 X E (st::sts) (uh ms x):=(wN h1 h2).imp λD σ H ⟨ρ,δ,h,c,h',R,S,z,k⟩=>by
 obtain⟨⟨fl,δ1,h1⟩,e1,e2⟩:=bw z;refine⟨ρ,δ,h,fl,δ1,h1,R,S,e1,λρ1 H1 T1 S1=>?_⟩;cases fl with
 | nx=>exactλσ' R'=>⟨ρ1,δ1,h1,c,h',R',S1,e2,k.step T1⟩
 | bk=>cases e2
 | ct=>cases e2
 | rt d=>cases e2
theorem zj(hc:ST X c mt)(ha:E3 X E sa x)(hb:E3 X E sb y):XS X E (.If c sa sb pos) (Cf mt x y):=(He hc ha hb).imp λD σ H ⟨ρ,δ,h,c,h',R,S,z,k⟩=>by
 obtain⟨⟨b,h1⟩,e1,e2⟩:=bw z;refine⟨ρ,δ,h,b,h1,R,S,e1,λρ1 H1 T1 S1=>?_⟩;cases b with
 | true=>rw[PL rfl] at e2 ⊢;exact⟨ρ1,δ,h1,c,h',R.mono T1.toCh,S1,e2,k.step T1⟩
 | false=>rw[P0 (by simp)] at e2 ⊢;exact⟨ρ1,δ,h1,c,h',R.mono T1.toCh,S1,e2,k.step T1⟩
theorem HB(he:XE X E e x)(hs:swapsWithSole [tg] e pos.line X.env=pure false:=by ac_nf)(hw:swappedStores [tg] e X.env=pure none:=by ac_nf)(h1:(assignEach [tg] X.env).map (·.2)=[assign tg X.env]:=by ac_nf)
  (hg:PG X tg g):XS X E (.Assign [tg] e pos) x:=Dj he hg hs hw h1
theorem E7(G:dY X.prog X.w X.K X.mg X.base (gX X.prog X.w) k f fd ps (LA X.K X.mg n F))(hp:Passes (gX X.prog X.w) X E)(hr:cD k X.A)(hg:Gl X nm)(hm:X.mg nm=some (.ref f))(hk:PySem.W.keepIn X.K (.ref f)=true)(hb:Binds X.K fd ps [])
  (ha:SA X (e::es) m) (hl:jG m n) (hdb:(nm==("__debug__":Str))=false:=by ac_nf) (he:starEach (e::es) X.env=(false,eval e X.env)::starEach es X.env:=by ac_nf) (hpl:(backTo pos (starEach es X.env)).any (·.1)=false:=by ac_nf):
  XE X E (.Call (.Name nm p) (e::es) [] pos) (E9 F m):=(zL (E:=E) G hr hg hm hk hb .nil hp ha hdb he hpl).imp λσ H Q ⟨ρ,δ,h,c,h',R,S,z,q⟩=>by
 obtain⟨⟨ds,h1⟩,e1,e2⟩:=bw z;refine⟨ρ,δ,h,ds,h1,R,S,e1,λvs ρ1 H1 T1 S1 r1=>?_⟩;show LA X.K X.mg n F (vs++[]) H1 Q E;rw[QD];exact⟨ρ1,h1,ds,c,h',S1,r1,hl _ _ _ _ e1,e2,q.step T1⟩
end
section
variable {P:Program} {w:World} {K:FR} {mg:Str->Option Value} {base:Heap} {N:List Str} {qual:Str} {scope:Scope} {f:Addr} {cd:Value} {A:Around} {outer:List Env} {s₀:Shared} {H₀:Hp} {E:XK}
theorem B5{nm:Str}{C:Addr}{a:Expr}{np cpos pos:Pos}{ma:EM}(O:BS mg base nm C)(hg:Gl (eN (gX P w) P w K mg base N qual scope f cd A outer s₀ H₀ E) nm)(ha:SE (eN (gX P w) P w K mg base N qual scope f cd A outer s₀ H₀ E) a ma)
  (he:starEach [a] (envOfC qual scope s₀.heap.objs.size f cd)=[(false,eval a (envOfC qual scope s₀.heap.objs.size f cd))]:=by ac_nf) (hdb:(nm==("__debug__":Str))=false:=by ac_nf):
  XS (eN (gX P w) P w K mg base N qual scope f cd A outer s₀ H₀ E) E (.Raise (some (.Call (.Name nm np) [a] [] cpos)) none pos) (jW nm (af ma aH)):=
 (Dg O hg (aa ha aq he) he hdb).imp λD σ H ⟨ρ,δ,h,c,h',R,S,z,k⟩=>by
  obtain⟨⟨ds,h1⟩,e1,e2⟩:=Qg.mp z;cases e2;refine⟨ρ,δ,h,ds,h1,R,S,e1,λvs ρ1 H1 T1 S1 r1=>⟨?_,k _ ρ1 H1 O.own.bound T1 S1⟩⟩;rw[r1.length];obtain⟨⟨d,h2⟩,f1,f2⟩:=bw e1;cases f2;exact(by decide:1<=sizeLine)
end
section
variable {P:Program} {w:World} {K:FR} {mg:Str->Option Value} {base:Heap} {x qual:Str} {st:Stmt} {f:Addr} {fd:FuncData} {N ps:List Str} {k:Nat} {body:XM}
theorem Mw(F:rW K x qual st f fd)(Sc:aE N ps (ah st))(hb:∀(cdv:Value)(A:Around)(outer:List Env)(s:Shared)(H:Hp)(E:XK),cD k (A.deeper (envOfC qual (ah st) s.heap.objs.size f cdv))->N.Nodup->E3 (eN (gX P w) P w K mg base N qual (ah st) f cdv A outer s H E) E (cY st) body):
  dY P w K mg base (gX P w) (k+1) f fd ps (LA K mg ps.length (Jq N.length body)):=by
 obtain⟨oc,od,kV,doc,pm,an,cdv,ct,osl,rfl,lk,hcd⟩:=F.ex;refine D3 lk hcd Sc (λvs H Q E h=>?_) λA outer s H vs Q E hr h=>?_
 ·obtain⟨ρ,h,ds,c,h',S,r,hl,_⟩:=h;rw[r.length];exact hl
 ·obtain⟨ρ,h,ds,c,h',S,r,hl,e,q⟩:=h;exact⟨_,hb cdv A outer s H E hr Sc.nd,ρ,entry N.length ds,h,c,h',b8.entry N r,S,e,q⟩
end
end Sm
namespace L2
open PySem PySem.Spec PyProof.Rows PySem.F
def xM(h:Heap)(C:Addr)(bm:List Value):Prop:=∃nm q N bs hdct sn sub ab col dd k0 k1 k2 k3 k5 newId,h.get? C=some (excClassObj nm q C N bs bm hdct sn sub ab col dd k0 k1 k2 k3 k5 newId)
section
variable {M:Model} {A:Around} {E:Value->Shared->Prop}
theorem K2{h:Heap}{g:Array GenState}{d:Drawn}{t:Nat}{os:OsState}{e C D:Addr}{oe:Obj}{bm bmC:List Value}{Q:Bool->Shared->Prop}
  (hD:xM h D bm) (hC:xM h C bmC) (he:h.get? e=some oe) (hcls:oe.cls=.ref D) (hbase:bmC.contains (.type "BaseException")=true) {b:Bool} (hb:(Value.ref D::bm).contains (.ref C)=b)
  (hq:Q b ⟨h,g,d,t,os⟩):wpAny M A (excMatches (.ref e) (.ref C)) Q E ⟨h,g,d,t,os⟩:=by
 obtain⟨_,_,_,_,_,_,_,_,_,_,_,_,_,_,_,_,hD⟩:=hD;obtain⟨_,_,_,_,_,_,_,_,_,_,_,_,_,_,_,_,hC⟩:=hC;have hcB:(Value.ref C::bmC).contains (.type "BaseException")=true:=by rw[List.contains_cons,hbase,Bool.or_true]
 have f:=tc_notTuple;unfold excMatches
 repeat(first |(with_reducible refine TQ he ?_;rw[hcls]) | with_reducible refine TQ hC ?_ | with_reducible refine TQ hD ?_ |(with_reducible refine wpAny_isSubtype_exc hC ?_;rw[hcB]) |(with_reducible refine wpAny_isSubtype_exc hD ?_;rw[hb]) | wp_step)
 cases b with
 | true=>repeat(first | exact hq | wp_step)
 | false=>repeat(first | exact hq | wp_step)
end
end L2
namespace L2
open PySem PySem.Spec PySem.W PySem.Calls PyProof.Rows Builtin Builtin.ObjectAttr Builtin.Getset_descriptor
section
variable {prog:Program} {w:World} {A:Around} {E:Value->Shared->Prop} {s:Shared} {K:Frag} {x D:Addr}
structure XQ(K:Frag)(D:Addr):Prop where
 ga:findIn K (.ref D) "__getattribute__"=some (some (.builtin "BaseException.__getattribute__"))
 gr:findIn K (.ref D) "__getattr__"=some none
 cl:findIn K (.ref D) "__class__"=some (some (.builtin "object.__class__"))
 ob:mroIn K D (.type "object")=some true
 be:mroIn K D (.type "BaseException")=some true
theorem xS.type{M:Model}{h:Heap}(I:xS h x D):Looks M h (typeOf (.ref x)) (.ref D):=by
 obtain⟨o,h1,h2⟩:=I;exact h2 ▸ (Looks.ld h1).andThen .now
theorem HC{R:Result->Shared->Prop}{tp:Value}(X:K.In s.heap)(I:xS s.heap x D)(hm:mroIn K D (.type "object")=some true)(h:R (.ok (.ret (.ref D))) s):
  codeAny (model prog w) A (.call (.builtin "getset_descriptor.__get__") ⟨[.builtin "object.__class__",.ref x,tp],[]⟩) R s:=by
 obtain⟨hh,g,dr,t,os⟩:=s;have L0:=I.type (M:=model prog w);have L1:=looks_mroIn (M:=model prog w) X hm;refine codeAny_call_builtin KF.slot_gs.plain KF.entry_gs (KF.slot_gs.check _ _ _ _ _ _ _ _ KF.type_class (KF.args_gs _ _ _) ?_);unfold Builtin.«getset_descriptor.__get__» descrGet;rw[dga_obj];refine PD (PX ?_);unfold descrGetter descrCheckInstance descrNameAndClass isInstance;simp only[KF.owner_class]
 repeat lk
 refine⟨Code.quiet_builtin _ (by decide+kernel),Tg KF.entry_class ?_⟩;unfold Builtin.«object.__class__» shownTypeOf
 repeat lk
 exact h
theorem B8{tk:Tok}{Q:Fin->Shared->Prop}(C:XQ K D)(X:K.In s.heap)(I:xS s.heap x D)(hq:Q (.done (.ret (.ref D))) s):
  wpAny (model prog w) A (Builtin.«object.__getattribute__» ⟨[.ref x,.str "__class__" tk],[]⟩) Q E s:=by
 obtain⟨h,g,d,t,os⟩:=s;have L0:=I.type (M:=model prog w);have L1:=looks_findIn (M:=model prog w) X C.cl;unfold Builtin.«object.__getattribute__»
 repeat(any_goals (first | assumption | lk | wp_step))
 show wpAny _ _ (run (.call (.builtin "getset_descriptor.__get__") ⟨[.builtin "object.__class__",.ref x,.ref D],[]⟩) none) _ _ _;refine wpAny_run (HC X I C.ob ?_);exact PX (PX hq)
theorem Cb{M:Model}{nameV:Value}{Q:Unit->Shared->Prop}(C:XQ K D)(X:K.In s.heap)(I:xS s.heap x D)(hq:Q () s):wpAny M A (checkBuiltinCall "BaseException.__getattribute__" ⟨[.ref x,nameV],[]⟩) Q E s:=by
 obtain⟨h,g,d,t,os⟩:=s;have hk:builtinKind "BaseException.__getattribute__"=some .slot:=by decide+kernel
 have hsplit:splitId "BaseException.__getattribute__"=some ("BaseException","__getattribute__"):=by decide+kernel
 have ha:=F.args_bexc_ga (.ref x) nameV;have L0:=I.type (M:=M);have L1:=looks_mroIn (M:=M) X C.be;simp only[checkBuiltinCall,hk,hsplit];refine PD ?_
 ·unfold isInstance
  repeat(first | lk | wp_step)
  exact hq
theorem K5{tk:Tok}{fill expr:Bool}{Q:Value->Shared->Prop}(C:XQ K D)(X:K.In s.heap)(I:xS s.heap x D)(hq:Q (.ref D) s):
  wpAny (model prog w) A (getAttrBy (.ref x) (.str "__class__" tk) fill expr) Q E s:=by
 obtain⟨h,g,d,t,os⟩:=s;have hx0:(expr&&onTheHeap (Value.builtin "BaseException.__getattribute__"))=false:=by cases expr <;> rfl
 have hx2:(Value.builtin "BaseException.__getattribute__"==Value.builtin "object.__getattribute__")=false:=by decide+kernel
 have hx1:(onTheHeap (Value.ref D)&&Value.builtin "BaseException.__getattribute__"==Value.builtin "object.__getattribute__")=false:=by rw[hx2];rfl
 have f3:=F.excAttr_ValueError.ga.bind (.ref x);have L0:=I.type (M:=model prog w);have L1:=looks_findIn (M:=model prog w) X C.ga;have L2:=looks_findIn (M:=model prog w) X C.gr;unfold getAttrBy
 repeat(any_goals (first | assumption | lk | wp_step))
 show wpAny _ _ (Sem.attempt (holding _ (callGetattribute (.ref x) (.str "__class__" tk) (.builtin "BaseException.__getattribute__") expr))) _ _ _;refine TC (Q0 ?_);unfold callGetattribute
 repeat(any_goals (first | assumption | lk | wp_step))
 show wpAny _ _ (run (.call (.builtin "BaseException.__getattribute__") ⟨[.ref x,.str "__class__" tk],[]⟩) none) _ _ _;refine wpAny_run (codeAny_call_builtin F.attrBase_ValueError.ga.plain F.entry_bexc_ga (Cb C X I (B8 C X I ?_)));exact PX (handed_on rfl hq)
theorem Ca{Q:Option Value->Shared->Prop}(C:XQ K D)(X:K.In s.heap)(I:xS s.heap x D)(h:Q (some (.ref D)) {s with toks:=s.toks+1}):wpAny (model prog w) A (getAttr? (.ref x) "__class__") Q E s:=by
 obtain⟨hh,g,d,t,os⟩:=s;unfold getAttr? getAttrBy?;refine PD (wpAny_mkText (PD (TC (K5 (s:=⟨hh,g,d,t+1,os⟩) C X I ?_))));exact PX h
end
theorem DW{K:Frag}{x D:Addr}(C:XQ K D)(hdct:(clsIn K D).isSome=true):KitX K (.ref x) (.ref D) (λh=>xS h x D) where
 ty:=λ_ _ _ I=>I.type
 it:=λ_ _ X _=>by
  obtain⟨cdD,hcD⟩:=Rq.mp hdct;unfold clsIn at hcD
  split at hcD
  ·rename_i c' d' cd' sl' ho;intro A' Q' E' s' k q;unfold isType loadHead;exact PD (wpAny_loadPart (k _ _ (X _ _ ho)) (PX q))
  ·cases hcD
 ne:=λh tp dd its n sl X htp=>by
  obtain⟨cdD,hcD⟩:=Rq.mp hdct;refine Bool.eq_false_iff.mpr λq=>?_;have e:D=tp:=Value.ref.inj (Q8.mp q);subst e;unfold clsIn at hcD
  split at hcD
  ·rename_i c' d' cd' sl' ho;have z:=(X _ _ ho).symm.trans htp;cases z
  ·cases hcD
 ca:=λX I k=>Ca C X I k
theorem yN{prog:Program}{w:World}{A:Around}{E:Value->Shared->Prop}{s:Shared}{Q:Value->Shared->Prop}{K:Frag}{x D:Addr}{c:Value}{b:Bool}(C:XQ K D)(hdct:(clsIn K D).isSome=true)(X:K.In s.heap)(I:xS s.heap x D)(e:kitOne K (.ref D) c=some b)
  (h:∀tk,Q (.bool b) {s with toks:=tk}):wpAny (model prog w) A (call (.builtin "isinstance") [.ref x,c]) Q E s:=QG (DW C hdct) X I e (λz=>nomatch z) h
end L2
namespace L2
open PySem PySem.Spec PyProof.Rows
section
variable {X:Cx} {pins:List (Addr×Obj)} {σ:St} {H:Hp} {s s':Shared} {E:XK} {e:Value} {L:Addr} {rest:List Env}
theorem rJ(I:Inv X pins σ H s)(hs:X.stack=X.env::rest)(hf:X.env.frame=some L)(h:gX X.prog X.w X.stack H s E e s'):
  ∃x C H',e=.ref x/\E C none H'/\∀{M:Model} {B:Around} {F:Value->Shared->Prop} {Q:Unit->Shared->Prop},B.frames=some X.stack->
   (∀s3,Inv X pins σ H' s3->(∃o vs,s3.heap.get? x=some o/\o.cls=C/\o.data=.fields vs)->H' x=none->s.heap.get? x=none->
    (∀{M':Model} {B':Around} {F':Value->Shared->Prop} {Q':Unit->Shared->Prop},(∀s4,Inv X pins σ H' s4->(∃o vs,s4.heap.get? x=some o/\o.cls=C/\o.data=.fields vs)->Q' () s4)->wpAny M' B' (setFlight (.ref x) none) Q' F' s3)->Q () s3)->
   wpAny M B (noteFrame (.ref x) X.env) (λ_ s2=>wpAny M B (setFlight (.ref x) none) Q F s2) F s':=by
 obtain⟨x,T,C,H',rfl,nx,nT,hx,hT,⟨oe,vs,oT,tr,he,hc,hd,h1,hTx,hgT,hdT,h3⟩,os,bare,un,ba,q⟩:=h;have J:Inv X pins σ H' s':=I.call' os un ba bare λb z=>(nomatch z);refine⟨x,C,H',rfl,q,λ{M B F Q} hfr k=>?_⟩;have h0:vs[0]?=some (vs[0]'(Ts (by decide) (Sl.mp h1).1)):=Array.getElem?_eq_getElem _;have hide:∀b,b∈[x,T]++jv X.stack->(PySem.W.hideAll s'.heap ([x,T]++jv X.stack)).get? b=none:=λb hb=>QY _ hb;have FL:Heap.FlyingW (PySem.W.hideAll s'.heap ([x,T]++jv X.stack)) (X.env::rest) x C (vs[0]'(Ts (by decide) (Sl.mp h1).1)) s'.heap:=
  ⟨λb o eb=>Si _ eb,hide x (QL _ PQ),hs ▸ pB J.stack (λb hb=>hide b (Qa _ hb)),oe,vs,T,oT,tr,he,⟨hc,h0⟩,hd,h1,hide T (QL _ (PV _ PQ)),hTx,hgT,hdT,h3⟩
 have fr:∀b∈jv X.stack,H' b=none:=J.pe;have sx:∀b o,s.heap.get? b=some o->b≠x/\b≠T:=λb o eb=>⟨λz=>(by rw[z,nx] at eb;cases eb),λz=>(by rw[z,nT] at eb;cases eb)⟩;have fin:∀h3',Heap.FlyingW (PySem.W.hideAll s'.heap ([x,T]++jv X.stack)) (X.env::rest) x C (vs[0]'(Ts (by decide) (Sl.mp h1).1)) h3'->s'.heap.UpToSlots h3'->
   Inv X pins σ H' {s' with heap:=h3'}/\∃o vs,h3'.get? x=some o/\o.cls=C/\o.data=.fields vs:=λh3' fl U=>by
  obtain⟨st,_,ff,tr⟩:=fl;have keep:∀b o,s'.heap.get? b=some o->b≠x->b≠T->b∉jv X.stack->h3'.get? b=some o:=λb o eb n1 n2 n3=>st b o (Se _ eb λz=>by
   rcases Qi.mp z with z | z
   ·rcases PZ.mp z with z | z
    ·exact n1 z
    ·exact n2 (P4.mp z)
   ·exact n3 z)
  refine⟨I.call' (ch:=[]) os ⟨λb o eb n hb hx'=>keep b o (un.keep b o eb n hb hx') (sx b o eb).1 (sx b o eb).2 hb,λb o eb n hb hx'=>?_,un.free,λb o eb hx'=>?_,un.mr,un.lK,un.mw⟩ (λb u eb=>?_) bare λb z=>(nomatch z),?_⟩
  ·obtain⟨sl1,e1⟩:=un.slot b o eb n hb hx';obtain⟨_,o',eo,hn⟩:=J.stack.mem hb;rw[e1] at eo;cases eo;obtain⟨sl2,e2⟩:=U b _ e1 hn;exact⟨sl2,e2⟩
  ·obtain⟨o1,e1⟩:=un.there b o eb hx'
   by_cases z:b∈jv X.stack
   ·obtain⟨_,o',eo,hn⟩:=J.stack.mem z;obtain⟨sl2,e2⟩:=U b _ eo hn;exact⟨_,e2⟩
   ·exact⟨_,keep b _ e1 (sx b o eb).1 (sx b o eb).2 z⟩
  ·refine(ba b u eb).mC (λc v hc' q'=>?_) (λ_ q'=>q') λ_ _ q'=>q';have:∃u,H' c=some u:=by
    rcases hc' with rfl | hc'
    ·exact⟨u,eb⟩
    ·exact⟨_,hc'⟩
   obtain⟨u',eu⟩:=this;exact keep c v q' (λz=>by rw[z,hx] at eu;cases eu) (λz=>by rw[z,hT] at eu;cases eu) λz=>by rw[fr c z] at eu;cases eu
  ·obtain⟨oe',vs',_,_,_,he',hc',hd',_⟩:=tr;exact⟨oe',vs',he',hc'.1,hd'⟩
 refine wpAny_looks_onW (hs ▸ hfr) hf FL λh2 hh u1=>wpAny_landsW hh λh3' fl u2=>?_;obtain⟨J3,x3⟩:=fin h3' fl (u1.trans u2);refine k _ J3 x3 hx nx λ{M' B' F' Q'} k'=>?_;obtain⟨st,fb,ff,tr⟩:=id fl;refine wpAny_setFlight_noneW (s:={s' with heap:=h3'}) st ff tr λh4' k1 k2 k3 k4=>?_;obtain⟨J4,x4⟩:=fin h4' ⟨k1,fb,k2,k3⟩ ((u1.trans u2).trans λb o hb hn=>⟨o.slots,k4 b o hb hn⟩);exact k' _ J4 x4
end
end L2
namespace L2
open PySem PySem.Spec PySem.Calls PyProof.Rows
section
variable {prog:Program} {w:World} {A:Around} {E:Value->Shared->Prop} {s:Shared} {env:Env}
theorem Bx{e C D:Addr}{bm bmC:List Value}{t:Expr}{n:Str}{b₀:Stmt}{suite:List Stmt}{pos:Pos}{rest:List ExceptHandler}{Q:Flow->Shared->Prop}(hbase:bmC.contains (.type "BaseException")=true)(hb:(Value.ref D::bm).contains (.ref C)=true)
  (h:wpAny (model prog w) (A.mark (some (.ref e))) (eval t env) (λc s₁=>c=.ref C/\xM s₁.heap D bm/\xM s₁.heap C bmC/\(∃oe,s₁.heap.get? e=some oe/\oe.cls=.ref D)/\
   wpAny (model prog w) (A.mark (some (.ref e))) (setFlight (.ref e) none) (λ_ s₂=>
     wpAny (model prog w) (A.mark (some (.ref e))) (storeName env n (.ref e)) (λ_ s₃=>
      wpAny (model prog w) (A.mark (some (.ref e))) (execs (b₀::suite) env)
       (λf s₄=>wpAny (model prog w) A (do bindName env n .none;unbindBehindTheSuite env n pos) (λ_ s₅=>Q f s₅) E s₄)
       (AsSuiteRaised (model prog w) (A.mark (some (.ref e))) env n pos (notedBy (model prog w) (A.mark (some (.ref e))) env (cameBackBy (model prog w) A env E))) s₃) (notedBy (model prog w) (A.mark (some (.ref e))) env (cameBackBy (model prog w) A env E)) s₂) (notedBy (model prog w) (A.mark (some (.ref e))) env (cameBackBy (model prog w) A env E)) s₁) (notedBy (model prog w) (A.mark (some (.ref e))) env (cameBackBy (model prog w) A env E)) s):
  wpAny (model prog w) A (handleBy (.ref e) env (.ExceptHandler (some t) (some n) (b₀::suite) pos::rest)) Q E s:=by
 refine wpAny_handleBy_cons (codeAny_handlers_test (Qo h (λc s₁ h₁=>?_) λ_ _ y=>y)) (by intro q;cases q);obtain⟨rfl,OD,OC,⟨oe,he,hcls⟩,hk⟩:=h₁;obtain⟨hh,g,d,tk,os⟩:=s₁;exact K2 OD OC he hcls hbase hb (codeAny_handlers_suite_as hk)
end
abbrev Cx.EZ(X:Cx)(v:Value)(E:Value->Shared->Prop):Cx:={X with A:=X.A.mark (some v),calm:=false,xe:=E}
section
variable {X:Cx} {v:Value} {E:Value->Shared->Prop} {pins:List (Addr×Obj)} {σ:St} {H:Hp} {s:Shared}
theorem Cx.Ok.EZ(ok:X.Ok):(X.EZ v E).Ok:=
 ⟨ok.mod,ok.kind,ok.glob,ok.blt,ok.above,ok.inj,ok.has,ok.KY,(λz=>nomatch z),ok.frames,ok.Ly,ok.Oz,ok.bs,ok.E2,ok.Bc,ok.Ee,ok.ni,ok.Hk⟩
theorem Inv.EZ(I:Inv X pins σ H s):Inv (X.EZ v E) pins σ H s:=⟨I.ok.EZ,I.os,I.bare,I.base,I.loc,I.cell,I.free,I.fM,I.pin,I.ba,I.len⟩
theorem Inv.Oj(I:Inv X pins σ H s){s':Shared}{σ':St}{H':Hp}(J:Inv (X.EZ v E) pins σ' H' s'):Inv X pins σ' H' s':=⟨I.ok,J.os,J.bare,J.base,J.loc,J.cell,J.free,J.fM,J.pin,J.ba,J.len⟩
end
section
variable {X:Cx} {pins:List (Addr×Obj)} {σ:St} {H:Hp} {s:Shared}
theorem AA{M:Model}{A:Around}{E:Value->Shared->Prop}{i:Nat}{x:Str}{v:V}{Q:Unit->Shared->Prop}(I:Inv X pins σ H s)(hN:X.N.Nodup)(hi:X.N[i]?=some x)(hk:X.env.scope.names.lookup x=some .local)(hv:σ[i]?=some (some v))
  (h:∀s',Inv X pins (σ.set i none) H s'->Q () s'):wpAny M A (unbindName X.env x) Q E s:=by
 obtain⟨m,hn,hl⟩:=id I.loc;have hcls:(X.env.scope.kind==.class||(X.env.scope.kind==.module&&X.env.locals !=X.env.globals))=false:=by rw[I.ok.kind];rfl
 have hiσ:i < σ.length:=by rw[I.len];exact(PH.mp hi).1
 have Eu:=I.Eu;have tracked:∀{a:Addr} {h':Heap},(∃o,s.heap.get? a=some o/\H a=none)->Heap.SameBut a s.heap h'->i6 X.prog X.w H h':=λ{a h'} ha hs b ob e=>by
  obtain⟨_,_,hfree⟩:=ha;refine(I.ba b ob e).mC (λc w' hc q=>(hs.2 c ?_).trans q) (λ_ q=>q) λ_ _ q=>q;rintro rfl;rcases hc with rfl | hc
  ·rw[hfree] at e;cases e
  ·rw[hfree] at hc;cases hc
 obtain⟨u0,_,q0⟩:=hl i x v hi hv (.inl hk);have hm:m x=some u0:=by
  rcases q0 with⟨_,e⟩ |⟨k,_⟩
  ·exact e
  ·have hk':X.env.kindOf x=some .local:=hk;rw[hk'] at k;rcases k with k | k <;> cases k
 refine wpAny_unbindName_local (m:=m) hk hn hm hcls λh' u' hn' hs=>?_;obtain⟨oL,_,_,hoL,_⟩:=id hn;refine h _ ⟨I.ok,I.os,I.bare,⟨λb o e n hb hx=>?_,λb o e n hb hx=>?_,I.base.free,λb o e hx=>?_,I.base.mr,I.base.lK,I.base.mw⟩,⟨_,hn',λj y v' e1 e2 e3=>?_⟩,λy c e=>?_,I.free,I.fM,λp hp=>?_,tracked ⟨oL,hoL,I.free⟩ hs,by simpa using I.len⟩
 ·exact(hs.2 b (Qe (Qd (P2 e) I.ok.above))).trans (I.base.keep b o e n hb hx)
 ·obtain⟨sl,e1⟩:=I.base.slot b o e n hb hx;exact⟨sl,(hs.2 b (Qe (Qd (P2 e) I.ok.above))).trans e1⟩
 ·obtain⟨o',e1⟩:=I.base.there b o e hx;exact⟨o',(hs.2 b (Qe (Qd (P2 e) I.ok.above))).trans e1⟩
 ·by_cases hj:j=i
  ·subst hj;rw[Qr hiσ] at e2;cases e2
  ·rw[QA (Q2 hj)] at e2;obtain⟨u',r',q⟩:=hl j y v' e1 e2 e3;refine⟨u',r',?_⟩;rcases q with⟨k,e⟩ |⟨k,c,e,z⟩
   ·refine .inl ⟨k,?_⟩;have:y≠x:=λe=>hj (qD hN e1 (e ▸ hi));simp[this,e]
   ·exact .inr ⟨k,c,e,z.sameBut hs (Eu y c e)⟩
 ·obtain⟨w',z⟩:=I.cell y c e;exact⟨w',z.sameBut hs (Eu y c e)⟩
 ·obtain⟨e,n,ne,nf,d⟩:=I.pin p hp;exact⟨(hs.2 p.1 ne).trans e,n,ne,nf,d⟩
end
end L2
namespace L2
open PySem PySem.Spec PySem.W PySem.Calls PyProof.Rows
structure BW(K:Frag)(mg:Str->Option Value)(cd:Value)(P:Addr):Prop where
 hd:∃c o vs file tf flags tg inF text tt,cd=.ref c/\K.lookup c=some o/\o.cls=.type "code"/\o.data=.fields vs/\vs[11]?=some (.ref P)/\vs.getD 11 .none=.ref P/\vs.getD 18 .none=.str file tf/\
  vs.getD 7 .none=.int flags tg/\vs.getD 9 .none=.bool inF/\vs.getD 10 .none=.int text tt/\c≠P
 tab:gV K P
 bm:∃bm ob,mg "__builtins__"=some (.ref bm)/\bm≠builtinsNs/\K.lookup bm=some ob/\ob.cls=.type "module"/\ob.dict=some builtinsNs/\ob.data=.plain
theorem zd{pos:Pos}{x c:Value}{a b:Int}:∀(l:List Value),TriplesOk l->codeAmong pos (l++[rawInt a,rawInt b,c])=some x->codeAmong pos l=some x\/x=c:=by
 intro l
 fun_induction TriplesOk l with
 | case1=>
  intro _ h;right;simp only[RE,codeAmong,rawInt] at h
  split at h
  ·exact(Option.some.inj h).symm
  ·cases h
 | case2 a' t b' u y rest ih=>
  intro ht h;simp only[R8,codeAmong] at h ⊢
  split at h
  ·left;rename_i hc;rw[PL hc];exact h
  ·rename_i hc;rw[P0 hc];exact ih ht h
 | case3 l h1 h2=>exactλh=>h.elim
section
variable {X:Cx} {pins:List (Addr×Obj)} {σ:St} {H:Hp} {s:Shared} {P:Addr} {params:Arguments} {body:Expr} {scope:Scope} {pos:Pos} {cl:List (Str×Addr)} {Q:Value->Shared->Prop} {E:Value->Shared->Prop}
structure Pf(K:Frag)(mg:Str->Option Value)(P:Addr)(params:Arguments)(body:Expr)(scope:Scope)(cl:List (Str×Addr))(H:Hp)(f:Addr):Prop where
 ex:∃qn c' ctv oc vs q t,H f=some (.kF (kla_obj "<lambda>" qn params body scope cl ((mg "__name__").getD .none) c' ctv) (.own f))/\H c'=some (.kF oc (.own P))/\oc.data=.fields vs/\vs[1]?=some (.str q t)
theorem Jv(I:Inv X pins σ H s)(L:BW X.K X.mg X.env.code P)(tP:H P=some .tb)(hd:defaultsOf params X.env=([],[]))(hcl:closureFor scope X.env=pure cl)
  (h:∀s' H' f,Inv X pins σ H' s'->(∀b o,H b=some o->H' b=some o)->(∀b,s.heap.objs.size<=b\/H' b=H b)->s.heap.objs.size<=f->Pf X.K X.mg P params body scope cl H' f->Q (.ref f) s'):
  wpAny (model X.prog X.w) X.A (eval (.Lambda params body scope pos) X.env) Q E s:=by
 obtain⟨c,oc,vsc,file,tf,flags,tg,inF,text,tt,ec,hc,c1,c2,c3,c4,c5,c6,c7,c8,c9⟩:=L.hd;have C:CodeHd s.heap c P:=⟨oc,vsc,file,tf,flags,tg,inF,text,tt,I.ou _ _ hc,c1,c2,c3,c4,c5,c6,c7,c8,c9⟩;obtain⟨ps,hP,ht,hcodes⟩:=(show bM X.prog X.w H s.heap P .tb from I.ba P _ tP);have hg:s.heap.Ns mainGlobals X.mg:=I.mod.glob.keeps I.bk;obtain⟨bm,ob,b1,b2,b3,b4,b5,b6⟩:=L.bm;have hbm:=I.ou _ _ b3;have hgP:mainGlobals≠P:=λq=>by
  obtain⟨o,es,ep,e,hd,_⟩:=hg;rw[q,hP] at e;cases e;cases hd
 have hbP:bm≠P:=λq=>by rw[q,hP] at hbm;cases hbm;cases b4
 have hbG:bm≠mainGlobals:=λq=>by
  obtain⟨o,es,ep,e,hd,_⟩:=hg;rw[<-q,hbm] at e;cases e;rw[hd] at b6;cases b6
 have hB:s.heap.BuiltinsAt X.mg P:=⟨bm,ob,b1,b2,hbG,hbP,hbm,b4,b5,b6⟩;refine kla_eval hd ?_;have old:∀b o,H b=some o->b < s.heap.objs.size:=λb o e=>I.ba.lt e;cases hf:codeAmong pos ps.toList with
 | some cv=>
  obtain⟨c',oc',vs',q',t',rfl,e1,e2,e3⟩:=hcodes pos cv hf;refine kla_makeFunctionHit (mg:=X.mg) hcl I.ok.glob hg ec C hP ht hf hB λctv h' tk hk hsz=>?_;have hn:H h'.objs.size=none:=I.ba.fresh hsz;refine h _ (upd H h'.objs.size (.kF (kla_obj "<lambda>" (X.env.qual++"<lambda>") params body scope cl ((X.mg "__name__").getD .none) c' ctv) (.own h'.objs.size))) _ (I.laid (t':=tk) (λb o e=>PN _ (hk b o e)) hsz ?_) (λb o e=>by rw[ay (aO e hn)];exact e) (λb=>?_) hsz ⟨_,c',ctv,oc',vs',q',t',aP,by rw[ay (aO e1 hn)];exact e1,e2,e3⟩
  ·exact⟨Qk _ rfl,_,Qk _ rfl⟩
  ·by_cases hb:b=h'.objs.size
   ·exact .inl (hb ▸ hsz)
   ·exact .inr (ay hb)
 | none=>
  refine kla_makeFunction (mg:=X.mg) hcl I.ok.glob hg ec C hP ht hf hgP hB λc' ctv h' tk hx hge hlt hrec htb=>?_;obtain⟨c₂,oc',vs',t',e2,hoc,hd',hv⟩:=hrec;cases e2;have hPs:P < s.heap.objs.size:=P2 hP;have hszf:s.heap.objs.size<=h'.objs.size:=PY hge (Ry hlt);have n1:H c'=none:=I.ba.fresh hge;have n2:H h'.objs.size=none:=I.ba.fresh hszf;have nf:c'≠h'.objs.size:=Qe hlt;generalize hfo:kla_obj "<lambda>" (X.env.qual++"<lambda>") params body scope cl ((X.mg "__name__").getD .none) c' ctv=fo;have hfr:fo.isFreed=false:=by rw[<-hfo];rfl
  have nn:∀{b o},H b=some o->upd (upd H c' (.kF oc' (.own P))) h'.objs.size (.kF fo (.own h'.objs.size)) b=some o:=λ{b o} e=>by
   rw[ay (aO e n2),ay (aO e n1)];exact e
  have nb:∀{b},b < s.heap.objs.size->upd (upd H c' (.kF oc' (.own P))) h'.objs.size (.kF fo (.own h'.objs.size)) b=H b:=λ{b} e=>by
   rw[ay (Qe (Qd e hszf)),ay (Qe (Qd e hge))]
  have kp:∀b o,b≠P->s.heap.get? b=some o->(h'.push fo).get? b=some o:=λb o hb e=>PN _ (hx b o hb e);have I':Inv X pins σ (upd (upd H c' (.kF oc' (.own P))) h'.objs.size (.kF fo (.own h'.objs.size))) {s with heap:=h'.push fo,toks:=tk}:=by
   refine I.step (g':=s.gens) (d':=s.drawn) (t':=tk) (ch:=[]) (λ_ z=>nomatch z) (λb o _ _ _ e n=>kp b o (λz=>by rw[z,tP] at n;cases n) e) (λb o _ _ _ e n=>⟨o.slots,kp b o (λz=>by rw[z,tP] at n;cases n) e⟩)
    (λb o _ e n=>by rw[nb (P2 e)];exact n) (λb o _ e=>?_) (λb xs e=>nn e) (λb o u e=>nn e) (λb qs e=>⟨#[],by rw[nn e];simp⟩) (λm hm=>?_) (λb u e=>?_) I.bare
   ·by_cases hb:b=P
    ·exact⟨_,PN _ (hb ▸ htb)⟩
    ·exact⟨o,kp b o hb e⟩
   ·obtain⟨o,es,ep,ho,r⟩:=hm;exact⟨o,es,ep,kp _ o (λz=>by have:=I.free;rw[z,tP] at this;cases this) ho,r⟩
   ·by_cases h1:b=h'.objs.size
    ·subst h1;rw[aP] at e;cases e;exact⟨Qk _ hfr,_,Qk _ hfr⟩
    ·rw[ay h1] at e
     by_cases h2:b=c'
     ·subst h2;rw[aP] at e;cases e;exact⟨PN _ hoc,_,PN _ hoc⟩
     ·rw[ay h2] at e
      by_cases h3:b=P
      ·subst h3;rw[tP] at e;cases e;refine⟨_,PN _ htb,?_,λpos' x ex=>?_⟩
       ·rw[show(ps++#[rawInt pos.line,rawInt pos.col,Value.ref c']).toList=ps.toList++[rawInt pos.line,rawInt pos.col,.ref c'] by simp];exact TriplesOk_snoc _ _ _ _ ht
       ·rw[show(ps++#[rawInt pos.line,rawInt pos.col,Value.ref c']).toList=ps.toList++[rawInt pos.line,rawInt pos.col,.ref c'] by simp] at ex;rcases zd _ ht ex with z | z
        ·obtain⟨c₃,o₃,v₃,q₃,t₃,f1,f2,f3⟩:=hcodes pos' x z;exact⟨c₃,o₃,v₃,q₃,t₃,f1,nn f2,f3⟩
        ·exact⟨c',oc',vs',_,t',z,by rw[ay nf,aP],hd',hv⟩
      ·refine(I.ba b u e).mC (λc v hc' q=>?_) (λ_ q=>nn q) (λ_ _ q=>nn q) λ_ _ q=>nn q;refine kp c v ?_ q;rcases hc' with rfl | hc'
       ·exact h3
       ·intro z;rw[z,tP] at hc';cases hc'
  refine h _ _ _ I' (λb o e=>nn e) (λb=>?_) hszf ⟨_,c',ctv,oc',vs',_,t',by rw[hfo];exact aP,by rw[ay nf,aP],hd',hv⟩
  by_cases hb:b < s.heap.objs.size
  ·exact .inr (nb hb)
  ·exact .inl (Q6 hb)
end
abbrev GH(CX:Aw)(P:Program)(w:World)(K:FR)(mg:Str->Option Value)(base:Heap)(N:List Str)(qual:Str)(scope:Scope)(cl:List (Str×Addr))(f:Addr)(cd:Value)(A:Around)(outer:List Env)(s:Shared)(H:Hp)(E:XK):Cx where
 prog:=P
 w:=w
 K:=K
 mg:=mg
 base:=base
 A:=A.deeper (envX qual scope s.heap.objs.size f cd cl)
 N:=N
 s₀:=s
 H₀:=H
 env:=envX qual scope s.heap.objs.size f cd cl
 outer:=outer
 stack:=envX qual scope s.heap.objs.size f cd cl::outer
 ex:=[]
 calm:=true
 fn:=λ_=>false
 pn:=[]
 xe:=λe s'=>wpAny (model P w) (A.deeper (envX qual scope s.heap.objs.size f cd cl)) (leaving (envX qual scope s.heap.objs.size f cd cl) e) (λ_ s''=>CX outer H s E e s'') (λe' s''=>CX outer H s E e' s'') s'
structure Nd(H:Hp)(h:Heap)(N:List Str)(scope:Scope)(cl:List (Str×Addr))(σ:St):Prop where
 inj:∀x y c,cl.lookup x=some c->cl.lookup y=some c->x=y
 has:∀x,scope.names.lookup x=some .free->∃c,cl.lookup x=some c
 cell:∀x c,cl.lookup x=some c->H c=none/\∃v,h.IsCell c v
 val:∀(j:Nat) x v,N[j]?=some x->σ[j]?=some (some v)->∃u c,RelV v u/\scope.names.lookup x=some .free/\cl.lookup x=some c/\h.IsCell c (some u)
 len:σ.length=N.length
theorem Nd.keep(C:Nd H h N scope cl σ)(k:∀b o,H b=none->h.get? b=some o->(∃sl,h'.get? b=some {o with slots:=sl})/\H' b=none):Nd H' h' N scope cl σ:=
 ⟨C.inj,C.has,λx c e=>by
  obtain⟨n,v,o,ho,hd⟩:=C.cell x c e;obtain⟨⟨sl,a⟩,b⟩:=k c o n ho;exact⟨b,v,_,a,hd⟩,λj x v e1 e2=>by
  obtain⟨u,c,r,f,l,o,ho,hd⟩:=C.val j x v e1 e2;obtain⟨⟨sl,a⟩,b⟩:=k c o (C.cell x c l).1 ho;exact⟨u,c,r,f,l,_,a,hd⟩,C.len⟩
structure rQ(N:List Str)(sc:Scope):Prop where
 kind:sc.kind=.function
 co:sc.isCoroutine=false
 gen:sc.isGenerator=false
 mW:∀y∈sc.names,y.2≠.cell
section
variable {CX:Aw} {P:Program} {w:World} {K:FR} {mg:Str->Option Value} {base:Heap} {N:List Str} {scope:Scope} {f Pt:Addr} {A:Around} {outer:List Env} {s:Shared} {H:Hp} {E:XK} {Q:VK} {params:Arguments} {body:Expr} {cl:List (Str×Addr)} {σ:St} {t:TE}
theorem DV(S:rQ N scope)(hp:∀fd:FuncData,fd.params=params->fd.defaults=.none->fd.kwdefaults=.none->bindArgs fd ⟨[],[]⟩=pure [])(e0:EW P w K mg base A outer s H)(hr:A.handled=none)(hdep:A.depth < recursionLimit)(F:Pf K mg Pt params body scope cl H f)(C:Nd H s.heap N scope cl σ)
  (hb:∀q cd,PE (GH CX P w K mg base N q scope cl f cd A outer s H E) body t) (ht:t σ H Q):
  codeAny (model P w) A (.call (.ref f) ⟨[],[]⟩) (CR CX outer P w H s Q E) s:=by
 obtain⟨qn,c',ctv,oc,vs,q,tk,h1,h2,h3,h4⟩:=F.ex;obtain⟨ho,_⟩:=(show bM P w H s.heap f _ from e0.ba f _ h1);obtain⟨hoc,_⟩:=(show bM P w H s.heap c' _ from e0.ba c' _ h2);have lim:s.heap.NoLimit:=e0.mod.nolimit.keeps λb o e=>(e0.bs b o e).1;refine codeAny_of_tree ?_;show wpAny _ A.in1 (callAny (.ref f) ⟨[],[]⟩) _ _ s;simp only[callAny];refine PD (wpAny_load ho ?_);simp only[callFunction,S.co,S.gen];refine PD (m:=field (.ref c') 1) (QU hoc h3 h4 (PD (PX ?_)));rw[hp _ rfl rfl rfl];refine PD (PX ?_);refine PD (To S.mW (λx hx=>nomatch hx) (λh₁ hns hsb=>?_) S.kind);have hk₁:∀b o,s.heap.get? b=some o->h₁.get? b=some o:=λb o e=>hsb.extBut b o (Qe (P2 e)) (PN _ e);refine PD (wpAny_enterFrame (lim.keeps hk₁) hdep (PX (And.intro rfl ?_)));show codeAny _ A (.expr body (envX q scope s.heap.objs.size f (.ref c') cl)) _ _;have noA:∀b:Addr,b∉(GH CX P w K mg base N q scope cl f (.ref c') A outer s H E).ex:=λb z=>absurd (show b∈([]:List Addr) from z) (by simp);have I:Inv (GH CX P w K mg base N q scope cl f (.ref c') A outer s H E) [] σ H {s with heap:=h₁,toks:=s.toks+([]:List (Str×Value)).length}:=by
  refine⟨⟨e0.mod,S.kind,rfl,rfl,PJ _,C.inj,λx hx=>?_,λy c h _=>absurd (show false=true from h) (by decide),λ_=>hr,Around.frames_deeper e0.frames,.inr ⟨rfl,rfl⟩,λb z=>absurd z (noA b),e0.bs,e0.E2,λb _ _=>noA b,λb z=>absurd z (noA b),e0.ni,e0.Hk⟩,
   rfl,e0.bare,Un.kept hk₁,⟨_,hns,λj x v e1 e2 e3=>?_⟩,λx c e=>?_,e0.ba.fresh (PJ _),λx c e=>(C.cell x c e).1,λp hp=>absurd (show p∈([]:List (Addr×Obj)) from hp) (by simp),e0.ba.kept hk₁,C.len⟩
  ·have hx:scope.names.lookup x=some .cell\/scope.names.lookup x=some .free:=hx;rcases hx with z | z
   ·exact absurd rfl (S.mW _ (Qs z))
   ·exact C.has x z
  ·obtain⟨u,c,r,fr,l,o,ho',hd⟩:=C.val j x v e1 e2;exact⟨u,r,.inr ⟨.inr fr,c,l,o,hk₁ _ _ ho',hd⟩⟩
  ·obtain⟨_,v,o,ho',hd⟩:=C.cell x c e;exact⟨v,o,hk₁ _ _ ho',hd⟩
 refine kla_codeExpr (Qo (hb q (.ref c') [] _ σ H Q I ht) (λu s' hs=>?_) λe s' hs=>hs);obtain⟨v,H',J,rv,qv⟩:=hs;exact⟨v,H',J.os,J.bare,J.base,J.ba,rv,qv⟩
end
section
variable {X:Cx} {pins:List (Addr×Obj)} {σ:St} {H:Hp} {s:Shared}
theorem Inv.Li{a:Addr}{u:HO}(I:Inv X pins σ H s)(n:H a=none)(h0:X.s₀.heap.get? a=none)(hd:∃o vs,s.heap.get? a=some o/\o.data=.fields vs)(hp:∀p∈X.pn++pins,p.1≠a)(new:bM X.prog X.w (upd H a u) s.heap a u):
  Inv X pins σ (upd H a u) s:=by
 obtain⟨oa,va,ha,hda⟩:=hd;have old:∀b o,X.s₀.heap.get? b=some o->b≠a:=λb o e z=>by rw[z,h0] at e;cases e
 have nn:∀{b o},H b=some o->upd H a u b=some o:=λ{b o} e=>by rw[ay (aO e n)];exact e
 refine⟨I.ok,I.os,I.bare,⟨I.base.keep,I.base.slot,λb o e m hx=>?_,I.base.there,λb xs e=>nn (I.base.mr b xs e),λb o u e=>nn (I.base.lK b o u e),λb ps e=>?_⟩,I.loc,I.cell,?_,λx c e=>?_,λp hq=>?_,λb v e=>?_,I.len⟩
 ·rw[ay (old b o e)];exact I.base.free b o e m hx
 ·obtain⟨more,e1⟩:=I.base.mw b ps e;exact⟨more,nn e1⟩
 ·obtain⟨m,⟨o,es,ep,ho,hdl,_⟩,_⟩:=I.loc;rw[ay (λz=>by rw[z,ha] at ho;cases ho;rw[hda] at hdl;cases hdl)];exact I.free
 ·obtain⟨v,o,ho,hdc⟩:=I.cell x c e;rw[ay (λz=>by rw[z,ha] at ho;cases ho;rw[hda] at hdc;cases hdc)];exact I.fM x c e
 ·obtain⟨e,m,r⟩:=I.pin p hq;exact⟨e,by rw[ay (hp p hq)];exact m,r⟩
 ·by_cases z:b=a
  ·subst z;rw[aP] at e;cases e;exact new
  ·rw[ay z] at e;exact(I.ba b v e).mC (λ_ _ _ q=>q) (λ_ q=>nn q) (λ_ _ q=>nn q) λ_ _ q=>nn q
theorem JR{cn:Str}{f:Addr}{p1 p2:Pos}{i:Nat}{ho:Obj}{fd:FuncData}{Q:Value->Shared->Prop}{E:Value->Shared->Prop}(I:Inv X pins σ H s)(hN:X.N[i]?=some cn)(hv:Kt X.env.scope cn)(hσ:σ[i]?=some (some (.ref f)))(hf:s.heap.get? f=some ho)(hd:ho.data=.func fd)
  (h:wpAny (model X.prog X.w) X.A (call (.ref f) []) Q E s) (hdb:(cn==("__debug__":Str))=false) (hcd:(cn==("__classdict__":Str))=false):
  wpAny (model X.prog X.w) X.A (eval (.Call (.Name cn p1) [] [] p2) X.env) Q E s:=by
 refine QZ ?_;obtain⟨m,hn,hl⟩:=I.loc;obtain⟨u,r,l⟩:=hl i cn _ hN hσ hv;obtain rfl:u=Value.ref f:=r;have fin:wpAny (model X.prog X.w) X.A (callWith p2 (.ref f) [] (backTo p2 (starEach [] X.env)) (backToKw p2 (keywordEach [] X.env))) Q E s:=by
  refine callWith_of (P:=λh=>∃o,h.get? f=some o/\o.data=.func fd) rfl (λh ⟨o,e1,e2⟩=>⟨.frame,.inl rfl,(Looks.ld (part:=none) e1).andThen ?_⟩) (evalArgs_nil3 ⟨⟨ho,hf,hd⟩,h⟩);rw[e2];exact .now
 rcases l with⟨hk,hm⟩ |⟨hk,c,hc,hcell⟩
 ·exact Te (wpAny_loadName_local I.ok.kind hk hn hm fin) hdb
 ·rcases hk with hk | hk
  ·exact Te (wpAny_loadName_cell I.ok.kind hk hc hcell fin) hdb
  ·exact Te (wpAny_loadName_free I.ok.kind hk hc hcell fin hcd) hdb
end
section
variable {X:Cx} {pins:List (Addr×Obj)} {σ:St} {H:Hp} {s:Shared}
theorem Cn{L:Addr}{rest:List Env}{cau en:Str}{CS:Addr}{p4 p5 p6 p7 p8 p9:Pos}{body:List Stmt}{Qn:Hp->Prop}{E1:XK}{Q:Flow->Shared->Prop}{E:Value->Shared->Prop}
  (I:Inv X pins σ H s) (hs:X.stack=X.env::rest) (hf:X.env.frame=some L) (hNd:X.N.Nodup) (h1:X.N[1]?=some cau) (h2:X.N[2]?=some en) (l1:X.env.scope.names.lookup cau=some .local) (l2:X.env.scope.names.lookup en=some .local)
  (hg:Gl X "StuckError") (hm:X.mg "StuckError"=some (.ref CS)) (hsw:swapsWith (.Name en p6) (some (.Name cau p5)) p7.line X.env=pure false) (hd:(en==("__debug__":Str))=false) (hcd:(en==("__classdict__":Str))=false)
  (hcall:wpAny (model X.prog X.w) X.A (execs body X.env) (λf s'=>f=.next/\∃H',Inv X pins σ H' s'/\Qn H') (λe s'=>gX X.prog X.w X.stack H s E1 e s') s)
  (hE:∀C H',E1 C none H'->∃D bm bmC,C=.ref D/\(∀h,X.K.In h->xM h D bm/\xM h CS bmC)/\bmC.contains (.type "BaseException")=true/\(Value.ref D::bm).contains (.ref CS)=true)
  (hz:∀b,s.heap.get? b=none->X.s₀.heap.get? b=none)
  (k1:∀s' H',Inv X pins σ H' s'->Qn H'->Q .next s')
  (k2:∀s' H' x D,Inv X pins ((((σ.set 2 (some (.ref x))).set 1 (some (.ref x))).set 2 (some .bR)).set 2 none) (upd H' x (.Ae λ_ h=>xS h x D)) s'->E1 (.ref D) none H'->H' x=none->Q .next s'):
  wpAny (model X.prog X.w) X.A (exec (.Try body [.ExceptHandler (some (.Name "StuckError" p4)) (some en) [.Assign [.Name cau p5] (.Name en p6) p7] p8] [] [] p9) X.env) Q E s:=by
 refine wpAny_Try_except (Qo hcall (λf s' hq=>?_) λe s' hx=>?_)
 ·obtain⟨rfl,H',I',q⟩:=hq;exact RX (k1 _ _ I' q)
 ·obtain⟨x,C,H',rfl,e1,kk⟩:=rJ I hs hf hx;refine kk I.ok.frames λs3 I3 fx nx n0 fl2=>?_;obtain⟨D,bm,bmC,rfl,ho,hb1,hb2⟩:=hE _ _ e1;obtain⟨o,vs,e3,e4,e5⟩:=fx;refine Bx hb1 hb2 ?_;refine jr (X:=X.EZ (.ref x) E) I3.EZ hg hm ?_;refine⟨rfl,(ho _ I3.ou).1,(ho _ I3.ou).2,⟨o,e3,e4⟩,fl2 λs4 I4 ⟨o4,vs4,f3,f4,f5⟩=>?_⟩;have I4':Inv X pins σ (upd H' x (.Ae λ_ h=>xS h x D)) s4:=I4.Li nx (hz x n0) ⟨o4,vs4,f3,f5⟩ (λp hp z=>by
   obtain⟨e,_⟩:=I.pin p hp;rw[z,n0] at e;cases e) ⟨⟨o4,f3,f4⟩,⟨o4,f3⟩,λh1 h2 ⟨o,a,b⟩ k=>⟨o,k o a,b⟩⟩
  have hl2:2 < σ.length:=by rw[I.len];exact(PH.mp h2).1
  refine gz (v:=.ref x) I4' hNd h2 (.inl l2) rfl (λs5 I5=>?_) (.inr l2);refine Ri (cm (yp (X:=X.EZ (.ref x) (AsSuiteRaised (model X.prog X.w) (X.A.mark (some (.ref x))) X.env en p8 (notedBy (model X.prog X.w) (X.A.mark (some (.ref x))) X.env (cameBackBy (model X.prog X.w) X.A X.env E)))) (i:=1) hNd h1 (.inl l1) (Dr (i:=2) h2 (.inl l2) hd hcd) hsw (.inr l1) pins s5 _ _
   {nx:=λσ' H2=>σ'=(σ.set 2 (some (.ref x))).set 1 (some (.ref x))/\H2=upd H' x (.Ae λ_ h=>xS h x D),rt:=λ_ _=>False,bk:=λ_ _=>False,ct:=λ_ _=>False} I5.EZ ⟨.ref x,by rw[Qr hl2],rfl,rfl⟩) λf s6 q=>?_)
  cases f with
  | ret v=>obtain⟨_,_,_,_,_,q⟩:=q;exact q.elim
  | brk=>obtain⟨_,_,_,q⟩:=q;exact q.elim
  | cont=>obtain⟨_,_,_,q⟩:=q;exact q.elim
  | next=>
   obtain⟨σ6,H6,I6,rfl,rfl⟩:=q;have I6:=I4.Oj I6;refine RX ?_;refine PD (UG (gz (v:=.bR) I6 hNd h2 (.inl l2) rfl (λs7 I7=>?_) (.inr l2)));unfold unbindBehindTheSuite;refine wpAny_onRaise (AA (v:=.bR) I7 hNd h2 l2 (by rw[Qr];simpa using hl2) λs8 I8=>?_);exact k2 _ _ x D I8 e1 nx
end
section
variable {X:Cx} {pins:List (Addr×Obj)} {σ:St} {H:Hp} {s:Shared} {N':List Str} {caps:List (Option Nat)} {scope:Scope}
theorem Inv.cells(S:bj X N' caps scope)(I:Inv X pins σ H s):Nd H s.heap N' scope (fD X.env scope.names []) (i3 caps σ):=by
 refine⟨λx y c h1 h2=>I.ok.inj x y c (S.look I.ok h1) (S.look I.ok h2),λx h=>gR (env:=X.env) scope.names [] (Qs h),λx c e=>⟨I.fM x c (S.look I.ok e),I.cell x c (S.look I.ok e)⟩,λj x v e1 e2=>?_,by
  show(caps.map _).length=N'.length;rw[PC];exact S.len⟩
 have e2':(caps.map λo=>o.bind λi=>(σ[i]?).join)[j]?=some (some v):=e2;rw[P8] at e2';cases hcj:caps[j]? with
 | none=>rw[hcj] at e2';cases e2'
 | some oi=>
  rw[hcj] at e2';have e2'':(oi.bind λi=>(σ[i]?).join)=some v:=Option.some.inj e2';cases oi with
  | none=>cases e2''
  | some i=>
   have hσ:(σ[i]?).join=some v:=e2'';have hσ':σ[i]?=some (some v):=by
    cases hs:σ[i]? with
    | none=>rw[hs] at hσ;cases hσ
    | some w=>rw[hs] at hσ;rw[show w=some v from hσ]
   obtain⟨hX,hfr⟩:=S.O3 j i x hcj e1;obtain⟨m,_,hl⟩:=I.loc;have hcgt:=S.rJ _ (Qs hfr) rfl;have hvis:Kt X.env.scope x:=by
    rcases hcgt with z | z
    ·exact .inr (.inl z)
    ·exact .inr (.inr z)
   obtain⟨u,ru,lk⟩:=hl i x v hX hσ' hvis;obtain⟨c,hcc⟩:=gR (env:=X.env) scope.names [] (Qs hfr);refine⟨u,c,ru,hfr,hcc,?_⟩;rcases lk with⟨z,_⟩ |⟨_,c',hc',hcell⟩
   ·have z':X.env.kindOf x=some .local:=z;rcases hcgt with q | q
    ·rw[z'] at q;cases q
    ·rw[z'] at q;cases q
   ·have:=S.look I.ok hcc;rw[this] at hc';cases hc';exact hcell
end
abbrev wj(X:Cx)(ns:List Str)(fn:Str)(st:Stmt)(fr:Addr)(cdv:Value)(s1:Shared)(H1:Hp):Cx:=eN mm X.prog X.w X.K X.mg X.base ns fn (ah st) fr cdv X.A X.stack s1 H1 λ_ _ _=>False
end L2
namespace Sm
open PySem L2 PySem.Spec PySem.W PySem.Calls PyProof.Rows
noncomputable def wu(mt:SM)(c:Str)(h:MH):Option (D×MH):=((mt [none,some (.ob h.length),none,none] (h++[.exc c])).bind r8).bind λp=>leave h p.1 p.2
noncomputable def Cr(mt:SM)(h:MH):Option (D×MH):=((mt [none,some .bR,none,none] h).bind r8).bind λp=>leave h p.1 p.2
noncomputable def cc(cls:List Str)(caps:List (Option Nat))(mt:SM)(x:XM)(m:EM):EM:=λδ h=>match x (cS caps δ) h with
 | some (c,h')=>if c∈cls then wu mt c h' else none
 | none=>(m (cS caps δ) h).bind λp=>Cr mt p.2
structure XC(K:Frag)(mg:Str->Option Value)(CS:Addr)(c:Str):Prop where
 ex:∃D bm bmC,mg c=some (.ref D)/\JL K c=some (.ref D)/\(∀h,K.In h->xM h D bm/\xM h CS bmC)/\bmC.contains (.type "BaseException")=true/\(Value.ref D::bm).contains (.ref CS)=true
section
variable {X:Cx} {fn cn cau en mk:Str} {fr CS Pt:Addr} {fd:FuncData} {st:Stmt} {tail:List Stmt} {mt:SM} {k:Nat} {x:XM} {m:EM} {Nl:List Str} {caps:List (Option Nat)} {scope:Scope} {params:Arguments} {body:Expr} {cls:List Str}
 {pa pb' pc p1 p2 p3 p4 p5 p6 p7 p8 p9 pn lpos pos:Pos} {j:Nat}
theorem yd(F:rW X.K fn fn st fr fd)(Sc:aE [cn,cau,en,mk] [cn] (ah st))(hmf:X.mg fn=some (.ref fr))(hkf:keepIn X.K (.ref fr)=true)
  (hbind:∀(s:Shared)(u:Value),BindsTo s fd ⟨[u],[]⟩ [(cn,u)])
  (hbody:cY st=.Assign [.Name cau pa] (.Constant .none j pb') pc::.Try [.Expr (.Call (.Name cn p1) [] [] p2) p3] [.ExceptHandler (some (.Name "StuckError" p4)) (some en) [.Assign [.Name cau p5] (.Name en p6) p7] p8] [] [] p9::tail)
  (l0:(ah st).names.lookup cn=some .local) (l1:(ah st).names.lookup cau=some .local) (l2:(ah st).names.lookup en=some .local) (lg:(ah st).names.lookup ("StuckError":Str)=some .globalImplicit)
  (hms:X.mg "StuckError"=some (.ref CS)) (hC:∀c∈cls,XC X.K X.mg CS c)
  (n0:(cn==("__debug__":Str))=false) (n0':(cn==("__classdict__":Str))=false) (n2:(en==("__debug__":Str))=false) (n2':(en==("__classdict__":Str))=false)
  (sw1:∀env,swapsWith (.Constant .none j pb') (some (.Name cau pa)) pc.line env=pure false) (sw2:∀env,swapsWith (.Name en p6) (some (.Name cau p5)) p7.line env=pure false) (sw3:∀env,swapsWith (.Call (.Name cn p1) [] [] p2) none p3.line env=pure false)
  (htail:∀(cdv:Value)(A:Around)(outer:List Env)(s:Shared)(H:Hp)(E:XK),cD (k+1) (A.deeper (envOfC fn (ah st) s.heap.objs.size fr cdv))->BU (eN mm X.prog X.w X.K X.mg X.base [cn,cau,en,mk] fn (ah st) fr cdv A outer s H E).DK tail mt)
  (hr:cD (k+2) X.A) (L:BW X.K X.mg X.env.code Pt) (hd:defaultsOf params X.env=([],[])) (hp:∀fd:FuncData,fd.params=params->fd.defaults=.none->fd.kwdefaults=.none->bindArgs fd ⟨[],[]⟩=pure []) (LS:rQ Nl scope) (C:bj X Nl caps scope)
  (hx:∀(q:Str)(cd:Value)(f:Addr)(cl:List (Str×Addr)) (A:Around) (outer:List Env) (s:Shared) (H:Hp) (E:XK),cD k (A.deeper (envX q scope s.heap.objs.size f cd cl))->XE (GH (gX X.prog X.w) X.prog X.w X.K X.mg X.base Nl q scope cl f cd A outer s H E) E body x)
  (hm:∀(q:Str)(cd:Value)(f:Addr)(cl:List (Str×Addr)) (A:Around) (outer:List Env) (s:Shared) (H:Hp) (E:XK),cD k (A.deeper (envX q scope s.heap.objs.size f cd cl))->SE (GH (gX X.prog X.w) X.prog X.w X.K X.mg X.base Nl q scope cl f cd A outer s H E) body m)
  (hg:Gl X fn) (hdb:(fn==("__debug__":Str))=false) (hst:starEach [.Lambda params body scope lpos] X.env=[(false,eval (.Lambda params body scope lpos) X.env)]):
  SE X (.Call (.Name fn pn) [.Lambda params body scope lpos] [] pos) (cc cls caps mt x m):=by
 intro pins s σ H Q I ⟨ρ,δ,h,d,h',R,S,ee,kq⟩;refine QZ (jr I hg hmf ?_ hdb);refine UO (h₀:=X.base) (rest:=[]) I.ok.mod.Nq hkf ?_ hst (by rfl);rw[hst];show wpAny _ _ (spliced ((false,eval (.Lambda params body scope lpos) X.env)::backTo pos [])) _ _ s;have tP:H Pt=some .tb:=(S.tb Pt L.tab).2;refine TJ (Jv I L tP hd (ic (C.has I.ok)) λs1 H1 f I1 hext hnew hfs Fl=>TU ⟨I1.ou,?_⟩);have T1:cM ρ H ρ H1:=⟨⟨λ_ _ e=>e,λb o n e=>⟨n,hext b o e⟩⟩,rfl,λb hb=>by
  obtain⟨u,e⟩:=(S.rV b hb).1;rw[e,hext b u e]⟩
 have S1:bF X.K ρ h H1:=S.same T1 λa ha=>by
  obtain⟨u,e⟩:=S.has (.inl ha);rw[e,hext a u e]
 have R1:b8 X.K ρ H1 (i3 caps σ) (cS caps δ):=(R.mono T1.toCh).i3 caps;have Cl1:=I1.cells C;have e0:=I1.JS;obtain⟨oc,od,kV,doc,pm,an,cdv,ct,osl,rfl,lk,hcd⟩:=F.ex;have KX:X.K.In s1.heap:=I1.ou;have lim:s1.heap.NoLimit:=I1.nolimit;have hkind:∀y∈[(cn,Value.ref f)],(ah st).names.lookup y.1=some .local\/((ah st).names.lookup y.1=some .cell/\((cellsFrom (s1.heap.objs.size+1) (ah st).names []).lookup y.1).isSome=true):=λy hy=>by
  rw[P4.mp hy];exact .inl l0
 show wpAny _ _ (call (.ref fr) [.ref f]) _ _ s1;refine wpAny_call (Sa (R:=CR mm X.stack X.prog X.w H1 s1 Q (λ_ _ _=>False)) (codeAny_call_function hr.depth (KX _ _ lk) rfl Sc.co Sc.gen rfl (codeRec_of KX hcd) (hbind _ _ _ _ _ _ ?_)) λr s' hq=>?_);rotate_left
 ·cases r with
  | error e=>exact False.elim hq
  | ok fl=>
   cases fl with
   | ret u=>exact I1.after hq
   | next=>exact False.elim hq
   | brk=>exact False.elim hq
   | cont=>exact False.elim hq
 refine UE Sc.kind hkind λenv he s2 z=>?_;subst he;refine⟨lim.keeps z.toInCall.keep,codeAny_func ?_⟩;have Ir:Inv (wj X [cn,cau,en,mk] fn st fr cdv s1 H1) [] (start [cn,cau,en,mk] [.ref f]) H1 s2:=tS (us:=[.ref f]) (vs:=[.ref f]) Sc hr.hd e0 rfl (.cons rfl .nil) z;have hr1:cD (k+1) (wj X [cn,cau,en,mk] fn st fr cdv s1 H1).A:=hr.deeper _;rw[hbody];refine Ri (Qo (yp (X:=wj X [cn,cau,en,mk] fn st fr cdv s1 H1) (i:=1) Sc.nd rfl (.inl l1) Dt (sw1 _) (.inl rfl) [] s2 _ H1
  {nx:=λσ' H2=>σ'=[some (.ref f),some .bR,none,none]/\H2=H1,rt:=λ_ _=>False,bk:=λ_ _=>False,ct:=λ_ _=>False} Ir ⟨rfl,rfl⟩) (λfl s3 q=>?_) λe s' hq=>hq)
 cases fl with
 | ret v=>obtain⟨_,_,_,_,_,q⟩:=q;exact q.elim
 | brk=>obtain⟨_,_,_,q⟩:=q;exact q.elim
 | cont=>obtain⟨_,_,_,q⟩:=q;exact q.elim
 | next=>
 obtain⟨σ3,H3,I3,rfl,rfl⟩:=q;have fin:∀{s':Shared} {σ':L2.St} {H':Hp} {v:V} {u:Value},Inv (wj X [cn,cau,en,mk] fn st fr cdv s1 H3) [] σ' H' s'->RelV v u->Q v H'->CE X.stack X.prog X.w H3 s1 Q u s':=
  λ{s' σ' H' v u} J rv q=>⟨v,H',J.os,J.bare,J.base,J.ba,rv,q⟩
 have tl:∀{s4:Shared} {σ4:L2.St} {H4:Hp} {ρ4:Ad} {δ4:DS} {h4:MH} {d4:D} {h5:MH},Inv (wj X [cn,cau,en,mk] fn st fr cdv s1 H3) [] σ4 H4 s4->b8 X.K ρ4 H4 σ4 δ4->bF X.K ρ4 h4 H4->(mt δ4 h4).bind r8=some (d4,h5)->(∀v H',cT X.K ρ4 H4 h5 d4 v H'->Q v H')->
   wpAny (model X.prog X.w) (wj X [cn,cau,en,mk] fn st fr cdv s1 H3).A (execs tail (wj X [cn,cau,en,mk] fn st fr cdv s1 H3).env) (λfl s'=>CR mm X.stack X.prog X.w H3 s1 Q (λ_ _ _=>False) (.ok (.ret (match fl with | .ret v=>v | _=>.none))) s') (wj X [cn,cau,en,mk] fn st fr cdv s1 H3).xe s4:=λ{s4 σ4 H4 ρ4 δ4 h4 d4 h5} I4 R4 S4 e4 k4=>by
  obtain⟨⟨fl,δ5,h6⟩,e5,e6⟩:=bw e4;refine Qo (htail cdv X.A X.stack s1 H3 (λ_ _ _=>False) hr1 [] s4 σ4 H4 {nx:=λ_ H'=>Q .bR H',rt:=Q} (I4.pJ _) ⟨ρ4,δ4,h4,fl,δ5,h6,R4,S4,e5,λρ6 H6 T6 S6=>?_⟩) (λf' s' hs=>?_) λe s' hq=>hq.elim
  ·cases fl with
   | nx=>cases e6;exactλσ' R'=>k4 _ _ ⟨ρ6,T6,S6,.bR⟩
   | rt d=>cases e6;exactλv r=>k4 _ _ ⟨ρ6,T6,S6,r⟩
   | bk=>cases e6
   | ct=>cases e6
  ·cases f' with
   | ret u=>obtain⟨v,σ',H',J,rv,q⟩:=hs;exact fin J.gn rv q
   | next=>obtain⟨σ',H',J,q⟩:=hs;exact fin (v:=V.bR) (u:=Value.none) J.gn rfl q
   | brk=>obtain⟨_,_,_,q⟩:=hs;exact False.elim q
   | cont=>obtain⟨_,_,_,q⟩:=hs;exact False.elim q
 have run:∀{t:TE} {Qn:VK} {E1:XK},(∀q cd,PE (GH (gX X.prog X.w) X.prog X.w X.K X.mg X.base Nl q scope (fD X.env scope.names []) f cd (wj X [cn,cau,en,mk] fn st fr cdv s1 H3).A (wj X [cn,cau,en,mk] fn st fr cdv s1 H3).stack s3 H3 E1) body t)->t (i3 caps σ) H3 Qn->
   wpAny (model X.prog X.w) (wj X [cn,cau,en,mk] fn st fr cdv s1 H3).A (execs [.Expr (.Call (.Name cn p1) [] [] p2) p3] (wj X [cn,cau,en,mk] fn st fr cdv s1 H3).env) (λf' s'=>f'=.next/\∃H',Inv (wj X [cn,cau,en,mk] fn st fr cdv s1 H3) [] [some (.ref f),some .bR,none,none] H' s'/\∃v,Qn v H') (λe s'=>gX X.prog X.w (wj X [cn,cau,en,mk] fn st fr cdv s1 H3).stack H3 s3 E1 e s') s3:=λ{t Qn E1} hb ht=>by
  obtain⟨qn,c',ctv',oc',vs',q',tk',f1,f2,f3,f4⟩:=Fl.ex;obtain⟨hof,_⟩:=(show bM X.prog X.w H3 s3.heap f _ from I3.ba f _ f1);refine Ri (wpAny_Expr_any (JR (X:=(wj X [cn,cau,en,mk] fn st fr cdv s1 H3)) (i:=0) I3 rfl (.inl l0) rfl hof rfl (wpAny_call (Sa (DV LS hp I3.JS hr1.hd hr1.depth Fl (Cl1.keep λb o n e=>⟨I3.base.any e n (λz=>nomatch z),n⟩) hb ht) λr s' hq=>?_)) n0 n0') I3.quiet (sw3 _));cases r with
  | error e=>exact hq
  | ok fl=>
   cases fl with
   | ret u=>
    obtain⟨v,H',I',_,q⟩:=I3.after hq;exact RX ⟨rfl,H',I',v,q⟩
   | next=>exact False.elim hq
   | brk=>exact False.elim hq
   | cont=>exact False.elim hq
 have hz:∀b,s3.heap.get? b=none->s1.heap.get? b=none:=λb hb=>by
  cases q:s1.heap.get? b with
  | none=>rfl
  | some o=>obtain⟨o',e⟩:=I3.base.there b o q (λz=>nomatch z);rw[hb] at e;cases e
 have hrl:∀(q:Str)(cd:Value),cD k ((wj X [cn,cau,en,mk] fn st fr cdv s1 H3).A.deeper (envX q scope s3.heap.objs.size f cd (fD X.env scope.names []))):=λq cd=>hr1.deeper _;unfold cc at ee;cases hq:x (cS caps δ) h with
 | some p=>
  obtain⟨c,h1⟩:=p;rw[hq] at ee;dsimp only at ee
  by_cases hc:c∈cls
  ·rw[PL hc] at ee;obtain⟨⟨d4,h5⟩,e4,e6⟩:=bw ee;obtain⟨D,bm,bmC,mD,gD,hob,hb1,hb2⟩:=(hC c hc).ex;refine Ri (Cn (X:=(wj X [cn,cau,en,mk] fn st fr cdv s1 H3)) (rest:=X.stack) (L:=s1.heap.objs.size) (E1:=λC _ H'=>∃ρ',X.mg c=some C/\cM ρ H3 ρ' H'/\bF X.K ρ' h1 H') (Qn:=λH'=>∃v:V,(λ_ _=>False:VK) v H') I3 rfl rfl Sc.nd rfl rfl l1 l2 lg hms (sw2 _) n2 n2'
    (run (t:=λσ H _=>MU X.K X.mg (λC _ H'=>∃ρ',X.mg c=some C/\cM ρ H3 ρ' H'/\bF X.K ρ' h1 H') x σ H) (Qn:=λ_ _=>False) (E1:=(λC _ H'=>∃ρ',X.mg c=some C/\cM ρ H3 ρ' H'/\bF X.K ρ' h1 H')) (λq cd=>hx q cd f _ _ _ s3 H3 _ (hrl q cd)) ⟨ρ,_,h,c,h1,R1,S1,hq,λC ρ' H' m T S=>⟨ρ',m,T,S⟩⟩) (λC H' hh=>?_) hz (λs4 H4 _ hh=>?_) λs4 H4 y D4 I4 hh hn=>?_)
   ·obtain⟨ρ',m,_⟩:=hh;rw[mD] at m;cases m;exact⟨D,bm,bmC,rfl,hob,hb1,hb2⟩
   ·obtain⟨_,q⟩:=hh;exact q.elim
   ·obtain⟨ρ',m,T,S4⟩:=hh;rw[mD] at m;cases m;have S5:bF X.K (ρ'.more y) (h1++[.exc c]) (upd H4 y (.Ae λ_ h=>xS h y D)):=S4.made hn ⟨D,gD,aP⟩;refine Qo (tl I4 (ρ4:=ρ'.more y) (δ4:=[none,some (.ob h1.length),none,none]) ⟨rfl,λi d hd=>?_⟩ S5 e4 λv H' pp=>?_) (λ_ _ q=>q) λ_ _ q=>q
    ·match i,hd with
     | 0,hd=>cases hd
     | 1,hd=>cases hd;exact⟨.ref y,rfl,.ob (by show(ρ'.ob++[y])[h1.length]?=_;rw[<-S4.len];simp)⟩
     | 2,hd=>cases hd
     | 3,hd=>cases hd
     | _+4,hd=>cases hd
    ·obtain⟨ρ6,T6,S6,r6⟩:=pp;have p2:cT X.K ρ' H4 h5 d4 v H':=⟨ρ6,(cM.made S4 hn).trans T6,S6,r6⟩;obtain⟨ρ7,T7,S7,r7⟩:=p2.leave S4 e6;exact kq v H' ⟨ρ7,(T1.trans T).trans T7,S7,r7⟩
  ·rw[P0 hc] at ee;cases ee
 | none=>
  rw[hq] at ee;dsimp only at ee;obtain⟨⟨d1,h1⟩,e1,e2⟩:=bw ee;obtain⟨⟨d4,h5⟩,e4,e6⟩:=bw e2;refine Ri (Cn (X:=(wj X [cn,cau,en,mk] fn st fr cdv s1 H3)) (rest:=X.stack) (L:=s1.heap.objs.size) (E1:=λ_ _ _=>False) (Qn:=λH'=>∃v:V,cT X.K ρ H3 h1 d1 v H') I3 rfl rfl Sc.nd rfl rfl l1 l2 lg hms (sw2 _) n2 n2'
    (run (t:=tM X.K m) (Qn:=cT X.K ρ H3 h1 d1) (E1:=λ_ _ _=>False) (λq cd=>hm q cd f _ _ _ s3 H3 _ (hrl q cd)) ⟨ρ,_,h,d1,h1,R1,S1,e1,λv H' p=>p⟩) (λC H' hh=>hh.elim) hz (λs4 H4 I4 hh=>?_) λs4 H4 y D4 I4 hh hn=>hh.elim)
  obtain⟨v0,ρ',T,S4,r0⟩:=hh;refine Qo (tl I4 (ρ4:=ρ') (δ4:=[none,some .bR,none,none]) ⟨rfl,λi d hd=>?_⟩ S4 e4 λv H' pp=>?_) (λ_ _ q=>q) λ_ _ q=>q
  ·match i,hd with
   | 0,hd=>cases hd
   | 1,hd=>cases hd;exact⟨.bR,rfl,.bR⟩
   | 2,hd=>cases hd
   | 3,hd=>cases hd
   | _+4,hd=>cases hd
  ·obtain⟨ρ7,T7,S7,r7⟩:=cT.leave S4 pp e6;exact kq v H' ⟨ρ7,(T1.trans T).trans T7,S7,r7⟩
end
structure EX(K:Frag)(mg:Str->Option Value)(tb:List (Str×List Str))(ns:List Str):Prop where
 own:∀c as,tb.lookup c=some as->∃D,mg c=some (.ref D)/\JL K c=some (.ref D)/\XQ K D/\(clsIn K D).isSome=true/\(∀n∈ns,∃N,mg n=some (.ref N)/\kitOne K (.ref D) (.ref N)=some (decide (n∈as)))/\kitOne K (.ref D) (.type "ValueError")=some true
noncomputable def ku(tb:List (Str×List Str))(n:Str)(m:EM):EM:=λδ h=>(m δ h).bind λp=>match p.1 with
 | .ob k=>match p.2[k]? with
  | some (.exc c)=>(tb.lookup c).map λas=>(.bl (decide (n∈as)),p.2)
  | _=>none
 | _=>none
section
variable {X:Cx} {a b:Expr} {m:EM} {tb:List (Str×List Str)} {ns:List Str} {n:Str} {pn pb pos:Pos}
theorem JI{ρ:Ad}{H:Hp}{h:MH}{k:Nat}{c:Str}{v:V}(S:bF X.K ρ h H)(r:Rep X.K ρ H v (.ob k))(e:h[k]?=some (.exc c)):∃x C,v=.ref x/\JL X.K c=some (.ref C)/\H x=some (.Ae λ_ h=>xS h x C):=by
 cases r with
 | ob er=>
  obtain⟨C,g,x⟩:=S.at_ _ _ _ er e;exact⟨_,C,rfl,g,x⟩
theorem EB:fz X (.builtin "isinstance") (λvs H Q=>∃x D cv b,vs=[.ref x,cv]/\H x=some (.Ae λ_ h=>xS h x D)/\XQ X.K D/\(clsIn X.K D).isSome=true/\(∀u,RelV cv u->kitOne X.K (.ref D) u=some b)/\Q (.bl b) H):=by
 intro pins s σ H vs us Q I r ⟨x,D,cv,b,e,hx,xq,hcl,hk,q⟩;subst e;obtain⟨u1,u2,rfl,r1,r2⟩:=Vals.two r;obtain rfl:u1=Value.ref x:=r1;obtain⟨⟨o,f1,f2⟩,_,_⟩:=(show bM X.prog X.w H s.heap x _ from I.ba x _ hx);exact yN xq hcl I.ou ⟨o,f1,f2⟩ (hk u2 r2) λtk=>⟨.bl _,H,I.tok tk,rfl,q⟩
theorem sO{cv:V}(ha:SE X a m)(hb:PE X b (tC cv))(hk:∀c as,tb.lookup c=some as->∃D,JL X.K c=some (.ref D)/\XQ X.K D/\(clsIn X.K D).isSome=true/\∀u,RelV cv u->kitOne X.K (.ref D) u=some (decide (n∈as)))
  (hg:Gl X "isinstance") (hm:X.mg "isinstance"=none) (he:starEach [a,b] X.env=(false,eval a X.env)::starEach [b] X.env) (he2:starEach [b] X.env=[(false,eval b X.env)]) (hpl:(backTo pos (starEach [b] X.env)).any (·.1)=false):
  SE X (.Call (.Name "isinstance" pn) [a,b] [] pos) (ku tb n m):=
 (wO (EB (X:=X)) hg hm boot_isinstance (u9 ha (u9 hb DA he2) he) (by decide) (by decide) he hpl).imp λσ H Q ⟨ρ,δ,h,d,h',R,S,ee,kq⟩=>by
  obtain⟨⟨d1,h1⟩,e1,e2⟩:=bw ee;cases d1 with
  | ob k=>
   dsimp only at e2;cases hq:h1[k]? with
   | none=>rw[hq] at e2;cases e2
   | some o=>
    rw[hq] at e2;cases o with
    | exc c=>
     obtain⟨as,e3,e4⟩:=gf e2;cases e4;obtain⟨D,gD,xq,hcl,hkit⟩:=hk c as e3;refine⟨ρ,δ,h,.ob k,_,R,S,e1,λv H1 ⟨ρ1,T1,S1,rv⟩=>?_⟩;obtain⟨x,C,rfl,gC,hx⟩:=JI S1 rv hq;rw[gD] at gC;cases gC;exact⟨x,D,cv,_,rfl,hx,xq,hcl,hkit,kq _ _ ⟨ρ1,T1,S1,.bl _⟩⟩
    | _=>cases e2
  | _=>cases e2
theorem Ii(E:EX X.K X.mg tb ns)(ha:SE X a m)(h0:∃c as,tb.lookup c=some as)(hn:n∈ns)(hgn:Gl X n)(hg:Gl X "isinstance")(hm:X.mg "isinstance"=none)(hd:(n==("__debug__":Str))=false)(he:starEach [a,.Name n pb] X.env=(false,eval a X.env)::starEach [.Name n pb] X.env)(he2:starEach [.Name n pb] X.env=[(false,eval (.Name n pb) X.env)])
  (hpl:(backTo pos (starEach [.Name n pb] X.env)).any (·.1)=false):SE X (.Call (.Name "isinstance" pn) [a,.Name n pb] [] pos) (ku tb n m):=by
 obtain⟨c0,as0,e0⟩:=h0;obtain⟨_,_,_,_,_,h5,_⟩:=E.own c0 as0 e0;obtain⟨N,mN,_⟩:=h5 n hn;refine sO (cv:=.ref N) ha (zJ hgn mN rfl hd) (λc as e=>?_) hg hm he he2 hpl;obtain⟨D,mD,gD,xq,hcl,h5,_⟩:=E.own c as e;obtain⟨N',mN',hk⟩:=h5 n hn;rw[mN] at mN';cases mN';exact⟨D,gD,xq,hcl,λu ru=>by cases(show u=Value.ref N from ru);exact hk⟩
theorem Ft(E:EX X.K X.mg tb ns)(ha:SE X a m)(hv:∀c as,tb.lookup c=some as->decide (("ValueError":Str)∈as)=true)(hgn:Gl X "ValueError")(hmn:X.mg "ValueError"=none)(hg:Gl X "isinstance")(hm:X.mg "isinstance"=none)
  (he:starEach [a,.Name "ValueError" pb] X.env=(false,eval a X.env)::starEach [.Name "ValueError" pb] X.env) (he2:starEach [.Name "ValueError" pb] X.env=[(false,eval (.Name "ValueError" pb) X.env)])
  (hpl:(backTo pos (starEach [.Name "ValueError" pb] X.env)).any (·.1)=false):SE X (.Call (.Name "isinstance" pn) [a,.Name "ValueError" pb] [] pos) (ku tb "ValueError" m):=by
 refine sO (cv:=.ty "ValueError") ha (zM hgn hmn (u:=.type "ValueError") (by ac_nf) rfl) (λc as e=>?_) hg hm he he2 hpl;obtain⟨D,mD,gD,xq,hcl,_,h6⟩:=E.own c as e;exact⟨D,gD,xq,hcl,λu ru=>by cases(show u=Value.type "ValueError" from ru);rw[hv c as e];exact h6⟩
end
noncomputable def zX:ET:=λd ds h=>match ds with
 | [x]=>(dw d h).bind λys=>(zD h x).bind λp=>(nS ys).bind λbs=>if p.depth<=60/\PyData.depthAll bs<=60 then some (D.int (Int.ofNat (bs.countP λb=>PyData.eqv b p)),h) else none
 | _=>none
theorem BI{h:Heap}{f:Value->Bool}{p:PyData}:∀{us:List Value} {ds:List PyData} {as:List Addr},ReadsAll h us ds as->(∀u d as,u∈us->Reads h u d as->d∈ds->f u=PyData.eqv d p)->us.countP f=ds.countP λb=>PyData.eqv b p:=by
 intro us
 induction us with
 | nil=>intro ds as r _;cases r;rfl
 | cons v us ih=>
  intro ds as r hf;cases r with | cons r l=>
  rw[List.countP_cons,List.countP_cons,hf _ _ _ PQ r PQ,ih l λu d as hu hr hd=>hf u d as (PV _ hu) hr (PV _ hd)]
theorem Bi{X:Cx}(hu:X.A.units+64 < cLine):G0 X "list.count" (rM X.K zX):=by
 intro pins s σ H x xs v us Q I rx rs hh;obtain⟨ρ,h,d,ds,z,h',S,rd,l,ee,k⟩:=hh
 match ds,l,ee with
 | [],_,ee=>exact bV ee
 | _::_::_,_,ee=>exact bV ee
 | [y],l,ee=>
  obtain⟨ys,e1,e2⟩:=bw ee;obtain⟨p,e3,e4⟩:=bw e2;obtain⟨bs,e5,e6⟩:=bw e4
  by_cases w:p.depth<=60/\PyData.depthAll bs<=60
  ·rw[PL w] at e6;cases e6;obtain⟨a,vs,rfl,ha,l1⟩:=dm S rd e1;obtain rfl:v=Value.ref a:=rx;obtain⟨yv,rfl,ry⟩:=rep1 l;obtain⟨u,rfl,ru⟩:=Vals.one rs;obtain⟨r1,c1⟩:=k9 S ry e3;obtain⟨r2,c2⟩:=l1.sr e5;obtain⟨as,ra⟩:=r1.reads I ru;obtain⟨its,rv,pl,hz⟩:=I.list (.inl (.inl ha));obtain⟨bs',rb⟩:=r2.reads I rv;have hj:=BI (f:=Af s.heap p) rb λu d as _ hr hd=>nq hr (cj c2 hd);have key:∀y,y∈its.toArray->PySem.SeqAt.EqAt X.A.in1 s y u (Af s.heap p y):=by
    intro y hy;obtain⟨d,as',hr,hd⟩:=ji rb y (by simpa using hy);rw[nq hr (cj c2 hd)];refine RT d p _ s y u as' as hr ra (cj c2 hd) c1 ?_;have h1:=jy hd;have h2:min d.depth p.depth<=d.depth:=SO _ _;show X.A.units+1+min d.depth p.depth < cLine;have h3:=w.2
    lia
   obtain⟨o,n,g,o1,o2,o3⟩:=pl;obtain⟨oc,od,oda,os⟩:=o;dsimp only at o1 o2 o3;subst o1 o2 o3;refine Sx Uj ⟨_,g,rfl⟩ PySem.F.entry_list_count (PySem.F.args_list_count_2 _ _)
    (PySem.SeqAt.list_countAt a its.toArray n none os u (Af s.heap p)) ⟨g,key,?_⟩
   exact⟨.int _,H,I.kept (t':=s.toks+1) λ_ _ e=>e,⟨s.toks,by rw[<-hj];rfl⟩,k _ _ (.here S (.int _))⟩
  ·rw[P0 w] at e6;cases e6
end Sm
namespace Hd
open PySem PySem.W PySem.Spec PyProof.Rows L2 Sm
section
variable {h:Heap}
theorem Jo{ns:Addr}{name:Str}{r:Option Value}(e:tF h ns name=some r):nsIn (aC h) ns name=some r:=by
 unfold tF at e;unfold nsIn
 split at e
 ·rename_i c d es n sl ho;rw[bB ho (gh λvs z=>by cases z)];exact e
 ·cases e
theorem Ga{v:Value}{name:Str}{r:Option Value}(e:iU h name v=some r):ownIn (aC h) name v=some r:=by
 cases v with
 | ref a=>
  unfold iU at e;unfold ownIn;dsimp only at e ⊢
  split at e
  ·rename_i c d cd sl ho;rw[bB ho (gh λvs z=>by cases z)];exact Jo e
  ·cases e
 | _=>exact e
theorem ub{name:Str}{r:Option Value}:∀{vs:List Value},cq h name vs=some r->alongIn (aC h) name vs=some r
 | [],e=>e
 | c::vs,e=>by
  unfold cq at e;unfold alongIn;cases q:iU h name c with
  | none=>rw[q] at e;cases e
  | some w=>
   rw[q] at e;rw[Ga q];cases w with
   | some v=>exact e
   | none=>exact ub (vs:=vs) e
theorem pD{c:Str}{C:Addr}{cd:ClassData}(e:clsAt h c=some (C,cd)):h.nsMap mainGlobals c=some (.ref C)/\∃d sl,(aC h).lookup C=some ⟨.type "type",d,.cls cd,sl⟩:=by
 unfold clsAt at e
 split at e
 ·rename_i C' hg
  split at e
  ·rename_i d cd' sl ho;cases e;exact⟨hg,d,sl,bB ho (gh λvs z=>by cases z)⟩
  ·cases e
 ·cases e
theorem Mu{mg:Str->Option Value}{c:Str}{v:Value}(g:h.Ns mainGlobals mg)(e:mg c=some v):JL (aC h) c=some v:=by
 obtain⟨o,es,ep,ho,hd,sk,hm⟩:=g;unfold JL;rw[bB ho (gh λvs z=>by rw[hd] at z;cases z)];dsimp only;rw[hd];dsimp only;rw[<-hm c] at e;unfold nsFind findBy at e;rw[<-US] at e;rw[show(λe:DictEntry=>e.key.isStr c)=λe=>Value.isStrOf c e.key from funext λx=>by cases x.key <;> rfl] at e;exact e
theorem vp{o:Obj}(hd:∀vs,o.data≠.fields vs){a:Addr}{base:Heap}(X:(aC h).In base)(e:h.get? a=some o):base.get? a=some o:=X _ _ (bB e (gh hd))
theorem zR{base:Heap}(X:(aC h).In base){N:Addr}{m:Str->Option Value}(x:h.Ns N m):base.Ns N m:=by
 obtain⟨o,es,ep,ho,hd,r⟩:=x;exact⟨o,es,ep,vp (λvs z=>by rw[hd] at z;cases z) X ho,hd,r⟩
theorem AG{base:Heap}(X:(aC h).In base){bmB tl:List Value}(T:OwnTail h bmB tl):OwnTail base bmB tl:=by
 induction T with
 | base=>exact .base
 | own hA hN hni _ ih=>exact .own (vp (λvs z=>by cases z) X hA) (zR X hN) hni ih
abbrev Cm:List Value:=[.type "ValueError",.type "Exception",.type "BaseException",.type "object"]
section
variable {q:Program} {loose:List Str} {mean:ExcName->Option Value} {mg mb:Str->Option Value} {c:Str}
theorem zk{base:Heap}(T:Top q loose mean mg mb h)(hs:specOf q c=some ("ValueError.__new__",Cm))(X:(aC h).In base):∃C,BS mg base c C:=by
 obtain⟨C,O,_⟩:=T.ownAt hs;have O:=O.own;obtain⟨bm,N,nm,q',bs,hdct,sn,sub,ab,col,dd,k0,k1,k2,k3,k5,mN,hC,hN,hni,T'⟩:=O.obj;exact⟨C,⟨O.bound,bm,N,nm,q',bs,hdct,sn,sub,ab,col,dd,k0,k1,k2,k3,k5,mN,vp (λvs z=>by cases z) X hC,zR X hN,hni,AG X T'⟩⟩
theorem uN{cs ns:List Str}{tab:List (Option (List (Option Bool)))}(Y:oW h cs ns=tab){i:Nat}(hi:cs[i]?=some c){r:List (Option Bool)}(hr:tab[i]?=some (some r)):jR h ns c=some r:=by
 subst Y;unfold oW at hr;rw[P8,hi] at hr;exact Option.some.inj hr
theorem rh{ns:List Str}{r:List (Option Bool)}(e:jR h ns c=some r):∃C cd,clsAt h c=some (C,cd)/\cq h "__getattribute__" cd.mro=some (some (.builtin "BaseException.__getattribute__"))/\cq h "__getattr__" cd.mro=some none/\cq h "__class__" cd.mro=some (some (.builtin "object.__class__"))/\
  cd.mro.contains (.type "object")=true/\cd.mro.contains (.type "BaseException")=true/\cd.mro.contains (.type "ValueError")=true/\cd.mro.contains (.ref C)=true/\r=ns.map (isAt h cd):=by
 unfold jR at e;obtain⟨⟨C,cd⟩,e1,e2⟩:=RS.mp e;dsimp only at e2
 split at e2
 ·rename_i hh;simp only[Qm] at hh;cases e2;exact⟨C,cd,e1,Q8.mp hh.1.1.1.1.1.1,Q8.mp hh.1.1.1.1.1.2,Q8.mp hh.1.1.1.1.2,hh.1.1.1.2,hh.1.1.2,hh.1.2,hh.2,rfl⟩
 ·cases e2
theorem zS{C:Addr}{cd:ClassData}{d:Option Addr}{sl:Array (Option Value)}(lk:(aC h).lookup C=some ⟨.type "type",d,.cls cd,sl⟩){v:Value}{b:Bool}(e:cd.mro.contains v=b)(hn:cd.mro.contains (.type "object")=true):mroIn (aC h) C v=some b:=by
 have hc:clsIn (aC h) C=some cd:=by unfold clsIn;rw[lk]
 unfold mroIn;rw[hc];show(if cd.mro.isEmpty then none else some (cd.mro.contains v))=some b;rw[P0 (λz=>by rw[List.isEmpty_iff.mp z] at hn;cases hn),e]
theorem mg_of{mg:Str->Option Value}{n:Str}{v:Value}(g:h.Ns mainGlobals mg)(e:h.nsMap mainGlobals n=some v):mg n=some v:=by
 obtain⟨o,es,ep,g1,g2,_,g3⟩:=g;rw[<-g3 n,<-e];unfold Heap.nsMap;rw[g1];dsimp only;rw[g2]
theorem My{tb:List (Str×List Str)}{ns:List Str}(T:Top q loose mean mg mb h)(Y:oW h (tb.map (·.1)) ns=tb.map λp=>some (ns.map λn=>some (decide (n∈p.2)))):EX (aC h) mg tb ns:=by
 refine⟨λc as e=>?_⟩;obtain⟨i,hi⟩:=Ta (Qs e);have hr:=uN (c:=c) Y (i:=i) (by rw[P8,hi];rfl) (r:=ns.map λn=>some (decide (n∈as))) (by rw[P8,hi];rfl);obtain⟨D,cd,hc,a1,a2,a3,b1,b2,b3,b4,hn⟩:=rh hr;obtain⟨g,d,sl,lk⟩:=pD hc;have mD:=mg_of T.g g;have hcl:clsIn (aC h) D=some cd:=by unfold clsIn;rw[lk]
 have fi:∀{nm:Str} {r:Option Value},cq h nm cd.mro=some r->findIn (aC h) (.ref D) nm=some r:=λ{nm r} e=>by
  unfold findIn;dsimp only;rw[lk];exact ub e
 refine⟨D,mD,Mu T.g mD,⟨fi a1,fi a2,fi a3,zS lk b1 b1,zS lk b2 b1⟩,by rw[hcl];rfl,λn hnn=>?_,?_⟩
 ·have hx:=UY.mp hn n hnn;obtain⟨⟨N,cdN⟩,e1,e2⟩:=Qg.mp hx.symm;obtain⟨gN,dN,slN,lkN⟩:=pD e1;refine⟨N,mg_of T.g gN,?_⟩;dsimp only at e2;unfold kitOne
  by_cases z:N=D
  ·subst z;rw[PL (by simp),<-e2,b4]
  ·rw[P0 (by simpa using λy=>z y.symm)];unfold kitCls;dsimp only;rw[PL (by
    have:clsIn (aC h) N=some cdN:=by unfold clsIn;rw[lkN]
    have t2:typeIn (aC h) (.ref N)=some (.type "type"):=by unfold typeIn;dsimp only;rw[lkN];rfl
    rw[this,t2];rfl)]
   rw[<-e2];exact zS lk rfl b1
 ·unfold kitOne;rw[P0 (by simp)];unfold kitCls;dsimp only;rw[PL (by decide+kernel)];exact zS lk b3 b1
theorem K4{tb:List (Str×List Str)}{ns:List Str}{i1 i2:String}{CS:Addr}(T:Top q loose mean mg mb h)(Y:oW h (tb.map (·.1)) ns=tb.map λp=>some (ns.map λn=>some (decide (n∈p.2))))(mS:mg "StuckError"=some (.ref CS))(hS:specOf q "StuckError"=some (i2,Cm))(hn:("StuckError":Str)∈ns)
  (hs:specOf q c=some (i1,Cm)) (he:∃as,tb.lookup c=some as/\("StuckError":Str)∈as):XC (aC h) mg CS c:=by
 obtain⟨as,e,hm⟩:=he;obtain⟨i,hi⟩:=Ta (Qs e);have hr:=uN (c:=c) Y (i:=i) (by rw[P8,hi];rfl) (r:=ns.map λn=>some (decide (n∈as))) (by rw[P8,hi];rfl);obtain⟨D,cd,hc,_,_,_,_,b2,_,_,hnn⟩:=rh hr;obtain⟨g,d,sl,lk⟩:=pD hc;have mD:=mg_of T.g g;have hx:=UY.mp hnn _ hn;obtain⟨⟨N,cdN⟩,e1,e2⟩:=Qg.mp hx.symm;obtain⟨gN,_⟩:=pD e1;have mN:=mg_of T.g gN;rw[mS] at mN;cases mN;obtain⟨C1,O1,_⟩:=T.ownAt hs;obtain⟨C2,O2,_⟩:=T.ownAt hS;have z1:=O1.bound;rw[mD] at z1;cases z1;have z2:=O2.bound;rw[mS] at z2;cases z2;obtain⟨bm1,N1,nm1,q1,bs1,hd1,sn1,sb1,ab1,col1,dd1,k10,k11,k12,k13,k15,mN1,hC1,_,_,T1⟩:=O1.obj;obtain⟨bm2,N2,nm2,q2,bs2,hd2,sn2,sb2,ab2,col2,dd2,k20,k21,k22,k23,k25,mN2,hC2,_,_,T2⟩:=O2.obj;have l1:=bB hC1 (gh λvs z=>by cases z);have l2:=bB hC2 (gh λvs z=>by cases z);rw[lk] at l1;refine⟨D,bm1,bm2,mD,Mu T.g mD,λh' X=>⟨⟨_,_,_,_,_,_,_,_,_,_,_,_,_,_,_,_,X _ _ (bB hC1 (gh λvs z=>by cases z))⟩,⟨_,_,_,_,_,_,_,_,_,_,_,_,_,_,_,_,X _ _ l2⟩⟩,T2.tail.hasType (by decide),?_⟩;have ec:cd.mro=.ref D::bm1:=by injection l1 with l1;injection l1 with _ _ l1 _;injection l1 with l1;rw[l1]
 rw[<-ec];dsimp only at e2;rw[e2];exact Qj hm
theorem Gr{n:Str}{st:Stmt}{f:Addr}{fd:FuncData}(T:Top q loose mean mg mb h)(e:(recsOf q).find? (λe=>e.name==n)=some (k8 n st))(F:rW (aC h) n n st f fd)(m:mg n=some (.ref f)):∃P,BW (aC h) mg fd.code P:=by
 obtain⟨a,o,fd',c,P,m',ho,hd,hcd,hi,ht⟩:=T.tab _ (T9 e);have m':mg n=some (.ref a):=m';rw[m] at m';cases m';obtain⟨oc,od,kV,doc,pm,an,cdv,ct,osl,rfl,lk,_⟩:=F.ex;have lk2:=bB ho (gh λvs z=>by rw[hd] at z;cases z);rw[lk] at lk2;cases lk2;cases hd;obtain⟨oC,vs,file,tf,flags,tg,inF,text,tt,op,f1,f2,f3,f4,f5,f6,f7,_,_,_,f11⟩:=hi;obtain⟨⟨oC',vs',g1,g2,g3,g4⟩,hP⟩:=ht;rw[f1] at g1;cases g1;rw[f2] at g3;cases g3;obtain⟨bm,ob,b1,b2,b3,b4,b5,b6⟩:=T.bmain;refine⟨P,⟨c,oC,vs,file,tf,flags,tg,inF,text,tt,hcd,bB f1 (D7 f2 g4),g2,f2,g4,f3,f4,f5,f6,f7,f11⟩,?_,⟨bm,ob,b1,b2,bB b3 (gh λvs z=>by rw[b6] at z;cases z),b4,b5,b6⟩⟩;have hin:.ref P∈x8 h:=by
  refine Q9.mpr ⟨c,Rw.mpr (P2 f1),?_⟩;obtain⟨k0,k1,k2,k3⟩:=oC;dsimp only at g2 f2;subst g2 f2;simp[pC,f1,g4,hP,kr]
 unfold aC;have hs:((sD h).lookup mainGlobals).isSome=true:=by
  obtain⟨o,es,ep,g1,g2,_⟩:=T.g;rw[<-ju,bB g1 (gh λvs z=>by rw[g2] at z;cases z)];rfl
 rw[PL hs];exact⟨_,Qa _ (P4.mpr rfl),by simpa using hin⟩
end
end
section
variable {h h':Heap}
theorem DJ(k:Sub h h'){n:Str}{v:Value}(e:h.nsMap mainGlobals n=some v):h'.nsMap mainGlobals n=some v:=by
 unfold Heap.nsMap at e ⊢
 split at e
 ·rename_i o ho;rw[k _ _ ho];exact e
 ·cases e
theorem xB(k:Sub h h'){c:Str}{p:Addr×ClassData}(e:clsAt h c=some p):clsAt h' c=some p:=by
 unfold clsAt at e ⊢
 split at e
 ·rename_i C' hg;rw[DJ k hg];dsimp only
  split at e
  ·rename_i d cd' sl ho;rw[k _ _ ho];exact e
  ·cases e
 ·cases e
theorem Bb(k:Sub h h'){ns:Addr}{name:Str}{r:Option Value}(e:tF h ns name=some r):tF h' ns name=some r:=by
 unfold tF at e ⊢
 split at e
 ·rename_i c d es n sl ho;rw[k _ _ ho];exact e
 ·cases e
theorem DB(k:Sub h h'){v:Value}{name:Str}{r:Option Value}(e:iU h name v=some r):iU h' name v=some r:=by
 cases v with
 | ref a=>
  unfold iU at e ⊢;dsimp only at e ⊢
  split at e
  ·rename_i c d cd sl ho;rw[k _ _ ho];exact Bb k e
  ·cases e
 | _=>exact e
theorem ig(k:Sub h h'){name:Str}{r:Option Value}:∀{vs:List Value},cq h name vs=some r->cq h' name vs=some r
 | [],e=>e
 | c::vs,e=>by
  unfold cq at e ⊢;cases q:iU h name c with
  | none=>rw[q] at e;cases e
  | some w=>
   rw[q] at e;rw[DB k q];cases w with
   | some v=>exact e
   | none=>exact ig k (vs:=vs) e
theorem CM(k:Sub h h'){ns:List Str}{c:Str}{bs:List Bool}(e:jR h ns c=some (bs.map some)):jR h' ns c=some (bs.map some):=by
 obtain⟨C,cd,hc,a1,a2,a3,b1,b2,b3,b4,hn⟩:=rh e;unfold jR;rw[xB k hc];show(if _ then some (ns.map (isAt h' cd)) else none)=_;rw[PL (by rw[ig k a1,ig k a2,ig k a3,b1,b2,b3,b4];rfl)];congr 1;rw[hn];refine List.map_congr_left λn hnn=>?_;have:∃b,isAt h cd n=some b:=by
  have:isAt h cd n∈bs.map some:=by rw[hn];exact RN hnn
  obtain⟨b,_,e⟩:=Qz.mp this;exact⟨b,e.symm⟩
 obtain⟨b,eb⟩:=this;unfold isAt at eb ⊢;obtain⟨p,e1,e2⟩:=Qg.mp eb;rw[e1,xB k e1]
abbrev xt(tb:List (Str×List Str))(ns:List Str):List (Option (List (Option Bool))):=tb.map λp=>some (ns.map λn=>some (decide (n∈p.2)))
theorem tV(k:Sub h h'){ns:List Str}:∀{tb:List (Str×List Str)},oW h (tb.map (·.1)) ns=xt tb ns->oW h' (tb.map (·.1)) ns=xt tb ns
 | [],_=>rfl
 | p::tb,e=>by
  obtain⟨e1,e2⟩:=List.cons.inj (show jR h ns p.1::oW h (tb.map (·.1)) ns=some (ns.map λn=>some (decide (n∈p.2)))::xt tb ns from e);have e1:jR h ns p.1=some ((ns.map λn=>decide (n∈p.2)).map some):=by rw[e1,Ro];rfl
  show jR h' ns p.1::oW h' (tb.map (·.1)) ns=_;rw[tV k e2,CM k e1,Ro];rfl
end
structure Dx(P:Program)(w:World)(K:FR)(mg:Str->Option Value)(base:Heap)(nm:Str)(k:Nat)(ps:List Str)(n:Nat)(F:Xn):Prop where
 ex:∃(f:Addr)(fd:FuncData),dY P w K mg base (gX P w) k f fd ps (LA K mg n F)/\PySem.W.keepIn K (.ref f)=true/\Binds K fd ps []/\mg nm=some (.ref f)
theorem Hh{q:Program}{loose:List Str}{mean:ExcName->Option Value}{mg mb:Str->Option Value}{h base:Heap}{P:Program}{w:World}{n:Str}{st:Stmt}{k N:Nat}{ps:List Str}{F:Xn}(T:Top q loose mean mg mb h)(e:(recsOf q).find? (λe=>e.name==n)=some (k8 n st))
  (ok:∀{f:Addr} {fd:FuncData},rW (aC h) n n st f fd->dY P w (aC h) mg base (gX P w) k f fd ps (LA (aC h) mg N F)) (hb:∀{f:Addr} {fd:FuncData},rW (aC h) n n st f fd->Binds (aC h) fd ps []:=by walk_at "b"):Dx P w (aC h) mg base n k ps N F:=by
 obtain⟨f,fd,m,Fn⟩:=z9 T e;exact⟨f,fd,ok Fn,Fn.kp,hb Fn,m⟩
end Hd
namespace Sm
open PySem L2 PySem.Spec PySem.W PySem.Calls PyProof.Rows
section
variable {X:Cx} {E:XK} {e:Expr} {es:List Expr} {m:AM} {nm:Str} {k k' n:Nat} {ps:List Str} {F:Xn} {p pos:Pos}
theorem K3(d:Hd.Dx X.prog X.w X.K X.mg X.base nm k ps n F)(hr:cD k' X.A)(hp:Passes (gX X.prog X.w) X E)(ha:SA X (e::es) m)(hk:k<=k':=by decide)(hl:jG m n:=by repeat(first | exact aD | refine ag ?_))(hg:Gl X nm:=by unfold Gl;ac_nf)(hdb:(nm==("__debug__":Str))=false:=by ac_nf)(he:starEach (e::es) X.env=(false,eval e X.env)::starEach es X.env:=by ac_nf)(hpl:(backTo pos (starEach es X.env)).any (·.1)=false:=by ac_nf):
  XE X E (.Call (.Name nm p) (e::es) [] pos) (E9 F m):=by
 obtain⟨f,fd,G,kf,bf,mf⟩:=d.ex;exact E7 G hp (hr.mono hk) hg mf kf bf ha hl hdb he hpl
end
theorem Nw{X:Cx}{E:XK}{e tg:Expr}{pos:Pos}{x:XM}{g:GM}(he:XE X E e x)(hg:SG X tg g)(hs:swapsWithSole [tg] e pos.line X.env=pure false:=by ac_nf)(hw:swappedStores [tg] e X.env=pure none:=by ac_nf)(h1:(assignEach [tg] X.env).map (·.2)=[assign tg X.env]:=by ac_nf):XS X E (.Assign [tg] e pos) x:=HB he hs hw h1 hg
section
variable {P:Program} {w:World} {K:FR} {mg:Str->Option Value} {base:Heap} {N:List Str} {qual:Str} {scope:Scope} {f:Addr} {cd:Value} {A:Around} {outer:List Env} {s₀:Shared} {H₀:Hp} {E:XK} {cl:List (Str×Addr)}
theorem pq:Passes (gX P w) (GH (gX P w) P w K mg base N qual scope cl f cd A outer s₀ H₀ E) E:=zN (fn:=λ_=>false) (cl:=cl)
theorem Nh{nm:Str}{a:Expr}{np cpos pos:Pos}{ma:EM}(O:∃C,BS mg base nm C)(ha:SE (eN (gX P w) P w K mg base N qual scope f cd A outer s₀ H₀ E) a ma)(hg:Gl (eN (gX P w) P w K mg base N qual scope f cd A outer s₀ H₀ E) nm:=by unfold Gl;ac_nf)
  (he:starEach [a] (envOfC qual scope s₀.heap.objs.size f cd)=[(false,eval a (envOfC qual scope s₀.heap.objs.size f cd))]:=by ac_nf) (hdb:(nm==("__debug__":Str))=false:=by ac_nf):
  XS (eN (gX P w) P w K mg base N qual scope f cd A outer s₀ H₀ E) E (.Raise (some (.Call (.Name nm np) [a] [] cpos)) none pos) (jW nm (af ma aH)):=by
 obtain⟨C,O⟩:=O;exact B5 O hg ha he hdb
end
section
variable {P:Program} {w:World} {K:FR} {mg:Str->Option Value} {base:Heap} {x qual:Str} {st:Stmt} {f:Addr} {fd:FuncData} {N ps:List Str} {k:Nat} {body:SM}
theorem Gz(F:rW K x qual st f fd)(hL:∃Pt,BW K mg fd.code Pt)(Sc:aE N ps (ah st))(hb:∀(cdv:Value)(A:Around)(outer:List Env)(s:Shared)(H:Hp)(E:XK),(∃Pt,BW K mg cdv Pt)->cD k (A.deeper (envOfC qual (ah st) s.heap.objs.size f cdv))->BU (eN mm P w K mg base N qual (ah st) f cdv A outer s H E).DK (cY st) body):
  dY P w K mg base mm (k+1) f fd ps (AK K ps.length (jm N.length body)):=by
 obtain⟨oc,od,kV,doc,pm,an,cdv,ct,osl,rfl,lk,hcd⟩:=F.ex;refine D3 lk hcd Sc (λvs H Q E h=>?_) λA outer s H vs Q E hr h=>?_
 ·obtain⟨ρ,h,ds,d,h',S,r,hl,_⟩:=h;rw[r.length];exact hl
 ·obtain⟨ρ,h,ds,d,h',S,r,hl,e,q⟩:=h;refine⟨_,wk.DK (hb cdv A outer s H E hL hr),?_⟩;obtain⟨⟨fl,δ1,h1⟩,e1,e2⟩:=bw e;refine⟨ρ,entry N.length ds,h,fl,δ1,h1,b8.entry N r,S,e1,λρ1 H1 T1 S1=>?_⟩;cases fl with
  | nx=>cases e2;exactλσ' R'=>q _ _ ⟨ρ1,T1,S1,.bR⟩
  | rt d=>cases e2;exactλv r=>q _ _ ⟨ρ1,T1,S1,r⟩
  | bk=>cases e2
  | ct=>cases e2
end
structure O7(P:Program)(w:World)(K:Frag)(mg:Str->Option Value)(base:Heap)(fn:Str)(mt:SM)(cls:List Str):Prop where
 ex:∃(fr CS:Addr)(fd:FuncData)(st:Stmt)(cn cau en mk:Str)(tail:List Stmt)(pa pb' pc p1 p2 p3 p4 p5 p6 p7 p8 p9:Pos)(j:Nat),rW K fn fn st fr fd/\aE [cn,cau,en,mk] [cn] (ah st)/\mg fn=some (.ref fr)/\keepIn K (.ref fr)=true/\
  (∀(s:Shared)(u:Value),BindsTo s fd ⟨[u],[]⟩ [(cn,u)])/\
  (cY st=.Assign [.Name cau pa] (.Constant .none j pb') pc::.Try [.Expr (.Call (.Name cn p1) [] [] p2) p3] [.ExceptHandler (some (.Name "StuckError" p4)) (some en) [.Assign [.Name cau p5] (.Name en p6) p7] p8] [] [] p9::tail)/\
  ((ah st).names.lookup cn=some .local/\(ah st).names.lookup cau=some .local/\(ah st).names.lookup en=some .local/\(ah st).names.lookup ("StuckError":Str)=some .globalImplicit)/\
  (mg "StuckError"=some (.ref CS)/\∀c∈cls,XC K mg CS c)/\
  ((cn==("__debug__":Str))=false/\(cn==("__classdict__":Str))=false/\(en==("__debug__":Str))=false/\(en==("__classdict__":Str))=false)/\
  ((∀env,swapsWith (.Constant .none j pb') (some (.Name cau pa)) pc.line env=pure false)/\(∀env,swapsWith (.Name en p6) (some (.Name cau p5)) p7.line env=pure false)/\(∀env,swapsWith (.Call (.Name cn p1) [] [] p2) none p3.line env=pure false))/\
  (∀(k:Nat)(cdv:Value)(A:Around)(outer:List Env)(s:Shared)(H:Hp)(E:XK),cD k (A.deeper (envOfC fn (ah st) s.heap.objs.size fr cdv))->BU (eN mm P w K mg base [cn,cau,en,mk] fn (ah st) fr cdv A outer s H E).DK tail mt)
theorem MM(fd:FuncData)(h:fd.params={posonlyargs:=[],args:=[],vararg:=none,kwonlyargs:=[],kw_defaults:=[],kwarg:=none,defaults:=[]})(h2:fd.defaults=.none)(h3:fd.kwdefaults=.none):bindArgs fd ⟨[],[]⟩=pure []:=by
 cases fd;dsimp only at h h2 h3;subst h h2 h3;rfl
theorem Fg{X:Cx}{fn:Str}{mt:SM}{k k':Nat}{x:XM}{m:EM}{Nl:List Str}{caps:List (Option Nat)}{scope:Scope}{params:Arguments}{body:Expr}{cls:List Str}{pn lpos pos:Pos}{cdv:Value}(R:O7 X.prog X.w X.K X.mg X.base fn mt cls)(hL:∃Pt,BW X.K X.mg cdv Pt)
  (hr:cD k' X.A) (hk:k+2<=k') (C:bj X Nl caps scope)
  (hx:∀(q:Str)(cd:Value)(f:Addr)(cl:List (Str×Addr)) (A:Around) (outer:List Env) (s:Shared) (H:Hp) (E:XK),cD k (A.deeper (envX q scope s.heap.objs.size f cd cl))->XE (GH (gX X.prog X.w) X.prog X.w X.K X.mg X.base Nl q scope cl f cd A outer s H E) E body x)
  (hm:∀(q:Str)(cd:Value)(f:Addr)(cl:List (Str×Addr)) (A:Around) (outer:List Env) (s:Shared) (H:Hp) (E:XK),cD k (A.deeper (envX q scope s.heap.objs.size f cd cl))->SE (GH (gX X.prog X.w) X.prog X.w X.K X.mg X.base Nl q scope cl f cd A outer s H E) body m)
  (hcd:X.env.code=cdv:=by ac_nf) (hd:defaultsOf params X.env=([],[]):=by ac_nf) (hp:∀fd:FuncData,fd.params=params->fd.defaults=.none->fd.kwdefaults=.none->bindArgs fd ⟨[],[]⟩=pure []:=by exact MM)
  (LS:rQ Nl scope:=by exact⟨rfl,rfl,rfl,by decide+kernel⟩) (hg:Gl X fn:=by unfold Gl;ac_nf) (hdb:(fn==("__debug__":Str))=false:=by ac_nf) (hst:starEach [.Lambda params body scope lpos] X.env=[(false,eval (.Lambda params body scope lpos) X.env)]:=by ac_nf):
  SE X (.Call (.Name fn pn) [.Lambda params body scope lpos] [] pos) (cc cls caps mt x m):=by
 obtain⟨fr,CS,fd,st,cn,cau,en,mk,tail,pa,pb',pc,p1,p2,p3,p4,p5,p6,p7,p8,p9,j,F,Sc,hmf,hkf,hb,hbody,⟨l0,l1,l2,lg⟩,⟨hms,hC⟩,⟨n0,n0',n2,n2'⟩,⟨s1,s2,s3⟩,ht⟩:=R.ex;obtain⟨Pt,L⟩:=hL;rw[<-hcd] at L;exact yd F Sc hmf hkf hb hbody l0 l1 l2 lg hms hC n0 n0' n2 n2' s1 s2 s3 (λcdv A outer s H E hr=>ht _ cdv A outer s H E hr) (hr.mono hk) L hd hp LS C hx hm hg hdb hst
section
variable {X:Cx} {a:Expr} {m:EM} {tb:List (Str×List Str)} {ns:List Str} {n:Str} {pn pb pos:Pos}
theorem CC(E:EX X.K X.mg tb ns)(hm:X.mg "isinstance"=none)(ha:SE X a m)(h0:tb.isEmpty=false:=by ac_nf)(hn:n∈ns:=by decide+kernel)(hgn:Gl X n:=by unfold Gl;ac_nf)(hg:Gl X "isinstance":=by unfold Gl;ac_nf)(hd:(n==("__debug__":Str))=false:=by ac_nf)
  (he:starEach [a,.Name n pb] X.env=(false,eval a X.env)::starEach [.Name n pb] X.env:=by ac_nf) (he2:starEach [.Name n pb] X.env=[(false,eval (.Name n pb) X.env)]:=by ac_nf) (hpl:(backTo pos (starEach [.Name n pb] X.env)).any (·.1)=false:=by ac_nf):SE X (.Call (.Name "isinstance" pn) [a,.Name n pb] [] pos) (ku tb n m):=
 Ii E ha (by cases tb with | nil=>cases h0 | cons p r=>obtain⟨c0,a0⟩:=p;exact⟨c0,a0,by simp[Qu]⟩) hn hgn hg hm hd he he2 hpl
theorem LB(E:EX X.K X.mg tb ns)(hm:X.mg "isinstance"=none)(hmn:X.mg "ValueError"=none)(ha:SE X a m)(hv:∀c as,tb.lookup c=some as->decide (("ValueError":Str)∈as)=true)(hgn:Gl X "ValueError":=by unfold Gl;ac_nf)(hg:Gl X "isinstance":=by unfold Gl;ac_nf)
  (he:starEach [a,.Name "ValueError" pb] X.env=(false,eval a X.env)::starEach [.Name "ValueError" pb] X.env:=by ac_nf) (he2:starEach [.Name "ValueError" pb] X.env=[(false,eval (.Name "ValueError" pb) X.env)]:=by ac_nf) (hpl:(backTo pos (starEach [.Name "ValueError" pb] X.env)).any (·.1)=false:=by ac_nf):
  SE X (.Call (.Name "isinstance" pn) [a,.Name "ValueError" pb] [] pos) (ku tb "ValueError" m):=Ft E ha hv hgn hmn hg hm he he2 hpl
theorem Pm(h:tb.all (λp=>decide (("ValueError":Str)∈p.2))=true):∀c as,tb.lookup c=some as->decide (("ValueError":Str)∈as)=true:=λc as e=>R9.mp h _ (Qs e)
end
end Sm
namespace Hd
open PySem PySem.W PySem.Spec PyProof.Rows L2 Sm
theorem NZ{q:Program}{loose:List Str}{mean:ExcName->Option Value}{mg mb:Str->Option Value}{h:Heap}{tb:List (Str×List Str)}{ns cls:List Str}(T:Top q loose mean mg mb h)(Y:oW h (tb.map (·.1)) ns=xt tb ns)(hS:specOf q "StuckError"=some ("ValueError.__new__",Cm))(hn:("StuckError":Str)∈ns)
  (hc:∀c∈cls,specOf q c=some ("ValueError.__new__",Cm)/\∃as,tb.lookup c=some as/\("StuckError":Str)∈as):∃CS,mg "StuckError"=some (.ref CS)/\∀c∈cls,XC (aC h) mg CS c:=by
 obtain⟨CS,O,_⟩:=T.ownAt hS;exact⟨CS,O.bound,λc hcm=>K4 T Y O.bound hS hn (hc c hcm).1 (hc c hcm).2⟩
end Hd
namespace Sb
open PySem L2 PySem.Spec PyProof.Rows
open Sem (wp)
section
variable {prog:Program} {w:World} {A:Around} {R:Result->Shared->Prop} {I:Addr} {fp wr:List Addr} {n:Nat} {P:Nat->Value->Prop} {St:Nat->Heap->Prop} {kw:List (Str×Value)}
theorem Be(W:Walks prog w A.in1 I fp wr n P St)(bt:Nat->Nat->Bool)(hcmp:CmpOf prog w A.in1 .Gt P bt)(S:Addr)(hSf:S∉fp):
  ∀(k j:Nat)(s:Shared)(vb:Value)(c:Nat),n-(j+1)=k->j+1<=n->St (j+1) s.heap->P (argBest bt j) vb->
  s.heap.get? S=some {cls:=.type "list",dict:=none,data:=.seq #[vb,vb] c,slots:=#[]}->
  (∀v h' tk,P (argBest bt (n-1)) v->(∀b o,b∉wr->b≠S->s.heap.get? b=some o->h'.get? b=some o)->R (.ok (.ret v)) {s with heap:=h',toks:=tk})->
  codeAny (model prog w) A (.builtin "max.loop" ⟨[.ref I,.none,.ref S],kw⟩) R s:=by
 have hSw:S∉wr:=λh=>hSf (W.sub _ h);have hname:(toString "max"++toString ".loop":String)="max.loop":=by decide
 intro k
 induction k with
 | zero=>
  intro j s vb c hk hj hst hPb hS hR;have hin:j+1=n:=by lia
  refine Tg Ud ?_;rw[Tq Ru _];show wpAny _ A.in1 (seqItems? (.ref S) >>=_) _ _ s;refine PD (Sv hS rfl ?_);show wpAny _ A.in1 (tryCatch (pyNext (.ref I)) _ >>=_) _ _ s;refine PD (Su (W.done s _ _ (hin ▸ hst) λh' tk hk'=>?_));have hS':=hk' S _ hSw hS;show wpAny _ A.in1 (updateSeq S (λ_=>#[]) >>=_) _ _ _;refine PD ?_;refine Uq hS' rfl (PD (Tp (PX ?_)));refine hR vb _ tk (by rw[<-hin];exact hPb) λb o hbw hbS e=>(QR _ _ (Q2 hbS)).trans (hk' b o hbw e)
 | succ k ih=>
  intro j s vb c hk hj hst hPb hS hR;have hlt:j+1 < n:=by lia
  refine Tg Ud ?_;rw[Tq Ru _];show wpAny _ A.in1 (seqItems? (.ref S) >>=_) _ _ s;refine PD (Sv hS rfl ?_);show wpAny _ A.in1 (tryCatch (pyNext (.ref I)) _ >>=_) _ _ s;refine PD (Su (W.item (j+1) s _ _ hlt hst λv h' tk hP hst' hk'=>?_));have hS':=hk' S _ hSw hS;show wpAny _ A.in1 (tryCatch (holding [v,v] (richCompare .Gt v vb >>=_)) _ >>=_) _ _ _;refine PD (Su (Q0 (PD (hcmp (j+1) (argBest bt j) v vb _ _ _ hP hPb ?_))));refine PD (Q0 (QQ ?_));refine PD (Tp (PX ?_));cases hb:bt (j+1) (argBest bt j) with
  | true=>
   simp only[Sg];refine PD ?_;refine Uq hS' rfl (PD (Tp ?_));rw[hname];refine PX ⟨TF Ru _,ih (j+1) _ v _ (by lia) hlt (W.frame _ _ _ hst' λb hbf o e=>?_) (by simp only[argBest,hb,Sg];exact hP) (Sf _ hS' rfl)
    λv' h'' tk'' hP' hk''=>?_⟩
   ·exact(QR _ _ (λh:S=b=>hSf (by rw[h];exact hbf))).trans e
   ·exact hR v' h'' tk'' hP' λb o hbw hbS e=>hk'' b o hbw hbS ((QR _ _ (Q2 hbS)).trans (hk' b o hbw e))
  | false=>
   simp only[UR,Tn];refine PD (Tp ?_);rw[hname];refine PX ⟨TF Ru _,ih (j+1) _ vb c (by lia) hlt hst' (by simp only[argBest,hb,UR,Tn];exact hPb) hS' λv' h'' tk'' hP' hk''=>?_⟩;exact hR v' h'' tk'' hP' λb o hbw hbS e=>hk'' b o hbw hbS (hk' b o hbw e)
theorem yG(W:Walks prog w A.in1 I fp wr n P St)(bt:Nat->Nat->Bool)(hcmp:CmpOf prog w A.in1 .Gt P bt)(S:Addr)(hSf:S∉fp){s:Shared}{c:Nat}{dv:Value}{dk:Str}(hst:St 0 s.heap)
  (hS:s.heap.get? S=some {cls:=.type "list",dict:=none,data:=.seq #[] c,slots:=#[]})
  (hR:∀v h' tk,(0 < n->P (argBest bt (n-1)) v)->(n=0->v=dv)->(∀b o,b∉wr->b≠S->s.heap.get? b=some o->h'.get? b=some o)->R (.ok (.ret v)) {s with heap:=h',toks:=tk}):
  codeAny (model prog w) A (.builtin "max.loop" ⟨[.ref I,.none,.ref S],[(dk,dv)]⟩) R s:=by
 have hSw:S∉wr:=λh=>hSf (W.sub _ h);have hname:(toString "max"++toString ".loop":String)="max.loop":=by decide
 refine Tg Ud ?_;rw[Tq Ru _];show wpAny _ A.in1 (seqItems? (.ref S) >>=_) _ _ s;refine PD (Sv hS rfl ?_);show wpAny _ A.in1 (tryCatch (pyNext (.ref I)) _ >>=_) _ _ s
 by_cases hn:0 < n
 ·refine PD (Su (W.item 0 s _ _ hn hst λv h' tk hP hst' hk'=>?_));have hS':=hk' S _ hSw hS;show wpAny _ A.in1 (updateSeq S (λ_=>#[v,v]) >>=_) _ _ _;refine PD ?_;refine Uq hS' rfl ?_;rw[hname];refine PX ⟨TF Ru _,Be W bt hcmp S hSf _ 0 _ v _ rfl hn (W.frame _ _ _ hst' λb hbf o e=>?_) hP (Sf _ hS' rfl) λv' h'' tk'' hP' hk''=>?_⟩
  ·exact(QR _ _ (λh:S=b=>hSf (by rw[h];exact hbf))).trans e
  ·exact hR v' h'' tk'' (λ_=>hP') (λz=>absurd z (by lia)) λb o hbw hbS e=>hk'' b o hbw hbS ((QR _ _ (Q2 hbS)).trans (hk' b o hbw e))
 ·obtain rfl:n=0:=by lia
  refine PD (Su (W.done s _ _ hst λh' tk hk'=>?_));show wpAny _ A.in1 (rule _ >>=_) _ _ _;refine PD (RY (PX ?_));exact hR dv h' tk (λz=>absurd z (Q4 _)) (λ_=>rfl) λb o hbw hbS e=>hk' b o hbw e
end
theorem oB(val:Nat->Int):∀k,val (argBest (λi j=>decide (val i > val j)) k)=((List.range k).map λi=>val (i+1)).foldl max (val 0)
 | 0=>rfl
 | k+1=>by
  rw[List.range_succ,Qf,List.foldl_append,<-oB val k];show val (if decide (val (k+1) > val (argBest _ k))=true then k+1 else argBest _ k)=max (val (argBest _ k)) (val (k+1))
  by_cases z:val (k+1) > val (argBest (λi j=>decide (val i > val j)) k)
  ·rw[PL (Qj z)];lia
  ·rw[P0 (by simpa using z)];lia
noncomputable def vt(d:Int):List Int->Int
 | []=>d
 | n::r=>r.foldl max n
section
variable {prog:Program} {w:World} {A:Around} {E:Value->Shared->Prop} {s:Shared} {l:Addr} {xs:Array (Int×Tok)}
theorem BQ(a v:Value):argsOk "max" ⟨[a],[(Str.ofString "default",v)]⟩:=by unfold argsOk;ac_nf
theorem Bf{dv:Value}{Q:Value->Shared->Prop}(hh:A.handled=none)(hl:s.heap.IsList l (intItems xs))
  (h:∀v h' tk,(0 < xs.size->(intItems xs)[argBest (λi j=>decide (numAt xs i > numAt xs j)) (xs.size-1)]?=some v)->(xs.size=0->v=dv)->(∀b o,s.heap.get? b=some o->h'.get? b=some o)->Q v {s with heap:=h',toks:=tk}):
  wpAny (model prog w) A (call (.builtin "max") [.ref l] [(Str.ofString "default",dv)]) Q E s:=by
 have hname:(toString "max"++toString ".loop":String)="max.loop":=by decide
 refine kmk_tree PySem.F.kind_max PySem.F.plain_max PySem.F.entry_max (BQ _ _) ?_;show wpAny _ A.in1 (Builtin.Builtins.bindParams "max" ["key","default"] 0 ⟨[],[(Str.ofString "default",dv)]⟩ >>=_) _ _ s;refine PD (wpAny_of_eq (show Builtin.Builtins.bindParams "max" ["key","default"] 0 ⟨[],[(Str.ofString "default",dv)]⟩=pure [none,some dv] from rfl) ?_);refine PD (PX ?_);refine PD (iter_intList hl λs₂ e st hfp hlI=>?_);subst e;refine PD (QH ?_);have W:=Walks.list (prog:=prog) (w:=w) (A:=A.in1) hh s.heap.objs.size l hlI (intItems xs);have hSf:(s.heap.push {cls:=.type "list_iterator",data:=.fields #[.ref l,.int 0 0]}).objs.size∉[s.heap.objs.size,l]:=λhm=>Q4 _ (hfp _ hm);rw[hname];have hsz:(intItems xs).size=xs.size:=by simp[intItems]
 refine PX ⟨TF Ru _,yG W _ (CmpOf.ints_gt (numAt xs) (λ_ _=>intItems_at)) _ hSf (W.frame _ _ _ st λb _ o e=>PN _ e) (Qk _ rfl) λv h' tk h1 h2 hk=>?_⟩;refine h v h' tk (λz=>by simpa [intItems] using h1 (by simpa [intItems] using z)) (λz=>h2 (by simpa [intItems] using z)) (old_kept λb o hb e=>hk b o hb (Qe (P2 e)) (PN _ e))
end
theorem GS{M:Model}{A:Around}{E:Value->Shared->Prop}{s:Shared}{pos:Pos}{T:String}{first:List Value}{args:List (Bool×Sem Value)}{kws:List (Option Str×Sem Value)}{Q:Value->Shared->Prop}(hpl:(args.any (·.1)||kws.any (·.1.isNone))=false)
  (h:wpAny M A (evalArgs (.builtin T) true args kws) (λa s1=>wpAny M A (call (.builtin T) (first++a.pos) a.kw) Q E s1) E s):wpAny M A (callWith pos (.builtin T) first args kws) Q E s:=by
 unfold callWith;refine PD (Q0 (Qo h (λa s1 h1=>PD (QP ?_)) λ_ _ x=>x));simp only[hpl];refine PD (PX ?_);exact PD (Qo h1 (λr s2 hr=>PD (Q0 (wpAny_point (PX hr)))) λ_ _ x=>x)
theorem DM{ns:List Int}{d:Int}(hn:0 < ns.length)(val:Nat->Int)(hv:∀i n,ns[i]?=some n->val i=n):val (argBest (λi j=>decide (val i > val j)) (ns.length-1))=vt d ns:=by
 cases ns with
 | nil=>exact absurd hn (Q4 _)
 | cons n r=>
  rw[oB val];show _=r.foldl max n;rw[hv 0 n rfl];congr 1;refine TB λi=>?_;rw[P8,P1,Nat.add_sub_cancel]
  by_cases z:i < r.length
  ·rw[UL z,P7 z];exact congrArg some (hv (i+1) _ (P7 z))
  ·rw[QC (by rw[Qy];lia),QC (by lia)];rfl
section
variable {X:Cx}
theorem F6{tk:TE}{a kx:Expr}{p pos kp:Pos}{ta:TA}(hc:X.calm=true)(hg:Gl X "max")(hm:X.mg "max"=none)(ha:PA X [a] ta)(hk:PE X kx tk)(hs:starEach [a] X.env=[(false,eval a X.env)]:=by ac_nf):
  PE X (.Call (.Name "max" p) [a] [⟨some "default",kx,kp⟩] pos) (λσ H Q=>ta σ H λvs H1=>tk σ H1 λd H2=>∃l ns i,vs=[.ref l]/\fV X.K H2 l (ns.map V.int)/\d=.int i/\Q (.int (vt i ns)) H2):=by
 intro pins s σ H Q I h;refine QZ (iW I hg hm boot_max ?_);refine GS (by rw[hs];rfl) (PyProof.Rows.evalArgs_kw2 rfl (cm (ha pos pins s σ H _ I h) λus s1 ⟨vs,H1,I1,r1,q1⟩=>cm (FZ hk IP pos pins s1 σ H1 (λzs H2=>match zs with | [d]=>∃l ns i,vs=[.ref l]/\fV X.K H2 l (ns.map V.int)/\d=.int i/\Q (.int (vt i ns)) H2 | _=>False) I1 q1) λws s2 ⟨zs,H2,I2,rz,q2⟩=>?_) hs)
 ·match zs,q2,rz with
  | [d],⟨l,ns,i,e2,hq,e3,q⟩,rz=>
  subst e2 e3;obtain⟨u,rfl,ru⟩:=Vals.one r1;obtain rfl:u=Value.ref l:=ru;obtain⟨v,rfl,rv0⟩:=Vals.one rz;obtain⟨t0,rfl⟩:∃t0,v=Value.int i t0:=rv0;obtain⟨its,rv,p,hz⟩:=I2.list hq;obtain⟨ps,rfl,e⟩:=pK rv;have hlen:ps.length=ns.length:=by rw[<-e,PC]
  have hnum:∀(i:Nat) n,ns[i]?=some n->numAt ps.toArray i=n:=λi n hi=>by
   unfold numAt;rw[<-e,P8] at hi;rw[List.getElem?_toArray,hi];rfl
  have hI:s2.heap.IsList l (intItems ps.toArray):=by
   have:intItems ps.toArray=(ps.map λp=>Value.int p.1 p.2).toArray:=by unfold intItems;simp
   rw[this];exact p.isList
  refine Bf (xs:=ps.toArray) (I2.ok.hd hc) hI λv h' tk h1 h2 k=>⟨.int (vt i ns),H2,I2.kept (t':=tk) k,?_,q⟩
  by_cases z:0 < ns.length
  ·obtain⟨t1,ht⟩:=intItems_at (h1 (by simpa [hlen] using z));refine⟨t1,ht.trans ?_⟩;rw[show ps.toArray.size=ns.length by simpa using hlen,DM (d:=i) z _ hnum]
  ·have hn:ns=[]:=Up.mp (by lia);subst hn;exact⟨t0,h2 (by simpa using hlen)⟩
end
end Sb
namespace Sm
open PySem L2 PySem.Spec PyProof.Rows
noncomputable def Hl(d e:D)(h:MH):Option (D×MH):=(dw d h).bind λxs=>match e with
 | .int i=>(lH xs).map λns=>(.int (Sb.vt i ns),h)
 | _=>none
noncomputable def Ei(m:AM)(mk:EM):EM:=λδ h=>(m δ h).bind λp=>match p.1 with
 | [d]=>(mk δ p.2).bind λq=>Hl d q.1 q.2
 | _=>none
theorem Fs{X:Cx}{a kx:Expr}{p pos kp:Pos}{m:AM}{mk:EM}(hc:X.calm=true)(hg:Gl X "max")(hm:X.mg "max"=none)(ha:SA X [a] m)(hl:jG m 1)(hk:SE X kx mk)(hs:starEach [a] X.env=[(false,eval a X.env)]:=by ac_nf):SE X (.Call (.Name "max" p) [a] [⟨some "default",kx,kp⟩] pos) (Ei m mk):=
 (Sb.F6 hc hg hm ha hk hs).imp λσ H Q ⟨ρ,δ,h,d0,h',R,S,e,k⟩=>by
  obtain⟨⟨ds,h1⟩,e1,e2⟩:=bw e;refine⟨ρ,δ,h,ds,h1,R,S,e1,λvs ρ1 H1 T1 S1 r1=>?_⟩
  match ds,hl _ _ _ _ e1,e2,r1 with
  | [d],_,e2,r1=>
   obtain⟨⟨e',h2⟩,e3,e4⟩:=bw e2;obtain⟨v,rfl,rd⟩:=rep1 r1;refine⟨ρ1,δ,h1,e',h2,R.mono T1.toCh,S1,e3,λu H2 ⟨ρ2,T2,S2,r2⟩=>?_⟩;obtain⟨xs,e5,e6⟩:=bw e4;cases r2 <;> first |(exact bV e6) | skip
   obtain⟨ns,e7,e8⟩:=gf e6;cases e8;obtain⟨a,vs,rfl,ha,la⟩:=dm S2 (rd.mono T2.toCh) e5;have:=qS e7;subst this;have:=qh la;subst this;exact⟨a,ns,_,rfl,fV.of ha,rfl,k _ _ (cT.step (T1.trans T2) (.here S2 (.int _)))⟩
end Sm
namespace L2
open PySem PySem.Spec PyProof.Rows Builtin.Str
end L2
namespace Sm
open PySem L2 PySem.Spec PyProof.Rows
end Sm
namespace Pg
open PySem Sm L2
abbrev Term:=Str×Int
abbrev Lock:=Str×Term
inductive Row where
 | say (w:Str)
 | call (d:Str) (ts:List Term)
 | within (l:Lock) (b:List Row)
 | all (ls:List Lock) (b:List Row)
 | ask (l:Lock) (b e:List Row)
 | nv (s t:Term) (a b c:List Row)
 | either (a b:List Row)
 | again (a:List Row)
noncomputable def bq(t:Term):D:=.tup [.str t.1,.int t.2]
noncomputable def aJ(l:Lock):D:=.tup [.str l.1,bq l.2]
mutual
noncomputable def ax:Row->D
 | .say w=>.tup [.str "say",.str w]
 | .call d ts=>.tup [.str "call",.str d,.tup (ts.map bq)]
 | .within l b=>.tup [.str "within",aJ l,.tup (b7 b)]
 | .all ls b=>.tup [.str "all",.tup (ls.map aJ),.tup (b7 b)]
 | .ask l b e=>.tup [.str "ask",aJ l,.tup (b7 b),.tup (b7 e)]
 | .nv s t a b c=>.tup [.str "by",bq s,bq t,.tup (b7 a),.tup (b7 b),.tup (b7 c)]
 | .either a b=>.tup [.str "either",.tup (b7 a),.tup (b7 b)]
 | .again a=>.tup [.str "again",.tup (b7 a)]
noncomputable def b7:List Row->List D
 | []=>[]
 | r::rs=>ax r::b7 rs
end
theorem aX:∀l:List Row,b7 l=l.map ax
 | []=>by simp[b7]
 | r::rs=>by simp[b7,aX rs]
mutual
noncomputable def cnt:Row->Nat
 | .say _=>1
 | .call _ _=>1
 | .within _ b=>1+aB b
 | .all _ b=>1+aB b
 | .ask _ b e=>1+aB b+aB e
 | .nv _ _ a b c=>1+aB a+aB b+aB c
 | .either a b=>1+aB a+aB b
 | .again a=>1+aB a
noncomputable def aB:List Row->Nat
 | []=>0
 | r::rs=>cnt r+aB rs
end
theorem lS:∀a b:List Row,aB (a++b)=aB a+aB b
 | [],b=>by simp[aB]
 | r::a,b=>by simp[aB,lS a b];lia
theorem lR:∀a:List Row,a.length<=aB a
 | []=>by simp
 | r::a=>by
  have:=lR a;have:1<=cnt r:=by cases r <;> simp[cnt] <;> lia
  simp[aB];lia
structure Wd where
 names:List Str
 aj:List Str
 params:List (List Str)
def eB(ps:List Str)(t:Term):Prop:=(t.1=Str.ofString ""\/t.1∈ps)/\-99<=t.2/\t.2<=99
def fu(W:Wd)(ps:List Str)(l:Lock):Prop:=l.1∈W.names/\eB ps l.2
mutual
def bE(W:Wd)(ps:List Str):Nat->Row->Prop
 | _,.say w=>w∈W.names++W.aj
 | _,.call d ts=>(∃(j:Nat)(qs:List Str),W.aj[j]?=some d/\W.params[j]?=some qs/\ts.length=qs.length)/\∀t∈ts,eB ps t
 | n,.within l b=>fu W ps l/\n < 5/\b.length<=12/\bP W ps (n+1) b
 | n,.all ls b=>(2<=ls.length/\ls.length<=4/\ls.Nodup/\∀l∈ls,fu W ps l)/\n < 5/\b.length<=12/\bP W ps (n+1) b
 | n,.ask l b e=>fu W ps l/\n < 5/\b.length<=12/\e.length<=12/\bP W ps (n+1) b/\bP W ps (n+1) e
 | n,.nv s t a b c=>eB ps s/\eB ps t/\n < 5/\a.length<=12/\b.length<=12/\c.length<=12/\bP W ps (n+1) a/\bP W ps (n+1) b/\bP W ps (n+1) c
 | n,.either a b=>n < 5/\a.length<=12/\b.length<=12/\bP W ps (n+1) a/\bP W ps (n+1) b
 | n,.again a=>n < 5/\a.length<=12/\bP W ps (n+1) a
def bP(W:Wd)(ps:List Str):Nat->List Row->Prop
 | _,[]=>True
 | n,r::rs=>bE W ps n r/\bP W ps n rs
end
theorem tE{W:Wd}{ps:List Str}{n:Nat}:∀{a b:List Row},bP W ps n a->bP W ps n b->bP W ps n (a++b)
 | [],b,_,h=>h
 | r::a,b,h,h'=>by
  unfold bP at h;show bP W ps n (r::(a++b));unfold bP;exact⟨h.1,tE h.2 h'⟩
theorem tD{W:Wd}{ps:List Str}{n:Nat}:∀{a:List Row},bP W ps n a->∀r∈a,bE W ps n r
 | [],_,_,z=>by cases z
 | r::a,h,x,hx=>by
  unfold bP at h;rcases PZ.mp hx with rfl | hx
  ·exact h.1
  ·exact tD h.2 x hx
end Pg
set_option hygiene false in
local macro_rules | `(tactic| ac_rfl) => do {let t <- (("|Sm.sv _|Sm.aM|Sm.aq|Sm.aa ? ?|Sm.ae ? ?|Sm.aG ?|Sm.bG ?|Sm.sset _ @ ?|Sm.bX ? ? ?|Sm.bx|Sm.six hr ? ?|Sm.fk @ hr ?|Sm.bo|Sm.ye|Sm.G9|Sm.NO ?|Sm.NP ?|Sm.NM ?|Sm.NQ ?|Sm.stp4 ?|Sm.stp5 ?|Sm.NL ?|Sm.Lz ? ? ?|Sm.aW ? ? ?|Sm.bg|Sm.Jd hr.units|Sm.mU hr.units|Sm.DE|Sm.zO|Sm.wR|Sm.wU|Sm.Jc|Sm.os_notN|Sm.L9 hr.units|Sm.DD hr.units|Sm.DC|Sm.qz|Sm.CD Sm.xW ?|Sm.CG ? ? ?|Sm.zw|Sm.zv ?|Sm.fG ? ?|Sm.uE rfl ?|Sm.dP ? ?|Sm.pf|Sm.sgn _ @|Sm.yf Sm.rq B.xI Sm.rL ?|Sm.KQ Sm.rp B.pF Sm.lU ?|Sm.ux ?|Sm.mE ?|Sm.se_if ? ? ?|Sm.je ?|Sm.pT Sm.gY PySem.F.plainAttrs_list PySem.F.slot_list_append PySem.F.type_list_append Sm.jn ? ?|Sm.se_m0 Sm.gY PySem.F.plainAttrs_list PySem.F.slot_list_pop PySem.F.type_list_pop Sm.mS_pop ?|Sm.jF.lv ?|Sm.jF.ob ?|Sm.NY ?|Sm.NX ?|Sm.NW ?|Sm.NV ?|Sm.NU ?|Sm.NT ?|Sm.sfl6 ?|Sm.sfl7 ?|Sm.NS ?|Sm.Cv ? ?|Sm.zr ? ?|Sm.zt ?|Sm.yc ?|Sm.cz PassesOwn.never rfl ? ? ?|Sm.fh ?|Sm.ss_brk|Sm.yf Sm.Ka~rfl B.Ht Sm.Ko ?|Sm.yf Sm.JZ~rfl B.MN Sm.Kn ?|Sm.KQ Sm.Kb B.Hu Sm.EF ?|Sm.yf Sm.Kc B.MP Sm.Kp ?|Sm.LD ? ? ?|Sm.SW.st ?".splitOn "|").drop 1).toArray.mapM (λl => do {let x <- (l.splitOn " ").toArray.mapM (λz => if z == "?" then `(?_) else if z == "_" then `(_) else if z == "@" then `(‹_›) else(let y := (z.splitOn "~").toArray.map (λw => (Lean.mkIdent w.toName : Lean.TSyntax `term));pure (Lean.Syntax.mkApp y[0]! (y.extract 1 y.size))));`(Lean.Parser.Tactic.tacticSeq| refine $(Lean.Syntax.mkApp x[0]! (x.extract 1 x.size)) <;> ac_rfl)});`(tactic| with_reducible first $[| $t]*)}
local macro_rules | `(tactic| walk_at "v") => `(tactic|(conv => arg 2;whnf))
local macro_rules | `(tactic| walk_at "u") => `(tactic|(walk_at "v";ac_rfl))
namespace Mi
open PySem L2 Sm PySem.Spec PyProof.Rows
local macro_rules | `(tactic| walk_at "b") => `(tactic| first | exactλF => F.binds λ_ _ _ _ _ _ => Hd.u1 (λ_ => rfl) | exactλF => F.binds λ_ _ _ _ _ _ => Hd.u2 (λ_ _ => rfl) | exactλF => F.binds λ_ _ _ _ _ _ => Hd.u3 (λ_ _ _ => rfl) | exactλF => F.binds λ_ _ _ _ _ _ => Hd.u4 (λ_ _ _ _ => rfl) | exactλF => F.binds λ_ _ _ _ _ _ => Hd.u5 (λ_ _ _ _ _ => rfl) | exactλF => F.binds λ_ _ _ _ _ _ => Hd.u6 (λ_ _ _ _ _ _ => rfl) | exactλF => F.binds λ_ _ _ _ _ _ => Hd.u7 (λ_ _ _ _ _ _ _ => rfl))
structure Bs(P:Program)(w:World)(K:FR)(mg:Str->Option Value):Prop where
 vZ:mg "ValueError"=none
 MP:mg "abs"=none
 Kr:mg "bool"=none
 dD:mg "enumerate"=none
 Hu:mg "int"=none
 bA:mg "isinstance"=none
 xI:mg "len"=none
 EI:mg "list"=none
 Ht:mg "max"=none
 MN:mg "min"=none
 eV:mg "range"=none
 xH:mg "sorted"=none
 As:mg "str"=none
 pF:mg "tuple"=none
 jb:Nb mg "MOST_DEEP" (.int (5))
 ja:Nb mg "MOST_ROWS" (.int (60))
 jU:Nb mg "MOST_FIGURE" (.int (99))
 xN:Tab P w K mg "SHAPES" eg
 K1:EX K mg eX oU
 S_:∃CS,mg "StuckError"=some (.ref CS)/\∀c∈iy,XC K mg CS c
abbrev Rc(x:Str)(s:Stmt):Prop:=(recsOf view).find? (λe=>e.name==x)=some (Hd.k8 x s)
abbrev kU:Stmt:=top 27
abbrev lu:List Str:=["_law_script"]
theorem rZ:aE ["_law_script"] lu (ah kU):=by walk_at "s"
theorem qk:Rc "_law_drawn" kU:=by ac_nf
noncomputable def fE:Fn:=jm 1
  (bc (yX (a3 (ki 0) (yX (EO (a1 (iE v0 we (wg (ki 63)))))) (ki 0))))
abbrev nM:Stmt:=top 28
abbrev n4:List Str:=["_law_state"]
theorem g5:aE ["_law_state","_law_cells","_law_tour","_law_cell","_law_mixed"] n4 (ah nM):=by walk_at "s"
theorem si:Rc "_law_load" nM:=by ac_nf
noncomputable def i7:Fn:=jm 5
  (ar (aR 1 (ao aV v0 (ki 1)))
  (ar (aR 2 (ao aV v0 (ki 2)))
  (ar (fT (ao aw v2 (ki 1)) (sE v0 (ki 2)))
  (ar (aR 3 (ki 0))
  (ar (fC (aI (ao jE v1 (eL aH))) (aR 3 (ao aV v1 (ao q9 v2 (ak ck (a1 v1))))) bY)
  (fC (oN (aI (ao BZ v2 (ak ck (a1 v1)))) (aI (ao GF (ak JQ (a1 v3)) (ao Ea (ki 10) (ki 18))))) (fT (ak JQ (a1 v3)) (sE v0 (ki 0))) (ar (aR 4 (ao q9 (ao gQ (ao aw (ao aw (ao q9 v3 (ki 2305843009213693951)) (ao gQ (ao gQ (ki 7919) v2) v2)) (ki 11)) (ki 48271)) (ki 2305843009213693951)))
  (ar (aR 4 (ao q9 (ao gQ v4 v4) (ki 2305843009213693921)))
  (fT (ao aw (ao q9 (ao aw (ao aw (ao gQ v4 (ki 69621)) v2) (ki 104729)) (ki 2305843009213693951)) (ao Ea (ki 10) (ki 9))) (sE v0 (ki 0)))))))))))
abbrev nJ:Stmt:=top 29
abbrev nY:List Str:=["_law_state","_law_many"]
theorem uJ:aE ["_law_state","_law_many","_law_found"] nY (ah nJ):=by walk_at "s"
theorem sg:Rc "_law_next" nJ:=by ac_nf
noncomputable def aT:Fn:=jm 3
  (ar (fC (aI (ao BZ (ao aV v0 (ki 0)) v1)) (iu (ak i7 (a1 v0))) bY)
  (ar (aR 2 (ao q9 (ao aV v0 (ki 0)) v1))
  (ar (fT (ao vH (ao aV v0 (ki 0)) v1) (sE v0 (ki 0)))
  (bc v2))))
abbrev sT:Stmt:=top 30
abbrev tx:List Str:=["_law_state","_law_some"]
theorem yk:aE ["_law_state","_law_some"] tx (ah sT):=by walk_at "s"
theorem wJ:Rc "_law_of" sT:=by ac_nf
noncomputable def aL:Fn:=jm 2
  (bc (ao aV v1 (ak aT (a2 v0 (ak ck (a1 v1))))))
abbrev kT:Stmt:=top 31
abbrev lr:List Str:=["_law_state","_law_many"]
theorem jI:aE ["_law_state","_law_many","_law_letters","_law_stem","_law_k","_law_at","_law_first","_law_stride"] lr (ah kT):=by walk_at "s"
theorem qj:Rc "_law_words" kT:=by ac_nf
noncomputable def dW:Fn:=jm 8
  (ar (aR 2 (ks "abcdefghijklmnopqrstuvwxyz"))
  (ar (aR 3 (ks ""))
  (ar (gp (qT (a1 (ak aL (a2 v0 (eK (.lv [.int 0,.int 1,.int 1,.int 2,.int 3,.int 6])))))) (gN 4) (aR 3 (ao aw v3 (ao aV v2 (ak aT (a2 v0 (ki 26)))))))
  (ar (aR 5 (ak aT (a2 v0 (ao aw (ak ck (a1 v3)) (ki 1)))))
  (ar (aR 6 (ak aT (a2 v0 (ki 26))))
  (ar (aR 7 (ak aL (a2 v0 (eK (.lv [.int 1,.int 3,.int 5,.int 7,.int 9,.int 11])))))
  (bc (eL (cZ [none,some 5,some 6,some 2,some 3,some 7] (qT (a1 v1)) (gN 0) cx (ao aw (ao aw (iE v4 we (wg v1)) (ao aV v3 (ao q9 (ao aw v2 (ao gQ v5 v0)) (ki 26)))) (iE v4 (wg v1) we)))))))))))
abbrev kS:Stmt:=top 32
abbrev lq:List Str:=["_law_state","_law_most","_law_odd"]
theorem cI:aE ["_law_state","_law_most","_law_odd","_law_names","_law_deeds","_law_params","_law_many","_law_floors"] lq (ah kS):=by walk_at "s"
theorem qi:Rc "_law_world" kS:=by ac_nf
noncomputable def ik:Fn:=jm 8
  (ar (aR 3 (ak dW (a2 v0 (ak aL (a2 v0 (eK (.lv [.int 1,.int 2,.int 2,.int 3,.int 4,.int 6])))))))
  (ar (aR 4 (ak dW (a2 v0 (ak aL (a2 v0 (eK (.lv [.int 1,.int 1,.int 2,.int 2,.int 3,.int 4,.int 6])))))))
  (ar (aR 5 (ak dW (a2 v0 (ki 3))))
  (ar (aR 6 (eL (cZ [none,some 0] (dc v4) (gN 0) cx (ak aL (a2 v1 (eK (.lv [.int 0,.int 1,.int 1,.int 2,.int 2,.int 3])))))))
  (ar (aR 7 (ak D9 (a1 (eL (cZ [none,some 3,some 0] (dc v4) (gN 0) cx (ak aT (a2 v2 (ak ck (a1 v1)))))))))
  (ar (aR 5 (eL (cZ [none,some 5] (dc v6) (gN 0) cx (iE v1 we (wg v0)))))
  (bc (yY (dZ (ks "names") v3 (dZ (ks "deeds") v4 (dZ (ks "params") v5 (dZ (ks "floors") v7 (dZ (ks "left") v1 (dZ (ks "odd") v2 F9))))))))))))))
abbrev jL:Stmt:=top 33
abbrev jO:List Str:=["_law_state","_law_world_here"]
theorem pV:aE ["_law_state","_law_world_here"] jO (ah jL):=by walk_at "s"
theorem oQ:Rc "_law_is_odd" jL:=by ac_nf
noncomputable def di:Fn:=jm 2
  (bc (xu (ao vG (ao aV v1 (ks "odd")) (ki 0)) (ao df (ak aT (a2 v0 (ao aV v1 (ks "odd")))) (ki 0))))
abbrev nI:Stmt:=top 34
abbrev nX:List Str:=["_law_state","_law_params"]
theorem uI:aE ["_law_state","_law_params","_law_far"] nX (ah nI):=by walk_at "s"
theorem sf:Rc "_law_term" nI:=by ac_nf
noncomputable def bU:Fn:=jm 3
  (ar (aR 2 (ao yS (ak aT (a2 v0 (ki 81))) (ki 40)))
  (ar (fC (oN (aI (ao vG (ak ck (a1 v1)) (ki 0))) (aI (ao vG (ak aT (a2 v0 (ki 5))) (ki 0)))) (bc (ak az (a2 (ak aL (a2 v0 v1)) (ak aL (a2 v0 (eL (af (ki 0) (af (ki 0) (af (ki 0) (af (ki 0) (af (ki 1) (a4 (ki 1) (Ag pM (ki 1)) (ki 2) v2)))))))))))) bY)
  (bc (ak az (a2 (ks "") (ak aL (a2 v0 (eL (af (ki 0) (af (ki 0) (af (ki 1) (af (ki 1) (a4 (ki 2) (ki 3) (Ag pM (ki 1)) v2)))))))))))))
abbrev nP:Stmt:=top 36
abbrev og:List Str:=["_law_state","_law_world_here","_law_deed","_law_top"]
theorem fB:aE ["_law_state","_law_world_here","_law_deed","_law_top","_law_some","_law_other","_law_terms"] og (ah nP):=by walk_at "s"
theorem so:Rc "_law_call" nP:=by ac_nf
noncomputable def gk:Fn:=jm 7
  (ar (aR 4 (eL (cZ [none,some 2,some 3,some 1] (qT (a1 (ak ck (a1 (ao aV v1 (ks "deeds")))))) (gN 0) (oN (aI (ao vG (ao aV (ao aV v3 (ks "floors")) v0) v2)) (aI (ao GF v0 v1))) v0)))
  (ar (fC (mx (ak di (a2 v0 v1))) (aR 4 (eL (Ks (a1 (ak ck (a1 (ao aV v1 (ks "deeds")))))))) bY)
  (ar (fC (aI (ao df v4 (eL aH))) (bc (ak az (a2 (ks "say") (ao aV (ao aV v1 (ks "deeds")) v2)))) bY)
  (ar (aR 5 (ak aL (a2 v0 v4)))
  (ar (aR 6 (eL (cZ [none,some 2,some 0,some 1] (dc (ao aV (ao aV v1 (ks "params")) v5)) (gN 0) cx (ak bU (a2 v2 (ao aV (ao aV v3 (ks "params")) v1))))))
  (bc (ak az (a3 (ks "call") (ao aV (ao aV v1 (ks "deeds")) v5) (ak eJ (a1 v6))))))))))
abbrev nK:Stmt:=top 35
abbrev nZ:List Str:=["_law_state","_law_world_here","_law_deed","_law_top","_law_held"]
theorem kQ:aE ["_law_state","_law_world_here","_law_deed","_law_top","_law_held","_law_low","_law_at","_law_name","_law_same","_law_word","_law_more"] nZ (ah nK):=by walk_at "s"
theorem sh:Rc "_law_lock" nK:=by ac_nf
noncomputable def fg:Fn:=jm 11
  (ar (aR 5 (ak vE (a2 v3 (ao aV (ao aV v1 (ks "floors")) v2))))
  (ar (fC (aI (ao df v5 (ak ck (a1 (ao aV v1 (ks "names")))))) (bc (ak az (a2 (eK .bR) (eK .bR)))) bY)
  (ar (aR 6 (ao aw v5 (ak aT (a2 v0 (ao yS (ak ck (a1 (ao aV v1 (ks "names")))) v5)))))
  (ar (fC (mx (ak di (a2 v0 v1))) (aR 6 (ak aT (a2 v0 (ak ck (a1 (ao aV v1 (ks "names"))))))) bY)
  (ar (aR 7 (ao aV (ao aV v1 (ks "names")) v6))
  (ar (aR 8 (eL (cZ [none,some 7] (dc v4) (gN 0) (aI (ao df (ao aV v0 (ki 0)) v1)) (ao aV v0 (ki 1)))))
  (ar (fC (oN (aI (ao jE v8 (eL aH))) (jC (mx (ak di (a2 v0 v1))))) (ar (fT (ao aV v8 (Ag pM (ki 1))) (gT 2 (aA (gN 9) (aA (gN 10) bZ))))
  (bc (ak az (a2 v6 (ak az (a2 v7 (ak az (a2 v9 (ak Eb (a2 (ki 99) (ao aw (ao aw v10 (ki 1)) (ak aT (a2 v0 (ki 2)))))))))))))) bY)
  (bc (ak az (a2 v6 (ak az (a2 v7 (ak bU (a2 v0 (ao aV (ao aV v1 (ks "params")) v2)))))))))))))))
abbrev qb:Stmt:=top 40
abbrev kh:List Str:=["_law_state","_law_world_here","_law_deed","_law_deep_here","_law_top","_law_held","_law_most"]
theorem wD:aE ["_law_state","_law_world_here","_law_deed","_law_deep_here","_law_top","_law_held","_law_most","_law_rows","_law_k"] kh (ah qb):=by walk_at "s"
theorem k7:Rc "_law_lot" qb:=by ac_nf
abbrev qa:Stmt:=top 39
abbrev kg:List Str:=["_law_state","_law_world_here","_law_deed","_law_deep_here","_law_top","_law_held"]
theorem cP:aE ["_law_state","_law_world_here","_law_deed","_law_deep_here","_law_top","_law_held","_law_way","_law_one","_law_other","_law_lots","_law_sort"] kg (ah qa):=by walk_at "s"
theorem kZ:Rc "_law_row" qa:=by ac_nf
abbrev jK:Stmt:=top 38
abbrev gq:List Str:=["_law_state","_law_world_here","_law_deed","_law_deep_here","_law_top","_law_held","_law_way"]
theorem cQ:aE ["_law_state","_law_world_here","_law_deed","_law_deep_here","_law_top","_law_held","_law_way","_law_at","_law_lock_here","_law_some","_law_high","_law_turn","_law_low","_law_other","_law_lot_here"] gq (ah jK):=by walk_at "s"
theorem iw:Rc "_law_locked" jK:=by ac_nf
abbrev iq:Stmt:=top 37
abbrev ft:List Str:=["_law_state","_law_world_here","_law_deed","_law_deep_here","_law_top","_law_held"]
theorem cX:aE ["_law_state","_law_world_here","_law_deed","_law_deep_here","_law_top","_law_held","_law_low","_law_name","_law_one","_law_other","_law_lots","_law_first","_law_second","_law_inner"] ft (ah iq):=by walk_at "s"
theorem fZ:Rc "_law_two_ways" iq:=by ac_nf
mutual
noncomputable def bK:Nat->Fn
 | 0=>λ_ _=>none
 | n+1=>Hi 9
  (ar (aR 7 (yX aH))
  (ar (gp (qT (a1 (ak aT (a2 v0 (ao aw (ak aL (a2 v0 (ao aw (ao qY (eL (a1 v6)) (ki 15)) (eL (a1 (ki 12)))))) (ki 1)))))) (gN 8) (fC (aI (ao vG (ao aV v1 (ks "left")) (ki 0))) (ar (fT (ao yS (ao aV v1 (ks "left")) (ki 1)) (sE v1 (ks "left")))
  (iu (eM dB eT v7 (a1 (ak (fR n) (af v0 (af v1 (a4 v2 v3 v4 v5)))))))) bY))
  (bc (ak eJ (a1 v7)))))
noncomputable def fR:Nat->Fn
 | 0=>λ_ _=>none
 | n+1=>jm 11
  (ar (aR 6 (ak aT (a2 v0 (ki 16))))
  (ar (fC (Cs (aI (ao BZ v6 (ki 2))) (oN (aI (ao df v3 (ki 5))) (aI (ao BZ v6 (ki 11))))) (bc (ak az (a2 (ks "say") (ak aL (a2 v0 (ao aw (ao aV v1 (ks "names")) (ao aV v1 (ks "deeds")))))))) bY)
  (ar (fC (Cs (aI (ao vG v6 (ki 12))) (aI (ao df v3 (ki 5)))) (bc (ak gk (a4 v0 v1 v2 v4))) bY)
  (ar (fC (oN (aI (ao df v6 (ki 12))) (oN (aI (ao BZ v3 (ki 3))) (aI (ao vG (ao aV v1 (ks "left")) (ki 5))))) (bc (ak (cG n) (af v0 (af v1 (a4 v2 v3 v4 v5))))) bY)
  (ar (fC (Cs (aI (ao df v6 (ki 11))) (aI (ao df v6 (ki 12)))) (ar (AR 7 8 (a2 (ak bU (a2 v0 (ao aV (ao aV v1 (ks "params")) v2))) (ak bU (a2 v0 (ao aV (ao aV v1 (ks "params")) v2)))))
  (ar (aR 9 (eL (cZ [none,some 2,some 3,some 5,some 0,some 4,some 1] (qT (a1 (ki 3))) (gN 0) cx (ak (bK n) (af v4 (af v6 (af v1 (a4 (ao aw v2 (ki 1)) v5 v3 (ki 2)))))))))
  (bc (ao aw (ak az (a3 (ks "by") v7 v8)) (ak eJ (a1 v9)))))) bY)
  (ar (fC (aI (ao df v6 (ki 10))) (ar (aR 9 (eL (cZ [none,some 2,some 3,some 5,some 0,some 4,some 1] (qT (a1 (ki 2))) (gN 0) cx (ak (bK n) (af v4 (af v6 (af v1 (a4 (ao aw v2 (ki 1)) v5 v3 (ki 2)))))))))
  (bc (ao aw (ak az (a1 (ks "either"))) (ak eJ (a1 v9))))) bY)
  (ar (fC (aI (ao df v6 (ki 9))) (bc (ak az (a2 (ks "again") (ak (bK n) (af v0 (af v1 (af v2 (a4 (ao aw v3 (ki 1)) v4 v5 (ki 2))))))))) bY)
  (ar (aR 10 (ak aL (a2 v0 (eK (.lv [.str "within",.str "within",.str "within",.str "within",.str "ask",.str "all"])))))
  (bc (ak (dh n) (af v0 (af v1 (af v2 (a4 v3 v4 v5 v10))))))))))))))
noncomputable def dh:Nat->Fn
 | 0=>λ_ _=>none
 | n+1=>Hi 15
  (ar (fT (ak fg (af v0 (a4 v1 v2 v4 v5))) (gT 2 (aA (gN 7) (aA (gN 8) bZ))))
  (ar (fC (aI (ao JP v7 (eK .bR))) (bc (ak az (a2 (ks "say") (ao aV (ao aV v1 (ks "deeds")) v2)))) bY)
  (ar (fC (aI (ao df v6 (ks "all"))) (ar (AR 9 10 (a2 (yX (a1 v8)) v7))
  (ar (gp (qT (a1 (ak aL (a2 v0 (eK (.lv [.int 1,.int 1,.int 2,.int 3])))))) (gN 11) (ar (fT (ak fg (af v0 (a4 v1 v2 v4 v5))) (gT 2 (aA (gN 12) (aA (gN 13) bZ))))
  (ar (aR 10 (ak vE (a2 v10 NA)))
  (aR 9 (yX (BR v9 (ao qY (eL (a1 Nz)) (ak nj (a1 (ao qZ Nz v9))))))))))
  (ar (fC (aI (ao df (ak ck (a1 v9)) (ki 1))) (iu (eM dB eT v9 (a1 (ak az (a2 (ao aV v8 (ki 0)) (ak az (a2 (ao aV (ao aV v8 (ki 1)) (ki 0)) (ao yS (ao aw (ao aV (ao aV v8 (ki 1)) (ki 1)) (ki 1)) (ao gQ (ki 2) (ak nj (a1 (ao vG (ao aV (ao aV v8 (ki 1)) (ki 1)) (ki 90))))))))))))) bY)
  (ar (aR 10 (ao aw v10 (ak nj (a1 (ao df (ao aV v1 (ks "odd")) (ki 0))))))
  (bc (ak az (a3 (ks "all") (ak eJ (a1 v9)) (ak (bK n) (af v0 (af v1 (af v2 (a4 (ao aw v3 (ki 1)) (ak vE (a2 v4 v10)) (ao aw v5 v9) (ki 3))))))))))))) bY)
  (ar (aR 14 (ak (bK n) (af v0 (af v1 (af v2 (a4 (ao aw v3 (ki 1)) (ak vE (a2 v4 v7)) (ao aw v5 (eL (a1 v8))) (ki 3)))))))
  (ar (fC (aI (ao df v6 (ks "ask"))) (bc (ak az (a4 (ks "ask") v8 OU (ak (bK n) (af v0 (af v1 (af v2 (a4 (ao aw v3 (ki 1)) v4 v5 (ki 2))))))))) bY)
  (bc (ak az (a3 (ks "within") v8 OU))))))))
noncomputable def cG:Nat->Fn
 | 0=>λ_ _=>none
 | n+1=>Hi 14
  (ar (aR 6 (ak vE (a2 v4 (ao aV (ao aV v1 (ks "floors")) v2))))
  (ar (fC (aI (ao df v6 (ak ck (a1 (ao aV v1 (ks "names")))))) (bc (ak az (a2 (ks "say") (ao aV (ao aV v1 (ks "deeds")) v2)))) bY)
  (ar (fC (aI (ao jE (eL (cZ [none,some 6,some 1] (dc v5) (gN 0) (aI (ao df (ao aV v0 (ki 0)) (ao aV (ao aV v2 (ks "names")) v1))) v0)) (eL aH))) (bc (ak az (a2 (ks "say") (ao aV (ao aV v1 (ks "deeds")) v2)))) bY)
  (ar (aR 7 (ao aV (ao aV v1 (ks "names")) v6))
  (ar (fT (ao yS (ao aV v1 (ks "left")) (ki 5)) (sE v1 (ks "left")))
  (ar (AR 8 9 (a2 (ak bU (a2 v0 (ao aV (ao aV v1 (ks "params")) v2))) (ak bU (a2 v0 (ao aV (ao aV v1 (ks "params")) v2)))))
  (ar (aR 10 (yX aH))
  (ar (gp (dc (eL (a2 (ak az (a2 v8 v9)) (ak az (a2 v9 v8))))) (gT 2 (aA (gN 11) (aA (gN 12) bZ))) (ar (aR 13 (ak (bK n) (af v0 (af v1 (af v2 (a4 (ao aw v3 (ki 3)) v6 (ao aw v5 (eL (a2 (ak az (a2 v7 v11)) (ak az (a2 v7 NA))))) (ki 2)))))))
  (iu (eM dB eT v10 (a1 (ak az (a1 (ak az (a3 (ks "within") (ak az (a2 v7 v11)) (ak az (a1 (ak az (a3 (ks "within") (ak az (a2 v7 NA)) Nz)))))))))))))
  (bc (ak az (af (ks "by") (af v8 (a4 v9 (ao aV v10 (ki 0)) (ak az (a1 (ak az (a3 (ks "within") (ak az (a2 v7 v8)) (ak az aH))))) (ao aV v10 (ki 1)))))))))))))))
end
abbrev iN:Stmt:=top 41
abbrev iT:List Str:=["_law_state","_law_most","_law_odd"]
theorem ip:aE ["_law_state","_law_most","_law_odd","_law_world_here","_law_deeds","_law_k","_law_deed","_law_rows"] iT (ah iN):=by walk_at "s"
theorem mM:Rc "_law_program" iN:=by ac_nf
noncomputable def fS:Fn:=Hi 8
  (ar (aR 3 (ak ik (a3 v0 v1 v2)))
  (ar (aR 4 (yX aH))
  (ar (gp (ow (a1 (ao aV v3 (ks "deeds")))) (gT 2 (aA (gN 5) (aA (gN 6) bZ))) (ar (aR 7 (ak (bK 20) (af v0 (af v3 (af v5 (a4 (ki 1) (Ag pM (ki 1)) (eL aH) (ak aL (a2 v0 (eK (.lv [.int 1,.int 2,.int 3,.int 4,.int 12]))))))))))
  (iu (eM dB eT v4 (a1 (ak az (a3 v6 (ak eJ (a1 (ao aV (ao aV v3 (ks "params")) v5))) v7)))))))
  (bc (ak az (a2 (ak eJ (a1 (ak D8 (a1 (ao aV v3 (ks "names")))))) (ak eJ (a1 v4))))))))
abbrev qc:Stmt:=top 42
abbrev qy:List Str:=["_law_state"]
theorem wF:aE ["_law_state"] qy (ah qc):=by walk_at "s"
theorem uR:Rc "_law_any" qc:=by ac_nf
noncomputable def kE:Fn:=jm 1
  (bc (ak fS (a3 v0 (ak aL (a2 v0 (eK (.lv [.int 4,.int 8,.int 12,.int 20,.int 40,.int 60])))) (ak aL (a2 v0 (eK (.lv [.int 0,.int 2,.int 5,.int 9])))))))
abbrev gF:Stmt:=top 43
abbrev gK:List Str:=["_law_term_here"]
theorem kO:aE ["_law_term_here","_law_word","_law_more"] gK (ah gF):=by walk_at "s"
theorem j6:Rc "_law_term_text" gF:=by ac_nf
noncomputable def bu:Fn:=jm 3
  (ar (fT v0 (gT 2 (aA (gN 1) (aA (gN 2) bZ))))
  (ar (fC (Cs (aI (ao df v1 (ks ""))) (aI (ao df v2 (ki 0)))) (bc (yW v1 (ak xn (a1 v2)))) bY)
  (bc (ao aw (ao aw v1 (ao gQ (ks "+") (ak nj (a1 (ao vG v2 (ki 0)))))) (ak xn (a1 v2))))))
abbrev gH:Stmt:=top 44
abbrev gL:List Str:=["_law_lock_here"]
theorem kP:aE ["_law_lock_here"] gL (ah gH):=by walk_at "s"
theorem j7:Rc "_law_lock_text" gH:=by ac_nf
noncomputable def bW:Fn:=jm 1
  (bc (ao aw (ao aw (ao aV v0 (ki 0)) (ks ":")) (ak bu (a1 (ao aV v0 (ki 1))))))
abbrev nN:Stmt:=top 45
abbrev n5:List Str:=["_law_row_here"]
theorem uK:aE ["_law_row_here"] n5 (ah nN):=by walk_at "s"
theorem sj:Rc "_law_head" nN:=by ac_nf
noncomputable def i8:Fn:=jm 1
  (ar (fC (aI (ao df (ao aV v0 (ki 0)) (ks "say"))) (bc (ao aw (ks "say ") (ao aV v0 (ki 1)))) bY)
  (ar (fC (aI (ao df (ao aV v0 (ki 0)) (ks "call"))) (bc (eM isStr xa (ks " ") (a1 (ao aw (eL (a2 (ks "call") (ao aV v0 (ki 1)))) (eL (cZ [none] (dc (ao aV v0 (ki 2))) (gN 0) cx (ak bu (a1 v0)))))))) bY)
  (ar (fC (aI (ao df (ao aV v0 (ki 0)) (ks "all"))) (bc (eM isStr xa (ks " ") (a1 (ao aw (eL (a1 (ks "all"))) (eL (cZ [none] (dc (ao aV v0 (ki 1))) (gN 0) cx (ak bW (a1 v0)))))))) bY)
  (ar (fC (aI (ao KU (ao aV v0 (ki 0)) (ak az (a2 (ks "within") (ks "ask"))))) (bc (ao aw (ao aw (ao aV v0 (ki 0)) (ks " ")) (ak bW (a1 (ao aV v0 (ki 1)))))) bY)
  (ar (fC (aI (ao df (ao aV v0 (ki 0)) (ks "by"))) (bc (ao aw (ao aw (ao aw (ks "by ") (ak bu (a1 (ao aV v0 (ki 1))))) (ks " ")) (ak bu (a1 (ao aV v0 (ki 2)))))) bY)
  (bc (ao aV v0 (ki 0))))))))
abbrev gG:Stmt:=top 46
abbrev eA:List Str:=["_law_lot_here","_law_first"]
theorem bz:aE ["_law_lot_here","_law_first","_law_found","_law_number","_law_row_here","_law_mine","_law_first_lot","_law_lots","_law_place","_law_inner","_law_lines"] eA (ah gG):=by walk_at "s"
theorem fH:Rc "_law_lot_lines" gG:=by ac_nf
noncomputable def bJ:Nat->Fn
 | 0=>λ_ _=>none
 | n+1=>jm 11
  (ar (AR 2 3 (a2 (yX aH) v1))
  (ar (gp (dc v0) (gN 4) (ar (aR 5 v3)
  (ar (iu (eM dB eT v2 (a1 (ak az (a2 v5 (ak i8 (a1 v4)))))))
  (ar (aR 3 (ao aw v3 (ki 1)))
  (ar (aR 6 (eM DY Js (Hn (dZ (ks "say") (ki 2) (dZ (ks "call") (ki 3) (dZ (ks "by") (ki 3) (dZ (ks "either") (ki 1) (dZ (ks "again") (ki 1) F9)))))) (a2 (ao aV v4 (ki 0)) (ki 2))))
  (ar (aR 7 (iE v4 (wg v6) we))
  (ar (gp (ow (a1 v7)) (gT 2 (aA (gN 8) (aA (gN 9) bZ))) (ar (aR 2 (yX (BR v2 (ao qY (eL (a1 (ak az (a2 v5 (ks "or"))))) (ak nj (a1 (ao vG v8 (ki 0))))))))
  (ar (fT (ak (bJ n) (a2 v9 v3)) (gT 2 (aA (gN 10) (aA (gN 3) bZ))))
  (aR 2 (yX (BR v2 v10))))))
  (aR 2 (yX (BR v2 (ao qY (eL (a1 (ak az (a2 v5 (ks "end"))))) (ak nj (a1 (ao vG (ak ck (a1 v7)) (ki 0)))))))))))))))
  (bc (ak az (a2 v2 v3)))))
abbrev ir:Stmt:=top 48
abbrev ix:List Str:=["_law_state","_law_names","_law_params"]
theorem gE:aE ["_law_state","_law_names","_law_params","_law_name","_law_word","_law_some"] ix (ah ir):=by walk_at "s"
theorem k6:Rc "_law_no_locks" ir:=by ac_nf
noncomputable def cH:Fn:=jm 6
  (ar (fT (ak az (a2 (ak aL (a2 v0 v1)) (ks "zzzzzzzz"))) (gT 2 (aA (gN 3) (aA (gN 4) bZ))))
  (ar (aR 5 (eL (a4 (ak az (a2 v3 (ak az (a2 (ks "") (ki 100))))) (ak az (a2 v3 (ak az (a2 (ks "") (Ag pM (ki 100)))))) (ak az (a2 v3 (ak az (a2 v4 (ki 0))))) (ak az (a2 v4 (ak az (a2 (ks "") (ki 0))))))))
  (ar (aR 5 (ao aw v5 (eL (af (ak az (a2 v3 (ak az (a2 (ks "") (eK (.bl true)))))) (a4 (ak az (a2 v3 (ki 3))) (ak az (a1 v3)) (ak az (a3 v3 (ak az (a2 (ks "") (ki 0))) (ki 0))) (eL (a2 v3 (ak az (a2 (ks "") (ki 0))))))))))
  (ar (aR 5 (ao aw v5 (eL (a3 (ak az (a2 v3 (eL (a2 (ks "") (ki 0))))) (ak az (a2 v3 (ak az (a1 (ks ""))))) (ak az (a2 v3 (ak az (a2 (eK .bR) (ki 0)))))))))
  (ar (aR 5 (ao aw v5 (eL (af (eK .bR) (af v3 (af (ak az aH) (af (ki 0) (a4 (eK (.tup [.str "",.tup [.str "",.int 0]])) (ak az (a2 v3 (ak az (a2 (ks "") (ks "0"))))) (ak az (a2 v3 (ak az (a2 (ak az (a1 (ks ""))) (ki 0))))) (ak az (a2 (ak az (a1 v3)) (ak az (a2 (ks "") (ki 0)))))))))))))
  (bc (ao aw v5 (eL (cZ [none,some 3] (dc v2) (gN 0) cx (ak az (a2 v1 (ak az (a2 v0 (ki 100))))))))))))))
abbrev sP:Stmt:=top 17
abbrev tq:List Str:=["row"]
theorem yg:aE ["row"] tq (ah sP):=by walk_at "s"
theorem wG:Rc "lots_of" sP:=by ac_nf
noncomputable def cJ:Fn:=jm 1
  (bc (iE v0 (wg (ao aV (Ag (GA eg) (ao aV v0 (ki 0))) (ki 0))) we))
abbrev pX:Stmt:=top 18
abbrev kd:List Str:=["lot","ahead"]
theorem wB:aE ["lot","ahead","found","number","row","path","at","inner"] kd (ah pX):=by walk_at "s"
theorem kX:Rc "paths_in" pX:=by ac_nf
noncomputable def dy:Nat->Fn
 | 0=>λ_ _=>none
 | n+1=>Hi 8
  (ar (aR 2 (yX aH))
  (ar (gp (ow (a1 v0)) (gT 2 (aA (gN 3) (aA (gN 4) bZ))) (ar (aR 5 (ao aw v1 (ak az (a1 v3))))
  (ar (iu (eM dB eT v2 (a1 (ak az (a2 v5 v4)))))
  (gp (ow (a1 (ak cJ (a1 v4)))) (gT 2 (aA (gN 6) (aA (gN 7) bZ))) (iu (eM dB jo v2 (a1 (ak (dy n) (a2 v7 (ao aw v5 (ak az (a1 v6))))))))))))
  (bc v2)))
abbrev nG:Stmt:=top 19
abbrev nW:List Str:=["program"]
theorem uG:aE ["program","found","deed","name","params","rows"] nW (ah nG):=by walk_at "s"
theorem se:Rc "places_of" nG:=by ac_nf
noncomputable def bT:Fn:=Hi 6
  (ar (aR 1 (yX aH))
  (ar (gp (ow (a1 (ao aV v0 (ki 1)))) (gT 2 (aA (gN 2) (aA (gT 3 (aA (gN 3) (aA (gN 4) (aA (gN 5) bZ)))) bZ))) (iu (eM dB jo v1 (a1 (eL (cZ [none,none,some 2] (dc (ak (dy 8) (a2 v5 (ak az aH)))) (gT 2 (aA (gN 0) (aA (gN 1) bZ))) cx (ak az (a3 v2 v0 v1))))))))
  (bc v1)))
abbrev pW:Stmt:=top 21
abbrev kc:List Str:=["program","number"]
theorem iK:aE ["program","number","places"] kc (ah pW):=by walk_at "s"
theorem kW:Rc "place_of" pW:=by ac_nf
noncomputable def fQ:Fn:=jm 3
  (ar (aR 2 (ak bT (a1 v0)))
  (ar (fC (jC (aI (fv B1 BZ (ki 0) v1 (ak ck (a1 v2))))) jY bY)
  (bc (ao aV v2 v1))))
abbrev sS:Stmt:=top 24
abbrev mR:List Str:=["lot","deep"]
theorem yj:aE ["lot","deep"] mR (ah sS):=by walk_at "s"
theorem nR:Rc "deepest" sS:=by ac_nf
noncomputable def bC:Nat->Fn
 | 0=>λ_ _=>none
 | n+1=>jm 2
  (bc (Ei (a1 (JU [none,none,some 1] (dc v0) (gN 0) cx (om (dc (ak cJ (a1 v0))) (gN 1) cx (mL (ak (bC n) (a2 v1 (ao aw v2 (ki 1)))))) [] .lv)) v1))
abbrev jJ:Stmt:=top 10
abbrev jN:List Str:=["thing","many"]
theorem pU:aE ["thing","many"] jN (ah jJ):=by walk_at "s"
theorem oP:Rc "is_tuple_of" jJ:=by ac_nf
noncomputable def eW:Fn:=jm 2
  (bc (xu (ak vF (a2 v0 (eK (.ty "tuple")))) (ao df (ak ck (a1 v0)) v1)))
abbrev pZ:Stmt:=top 9
abbrev qw:List Str:=["thing"]
theorem wC:aE ["thing"] qw (ah pZ):=by walk_at "s"
theorem uQ:Rc "is_whole" pZ:=by ac_nf
noncomputable def kC:Fn:=jm 1
  (bc (xu (ak vF (a2 v0 (eK (.ty "int")))) (Mz (ak vF (a2 v0 (eK (.ty "bool")))))))
abbrev sQ:Stmt:=top 11
abbrev tu:List Str:=["thing","params"]
theorem yh:aE ["thing","params","word","figure"] tu (ah sQ):=by walk_at "s"
theorem wH:Rc "is_term" sQ:=by ac_nf
noncomputable def nD:Fn:=jm 4
  (ar (fC (jC (mx (ak eW (a2 v0 (ki 2))))) (bc (eK (.bl false))) bY)
  (ar (fT v0 (gT 2 (aA (gN 2) (aA (gN 3) bZ))))
  (ar (fC (Cs (jC (mx (ak vF (a2 v2 (eK (.ty "str")))))) (jC (mx (ak kC (a1 v3))))) (bc (eK (.bl false))) bY)
  (bc (xu (OA (ao df v2 (ks "")) (ao KU v2 v1)) (fv B1 B1 (Ag pM (ki 99)) v3 (ki 99)))))))
abbrev sR:Stmt:=top 12
abbrev tw:List Str:=["thing","names","params"]
theorem yi:aE ["thing","names","params","name","term"] tw (ah sR):=by walk_at "s"
theorem wI:Rc "is_lock" sR:=by ac_nf
noncomputable def cw:Fn:=jm 5
  (ar (fC (jC (mx (ak eW (a2 v0 (ki 2))))) (bc (eK (.bl false))) bY)
  (ar (fT v0 (gT 2 (aA (gN 3) (aA (gN 4) bZ))))
  (bc (xu (ak vF (a2 v3 (eK (.ty "str")))) (xu (ao KU v3 v1) (ak nD (a2 v4 v2)))))))
abbrev pY:Stmt:=top 22
abbrev ke:List Str:=["lot","path","some"]
theorem iL:aE ["lot","path","some","at","row","place"] ke (ah pY):=by walk_at "s"
theorem kY:Rc "lot_with" pY:=by ac_nf
noncomputable def dz:Nat->Fn
 | 0=>λ_ _=>none
 | n+1=>jm 6
  (ar (aR 3 (ao aV v1 (ki 0)))
  (ar (fC (aI (ao vG (ak ck (a1 v1)) (ki 1))) (ar (aR 4 (ao aV v0 v3))
  (ar (aR 5 (ao aw (ao aV (Ag (GA eg) (ao aV v4 (ki 0))) (ki 0)) (ao aV v1 (ki 1))))
  (aR 2 (ak az (a1 (ao aw (ao aw (iE v4 we (wg v5)) (ak az (a1 (ak (dz n) (a3 (ao aV v4 v5) (iE v1 (wg (ki 2)) we) v2))))) (iE v4 (wg (ao aw v5 (ki 1))) we))))))) bY)
  (bc (ao aw (ao aw (iE v0 we (wg v3)) v2) (iE v0 (wg (ao aw v3 (ki 1))) we)))))
abbrev iM:Stmt:=top 23
abbrev iS:List Str:=["program","deed","path","some"]
theorem oO:aE ["program","deed","path","some","names","deeds","name","params","rows"] iS (ah iM):=by walk_at "s"
theorem mJ:Rc "program_with" iM:=by ac_nf
noncomputable def fP:Fn:=jm 9
  (ar (fT v0 (gT 2 (aA (gN 4) (aA (gN 5) bZ))))
  (ar (fT (ao aV v5 v1) (gT 3 (aA (gN 6) (aA (gN 7) (aA (gN 8) bZ)))))
  (bc (ak az (a2 v4 (ao aw (ao aw (iE v5 we (wg v1)) (ak az (a1 (ak az (a3 v6 v7 (ak (dz 6) (a3 v8 v2 v3))))))) (iE v5 (wg (ao aw v1 (ki 1))) we)))))))
abbrev nF:Stmt:=top 25
abbrev iR:List Str:=["program","number","lock"]
theorem bN:aE ["program","number","lock","deed","path","row","deep"] iR (ah nF):=by walk_at "s"
theorem jM:Rc "with_lock" nF:=by ac_nf
noncomputable def cy:Fn:=jm 7
  (ar (fT (ak fQ (a2 v0 v1)) (gT 3 (aA (gN 3) (aA (gN 4) (aA (gN 5) bZ)))))
  (ar (aR 6 (ao aw (ao vH (ak ck (a1 v4)) (ki 2)) (ki 1)))
  (ar (fC (aI (ao vG (ak (bC 8) (a2 (ak az (a1 v5)) (ao aw v6 (ki 1)))) (ki 5))) jY bY)
  (ar (fC (aI (ao GF (ak ck (a1 (ak bT (a1 v0)))) (ki 60))) jY bY)
  (ar (fC (jC (mx (ak cw (a3 v2 (ao aV v0 (ki 0)) (ao aV (ao aV (ao aV v0 (ki 1)) v3) (ki 1)))))) jY bY)
  (bc (ak fP (a4 v0 v3 v4 (ak az (a1 (ak az (a3 (ks "within") v2 (ak az (a1 v5))))))))))))))
abbrev nO:Stmt:=top 49
abbrev n6:List Str:=["_law_state"]
theorem g6:aE ["_law_state","_law_row_here","_law_k","_law_some","_law_deep_here","_law_lot_here","_law_rows"] n6 (ah nO):=by walk_at "s"
theorem sm:Rc "_law_deep" nO:=by ac_nf
noncomputable def i9:Fn:=jm 7
  (ar (aR 1 (ak az (a2 (ks "say") (ks "deepest"))))
  (ar (gp (qT (a1 (ki 4))) (gN 2) (ar (aR 3 (eL (a3 (ak az (a2 (ks "again") (ak az (a1 v1)))) (ak az (a3 (ks "either") (ak az aH) (ak az (a1 v1)))) (ak az (a3 (ks "within") (ak az (a2 (ks "a") (ak az (a2 (ks "p") v2)))) (ak az (a1 v1)))))))
  (aR 1 (ak aL (a2 v0 v3)))))
  (ar (aR 4 (ak az (a2 (ak az (a1 (ks "a"))) (ak az (a1 (ak az (a3 (ks "go") (ak az (a1 (ks "p"))) (ak az (a1 v1)))))))))
  (ar (aR 5 (ak eJ (a1 (ao qY (eL (a1 (ak az (a2 (ks "say") (ks "x"))))) (ki 12)))))
  (ar (aR 6 (ao aw (ao Aa (ak az (a1 (ak az (a3 (ks "either") v5 v5)))) (ki 2)) (ak az (a1 (ak az (a3 (ks "either") (iE v5 we (wg (ki 5))) (iE v5 we (wg (ki 4)))))))))
  (bc (eL (a2 (ak az (a2 v4 (ki 4))) (ak az (a2 (ak az (a2 (ak az (a1 (ks "a"))) (ak az (a1 (ak az (a3 (ks "go") (ak az (a1 (ks "p"))) v6)))))) (ak aT (a2 v0 (ki 60)))))))))))))
abbrev kR:Stmt:=top 50
abbrev Hg:List Str:=["_law_script"]
theorem uH:aE ["_law_script","_law_state","_law_turn","_law_program_here","_law_places","_law_deed","_law_params","_law_rows","_law_good","_law_number","_law_lock_here","_law_due"] Hg (ah kR):=by walk_at "s"
theorem zy:Rc "law" kR:=by ac_nf
abbrev cp:Stmt:=top 47
abbrev qx:List Str:=["_law_call_here"]
theorem fm:aE ["_law_call_here","_law_caught","e","_law_marks"] qx (ah cp):=by walk_at "s"
theorem mK:Rc "_law_refused" cp:=by ac_nf
noncomputable def ij:SM:=
 (ar (fC (Cs (aI (ao JP (av 1) (eK .bR))) (jC (mx (ku eX "ValueError" (av 1))))) (bc (eK (.str ""))) bY)
  (ar (aR 3 (eL (af (ku eX "NoRow" (av 1)) (af (ku eX "NoLock" (av 1)) (af (ku eX "NoText" (av 1)) aH)))))
  (ar (aR 3 (ao aw (av 3) (eL (af (ku eX "NoLine" (av 1)) (af (ku eX "NoStep" (av 1)) aH)))))
  (ar (fC (aI (ao jE (eM dB zX (av 3) (af (eK (.bl true)) aH)) (eK (.int 1)))) (bc (eK (.str "two"))) bY)
  (bc (ao aV (eK (.lv [.str "NoRow",.str "NoLock",.str "NoText",.str "NoLine",.str "NoStep"])) (eM dB zV (av 3) (af (eK (.bl true)) aH))))))))
noncomputable def fO:Xn:=Jq 3
  (uh (aR 2 (ak bT (af (av 0) aH)))
  (Cf (jC (aI (fv B1 BZ (eK (.int 0)) (av 1) (ak ck (af (av 2) aH))))) (jW "NoRow" (af (eK (.str "there is no row of this number")) aH)) K7))
noncomputable def aY:Xn:=Jq 7
  (Ce (E9 fO (af (av 0) (af (av 1) aH))) (uh (fT (ak fQ (af (av 0) (af (av 1) aH))) (gT 3 (aA (gN 3) (aA (gN 4) (aA (gN 5) bZ)))))
  (uh (aR 6 (ao aw (ao vH (ak ck (af (av 4) aH)) (eK (.int 2))) (eK (.int 1))))
  (Ce (Cf (aI (ao vG (ak (bC 8) (af (ak az (af (av 5) aH)) (af (ao aw (av 6) (eK (.int 1))) aH))) (eK (.int 5)))) (jW "NoRow" (af (eK (.str "a lot would stand too deep")) aH)) K7) (uh (fC (aI (ao vG (ak (bC 8) (af (ak az (af (av 5) aH)) (af (ao aw (av 6) (eK (.int 1))) aH))) (eK (.int 5)))) jY bY)
  (Ce (Cf (aI (ao GF (ak ck (af (ak bT (af (av 0) aH)) aH)) (eK (.int 60)))) (jW "NoRow" (af (eK (.str "there would be too many rows")) aH)) K7) (uh (fC (aI (ao GF (ak ck (af (ak bT (af (av 0) aH)) aH)) (eK (.int 60)))) jY bY)
  (Cf (jC (mx (ak cw (af (av 2) (af (ao aV (av 0) (eK (.int 0))) (af (ao aV (ao aV (ao aV (av 0) (eK (.int 1))) (av 3)) (eK (.int 1))) aH)))))) (jW "NoLock" (af (eK (.str "this is no lock of the program's names and the deed's params")) aH)) K7))))))))
noncomputable def xO:Fn:=jm 12
  (ar (aR 1 (ak fE (a1 v0)))
  (ar (gp (qT (a1 (ki 2))) (gN 2) (ar (aR 3 (ak kE (a1 v1)))
  (ar (aR 4 (eL aH))
  (ar (gp (dc (ao aV v3 (ki 1))) (gT 3 (aA (gN 5) (aA (gN 6) (aA (gN 7) bZ)))) (aR 4 (ao aw v4 (ao qY (eL (a1 v6)) (ao aV (ak (bJ 8) (a2 v7 (ki 0))) (ki 1))))))
  (ar (aR 8 (ak az (a2 (ao aV (ao aV v3 (ki 0)) (ki 0)) (ak az (a2 (ks "") (ki 0))))))
  (ar (gp (dc (eL (a4 (ak ck (a1 v4)) (Ag pM (ki 1)) (ao Ea (ki 10) (ki 20)) (ao aw (ak ck (a1 v4)) (ak aT (a2 v1 (ki 9))))))) (gN 9) (gp (dc (eL (a2 v8 (ak aL (a2 v1 (ak cH (a3 v1 (ao aV v3 (ki 0)) (ak az aH)))))))) (gN 10) (fC (aI (ao jE (cc iy [some 10,some 9,some 3] ij (E9 aY (a3 v2 v1 v0)) (ak cy (a3 v2 v1 v0))) (ks "NoRow"))) (bc (eK (.bl false))) bY)))
  (gp (ow (a1 v4)) (gT 2 (aA (gN 9) (aA (gN 6) bZ))) (ar (aR 10 (ak aL (a2 v1 (ak cH (a3 v1 (ao aV v3 (ki 0)) v6)))))
  (ar (aR 11 (yW (cc iy [some 8,some 9,some 3] ij (E9 aY (a3 v2 v1 v0)) (ak cy (a3 v2 v1 v0))) (ks "NoLock")))
  (fC (Cs (aI (ao qZ v11 (ak az (a2 (ks "NoRow") (ks "NoLock"))))) (aI (ao jE (cc iy [some 10,some 9,some 3] ij (E9 aY (a3 v2 v1 v0)) (ak cy (a3 v2 v1 v0))) v11))) (bc (eK (.bl false))) bY))))))))))
  (ar (gp (dc (ak i9 (a1 v1))) (gT 2 (aA (gN 3) (aA (gN 9) bZ))) (gp (dc (eL (a2 (eK (.tup [.str "a",.tup [.str "",.int 0]])) (ak aL (a2 v1 (ak cH (a3 v1 (ak az (a1 (ks "a"))) (ak az aH)))))))) (gN 10) (fC (aI (ao jE (cc iy [some 10,some 9,some 3] ij (E9 aY (a3 v2 v1 v0)) (ak cy (a3 v2 v1 v0))) (ks "NoRow"))) (bc (eK (.bl false))) bY)))
  (bc (eK (.bl true))))))
structure Cc where
 l:PySem.W.OpenLaw
 w:World
 h:Heap
 mg:Str->Option Value
 base:Heap
section
variable (c:Cc)
abbrev lY:Prop:=Df c.l.prog c.w (Hd.aC c.h) c.mg c.base "_law_drawn" 1 lu 1 fE
abbrev oF:Prop:=Df c.l.prog c.w (Hd.aC c.h) c.mg c.base "_law_load" 1 n4 1 i7
abbrev bS:Prop:=Df c.l.prog c.w (Hd.aC c.h) c.mg c.base "_law_next" 2 nY 2 aT
abbrev cu:Prop:=Df c.l.prog c.w (Hd.aC c.h) c.mg c.base "_law_of" 3 tx 2 aL
abbrev lX:Prop:=Df c.l.prog c.w (Hd.aC c.h) c.mg c.base "_law_words" 4 lr 2 dW
abbrev lW:Prop:=Df c.l.prog c.w (Hd.aC c.h) c.mg c.base "_law_world" 5 lq 3 ik
abbrev gw:Prop:=Df c.l.prog c.w (Hd.aC c.h) c.mg c.base "_law_is_odd" 3 jO 2 di
abbrev gj:Prop:=Df c.l.prog c.w (Hd.aC c.h) c.mg c.base "_law_term" 4 nX 2 bU
abbrev oI:Prop:=Df c.l.prog c.w (Hd.aC c.h) c.mg c.base "_law_call" 5 og 4 gk
abbrev oE:Prop:=Df c.l.prog c.w (Hd.aC c.h) c.mg c.base "_law_lock" 5 nZ 5 fg
abbrev zi:Prop:=Df c.l.prog c.w (Hd.aC c.h) c.mg c.base "_law_lot" 26 kh 7 (bK 20)
abbrev Kv:Prop:=Df c.l.prog c.w (Hd.aC c.h) c.mg c.base "_law_row" 26 kg 6 (fR 20)
abbrev E4:Prop:=Df c.l.prog c.w (Hd.aC c.h) c.mg c.base "_law_locked" 26 gq 7 (dh 20)
abbrev B3:Prop:=Df c.l.prog c.w (Hd.aC c.h) c.mg c.base "_law_two_ways" 26 ft 6 (cG 20)
abbrev i5:Prop:=Df c.l.prog c.w (Hd.aC c.h) c.mg c.base "_law_program" 27 iT 3 fS
abbrev rO:Prop:=Df c.l.prog c.w (Hd.aC c.h) c.mg c.base "_law_any" 28 qy 1 kE
abbrev eR:Prop:=Df c.l.prog c.w (Hd.aC c.h) c.mg c.base "_law_term_text" 1 gK 1 bu
abbrev gW:Prop:=Df c.l.prog c.w (Hd.aC c.h) c.mg c.base "_law_lock_text" 2 gL 1 bW
abbrev oG:Prop:=Df c.l.prog c.w (Hd.aC c.h) c.mg c.base "_law_head" 3 n5 1 i8
abbrev nB:Prop:=Df c.l.prog c.w (Hd.aC c.h) c.mg c.base "_law_lot_lines" 12 eA 2 (bJ 8)
abbrev iz:Prop:=Df c.l.prog c.w (Hd.aC c.h) c.mg c.base "_law_no_locks" 4 ix 3 cH
abbrev nz:Prop:=Df c.l.prog c.w (Hd.aC c.h) c.mg c.base "lots_of" 1 tq 1 cJ
abbrev zg:Prop:=Df c.l.prog c.w (Hd.aC c.h) c.mg c.base "paths_in" 10 kd 2 (dy 8)
abbrev fe:Prop:=Df c.l.prog c.w (Hd.aC c.h) c.mg c.base "places_of" 11 nW 1 bT
abbrev kB:Prop:=Df c.l.prog c.w (Hd.aC c.h) c.mg c.base "place_of" 12 kc 2 fQ
abbrev ue:Prop:=Df c.l.prog c.w (Hd.aC c.h) c.mg c.base "deepest" 10 mR 2 (bC 8)
abbrev gv:Prop:=Df c.l.prog c.w (Hd.aC c.h) c.mg c.base "is_tuple_of" 1 jN 2 eW
abbrev rN:Prop:=Df c.l.prog c.w (Hd.aC c.h) c.mg c.base "is_whole" 1 qw 1 kC
abbrev ud:Prop:=Df c.l.prog c.w (Hd.aC c.h) c.mg c.base "is_term" 2 tu 2 nD
abbrev nA:Prop:=Df c.l.prog c.w (Hd.aC c.h) c.mg c.base "is_lock" 3 tw 3 cw
abbrev zh:Prop:=Df c.l.prog c.w (Hd.aC c.h) c.mg c.base "lot_with" 7 ke 3 (dz 6)
abbrev i4:Prop:=Df c.l.prog c.w (Hd.aC c.h) c.mg c.base "program_with" 8 iS 4 fP
abbrev oD:Prop:=Df c.l.prog c.w (Hd.aC c.h) c.mg c.base "with_lock" 13 iR 3 cy
abbrev oH:Prop:=Df c.l.prog c.w (Hd.aC c.h) c.mg c.base "_law_deep" 4 n6 1 i9
abbrev Pc:Prop:=O7 c.l.prog c.w (Hd.aC c.h) c.mg c.base "_law_refused" ij iy
abbrev oJ:Prop:=Hd.Dx c.l.prog c.w (Hd.aC c.h) c.mg c.base "place_of" 12 kc 2 fO
abbrev lZ:Prop:=Hd.Dx c.l.prog c.w (Hd.aC c.h) c.mg c.base "with_lock" 13 iR 3 aY
structure Xr:Prop where
 wc:∃C,BS c.mg c.base "NoRow" C
 ES:∃C,BS c.mg c.base "NoLock" C
end
section
variable {c:Cc} {mb:Str->Option Value} {mean:ExcName->Option Value} (T:Top view (PySem.W.looseW view (["SHAPES"]:List Str)) mean c.mg mb c.h) (B:Bs c.l.prog c.w (Hd.aC c.h) c.mg)
include T B
theorem sC:lY c:=Hd.br T qk λF _ _ _=>
 (aU F rZ λ_ _ _ _ _ _ hr _=>by walk_at "v";with_reducible exact(aG (bG (jF.ob (cO (aa aM (aa (jF.ob (Fp (by unfold Gl;ac_nf) B.EI Ao (by ac_rfl) (ag aD))) (by ac_rfl))) (ag (ag (ag aD))))))))
theorem vj:oF c:=Hd.br T si λF _ _ _=>
 (aU F g5 λ_ _ _ _ _ _ hr _=>by walk_at "v";with_reducible exact(ae (by ac_rfl)
   (ae (by ac_rfl)
   (ae (fG (by ac_rfl) (mF hr.units (sv 0) aM))
   (ae (by ac_rfl)
   (ae (by ac_rfl)
   (aG (bX (SW.st (Cv (by ac_rfl) (zt (eh wU (by ac_rfl) (aW yw aM aM) (dQ _))))) (aG (fG (by ac_rfl) (mF hr.units (sv 0) aM))) (ae (sset 4 g5.nd (aW qz (aW gb (aW bg (aW bg (by ac_rfl) (aW gb (aW gb aM (sv 2)) (sv 2))) aM) aM) aM))
   (ae (sset 4 g5.nd (aW qz (aW gb (sv 4) (sv 4)) aM))
   (aG (fG (aW bg (aW qz (aW bg (aW bg (aW gb (sv 4) aM) (sv 2)) aM) aM) (aW yw aM aM)) (mF hr.units (sv 0) aM)))))))))))))
theorem vh(d13:oF c):bS c:=Hd.br T sg λF _ _ _=>
 (aU F uJ λ_ _ _ _ _ _ hr _=>by walk_at "v";with_reducible exact(ae (by ac_rfl)
   (ae (by ac_rfl)
   (ae (fG (aW yx (by ac_rfl) (sv 1)) (mF hr.units (sv 0) aM))
   (by ac_rfl)))))
theorem yD(d14:bS c):cu c:=Hd.br T wJ λF _ _ _=>
 (aU F yk λ_ _ _ _ _ _ hr _=>by walk_at "u")
theorem sA(d15:cu c)(d14:bS c):lX c:=Hd.br T qj λF _ _ _=>
 (aU F jI λ_ _ _ _ _ _ hr _=>by walk_at "v";with_reducible exact(ae (by ac_rfl)
   (ae (by ac_rfl)
   (ae (cz Qx rfl (cW (by unfold Gl;ac_nf) B.eV (aa (fk d15 hr (aa (sv 0) (aa (cB 9 (by ac_nf)) aq))) aq) (hl:=(ag aD))) (by ac_rfl) (by ac_rfl))
   (ae (by ac_rfl)
   (ae (by ac_rfl)
   (ae (sset 7 jI.nd (fk d15 hr (aa (sv 0) (aa (cB 9 (by ac_nf)) aq))))
   (aG (bG (fY (N':=["_law_k","_law_at","_law_first","_law_letters","_law_stem","_law_stride"]) (caps:=[none,some 5,some 6,some 2,some 3,some 7]) (bh (by ac_nf)) rfl (cW (by unfold Gl;ac_nf) B.eV (by ac_rfl) (hl:=(ag aD))) (λ_ _ _ _ _=>(sgn 0 (by show(["_law_k","_law_at","_law_first","_law_letters","_law_stem","_law_stride"]:List Str).Nodup;decide+kernel))) (λ_ _ _ _ _=>cV) (λ_ _ _ _ _=>(aW bg (aW bg (by ac_rfl) (six hr (sv 3) (aW qz (aW bg (sv 2) (aW gb (sv 5) (sv 0))) aM))) (by ac_rfl)))))))))))))
theorem sy(d16:lX c)(d15:cu c)(d14:bS c):lW c:=Hd.br T qi λF _ _ _=>
 (aU F cI λ_ _ _ _ _ _ hr _=>by walk_at "v";with_reducible exact(ae (sset 3 cI.nd (fk d16 hr (aa (sv 0) (aa (fk d15 hr (aa (sv 0) (aa (cB 9 (by ac_nf)) aq))) aq))))
   (ae (sset 4 cI.nd (fk d16 hr (aa (sv 0) (aa (fk d15 hr (aa (sv 0) (aa (cB 9 (by ac_nf)) aq))) aq))))
   (ae (by ac_rfl)
   (ae (jf (i:=6) cI.nd (by ac_nf) (by ac_nf) (N':=["_law_deed","_law_state"]) (caps:=[none,some 0]) (bh (by ac_nf)) rfl (fh (sv 4)) (λ_ _ _ _ _=>(sgn 0 (by show(["_law_deed","_law_state"]:List Str).Nodup;decide+kernel))) (λ_ _ _ _ _=>cV) (λ_ _ _ _ _=>(fk d15 hr (aa (sv 1) (aa (cB 9 (by ac_nf)) aq)))))
   (ae (sset 7 cI.nd (yf Es B.xH tY (aa (fY (N':=["_law_deed","_law_names","_law_state"]) (caps:=[none,some 3,some 0]) (bh (by ac_nf)) rfl (fh (sv 4)) (λ_ _ _ _ _=>(sgn 0 (by show(["_law_deed","_law_names","_law_state"]:List Str).Nodup;decide+kernel))) (λ_ _ _ _ _=>cV) (λ_ _ _ _ _=>(by ac_rfl))) aq)))
   (ae (sset 5 cI.nd (fY (N':=["_law_k","_law_params"]) (caps:=[none,some 5]) (bh (by ac_nf)) rfl (fh (sv 6)) (λ_ _ _ _ _=>(sgn 0 (by show(["_law_k","_law_params"]:List Str).Nodup;decide+kernel))) (λ_ _ _ _ _=>cV) (λ_ _ _ _ _=>(by ac_rfl))))
   (aG (bG (CI (dO bo (sv 3) (dO bo (sv 4) (dO bo (sv 5) (dO bo (sv 7) (dO bo (sv 1) (dO bo (sv 2) Cy)))))) (by ac_nf) (by ac_nf) (by simp) λtrs h=>zK h (by ac_nf) (by ac_nf) (by simp) (by decide)))))))))))
theorem qC(d14:bS c):gw c:=Hd.br T oQ λF _ _ _=>
 (aU F pV λ_ _ _ _ _ _ hr _=>by walk_at "v";with_reducible exact(aG (bG (mG (by ac_rfl) (iI (by ac_rfl))))))
theorem vg(d14:bS c)(d15:cu c):gj c:=Hd.br T sf λF _ _ _=>
 (aU F uI λ_ _ _ _ _ _ hr _=>by walk_at "v";with_reducible exact(ae (by ac_rfl)
   (ae (bX (by ac_rfl) (aG (bG (cA (aa (by ac_rfl) (aa (fk d15 hr (aa (sv 0) (aa (jF.lv (cO (by ac_rfl) (ag (ag (ag (ag (ag (ag (ag (ag (ag aD))))))))))) aq))) aq)) (ag (ag aD))))) bx)
   (by ac_rfl))))
theorem vo(d18:gw c)(d15:cu c)(d19:gj c):oI c:=Hd.br T so λF _ _ _=>
 (aU F fB λ_ _ _ _ _ _ hr _=>by walk_at "v";with_reducible exact(ae (jf (i:=4) fB.nd (by ac_nf) (by ac_nf) (N':=["_law_k","_law_deed","_law_top","_law_world_here"]) (caps:=[none,some 2,some 3,some 1]) (bh (by ac_nf)) rfl (cW (by unfold Gl;ac_nf) B.eV (by ac_rfl) (hl:=(ag aD))) (λ_ _ _ _ _=>(sgn 0 (by show(["_law_k","_law_deed","_law_top","_law_world_here"]:List Str).Nodup;decide+kernel))) (λ_ _ _ _ _=>(uD (by ac_rfl))) (λ_ _ _ _ _=>(sv 0)))
   (ae (bX (by ac_rfl) (aG (sset 4 fB.nd (jF.lv (AL rfl (by unfold Gl;ac_nf) B.EI (by unfold Gl;ac_nf) B.eV Ao (by ac_rfl))))) bx)
   (ae (by ac_rfl)
   (ae (by ac_rfl)
   (ae (jf (i:=6) fB.nd (by ac_nf) (by ac_nf) (N':=["_law_one","_law_deed","_law_state","_law_world_here"]) (caps:=[none,some 2,some 0,some 1]) (bh (by ac_nf)) rfl (by ac_rfl) (λ_ _ _ _ _=>(sgn 0 (by show(["_law_one","_law_deed","_law_state","_law_world_here"]:List Str).Nodup;decide+kernel))) (λ_ _ _ _ _=>cV) (λ_ _ _ _ _=>(by ac_rfl)))
   (by ac_rfl)))))))
theorem vi(d14:bS c)(d18:gw c)(d19:gj c):oE c:=Hd.br T sh λF _ _ _=>
 (aU F kQ λ_ _ _ _ _ _ hr _=>by walk_at "v";with_reducible exact(ae (by ac_rfl)
   (ae (by ac_rfl)
   (ae (by ac_rfl)
   (ae (by ac_rfl)
   (ae (by ac_rfl)
   (ae (jf (i:=8) kQ.nd (by ac_nf) (by ac_nf) (N':=["_law_lock_here","_law_name"]) (caps:=[none,some 7]) (bh (by ac_nf)) rfl (fh (sv 4)) (λ_ _ _ _ _=>(sgn 0 (by show(["_law_lock_here","_law_name"]:List Str).Nodup;decide+kernel))) (λ_ _ _ _ _=>(uD (by ac_rfl))) (λ_ _ _ _ _=>(by ac_rfl)))
   (by ac_rfl))))))))
theorem zQ(d14:bS c)(d15:cu c)(d21:oI c)(d19:gj c)(d20:oE c):∀n,Df c.l.prog c.w (Hd.aC c.h) c.mg c.base "_law_lot" (6+n) kh 7 (bK n)/\Df c.l.prog c.w (Hd.aC c.h) c.mg c.base "_law_row" (6+n) kg 6 (fR n)/\Df c.l.prog c.w (Hd.aC c.h) c.mg c.base "_law_locked" (6+n) gq 7 (dh n)/\Df c.l.prog c.w (Hd.aC c.h) c.mg c.base "_law_two_ways" (6+n) ft 6 (cG n)
 | 0=>⟨Hd.br T k7 λ_ _ _ _=>gd,Hd.br T kZ λ_ _ _ _=>gd,Hd.br T iw λ_ _ _ _=>gd,Hd.br T fZ λ_ _ _ _=>gd⟩
 | n+1=>by
  obtain⟨d25,d24,d23,d22⟩:=zQ d14 d15 d21 d19 d20 n;refine⟨?_,?_,?_,?_⟩
  ·exact Hd.br T k7 λF _ _ _=>gP (aU F wD λ_ _ _ _ _ _ hr _=>by walk_at "v";with_reducible exact(ae (by ac_rfl)
   (ae (cz Qx rfl (cW (by unfold Gl;ac_nf) B.eV (aa (fk d14 hr (aa (sv 0) (aa (aW bg (fk d15 hr (aa (sv 0) (aa (aW bg (aW mT (by ac_rfl) aM) (by ac_rfl)) aq)) (PY (by decide) (Qh _ _))) aM) aq)) (PY (by decide) (Qh _ _))) aq) (hl:=(ag aD))) (by ac_rfl) (aG (bX (by ac_rfl) (ae (fG (by ac_rfl) (mF hr.units (sv 1) bo))
   (aG (je (pT (isT:=dB) gY QK RU So jn (sv 7) (aa (fk d24 hr (by ac_rfl) (PJ _)) aq))))) bx)))
   (by ac_rfl))))
  ·exact Hd.br T kZ λF _ _ _=>(aU F cP λ_ _ _ _ _ _ hr _=>by walk_at "v";with_reducible exact(ae (sset 6 cP.nd (fk d14 hr (by ac_rfl) (PY (by decide) (Qh _ _))))
   (ae (bX (by ac_rfl) (aG (bG (cA (aa bo (aa (fk d15 hr (by ac_rfl) (PY (by decide) (Qh _ _))) aq)) (ag (ag aD))))) bx)
   (ae (bX (by ac_rfl) (aG (bG (fk d21 hr (by ac_rfl) (PY (by decide) (Qh _ _))))) bx)
   (ae (bX (by ac_rfl) (aG (bG (fk d22 hr (by ac_rfl) (PJ _)))) bx)
   (ae (bX (by ac_rfl) (ae (Fh 7 8 cP.nd (ag (ag aD)) rfl (by decide) (by with_unfolding_all exact(uY rfl cP.nd rfl rfl (by decide) rfl rfl (aa (fk d19 hr (aa (sv 0) (aa (six hr (six hr (sv 1) bo) (sv 2)) aq)) (PY (by decide) (Qh _ _))) (aa (fk d19 hr (aa (sv 0) (aa (six hr (six hr (sv 1) bo) (sv 2)) aq)) (PY (by decide) (Qh _ _))) aq)) rfl)))
   (ae (jf (i:=9) cP.nd (by ac_nf) (by ac_nf) (N':=["_law_k","_law_deed","_law_deep_here","_law_held","_law_state","_law_top","_law_world_here"]) (caps:=[none,some 2,some 3,some 5,some 0,some 4,some 1]) (bh (by ac_nf)) rfl (cW (by unfold Gl;ac_nf) B.eV (by ac_rfl) (hl:=(ag aD))) (λ_ _ _ _ _=>(sgn 0 (by show(["_law_k","_law_deed","_law_deep_here","_law_held","_law_state","_law_top","_law_world_here"]:List Str).Nodup;decide+kernel))) (λ_ _ _ _ _=>cV) (λ_ _ _ _ _=>(fk d25 hr (by ac_rfl) (PJ _))))
   (by ac_rfl))) bx)
   (ae (bX (by ac_rfl) (ae (jf (i:=9) cP.nd (by ac_nf) (by ac_nf) (N':=["_law_k","_law_deed","_law_deep_here","_law_held","_law_state","_law_top","_law_world_here"]) (caps:=[none,some 2,some 3,some 5,some 0,some 4,some 1]) (bh (by ac_nf)) rfl (cW (by unfold Gl;ac_nf) B.eV (by ac_rfl) (hl:=(ag aD))) (λ_ _ _ _ _=>(sgn 0 (by show(["_law_k","_law_deed","_law_deep_here","_law_held","_law_state","_law_top","_law_world_here"]:List Str).Nodup;decide+kernel))) (λ_ _ _ _ _=>cV) (λ_ _ _ _ _=>(fk d25 hr (by ac_rfl) (PJ _))))
   (by ac_rfl)) bx)
   (ae (bX (by ac_rfl) (aG (bG (cA (aa bo (aa (fk d25 hr (by ac_rfl) (PJ _)) aq)) (ag (ag aD))))) bx)
   (ae (sset 10 cP.nd (fk d15 hr (aa (sv 0) (aa (cB 9 (by ac_nf)) aq)) (PY (by decide) (Qh _ _))))
   (aG (bG (fk d23 hr (by ac_rfl) (PJ _)))))))))))))
  ·exact Hd.br T iw λF _ _ _=>gP (aU F cQ λ_ _ _ _ _ _ hr _=>by walk_at "v";with_reducible exact(ae (fG (fk d20 hr (by ac_rfl) (PY (by decide) (Qh _ _))) (by ac_rfl))
   (ae (by ac_rfl)
   (ae (bX (by ac_rfl) (ae (Fh 9 10 cQ.nd (ag (ag aD)) rfl (by decide) (by with_unfolding_all exact(uY rfl cQ.nd rfl rfl (by decide) rfl rfl (aa (jF.ob (cO (aa (sv 8) aq) (ag aD))) (aa (sv 7) aq)) rfl)))
   (ae (cz Qx rfl (cW (by unfold Gl;ac_nf) B.eV (aa (fk d15 hr (aa (sv 0) (aa (cB 9 (by ac_nf)) aq)) (PY (by decide) (Qh _ _))) aq) (hl:=(ag aD))) (by ac_rfl) (ae (fG (fk d20 hr (by ac_rfl) (PY (by decide) (Qh _ _))) (by ac_rfl))
   (ae (by ac_rfl)
   (aG (sset 9 cQ.nd (jF.ob (uF (sv 9) (aW mT (by ac_rfl) (by ac_rfl)))))))))
   (ae (bX (by ac_rfl) (aG (je (pT (isT:=dB) gY QK RU So jn (sv 9) (aa (cA (aa (by ac_rfl) (aa (cA (aa (by ac_rfl) (aa (aW DC (by ac_rfl) (aW gb aM (by ac_rfl))) aq)) (ag (ag aD))) aq)) (ag (ag aD))) aq)))) bx)
   (ae (by ac_rfl)
   (aG (bG (cA (aa bo (aa (by ac_rfl) (aa (fk d25 hr (by ac_rfl) (PJ _)) aq))) (ag (ag (ag aD)))))))))) bx)
   (ae (sset 14 cQ.nd (fk d25 hr (by ac_rfl) (PJ _)))
   (ae (bX (by ac_rfl) (aG (bG (cA (aa bo (aa (sv 8) (aa (sv 14) (aa (fk d25 hr (by ac_rfl) (PJ _)) aq)))) (ag (ag (ag (ag aD))))))) bx)
   (by ac_rfl)))))))
  ·exact Hd.br T fZ λF _ _ _=>gP (aU F cX λ_ _ _ _ _ _ hr _=>by walk_at "v";with_reducible exact(ae (by ac_rfl)
   (ae (by ac_rfl)
   (ae (bX (eh (mU hr.units) (fY (N':=["_law_lock_here","_law_low","_law_world_here"]) (caps:=[none,some 6,some 1]) (bh (by ac_nf)) rfl (fh (sv 5)) (λ_ _ _ _ _=>(sgn 0 (by show(["_law_lock_here","_law_low","_law_world_here"]:List Str).Nodup;decide+kernel))) (λ_ _ _ _ _=>(uD (by ac_rfl))) (λ_ _ _ _ _=>(sv 0))) (by ac_rfl) (dQ _)) (by ac_rfl) bx)
   (ae (by ac_rfl)
   (ae (fG (by ac_rfl) (mF hr.units (sv 1) bo))
   (ae (Fh 8 9 cX.nd (ag (ag aD)) rfl (by decide) (by with_unfolding_all exact(uY rfl cX.nd rfl rfl (by decide) rfl rfl (aa (fk d19 hr (aa (sv 0) (aa (six hr (six hr (sv 1) bo) (sv 2)) aq)) (PY (by decide) (Qh _ _))) (aa (fk d19 hr (aa (sv 0) (aa (six hr (six hr (sv 1) bo) (sv 2)) aq)) (PY (by decide) (Qh _ _))) aq)) rfl)))
   (ae (by ac_rfl)
   (ae (cz Qx rfl (by ac_rfl) (by ac_rfl) (ae (sset 13 cX.nd (fk d25 hr (by ac_rfl) (PJ _)))
   (by ac_rfl)))
   (by ac_rfl))))))))))
theorem oS(d17:lW c)(d25:zi c)(d15:cu c):i5 c:=Hd.br T mM λF _ _ _=>
 gP (aU F ip λ_ _ _ _ _ _ hr _=>by walk_at "v";with_reducible exact(ae (by ac_rfl)
   (ae (by ac_rfl)
   (ae (cz Qx rfl (jg (by unfold Gl;ac_nf) B.dD (by ac_rfl) (ag aD)) (by ac_rfl) (ae (sset 7 ip.nd (fk d25 hr (aa (sv 0) (aa (sv 3) (aa (sv 5) (aa aM (aa (by ac_rfl) (aa (by ac_rfl) (aa (fk d15 hr (aa (sv 0) (aa (cB 9 (by ac_nf)) aq))) aq)))))))))
   (by ac_rfl)))
   (aG (bG (cA (aa (KQ rp B.pF lU (aa (yf Er B.xH tY (by ac_rfl)) aq)) (by ac_rfl)) (ag (ag aD)))))))))
theorem wX(d26:i5 c)(d15:cu c):rO c:=Hd.br T uR λF _ _ _=>
 (aU F wF λ_ _ _ _ _ _ hr _=>by walk_at "v";with_reducible exact(aG (bG (fk d26 hr (aa (sv 0) (aa (fk d15 hr (aa (sv 0) (aa (cB 9 (by ac_nf)) aq))) (aa (fk d15 hr (aa (sv 0) (aa (cB 9 (by ac_nf)) aq))) aq)))))))
theorem ly:eR c:=Hd.br T j6 λF _ _ _=>
 (aU F kO λ_ _ _ _ _ _ hr _=>by walk_at "v";with_reducible exact(ae (by ac_rfl)
   (ae (bX (by ac_rfl) (aG (bG (CH (sv 1) (iI (KQ Aj B.As vV (by ac_rfl)))))) bx)
   (aG (bG (aW bg (aW bg (sv 1) (aW gb bo (by ac_rfl))) (KQ Aj B.As vV (by ac_rfl))))))))
theorem lz(d28:eR c):gW c:=Hd.br T j7 λF _ _ _=>
 (aU F kP λ_ _ _ _ _ _ hr _=>by walk_at "u")
theorem vm(d28:eR c)(d29:gW c):oG c:=Hd.br T sj λF _ _ _=>
 (aU F uK λ_ _ _ _ _ _ hr _=>by walk_at "v";with_reducible exact(ae (by ac_rfl)
   (ae (bX (by ac_rfl) (aG (bG (pT (isT:=isStr) ty_str Us Uz Uy zU bo (aa (aW bg (by ac_rfl) (fY (N':=["_law_term_here"]) (caps:=[none]) (bh (by ac_nf)) rfl (by ac_rfl) (λ_ _ _ _ _=>(sgn 0 (by show(["_law_term_here"]:List Str).Nodup;decide+kernel))) (λ_ _ _ _ _=>cV) (λ_ _ _ _ _=>(by ac_rfl)))) aq)))) bx)
   (ae (bX (by ac_rfl) (aG (bG (pT (isT:=isStr) ty_str Us Uz Uy zU bo (aa (aW bg (by ac_rfl) (fY (N':=["_law_lock_here"]) (caps:=[none]) (bh (by ac_nf)) rfl (by ac_rfl) (λ_ _ _ _ _=>(sgn 0 (by show(["_law_lock_here"]:List Str).Nodup;decide+kernel))) (λ_ _ _ _ _=>cV) (λ_ _ _ _ _=>(by ac_rfl)))) aq)))) bx)
   (by ac_rfl)))))
theorem gc(d30:oG c):∀n,Df c.l.prog c.w (Hd.aC c.h) c.mg c.base "_law_lot_lines" (4+n) eA 2 (bJ n)
 | 0=>Hd.br T fH λ_ _ _ _=>gd
 | n+1=>by
  have d31:=gc d30 n;exact Hd.br T fH λF _ _ _=>(aU F bz λ_ _ _ _ _ _ hr _=>by walk_at "v";with_reducible exact(ae (Fh 2 3 bz.nd (ag (ag aD)) rfl (by decide) (by with_unfolding_all exact(uY rfl bz.nd rfl rfl (by decide) rfl rfl (aa (jF.ob (cO aq aD)) (aa (sv 1) aq)) rfl)))
   (ae (cz Qx rfl (fh (sv 0)) (by ac_rfl) (ae (by ac_rfl)
   (ae (je (pT (isT:=dB) gY QK RU So jn (sv 2) (aa (cA (aa (sv 5) (aa (fk d30 hr (by ac_rfl) (PY (by decide) (Qh _ _))) aq)) (ag (ag aD))) aq)))
   (ae (by ac_rfl)
   (ae (sset 6 bz.nd (pT (isT:=DY) HK PySem.F.plainAttrs_dict RI PySem.F.type_dict_get (Jr (Mq hr)) (Fv (dO bo aM (dO bo aM (dO bo aM (dO bo aM (dO bo aM Cy))))) (by ac_nf) (by ac_nf) (by simp) λtrs h=>zK h (by ac_nf) (by ac_nf) (by simp) (by decide)) (by ac_rfl)))
   (ae (by ac_rfl)
   (ae (cz Qx rfl (jg (by unfold Gl;ac_nf) B.dD (by ac_rfl) (ag aD)) (by ac_rfl) (ae (sset 2 bz.nd (jF.ob (uF (sv 2) (aW mT (by ac_rfl) (by ac_rfl)))))
   (ae (fG (fk d31 hr (by ac_rfl) (PJ _)) (by ac_rfl))
   (aG (sset 2 bz.nd (jF.ob (uF (sv 2) (sv 10))))))))
   (aG (sset 2 bz.nd (jF.ob (uF (sv 2) (aW mT (by ac_rfl) (by ac_rfl)))))))))))))
   (by ac_rfl))))
theorem mV(d15:cu c):iz c:=Hd.br T k6 λF _ _ _=>
 (aU F gE λ_ _ _ _ _ _ hr _=>by walk_at "v";with_reducible exact(ae (by ac_rfl)
   (ae (by ac_rfl)
   (ae (by ac_rfl)
   (ae (by ac_rfl)
   (ae (sset 5 gE.nd (aW bg (sv 5) (jF.lv (cO (aa ye (aa (sv 3) (aa (by ac_rfl) (aa aM (aa (cB 9 (by ac_nf)) (by ac_rfl)))))) (ag (ag (ag (ag (ag (ag (ag (ag aD))))))))))))
   (aG (bG (aW bg (sv 5) (fY (N':=["_law_param","_law_name"]) (caps:=[none,some 3]) (bh (by ac_nf)) rfl (fh (sv 2)) (λ_ _ _ _ _=>(sgn 0 (by show(["_law_param","_law_name"]:List Str).Nodup;decide+kernel))) (λ_ _ _ _ _=>cV) (λ_ _ _ _ _=>(by ac_rfl))))))))))))
theorem yA:nz c:=Hd.br T wG λF _ _ _=>
 (aU F yg λ_ _ _ _ _ _ hr _=>by walk_at "v";with_reducible exact(aG (bG (CG (sv 0) (zv (six hr (CF B.xN (by ac_rfl)) aM)) zw))))
theorem oh(d4:nz c):∀n,Df c.l.prog c.w (Hd.aC c.h) c.mg c.base "paths_in" (2+n) kd 2 (dy n)
 | 0=>Hd.br T kX λ_ _ _ _=>gd
 | n+1=>by
  have d5:=oh d4 n;exact Hd.br T kX λF _ _ _=>gP (aU F wB λ_ _ _ _ _ _ hr _=>by walk_at "v";with_reducible exact(ae (by ac_rfl)
   (ae (cz Qx rfl (jg (by unfold Gl;ac_nf) B.dD (by ac_rfl) (ag aD)) (by ac_rfl) (ae (by ac_rfl)
   (ae (by ac_rfl)
   (aG (cz Qx rfl (jg (by unfold Gl;ac_nf) B.dD (aa (fk d4 hr (by ac_rfl) (PY (by decide) (Qh _ _))) aq) (ag aD)) (by ac_rfl) (aG (je (pT (isT:=dB) gY QK SX Ub tH (sv 2) (aa (fk d5 hr (by ac_rfl) (PJ _)) aq)))))))))
   (by ac_rfl))))
theorem vf(d5:zg c):fe c:=Hd.br T se λF _ _ _=>
 gP (aU F uG λ_ _ _ _ _ _ hr _=>by walk_at "v";with_reducible exact(ae (by ac_rfl)
   (ae (cz Qx rfl (jg (by unfold Gl;ac_nf) B.dD (by ac_rfl) (ag aD)) (by ac_rfl) (aG (je (pT (isT:=dB) gY QK SX Ub tH (sv 1) (aa (fY (N':=["path","row","deed"]) (caps:=[none,none,some 2]) (bh (by ac_nf)) rfl (by ac_rfl) (λ_ _ _ _ _=>(uE rfl (dP (sgn 0 (by show(["path","row","deed"]:List Str).Nodup;decide+kernel)) (dP (sgn 1 (by show(["path","row","deed"]:List Str).Nodup;decide+kernel)) pf)))) (λ_ _ _ _ _=>cV) (λ_ _ _ _ _=>(by ac_rfl))) aq)))))
   (by ac_rfl))))
theorem wV(d6:fe c):kB c:=Hd.br T kW λF _ _ _=>
 (aU F iK λ_ _ _ _ _ _ hr _=>by walk_at "v";with_reducible exact(ae (by ac_rfl)
   (ae (bX (mE (wy wR DE aM (sv 1) (by ac_rfl))) (aG gA) bx)
   (by ac_rfl))))
theorem qB(d4:nz c):∀n,Df c.l.prog c.w (Hd.aC c.h) c.mg c.base "deepest" (2+n) mR 2 (bC n)
 | 0=>Hd.br T nR λ_ _ _ _=>gd
 | n+1=>by
  have d10:=qB d4 n;exact Hd.br T nR λF _ _ _=>(aU F yj λ_ _ _ _ _ _ hr _=>by walk_at "v";with_reducible exact(aG (bG (Fs rfl (by unfold Gl;ac_nf) B.Ht (aa (AN (N':=["row","inner","deep"]) (caps:=[none,none,some 1]) (bh (by ac_nf)) rfl (fh (sv 0)) (λ_ _ _ _ _=>(sgn 0 (by show(["row","inner","deep"]:List Str).Nodup;decide+kernel))) (λ_ _ _ _ _=>cV) (λ_ _ _ _ _=>(fh (fk d4 hr (by ac_rfl) (PY (by decide) (Qh _ _))))) (λ_ _ _ _ _=>(sgn 1 (by show(["row","inner","deep"]:List Str).Nodup;decide+kernel))) (λ_ _ _ _ _=>cV) (λ_ _ _ _ _=>(fk d10 hr (by ac_rfl) (PJ _)))) aq) (ag aD) (sv 1)))))
theorem qA:gv c:=Hd.br T oP λF _ _ _=>
 (aU F pU λ_ _ _ _ _ _ hr _=>by walk_at "v";with_reducible exact(aG (bG (mG (yf rA B.bA dg (aa (sv 0) (aa (Lx B.pF lU) aq))) (iI (by ac_rfl))))))
theorem wW:rN c:=Hd.br T uQ λF _ _ _=>
 (aU F wC λ_ _ _ _ _ _ hr _=>by walk_at "v";with_reducible exact(aG (bG (mG (yf rA B.bA dg (aa (sv 0) (aa (Lx B.Hu EF) aq))) (iI (Ih (yf rA B.bA dg (aa (sv 0) (aa (Lx B.Kr GV) aq)))))))))
theorem yB(d1:gv c)(d0:rN c):ud c:=Hd.br T wH λF _ _ _=>
 (aU F yh λ_ _ _ _ _ _ hr _=>by walk_at "v";with_reducible exact(ae (by ac_rfl)
   (ae (by ac_rfl)
   (ae (bX (SW.st (zr (mE (ux (yf rA B.bA dg (aa (sv 2) (aa (Lx B.As vV) aq))))) (by ac_rfl))) (by ac_rfl) bx)
   (aG (bG (mG (LG (by ac_rfl) (iI (by ac_rfl))) (iI (CJ wR wR (CD xW (iJ B.jU (by unfold Gl;ac_nf))) (sv 3) (iJ B.jU (by unfold Gl;ac_nf)))))))))))
theorem yC(d1:gv c)(d2:ud c):nA c:=Hd.br T wI λF _ _ _=>
 (aU F yi λ_ _ _ _ _ _ hr _=>by walk_at "v";with_reducible exact(ae (by ac_rfl)
   (ae (by ac_rfl)
   (aG (bG (mG (yf rA B.bA dg (aa (sv 3) (aa (Lx B.As vV) aq))) (mG (by ac_rfl) (iI (by ac_rfl)))))))))
theorem oj:∀n,Df c.l.prog c.w (Hd.aC c.h) c.mg c.base "lot_with" (1+n) ke 3 (dz n)
 | 0=>Hd.br T kY λ_ _ _ _=>gd
 | n+1=>by
  have d8:=oj  n;exact Hd.br T kY λF _ _ _=>(aU F iL λ_ _ _ _ _ _ hr _=>by walk_at "v";with_reducible exact(ae (by ac_rfl)
   (ae (bX (by ac_rfl) (ae (by ac_rfl)
   (ae (sset 5 iL.nd (aW bg (six hr (CF B.xN (by ac_rfl)) aM) (by ac_rfl)))
   (aG (sset 2 iL.nd (cA (aa (aW bg (aW bg (by ac_rfl) (cA (aa (fk d8 hr (by ac_rfl) (PJ _)) aq) (ag aD))) (by ac_rfl)) aq) (ag aD)))))) bx)
   (by ac_rfl))))
theorem oR(d8:zh c):i4 c:=Hd.br T mJ λF _ _ _=>
 (aU F oO λ_ _ _ _ _ _ hr _=>by walk_at "u")
theorem ve(d7:kB c)(d10:ue c)(d6:fe c)(d3:nA c)(d9:i4 c):oD c:=Hd.br T jM λF _ _ _=>
 (aU F bN λ_ _ _ _ _ _ hr _=>by walk_at "v";with_reducible exact(ae (by ac_rfl)
   (ae (sset 6 bN.nd (aW bg (aW yx (by ac_rfl) aM) aM))
   (ae (bX (eh zO (by ac_rfl) (iJ B.jb (by unfold Gl;ac_nf)) (dQ _)) (aG gA) bx)
   (ae (bX (eh wU (by ac_rfl) (iJ B.ja (by unfold Gl;ac_nf)) (dQ _)) (aG gA) bx)
   (ae (bX (by ac_rfl) (aG gA) bx)
   (by ac_rfl)))))))
theorem vn(d15:cu c)(d14:bS c):oH c:=Hd.br T sm λF _ _ _=>
 (aU F g6 λ_ _ _ _ _ _ hr _=>by walk_at "v";with_reducible exact(ae (by ac_rfl)
   (ae (cz Qx rfl (cW (by unfold Gl;ac_nf) B.eV (by ac_rfl) (hl:=(ag aD))) (by ac_rfl) (by ac_rfl))
   (ae (by ac_rfl)
   (ae (sset 5 g6.nd (KQ rp B.pF lU (aa (aW mT (by ac_rfl) aM) aq)))
   (ae (sset 6 g6.nd (aW bg (aW Gb (by ac_rfl) aM) (by ac_rfl)))
   (by ac_rfl)))))))
theorem Jm:Pc c:=by
 obtain⟨f,fd,m,F⟩:=Hd.z9 T mK;obtain⟨CS,h1,h2⟩:=B.S_;have hb:∃(tail:List Stmt)(pa pb pc p1 p2 p3 p4 p5 p6 p7 p8 p9:Pos)(j:Nat),cY cp=.Assign [.Name "_law_caught" pa] (.Constant .none j pb) pc::.Try [.Expr (.Call (.Name "_law_call_here" p1) [] [] p2) p3] [.ExceptHandler (some (.Name "StuckError" p4)) (some "e") [.Assign [.Name "_law_caught" p5] (.Name "e" p6) p7] p8] [] [] p9::tail/\∀(k:Nat)(cdv:Value)(A:Around)(outer:List Env)(s:Shared)(H:Hp)(E:XK),cD k (A.deeper (envOfC "_law_refused" (ah cp) s.heap.objs.size f cdv))->BU (eN mm c.l.prog c.w (Hd.aC c.h) c.mg c.base ["_law_call_here","_law_caught","e","_law_marks"] "_law_refused" (ah cp) f cdv A outer s H E).DK tail ij:=by
  refine⟨_,_,_,_,_,_,_,_,_,_,_,_,_,_,by(conv=>lhs;whnf),λk cdv A outer s H E hr=>?_⟩;unfold ij;(conv=>arg 2;whnf);with_reducible exact(ae (bX (SW.st (zr (by ac_rfl) (yc (mE (ux (LB (tb:=eX) (ns:=oU) B.K1 B.bA B.vZ (sv 1) (Pm (by decide+kernel)))))))) (by ac_rfl) bx)
   (ae (sset 3 fm.nd (jF.lv (cO (aa (CC (tb:=eX) (ns:=oU) B.K1 B.bA (sv 1)) (aa (CC (tb:=eX) (ns:=oU) B.K1 B.bA (sv 1)) (aa (CC (tb:=eX) (ns:=oU) B.K1 B.bA (sv 1)) aq))) (ag (ag (ag aD))))))
   (ae (sset 3 fm.nd (aW bg (sv 3) (jF.lv (cO (aa (CC (tb:=eX) (ns:=oU) B.K1 B.bA (sv 1)) (aa (CC (tb:=eX) (ns:=oU) B.K1 B.bA (sv 1)) aq)) (ag (ag aD))))))
   (ae (bX (eh (mU hr.units) (pT (isT:=dB) gY QK Uj PySem.F.type_list_count (Bi hr.units) (sv 3) (by ac_rfl)) aM (dQ _)) (by ac_rfl) bx)
   (aG (bG (six hr (cB 9 (by ac_nf)) (pT (isT:=dB) gY QK Ui PySem.F.type_list_index (Bh hr.units) (sv 3) (by ac_rfl)))))))))
 obtain⟨tail,pa,pb,pc,p1,p2,p3,p4,p5,p6,p7,p8,p9,j,e,ht⟩:=hb;exact⟨f,CS,fd,cp,"_law_call_here","_law_caught","e","_law_marks",tail,pa,pb,pc,p1,p2,p3,p4,p5,p6,p7,p8,p9,j,F,fm,m,F.kp,F.one (λ_ _ _ _ _ _ _=>rfl),e,⟨by ac_nf,by ac_nf,by ac_nf,by ac_nf⟩,⟨h1,h2⟩,⟨by ac_nf,by ac_nf,by ac_nf,by ac_nf⟩,⟨λ_=>by ac_nf,λ_=>by ac_nf,λ_=>by ac_nf⟩,ht⟩
theorem vd(R:Xr c)(d6:fe c):oJ c:=Hd.Hh T kW λF=>
 Mw F iK λcdv A outer s H E hr _=>by(conv=>arg 3;whnf);with_reducible exact(iF (sset 2 iK.nd (fk d6 hr (aa (sv 0) aq)))
   (dH (zj (mE (wy wR DE aM (sv 1) (yf rq B.xI rL (aa (sv 2) aq)))) (dH (Nh R.wc bo)) uf)))
theorem su(R:Xr c)(d3:nA c)(d6:fe c)(d10:ue c)(d7:kB c)(x7:oJ c):lZ c:=Hd.Hh T jM λF=>
 Mw F bN λcdv A outer s H E hr _=>by(conv=>arg 3;whnf);with_reducible exact(xT (dH (Nw (g:=(gT 3 (aA (gN 3) (aA (gN 4) (aA (gN 5) bZ))))) (K3 x7 hr F8 (aa (sv 0) (aa (sv 1) aq))) (uE rfl (dP (sgn 3 bN.nd) (dP (sgn 4 bN.nd) (dP (sgn 5 bN.nd) pf)))))) (iF (fG (fk d7 hr (aa (sv 0) (aa (sv 1) aq))) (uE rfl (dP (sgn 3 bN.nd) (dP (sgn 4 bN.nd) (dP (sgn 5 bN.nd) pf)))))
   (iF (sset 6 bN.nd (aW bg (aW yx (yf rq B.xI rL (aa (sv 4) aq)) aM) aM))
   (xT (dH (zj (eh zO (fk d10 hr (aa (cA (aa (sv 5) aq) (ag aD)) (aa (aW bg (sv 6) aM) aq))) (iJ B.jb (by unfold Gl;ac_nf)) (dQ _)) (dH (Nh R.wc bo)) uf)) (iF (bX (eh zO (fk d10 hr (aa (cA (aa (sv 5) aq) (ag aD)) (aa (aW bg (sv 6) aM) aq))) (iJ B.jb (by unfold Gl;ac_nf)) (dQ _)) (aG gA) bx)
   (xT (dH (zj (eh wU (yf rq B.xI rL (aa (fk d6 hr (aa (sv 0) aq)) aq)) (iJ B.ja (by unfold Gl;ac_nf)) (dQ _)) (dH (Nh R.wc bo)) uf)) (iF (bX (eh wU (yf rq B.xI rL (aa (fk d6 hr (aa (sv 0) aq)) aq)) (iJ B.ja (by unfold Gl;ac_nf)) (dQ _)) (aG gA) bx)
   (dH (zj (mE (ux (fk d3 hr (aa (sv 2) (aa (six hr (sv 0) aM) (aa (six hr (six hr (six hr (sv 0) aM) (sv 3)) aM) aq)))))) (dH (Nh R.ES bo)) uf)))))))))
theorem Jn(F:rW (Hd.aC c.h) "law" "law" kR f fd)(m:c.mg "law"=some (.ref f))(RF:Pc c)(d12:lY c)(d27:rO c)(d31:nB c)(d14:bS c)(d15:cu c)(d33:iz c)(d11:oD c)(d34:oH c)(x11:lZ c):dY c.l.prog c.w (Hd.aC c.h) c.mg c.base mm 29 f fd Hg (AK (Hd.aC c.h) 1 xO):=
 (Gz F (Hd.Gr T zy F m) uH λcdv A outer s H E hL hr=>by have:=uH.nd;(conv=>arg 2;whnf);with_reducible exact(ae (by ac_rfl)
   (ae (cz Qx rfl (cW (by unfold Gl;ac_nf) B.eV (by ac_rfl) (hl:=(ag aD))) (by ac_rfl) (ae (by ac_rfl)
   (ae (by ac_rfl)
   (ae (cz Qx rfl (by ac_rfl) (by ac_rfl) (aG (sset 4 uH.nd (aW bg (sv 4) (aW mT (by ac_rfl) (by ac_rfl))))))
   (ae (by ac_rfl)
   (ae (cz Qx rfl (fh (jF.lv (cO (aa (by ac_rfl) (aa (by ac_rfl) (aa (aW yw aM aM) (by ac_rfl)))) (ag (ag (ag (ag aD))))))) (by ac_rfl) (aG (cz Qx rfl (by ac_rfl) (by ac_rfl) (aG (bX (eh (mU hr.units) (Fg (k:=13) (Nl:=["_law_lock_here","_law_number","_law_program_here"]) (caps:=[some 10,some 9,some 3]) RF hL hr (by decide) (bh (by ac_nf)) (λ_ _ _ _ _ _ _ _ _ hr=>(K3 x11 hr pq (by ac_rfl))) (λ_ _ _ _ _ _ _ _ _ hr=>(by ac_rfl))) bo (dQ _)) (by ac_rfl) bx)))))
   (aG (cz Qx rfl (jg (by unfold Gl;ac_nf) B.dD (by ac_rfl) (ag aD)) (by ac_rfl) (ae (by ac_rfl)
   (ae (sset 11 uH.nd (CH (Fg (k:=13) (Nl:=["_law_good","_law_number","_law_program_here"]) (caps:=[some 8,some 9,some 3]) RF hL hr (by decide) (bh (by ac_nf)) (λ_ _ _ _ _ _ _ _ _ hr=>(K3 x11 hr pq (by ac_rfl))) (λ_ _ _ _ _ _ _ _ _ hr=>(by ac_rfl))) (iI bo)))
   (aG (bX (SW.st (zr (by ac_rfl) (yc (eh (mU hr.units) (Fg (k:=13) (Nl:=["_law_lock_here","_law_number","_law_program_here"]) (caps:=[some 10,some 9,some 3]) RF hL hr (by decide) (bh (by ac_nf)) (λ_ _ _ _ _ _ _ _ _ hr=>(K3 x11 hr pq (by ac_rfl))) (λ_ _ _ _ _ _ _ _ _ hr=>(by ac_rfl))) (sv 11) (dQ _))))) (by ac_rfl) bx))))))))))))
   (ae (cz Qx rfl (by ac_rfl) (by ac_rfl) (aG (cz Qx rfl (fh (jF.lv (cO (aa (cB 9 (by ac_nf)) (by ac_rfl)) (ag (ag aD))))) (by ac_rfl) (aG (bX (eh (mU hr.units) (Fg (k:=13) (Nl:=["_law_lock_here","_law_number","_law_program_here"]) (caps:=[some 10,some 9,some 3]) RF hL hr (by decide) (bh (by ac_nf)) (λ_ _ _ _ _ _ _ _ _ hr=>(K3 x11 hr pq (by ac_rfl))) (λ_ _ _ _ _ _ _ _ _ hr=>(by ac_rfl))) bo (dQ _)) (by ac_rfl) bx)))))
   (by ac_rfl)))))
theorem MQ(R:Xr c)(m:c.mg "law"=some (.ref f))(F:rW (Hd.aC c.h) "law" "law" kR f fd)(hF:∀ns:List Int,ns.length<=63->∃h',xO [.ro (ns.map D.int)] []=some (.bl true,h')):dY c.l.prog c.w (Hd.aC c.h) c.mg c.base mm 29 f fd ["_law_script"] (spT (Hd.aC c.h)):=by
 have d12:=sC T B;have d13:=vj T B;have d14:=vh T B d13;have d15:=yD T B d14;have d16:=sA T B d15 d14;have d17:=sy T B d16 d15 d14;have d18:=qC T B d14;have d19:=vg T B d14 d15;have d21:=vo T B d18 d15 d19;have d20:=vi T B d14 d18 d19;obtain⟨d25,d24,d23,d22⟩:=zQ T B d14 d15 d21 d19 d20 20;have d26:=oS T B d17 d25 d15;have d27:=wX T B d26 d15;have d28:=ly T B;have d29:=lz T B d28;have d30:=vm T B d28 d29;have d31:=gc T B d30 8;have d33:=mV T B d15;have d4:=yA T B;have d5:=oh T B d4 8;have d6:=vf T B d5;have d7:=wV T B d6;have d10:=qB T B d4 8;have d1:=qA T B;have d0:=wW T B;have d2:=yB T B d1 d0;have d3:=yC T B d1 d2;have d8:=oj T B  6;have d9:=oR T B d8;have d11:=ve T B d7 d10 d6 d3 d9;have d34:=vn T B d15 d14;have RF:=Jm T B;have x7:=vd T B R d6;have x11:=su T B R d3 d6 d10 d7 x7;exact Gq (Jn T B F m RF d12 d27 d31 d14 d15 d33 d11 d34 x11) hF
end
theorem gg:Hd.freeOk view (["SHAPES"]:List Str) ["ValueError","abs","bool","enumerate","int","isinstance","len","list","max","min","range","sorted","str","tuple"]=true:=by decide+kernel
theorem all_mk{l:PySem.W.OpenLaw}{w:World}{h:Heap}{mg mb:Str->Option Value}{mean:ExcName->Option Value}(T:Top view (PySem.W.looseW view (["SHAPES"]:List Str)) mean mg mb h)
  (Y_SHAPES:Hd.tabAt h "SHAPES"=some (eg.map λx=>(x.1,hashStr w x.1,x.2)))
  (Y_x:Hd.oW h (eX.map (·.1)) oU=Hd.xt eX oU)
  (hF:∀ns:List Int,ns.length<=63->∃h',xO [.ro (ns.map D.int)] []=some (.bl true,h')):
  ∃(fa:Addr)(fd:FuncData),mg "law"=some (.ref fa)/\(∀(s:Shared)(v:Value),BindsTo s fd ⟨[v],[]⟩ [("_law_script",v)])/\∀base:Heap,(Hd.aC h).In base->base.Ns mainGlobals mg->dY l.prog w (Hd.aC h) mg base mm 29 fa fd ["_law_script"] (spT (Hd.aC h)):=by
 have B:Bs l.prog w (Hd.aC h) mg:=⟨Hd.cL T gg (PF (i:=0) rfl),Hd.cL T gg (PF (i:=1) rfl),Hd.cL T gg (PF (i:=2) rfl),Hd.cL T gg (PF (i:=3) rfl),Hd.cL T gg (PF (i:=4) rfl),Hd.cL T gg (PF (i:=5) rfl),Hd.cL T gg (PF (i:=6) rfl),Hd.cL T gg (PF (i:=7) rfl),Hd.cL T gg (PF (i:=8) rfl),Hd.cL T gg (PF (i:=9) rfl),Hd.cL T gg (PF (i:=10) rfl),Hd.cL T gg (PF (i:=11) rfl),Hd.cL T gg (PF (i:=12) rfl),Hd.cL T gg (PF (i:=13) rfl),Hd.vK T (by ac_nf),Hd.vK T (by ac_nf),Hd.vK T (by ac_nf),Hd.tab_of Y_SHAPES T.g (by decide+kernel),Hd.My T Y_x,Hd.NZ T Y_x (by ac_nf) (by decide+kernel) (Tb.mpr ⟨⟨by ac_nf,_,rfl,by decide+kernel⟩,Tb.mpr ⟨⟨by ac_nf,_,rfl,by decide+kernel⟩,List.forall_mem_nil _⟩⟩)⟩;obtain⟨f,fd,m,F⟩:=Hd.z9 T zy;exact⟨f,fd,m,F.one λ_ _ _ _ _ _ _=>rfl,λbase KB _=>MQ (c:=⟨l,w,h,mg,base⟩) T B ⟨Hd.zk T (by ac_nf) KB,Hd.zk T (by ac_nf) KB⟩ m F hF⟩
end Mi
local macro_rules | `(tactic| walk_at $s:str) => let k := s.getString.front;let a := "|Sm.MD|Sm.MJ|Sm.Kl|Sm.MF|Sm.ME|Sm.OG|Sm.OF|Sm.OJ|Sm.OI|Sm.OH|Sm.Py|Sm.Pz|Sm.MI|Sm.MG|Sm.Ki|Sm.Kj|Sm.de|Sm.oM|Sm.sX|Sm.C7|Sm.C6|Sm.zF|Sm.gI|Sm.IA|Sm.LO|Sm.r_sbrk|Sm.r_scont|Sm.mO|Sm.N0|Sm.C5|Sm.FD|Sm.bO|Sm.fI|Sm.r_if|Sm.uU|Sm.N4|Sm.r_dv|Sm.r_do|Sm.iQ|Sm.uS|Sm.j8|Sm.Iz|Sm.CZ|Sm.LV|Sm.N3|Sm.r_not|Sm.r_sl|Sm.LM|Sm.LN|Sm.AV|Sm.ID|Sm.gJ|Sm.uV|Sm.LU|Sm.IE|Sm.Oh|Sm.Oi|Sm.NC|Sm.t_bk|Sm.t_ct|Sm.Ot|Sm.l_ct|Sm.l_bk|Sm.l_rt|Sm.Iy|Sm.LR";if k != 'o' && k != 'g' && k != 'r' then Lean.Macro.throwUnsupported else do {let t <- (((if k == 'r' then a ++ "|Sm.K8|Sm.La|Sm.w_add|Sm.w_sub|Sm.w_lt|Sm.w_le|Sm.Nx|Sm.Ny|Sm.Lg|Sm.w_neI|Sm.Lf|Sm.Lb|Sm.Le|Sm.Ld|Sm.Lc|Sm.HE|Sm.HF|Sm.yo" else a).splitOn "|").drop 1).toArray.mapM (λn => `(Lean.Parser.Tactic.tacticSeq| refine $(Lean.mkIdent n.toName) ?_));if k == 'o' then `(tactic| with_reducible first $[| $t]*) else `(tactic|((repeat with_reducible first $[| $t]*);(try dsimp only)))}
namespace Mi
open PySem Sm
theorem j4(hb:0 < b)(q:Q (.int (a % b),h)):Rn (q9 (.int a) (.int b) h) Q:=⟨_,by unfold q9;dsimp only;rw[PL hb],q⟩
theorem Ip(hb:0 < b)(hb2:b<=10^40)(q:Q (.int (a / b),h)):Rn (vH (.int a) (.int b) h) Q:=⟨_,by unfold vH;dsimp only;rw[PL ⟨hb,hb2⟩],q⟩
theorem mH(hb:lD a b=true)(q:Q (.int (a*b),h)):Rn (gQ (.int a) (.int b) h) Q:=⟨_,by show(if lD a b then _ else _)=_;rw[PL hb],q⟩
theorem mul_r(h1:-(2^64) < b)(h2:b < 2^64):lD a b=true:=by unfold lD;simp only[Rl,Qm,QB];exact .inr ⟨h1,h2⟩
theorem DL(h1:-(2^64) < a)(h2:a < 2^64):lD a b=true:=by unfold lD;simp only[Rl,Qm,QB];exact .inl ⟨h1,h2⟩
theorem Bn{h:MH}{s c:Nat}{cs:List Int}{n t:Int}(hs:h[s]?=some (.lst [.int n,.ob c,.int t]))(hc:h[c]?=some (.lst (cs.map D.int)))(ne:c≠s)(t0:0<=t)(tB:t < 2^60):
  Rn (i7 [.ob s] h) λp=>∃n',0<=n'/\p=(.bR,h.set s (.lst [.int n',.ob c,.int (t+1)])):=by
 have hl:s < h.length:=(PH.mp hs).1;generalize hH:h.set s (.lst [.int n,.ob c,.int (t+1)])=H;have Hs:H[s]?=some (.lst [.int n,.ob c,.int (t+1)]):=by rw[<-hH];exact Qr hl
 have Hc:H[c]?=some (.lst (cs.map D.int)):=by rw[<-hH,QA (Q2 ne)];exact hc
 have set0:∀v:Int,sF (.ob s) (.int 0) (.int v) H=some (h.set s (.lst [.int v,.ob c,.int (t+1)])):=λv=>by
  rw[vC (p:=0) Hs rfl,<-hH,List.set_set];rfl
 have e3:sF (.ob s) (.int 2) (.int (t+1)) h=some H:=by rw[vC (p:=2) hs rfl,<-hH];rfl
 have e4:ck [.ob c] H=some (.int cs.length,H):=by rw[Ab Hc,PC]
 refine bL ?_;walk_at "g";refine rv (iY hs rfl) ?_;walk_at "g";refine rv (iY hs rfl) ?_;walk_at "g";refine rv rfl ?_;walk_at "g";refine rv e3 ?_;walk_at "g";refine rv (BA Hc) ⟨_,rfl,λhne=>?pos,λhne=>?neg⟩
 case' pos=>
  have hpos:0 < cs.length:=by cases cs with | nil=>simp at hne | cons _ _=>simp
  walk_at "g";refine rv e4 (j4 (by lia) ?_);obtain⟨z,hz⟩:=EN cs (t % (cs.length:Int)) (QO _ (by lia)) (Ra _ (by lia));refine rv (iY Hc hz) ?_
 all_goals
  walk_at "g";refine rv e4 (rv rfl ⟨_,rfl,?_⟩);refine(λmix=>⟨λc1=>?thenA,λ_=>⟨λz=>(nomatch z),λ_=>mix⟩⟩) ?thenB
  case thenA=>
   walk_at "g";refine rv rfl ?_;walk_at "g";refine rv rfl (rv rfl ⟨_,rfl,λc2=>?_,λ_=>mix⟩);walk_at "g";refine rv rfl ?_;walk_at "g";refine rv (set0 _) ?_;walk_at "g";exact⟨_,by split <;> lia,rfl⟩
  case thenB=>
   walk_at "g";refine j4 (by decide) ?_;walk_at "g";refine mH (DL (by decide) (by decide)) ?_;walk_at "g";refine mH (mul_r (by lia) (by lia)) (rv rfl ?_);walk_at "g";refine rv rfl ?_;walk_at "g";refine mH (mul_r (by decide) (by decide)) ?_;walk_at "g";refine j4 (by decide) ?_;walk_at "g";refine mH (DL (Int.lt_of_lt_of_le (by decide) (QO _ (by decide))) (Int.lt_trans (Ra _ (by decide)) (by decide))) ?_;walk_at "g";refine j4 (by decide) ?_;walk_at "g";refine mH (mul_r (by decide) (by decide)) ?_;walk_at "g";refine rv rfl ?_;walk_at "g";refine rv rfl ?_;walk_at "g";refine j4 (by decide) ?_;walk_at "g";refine rv rfl (rv rfl ?_);walk_at "g";refine rv (set0 _) ?_;walk_at "g";exact⟨_,Int.add_nonneg (QO _ (by decide)) (by decide),rfl⟩
structure St(s c:Nat)(cs:List Int)(R:Nat)(h:MH):Prop where
 st:∃n t:Int,h[s]?=some (.lst [.int n,.ob c,.int t])/\0<=n/\0<=t/\t+R<=2^60
 ce:h[c]?=some (.lst (cs.map D.int))
 ne:c≠s
def rX(s:Nat)(h h':MH):Prop:=h'.length=h.length/\∀k,k≠s->h'[k]?=h[k]?
theorem rX.refl(s:Nat)(h:MH):rX s h h:=⟨rfl,λ_ _=>rfl⟩
theorem rX.trans(a:rX s h h1)(b:rX s h1 h2):rX s h h2:=⟨b.1.trans a.1,λk n=>(b.2 k n).trans (a.2 k n)⟩
theorem rX.set:rX s h (h.set s o):=⟨Rk,λk n=>QA (Q2 n)⟩
section
variable {s c R:Nat} {cs:List Int} {h:MH}
theorem St.le(S:St s c cs R h)(hB:R'<=R):St s c cs R' h:=by
 obtain⟨n,t,e,a,b,d⟩:=S.st;exact⟨⟨n,t,e,a,b,by lia⟩,S.ce,S.ne⟩
theorem St.dn(k:Nat)(S:St s c cs (R+k) h):St s c cs R h:=S.le (Qh _ _)
theorem St.set{R':Nat}{n t:Int}(S:St s c cs R h)(h1:0<=n)(h2:0<=t)(h3:t+R'<=2^60):St s c cs R' (h.set s (.lst [.int n,.ob c,.int t])):=by
 obtain⟨n0,t0,e,_⟩:=S.st;exact⟨⟨n,t,Qr (PH.mp e).1,h1,h2,h3⟩,by rw[QA (Q2 S.ne)];exact S.ce,S.ne⟩
theorem St.more(S:St s c cs R h)(g:MH):St s c cs R (h++g):=by
 obtain⟨n,t,e,r⟩:=S.st;exact⟨⟨n,t,by rw[PU (PH.mp e).1];exact e,r⟩,by rw[PU (PH.mp S.ce).1];exact S.ce,S.ne⟩
theorem St.off(S:St s c cs R h)(h1:k≠s)(h2:k≠c):St s c cs R (h.set k o):=by
 obtain⟨n,t,e,r⟩:=S.st;exact⟨⟨n,t,by rw[QA h1];exact e,r⟩,by rw[QA h2];exact S.ce,S.ne⟩
theorem St.lt(S:St s c cs R h):s < h.length/\c < h.length:=by
 obtain⟨n,t,e,r⟩:=S.st;exact⟨(PH.mp e).1,(PH.mp S.ce).1⟩
structure Sb(s c:Nat)(cs:List Int)(h0:MH)(R:Nat)(h:MH):Prop where
 S:St s c cs R h
 b:rX s h0 h
theorem St.sb(S:St s c cs R h):Sb s c cs h R h:=⟨S,rX.refl _ _⟩
theorem Sb.dn(k:Nat)(A:Sb s c cs h0 (R+k) h):Sb s c cs h0 R h:=⟨A.S.dn k,A.b⟩
theorem Sb.le(A:Sb s c cs h0 R h)(hR:R'<=R):Sb s c cs h0 R' h:=⟨A.S.le hR,A.b⟩
theorem Sb.at_(A:Sb s c cs h0 R h)(e:h0[k]?=some o)(n:k≠s):h[k]?=some o:=(A.b.2 k n).trans e
variable {h0:MH}
theorem dU{m:Int}{Q:D×MH->Prop}(A:Sb s c cs h0 (R+1) h)(m0:0 < m)(m1:m<=10^40)(k:∀(r:Int)(h1:MH),0<=r->r < m->Sb s c cs h0 R h1->Q (.int r,h1)):Rn (aT [.ob s,.int m] h) Q:=by
 have S:=A.S;obtain⟨n,t,hs,n0,t0,tB⟩:=S.st;refine bL ?_;walk_at "g";refine rv (iY hs rfl) ?_;walk_at "g";refine rv rfl ⟨_,rfl,λ_=>?pos,λ_=>?neg⟩
 case' pos=>
  walk_at "g";obtain⟨p,ep,n',n0',rfl⟩:=Bn hs S.ce S.ne t0 (by lia);refine rv ep ?_;have S1:St s c cs R (h.set s (.lst [.int n',.ob c,.int (t+1)])):=S.set n0' (by lia) (by lia);have b1:rX s h (h.set s (.lst [.int n',.ob c,.int (t+1)])):=rX.set
 case' neg=>
  have S1:St s c cs R h:=S.dn 1;have b1:rX s h h:=rX.refl s h
 all_goals
  generalize h.set s (MO.lst [D.int _,D.ob c,D.int (t+1)])=h1 at*;obtain⟨n2,t2,hs2,n02,t02,tB2⟩:=S1.st;walk_at "g";refine rv (iY hs2 rfl) ?_;walk_at "g";refine j4 m0 ?_;walk_at "g";refine rv (iY hs2 rfl) ?_;walk_at "g";refine Ip m0 m1 ?_;walk_at "g";refine rv (vC (p:=0) hs2 rfl) ?_;walk_at "g";exact k _ _ (QO _ (by lia)) (Ra _ m0) ⟨S1.set (Int.ediv_nonneg n02 (by lia)) t02 tB2,A.b.trans (b1.trans rX.set)⟩
theorem vU(A:Sb s c cs h0 (R+1) h)(hd:d=.lv xs\/d=.tup xs)(l0:0 < xs.length)(l1:xs.length<=1000000)(k:∀(x:D)(h1:MH),x∈xs->Sb s c cs h0 R h1->Q (x,h1)):Rn (aL [.ob s,d] h) Q:=by
 refine bL ?_;walk_at "g";have e1:ck [d] h=some (.int xs.length,h):=by rcases hd with rfl | rfl <;> rfl
 refine rv e1 ?_;walk_at "g";refine dU A (by lia) (by lia) λr h' r0 r1 A1=>?_;obtain⟨v,e3,hv⟩:=EK r0 r1;have e4:aV d (.int r) h'=some (v,h'):=by rcases hd with rfl | rfl <;> simp only[aV,dG,dE,Ql,e3,Qw]
 refine rv e4 ?_;walk_at "g";exact k v h' hv A1
theorem jT{is:List Int}{Q:D×MH->Prop}(P:Int->Prop)(hP:∀i∈is,P i)(A:Sb s c cs h0 (R+1) h)(k:∀(i:Int)(h1:MH),P i->i∈is->Sb s c cs h0 R h1->Q (.int i,h1))(l0:0 < is.length:=by simp)(l1:is.length<=1000:=by simp):Rn (aL [.ob s,.lv (is.map D.int)] h) Q:=
 vU A (.inl rfl) (by rw[PC];exact l0) (by rw[PC];lia) λx h1 hx A1=>by
  obtain⟨i,hi,rfl⟩:=Qz.mp hx;exact k i h1 (hP i hi) hi A1
end
theorem yZ(ns:List Int)(hn:ns.length<=63)(R:Nat)(hR:R<=2^60):∃cs:List Int,fE [.ro (ns.map D.int)] []=some (.ob 1,[.lst (cs.map D.int),.lst [.int 0,.ob 0,.int 0]])/\St 1 0 cs R [.lst (cs.map D.int),.lst [.int 0,.ob 0,.int 0]]:=by
 refine⟨(ns.drop (HT.cE ns.length 0 none)).take (HT.cE ns.length ns.length (some 63)-HT.cE ns.length 0 none),?_,⟨⟨0,0,rfl,by decide,by decide,by lia⟩,rfl,by decide⟩⟩;have e:Rn (fE [.ro (ns.map D.int)] []) λp=>p=(.ob 1,[.lst (((ns.drop (HT.cE ns.length 0 none)).take (HT.cE ns.length ns.length (some 63)-HT.cE ns.length 0 none)).map D.int),.lst [.int 0,.ob 0,.int 0]]):=by
  refine bL ?_;walk_at "g";refine IB ?_;walk_at "g";refine⟨_,rfl,rv rfl ?_⟩;walk_at "g";refine⟨_,_,_,rfl,rfl,?_⟩;walk_at "g";simp only[cutD,PC,Ue,Ti,QJ,RE,R8,P1]
 obtain⟨p,ep,rfl⟩:=e;exact ep
end Mi
namespace Mi
open PySem Sm L2
theorem bI(hl:a.length+b.length<=10000):aw (.str a) (.str b) h=some (.str (a++b),h):=by
 show(if a.length+b.length<=sizeLine then some (D.str (a++b),h) else none)=_;rw[PL (by rw[show sizeLine=16777216 from rfl];lia)]
theorem Ec(hl:a.length<=10000):ck [.str a] h=some (.int a.length,h):=by
 show(if a.length<=sizeLine then some (D.int a.length,h) else none)=_;rw[PL (by rw[show sizeLine=16777216 from rfl];lia)]
theorem xo(hl:a.length<=10000):iD (.str a) lo hi h=some (.str (Txt.slice a lo hi),h):=by
 show(if a.length<=sizeLine then some (D.str (Txt.slice a lo hi),h) else none)=_;rw[PL (by rw[show sizeLine=16777216 from rfl];lia)]
noncomputable def rH(z:Str)(i:Int):Str:=match gU z.cps.toList i with
 | some c=>⟨#[c]⟩
 | none=>""
theorem GC(hl:z.length<=10000)(h0:0<=i)(h1:i < z.cps.toList.length):(rH z i).length=1/\aV (.str z) (.int i) h=some (.str (rH z i),h):=by
 obtain⟨v,e,_⟩:=EK (xs:=z.cps.toList) h0 h1;have e1:rH z i=⟨#[v]⟩:=by unfold rH;rw[e]
 rw[e1];refine⟨rfl,?_⟩;show(if z.length<=sizeLine then(gU z.cps.toList i).map λc=>(D.str ⟨#[c]⟩,h) else none)=_;rw[PL (by rw[show sizeLine=16777216 from rfl];lia),e];rfl
noncomputable def eU:Str:="abcdefghijklmnopqrstuvwxyz"
theorem km(h0:0<=i)(h1:i < 26):(rH eU i).length=1/\aV (.str "abcdefghijklmnopqrstuvwxyz") (.int i) h=some (.str (rH eU i),h):=
 GC (z:=eU) (by decide) h0 (by rw[show(eU.cps.toList.length:Int)=26 by decide];exact h1)
def low(w:Str):Prop:=∀c∈w.cps,97<=c/\c<=122
theorem Gk:low "":=λc hc=>absurd (show c∈(#[]:Array Nat) from hc) (by simp)
theorem vv(ha:low a)(hb:low b):low (a++b):=by
 intro c hc;have hc':c∈a.cps++b.cps:=hc;rcases Array.mem_append.mp hc' with z | z
 ·exact ha c z
 ·exact hb c z
theorem tI(l u:Option Int)(h:low x):low (Txt.slice x l u):=by
 unfold Txt.slice
 split
 ·exact h
 ·intro c hc;have hc':c∈(List.filterMap (x.cps[·]?) (Builtin.Str.strSliceIndices l u 1 x.length)).toArray:=hc;rw[List.mem_toArray] at hc';obtain⟨i,_,e⟩:=Q9.mp hc';exact h c (UD e)
theorem Ju(h:low w):PyData.strOk w=true:=jd.mpr λc hc=>by have:=(h c hc).2;exact QS this (by decide)
theorem yL:eU.cps.toList=(List.range 26).map (97+·):=by decide+kernel
theorem vN(h0:0<=i)(h1:i < 26):rH eU i=⟨#[97+i.toNat]⟩:=by
 obtain⟨n,rfl⟩:=QM h0;have:gU eU.cps.toList (n:Int)=some (97+n):=by
  rw[yL];exact pG (by rw[P8,UL (by exact SN.mp h1)];rfl)
 unfold rH;rw[this];rfl
theorem xE(h0:0<=i)(h1:i < 26):low (rH eU i):=by
 rw[vN h0 h1];intro c hc;have:c=97+i.toNat:=by simpa using hc
 lia
theorem wA(h0:0<=j):(Txt.slice x none (some j)).length<=j.toNat:=by
 have key:(Builtin.Str.strSliceIndices none (some j) 1 x.length).length<=j.toNat:=by
  unfold Builtin.Str.strSliceIndices sliceRange;simp only[show(1:Int) > 0 by decide,Sg,PC,Qy]
  (split <;> (try split) <;> (try split) <;> (try simp only[Ux]) <;> lia)
 unfold Txt.slice
 split
 ·next z=>simp at z;have:x.cps.size=x.length:=rfl;lia
 ·show(List.filterMap _ (Builtin.Str.strSliceIndices none (some j) 1 x.length)).toArray.size<=_;rw[P5];exact PY (Sr _ _) key
theorem wz(h0:0<=j):(Txt.slice x (some j) none).length<=x.length-j.toNat:=by
 have key:(Builtin.Str.strSliceIndices (some j) none 1 x.length).length<=x.length-j.toNat:=by
  unfold Builtin.Str.strSliceIndices sliceRange;simp only[show(1:Int) > 0 by decide,Sg,PC,Qy]
  (split <;> (try split) <;> (try split) <;> (try simp only[Ux]) <;> lia)
 unfold Txt.slice
 split
 ·next z=>simp at z;have:x.cps.size=x.length:=rfl;lia
 ·show(List.filterMap _ (Builtin.Str.strSliceIndices (some j) none 1 x.length)).toArray.size<=_;rw[P5];exact PY (Sr _ _) key
theorem zc{a b x y:Str}(e:a++x++b=a++y++b):x=y:=by
 have e1:(a.cps++x.cps)++b.cps=(a.cps++y.cps)++b.cps:=congrArg Str.cps e;have e2:=congrArg Array.toList e1;simp only[Array.toList_append] at e2;have e3:=List.append_cancel_left (List.append_cancel_right e2);cases x;cases y;exact congrArg Str.mk (Array.toList_inj.mp e3)
noncomputable def wordAt(stem:Str)(at_ first stride:Int)(k:Int):Str:=Txt.slice stem none (some at_)++rH eU ((first+stride*k) % 26)++Txt.slice stem (some at_) none
theorem Cg{stem:Str}{at_ first stride:Int}{k j:Nat}(hs:stride∈[1,3,5,7,9,11])(hk:k < 6)(hj:j < 6)(e:wordAt stem at_ first stride k=wordAt stem at_ first stride j):k=j:=by
 have e1:=zc (show Txt.slice stem none (some at_)++_++Txt.slice stem (some at_) none=Txt.slice stem none (some at_)++_++_ from e);rw[vN (QO _ (by decide)) (Ra _ (by decide)),vN (QO _ (by decide)) (Ra _ (by decide))] at e1;have e2:97+((first+stride*k) % 26).toNat=97+((first+stride*j) % 26).toNat:=by injection e1 with e1;injection e1 with e1;injection e1
 have e3:(first+stride*k) % 26=(first+stride*j) % 26:=by
  have a1:=QO (first+stride*k) (show(26:Int)≠0 by decide);have a2:=QO (first+stride*j) (show(26:Int)≠0 by decide);rw[<-RO a1,<-RO a2,Nat.add_left_cancel e2]
 have e4:=Int.emod_eq_emod_iff_emod_sub_eq_zero.mp e3;rw[show first+stride*(k:Int)-(first+stride*(j:Int))=stride*((k:Int)-(j:Int)) by rw[Int.mul_sub,Int.add_sub_add_left]] at e4;exact(by decide:∀s∈([1,3,5,7,9,11]:List Int),∀k:Nat,k < 6->∀j:Nat,j < 6->(s*((k:Int)-(j:Int))) % 26=0->k=j) stride hs k hk j hj e4
theorem vS{h:MH}{s c R:Nat}{cs:List Int}{m:Int}{h0:MH}{Q:D×MH->Prop}(A:Sb s c cs h0 (R+20) h)(m0:0<=m)(m1:m<=6)
  (kk:∀(ws:List Str)(h1:MH),ws.length=m.toNat->(∀w∈ws,1<=w.length/\w.length<=7/\low w)->ws.Nodup->Sb s c cs h0 R h1->Q (.lv (ws.map D.str),h1)):Rn (dW [.ob s,.int m] h) Q:=by
 refine bL ?_;walk_at "g";refine g9 ?_;walk_at "g";refine jT (is:=[0,1,1,2,3,6]) (λi=>0<=i/\i<=6) (by decide) A λk h1 hk _ A1=>?_;walk_at "g";refine⟨k,rfl,by exact QX (by decide) hk.1,by exact RB hk.2 (by decide),?_⟩;refine cK (λi δ h'=>∃stem d4,δ=[some (.ob s),some (.int m),some (.str "abcdefghijklmnopqrstuvwxyz"),some (.str stem),d4,none,none,none]/\stem.length<=i/\low stem/\Sb s c cs h0 (R+19-i) h')
  ⟨"",_,rfl,PJ _,Gk,A1⟩ (λ_ _ _ _ _=>rfl) ?_ ?_
 ·rintro i x δ h2 hx ⟨stem,d4,rfl,hst,ba,A2⟩;have hi:i < k.toNat:=by
   have:=(PH.mp hx).1
   simpa using this
  rw[show R+19-i=R+19-(i+1)+1 by lia] at A2;walk_at "g";refine dU A2 (by decide) (by decide) λr h3 r0 r1 A3=>?_;walk_at "g";obtain⟨hc,e4⟩:=km (h:=h3) r0 r1;refine rv e4 ?_;walk_at "g";refine rv (bI (by lia)) ?_;walk_at "g";exact⟨stem++rH eU r,_,rfl,by rw[Qt];lia,vv ba (xE r0 r1),A3⟩
 ·rintro δ h2 ⟨stem,d4,rfl,hst,ba,A2⟩;rw[PC,Qy] at hst A2;have A2:Sb s c cs h0 (R+3) h2:=A2.le (by lia);walk_at "g";refine rv (Ec (by lia)) ?_;walk_at "g";refine rv (a:=(.int ((stem.length:Int)+1),h2)) rfl ?_;walk_at "g";refine dU A2 (by simp) (by lia) λat_ h3 a0 a1 A3=>?_
  walk_at "g";refine dU A3 (by decide) (by decide) λfirst h4 f0 f1 A4=>?_
  walk_at "g";refine jT (is:=[1,3,5,7,9,11]) (λi=>0<=i/\i<=11) (by decide) A4 λstride h5 ht tm A5=>?_;obtain⟨t0,t1⟩:=ht;walk_at "g";refine g9 ?_;walk_at "g";refine⟨m,rfl,by exact QX (by decide) m0,by exact RB m1 (by decide),?_⟩;have hw:∀k:Int,1<=(wordAt stem at_ first stride k).length/\(wordAt stem at_ first stride k).length<=7/\low (wordAt stem at_ first stride k):=by
   intro k;have c0:=QO (first+stride*k) (show(26:Int)≠0 by decide);have c1:=Ra (first+stride*k) (show(0:Int) < 26 by decide);obtain⟨hc,e⟩:=km (i:=(first+stride*k) % 26) (h:=[]) c0 c1;have s1:=wA (x:=stem) a0;have s2:=wz (x:=stem) a0;have s3:low (wordAt stem at_ first stride k):=vv (vv (tI _ _ ba) (xE c0 c1)) (tI _ _ ba);refine(λ(z:_/\_)=>⟨z.1,z.2,s3⟩) ?_;unfold wordAt;rw[Qt,Qt]
   lia
  refine rv (uW rfl (λx=>match x with | .int k=>some (.str (wordAt stem at_ first stride k)) | _=>none) (λδ=>∃d0,δ=[d0,some (.int at_),some (.int first),some (.str "abcdefghijklmnopqrstuvwxyz"),some (.str stem),some (.int stride)]) ⟨_,rfl⟩ ?_) ⟨?_,?_⟩
  ·rintro x hx δ ⟨d0,rfl⟩;obtain⟨k,hk,rfl⟩:=Qz.mp hx;refine rv rfl ⟨rfl,rv rfl ⟨rfl,⟨_,rfl⟩,λ_=>⟨_,rfl,?_⟩,λz=>(nomatch z)⟩⟩;refine mO (mO (yo ?_));walk_at "g";refine⟨_,rfl,rv (xo (a:=stem) (by lia)) ?_⟩;walk_at "g";refine mH (DL (by exact QX (by decide) t0) (by exact RB t1 (by decide))) ?_;refine rv (a:=(.int (first+stride*(k:Int)),h5)) rfl ?_;walk_at "g";refine j4 (by decide) ?_;obtain⟨hc,e⟩:=km (i:=(first+stride*(k:Int)) % 26) (h:=h5) (QO _ (by decide)) (Ra _ (by decide));have s1:=Txt.slice_le stem none (some at_);have s2:=Txt.slice_le stem (some at_) none;refine rv e (rv (bI (by lia)) ?_);refine yo ?_;walk_at "g";refine⟨_,rfl,?_⟩;walk_at "g";refine rv (xo (a:=stem) (by lia)) (rv (bI (by rw[Qt];lia)) ?_);rfl
  ·rw[Sk];exact PY (Sr _ _) (by rw[Qy,show sizeLine=16777216 from rfl];lia)
  ·walk_at "g";rw[show List.filterMap (λx=>match x with | D.int k=>some (D.str (wordAt stem at_ first stride k)) | _=>none) ((List.range m.toNat).map λ(k:Nat)=>D.int k)=((List.range m.toNat).map λ(k:Nat)=>wordAt stem at_ first stride (k:Int)).map D.str by
    rw[Sk,Ro];exact congrFun (UC (f:=D.str∘λ(k:Nat)=>wordAt stem at_ first stride (k:Int))) _]
   refine kk _ h5 (by simp) (λw hw'=>?_) ?_ A5
   ·obtain⟨k,_,rfl⟩:=Qz.mp hw';exact hw k
   ·rw[List.nodup_iff_pairwise_ne,List.pairwise_map];refine(List.nodup_range (n:=m.toNat)).imp_of_mem λ{a b} ha hb hab e=>hab ?_;have:=Rw.mp ha;have:=Rw.mp hb;exact Cg tm (by lia) (by lia) e
theorem rX.app{s:Nat}{hb h2:MH}{o:MO}(b:rX s (hb++[o]) h2)(hs:s < hb.length):∃hb',h2=hb'++[o]/\rX s hb hb':=by
 have hl:h2.length=hb.length+1:=by rw[b.1];simp
 refine⟨h2.take hb.length,?_,by rw[Qb];lia,λk hk=>?_⟩
 ·refine TB λk=>?_
  by_cases z:k < hb.length
  ·rw[PU (by rw[Qb];lia),Qp z]
  ·by_cases z2:k=hb.length
   ·subst z2;rw[b.2 _ (by exact SK hs),P9 (PJ _),P9 (by rw[Qb];lia),Qb];rw[show min hb.length h2.length=hb.length by lia]
   ·rw[QC (by lia),QC (by rw[PR,Qb];simp;lia)]
 ·by_cases z:k < hb.length
  ·rw[Qp z,b.2 k hk,PU z]
  ·rw[QC (by rw[Qb];lia),QC (by exact Q6 z)]
theorem St.cut{s c:Nat}{cs:List Int}{B:Nat}{hb g:MH}(S:Mi.St s c cs B (hb++g))(h1:s < hb.length)(h2:c < hb.length):Mi.St s c cs B hb:=by
 obtain⟨n,t,e,r⟩:=S.st;have e2:=S.ce;rw[PU h1] at e;rw[PU h2] at e2;exact⟨⟨n,t,e,r⟩,e2,S.ne⟩
def Cl(h:MH):Prop:=∀o∈h,xQ h.length o=true
theorem An(n:Nat):∀js:List Int,fc n (js.map D.int)=true
 | []=>rfl
 | j::r=>by rw[P6];show(gu n (.int _)&&fc n _)=true;rw[An n r];rfl
theorem Cl.but{s c:Nat}{cs:List Int}{B:Nat}{h h':MH}(C:Cl h)(S:Mi.St s c cs B h')(b:rX s h h'):Cl h':=by
 intro o ho;obtain⟨k,hk⟩:=Rg.mp ho
 by_cases z:k=s
 ·subst z;obtain⟨n,t,e,_⟩:=S.st;rw[e] at hk;cases hk;show(true&&(decide (c < h'.length)&&(true&&true)))=true;rw[Qj S.lt.2];rfl
 ·rw[b.2 k z] at hk;rw[b.1];exact C o (PF hk)
theorem qO{h hb g:MH}{d:D}(hl:hb.length=h.length)(C:Cl hb)(h1:∀n,d≠.ob n)(h2:gu h.length d=true):leave h d (hb++g)=some (d,hb):=by
 have h3:x5 h.length (hb++g) d=d:=by
  cases d with
  | ob n=>exact absurd rfl (h1 n)
  | _=>rfl
 unfold leave;rw[h3,<-hl,Sd (PJ _),QT,hl,h2];have:(hb.all (xQ h.length))=true:=by
  rw[R9];intro o ho;rw[<-hl];exact C o ho
 rw[this,Bool.or_true];rfl
theorem OE{n:Nat}{o:MO}{h:MH}(e:h[n]?=some o):lT [(n,o)] h=true:=by
 unfold lT;rw[e];dsimp only;rw[t7];rfl
theorem Cl.add{h:MH}(C:Cl h){o:MO}(ho:xQ (h.length+1) o=true)(up:∀o∈h,xQ h.length o=true->xQ (h.length+1) o=true):Cl (h++[o]):=by
 intro x hx;rw[PR,R6];rcases Qi.mp hx with z | z
 ·exact up x z (C x z)
 ·rw[P4.mp z];exact ho
mutual
theorem Ey{n m:Nat}(hm:n<=m):∀d:D,gu n d=true->gu m d=true
 | .bR,_=>rfl
 | .bl _,_=>rfl
 | .int _,_=>rfl
 | .str _,_=>rfl
 | .ty _,_=>rfl
 | .ob k,h=>by simp only[gu,QB] at h ⊢;exact PY h hm
 | .tup xs,h=>by simp only[gu] at h ⊢;exact kA hm xs h
 | .lv xs,h=>by simp only[gu] at h ⊢;exact kA hm xs h
 | .ro xs,h=>by simp only[gu] at h ⊢;exact kA hm xs h
 | .dv xs,h=>by simp only[gu] at h ⊢;exact y7 hm xs h
theorem kA{n m:Nat}(hm:n<=m):∀d:List D,fc n d=true->fc m d=true
 | [],_=>rfl
 | x::r,h=>by
  simp only[fc,Qm] at h ⊢;exact⟨Ey hm x h.1,kA hm r h.2⟩
theorem y7{n m:Nat}(hm:n<=m):∀d:List (Key×D),GP n d=true->GP m d=true
 | [],_=>rfl
 |(_,x)::r,h=>by
  simp only[GP,Qm] at h ⊢;exact⟨Ey hm x h.1,y7 hm r h.2⟩
end
theorem Ke{n m:Nat}(hm:n<=m)(o:MO)(h:xQ n o=true):xQ m o=true:=by
 cases o with
 | lst xs=>exact kA hm xs h
 | dct xs=>exact y7 hm xs h
 | dcH xs=>have h:=Qc.mp h;exact Qc.mpr ⟨kA hm _ h.1,kA hm _ h.2⟩
 | exc _=>rfl
theorem Cl.snoc{h:MH}(C:Cl h){o:MO}(ho:xQ (h.length+1) o=true):Cl (h++[o]):=C.add ho λx _ z=>Ke (S8 _) x z
theorem Cl.set{h:MH}(C:Cl h){n:Nat}{o:MO}(ho:xQ h.length o=true):Cl (h.set n o):=by
 intro x hx;rw[Rk];rcases T8 hx with z | z
 ·exact C x z
 ·rw[z];exact ho
theorem Kf{n:Nat}:∀{xs:List D},(∀x∈xs,gu n x=true)->fc n xs=true
 | [],_=>rfl
 | x::r,h=>by
  show(gu n x&&fc n r)=true;rw[h x PQ,Kf λy hy=>h y (PV _ hy)];rfl
end Mi
namespace Sm
open PySem L2
theorem bp{α:Type}{o:Option α}{a:α}(r:Rn o λp=>p=a):o=some a:=let⟨_,e,q⟩:=r;by rw[e,q]
theorem xr(hl:xs.length+ys.length<=10000):aw (.tup xs) (.tup ys) h=some (.tup (xs++ys),h):=by
 cases xs with
 | nil=>rfl
 | cons x xs=>
  show(if xs.length+1+ys.length<=sizeLine then some (D.tup (x::xs++ys),h) else none)=_;rw[PL (by rw[show sizeLine=16777216 from rfl];rw[P1] at hl;exact PY hl (by decide))]
theorem Ez{ea eb ec:EM}{δ:DS}{h:MH}{a n b:Int}(ha:ea δ h=some (.int a,h))(hn:eb δ h=some (.int n,h))(hb:ec δ h=some (.int b,h)):fv B1 B1 ea eb ec δ h=some (.bl (decide (a<=n)&&decide (n<=b)),h):=by
 refine bp (qp (rv ha (rv hn (rv rfl ⟨_,rfl,?_⟩))))
 by_cases c:a<=n
 ·rw[PL (Qj c),Qj c];exact rv hb (rv rfl rfl)
 ·rw[P0 (by simpa using c),Qv c];rfl
end Sm
namespace Mi
open PySem Sm L2 Pg
noncomputable def mj(W:Wd)(fl:List Int)(left odd:Int):MO:=.dct [(.inr (Str.ofString "names"),.lv (W.names.map D.str)),(.inr (Str.ofString "deeds"),.lv (W.aj.map D.str)),(.inr (Str.ofString "params"),.lv (W.params.map λps=>.lv (ps.map D.str))),(.inr (Str.ofString "floors"),.lv (fl.map D.int)),(.inr (Str.ofString "left"),.int left),(.inr (Str.ofString "odd"),.int odd)]
structure oX(W:Wd)(fl:List Int)(odd:Int):Prop where
 n1:1<=W.names.length
 n2:W.names.length<=6
 d1:1<=W.aj.length
 d2:W.aj.length<=6
 pl:W.params.length=W.aj.length
 p3:∀ps∈W.params,ps.length<=3
 Oy:fl.length=W.aj.length
 f0:∀f∈fl,0<=f/\f < W.names.length
 o0:0<=odd
 o1:odd<=1000
 sn:∀w∈W.names,1<=w.length/\w.length<=7/\low w
 sd:∀w∈W.aj,1<=w.length/\w.length<=7/\low w
 sp:∀ps∈W.params,∀w∈ps,1<=w.length/\w.length<=7/\low w
 nn:W.names.Nodup
 nd:W.aj.Nodup
 np:∀ps∈W.params,ps.Nodup
section
variable {h:MH} {wd:Nat} {W:Wd} {fl:List Int} {left odd:Int}
theorem dI(hw:h[wd]?=some (mj W fl left odd)):aV (.ob wd) (.str (Str.ofString "names")) h=some (.lv (W.names.map D.str),h):=by simp only[aV,dG,hw,mj];rfl
theorem dJ(hw:h[wd]?=some (mj W fl left odd)):aV (.ob wd) (.str (Str.ofString "deeds")) h=some (.lv (W.aj.map D.str),h):=by simp only[aV,dG,hw,mj];rfl
theorem cU(hw:h[wd]?=some (mj W fl left odd)):aV (.ob wd) (.str (Str.ofString "params")) h=some (.lv (W.params.map λps=>.lv (ps.map D.str)),h):=by simp only[aV,dG,hw,mj];rfl
theorem mn(hw:h[wd]?=some (mj W fl left odd)):aV (.ob wd) (.str (Str.ofString "floors")) h=some (.lv (fl.map D.int),h):=by simp only[aV,dG,hw,mj];rfl
theorem oY(hw:h[wd]?=some (mj W fl left odd)):aV (.ob wd) (.str (Str.ofString "left")) h=some (.int left,h):=by simp only[aV,dG,hw,mj];rfl
theorem xV(hw:h[wd]?=some (mj W fl left odd)):aV (.ob wd) (.str (Str.ofString "odd")) h=some (.int odd,h):=by simp only[aV,dG,hw,mj];rfl
theorem Ci(hw:h[wd]?=some (mj W fl left odd))(v:Int):sF (.ob wd) (.str (Str.ofString "left")) (.int v) h=some (h.set wd (mj W fl v odd)):=by
 have h1:(6:Nat) < sizeLine:=by decide
 simp only[sF,hw,mj,vy,Ql,P1,QJ];rw[PL h1];rfl
end
section
variable {h h0:MH} {s c wd R:Nat} {cs:List Int} {W:Wd} {fl:List Int} {left odd:Int} {Q:D×MH->Prop}
theorem EE(A:Sb s c cs h0 (R+1) h)(hw:h[wd]?=some (mj W fl left odd))(ok:oX W fl odd)(k:∀(b:Bool)(h1:MH),Sb s c cs h0 R h1->Q (.bl b,h1)):Rn (di [.ob s,.ob wd] h) Q:=by
 refine bL ?_;nofun;refine rv (xV hw) ?_;nofun;refine⟨_,rfl,λz=>?_,λz=>?_⟩
 ·nofun;refine rv (xV hw) ?_;nofun;refine dU A (Qq z) (by have:=ok.o1;exact QX this (by decide)) λm h1 _ _ A1=>?_;nofun;exact k _ _ A1
 ·nofun;exact k _ _ (A.dn 1)
theorem vT{ps:List Str}(A:Sb s c cs h0 (R+4) h)(hp:ps.length<=3)(k:∀(t:Term)(h1:MH),eB ps t->t.2<=40->Sb s c cs h0 R h1->Q (bq t,h1)):Rn (bU [.ob s,.lv (ps.map D.str)] h) Q:=by
 refine bL ?_;nofun;refine dU A (by decide) (by decide) λm h1 m0 m1 A1=>?_;nofun;have plain:∀{h2:MH} {P:D×MH->Prop},Sb s c cs h0 (R+1) h2->(∀(i:Int)(h3:MH),-40<=i/\i<=40->Sb s c cs h0 R h3->P (.int i,h3))->Rn (aL [.ob s,.lv [.int 0,.int 0,.int 1,.int 1,.int 2,.int 3,.int (-1),.int (m-40)]] h2) P:=λA2 kk=>
  jT (is:=[0,0,1,1,2,3,-1,m-40]) (λi=>-40<=i/\i<=40) (by intro x hx;simp at hx;lia) A2 λi h3 hi _ A3=>kk i h3 hi A3
 refine⟨_,rfl,λz=>?_,λz=>⟨λz=>(nomatch z),λ_=>?_⟩⟩
 ·have z:0 < ps.length:=by simpa using z
  nofun;refine dU A1 (by decide) (by decide) λm2 h2 _ _ A2=>?_;nofun;refine⟨_,rfl,λ_=>?_,λ_=>?_⟩
  ·nofun;refine vU A2 (.inl rfl) (by simpa using z) (by simp;lia) λd3 h3 hd3 A3=>?_;obtain⟨w,hw,rfl⟩:=Qz.mp hd3;nofun;refine jT (is:=[0,0,0,0,1,1,-1,2,m-40]) (λi=>-40<=i/\i<=40) (by intro x hx;simp at hx;lia) A3 λi h4 hi _ A4=>?_;nofun;exact k (w,i) h4 ⟨.inr hw,by dsimp only;exact QX (by decide) hi.1,by dsimp only;exact QX hi.2 (by decide)⟩ hi.2 A4
  ·nofun;refine plain (A2.dn 1) λi h3 hi A3=>?_;nofun;exact k (Str.ofString "",i) h3 ⟨.inl rfl,by dsimp only;exact QX (by decide) hi.1,by dsimp only;exact QX hi.2 (by decide)⟩ hi.2 A3
 ·nofun;refine plain (A1.dn 2) λi h3 hi A3=>?_;nofun;exact k (Str.ofString "",i) h3 ⟨.inl rfl,by dsimp only;exact QX (by decide) hi.1,by dsimp only;exact QX hi.2 (by decide)⟩ hi.2 A3
end
theorem cg{α:Type}{xs:List α}{f:α->D}{h:MH}{j:Nat}{x:α}(e:xs[j]?=some x):aV (.lv (xs.map f)) (.int j) h=some (f x,h):=by
 have hj:j < xs.length:=by
  rcases Nat.lt_or_ge j xs.length with z | z
  ·exact z
  ·rw[QC z] at e;cases e
 show((gU (xs.map f) j).map λz=>(z,h))=_;have:gU (xs.map f) j=some (f x):=by
  unfold gU;rw[show vz (xs.map f).length j=some j by unfold vz;simp;exact hj];show(xs.map f)[j]?=_;rw[P8,e];rfl
 rw[this];rfl
theorem lL(i j:Int)(h:MH):vE [.int i,.int j] h=some (.int (max i j),h):=by
 show some (D.int (if j > i then j else i),h)=_;rw[show(if j > i then j else i)=max i j by split <;> lia]
theorem GB(i j:Int)(h:MH):Eb [.int i,.int j] h=some (.int (min i j),h):=by
 show some (D.int (if j < i then j else i),h)=_;rw[show(if j < i then j else i)=min i j by split <;> lia]
theorem z8{α:Type}{o:Option Bool}{x y:Option α}{X Y:α->Prop}(r:∃c,o=some c/\(c=true->Rn x Y)/\(c=false->Rn y Y))(f:∀p,Y p->X p):∃c,o=some c/\(c=true->Rn x X)/\(c=false->Rn y X):=
 let⟨c,e,a,b⟩:=r
 ⟨c,e,λz=>(a z).imp f,λz=>(b z).imp f⟩
noncomputable def pN(t:Term):PyData:=.tuple [.str t.1,.int t.2]
theorem sZ:∀ts:List Term,nS (ts.map bq)=some (ts.map pN)
 | []=>rfl
 | c::r=>by simp only[P6,nS,sZ r,bq,xP,Ql,Qw];rfl
theorem oz:∀ts:List Term,PyData.depthAll (ts.map pN)<=1
 | []=>by simp[PyData.depthAll]
 | c::r=>by
  have:=oz r;simp only[P6,PyData.depthAll,pN,PyData.depth]
  lia
theorem yT(ts:List Term)(h:MH):jE (.lv (ts.map bq)) (.lv []) h=some (.bl (!ts.isEmpty),h):=by
 have:=oz ts;simp only[jE,Hm,dG,KW,zD,sZ,xP,nS,Qw,Ql];rw[PL ⟨show PyData.depthAll _+1<=64 by exact QS this (by decide),by decide⟩];cases ts <;> rfl
section
variable {h h0:MH} {s c wd R:Nat} {cs:List Int} {W:Wd} {fl:List Int} {left odd:Int} {Q:D×MH->Prop}
theorem Kk{ps:List Str}{j:Nat}{top:Int}{held:List Lock}(A:Sb s c cs h0 (R+10) h)(hw0:h0[wd]?=some (mj W fl left odd))(hne:wd≠s)(ok:oX W fl odd)(hp:W.params[j]?=some ps)(hj:j < W.aj.length)(ht:top<=W.names.length)(hh:∀l∈held,fu W ps l)(hl:held.length<=1000)
  (k1:∀(k:Int)(l:Lock)(h1:MH),max top (fl[j]?.getD 0) < W.names.length->0<=k->k < W.names.length->fu W ps l->Sb s c cs h0 R h1->Q (.tup [.int k,aJ l],h1))
  (k2:∀(h1:MH),max top (fl[j]?.getD 0)=W.names.length->Sb s c cs h0 R h1->Q (.tup [.bR,.bR],h1)):Rn (fg [.ob s,.ob wd,.int j,.int top,.lv (held.map aJ)] h) Q:=by
 have hw:=A.at_ hw0 hne;obtain⟨f,hf⟩:∃f,fl[j]?=some f:=⟨_,P7 (by rw[ok.Oy];exact hj)⟩;have hfm:=ok.f0 f (PF hf);have n2:=ok.n2;rw[hf] at k1 k2;dsimp only[Option.getD_some] at k1 k2;refine bL ?_;nofun;refine rv (mn hw) ?_;nofun;refine rv (cg hf) ?_;nofun;refine rv (lL top f h) ?_;have lo0:0<=max top f:=by lia
 have lo1:max top f<=W.names.length:=by lia
 generalize max top f=lo at lo0 lo1 k1 k2 ⊢;nofun;refine rv (dI hw) ?_;nofun;refine⟨_,rfl,λz=>?_,λz=>?_⟩
 ·have z:lo=W.names.length:=by simpa using z
  nofun;exact k2 h z (A.dn 10)
 have z:lo≠W.names.length:=by simpa using z
 have z0:lo < W.names.length:=by lia
 have k1:=λk l h1=>k1 k l h1 z0;clear k2;nofun;refine rv (dI hw) ?_;nofun;simp only[PC];refine dU A (by lia) (by lia) λm h1 m0 m1 A1=>?_;nofun;refine EE A1 (A1.at_ hw0 hne) ok λb h2 A2=>?_;nofun;refine z8 (Y:=λr=>∃(k:Int)(h3:MH),r=(Fl.nx,[some (.ob s),some (.ob wd),some (.int j),some (.int top),some (.lv (held.map aJ)),some (.int lo),some (.int k),none,none,none,none],h3)/\0<=k/\k < W.names.length/\Sb s c cs h0 (R+7) h3) ?_ ?_
 ·refine⟨b,rfl,λ_=>?_,λ_=>?_⟩
  ·nofun;refine rv (dI (A2.at_ hw0 hne)) ?_;nofun;simp only[PC];refine dU A2 (by exact RB hfm.1 hfm.2) (by lia) λk h3 k0 k1 A3=>?_;exact⟨k,h3,rfl,k0,k1,A3⟩
  ·nofun;exact⟨lo+m,h2,rfl,by lia,by lia,A2.dn 1⟩
 rintro _ ⟨k,h3,rfl,k0,kL,A3⟩;have hw3:=A3.at_ hw0 hne;have k1:=λl h1=>k1 k l h1 k0 kL;obtain⟨kn,rfl⟩:=QM k0;obtain⟨nm,hnm⟩:∃f,W.names[kn]?=some f:=⟨_,P7 (by exact SN.mp kL)⟩;show Rn _ _;nofun;refine rv (dI hw3) ?_;nofun;refine rv (cg hnm) ?_;nofun;refine du ?_;nofun;refine⟨_,_,rfl,?_⟩;obtain⟨⟨ys,h4⟩,e4,hyl,hym,δ4,hh4,_⟩:=ph (ws:=[]) (g:=gN 0) (c:=aI (ao df (ao aV (av 0) (eK (D.int 0))) (av 1))) (e:=ao aV (av 0) (eK (D.int 1))) (λx y=>∃l∈held,x=aJ l/\y=bq l.2)
  (xs:=held.map aJ) (δ:=[none,some (.str nm)]) (h:=h3) (λj δ h'=>h'=h3/\∃d0,δ=[d0,some (.str nm)]) ⟨rfl,_,rfl⟩ (λ_ _ _ _ _=>rfl) (by
   rintro i x δ h' hx ⟨rfl,d0,rfl⟩;obtain⟨l,hl,rfl⟩:=Qz.mp (PF hx);nofun;refine rv (a:=(.str l.1,_)) rfl ?_;nofun;refine⟨_,rfl,λ_=>?_,λ_=>⟨rfl,_,rfl⟩⟩;nofun;exact rv (a:=(bq l.2,_)) rfl ⟨⟨l,hl,rfl,rfl⟩,rfl,_,rfl⟩)
 dsimp only at hh4;subst hh4;refine rv e4 ⟨PY hyl (by rw[PC,show sizeLine=16777216 from rfl];exact PY hl (by decide)),?_⟩;obtain⟨ts,rfl,htm⟩:∃ts:List Term,ys=ts.map bq/\∀t∈ts,eB ps t:=by
  clear e4 hyl
  induction ys with
  | nil=>exact⟨[],rfl,λ_ z=>(nomatch z)⟩
  | cons y r ih=>
   obtain⟨js,rfl,h1⟩:=ih λz hz=>hym z (PV _ hz);obtain⟨x,hx,l,hl,rfl,rfl⟩:=hym y PQ;exact⟨l.2::js,rfl,Tb.mpr ⟨(hh l hl).2,h1⟩⟩
 nofun;have pl:=ok.p3 ps (PF hp);refine rv (yT ts _) ⟨_,rfl,λz=>?_,λz=>⟨λz=>(nomatch z),λ_=>?_⟩⟩
 ·nofun;refine EE A3 hw3 ok λb' h5 A5=>⟨_,rfl,λ_=>?_,λ_=>?_⟩
  ·have hts:ts≠[]:=by rintro rfl;cases z
   obtain⟨us,last,rfl⟩:∃us last,ts=us++[last]:=⟨ts.dropLast,ts.getLast hts,(List.dropLast_concat_getLast hts).symm⟩;have hlast:=htm last (by simp);nofun;refine rv (a:=(bq last,_)) (by
    show((gU ((us++[last]).map bq) (-1)).map λz=>(z,h5))=_;rw[Qf];show((gU (us.map bq++[bq last]) (-1)).map λz=>(z,h5))=_;rw[EL];rfl) ?_
   nofun;refine rv (a:=_) rfl ?_;nofun;refine dU A5 (by decide) (by decide) λm6 h6 m60 m61 A6=>?_;nofun;refine rv (GB _ _ _) ?_;nofun;exact k1 (nm,(last.1,min 99 (last.2+1+m6))) h6 ⟨PF hnm,hlast.1,by dsimp only;have:=hlast.2;lia,by dsimp only;lia⟩ (A6.dn 5)
  ·nofun;refine rv (cU (A5.at_ hw0 hne)) ?_;nofun;refine rv (cg hp) ?_;nofun;refine vT (A5.dn 2) pl λt h6 tk _ A6=>?_;nofun;exact k1 (nm,t) h6 ⟨PF hnm,tk⟩ A6
 ·nofun;refine rv (cU hw3) ?_;nofun;refine rv (cg hp) ?_;nofun;refine vT (A3.dn 3) pl λt h6 tk _ A6=>?_;nofun;exact k1 (nm,t) h6 ⟨PF hnm,tk⟩ A6
end
theorem xp(cs:List Int)(h:MH):df (.lv (cs.map D.int)) (.lv []) h=some (.bl cs.isEmpty,h):=by
 simp only[df,Hm,dG,KW,zD,qq,xP,nS,Qw,Ql,PyData.depth,kz];cases cs <;> rfl
theorem IF(r:Rn (m δ h) λp=>∃j:Int,p.1=[.int j]/\0<=j/\j<=1000/\Q ((List.range j.toNat).map λ(k:Nat)=>D.int (k:Int),p.2)):Rn (Ks m δ h) Q:=a8 (r.imp λp ⟨j,e,h1,h2,q⟩=>by
 rw[e];dsimp only;rw[PL ⟨h1,h2⟩];exact⟨_,rfl,q⟩)
section
variable {h h0:MH} {s c wd R:Nat} {cs:List Int} {W:Wd} {fl:List Int} {left odd:Int} {Q:D×MH->Prop}
theorem Km{top:Int}(A:Sb s c cs h0 (R+14) h)(hw0:h0[wd]?=some (mj W fl left odd))(hne:wd≠s)(ok:oX W fl odd)(hp:W.params[j]?=some ps)(hj:j < W.aj.length)
  (kk:∀(r:Row)(h1:MH),(∀n,bE W ps n r)->cnt r=1->Sb s c cs h0 R h1->Q (ax r,h1)):Rn (gk [.ob s,.ob wd,.int j,.int top] h) Q:=by
 have hw:=A.at_ hw0 hne;have d2:=ok.d2;have pl:=ok.p3 ps (PF hp);obtain⟨dj,hdj⟩:∃f,W.aj[j]?=some f:=⟨_,P7 hj⟩;refine bL ?_;nofun;refine g9 ?_;nofun;refine rv (dJ hw) ?_;nofun;refine⟨(W.aj.map D.str).length,rfl,by rw[PC];simp,by rw[PC];lia,?_⟩;rw[PC,RJ];obtain⟨⟨ys,h1⟩,e1,hyl,hym,δ1,hh1,_⟩:=ph (ws:=[]) (g:=gN 0) (c:=oN (aI (ao vG (ao aV (ao aV (av 3) (eK (.str "floors"))) (av 0)) (av 2))) (aI (ao GF (av 0) (av 1)))) (e:=av 0) (λx y=>y=x)
  (xs:=(List.range W.aj.length).map λ(k:Nat)=>D.int (k:Int)) (δ:=[none,some (.int j),some (.int top),some (.ob wd)]) (h:=h) (λi δ h'=>h'=h/\∃d0,δ=[d0,some (.int j),some (.int top),some (.ob wd)]) ⟨rfl,_,rfl⟩ (λ_ _ _ _ _=>rfl) (by
   rintro i x δ h' hx ⟨rfl,d0,rfl⟩;rw[P8] at hx;obtain⟨k,hk,hk2⟩:=Qg.mp hx;subst hk2;have hkl:k < fl.length:=by rw[ok.Oy];exact Rw.mp (PF hk)
   obtain⟨f,hf⟩:∃f,fl[k]?=some f:=⟨_,P7 hkl⟩;nofun;refine rv (mn hw) ?_;nofun;refine rv (cg hf) ?_;nofun;refine⟨_,rfl,λ_=>?_,λ_=>⟨λz=>(nomatch z),λ_=>⟨rfl,_,rfl⟩⟩⟩;nofun;refine⟨_,rfl,λ_=>?_,λ_=>⟨rfl,_,rfl⟩⟩;nofun;exact⟨rfl,rfl,_,rfl⟩)
 dsimp only at hh1;subst hh1;refine rv e1 ⟨PY hyl (by rw[PC,Qy,show sizeLine=16777216 from rfl];exact PY d2 (by decide)),?_⟩;have hint:∀zs:List D,(∀y∈zs,∃x,x∈(List.range W.aj.length).map (λ(k:Nat)=>D.int (k:Int))/\y=x)->∃js:List Int,zs=js.map D.int/\∀k∈js,0<=k/\k < W.aj.length:=by
  intro zs hz
  induction zs with
  | nil=>exact⟨[],rfl,λ_ z=>(nomatch z)⟩
  | cons y r ih=>
   obtain⟨js,rfl,q⟩:=ih λz hz'=>hz z (PV _ hz');obtain⟨x,hx,rfl⟩:=hz y PQ;obtain⟨k,hk,rfl⟩:=Qz.mp hx;exact⟨k::js,rfl,λi hi=>by
    rcases PZ.mp hi with rfl | hi
    ·have:=Rw.mp hk;clear ih;lia
    ·exact q i hi⟩
 have hyn:ys.length<=6:=by
  have h9:ys.length<=_:=hyl;rw[PC,Qy] at h9;exact PY h9 d2
 obtain⟨js,rfl,hjs⟩:=hint ys hym;rw[PC] at hyn;nofun;refine EE A hw ok λb h2 A2=>?_;have hw2:=A2.at_ hw0 hne;nofun;refine z8 (Y:=λr=>∃(ks:List Int),r=(Fl.nx,[some (.ob s),some (.ob wd),some (.int j),some (.int top),some (.lv (ks.map D.int)),none,none],h2)/\ks.length<=6/\∀k∈ks,0<=k/\k < W.aj.length) ?_ ?_
 ·refine⟨b,rfl,λ_=>?_,λ_=>?_⟩
  ·nofun;refine IF ?_;nofun;refine rv (dJ hw2) ?_;nofun;refine⟨(W.aj.map D.str).length,rfl,by rw[PC];simp,by rw[PC];lia,?_⟩;rw[PC,RJ];obtain⟨ks,hk1,hk2⟩:=hint _ λy hy=>⟨y,hy,rfl⟩;refine⟨ks,?_,?_,hk2⟩
   ·show _=_;rw[<-hk1];rfl
   ·have:=congrArg List.length hk1;rw[PC,PC,Qy] at this
    lia
  ·nofun;exact⟨js,rfl,hyn,hjs⟩
 rintro _ ⟨ks,rfl,kn,hks⟩;show Rn _ _;nofun;refine rv (xp ks _) ⟨_,rfl,λz=>?_,λz=>?_⟩
 ·nofun;refine rv (dJ hw2) ?_;nofun;refine rv (cg hdj) ?_;nofun;have:=kk (.say dj) h2 (λn=>by unfold bE;exact Qa _ (PF hdj)) (by rw[cnt]) (A2.dn 13);rw[ax] at this;exact this
 have z0:0 < ks.length:=by cases ks with | nil=>cases z | cons _ _=>simp
 nofun;refine vU A2 (.inl rfl) (by simpa using z0) (by simp;lia) λd3 h3 hd3 A3=>?_;have hw3:=A3.at_ hw0 hne;obtain⟨k,hk,rfl⟩:=Qz.mp hd3;obtain⟨k0,k1⟩:=hks k hk;obtain⟨kn',rfl⟩:=QM k0;have hkl:kn' < W.aj.length:=by exact SN.mp k1
 obtain⟨dk,hdk⟩:∃f,W.aj[kn']?=some f:=⟨_,P7 hkl⟩;obtain⟨qs,hqs⟩:∃f,W.params[kn']?=some f:=⟨_,P7 (by rw[ok.pl];exact hkl)⟩;have ql:=ok.p3 qs (PF hqs);nofun;refine du ?_;nofun;refine rv (cU hw3) ?_;nofun;refine rv (cg hqs) ?_;refine⟨_,_,rfl,?_⟩;obtain⟨⟨zs,h4⟩,e4,hzs,δ4,_,A4⟩:=pj (ws:=[]) (g:=gN 0) (e:=ak bU (af (av 2) (af (ao aV (ao aV (av 3) (eK (.str "params"))) (av 1)) aH))) (λ_ y=>∃t:Term,y=bq t/\eB ps t)
  (xs:=qs.map D.str) (δ:=[none,some (.int j),some (.ob s),some (.ob wd)]) (h:=h3) (λi δ h'=>(∃d0,δ=[d0,some (.int j),some (.ob s),some (.ob wd)])/\Sb s c cs h0 (R+4*(3-i)) h') ⟨⟨_,rfl⟩,A3⟩ (λ_ _ _ _ _=>rfl) (by
   rintro i x δ h' hx ⟨⟨d0,rfl⟩,Ai⟩;have hi:i < 3:=by
    have:=(PH.mp hx).1;rw[PC] at this
    lia
   rw[show R+4*(3-i)=R+4*(3-(i+1))+4 by clear Ai;lia] at Ai;have hwi:=Ai.at_ hw0 hne;nofun;refine rv (cU hwi) ?_;nofun;refine rv (cg hp) ?_;nofun;exact vT Ai pl λt h6 tk _ A6=>⟨⟨t,rfl,tk⟩,⟨_,rfl⟩,A6⟩)
 obtain⟨ts,rfl,htm⟩:∃ts:List Term,zs=ts.map bq/\∀t∈ts,eB ps t:=by
  have hr:=hzs.right;clear e4 hzs A4;dsimp only at hr
  induction zs with
  | nil=>exact⟨[],rfl,λ_ z=>(nomatch z)⟩
  | cons y r ih=>
   obtain⟨js,rfl,h1⟩:=ih λz hz=>hr z (PV _ hz);obtain⟨x,hx,t,rfl,tk⟩:=hr y PQ;exact⟨t::js,rfl,λj hj=>by
    rcases PZ.mp hj with rfl | hj
    ·exact tk
    ·exact h1 j hj⟩
 have hzl:=hzs.length;dsimp only at hzl;rw[PC,PC] at hzl;refine rv e4 ⟨by dsimp only;rw[PC,show sizeLine=16777216 from rfl];lia,?_⟩;have A4:Sb s c cs h0 R h4:=A4.le (Qh _ _);have hw4:=A4.at_ hw0 hne;nofun;refine rv (dJ hw4) ?_;nofun;refine rv (cg hdk) ?_;nofun;refine rv (a:=(.tup (ts.map bq),_)) rfl ?_;nofun;have:=kk (.call dk ts) h4 (λn=>by unfold bE;exact⟨⟨kn',qs,hdk,hqs,hzl⟩,htm⟩) (by rw[cnt]) A4;rw[ax] at this;exact this
end
def fW(s wd:Nat)(h h':MH):Prop:=h'.length=h.length/\∀k,k≠s->k≠wd->h'[k]?=h[k]?
theorem fW.refl(s wd:Nat)(h:MH):fW s wd h h:=⟨rfl,λ_ _ _=>rfl⟩
theorem fW.trans(a:fW s wd h h1)(b:fW s wd h1 h2):fW s wd h h2:=⟨b.1.trans a.1,λk n m=>(b.2 k n m).trans (a.2 k n m)⟩
theorem rX.two(a:rX s h h1):fW s wd h h1:=⟨a.1,λk n _=>a.2 k n⟩
theorem fW.set:fW s wd h (h.set wd o):=⟨Rk,λk _ n=>QA (Q2 n)⟩
theorem fW.OK(b:fW s wd (hb++g) h2)(hs:s < hb.length)(hw:wd < hb.length):∃hb',h2=hb'++g/\fW s wd hb hb':=by
 have hl:h2.length=hb.length+g.length:=by rw[b.1];simp
 refine⟨h2.take hb.length,?_,by rw[Qb];lia,λk hk hk'=>?_⟩
 ·refine TB λk=>?_
  by_cases z:k < hb.length
  ·rw[PU (by rw[Qb];lia),Qp z]
  ·rw[b.2 _ (by lia) (by lia),P9 (by exact Q6 z),P9 (by rw[Qb];lia),Qb];rw[show min hb.length h2.length=hb.length by lia]
 ·by_cases z:k < hb.length
  ·rw[Qp z,b.2 k hk hk',PU z]
  ·rw[QC (by rw[Qb];lia),QC (by exact Q6 z)]
theorem gS(n:Nat):∀js:List Str,fc n (js.map D.str)=true
 | []=>rfl
 | j::r=>by rw[P6];show(gu n (.str _)&&fc n _)=true;rw[gS n r];rfl
theorem tX(n:Nat):∀js:List (List Str),fc n (js.map λps=>.lv (ps.map D.str))=true
 | []=>rfl
 | j::r=>by rw[P6];show(fc n (j.map D.str)&&fc n _)=true;rw[gS n j,tX n r];rfl
theorem y4(n:Nat)(W:Wd)(fl:List Int)(l odd:Int):xQ n (mj W fl l odd)=true:=by
 show(fc n _&&(fc n _&&(fc n _&&(fc n _&&(true&&(true&&true))))))=true;rw[gS,gS,tX,An];rfl
structure En where
 s:Nat
 c:Nat
 wd:Nat
 cs:List Int
 W:Wd
 fl:List Int
 odd:Int
 ok:oX W fl odd
 ne:wd≠s
 nc:wd≠c
structure Wb(E:En)(h0:MH)(R l:Nat)(h:MH):Prop where
 S:St E.s E.c E.cs R h
 w:h[E.wd]?=some (mj E.W E.fl l E.odd)
 C:Cl h
 b:fW E.s E.wd h0 h
section
variable {E:En} {h0 h h1 h' g:MH} {R R' l l' k:Nat} {Q:D×MH->Prop}
theorem Wb.lt(A:Wb E h0 R l h):E.s < h.length/\E.c < h.length/\E.wd < h.length:=⟨A.S.lt.1,A.S.lt.2,(PH.mp A.w).1⟩
theorem Wb.by(A:Wb E h0 R l h)(B:Sb E.s E.c E.cs h R' h1):Wb E h0 R' l h1:=⟨B.S,(B.b.2 _ E.ne).trans A.w,A.C.but B.S B.b,A.b.trans B.b.two⟩
theorem Wb.le(A:Wb E h0 R l h)(hR:R'<=R):Wb E h0 R' l h:=⟨A.S.le hR,A.w,A.C,A.b⟩
theorem Wb.here(A:Wb E h0 R l h):Wb E h R l h:=⟨A.S,A.w,A.C,fW.refl _ _ _⟩
theorem Wb.tr(A:Wb E h1 R l h)(b:fW E.s E.wd h0 h1):Wb E h0 R l h:=⟨A.S,A.w,A.C,b.trans A.b⟩
theorem Wb.set(A:Wb E h0 R l h)(v:Nat):Wb E h0 R v (h.set E.wd (mj E.W E.fl v E.odd)):=
 ⟨A.S.off E.ne E.nc,Qr A.lt.2.2,A.C.set (y4 _ _ _ _ _),A.b.trans fW.set⟩
theorem Wb.push(A:Wb E h0 R l h)(ho:xQ (h.length+1) o=true):Wb E (h++[o]) R l (h++[o]):=⟨A.S.more _,by rw[PU A.lt.2.2];exact A.w,A.C.snoc ho,fW.refl _ _ _⟩
theorem Kd(C:Cl h)(S:St E.s E.c E.cs R h')(w:h'[E.wd]?=some (mj E.W E.fl l E.odd))(b:fW E.s E.wd h h'):Cl h':=by
 intro o ho;obtain⟨k,hk⟩:=Rg.mp ho
 by_cases z:k=E.s
 ·subst z;obtain⟨n,t,e,_⟩:=S.st;rw[e] at hk;cases hk;show(true&&(decide (E.c < h'.length)&&(true&&true)))=true;rw[Qj S.lt.2];rfl
 ·by_cases z2:k=E.wd
  ·subst z2;rw[w] at hk;cases hk;exact y4 _ _ _ _ _
  ·rw[b.2 k z z2] at hk;rw[b.1];exact C o (PF hk)
theorem Wb.pop(A0:Wb E h0 R0 l0 h)(A:Wb E (h++g) R l h'):∃hb,h'=hb++g/\hb.length=h.length/\Wb E h0 R l hb:=by
 obtain⟨h1,h2,h3⟩:=A0.lt;obtain⟨hb,rfl,b⟩:=A.b.OK h1 h3;have e:=b.1;have S:=A.S.cut (by lia) (by lia);have w:=A.w;rw[PU (by lia)] at w;exact⟨hb,rfl,e,S,w,Kd A0.C S w b,A0.b.trans b⟩
theorem w_next(A:Wb E h0 (R+1) l h)(m0:0 < m)(m1:m<=10^40)(k:∀(r:Int)(h1:MH),0<=r->r < m->Wb E h0 R l h1->Q (.int r,h1)):Rn (aT [.ob E.s,.int m] h) Q:=
 dU A.S.sb m0 m1 λr h1 r0 r1 S1=>k r h1 r0 r1 (A.by S1)
theorem K9(A:Wb E h0 (R+1) l h)(hd:d=.lv xs\/d=.tup xs)(l0:0 < xs.length)(l1:xs.length<=1000000)(k:∀(x:D)(h1:MH),x∈xs->Wb E h0 R l h1->Q (x,h1)):Rn (aL [.ob E.s,d] h) Q:=
 vU A.S.sb hd l0 l1 λx h1 hx S1=>k x h1 hx (A.by S1)
theorem Cj{is:List Int}(P:Int->Prop)(hP:∀i∈is,P i)(A:Wb E h0 (R+1) l h)(k:∀(i:Int)(h1:MH),P i->Wb E h0 R l h1->Q (.int i,h1))(l0:0 < is.length:=by simp)(l1:is.length<=1000:=by simp):Rn (aL [.ob E.s,.lv (is.map D.int)] h) Q:=
 jT P hP A.S.sb (λi h1 hi _ S1=>k i h1 hi (A.by S1)) l0 l1
theorem um(A:Wb E h0 (R+4) l h)(hp:ps.length<=3)(k:∀(t:Term)(h1:MH),eB ps t->Wb E h0 R l h1->Q (bq t,h1)):Rn (bU [.ob E.s,.lv (ps.map D.str)] h) Q:=
 vT A.S.sb hp λt h1 ht _ S1=>k t h1 ht (A.by S1)
structure Cd(W:Wd)(j:Nat)(ps:List Str)(d:Nat)(top:Int)(held:List Lock):Prop where
 hp:W.params[j]?=some ps
 hj:j < W.aj.length
 d1:1<=d
 ht:top<=W.names.length
 hh:∀x∈held,fu W ps x
 hl:held.length<=4*d
variable {j d f:Nat} {ps:List Str} {top:Int} {held:List Lock}
theorem Cd.more{W:Wd}{n:Nat}{top':Int}{ls:List Lock}(G:Cd W j ps d top held)(ht:top'<=W.names.length)(hl:ls.length<=4*n)(ho:∀x∈ls,fu W ps x):Cd W j ps (d+n) top' (held++ls):=
 ⟨G.hp,G.hj,PY G.d1 (Qh _ _),ht,λx hx=>(Qi.mp hx).elim (G.hh x) (ho x),by have:=G.hl;rw[PR];lia⟩
theorem Cd.deep{W:Wd}(G:Cd W j ps d top held):Cd W j ps (d+1) top held:=⟨G.hp,G.hj,Tt G.d1,G.ht,G.hh,by have:=G.hl;lia⟩
theorem Cd.pl(G:Cd E.W j ps d top held):ps.length<=3:=E.ok.p3 ps (PF G.hp)
theorem Ck(A:Wb E h0 (R+10) l h)(G:Cd E.W j ps d top held)(hd:d<=5)(k1:∀(k:Int)(x:Lock)(h1:MH),max top (E.fl[j]?.getD 0) < E.W.names.length->0<=k->k < E.W.names.length->fu E.W ps x->Wb E h0 R l h1->Q (.tup [.int k,aJ x],h1))
  (k2:∀(h1:MH),max top (E.fl[j]?.getD 0)=E.W.names.length->Wb E h0 R l h1->Q (.tup [.bR,.bR],h1)):Rn (fg [.ob E.s,.ob E.wd,.int j,.int top,.lv (held.map aJ)] h) Q:=
 Kk A.S.sb A.w E.ne E.ok G.hp G.hj G.ht G.hh (by have:=G.hl;lia) (λk x h1 a b c e S1=>k1 k x h1 a b c e (A.by S1)) λh1 a S1=>k2 h1 a (A.by S1)
theorem HG(A:Wb E h0 (R+14) l h)(G:Cd E.W j ps d top held)(k:∀(r:Row)(h1:MH),(∀n,bE E.W ps n r)->cnt r=1->Wb E h0 R l h1->Q (ax r,h1)):Rn (gk [.ob E.s,.ob E.wd,.int j,.int top] h) Q:=
 Km A.S.sb A.w E.ne E.ok G.hp G.hj λr h1 a b S1=>k r h1 a b (A.by S1)
abbrev EV(E:En)(h0:MH)(R l:Nat)(ps:List Str)(d:Nat)(Q:D×MH->Prop):Prop:=∀(r:Row)(l':Nat)(h':MH),bE E.W ps d r->l'+cnt r=l+1->Wb E h0 (R+100*l') l' h'->Q (ax r,h')
abbrev OO(E:En)(h0:MH)(R l:Nat)(ps:List Str)(d:Nat)(Q:D×MH->Prop):Prop:=∀(t:List Row)(l':Nat)(h':MH),bP E.W ps d t->t.length<=12->l'+aB t=l->Wb E h0 (R+100*l') l' h'->Q (.tup (b7 t),h')
def BV(E:En)(f:Nat):Prop:=∀{h0 h:MH} {R l j:Nat} {ps:List Str} {d:Nat} {top:Int} {held:List Lock} {most:Int} {Q:D×MH->Prop},Wb E h0 (R+100*l+4) l h->Cd E.W j ps d top held->d<=5->3*(5-d)+2<=f->1<=most->most<=12->OO E h0 R l ps d Q->
 Rn (bK f [.ob E.s,.ob E.wd,.int j,.int d,.int top,.lv (held.map aJ),.int most] h) Q
def Kz(E:En)(f:Nat):Prop:=∀{h0 h:MH} {R l j:Nat} {ps:List Str} {d:Nat} {top:Int} {held:List Lock} {Q:D×MH->Prop},Wb E h0 (R+100*l+100) l h->Cd E.W j ps d top held->d<=5->3*(5-d)+1<=f->EV E h0 R l ps d Q->
 Rn (fR f [.ob E.s,.ob E.wd,.int j,.int d,.int top,.lv (held.map aJ)] h) Q
def EU(E:En)(f:Nat):Prop:=∀{h0 h:MH} {R l j:Nat} {ps:List Str} {d:Nat} {top:Int} {held:List Lock} {way:Str} {Q:D×MH->Prop},Wb E h0 (R+100*l+95) l h->Cd E.W j ps d top held->d < 5->3*(5-d)<=f->way∈[Str.ofString "within",Str.ofString "ask",Str.ofString "all"]->EV E h0 R l ps d Q->
 Rn (dh f [.ob E.s,.ob E.wd,.int j,.int d,.int top,.lv (held.map aJ),.str way] h) Q
def Ku(E:En)(f:Nat):Prop:=∀{h0 h:MH} {R l j:Nat} {ps:List Str} {d:Nat} {top:Int} {held:List Lock} {Q:D×MH->Prop},Wb E h0 (R+100*l+95) l h->Cd E.W j ps d top held->d < 3->5 < l->3*(5-d)<=f->EV E h0 R l ps d Q->
 Rn (cG f [.ob E.s,.ob E.wd,.int j,.int d,.int top,.lv (held.map aJ)] h) Q
end
theorem sY(r:Rn (b (entry len ds) h) (Fz λp=>Rn (leave h p.1 p.2) Q)):Rn (Hi len b ds h) Q:=by
 obtain⟨p,e,q⟩:=bL r;obtain⟨z,e2,k⟩:=q;refine⟨z,?_,k⟩;have e:((b (entry len ds) h).bind r8)=some p:=e;show((b (entry len ds) h).bind r8).bind _=_;rw[e];exact e2
theorem qo{isT:D->MH->Bool}{f:ET}{o:EM}{m:AM}{δ:DS}{h:MH}{Q:D×MH->Prop}(r:Rn (o δ h) λp=>isT p.1 p.2=true/\Rn (m δ p.2) λq=>Rn (f p.1 q.1 q.2) Q):Rn (eM isT f o m δ h) Q:=
 a8 (r.imp λp ⟨e,r⟩=>by rw[PL e];exact a8 r)
theorem eZ(e:h[n]?=some (.lst xs)):dB (.ob n) h=true:=by unfold dB dw;dsimp only;rw[e];rfl
theorem eF(e:h[n]?=some (.lst xs))(hl:xs.length < sizeLine):eT (.ob n) [y] h=some (.bR,h.set n (.lst (xs++[y]))):=by unfold eT;dsimp only;rw[e];dsimp only;rw[PL hl]
theorem vL(n:Nat)(t:Term):gu n (bq t)=true:=rfl
theorem pE(n:Nat)(t:Lock):gu n (aJ t)=true:=rfl
theorem eP(n:Nat)(f:α->D)(hf:∀x,gu n (f x)=true):∀xs:List α,fc n (xs.map f)=true
 | []=>rfl
 | x::r=>by rw[P6];show(gu n (f x)&&fc n _)=true;rw[hf x,eP n f hf r];rfl
mutual
theorem rE(n:Nat):∀r:Row,gu n (ax r)=true
 | .say w=>by rw[ax];rfl
 | .call d ts=>by rw[ax];show(true&&(true&&(fc n _&&true)))=true;rw[eP n _ (vL n)];rfl
 | .within l b=>by rw[ax];show(true&&(gu n (aJ l)&&(fc n _&&true)))=true;rw[pE,dS n b];rfl
 | .all ls b=>by rw[ax];show(true&&(fc n _&&(fc n _&&true)))=true;rw[eP n _ (pE n),dS n b];rfl
 | .ask l b e=>by rw[ax];show(true&&(gu n (aJ l)&&(fc n _&&(fc n _&&true))))=true;rw[pE,dS n b,dS n e];rfl
 | .nv s t a b c=>by rw[ax];show(true&&(gu n (bq s)&&(gu n (bq t)&&(fc n _&&(fc n _&&(fc n _&&true))))))=true;rw[vL,vL,dS n a,dS n b,dS n c];rfl
 | .either a b=>by rw[ax];show(true&&(fc n _&&(fc n _&&true)))=true;rw[dS n a,dS n b];rfl
 | .again a=>by rw[ax];show(true&&(fc n _&&true))=true;rw[dS n a];rfl
theorem dS(n:Nat):∀r:List Row,fc n (b7 r)=true
 | []=>by rw[b7];rfl
 | r::rs=>by rw[b7];show(gu n _&&fc n _)=true;rw[rE n r,dS n rs];rfl
end
theorem qU(e:H.length=n):(H++[a])[n]?=some a:=by rw[<-e];simp
theorem Ie(e:H.length=n):(H++[a]).set n b=H++[b]:=by rw[<-e];simp
section
variable {E:En} {f:Nat}
theorem yJ(hr:Kz E f):BV E (f+1):=by
 intro h0 h R l j ps d top held most Q A G d5 hf m0 m1 k;unfold bK;refine sY ?_;nofun;refine g9 ?_;nofun;refine rv (a:=(.lv (List.replicate 15 (D.int most)),_)) rfl ?_;nofun;refine rv (a:=(.lv ((List.replicate 15 most++[12]).map D.int),_)) rfl ?_;nofun;refine Cj (λi=>1<=i/\i<=12) (by intro x hx;simp at hx;lia) (A.push (o:=.lst []) rfl) λi h2 hi A2=>?_;nofun;refine w_next (m:=i+1) A2 (by lia) (by exact RB hi.2 (by decide)) λm h3 n0 n1 A3=>?_;nofun;refine⟨m,rfl,by exact QX (by decide) n0,by lia,?_⟩;obtain⟨hb,rfl,hbl,A3⟩:=A.pop A3;refine cK (λi δ h'=>∃(t:List Row)(l':Nat)(d8:Option D)(hb:MH),δ=[some (.ob E.s),some (.ob E.wd),some (.int j),some (.int d),some (.int top),some (.lv (held.map aJ)),some (.int most),some (.ob h.length),d8]/\h'=hb++[.lst (b7 t)]/\hb.length=h.length/\bP E.W ps d t/\t.length<=i/\l'+aB t=l/\Wb E h0 (R+100*l'+2) l' hb)
  ⟨[],l,_,hb,rfl,by rw[b7],hbl,by unfold bP;trivial,PJ _,by simp[aB],A3⟩ (λ_ _ _ _ _=>rfl) ?_ ?_
 ·rintro q x δ h' hx ⟨t,l',d8,hb,rfl,rfl,hbl,okl,hll,hc,A4⟩;have hq:q < 12:=by
   have:=(PH.mp hx).1;simp at this
   lia
  have A5:=A4.push (o:=.lst (b7 t)) (dS _ t);nofun;refine rv (oY A5.w) ?_;nofun;refine⟨_,rfl,λz=>?_,λz=>?_⟩
  ·obtain⟨l1,rfl⟩:∃n,l'=n+1:=⟨l'-1,by have:=Qq z;lia⟩;nofun;refine rv (oY A5.w) ?_;nofun;refine rv (Ci A5.w _) ?_;rw[show((l1+1:Nat):Int)-1=(l1:Int) by simp];have A6:=A5.set l1;nofun;refine qo ?_;nofun;refine⟨eZ (xs:=b7 t) (by rw[QA (by have:=A4.lt;lia)];exact qU hbl),?_⟩;nofun;refine hr (R:=R+2) (A6.le (by lia)) G d5 (by exact RW hf) λr l6 h6 okr cr A7=>?_;obtain⟨hb6,rfl,hbl6,A8⟩:=A4.pop A7;nofun;have hl6:=hbl6.trans hbl;refine rv (eF (qU hl6) (by rw[aX,PC,show sizeLine=16777216 from rfl];lia)) ?_;rw[Ie hl6];nofun;have hcn:aB (t++[r])=aB t+cnt r:=by rw[lS];simp[aB]
   exact⟨t++[r],l6,_,hb6,rfl,by rw[aX,aX,Qf];rfl,hl6,tE okl (by unfold bP;exact⟨okr,by unfold bP;trivial⟩),by simp;exact hll,by lia,A8.le (by lia)⟩
  ·nofun;exact⟨t,l',_,hb,rfl,rfl,hbl,okl,by exact Tt hll,hc,A4⟩
 ·rintro δ h' ⟨t,l',d8,hb,rfl,rfl,hbl,okl,hll,hc,A4⟩;rw[PC,Qy] at hll;nofun;refine rv (a:=(.tup (b7 t),hb++[.lst (b7 t)])) (by simp only[eJ,dE,qU hbl,Qw]) ?_;nofun;exact rv (qO hbl A4.C (λn z=>(nomatch z)) (dS _ t)) (k t l' hb okl (by lia) hc (A4.le (by lia)))
end
theorem zH:∀{xs:List D} {δ:DS} {h:MH} (J:List D->DS->MH->Prop),J [] δ h->(∀ys δ h,J ys δ h->lT ws h=true)->
  (∀x ys δ h,x∈xs->ys.length < xs.length->J ys δ h->Rn (g x δ h) λq=>Rn (e q.1 q.2) λy=>J (ys++[y.1]) q.1 y.2)->Rn (cf ws g cx e xs δ h) λp=>p.1.length=xs.length/\∃δ',J p.1 δ' p.2
 | [],δ,h,J,hJ,hc,_=>by
  unfold cf;rw[PL (hc [] δ h hJ)];exact⟨_,rfl,rfl,δ,hJ⟩
 | x::xs,δ,h,J,hJ,hc,ht=>by
  unfold cf;rw[PL (hc [] δ h hJ)];obtain⟨⟨δ1,h1⟩,e1,⟨y,h2⟩,e2,J1⟩:=ht x [] δ h PQ (Nat.succ_pos _) hJ;obtain⟨⟨ys,h3⟩,e3,a,δ',J2⟩:=zH (ws:=ws) (g:=g) (e:=e) (xs:=xs) (λys=>J (y::ys)) J1 (λys δ h=>hc (y::ys) δ h) λx ys δ h hx hl=>ht x (y::ys) δ h (PV _ hx) (Nat.succ_lt_succ hl);refine⟨(y::ys,h3),?_,congrArg Nat.succ a,δ',J2⟩;rw[e1];dsimp only[Option.bind_some];show((some (true,h1)).bind _)=_;dsimp only[Option.bind_some] at e2 e3 ⊢;rw[PL rfl,e2];dsimp only[Option.bind_some];rw[e3];rfl
theorem rg(f:α->D)(xs ys:List α)(h:MH)(hl:xs.length+ys.length<=1000):aw (.lv (xs.map f)) (.lv (ys.map f)) h=some (.lv ((xs++ys).map f),h):=by
 rw[Qf];simp only[aw,sG,dw,Ql,PC];rw[PL (by rw[show sizeLine=16777216 from rfl];exact PY hl (by decide))]
theorem LQ(P:Prop)[Decidable P](e:Rn (t δ h) λp=>p=(decide P,h))(q1:P->Rn (x δ h) Q)(q2:¬P->Rn (y δ h) Q):Rn (fC t x y δ h) Q:=by
 refine gI (e.imp ?_);rintro _ rfl;exact⟨λz=>q1 (Qq z),λz=>q2 (Tj z)⟩
theorem eS(P:Prop)[Decidable P](e:Rn (t δ h) λp=>p=(decide P,h))(q1:P->Rn (x δ h) (zq b Q))(q2:¬P->Rn (b δ h) Q):Rn (ar (fC t x bY) b δ h) Q:=
 de (LQ P e q1 λz=>⟨_,rfl,q2 z⟩)
theorem dT [Decidable P](p:P)(h:MH):(true,h)=(decide P,h):=by rw[Qj p]
theorem dF [Decidable P](p:¬P)(h:MH):(false,h)=(decide P,h):=by rw[Qv p]
section
variable {E:En} {f:Nat}
theorem tJ{n:Nat}(hlot:BV E f){h0 h:MH}{R l j:Nat}{ps:List Str}{d:Nat}{top:Int}{held:List Lock}{Q:List D×MH->Prop}
  (A:Wb E h0 (R+100*l+12) l h) (hn:n<=3) (G:Cd E.W j ps d top held) (d5:d < 5) (hf:3*(5-d)<=f) (k:∀(lots:List (List Row)) (l':Nat) (h':MH),lots.length=n->(∀t∈lots,t.length<=12/\bP E.W ps (d+1) t)->l'+(lots.map aB).sum=l->Wb E h0 (R+100*l') l' h'->Q (lots.map (λt=>D.tup (b7 t)),h')):
  Rn (cf [] (gN 0) Sm.cx (ak (bK f) (af (av 4) (af (av 6) (af (av 1) (af (ao aw (av 2) (eK (.int 1))) (af (av 5) (af (av 3) (af (eK (.int 2)) aH)))))))) ((List.range n).map λ(k:Nat)=>D.int k) [none,some (.int j),some (.int d),some (.lv (held.map aJ)),some (.ob E.s),some (.int top),some (.ob E.wd)] h) Q:=by
 refine(zH (ws:=[]) (λys δ h'=>∃(d0:Option D)(lots:List (List Row)) (l':Nat),δ=[d0,some (.int j),some (.int d),some (.lv (held.map aJ)),some (.ob E.s),some (.int top),some (.ob E.wd)]/\ys=lots.map (λt=>D.tup (b7 t))/\(∀t∈lots,t.length<=12/\bP E.W ps (d+1) t)/\l'+(lots.map aB).sum=l/\Wb E h0 (R+100*l'+(12-4*lots.length)) l' h') ⟨none,[],l,rfl,rfl,λ_ z=>(nomatch z),by simp,A⟩ (λ_ _ _ _=>rfl) ?_).imp ?_
 ·rintro x _ δ h' hx hys ⟨d0,lots,l',rfl,rfl,ba,hc,A1⟩;rw[PC,PC,Qy] at hys;nofun;refine hlot (R:=R+(8-4*lots.length)) (d:=d+1) (A1.le (by lia)) G.deep d5 (by lia) (by decide) (by decide) λt l2 h2 okl hll cr A2=>?_;refine⟨_,lots++[t],l2,rfl,by rw[Qf];rfl,λu z=>?_,by simp;lia,A2.le (by rw[PR,R6];lia)⟩;rcases Qi.mp z with z | z
  ·exact ba u z
  ·rw[P4.mp z];exact⟨hll,okl⟩
 ·rintro⟨ys,h2⟩ ⟨hy,_,d0,lots,l',_,he,ba,hc,A1⟩;dsimp only at hy he;subst he;rw[PC,PC,Qy] at hy;exact k lots l' h2 hy ba hc (A1.le (by simp))
theorem uN(hlot:BV E f)(hlk:EU E f)(htw:Ku E f):Kz E (f+1):=by
 intro h0 h R l j ps d top held Q A G d5 hf k;have pl:=G.pl;have n1:=E.ok.n1;have n2:=E.ok.n2;have d2:=E.ok.d2;unfold fR;refine bL ?_;nofun;refine w_next (m:=16) A (by decide) (by decide) λw h1 w0 w1 A1=>?_;refine eS (w < 2\/(d=5/\w < 11)) ?_ (λz=>?_) (λz=>?_)
 ·nofun;refine⟨_,rfl,λz=>?_,λz=>?_⟩
  ·have z:w < 2:=by simpa using z
   exact dT (.inl z) _
  ·have z:¬w < 2:=by simpa using z
   nofun;refine⟨_,rfl,λy=>?_,λy=>?_⟩
   ·have y0:(d:Int)=5:=by simpa using y
    have y:d=5:=by lia
    nofun;refine⟨_,rfl,?_⟩;rw[show decide (w < 11)=decide (w < 2\/(d=5/\w < 11)) from Ss.mpr (by lia)]
   ·have y0:(d:Int)≠5:=by simpa using y
    have y:d≠5:=by lia
    exact dF (by lia) _
 ·nofun;refine rv (dI A1.w) ?_;nofun;refine rv (dJ A1.w) ?_;nofun;refine rv (rg D.str E.W.names E.W.aj _ (by lia)) ?_;nofun;refine K9 (xs:=(E.W.names++E.W.aj).map D.str) A1 (.inl rfl) (by simp;lia) (by simp;lia) λx h2 hx A2=>?_;obtain⟨w',hw',rfl⟩:=Qz.mp hx;nofun;rw[show D.tup [.str "say",.str w']=ax (.say w') by rw[ax]];exact k (.say w') l h2 (by unfold bE;exact hw') (by rw[cnt]) (A2.le (by lia))
 have nd:d=5->11<=w:=by lia
 have w2:2<=w:=by lia
 refine eS (12 < w\/d=5) ?_ (λz=>?_) (λz=>?_)
 ·nofun;refine⟨_,rfl,λy=>?_,λy=>?_⟩
  ·have y:12 < w:=by simpa using y
   exact dT (.inl y) _
  ·have y:¬12 < w:=by simpa using y
   nofun;refine⟨_,rfl,?_⟩;rw[show((d:Int)==5)=decide (12 < w\/d=5) by
    rw[Rm];simp only[Q8,QB];lia]
 ·nofun;refine HG (R:=R+100*l) (A1.le (by simp)) G λr h2 okr cr A2=>?_;nofun;exact k r l h2 (okr d) (by rw[cr]) A2
 have d4:d < 5:=by lia
 refine eS (w=12/\d < 3/\5 < (l:Int)) ?_ (λz=>?_) (λz=>?_)
 ·nofun;refine⟨_,rfl,λy=>?_,λy=>?_⟩
  ·have y:w=12:=by simpa using y
   nofun;refine⟨_,rfl,λx=>?_,λx=>?_⟩
   ·have x0:(d:Int) < 3:=by simpa using x
    have x:d < 3:=by exact SN.mp x0
    nofun;refine rv (oY A1.w) ?_;nofun;refine⟨_,rfl,?_⟩;rw[show decide (5 < (l:Int))=decide (w=12/\d < 3/\5 < (l:Int)) from Ss.mpr (by lia)]
   ·have x0:¬(d:Int) < 3:=by simpa using x
    have x:¬d < 3:=by lia
    exact dF (by lia) _
  ·have y:w≠12:=by simpa using y
   exact dF (by clear y z;lia) _
 ·nofun;refine htw (R:=R) (A1.le (by simp)) G z.2.1 (by exact SN.mp z.2.2) (by exact RW hf) λr l2 h2 okr cr A2=>?_;nofun;exact k r l2 h2 okr cr A2
 refine eS (w=11\/w=12) ?_ (λz=>?_) (λz=>?_)
 ·nofun;refine⟨_,rfl,λy=>?_,λy=>?_⟩
  ·have y:w=11:=by simpa using y
   exact dT (.inl y) _
  ·have y:w≠11:=by simpa using y
   nofun;refine⟨_,rfl,?_⟩;rw[show(w==12)=decide (w=11\/w=12) by rw[Rm];simp only[Q8,QB];lia]
 ·show Rn (ar _ _ _ _) _;nofun;refine rv (cU A1.w) ?_;nofun;refine rv (cg G.hp) ?_;nofun;refine um A1 pl λt1 h2 tk1 A2=>?_;nofun;refine rv (cU A2.w) ?_;nofun;refine rv (cg G.hp) ?_;nofun;refine um A2 pl λt2 h3 tk2 A3=>?_;nofun;refine⟨_,_,rfl,?_⟩;nofun;refine g9 ?_;nofun;refine⟨3,rfl,by lia,by lia,?_⟩;refine tJ (n:=3) (R:=R) hlot (A3.le (by simp)) (by lia) G d4 (by exact RW hf) λlots l4 h4 hn ba cr A4=>?_
  match lots,hn with
  | [x,y,v],_=>
   refine⟨by show 3<=sizeLine;decide,?_⟩;nofun;refine rv (a:=(.tup [.tup (b7 x),.tup (b7 y),.tup (b7 v)],_)) rfl ?_;nofun;refine rv (a:=(ax (.nv t1 t2 x y v),_)) (by rw[ax];rfl) ?_;nofun;simp only[P6,QW,Rr,Uw] at cr;have hx:=ba x (by simp);have hy:=ba y (by simp);have hv:=ba v (by simp);exact k (.nv t1 t2 x y v) l4 h4 (by unfold bE;exact⟨tk1,tk2,d4,hx.1,hy.1,hv.1,hx.2,hy.2,hv.2⟩) (by rw[cnt];lia) A4
 refine eS (w=10) ?_ (λz=>?_) (λz=>?_)
 ·nofun;refine⟨_,rfl,?_⟩;rw[show(w==10)=decide (w=10) by rw[Rm];simp only[Q8,QB]]
 ·nofun;refine g9 ?_;nofun;refine⟨2,rfl,by lia,by lia,?_⟩;refine tJ (n:=2) (R:=R) hlot (A1.le (by simp)) (by lia) G d4 (by exact RW hf) λlots l2 h2 hn ba cr A2=>?_
  match lots,hn with
  | [x,y],_=>
   refine⟨by show 2<=sizeLine;decide,?_⟩;nofun;refine rv (a:=(.tup [.tup (b7 x),.tup (b7 y)],_)) rfl ?_;nofun;refine rv (a:=(ax (.either x y),_)) (by rw[ax];rfl) ?_;nofun;simp only[P6,QW,Rr,Uw] at cr;have hx:=ba x (by simp);have hy:=ba y (by simp);exact k (.either x y) l2 h2 (by unfold bE;exact⟨d4,hx.1,hy.1,hx.2,hy.2⟩) (by rw[cnt];lia) A2
 refine eS (w=9) ?_ (λz=>?_) (λz=>?_)
 ·nofun;refine⟨_,rfl,?_⟩;rw[show(w==9)=decide (w=9) by rw[Rm];simp only[Q8,QB]]
 ·nofun;refine hlot (R:=R) (d:=d+1) (A1.le (by simp)) G.deep d4 (by clear z;lia) (by decide) (by decide) λt l2 h2 okl hll cr A2=>?_;nofun;rw[show D.tup [.str "again",.tup (b7 t)]=ax (.again t) by rw[ax]];exact k (.again t) l2 h2 (by unfold bE;exact⟨d4,hll,okl⟩) (by rw[cnt];lia) A2
 nofun;refine K9 (xs:=[Str.ofString "within",Str.ofString "within",Str.ofString "within",Str.ofString "within",Str.ofString "ask",Str.ofString "all"].map D.str) A1 (.inl rfl) (by simp) (by simp) λx h2 hx A2=>?_;obtain⟨w',hw',rfl⟩:=Qz.mp hx;nofun;refine hlk (R:=R) (A2.le (by simp)) G d4 (by exact RW hf) (by simp at hw' ⊢;assumption) λr l3 h3 okr cr A3=>?_;nofun;exact k r l3 h3 okr cr A3
end
noncomputable def fy(t:Lock):PyData:=.tuple [.str t.1,pN t.2]
theorem C8(t:Term):xP (bq t)=some (pN t):=by simp only[bq,xP,nS,Ql,Qw];rfl
theorem wM(t:Lock):xP (aJ t)=some (fy t):=by simp only[aJ,xP,nS,C8,Ql,Qw];rfl
theorem mP:∀ts:List Lock,nS (ts.map aJ)=some (ts.map fy)
 | []=>rfl
 | c::r=>by simp only[P6,nS,mP r,wM,Ql,Qw]
theorem gi:∀ts:List Lock,PyData.depthAll (ts.map fy)<=2
 | []=>by simp[PyData.depthAll]
 | c::r=>by
  have:=gi r;simp only[P6,PyData.depthAll,fy,pN,PyData.depth]
  lia
theorem vD{h:MH}{n:Nat}{ls:List Lock}(x:Lock)(e:h[n]?=some (.lst (ls.map aJ))):qZ (aJ x) (.ob n) h=some (.bl (!(ls.map fy).any λb=>PyData.eqv b (fy x)),h):=by
 have h1:=gi ls;have h2:=gi [x];have h3:(fy x).depth<=60:=by
  simp only[P6,QW,PyData.depthAll] at h2
  lia
 unfold qZ inD;simp only[dG,e];show((dE (.ob n) h).bind _).map _=_;simp only[dE,e,Ql,mP];show(((zD h (aJ x)).bind _).map _)=_;rw[show zD h (aJ x)=some (fy x) from wM x];dsimp only[Option.bind_some];rw[PL ⟨h3,by exact PY h1 (by decide)⟩];rfl
theorem uX(r:Rn (ma δ h) λp=>Rn (mb δ p.2) λq=>∃xs ys,dw p.1 q.2=some xs/\dw q.1 q.2=some ys/\xs.length+ys.length<=sizeLine/\Q (xs++ys,q.2)):Rn (BR ma mb δ h) Q:=
 a8 (r.imp λp r=>a8 (r.imp λq zz=>by obtain⟨xs,ys,e1,e2,hl,hq⟩:=zz;exact⟨_,by rw[e1];dsimp only[Option.bind_some];rw[e2];dsimp only[Option.bind_some];rw[PL hl],hq⟩))
theorem Ef(x:Lock):PyData.eqv (fy x) (fy x)=true:=by
 simp[fy,pN,PyData.eqv,PyData.eqvAll]
theorem Fy(r:Row)(n:Nat):ax r≠.ob n:=by cases r <;> rw[ax] <;> exactλz=>(nomatch z)
theorem Wb.ext(A:Wb E h0 R l h)(C:Cl (h++g)):Wb E (h++g) R l (h++g):=⟨A.S.more _,by rw[PU A.lt.2.2];exact A.w,C,fW.refl _ _ _⟩
theorem C0(b:fW E.s E.wd h0 h)(k:EV E h0 R l ps d Q)(r:Row)(ok:bE E.W ps d r)(hc:l'+cnt r=l+1)(A:Wb E h (R+100*l') l' hb)(e:ax r=x):Rn (leave h x (hb++g)) Q:=
 ⟨_,e ▸ qO A.b.1 A.C (Fy r) (rE _ r),k r l' hb ok hc (A.tr b)⟩
theorem uT(b:fW E.s E.wd h0 h)(k:EV E h0 R l ps d Q)(r:Row)(ok:bE E.W ps d r)(hc:l'+cnt r=l+1)(A:Wb E h (R+100*l') l' hb)(e:ax r=x):Rn (leave h x hb) Q:=by
 have:=C0 (g:=[]) b k r ok hc A e
 rwa [QD] at this
section
variable {E:En} {f:Nat}
theorem Bm(hlot:BV E f):EU E (f+1):=by
 intro h0 h R l j ps d top held way Q A G d5 hf hw k;obtain⟨dj,hdj⟩:∃f,E.W.aj[j]?=some f:=⟨_,P7 G.hj⟩;have hl:=G.hl;have ht:=G.ht;have b0:=A.b;replace A:=A.here;unfold dh;refine sY ?_;nofun;refine Ck A G (by exact Ry d5) (λk1 lk h1 hmx k0 k2 okk A1=>?_) λh1 _ A1=>?_
 ·nofun;refine rv (a:=(.bl false,_)) rfl ⟨_,rfl,λz=>(nomatch z),λ_=>?_⟩;refine⟨_,rfl,?_⟩;show Rn (ar _ _ _ _) _;refine eS (way=Str.ofString "all") ?_ (λz=>?_) (λz=>?_)
  ·nofun;refine⟨_,rfl,?_⟩;rw[show(way==Str.ofString "all")=decide (way=Str.ofString "all") by rw[Rm];simp only[Q8,QB]]
  ·show Rn (ar _ _ _ _) _;nofun;refine⟨_,_,rfl,?_⟩;nofun;refine g9 ?_;nofun;refine Cj (is:=[1,1,2,3]) (λi=>1<=i/\i<=3) (by decide) (A1.push (o:=.lst [aJ lk]) rfl) λi h2 hi A2=>?_;obtain⟨hb2,rfl,e2,A2'⟩:=A1.pop A2;nofun;refine⟨i,rfl,by exact QX (by decide) hi.1,by exact RB hi.2 (by decide),?_⟩;refine cK (λi δ h'=>∃(ls:List Lock)(hi:Int)(n:Nat)(d11 d12 d13:Option D)(hb g:MH),δ=[some (.ob E.s),some (.ob E.wd),some (.int j),some (.int d),some (.int top),some (.lv (held.map aJ)),some (.str way),some (.int k1),some (aJ lk),some (.ob n),some (.int hi),d11,d12,d13,none]/\h'=hb++g/\h'[n]?=some (.lst (ls.map aJ))/\h.length<=n/\lk∈ls/\ls.Nodup/\(∀x∈ls,fu E.W ps x)/\ls.length<=i+1/\0<=hi/\hi < E.W.names.length/\Wb E h (R+100*l+(80-10*i)) l hb/\Cl (hb++g))
    ⟨[lk],k1,h1.length,none,none,none,hb2,[.lst [aJ lk]],rfl,rfl,qU e2,by rw[A1.b.1];exact PJ _,by simp,by simp,by simpa using okk,PJ _,k0,k2,A2'.le (by simp),A2.C⟩ (λ_ _ _ _ _=>rfl) ?_ ?_
   ·rintro q x δ h' hx ⟨ls,hi',n,d11,d12,d13,hb,g,rfl,rfl,hn,hnl,hlk,nd,ba,hll,hi0,hi1,A3,C3⟩;have hq:q < 3:=by
     have:=(PH.mp hx).1;simp at this
     lia
    nofun;refine Ck (R:=R+100*l+(80-10*(q+1))) ((A3.ext C3).le (by lia)) G (by lia) (λk4 lk4 h4 _ k40 k41 okk4 A4=>?_) λh1 z4 _=>absurd z4 (by lia)
    ·have hn4:h4[n]?=some (.lst (ls.map aJ)):=by
      have:=A.lt;rw[A4.b.2 n (by lia) (by lia)];exact hn
     obtain⟨hb4,rfl,e4,A4'⟩:=A3.pop A4;nofun;refine rv (lL _ _ _) ?_;nofun;refine uX ?_;nofun;refine rv (vD lk4 hn4) ?_;obtain⟨us,v,hv,hus,husl,hnd,hokk⟩:∃(us:List Lock)(v:Int),nj [.bl (!(ls.map fy).any λb=>PyData.eqv b (fy lk4))] (hb4++g)=some (.int v,hb4++g)/\qY (.lv [aJ lk4]) (.int v) (hb4++g)=some (.lv (us.map aJ),hb4++g)/\us.length<=1/\(ls++us).Nodup/\∀x∈ls++us,fu E.W ps x:=by
      cases hb0:((ls.map fy).any λb=>PyData.eqv b (fy lk4)) with
      | true=>exact⟨[],0,rfl,rfl,by simp,by simpa using nd,by simpa using ba⟩
      | false=>
       have hnot:lk4∉ls:=λz=>by
        rw[U1] at hb0;exact hb0 (fy lk4) (RN z) (Ef lk4)
       refine⟨[lk4],1,rfl,rfl,by simp,?_,?_⟩
       ·rw[Tz];refine⟨nd,by simp,λx hx y hy z=>hnot ?_⟩;rw[P4.mp hy] at z;rw[<-z];exact hx
       ·intro x hx;rcases Qi.mp hx with z | z
        ·exact ba x z
        ·rw[P4.mp z];exact okk4
     nofun;refine rv hv ?_;nofun;refine rv hus ?_;refine⟨ls.map aJ,us.map aJ,by simp only[dw,hn4],rfl,by rw[PC,PC,show sizeLine=16777216 from rfl];lia,?_⟩;refine⟨ls++us,max hi' k4,(hb4++g).length,_,_,_,hb4,g++[.lst ((ls++us).map aJ)],rfl,by rw[Qf];exact QE _ _ _,by rw[Qf];simp,?_,QL _ hlk,hnd,hokk,by simp;lia,by lia,by lia,A4',?_⟩
     ·have:=A4'.b.1;rw[PR];lia
     ·rw[<-QE];exact A4.C.snoc (o:=.lst _) (eP _ _ (pE _) _)
   ·rintro δ h' ⟨ls,hi',n,d11,d12,d13,hb,g,rfl,rfl,hn,hnl,hlk,nd,ba,hll,hi0,hi1,A3,C3⟩;rw[PC,Qy] at hll A3;replace A3:=A3.le (R':=R+100*l+10) (by lia);show Rn (ar _ _ _ _) _;refine de ?_;refine Rn.imp (Q:=λr=>∃(ls:List Lock)(g:MH),r=(Fl.nx,[some (.ob E.s),some (.ob E.wd),some (.int j),some (.int d),some (.int top),some (.lv (held.map aJ)),some (.str way),some (.int k1),some (aJ lk),some (.ob n),some (.int hi'),d11,d12,d13,none],hb++g)/\(hb++g)[n]?=some (.lst (ls.map aJ))/\2<=ls.length/\ls.length<=4/\ls.Nodup/\(∀x∈ls,fu E.W ps x)/\Cl (hb++g)) ?_ ?_
    ·nofun;refine rv (Ab hn) ?_;nofun;refine⟨_,rfl,λz=>?_,λz=>?_⟩
     ·have z:ls.length=1:=by
       have:((ls.map aJ).length:Int)=1:=by simpa using z
       rw[PC] at this
       lia
      obtain⟨x0,rfl⟩:∃x0,ls=[x0]:=RA.mp z;obtain rfl:lk=x0:=P4.mp hlk;obtain⟨nm,wo,fi⟩:=lk;have hok0:=ba _ (P4.mpr rfl);nofun;refine qo ?_;nofun;refine⟨eZ hn,?_⟩;nofun;refine rv (a:=(.str nm,_)) rfl ?_;nofun;refine rv (a:=(bq (wo,fi),_)) rfl ?_;nofun;refine rv (a:=(.str wo,_)) rfl ?_;nofun;refine rv (a:=(bq (wo,fi),_)) rfl ?_;nofun;refine rv (a:=(.int fi,_)) rfl ?_;nofun;refine rv (a:=(bq (wo,fi),_)) rfl ?_;nofun;refine rv (a:=(.int fi,_)) rfl ?_;nofun;obtain⟨v,hv,hm,v1,v0⟩:∃v:Int,nj [.bl (decide (90 < fi))] (hb++g)=some (.int v,hb++g)/\gQ (.int 2) (.int v) (hb++g)=some (.int (2*v),hb++g)/\(90 < fi->v=1)/\(¬90 < fi->v=0):=by
       by_cases z:90 < fi
       ·exact⟨1,by rw[Qj z];rfl,rfl,λ_=>rfl,λy=>absurd z y⟩
       ·exact⟨0,by rw[Qv z];rfl,rfl,λy=>absurd y z,λ_=>rfl⟩
      refine rv hv ?_;nofun;refine rv hm ?_;nofun;refine rv (eF hn (by rw[PC,show sizeLine=16777216 from rfl];simp)) ?_;nofun;have hlen:=A3.b.1;rw[R3 _ _ (by lia)];have okf:=hok0.2;have okn:=hok0.1;dsimp only at okn;unfold eB at okf;dsimp only at okf;have hvv:v=0\/v=1:=by by_cases z:90 < fi <;> lia
      refine⟨[(nm,wo,fi),(nm,wo,fi+1-2*v)],_,rfl,?_,by simp,by simp,?_,?_,?_⟩
      ·rw[P9 (by lia),Qr]
       ·rfl
       ·have:=(PH.mp hn).1;rw[PR] at this
        lia
      ·simp;lia
      ·intro x hx;rcases PZ.mp hx with rfl | hx
       ·exact hok0
       ·rw[P4.mp hx];exact⟨okn,okf.1,by dsimp only;lia,by dsimp only;lia⟩
      ·rw[<-R3 _ _ (by lia)];exact C3.set (o:=.lst _) rfl
     ·have z:ls.length≠1:=by
       have:((ls.map aJ).length:Int)≠1:=by simpa using z
       rw[PC] at this
       lia
      have:0 < ls.length:=List.length_pos_of_mem hlk;exact⟨_,rfl,ls,g,rfl,hn,by lia,by lia,nd,ba,C3⟩
    rintro _ ⟨ls,g,rfl,hn,l2,l4,nd,ba,C4⟩;have A4:=A3.ext C4;show Rn (ar _ _ _ _) _;nofun;refine rv (xV A4.w) ?_;nofun;obtain⟨v,hv,v0,v1⟩:∃v:Int,nj [.bl (E.odd==0)] (hb++g)=some (.int v,hb++g)/\0<=v/\v<=1:=by
     cases E.odd==0
     ·exact⟨0,rfl,by lia,by lia⟩
     ·exact⟨1,rfl,by lia,by lia⟩
    refine rv hv ?_;nofun;refine rv (a:=(.tup (ls.map aJ),_)) (by simp only[eJ,dE,hn,Qw];rfl) ?_;nofun;refine rv (lL _ _ _) ?_;nofun;refine rv (a:=(.lv ((held++ls).map aJ),_)) (by
     rw[Qf];simp only[aw,sG,dw,hn,Ql,PC];rw[PL (by rw[show sizeLine=16777216 from rfl];lia)]) ?_
    nofun;refine hlot (R:=R) (d:=d+1) (A4.le (by simp)) (G.more (n:=1) (by lia) (by lia) ba) d5 (by lia) (by decide) (by decide) λt l5 h5 okl hll5 cr A5=>?_;obtain⟨hb5,rfl,_,A5'⟩:=A3.pop A5;nofun;exact C0 b0 k (.all ls t) (by unfold bE;exact⟨⟨l2,l4,nd,ba⟩,d5,hll5,okl⟩) (by rw[cnt];lia) A5' (by rw[ax])
  refine de ?_;nofun;refine rv (lL _ _ _) ?_;nofun;refine rv (rg aJ held [lk] _ (by simp;lia)) ?_;nofun;refine hlot (R:=R+10) (d:=d+1) (A1.le (by lia)) (G.more (n:=1) (ls:=[lk]) (by clear hmx;lia) (by simp) (by simpa using okk)) d5 (by lia) (by decide) (by decide) λt l2 h2 okl hll cr A2=>?_;refine Rn.imp (Q:=_) (eS (way=Str.ofString "ask") ?_ (λz=>?_) (λz=>?_)) λ_ z=>z
  ·nofun;refine⟨_,rfl,?_⟩;rw[show(way==Str.ofString "ask")=decide (way=Str.ofString "ask") by rw[Rm];simp only[Q8,QB]]
  ·nofun;refine hlot (R:=R) (d:=d+1) (A2.le (by lia)) G.deep d5 (by lia) (by decide) (by decide) λt3 l3 h3 okl3 hll3 cr3 A3=>?_;nofun;exact uT b0 k (.ask lk t t3) (by unfold bE;exact⟨okk,d5,hll,hll3,okl,okl3⟩) (by rw[cnt];lia) A3 (by rw[ax])
  ·nofun;exact uT b0 k (.within lk t) (by unfold bE;exact⟨okk,d5,hll,okl⟩) (by rw[cnt];lia) (A2.le (by lia)) (by rw[ax])
 ·nofun;refine rv (a:=(.bl true,_)) rfl ⟨_,rfl,λ_=>?_,λz=>(nomatch z)⟩;nofun;refine rv (dJ A1.w) ?_;nofun;refine rv (cg hdj) ?_;nofun;exact uT b0 k (.say dj) (by unfold bE;exact Qa _ (PF hdj)) (by rw[cnt]) (A1.le (by lia)) (by rw[ax])
end
theorem yU(ts:List Lock)(h:MH):jE (.lv (ts.map aJ)) (.lv []) h=some (.bl (!ts.isEmpty),h):=by
 have:=gi ts;simp only[jE,Hm,dG,KW,zD,mP,xP,nS,Qw,Ql];rw[PL ⟨show PyData.depthAll _+1<=64 by exact QS this (by decide),by decide⟩];cases ts <;> rfl
section
variable {E:En}
theorem HN{f:Nat}(hlot:BV E f):Ku E (f+1):=by
 intro h0 h R l j ps d top held Q A G d3 l5 hf k;have pl:=G.pl;have hl:=G.hl;have ht:=G.ht;have b0:=A.b;replace A:=A.here;obtain⟨dj,hdj⟩:∃f,E.W.aj[j]?=some f:=⟨_,P7 G.hj⟩;obtain⟨fj,hfj⟩:∃f,E.fl[j]?=some f:=⟨_,P7 (by rw[E.ok.Oy];exact G.hj)⟩;have hfm:=E.ok.f0 fj (PF hfj);have hsay:Rn (leave h (.tup [.str "say",.str dj]) h) Q:=uT b0 k (.say dj) (by unfold bE;exact Qa _ (PF hdj)) (by rw[cnt]) (A.le (by lia)) (by rw[ax]);unfold cG;refine sY ?_;nofun;refine rv (mn A.w) ?_;nofun;refine rv (cg hfj) ?_;nofun;refine rv (lL top fj h) ?_;have lo0:0<=max top fj:=by lia
 have lo1:max top fj<=E.W.names.length:=by lia
 generalize max top fj=lo at lo0 lo1 ⊢;refine eS (lo=E.W.names.length) ?_ (λz=>?_) (λz=>?_)
 ·nofun;refine rv (dI A.w) ?_;nofun;refine⟨_,rfl,?_⟩;rw[PC,show(lo==(E.W.names.length:Int))=decide (lo=E.W.names.length) by rw[Rm];simp only[Q8,QB]]
 ·nofun;refine rv (dJ A.w) ?_;nofun;refine rv (cg hdj) ?_;nofun;exact hsay
 obtain⟨kn,rfl⟩:=QM lo0;have hkn:kn < E.W.names.length:=by lia
 obtain⟨nm,hnm⟩:∃f,E.W.names[kn]?=some f:=⟨_,P7 hkn⟩;refine de ?_;nofun;refine du ?_;nofun;refine⟨_,_,rfl,?_⟩;obtain⟨⟨ys,h4⟩,e4,hyl,hym,δ4,hh4,_⟩:=ph (ws:=[]) (g:=gN 0) (c:=aI (ao df (ao aV (av 0) (eK (.int 0))) (ao aV (ao aV (av 2) (eK (.str "names"))) (av 1)))) (e:=av 0) (λx y=>∃l∈held,y=aJ l)
  (xs:=held.map aJ) (δ:=[none,some (.int kn),some (.ob E.wd)]) (h:=h) (λj δ h'=>h'=h/\∃d0,δ=[d0,some (.int kn),some (.ob E.wd)]) ⟨rfl,_,rfl⟩ (λ_ _ _ _ _=>rfl) (by
   rintro i x δ h' hx ⟨rfl,d0,rfl⟩;obtain⟨l,hl,rfl⟩:=Qz.mp (PF hx);nofun;refine rv (a:=(.str l.1,_)) rfl ?_;nofun;refine rv (dI A.w) ?_;nofun;refine rv (cg hnm) ?_;nofun;refine⟨_,rfl,λ_=>?_,λ_=>⟨rfl,_,rfl⟩⟩;nofun;exact⟨⟨l,hl,rfl⟩,rfl,_,rfl⟩)
 dsimp only at hh4;subst hh4;refine rv e4 ⟨PY hyl (by rw[PC,show sizeLine=16777216 from rfl];lia),?_⟩;obtain⟨ts,rfl⟩:∃ts:List Lock,ys=ts.map aJ:=by
  clear e4 hyl
  induction ys with
  | nil=>exact⟨[],rfl⟩
  | cons y r ih=>
   obtain⟨js,rfl⟩:=ih λz hz=>hym z (PV _ hz);obtain⟨x,hx,l,hl,rfl⟩:=hym y PQ;exact⟨l::js,rfl⟩
 nofun;refine rv (yU ts _) ⟨_,rfl,λz=>?_,λz=>?_⟩
 ·nofun;refine rv (dJ A.w) ?_;nofun;refine rv (cg hdj) ?_;nofun;exact hsay
 nofun;refine rv (dI A.w) ?_;nofun;refine rv (cg hnm) ?_;nofun;refine rv (oY A.w) ?_;nofun;refine rv (Ci A.w _) ?_;rw[show(l:Int)-5=((l-5:Nat):Int) by lia];have A1:=A.set (l-5);generalize h4.set E.wd (mj E.W E.fl ((l-5:Nat):Int) E.odd)=h5 at A1 ⊢;nofun;refine rv (cU A1.w) ?_;nofun;refine rv (cg G.hp) ?_;nofun;refine um A1 pl λt1 h2 tk1 A2=>?_;nofun;refine rv (cU A2.w) ?_;nofun;refine rv (cg G.hp) ?_;nofun;refine um A2 pl λt2 h3 tk2 A3=>?_;nofun;refine⟨_,_,rfl,?_⟩;nofun;refine du ?_;nofun;refine⟨_,_,rfl,?_⟩;have hlen3:=A3.b.1;have okn:=PF hnm;refine cK (λi δ h'=>∃(rows:List Row)(l':Nat)(d11 d12 d13:Option D)(hb:MH),δ=[some (.ob E.s),some (.ob E.wd),some (.int j),some (.int d),some (.int top),some (.lv (held.map aJ)),some (.int kn),some (.str nm),some (bq t1),some (bq t2),some (.ob h3.length),d11,d12,d13]/\h'=hb++[.lst (rows.map λr=>.tup [ax r])]/\rows.length=i/\(∀r∈rows,bE E.W ps (d+1) r)/\l'+(rows.map cnt).sum+5=l+2*i/\Wb E h4 (R+100*l'+(8-4*i)) l' hb)
  ⟨[],l-5,_,_,_,h3,rfl,rfl,rfl,λ_ z=>(nomatch z),by simp;lia,A3.le (by lia)⟩ (λ_ _ _ _ _=>rfl) ?_ ?_
 ·rintro i x δ h' hx ⟨rows,l',d11,d12,d13,hb,rfl,rfl,hrl,hro,hc,A6⟩;have hi:i < 2:=(PH.mp hx).1;obtain⟨u,v,rfl,uk,vk⟩:∃u v:Term,x=.tup [bq u,bq v]/\eB ps u/\eB ps v:=by
   rcases PZ.mp (PF hx) with rfl | hx
   ·exact⟨t1,t2,rfl,tk1,tk2⟩
   ·rw[P4.mp hx];exact⟨t2,t1,rfl,tk2,tk1⟩
  have hlb:hb.length=h3.length:=A6.b.1.trans hlen3.symm;generalize hrs:rows.map (λr=>D.tup [ax r])=rs;have hcl:fc (hb.length+1) rs=true:=by rw[<-hrs];exact eP _ _ (λr=>by show(gu _ (ax r)&&true)=true;rw[rE];rfl) rows
  nofun;refine rv (rg aJ held [(nm,u),(nm,v)] _ (by simp;lia)) ?_;nofun;refine hlot (R:=R+(8-4*(i+1))) (d:=d+3) ((A6.push (o:=.lst rs) hcl).le (by lia)) (G.more (n:=3) (ls:=[(nm,u),(nm,v)]) lo1 (by simp) (by
   intro x hx;rcases PZ.mp hx with rfl | z
   ·exact⟨okn,uk⟩
   ·rw[P4.mp z];exact⟨okn,vk⟩)) (by lia) (by lia) (by decide) (by decide) λt l7 h7 okl hll cr A7=>?_
  obtain⟨hb7,rfl,e7,A7'⟩:=A6.pop A7;have hl7:=e7.trans hlb;nofun;refine qo ?_;nofun;refine⟨eZ (qU hl7),?_⟩;nofun;refine rv (eF (qU hl7) (by rw[<-hrs,PC,show sizeLine=16777216 from rfl];lia)) ?_;rw[Ie hl7];nofun;have hcn:((rows++[Row.within (nm,u) [Row.within (nm,v) t]]).map cnt).sum=(rows.map cnt).sum+(2+aB t):=by
   rw[Qf,SR];simp[cnt,aB]
   lia
  refine⟨rows++[.within (nm,u) [.within (nm,v) t]],l7,_,_,_,hb7,rfl,?_,by simp[hrl],?_,by rw[hcn];lia,A7'.le (by lia)⟩
  ·rw[Qf,hrs];simp[ax,b7,aJ]
  ·intro r hr;rcases Qi.mp hr with z | z
   ·exact hro r z
   ·rw[P4.mp z];simp only[bE,bP];exact⟨⟨okn,uk⟩,by exact QS d3 (by decide),by simp,⟨⟨okn,vk⟩,by lia,hll,okl⟩,trivial⟩
 ·rintro δ h' ⟨rows,l',d11,d12,d13,hb,rfl,rfl,hrl,hro,hc,A6⟩
  match rows,hrl with
  | [r0,r1],_=>
   have hc:l'+(([r0,r1]:List Row).map cnt).sum+5=l+2*2:=hc;have hat:(hb++[MO.lst [.tup [ax r0],.tup [ax r1]]])[h3.length]?=some (.lst [.tup [ax r0],.tup [ax r1]]):=qU (A6.b.1.trans hlen3.symm);show Rn _ _;nofun;refine rv (iY hat (d:=.tup [ax r0]) rfl) ?_;nofun;refine rv (iY hat (d:=.tup [ax r1]) rfl) ?_;nofun;refine C0 b0 k (.nv t1 t2 [r0] [.within (nm,t1) []] [r1]) ?_ ?_ (A6.le (by exact PJ _)) (by simp[ax,b7,aJ])
   ·simp only[bE,bP];exact⟨tk1,tk2,by exact Qd d3 (by decide),by simp,by simp,by simp,⟨hro r0 (by simp),trivial⟩,⟨⟨⟨okn,tk1⟩,by exact QS d3 (by decide),by simp,trivial⟩,trivial⟩,⟨hro r1 (by simp),trivial⟩⟩
   ·simp[cnt,aB] at hc ⊢;lia
theorem ring:∀f,BV E f/\Kz E f/\EU E f/\Ku E f
 | 0=>⟨λ_ _ _ z=>absurd z (by lia),λ_ _ _ z=>absurd z (by lia),λ_ _ z1 z=>absurd z (by lia),λ_ _ z1 _ z=>absurd z (by lia)⟩
 | f+1=>let⟨a,b,c,d⟩:=ring f;⟨yJ b,uN a c d,Bm a,HN a⟩
end
theorem vA{P:Int->Prop}:∀{zs:List D},(∀y∈zs,∃i,y=.int i/\P i)->∃js:List Int,zs=js.map D.int/\∀j∈js,P j
 | [],_=>⟨[],rfl,λ_ z=>(nomatch z)⟩
 | y::r,h=>by
  obtain⟨js,rfl,q⟩:=vA (zs:=r) λz hz=>h z (PV _ hz);obtain⟨i,rfl,p⟩:=h y PQ;exact⟨i::js,rfl,λj hj=>by
   rcases PZ.mp hj with rfl | hj
   ·exact p
   ·exact q j hj⟩
theorem Bz(f:α->D)(xs:List α)(k:Nat)(h:MH):iD (.lv (xs.map f)) none (some (k:Int)) h=some (.lv ((xs.take k).map f),h):=by
 show some (D.lv (cutD (xs.map f) none (some (k:Int))),h)=_;unfold cutD;rw[HT.qe,HT.uM,TY,Nat.sub_zero,PC,<-Ti]
 by_cases z:k<=xs.length
 ·rw[RC z]
 ·rw[Nat.min_eq_right (by lia),Rz (PJ _),Rz (by lia)]
theorem GU{h h0:MH}{s c R:Nat}{cs:List Int}{most odd:Int}{Q:D×MH->Prop}(A:Sb s c cs h0 (R+80) h)(o0:0<=odd)(o1:odd<=1000)(k:∀(W:Wd)(fl:List Int)(hb:MH),oX W fl odd->Sb s c cs h0 R hb->Q (.ob hb.length,hb++[mj W fl most odd])):Rn (ik [.ob s,.int most,.int odd] h) Q:=by
 refine bL ?_;nofun;refine jT (is:=[1,2,2,3,4,6]) (λi=>1<=i/\i<=6) (by decide) A λn1 h1 hn1 _ A1=>?_;nofun;refine vS A1 (by exact Int.le_of_lt hn1.1) hn1.2 λns h2 nl nk nnd A2=>?_;nofun;refine jT (is:=[1,1,2,2,3,4,6]) (λi=>1<=i/\i<=6) (by decide) A2 λn2 h3 hn2 _ A3=>?_;nofun;refine vS A3 (by exact Int.le_of_lt hn2.1) hn2.2 λds h4 dl dk dnd A4=>?_;nofun;refine vS A4 (by lia) (by lia) λps h5 pl pk pnd A5=>?_;nofun;refine du ?_;nofun;refine⟨_,_,rfl,?_⟩;obtain⟨⟨ys,h6⟩,e6,a6,δ6,_,A6⟩:=pj (ws:=[]) (g:=gN 0) (e:=ak aL (af (av 1) (af (eK (.lv [.int 0,.int 1,.int 1,.int 2,.int 2,.int 3])) aH))) (λ_ y=>∃i,y=.int i/\0<=i/\i<=3)
  (xs:=ds.map D.str) (δ:=[none,some (.ob s)]) (h:=h5) (λi δ h'=>(∃d0,δ=[d0,some (.ob s)])/\Sb s c cs h0 (R+18-i) h') ⟨⟨_,rfl⟩,A5⟩ (λ_ _ _ _ _=>rfl) (by
   rintro i x δ h' hx ⟨⟨d0,rfl⟩,A6⟩;have hi:i < 6:=by
    have:=(PH.mp hx).1;rw[PC] at this
    lia
   nofun;exact jT (R:=R+18-(i+1)) (is:=[0,1,1,2,2,3]) (λi=>0<=i/\i<=3) (by decide) (A6.le (by lia)) λi h7 hi _ A7=>⟨⟨i,rfl,hi⟩,⟨_,rfl⟩,A7⟩)
 have l6:=a6.length;obtain⟨many,rfl,hmany⟩:=vA (P:=λi=>0<=i/\i<=3) λy hy=>(let⟨_,_,r⟩:=a6.right y hy;r);dsimp only at l6;rw[PC,PC] at l6;rw[PC] at A6;refine rv e6 ⟨by dsimp only;rw[PC,show sizeLine=16777216 from rfl];lia,?_⟩;nofun;refine du ?_;nofun;refine⟨_,_,rfl,?_⟩;obtain⟨⟨ys,h7⟩,e7,a7,δ7,_,A7⟩:=pj (ws:=[]) (g:=gN 0) (e:=ak aT (af (av 2) (af (ak ck (af (av 1) aH)) aH))) (λ_ y=>∃i,y=.int i/\0<=i/\i < ns.length)
  (xs:=ds.map D.str) (δ:=[none,some (.lv (ns.map D.str)),some (.ob s)]) (h:=h6) (λi δ h'=>(∃d0,δ=[d0,some (.lv (ns.map D.str)),some (.ob s)])/\Sb s c cs h0 (R+12-i) h') ⟨⟨_,rfl⟩,A6.le (by lia)⟩ (λ_ _ _ _ _=>rfl) (by
   rintro i x δ h' hx ⟨⟨d0,rfl⟩,A7⟩;have hi:i < 6:=by
    have:=(PH.mp hx).1;rw[PC] at this
    lia
   nofun;rw[PC];exact dU (R:=R+12-(i+1)) (A7.le (by clear A7 hx;lia)) (by lia) (by lia) λr h8 r0 r1 A8=>⟨⟨r,rfl,r0,r1⟩,⟨_,rfl⟩,A8⟩)
 have l7:=a7.length;obtain⟨fls,rfl,hfls⟩:=vA (P:=λi=>0<=i/\i < ns.length) λy hy=>(let⟨_,_,r⟩:=a7.right y hy;r);dsimp only at l7;rw[PC,PC] at l7;rw[PC] at A7;refine rv e7 ⟨by dsimp only;rw[PC,show sizeLine=16777216 from rfl];lia,?_⟩;nofun;refine rv (a:=(.lv ((jH fls).map D.int),h7)) (by
  show(lH (fls.map D.int)).bind _=_;rw[ng];show(if fls.length < 64 then _ else _)=_;rw[PL (by lia)]) ?_
 nofun;refine du ?_;nofun;refine⟨_,_,rfl,?_⟩;have e8:cf [] (gN 0) cx (iE (av 1) we (wg (av 0))) (many.map D.int) [none,some (.lv (ps.map D.str))] h7=some ((many.map D.int).filterMap λd=>match d with | .int k=>some (.lv ((ps.take k.toNat).map D.str)) | _=>none,h7):=
  uW rfl _ (λδ=>∃d0,δ=[d0,some (.lv (ps.map D.str))]) ⟨_,rfl⟩ (by
   rintro x hx δ ⟨d0,rfl⟩;obtain⟨k,hk,rfl⟩:=Qz.mp hx;refine rv rfl ⟨rfl,rv rfl ⟨rfl,⟨_,rfl⟩,λ_=>⟨_,rfl,?_⟩,λz=>(nomatch z)⟩⟩;obtain⟨n,rfl⟩:=QM (hmany k hk).1;nofun;refine⟨_,rfl,rv (Bz D.str ps n _) ?_⟩;rfl)
 have e9:((many.map D.int).filterMap λd=>match d with | .int k=>some (D.lv ((ps.take k.toNat).map D.str)) | _=>none)=(many.map λk=>ps.take k.toNat).map λps=>D.lv (ps.map D.str):=by
  rw[Sk,Ro];exact congrFun (UC (f:=(λps:List Str=>D.lv (ps.map D.str))∘λk:Int=>ps.take k.toNat)) _
 rw[e9] at e8;refine rv e8 ⟨by dsimp only;rw[PC,PC,show sizeLine=16777216 from rfl];lia,?_⟩;nofun;have hfin:∀(a b c d e f:D),Rn (yY (dZ (eK (.str "names")) (av 3) (dZ (eK (.str "deeds")) (av 4) (dZ (eK (.str "params")) (av 5) (dZ (eK (.str "floors")) (av 7) (dZ (eK (.str "left")) (av 1) (dZ (eK (.str "odd")) (av 2) F9)))))) [some (.ob s),some (.int most),some (.int odd),some a,some b,some c,some d,some e] h7) λp=>p=(.ob h7.length,h7++[.dct [(.inr (Str.ofString "names"),a),(.inr (Str.ofString "deeds"),b),(.inr (Str.ofString "params"),c),(.inr (Str.ofString "floors"),e),(.inr (Str.ofString "left"),.int most),(.inr (Str.ofString "odd"),.int odd)]]):=λa b c d e f=>⟨_,rfl,rfl⟩;refine(hfin _ _ _ _ _ .bR).imp ?_;rintro _ rfl;nofun;refine k ⟨ns,ds,many.map λk=>ps.take k.toNat⟩ (jH fls) h7 ⟨?_,?_,?_,?_,?_,?_,?_,?_,o0,o1,nk,dk,?_,nnd,dnd,?_⟩ (A7.le (by lia))
 ·show 1<=ns.length;lia
 ·show ns.length<=6;lia
 ·show 1<=ds.length;lia
 ·show ds.length<=6;lia
 ·show(many.map _).length=ds.length;rw[PC];lia
 ·intro q hq;obtain⟨k,hk,rfl⟩:=Qz.mp hq;rw[Qb];have:=pl
  lia
 ·show(jH fls).length=ds.length;rw[(g0 fls).length_eq];lia
 ·intro f hf;exact hfls f ((g0 fls).mem_iff.mp hf)
 ·intro q hq w hw;obtain⟨k,hk,rfl⟩:=Qz.mp hq;exact pk w (S9 hw)
 ·intro q hq;obtain⟨k,hk,rfl⟩:=Qz.mp hq;exact pnd.sublist (Tw _ _)
end Mi
namespace Pg
open PySem Sm L2
abbrev dX:=Str×List Str×List Row
structure Prog where
 names:List Str
 aj:List dX
noncomputable def dC(d:dX):D:=.tup [.str d.1,.tup (d.2.1.map D.str),.tup (b7 d.2.2)]
noncomputable def aQ(P:Prog):D:=.tup [.tup (P.names.map D.str),.tup (P.aj.map dC)]
structure KZ(W:Wd)(most:Nat)(P:Prog):Prop where
 nm:P.names=il W.names
 dl:P.aj.length=W.aj.length
 dd:∀(j:Nat)(d:dX),P.aj[j]?=some d->W.aj[j]?=some d.1/\W.params[j]?=some d.2.1/\bP W d.2.1 1 d.2.2/\d.2.2.length<=12
 ct:(P.aj.map λd=>aB d.2.2).sum<=most
end Pg
namespace Mi
open PySem Sm L2 Pg
theorem vM(n:Nat)(d:dX):gu n (dC d)=true:=by
 show(true&&(fc n (d.2.1.map D.str)&&(fc n (b7 d.2.2)&&true)))=true;rw[gS,dS];rfl
theorem GN(n:Nat)(P:Prog):gu n (aQ P)=true:=by
 show(fc n (P.names.map D.str)&&(fc n (P.aj.map dC)&&true))=true;rw[gS,eP n _ (vM n)];rfl
theorem jx{α:Type}{f:α->D}{xs:List α}{i:Nat}{x:D}(h:(jS 0 (xs.map f))[i]?=some x):∃a,xs[i]?=some a/\x=.tup [.int (i:Int),f a]:=by
 rw[nr,P8] at h;cases e:xs[i]? with
 | none=>rw[e] at h;cases h
 | some a=>
  rw[e] at h;cases h;exact⟨a,rfl,by rw[QV]⟩
theorem Wb.out(C:Cl h)(B:Sb E.s E.c E.cs h R' h0)(e:E.wd=h0.length)(A:Wb E (h0++[o]) R l h1):∃hb o',h1=hb++[o']/\Sb E.s E.c E.cs h R hb/\Cl hb:=by
 have b:=A.b;obtain⟨hs,hc⟩:=B.S.lt;have hl:h1.length=h0.length+1:=by rw[b.1];simp
 have hx:h0.length < h1.length:=by lia
 have ee:h1=h1.take h0.length++[h1[h0.length]'hx]:=by rw[List.take_append_getElem,Rz (by exact Uv hl)]
 have bb:rX E.s h0 (h1.take h0.length):=⟨by rw[Qb];lia,λk hk=>by
  by_cases z:k < h0.length
  ·rw[Qp z,b.2 k hk (by lia),PU z]
  ·rw[QC (by rw[Qb];lia),QC (by exact Q6 z)]⟩
 have S:=A.S;rw[ee] at S;have S':=S.cut (by rw[bb.1];exact hs) (by rw[bb.1];exact hc);exact⟨_,_,ee,⟨S',B.b.trans bb⟩,C.but S' (B.b.trans bb)⟩
theorem BO{h h0:MH}{s c R most:Nat}{cs:List Int}{odd:Int}{Q:D×MH->Prop}(A:Sb s c cs h0 (R+100*most+120) h)(C:Cl h)(o0:0<=odd)(o1:odd<=1000)(k:∀(W:Wd)(fl:List Int)(P:Prog)(h1:MH),oX W fl odd->KZ W most P->Sb s c cs h0 R h1->Cl h1->Q (aQ P,h1)):Rn (fS [.ob s,.int most,.int odd] h) Q:=by
 refine sY ?_;nofun;refine GU (R:=R+100*most+40) A.S.sb o0 o1 λW fl hb ok A1=>?_;obtain⟨lt1,lt2⟩:=A1.S.lt;have d2:=ok.d2;have n1:=ok.n1;have n2:=ok.n2;have hlen:=A1.b.1;let E:En:=⟨s,c,hb.length,cs,W,fl,odd,ok,by exact SK lt1,by exact SK lt2⟩;have B0:Wb E (hb++[mj W fl most odd]) (R+100*most+40) most (hb++[mj W fl most odd]):=⟨A1.S.more _,qU rfl,(C.but A1.S A1.b).snoc (y4 _ _ _ _ _),fW.refl _ _ _⟩;nofun;refine jj ?_;nofun;refine rv (dJ (B0.push (o:=.lst []) rfl).w) ?_;nofun;refine⟨_,_,_,rfl,rfl,?_⟩;have hobl:(hb++[mj W fl most odd]).length=h.length+1:=by simp[hlen]
 rw[hobl];refine cK (λi δ h'=>∃(dds:List dX)(l':Nat)(d5 d6 d7:Option D)(hw:MH),δ=[some (.ob s),some (.int most),some (.int odd),some (.ob hb.length),some (.ob (h.length+1)),d5,d6,d7]/\h'=hw++[.lst (dds.map dC)]/\hw.length=h.length+1/\dds.length=i/\(∀(j:Nat)(d:dX),dds[j]?=some d->W.aj[j]?=some d.1/\W.params[j]?=some d.2.1/\bP W d.2.1 1 d.2.2/\d.2.2.length<=12)/\l'+(dds.map λd=>aB d.2.2).sum=most/\Wb E (hb++[mj W fl most odd]) (R+100*l'+(40-5*i)) l' hw)
  ⟨[],most,_,_,_,_,rfl,rfl,hobl,rfl,λ_ _ z=>by simp at z,by simp,B0⟩ (λ_ _ _ _ _=>rfl) ?_ ?_
 ·rintro i x δ h' hx ⟨dds,l',d5,d6,d7,hw,rfl,rfl,hwl,hdl,hdd,hc,A6⟩;obtain⟨dn,hdn,rfl⟩:=jx hx;have hi:i < W.aj.length:=(PH.mp hdn).1;obtain⟨ps,hps⟩:∃f,W.params[i]?=some f:=⟨_,P7 (by rw[ok.pl];exact hi)⟩;nofun;refine Cj (E:=E) (R:=R+100*l'+(39-5*i)) (is:=[1,2,3,4,12]) (λi=>1<=i/\i<=12) (by decide) ((A6.push (o:=.lst (dds.map dC)) (eP _ _ (vM _) dds)).le (by lia)) λmo h7 hmo A7=>?_;nofun;refine(ring (E:=E) 20).1 (R:=R+(40-5*(i+1))) (d:=1) (held:=[]) (A7.le (by lia)) ⟨hps,hi,by decide,show(-1:Int)<=W.names.length by simp,λ_ z=>(nomatch z),by simp⟩ (by decide) (by decide) hmo.1 hmo.2 λt l8 h8 okl hll cr A8=>?_;have w8:=A8.w;obtain⟨hw8,rfl,e8,A8'⟩:=A6.pop A8;have hl8:=e8.trans hwl;nofun;refine qo ?_;nofun;refine⟨eZ (qU hl8),?_⟩;nofun;refine rv (cU w8) ?_;nofun;refine rv (cg hps) ?_;nofun;refine rv (a:=(.tup (ps.map D.str),_)) rfl ?_;nofun;refine rv (eF (qU hl8) (by rw[PC,show sizeLine=16777216 from rfl];lia)) ?_;rw[Ie hl8];nofun;have hcn:((dds++[(dn,ps,t)]).map λd:dX=>aB d.2.2).sum=(dds.map λd:dX=>aB d.2.2).sum+aB t:=by
   rw[Qf,SR];simp
  refine⟨dds++[(dn,ps,t)],l8,_,_,_,hw8,rfl,by rw[Qf];rfl,hl8,by simp[hdl],?_,by rw[hcn];lia,A8'.le (by lia)⟩;intro j d hj
  by_cases z:j < dds.length
  ·rw[PU z] at hj;exact hdd j d hj
  ·rw[P9 (by exact Q6 z)] at hj;have hj0:j-dds.length=0:=by
    have:=(PH.mp hj).1;simp at this
    lia
   rw[hj0] at hj;cases hj;obtain rfl:j=i:=by lia
   exact⟨hdn,hps,okl,hll⟩
 ·rintro δ h' ⟨dds,l',d5,d6,d7,hw,rfl,rfl,hwl,hdl,hdd,hc,A6⟩;rw[cC,PC] at hdl;have w6:=(A6.push (o:=.lst (dds.map dC)) (eP _ _ (vM _) dds)).w;have hat:(hw++[MO.lst (dds.map dC)])[h.length+1]?=some (.lst (dds.map dC)):=qU hwl;obtain⟨hb',o',rfl,B9,C9⟩:=Wb.out (E:=E) C A1 rfl A6;nofun;refine rv (dI w6) ?_;nofun;refine rv (a:=(.lv ((il W.names).map D.str),_)) (by
   show(nE (W.names.map D.str)).bind _=_;rw[mz];show(if W.names.length < 64 then _ else _)=_;rw[PL (by exact QS n2 (by decide))]) ?_
  nofun;refine rv (a:=(.tup ((il W.names).map D.str),_)) rfl ?_;nofun;refine rv (a:=(.tup (dds.map dC),_)) (by simp only[eJ,dE,hat,Qw];rfl) ?_;nofun;rw[QE];exact rv (qO B9.b.1 C9 (λn z=>(nomatch z)) (GN _ ⟨il W.names,dds⟩)) (k W fl ⟨il W.names,dds⟩ hb' ok ⟨rfl,hdl,hdd,by show _<=_;dsimp only;lia⟩ ⟨B9.S.le (by lia),A.b.trans B9.b⟩ C9)
end Mi
namespace Pg
open PySem Sm L2
noncomputable def aZ(l:List Row):D:=.tup (b7 l)
noncomputable def ai:Row->List (List Row)
 | .say _=>[]
 | .call _ _=>[]
 | .within _ b=>[b]
 | .all _ b=>[b]
 | .ask _ b e=>[b,e]
 | .nv _ _ a b c=>[a,b,c]
 | .either a b=>[a,b]
 | .again a=>[a]
noncomputable def uA:Row->Str
 | .say _=>"say"
 | .call _ _=>"call"
 | .within _ _=>"within"
 | .all _ _=>"all"
 | .ask _ _ _=>"ask"
 | .nv _ _ _ _ _=>"by"
 | .either _ _=>"either"
 | .again _=>"again"
mutual
noncomputable def ej(p:List Nat):Row->List (List Nat×Row)
 | .say _=>[]
 | .call _ _=>[]
 | .within _ b=>aN (p++[0]) 0 b
 | .all _ b=>aN (p++[0]) 0 b
 | .ask _ b e=>aN (p++[0]) 0 b++aN (p++[1]) 0 e
 | .nv _ _ a b c=>aN (p++[0]) 0 a++(aN (p++[1]) 0 b++aN (p++[2]) 0 c)
 | .either a b=>aN (p++[0]) 0 a++aN (p++[1]) 0 b
 | .again a=>aN (p++[0]) 0 a
noncomputable def aN(a:List Nat)(k:Nat):List Row->List (List Nat×Row)
 | []=>[]
 | r::rs=>(a++[k],r)::(ej (a++[k]) r++aN a (k+1) rs)
end
noncomputable def cF(p:List Nat):Nat->List (List Row)->List (List Nat×Row)
 | _,[]=>[]
 | k,l::ls=>aN (p++[k]) 0 l++cF p (k+1) ls
theorem jl(p:List Nat)(r:Row):ej p r=cF p 0 (ai r):=by
 cases r <;> simp[ej,ai,cF]
theorem j9(a:List Nat):∀(k:Nat)(x y:List Row),aN a k (x++y)=aN a k x++aN a (k+x.length) y
 | k,[],y=>by simp[aN]
 | k,r::x,y=>by simp[aN,j9 a (k+1) x y,Tv,Tu]
theorem mZ(p:List Nat):∀(k:Nat)(x y:List (List Row)),cF p k (x++y)=cF p k x++cF p (k+x.length) y
 | k,[],y=>by simp[cF]
 | k,r::x,y=>by simp[cF,mZ p (k+1) x y,Tv,Tu]
mutual
noncomputable def aS:Row->Nat
 | .say _=>0
 | .call _ _=>0
 | .within _ b=>au b
 | .all _ b=>au b
 | .ask _ b e=>max (au b) (au e)
 | .nv _ _ a b c=>max (au a) (max (au b) (au c))
 | .either a b=>max (au a) (au b)
 | .again a=>au a
noncomputable def au:List Row->Nat
 | []=>1
 | r::rs=>max (1+aS r) (au rs)
end
theorem dA{lot:List Row}{r:Row}(h:r∈lot):1+aS r<=au lot:=by
 induction lot with
 | nil=>cases h
 | cons x xs ih=>
  rw[au];rcases PZ.mp h with rfl | h
  ·lia
  ·have:=ih h;lia
theorem eC{r:Row}{l:List Row}(h:l∈ai r):au l<=aS r:=by
 cases r <;> simp[ai] at h
 case within=>subst h;simp[aS]
 case all=>subst h;simp[aS]
 case ask=>rcases h with rfl | rfl <;> rw[aS] <;> lia
 case nv=>rcases h with rfl | rfl | rfl <;> rw[aS] <;> lia
 case either=>rcases h with rfl | rfl <;> rw[aS] <;> lia
 case again=>subst h;simp[aS]
theorem rD{lot:List Row}{r:Row}(h:r∈lot):cnt r<=aB lot:=by
 induction lot with
 | nil=>cases h
 | cons x xs ih=>
  rw[aB];rcases PZ.mp h with rfl | h
  ·lia
  ·have:=ih h;lia
theorem i0(r:Row):cnt r=1+((ai r).map aB).sum:=by cases r <;> simp[cnt,ai] <;> lia
mutual
theorem yt(p:List Nat):∀r:Row,1+(ej p r).length=cnt r
 | .say _=>by simp[ej,cnt]
 | .call _ _=>by simp[ej,cnt]
 | .within _ b=>by simp[ej,cnt,a9 (p++[0]) 0 b]
 | .all _ b=>by simp[ej,cnt,a9 (p++[0]) 0 b]
 | .ask _ b e=>by simp[ej,cnt,a9 (p++[0]) 0 b,a9 (p++[1]) 0 e];lia
 | .nv _ _ a b c=>by simp[ej,cnt,a9 (p++[0]) 0 a,a9 (p++[1]) 0 b,a9 (p++[2]) 0 c];lia
 | .either a b=>by simp[ej,cnt,a9 (p++[0]) 0 a,a9 (p++[1]) 0 b];lia
 | .again a=>by simp[ej,cnt,a9 (p++[0]) 0 a]
theorem a9(a:List Nat):∀(k:Nat)(l:List Row),(aN a k l).length=aB l
 | k,[]=>by simp[aN,aB]
 | k,r::rs=>by
  have:=yt (a++[k]) r;have:=a9 a (k+1) rs;simp[aN,aB];lia
end
mutual
theorem yE{W:Wd}{ps:List Str}:∀(n:Nat)(r:Row),bE W ps n r->n<=5->aS r<=5-n
 | n,.say _,_,_=>by simp[aS]
 | n,.call _ _,_,_=>by simp[aS]
 | n,.within _ b,h,hn=>by rw[bE] at h;have:=bH (n+1) b h.2.2.2 h.2.1;rw[aS];lia
 | n,.all _ b,h,hn=>by rw[bE] at h;have:=bH (n+1) b h.2.2.2 h.2.1;rw[aS];lia
 | n,.ask _ b e,h,hn=>by rw[bE] at h;have:=bH (n+1) b h.2.2.2.2.1 h.2.1;have:=bH (n+1) e h.2.2.2.2.2 h.2.1;rw[aS];clear h;lia
 | n,.nv _ _ a b c,h,hn=>by
  rw[bE] at h;obtain⟨_,_,h0,_,_,_,h1,h2,h3⟩:=h;have:=bH (n+1) a h1 h0;have:=bH (n+1) b h2 h0;have:=bH (n+1) c h3 h0;rw[aS];lia
 | n,.either a b,h,hn=>by
  rw[bE] at h;obtain⟨h0,_,_,h1,h2⟩:=h;have:=bH (n+1) a h1 h0;have:=bH (n+1) b h2 h0;rw[aS];lia
 | n,.again a,h,hn=>by
  rw[bE] at h;obtain⟨h0,_,h1⟩:=h;have:=bH (n+1) a h1 h0;rw[aS];lia
theorem bH{W:Wd}{ps:List Str}:∀(n:Nat)(l:List Row),bP W ps n l->n<=5->au l<=6-n
 | n,[],_,hn=>by simp[au];lia
 | n,r::rs,h,hn=>by
  rw[bP] at h;have:=yE n r h.1 hn;have:=bH n rs h.2 hn;rw[au];lia
end
noncomputable def iC(n:Nat):D:=.int (n:Int)
noncomputable def fw(p:List Nat):D:=.tup (p.map iC)
noncomputable def nV(x:List Nat×Row):D:=.tup [fw x.1,ax x.2]
end Pg
namespace Mi
open PySem Sm L2 Pg
theorem GO(n:Nat)(x:List Nat×Row):gu n (nV x)=true:=by
 show(fc n (x.1.map iC)&&(gu n (ax x.2)&&true))=true;rw[eP n _ (λ_=>rfl),rE];rfl
theorem t8(h:MH):vY h h=true:=by
 induction h with
 | nil=>rfl
 | cons o r ih=>show(EG o o&&vY r r)=true;rw[t7,ih];rfl
theorem tL{H:MH}{xs:List D}(hc:fc H.length xs=true):leave H (.ob H.length) (H++[.lst xs])=some (.lv xs,H):=by
 have h3:x5 H.length (H++[.lst xs]) (.ob H.length)=.lv xs:=by
  show(if H.length < H.length then _ else _)=_;rw[P0 (Q4 _)];simp
 unfold leave;rw[h3,Sd (PJ _),QT,t8];show(if(fc H.length xs&&_)=true then _ else _)=_;rw[hc];rfl
theorem lE(r:Row)(h:MH):cJ [ax r] h=some (.tup ((ai r).map aZ),h):=by
 have e:Rn (cJ [ax r] h) λp=>p=(.tup ((ai r).map aZ),h):=by
  refine bL ?_;cases r <;> rw[ax] <;> (nofun;refine rv rfl ?_;nofun;refine rv rfl ?_;dsimp only;refine⟨_,rfl,?_⟩;nofun;refine rv rfl ?_;rfl)
 obtain⟨p,e1,rfl⟩:=e;exact e1
theorem BC{xs ys:List D}{h:MH}(hl:xs.length+ys.length<=10000):aw (.tup xs) (.tup ys) h=some (.tup (xs++ys),h):=by
 cases xs with
 | nil=>rfl
 | cons x xs=>
  show(if xs.length+1+ys.length<=sizeLine then some (D.tup (x::xs++ys),h) else none)=_;rw[PL (by rw[show sizeLine=16777216 from rfl];rw[P1] at hl;exact PY hl (by decide))]
theorem qJ{h:MH}{n:Nat}{xs ys:List D}(e:h[n]?=some (.lst xs))(hl:xs.length+ys.length<=1000000):jo (.ob n) [.lv ys] h=some (.bR,h.set n (.lst (xs++ys))):=by
 unfold jo;dsimp only;rw[e];show(if xs.length+ys.length<=sizeLine then _ else _)=_;rw[PL (by rw[show sizeLine=16777216 from rfl];exact PY hl (by decide))]
theorem pR{H:MH}{o o':MO}:(H++[o]).set H.length o'=H++[o']:=by
 rw[R3 _ _ (PJ _),Uu];rfl
theorem gO{H:MH}{o:MO}:(H++[o])[H.length]?=some o:=by simp
theorem tU(a:List Nat)(i:Nat)(hl:a.length<=1000)(h:MH):aw (fw a) (.tup [.int (i:Int)]) h=some (fw (a++[i]),h):=by
 show aw (.tup (a.map iC)) (.tup [iC i]) _=_;rw[BC (by rw[PC];simp;lia)];simp[fw]
theorem qt:∀(n:Nat)(lot:List Row)(ahead:List Nat)(h:MH),au lot<=n->aB lot<=1000->ahead.length+2*n<=100->dy n [.tup (b7 lot),fw ahead] h=some (.lv ((aN ahead 0 lot).map nV),h)
 | 0,lot,ahead,h,hn,hc,ha=>by
  exfalso;cases lot with
  | nil=>simp[au] at hn
  | cons r rs=>rw[au] at hn;lia
 | n+1,lot,ahead,h,hn,hc,ha=>by
  have e:Rn (dy (n+1) [.tup (b7 lot),fw ahead] h) λp=>p=(.lv ((aN ahead 0 lot).map nV),h):=by
   unfold dy;refine sY ?_;nofun;refine jj ?_;nofun;refine⟨_,_,_,rfl,rfl,?_⟩;rw[aX];refine cK (λi δ h'=>∃(d3 d4 d5 d6 d7:Option D),δ=[some (.tup (lot.map ax)),some (fw ahead),some (.ob h.length),d3,d4,d5,d6,d7]/\h'=h++[.lst ((aN ahead 0 (lot.take i)).map nV)])
    ⟨_,_,_,_,_,rfl,by simp[aN]⟩ (λ_ _ _ _ _=>rfl) ?_ ?_
   ·rintro i x δ h' hx ⟨d3,d4,d5,d6,d7,rfl,rfl⟩;obtain⟨r,hr,rfl⟩:=jx hx;have hrm:=PF hr;have hi:i < lot.length:=(PH.mp hr).1;have htk:lot.take (i+1)=lot.take i++[r]:=by
     rw[TX,hr];rfl
    have hpl:aN ahead 0 (lot.take (i+1))=aN ahead 0 (lot.take i)++((ahead++[i],r)::cF (ahead++[i]) 0 (ai r)):=by
     rw[htk,j9];simp only[aN,jl,Qb,QD,QV];rw[RC (by exact Ry hi)]
    have hlen:(aN ahead 0 lot).length<=1000:=by rw[a9];exact hc
    have hsub:(aN ahead 0 (lot.take (i+1))).length<=1000:=by
     have:aN ahead 0 lot=aN ahead 0 (lot.take (i+1))++aN ahead (0+(lot.take (i+1)).length) (lot.drop (i+1)):=by
      rw[<-j9,Rf]
     rw[this,PR] at hlen;exact PY (Qh _ _) hlen
    generalize aN ahead 0 (lot.take i)=F0 at hpl ⊢;nofun;refine rv (tU ahead i (by lia) _) ?_;nofun;rw[hpl,PR,P1] at hsub;refine qo ?_;nofun;refine⟨eZ gO,?_⟩;nofun;refine rv (eF gO (by rw[PC,show sizeLine=16777216 from rfl];lia)) ?_;nofun;rw[pR];refine jj ?_;nofun;refine rv (lE r _) ?_;nofun;refine⟨_,_,_,rfl,rfl,?_⟩;refine cK (λj δ h'=>∃(d6 d7:Option D),δ=[some (.tup (lot.map ax)),some (fw ahead),some (.ob h.length),some (.int i),some (ax r),some (fw (ahead++[i])),d6,d7]/\h'=h++[.lst ((F0++((ahead++[i],r)::cF (ahead++[i]) 0 ((ai r).take j))).map nV)])
     ⟨_,_,rfl,by simp[cF,nV]⟩ (λ_ _ _ _ _=>rfl) ?_ ?_
    ·rintro j x δ h' hx ⟨d6,d7,rfl,rfl⟩;obtain⟨l,hl,rfl⟩:=jx hx;have hlm:=PF hl;have hj:j < (ai r).length:=(PH.mp hl).1;have htk:(ai r).take (j+1)=(ai r).take j++[l]:=by
      rw[TX,hl];rfl
     have hpj:cF (ahead++[i]) 0 ((ai r).take (j+1))=cF (ahead++[i]) 0 ((ai r).take j)++aN (ahead++[i]++[j]) 0 l:=by
      rw[htk,mZ];simp only[cF,Qb,QD,QV];rw[RC (by exact Ry hj)]
     have hsub2:(cF (ahead++[i]) 0 ((ai r).take (j+1))).length<=(cF (ahead++[i]) 0 (ai r)).length:=by
      have:cF (ahead++[i]) 0 (ai r)=cF (ahead++[i]) 0 ((ai r).take (j+1))++cF (ahead++[i]) (0+((ai r).take (j+1)).length) ((ai r).drop (j+1)):=by
       rw[<-mZ,Rf]
      rw[this,PR];exact Qh _ _
     rw[hpj,PR] at hsub2;have ih:=λhh=>qt n l (ahead++[i]++[j]) hh (by have:=dA hrm;have:=eC hlm;lia) (by rw[<-a9 (ahead++[i]++[j]) 0];lia) (by simp;lia);nofun;refine qo ?_;nofun;refine⟨eZ gO,?_⟩;nofun;refine rv (tU (ahead++[i]) j (by simp;lia) _) ?_;nofun;refine rv (ih _) ?_;nofun;refine rv (qJ gO (by rw[PC,PC,PR,P1];lia)) ?_;nofun;rw[pR,<-Qf];refine⟨_,_,rfl,?_⟩;rw[hpj];simp
    ·rintro δ h' ⟨d6,d7,rfl,rfl⟩;rw[cC,PC,QT];nofun;exact⟨_,_,_,_,_,rfl,by rw[hpl]⟩
   ·rintro δ h' ⟨d3,d4,d5,d6,d7,rfl,rfl⟩;rw[cC,PC,QT];nofun;exact rv (tL (eP _ _ (GO _) _)) rfl
  obtain⟨p,e1,rfl⟩:=e;exact e1
end Mi
namespace Pg
open PySem Sm L2
noncomputable def placesFrom:Nat->List dX->List (Nat×List Nat×Row)
 | _,[]=>[]
 | k,d::ds=>(aN [] 0 d.2.2).map (λx=>(k,x.1,x.2))++placesFrom (k+1) ds
noncomputable def fK(x:Nat×List Nat×Row):D:=.tup [iC x.1,fw x.2.1,ax x.2.2]
theorem fJ:∀(k:Nat)(x y:List dX),placesFrom k (x++y)=placesFrom k x++placesFrom (k+x.length) y
 | k,[],y=>by simp[placesFrom]
 | k,d::x,y=>by simp[placesFrom,fJ (k+1) x y,Tv,Tu]
theorem cR:∀(k:Nat)(ds:List dX),(placesFrom k ds).length=(ds.map λd=>aB d.2.2).sum
 | _,[]=>rfl
 | k,d::ds=>by simp[placesFrom,cR (k+1) ds,a9]
theorem kM:∀{ds:List dX} {d:dX},d∈ds->aB d.2.2<=(ds.map λd=>aB d.2.2).sum
 | x::r,d,h=>by
  rw[P6,Rr];rcases PZ.mp h with rfl | h
  ·lia
  ·have:=kM h;lia
structure xR(P:Prog):Prop where
 nd:∀d∈P.aj,au d.2.2<=6
 ct:(P.aj.map λd=>aB d.2.2).sum<=1000
 dl:P.aj.length<=1000
theorem KZ.fit{W:Wd}{m:Nat}{P:Prog}(o:KZ W m P)(hm:m<=1000)(hd:W.aj.length<=6):xR P:=by
 refine⟨λd hd=>?_,PY o.ct hm,by rw[o.dl];lia⟩;obtain⟨j,hj⟩:=Rg.mp hd;obtain⟨_,_,ok,_⟩:=o.dd j d hj;have:=bH 1 d.2.2 ok (by lia)
 lia
end Pg
namespace Mi
open PySem Sm L2 Pg
theorem Ex(n:Nat)(x:Nat×List Nat×Row):gu n (fK x)=true:=by
 show(true&&(fc n (x.2.1.map iC)&&(gu n (ax x.2.2)&&true)))=true;rw[eP n _ (λ_=>rfl),rE];rfl
theorem GJ{α:Type}{ws:W}{g:GM}{e:EM}{h:MH}(hc:lT ws h=true)(f k:α->D)(J:DS->Prop)(xs:List α){δ:DS}(h0:J δ)(ht:∀x∈xs,∀δ,J δ->Rn (g (f x) δ h) λq=>q.2=h/\J q.1/\Rn (e q.1 h) λp=>p=(k x,h)):
  cf ws g cx e (xs.map f) δ h=some (xs.map k,h):=by
 induction xs generalizing δ with
 | nil=>rw[QW];unfold cf;rw[PL hc];rfl
 | cons x r ih=>
  rw[P6];unfold cf;rw[PL hc];obtain⟨⟨δ1,h1⟩,e1,rfl,J1,p,e2,rfl⟩:=ht x PQ δ h0;rw[e1];dsimp only[Option.bind_some] at e2 ⊢;show((some (true,h1)).bind _)=_;dsimp only[Option.bind_some];rw[PL rfl,e2];dsimp only[Option.bind_some];rw[ih J1 λy hy=>ht y (PV _ hy)];rfl
theorem f9{P:Prog}(fit:xR P)(h:MH):bT [aQ P] h=some (.lv ((placesFrom 0 P.aj).map fK),h):=by
 have e:Rn (bT [aQ P] h) λp=>p=(.lv ((placesFrom 0 P.aj).map fK),h):=by
  refine sY ?_;nofun;refine jj ?_;nofun;refine rv (a:=(.tup (P.aj.map dC),_)) rfl ?_;nofun;refine⟨_,_,_,rfl,rfl,?_⟩;refine cK (λi δ h'=>∃(d2 d3 d4 d5:Option D),δ=[some (aQ P),some (.ob h.length),d2,d3,d4,d5]/\h'=h++[.lst ((placesFrom 0 (P.aj.take i)).map fK)])
   ⟨_,_,_,_,rfl,by simp[placesFrom]⟩ (λ_ _ _ _ _=>rfl) ?_ ?_
  ·rintro i x δ h' hx ⟨d2,d3,d4,d5,rfl,rfl⟩;obtain⟨d,hd,rfl⟩:=jx hx;have hdm:=PF hd;have hi:i < P.aj.length:=(PH.mp hd).1;have htk:P.aj.take (i+1)=P.aj.take i++[d]:=by rw[TX,hd];rfl
   have hpl:placesFrom 0 (P.aj.take (i+1))=placesFrom 0 (P.aj.take i)++(aN [] 0 d.2.2).map λx=>(i,x.1,x.2):=by
    rw[htk,fJ];simp only[placesFrom,Qb,QD,QV];rw[RC (by lia)]
   have hc:=kM hdm;have ct:=fit.ct;have hlen:(placesFrom 0 P.aj).length<=1000:=by rw[cR];exact ct
   have hsub:(placesFrom 0 (P.aj.take (i+1))).length<=1000:=by
    have:placesFrom 0 P.aj=placesFrom 0 (P.aj.take (i+1))++placesFrom (0+(P.aj.take (i+1)).length) (P.aj.drop (i+1)):=by
     rw[<-fJ,Rf]
    rw[this,PR] at hlen
    lia
   rw[hpl,PR,PC] at hsub;unfold dC;nofun;refine qo ?_;nofun;refine⟨eZ gO,?_⟩;nofun;refine du ?_;nofun;refine rv (qt 8 d.2.2 [] _ (PY (fit.nd d hdm) (by decide)) (by lia) (by simp)) ?_;refine⟨_,_,rfl,?_⟩;refine rv (GJ rfl nV (λx=>fK (i,x.1,x.2)) (λδ=>∃a b,δ=[a,b,some (.int i)]) (aN [] 0 d.2.2) ⟨_,_,rfl⟩ ?_) ⟨?_,?_⟩
   ·rintro x hx δ ⟨a,b,rfl⟩;unfold nV;nofun;refine⟨rfl,⟨_,_,rfl⟩,?_⟩;nofun;rfl
   ·dsimp only;rw[PC,show sizeLine=16777216 from rfl]
    lia
   ·nofun;refine rv (qJ gO (by rw[PC,PC];lia)) ?_;nofun;rw[pR];refine⟨_,_,_,_,rfl,?_⟩;rw[hpl,Qf,Ro];rfl
  ·rintro δ h' ⟨d2,d3,d4,d5,rfl,rfl⟩;rw[cC,PC,QT];nofun;exact rv (tL (eP _ _ (Ex _) _)) rfl
 obtain⟨p,e1,rfl⟩:=e;exact e1
end Mi
namespace Sm
open PySem L2 Builtin.Str StrLaws
noncomputable def OZ(l:List Nat):Str:=⟨l.toArray⟩
theorem zT(x:Str):OZ x.cps.toList=x:=by cases x;simp[OZ]
theorem GI{x y:Str}(e:x.cps.toList=y.cps.toList):x=y:=by rw[<-zT x,e,zT]
def Sh(n:Nat)(x:Str):Prop:=x.length<=n/\PyData.strOk x=true
theorem Sh.up{n m:Nat}{x:Str}(h:Sh n x)(hm:n<=m):Sh m x:=⟨PY h.1 hm,h.2⟩
theorem Sh.app{n m:Nat}{x y:Str}(h:Sh n x)(h':Sh m y):Sh (n+m) (x++y):=⟨by rw[Qt];exact Nat.add_le_add h.1 h'.1,Sm.gy h.2 h'.2⟩
theorem Sh.int{i:Int}(h:-99<=i/\i<=99):Sh 8 (Str.ofString (toString i)):=by
 refine⟨?_,sM i⟩;have hl:(Str.ofString (toString i)).length=(toString i).length:=by
  rw[Str.ofString_eq_toList];show((toString i).toList.map Char.toNat).toArray.size=_;rw[P5,PC];exact String.length_toList
 rw[hl];have:=int_text_length_le10 (a:=i) (k:=2) (by decide) (by lia)
 lia
end Sm
namespace Pg
open PySem Sm L2
noncomputable def my(t:Term):Str:=if t.1=Str.ofString "" then Str.ofString (toString t.2) else if t.2=0 then t.1 else t.1++(if 0 < t.2 then Txt.mul (Str.ofString "+") 1 else Txt.mul (Str.ofString "+") 0)++Str.ofString (toString t.2)
noncomputable def oq(l:Lock):Str:=l.1++Str.ofString ":"++my l.2
noncomputable def ox:Row->Str
 | .say w=>Str.ofString "say "++w
 | .call d ts=>Str.join (Str.ofString " ") (Str.ofString "call"::d::ts.map my)
 | .within l _=>Str.ofString "within"++Str.ofString " "++oq l
 | .all ls _=>Str.join (Str.ofString " ") (Str.ofString "all"::ls.map oq)
 | .ask l _ _=>Str.ofString "ask"++Str.ofString " "++oq l
 | .nv s t _ _ _=>Str.ofString "by "++my s++Str.ofString " "++my t
 | .either _ _=>Str.ofString "either"
 | .again _=>Str.ofString "again"
def Ic(t:Term):Prop:=Sh 8 t.1/\-99<=t.2/\t.2<=99
def KP(l:Lock):Prop:=Sh 8 l.1/\Ic l.2
def NR:Row->Prop
 | .say w=>Sh 8 w
 | .call d ts=>Sh 8 d/\ts.length<=3/\∀t∈ts,Ic t
 | .within l _=>KP l
 | .all ls _=>ls.length<=4/\(∀l∈ls,KP l)/\ls≠[]
 | .ask l _ _=>KP l
 | .nv s t _ _ _=>Ic s/\Ic t
 | .either _ _=>True
 | .again _=>True
theorem kK{t:Term}(h:Ic t):Sh 20 (my t):=by
 unfold my
 split
 ·exact(Sh.int h.2).up (by decide)
 ·split
  ·exact h.1.up (by decide)
  ·refine Sh.up (n:=8+2+8) ((h.1.app ?_).app (Sh.int h.2)) (by decide)
   split <;> exact⟨by decide+kernel,by decide+kernel⟩
theorem qN{l:Lock}(h:KP l):Sh 30 (oq l):=Sh.up (n:=8+1+20) ((h.1.app ⟨by decide+kernel,by decide+kernel⟩).app (kK h.2)) (by decide)
end Pg
namespace Sm
open PySem L2
theorem rC{α:Type}{e:EM}{h:MH}{t:DS}(A f:α->D):∀(xs:List α)(o:Option D),(∀x∈xs,e (some (A x)::t) h=some (f x,h))->cf [] (gN 0) cx e (xs.map A) (o::t) h=some (xs.map f,h)
 | [],o,_=>rfl
 | x::r,o,hx=>by
  have e1:e (some (A x)::t) h=some (f x,h):=hx x PQ;have e2:=rC A f r (some (A x)) λy hy=>hx y (PV _ hy);show((e (some (A x)::t) h).bind λy=>(cf [] (gN 0) cx e (r.map A) (some (A x)::t) y.2).map λz=>(y.1::z.1,z.2))=_;rw[e1];show((cf [] (gN 0) cx e (r.map A) (some (A x)::t) h).map λz=>(f x::z.1,z.2))=_;rw[e2];rfl
theorem uc{α:Type}{caps:List (Option Nat)}{ei e:EM}{δ t:DS}{o:Option D}{h:MH}{d:D}{xs:List α}(A f:α->D)(hi:ei δ h=some (d,h))(hs:dE d h=some (xs.map A,[]))(hc:cS caps δ=o::t)(hl:xs.length<=100000)(he:∀x∈xs,e (some (A x)::t) h=some (f x,h)):
  cZ caps (dc ei) (gN 0) cx e δ h=some (xs.map f,h):=by
 unfold cZ dc;rw[hi];dsimp only[Option.bind_some];rw[hs];dsimp only[Option.map_some,Option.bind_some];rw[hc,rC A f xs o he];dsimp only[Option.bind_some];rw[PL (by rw[PC,show sizeLine=16777216 from rfl];lia)]
end Sm
namespace Mi
open PySem Sm L2 Pg
theorem LP{δ:DS}{h:MH}{a b:EM}{Q:D×MH->Prop}(r:Rn (a δ h) λp=>∃c,xZ p.1 p.2=some c/\(c=true->Q p)/\(c=false->Rn (b δ p.2) Q)):Rn (yW a b δ h) Q:=a8 (r.imp λp ⟨c,e,q1,q2⟩=>by
 rw[e];show Rn (if c=true then some p else b δ p.2) Q;cases c with
 | true=>rw[PL rfl];exact⟨_,rfl,q1 rfl⟩
 | false=>rw[P0 (by simp)];exact q2 rfl)
theorem len0{w:Str}(h:w.length=0):w=Str.ofString "":=by
 refine GI ?_;have:w.cps.toList.length=0:=by rw[RP];exact h
 rw[Up.mp this];rfl
theorem fA{t:Term}{h:MH}(ht:Ic t):bu [bq t] h=some (.str (my t),h):=by
 obtain⟨w,i⟩:=t;obtain⟨hw,h0,h1⟩:=ht;dsimp only at hw h0 h1;have hs:xn [.int i] h=some (.str (Str.ofString (toString i)),h):=by
  show(if i.natAbs.log2 < 1920 then some (D.str (Str.ofString (toString i)),h) else none)=_;rw[PL]
  by_cases z:i.natAbs=0
  ·rw[z];decide
  ·exact(Nat.log2_lt z).mpr (Qd (show i.natAbs < 2^7 by lia) (UI (by decide) (by decide)))
 have li:=(Sh.int ⟨h0,h1⟩).1;have lw:=hw.1;refine bp ?_;show Rn (bu [.tup [.str w,.int i]] h) _;refine bL ?_;refine de (C7 (rv (a:=(.tup [.str w,.int i],h)) rfl (rv (a:=([some (.tup [.str w,.int i]),some (.str w),some (.int i)],h)) rfl (oM ?_))));refine eS (w=Str.ofString ""\/i=0) ?_ (λz=>?_) (λz=>?_)
 ·nofun;refine⟨_,rfl,λy=>?_,λy=>?_⟩
  ·exact dT (.inl (eq_of_beq y)) _
  ·have y:w≠Str.ofString "":=by intro e;rw[e,Q5] at y;cases y
   nofun;refine⟨_,rfl,?_⟩;rw[show(i==0)=decide (w=Str.ofString ""\/i=0) by rw[Rm];simp[y]]
 ·nofun;refine LP ?_;nofun
  by_cases e:w=Str.ofString ""
  ·subst e;refine⟨false,by ac_nf,λz=>(nomatch z),λ_=>?_⟩;nofun;refine rv hs ?_;nofun;unfold my;rw[PL rfl]
  ·have z0:i=0:=z.resolve_left e;subst z0;refine⟨true,?_,λ_=>?_,λz=>(nomatch z)⟩
   ·show(if w.length<=sizeLine then some ((w.length:Int) !=0) else none)=_;rw[PL (PY lw (by decide))];have:w.length≠0:=λy=>e (len0 y);congr 1;simp only[bne_iff_ne,ne_eq];lia
   ·nofun;unfold my;rw[P0 e,PL rfl]
 ·nofun;obtain⟨v,hv,hm,hvt⟩:∃(v:Int),nj [.bl (decide (0 < i))] h=some (.int v,h)/\gQ (.str (Str.ofString "+")) (.int v) h=some (.str (if 0 < i then Txt.mul (Str.ofString "+") 1 else Txt.mul (Str.ofString "+") 0),h)/\(if 0 < i then Txt.mul (Str.ofString "+") 1 else Txt.mul (Str.ofString "+") 0).length<=1:=by
   by_cases y:0 < i
   ·exact⟨1,by rw[Qj y];rfl,by rw[PL y];ac_nf,by rw[PL y];decide+kernel⟩
   ·exact⟨0,by rw[Qv y];rfl,by rw[P0 y];ac_nf,by rw[P0 y];decide+kernel⟩
  refine rv hv (rv hm (rv (bI (by lia)) ?_));nofun;refine rv hs (rv (bI (by rw[Qt];lia)) ?_);nofun;unfold my;dsimp only;rw[P0 (λe=>z (.inl e)),P0 (λe=>z (.inr e))]
theorem hU{l:Lock}{h:MH}(hl:KP l):bW [aJ l] h=some (.str (oq l),h):=by
 obtain⟨w,t⟩:=l;obtain⟨hw,ht⟩:=hl;have a:=hw.1;have b:=(kK ht).1;have c:(Str.ofString ":").length=1:=by decide+kernel
 dsimp only at a b;refine bp ?_;show Rn (bW [.tup [.str w,bq t]] h) _;refine bL ?_;nofun;refine rv (bI (by lia)) ?_;nofun;refine rv (fA ht) (rv (bI (by rw[Qt];lia)) ?_);nofun;rfl
theorem wt{n:Nat}:∀{xs:List Str},(∀x∈xs,x.length<=n)->(xs.map (·.length)).sum<=n*xs.length
 | [],_=>by simp
 | x::r,h=>by
  have a:=h x (.head _);have b:=wt (n:=n) (xs:=r) λy hy=>h y (.tail _ hy);simp only[P6,Rr,P1];rw[Nat.mul_succ];lia
theorem tQ{xs:List Str}(h:∀x∈xs,x.length<=1000)(hl:xs.length<=1000){H:MH}{d:D}{ws:List (Nat×MO)}(e:dE d H=some (xs.map D.str,ws)):xa (.str " ") [d] H=some (.str (Str.join (Str.ofString " ") xs),H):=by
 unfold xa;dsimp only;rw[e];dsimp only[Option.bind_some];rw[mz];dsimp only[Option.bind_some];have:=wt h;have c:(Str.ofString " ").length=1:=by decide+kernel
 rw[PL (by rw[c];lia)]
theorem Gx{r:Row}{h:MH}(hr:NR r):i8 [ax r] h=some (.str (ox r),h):=by
 have cb:(Str.ofString " ").length=1:=by decide+kernel
 cases r with
 | either a b=>rw[ax];ac_nf
 | again a=>rw[ax];ac_nf
 | say w=>
  have a:=hr.1;refine bp (bL ?_);rw[ax];nofun;refine⟨true,by ac_nf,λ_=>?_,λz=>(nomatch z)⟩;nofun;refine rv (bI (by rw[show(Str.ofString "say ").length=4 by decide+kernel];lia)) ?_;nofun;rfl
 | call d ts=>
  have hd:=hr.1.1;have hl:=hr.2.1;have e1:cZ [none] (dc (ao aV (av 0) (eK (.int 2)))) (gN 0) cx (ak bu (af (av 0) aH)) (entry 1 [.tup [.str "call",.str d,.tup (ts.map bq)]]) h=some (ts.map λt=>.str (my t),h):=
   uc (t:=[]) (o:=none) bq (λt=>.str (my t)) (d:=.tup (ts.map bq)) rfl rfl rfl (by lia) λt ht=>fA (hr.2.2 t ht)
  refine bp (bL ?_);rw[ax];nofun;refine⟨false,by ac_nf,λz=>(nomatch z),λ_=>?_⟩;nofun;refine⟨true,by ac_nf,λ_=>?_,λz=>(nomatch z)⟩;nofun;refine qo ?_;nofun;refine⟨rfl,bO (mO (uU (rv (a:=([.str "call",.str d],h)) (by ac_nf) (uU (rv e1 ?_)))))⟩;refine rv (a:=(.lv ((Str.ofString "call"::d::ts.map my).map D.str),h)) ?_ (fI (rv (tQ ?_ ?_ (ws:=[]) rfl) ?_))
  ·rw[P6,P6,Ro];simp only[aw,sG,dw,Ql,PC,P1,QJ];rw[PL (by rw[show sizeLine=16777216 from rfl];lia)];rfl
  ·intro x hx;rcases PZ.mp hx with rfl | hx
   ·decide+kernel
   ·rcases PZ.mp hx with rfl | hx
    ·lia
    ·obtain⟨t,ht,rfl⟩:=Qz.mp hx;have:=(kK (hr.2.2 t ht)).1
     lia
  ·simp;lia
  ·nofun;rfl
 | all ls b=>
  have hl:=hr.1;have e1:cZ [none] (dc (ao aV (av 0) (eK (.int 1)))) (gN 0) cx (ak bW (af (av 0) aH)) (entry 1 [.tup [.str "all",.tup (ls.map aJ),.tup (b7 b)]]) h=some (ls.map λt=>.str (oq t),h):=
   uc (t:=[]) (o:=none) aJ (λt=>.str (oq t)) (d:=.tup (ls.map aJ)) rfl rfl rfl (by lia) λt ht=>hU (hr.2.1 t ht)
  refine bp (bL ?_);rw[ax];nofun;refine⟨false,by ac_nf,λz=>(nomatch z),λ_=>?_⟩;nofun;refine⟨false,by ac_nf,λz=>(nomatch z),λ_=>?_⟩;nofun;refine⟨true,by ac_nf,λ_=>?_,λz=>(nomatch z)⟩;nofun;refine qo ?_;nofun;refine⟨rfl,bO (mO (uU (rv (a:=([.str "all"],h)) (by ac_nf) (uU (rv e1 ?_)))))⟩;refine rv (a:=(.lv ((Str.ofString "all"::ls.map oq).map D.str),h)) ?_ (fI (rv (tQ ?_ ?_ (ws:=[]) rfl) ?_))
  ·rw[P6,Ro];simp only[aw,sG,dw,Ql,PC,P1,QJ];rw[PL (by rw[show sizeLine=16777216 from rfl];lia)];rfl
  ·intro x hx;rcases PZ.mp hx with rfl | hx
   ·decide+kernel
   ·obtain⟨t,ht,rfl⟩:=Qz.mp hx;have:=(qN (hr.2.1 t ht)).1
    lia
  ·simp;lia
  ·nofun;rfl
 | within l b=>
  have a:=(qN hr).1;refine bp (bL ?_);rw[ax];nofun;refine⟨false,by ac_nf,λz=>(nomatch z),λ_=>?_⟩;nofun;refine⟨false,by ac_nf,λz=>(nomatch z),λ_=>?_⟩;nofun;refine⟨false,by ac_nf,λz=>(nomatch z),λ_=>?_⟩;nofun;refine rv (a:=(.bl true,h)) (by ac_nf) ?_;nofun;refine⟨true,rfl,λ_=>?_,λz=>(nomatch z)⟩;nofun;refine rv (bI (by decide+kernel)) ?_;nofun;refine rv (hU hr) (rv (bI (by rw[Qt,cb,show(Str.ofString "within").length=6 by decide+kernel];lia)) ?_);nofun;rfl
 | ask l b e=>
  have a:=(qN hr).1;refine bp (bL ?_);rw[ax];nofun;refine⟨false,by ac_nf,λz=>(nomatch z),λ_=>?_⟩;nofun;refine⟨false,by ac_nf,λz=>(nomatch z),λ_=>?_⟩;nofun;refine⟨false,by ac_nf,λz=>(nomatch z),λ_=>?_⟩;nofun;refine rv (a:=(.bl true,h)) (by ac_nf) ?_;nofun;refine⟨true,rfl,λ_=>?_,λz=>(nomatch z)⟩;nofun;refine rv (bI (by decide+kernel)) ?_;nofun;refine rv (hU hr) (rv (bI (by rw[Qt,cb,show(Str.ofString "ask").length=3 by decide+kernel];lia)) ?_);nofun;rfl
 | nv s t a b c=>
  have l1:=(kK hr.1).1;have l2:=(kK hr.2).1;have l3:(Str.ofString "by ").length=3:=by decide+kernel
  refine bp (bL ?_);rw[ax];nofun;refine⟨false,by ac_nf,λz=>(nomatch z),λ_=>?_⟩;nofun;refine⟨false,by ac_nf,λz=>(nomatch z),λ_=>?_⟩;nofun;refine⟨false,by ac_nf,λz=>(nomatch z),λ_=>?_⟩;nofun;refine rv (a:=(.bl false,h)) (by ac_nf) ?_;nofun;refine⟨false,rfl,λz=>(nomatch z),λ_=>?_⟩;nofun;refine⟨true,by ac_nf,λ_=>?_,λz=>(nomatch z)⟩;nofun;refine rv (fA hr.1) (rv (bI (by lia)) ?_);nofun;refine rv (bI (by rw[Qt,cb];lia)) ?_;nofun;refine rv (fA hr.2) (rv (bI (by rw[Qt,Qt,cb];lia)) ?_);nofun;rfl
end Mi
namespace Pg
open PySem Sm L2
abbrev Ln:=Int×Str
noncomputable def xg(x:Ln):D:=.tup [.int x.1,.str x.2]
noncomputable def KR(n:Nat):Ln:=((n:Int),Str.ofString "or")
noncomputable def JT(n:Nat):Ln:=((n:Int),Str.ofString "end")
noncomputable def eI(g:Nat->List Row->List Ln)(n:Nat):Nat->Nat->List (List Row)->List Ln
 | _,_,[]=>[]
 | j,k,a::r=>(if j=0 then[] else[KR n])++g k a++eI g n (j+1) (k+aB a) r
noncomputable def xf(g:Nat->List Row->List Ln)(k:Nat)(r:Row):List Ln:=((k:Int),ox r)::(eI g k 0 (k+1) (ai r)++(if ai r=[] then[] else[JT k]))
noncomputable def eG(g:Nat->List Row->List Ln):Nat->List Row->List Ln
 | _,[]=>[]
 | k,r::rs=>xf g k r++eG g (k+cnt r) rs
noncomputable def Bp:Nat->Nat->List Row->List Ln
 | 0=>λ_ _=>[]
 | f+1=>eG (Bp f)
def LC:Nat->List Row->Prop
 | 0,_=>True
 | f+1,l=>∀r∈l,NR r/\∀t∈ai r,LC f t
theorem qM(g:Nat->List Row->List Ln)(n:Nat)(a:List Row):∀(j k:Nat)(x:List (List Row)),eI g n j k (x++[a])=eI g n j k x++((if j+x.length=0 then[] else[KR n])++g (k+(x.map aB).sum) a)
 | j,k,[]=>by simp[eI]
 | j,k,y::x=>by
  rw[R8,eI,eI,qM g n a (j+1) (k+aB y) x];simp only[QE,P1,P6,Rr];rw[show j+1+x.length=j+(x.length+1) by lia,show k+aB y+(x.map aB).sum=k+(aB y+(x.map aB).sum) by lia]
theorem qL(g:Nat->List Row->List Ln)(r:Row):∀(k:Nat)(x:List Row),eG g k (x++[r])=eG g k x++xf g (k+aB x) r
 | k,[]=>by simp[eG,aB]
 | k,y::x=>by
  rw[R8,eG,eG,qL g r (k+cnt y) x,QE];rw[show aB (y::x)=cnt y+aB x by simp[aB],Nat.add_assoc]
theorem tW{l:List Row}{i:Nat}{r:Row}(e:l[i]?=some r):aB (l.take (i+1))=aB (l.take i)+cnt r/\l.take (i+1)=l.take i++[r]:=by
 have h:l.take (i+1)=l.take i++[r]:=by rw[Tx,e];rfl
 exact⟨by rw[h,lS];simp[aB],h⟩
theorem lQ(l:List Row)(i:Nat):aB (l.take i)<=aB l:=by
 have:=lS (l.take i) (l.drop i);rw[Rf] at this
 lia
end Pg
namespace Mi
open PySem Sm L2 Pg
noncomputable def ze:Row->Int
 | .say _=>2
 | .call _ _=>3
 | .within _ _=>2
 | .all _ _=>2
 | .ask _ _ _=>2
 | .nv _ _ _ _ _=>3
 | .either _ _=>1
 | .again _=>1
theorem qX(r:Row)(h:MH):Js (.dv [(.inr (Str.ofString "say"),.int 2),(.inr (Str.ofString "call"),.int 3),(.inr (Str.ofString "by"),.int 3),(.inr (Str.ofString "either"),.int 1),(.inr (Str.ofString "again"),.int 1)]) [.str (uA r),.int 2] h=some (.int (ze r),h)/\iD (ax r) (some (ze r)) none h=some (.tup ((ai r).map aZ),h):=by
 cases r <;> (rw[ax];exact⟨by ac_nf,by ac_nf⟩)
theorem sU(r:Row)(h:MH):aV (ax r) (.int 0) h=some (.str (uA r),h):=by
 cases r <;> (rw[ax];rfl)
theorem zx{x:D}{b:Bool}{h:MH}:∃v:Int,nj [.bl b] h=some (.int v,h)/\qY (.lv [x]) (.int v) h=some (.lv (if b then[x] else[]),h):=by
 cases b
 ·exact⟨0,rfl,rfl⟩
 ·exact⟨1,rfl,rfl⟩
theorem Fq{h g:MH}{n:Nat}{o:MO}(hn:h.length<=n):(h++g).set n o=h++g.set (n-h.length) o:=R3 _ _ hn
theorem get_set{h:MH}{n:Nat}{o o':MO}(e:h[n]?=some o'):(h.set n o)[n]?=some o:=Qr (PH.mp e).1
theorem pz{h:MH}{n:Nat}{xs:List D}(e:h[n]?=some (.lst xs)):dw (.ob n) h=some xs:=by unfold dw;dsimp only;rw[e]
theorem DN(r:Row):(ai r).length<=3:=by cases r <;> simp[ai]
theorem hV{g:Nat->List Row->List Ln}(hg:∀k a,(g k a).length<=5*aB a)(n:Nat):∀(j k:Nat)(x:List (List Row)),(eI g n j k x).length<=5*(x.map aB).sum+x.length
 | _,_,[]=>by simp[eI]
 | j,k,a::r=>by
  have h1:=hg k a;have h2:=hV hg n (j+1) (k+aB a) r;rw[eI,PR,PR,P6,Rr,P1];have h3:(if j=0 then([]:List Ln) else[KR n]).length<=1:=by split <;> simp
  lia
theorem Bo{g:Nat->List Row->List Ln}(hg:∀k a,(g k a).length<=5*aB a)(k:Nat)(r:Row):(xf g k r).length<=5*cnt r:=by
 have h2:=hV hg k 0 (k+1) (ai r);have h4:=DN r;have h3:(if ai r=[] then([]:List Ln) else[JT k]).length<=1:=by split <;> simp
 rw[xf,P1,PR,i0]
 lia
theorem kj{g:Nat->List Row->List Ln}(hg:∀k a,(g k a).length<=5*aB a):∀(k:Nat)(l:List Row),(eG g k l).length<=5*aB l
 | _,[]=>by simp[eG]
 | k,r::rs=>by
  have h1:=Bo hg k r;have h2:=kj hg (k+cnt r) rs;rw[eG,PR,show aB (r::rs)=cnt r+aB rs by simp[aB]]
  lia
theorem lG:∀(f k:Nat)(l:List Row),(Bp f k l).length<=5*aB l
 | 0,_,_=>by simp[Bp]
 | f+1,k,l=>kj (lG f) k l
def GL(g:MH):Prop:=∀o∈g,∃X:List Ln,o=.lst (X.map xg)
theorem GL.one(X:List Ln):GL [.lst (X.map xg)]:=λo ho=>⟨X,P4.mp ho⟩
theorem GL.app{a b:MH}(ha:GL a)(hb:GL b):GL (a++b):=λo ho=>(Qi.mp ho).elim (ha o) (hb o)
theorem GL.set{g:MH}{i:Nat}{o:MO}(hg:GL g)(X:List Ln)(e:o=.lst (X.map xg)):GL (g.set i o):=λq hq=>by
 rcases T8 hq with h | h
 ·exact hg q h
 ·exact⟨X,h.trans e⟩
theorem tK:∀(f:Nat)(l:List Row)(k:Nat)(h:MH),au l<=f->LC f l->k+aB l<=1000->Rn (bJ f [.tup (b7 l),.int (k:Int)] h) λp=>∃(n:Nat)(g:MH),p=(.tup [.ob n,.int ((k+aB l:Nat):Int)],h++g)/\GL g/\(h++g)[n]?=some (.lst ((Bp f k l).map xg))
 | 0,l,k,h,hn,_,_=>by
  exfalso;cases l with
  | nil=>rw[au] at hn;lia
  | cons r rs=>rw[au] at hn;lia
 | f+1,l,k,h,hn,hs,hk=>by
  unfold bJ;refine bL ?_;nofun;refine⟨_,_,rfl,?_⟩;nofun;refine du ?_;nofun;refine⟨_,_,rfl,?_⟩;rw[aX];refine cK (λi δ h'=>∃(n:Nat)(g:MH)(o4 o5 o6 o7 o8 o9 o10:Option D),δ=[some (.tup (l.map ax)),some (.int (k:Int)),some (.ob n),some (.int ((k+aB (l.take i):Nat):Int)),o4,o5,o6,o7,o8,o9,o10]/\h'=h++g/\GL g/\h.length<=n/\(h++g)[n]?=some (.lst ((eG (Bp f) k (l.take i)).map xg)))
   ⟨h.length,[.lst []],_,_,_,_,_,_,_,rfl,rfl,GL.one [],PJ _,by simp[eG]⟩ (λ_ _ _ _ _=>rfl) ?_ ?_
  ·rintro i x δ h' hx ⟨n,g,o4,o5,o6,o7,o8,o9,o10,rfl,rfl,hgl,hnl,hat⟩;rw[P8] at hx;obtain⟨r,er,rfl⟩:=Qg.mp hx;obtain⟨hsr,hsl⟩:=hs r (PF er);obtain⟨hc1,ht1⟩:=tW er;have hcl:=lQ l (i+1);have hcr:=i0 r;have hnr:=dA (PF er);generalize hK:k+aB (l.take i)=K at*;generalize hX:(eG (Bp f) k (l.take i))=X at*;have hXl:X.length<=5000:=by have:=kj (lG f) k (l.take i);rw[hX] at this;lia
   nofun;refine qo ?_;nofun;refine⟨eZ hat,?_⟩;nofun;refine rv (Gx hsr) ?_;nofun;refine rv (eF hat (by rw[PC,show sizeLine=16777216 from rfl];lia)) ?_;have hat1:=get_set (o:=.lst (X.map xg++[.tup [.int (K:Int),.str (ox r)]])) hat;rw[Fq hnl] at hat1 ⊢;have hg1:GL (g.set (n-h.length) (.lst (X.map xg++[.tup [.int (K:Int),.str (ox r)]]))):=hgl.set (X++[((K:Int),ox r)]) (by rw[Qf];rfl);generalize g.set (n-h.length) _=g1 at hat1 hg1 ⊢;nofun;refine qo (rv (a:=(.dv [(.inr (Str.ofString "say"),.int 2),(.inr (Str.ofString "call"),.int 3),(.inr (Str.ofString "by"),.int 3),(.inr (Str.ofString "either"),.int 1),(.inr (Str.ofString "again"),.int 1)],h++g1)) (by ac_nf) ⟨rfl,?_⟩);nofun;refine rv (sU r _) ?_;nofun;refine rv (qX r _).1 ?_;nofun;refine⟨_,rfl,?_⟩;nofun;refine rv (qX r _).2 ?_;nofun;refine jj ?_;nofun;refine⟨_,_,_,rfl,rfl,?_⟩;refine cK (λj δ h'=>∃(n':Nat)(g':MH)(o8 o9 o10:Option D),δ=[some (.tup (l.map ax)),some (.int (k:Int)),some (.ob n'),some (.int ((K+1+(((ai r).take j).map aB).sum:Nat):Int)),some (ax r),some (.int (K:Int)),some (.int (ze r)),some (.tup ((ai r).map aZ)),o8,o9,o10]/\h'=h++g'/\GL g'/\h.length<=n'/\(h++g')[n']?=some (.lst ((X++((K:Int),ox r)::eI (Bp f) K 0 (K+1) ((ai r).take j)).map xg)))
    ⟨n,g1,_,_,_,rfl,rfl,hg1,hnl,by rw[hat1,Qf];rfl⟩ (λ_ _ _ _ _=>rfl) ?_ ?_
   ·rintro j y δ h' hy ⟨n',g',o8,o9,o10,rfl,rfl,hgl',hnl',hat'⟩;obtain⟨t,et,rfl⟩:=jx hy;have htm:=PF et;have hj:j < 3:=by have:=DN r;have:=(PH.mp et).1;lia
    have hst:(((ai r).take (j+1)).map aB).sum=(((ai r).take j).map aB).sum+aB t/\(ai r).take (j+1)=(ai r).take j++[t]:=by
     have e:(ai r).take (j+1)=(ai r).take j++[t]:=by rw[Tx,et];rfl
     exact⟨by rw[e];simp,e⟩
    have hsle:(((ai r).take (j+1)).map aB).sum<=((ai r).map aB).sum:=by
     have:=congrArg (λz=>(z.map aB).sum) (Rf (j+1) (ai r));simp only[Qf,SR] at this
     lia
    have hlen:=hV (lG f) K 0 (K+1) ((ai r).take j);have hlt:((ai r).take j).length<=3:=by rw[Qb];lia
    have hln:=lG f (K+1+(((ai r).take j).map aB).sum) t;generalize hY:eI (Bp f) K 0 (K+1) ((ai r).take j)=Y at*;nofun;obtain⟨v,hv,hrep⟩:=zx (x:=.tup [.int (K:Int),.str (Str.ofString "or")]) (b:=decide (0 < (j:Int))) (h:=h++g');refine uX ?_;nofun;refine rv hv (rv hrep ⟨_,_,pz hat',rfl,?_,?_⟩)
    ·rw[PC,PR,P1,show sizeLine=16777216 from rfl]
     split <;> simp <;> lia
    have e1:(if decide (0 < (j:Int))=true then[D.tup [.int (K:Int),.str (Str.ofString "or")]] else[])=(if j=0 then([]:List Ln) else[KR K]).map xg:=by
     by_cases z:j=0
     ·subst z;rfl
     ·rw[PL (Qj (by lia)),P0 z];rfl
    rw[e1,<-Qf];have hO:(if j=0 then([]:List Ln) else[KR K]).length<=1:=by split <;> simp
    generalize hOO:(if j=0 then([]:List Ln) else[KR K])=O at*;generalize hZ:(X++((K:Int),ox r)::Y)++O=Z at*;have hZl:Z.length<=20000:=by rw[<-hZ,PR,PR,P1];lia
    nofun;obtain⟨_,e2,n2,g2,rfl,hg2,hat2⟩:=tK f t (K+1+(((ai r).take j).map aB).sum) ((h++g')++[.lst (Z.map xg)]) (by have:=eC htm;lia) (hsl t htm) (by lia);refine rv e2 ?_;have hat3:((h++g')++[.lst (Z.map xg)]++g2)[(h++g').length]?=some (.lst (Z.map xg)):=by
     rw[PU (by simp)];simp
    nofun;refine uX ?_;nofun;refine⟨_,_,pz hat3,pz hat2,?_,?_⟩
    ·rw[PC,PC,show sizeLine=16777216 from rfl];lia
    rw[hst.1,<-Nat.add_assoc (K+1)];refine⟨_,g'++[.lst (Z.map xg)]++g2++[.lst (Z.map xg++(Bp f (K+1+(((ai r).take j).map aB).sum) t).map xg)],_,_,_,rfl,?_,((hgl'.app (GL.one Z)).app hg2).app (λo ho=>⟨Z++Bp f (K+1+(((ai r).take j).map aB).sum) t,by rw[P4.mp ho,Qf]⟩),?_,?_⟩
    ·show h++g'++_++g2++_=_;simp only[QE]
    ·show h.length<=(h++g'++_++g2).length;simp only[PR];lia
    rw[hst.2,qM,hY,QV,Qb,RC (by have:=(PH.mp et).1;lia),hOO];rw[show X++((K:Int),ox r)::(Y++(O++Bp f (K+1+(((ai r).take j).map aB).sum) t))=Z++Bp f (K+1+(((ai r).take j).map aB).sum) t by rw[<-hZ];simp];rw[Qf];simp
   ·rintro δ h' ⟨n',g',o8,o9,o10,rfl,rfl,hgl',hnl',hat'⟩;rw[cC,PC,QT] at hat' ⊢;have hlen:=hV (lG f) K 0 (K+1) (ai r);have h3:=DN r;generalize hY:eI (Bp f) K 0 (K+1) (ai r)=Y at*;nofun;obtain⟨v,hv,hrep⟩:=zx (x:=.tup [.int (K:Int),.str (Str.ofString "end")]) (b:=decide (0 < ((ai r).length:Int))) (h:=h++g');refine uX ?_;nofun;rw[PC];refine rv hv (rv hrep ⟨_,_,pz hat',rfl,?_,?_⟩)
    ·rw[PC,PR,P1,show sizeLine=16777216 from rfl]
     split <;> simp <;> lia
    have e1:(if decide (0 < ((ai r).length:Int))=true then[D.tup [.int (K:Int),.str (Str.ofString "end")]] else[])=(if ai r=[] then([]:List Ln) else[JT K]).map xg:=by
     cases ai r with
     | nil=>rfl
     | cons y q=>rw[PL (Qj (by simp)),P0 (by simp)];rfl
    rw[e1,<-Qf];nofun;rw[show k+aB (l.take (i+1))=K+1+((ai r).map aB).sum by lia];refine⟨_,g'++[_],_,_,_,_,_,_,_,rfl,QE _ _ _,hgl'.app (GL.one _),?_,?_⟩
    ·show h.length<=(h++g').length;simp only[PR];lia
    ·rw[ht1,qL,hX,hK,xf,hY,<-QE h g'];simp
  ·rintro δ h' ⟨n,g,o4,o5,o6,o7,o8,o9,o10,rfl,rfl,hgl,hnl,hat⟩;nofun;rw[PC,QT] at hat ⊢;exact⟨n,g,rfl,hgl,hat⟩
end Mi
namespace Pg
open PySem Sm L2
structure O6(P:Prog):Prop where
 fit:xR P
 dl:P.aj.length<=6
 nl:P.names.length<=6
 nm:∀x∈P.names,Sh 8 x
 dd:∀d∈P.aj,Sh 8 d.1/\d.2.1.length<=3/\(∀x∈d.2.1,Sh 8 x)/\LC 8 d.2.2
 ct:(P.aj.map λd=>aB d.2.2).sum<=900
noncomputable def eO(ds:List dX):Nat:=(ds.map λd=>aB d.2.2).sum
end Pg
namespace Mi
open PySem Sm L2 Pg
theorem m9{H g:MH}{d:D}(h1:∀n,d≠.ob n)(h2:gu H.length d=true):leave H d (H++g)=some (d,H):=by
 have h3:x5 H.length (H++g) d=d:=by
  cases d with
  | ob n=>exact absurd rfl (h1 n)
  | _=>rfl
 unfold leave;rw[h3,Sd (PJ _),QT,h2,t8];rfl
theorem Hr(n:Nat):∀xs:List Ln,fc n (xs.map xg)=true
 | []=>rfl
 | x::r=>by rw[P6];show(true&&true&&fc n _)=true;rw[Hr n r];rfl
theorem iZ{xs ys:List D}{d:D}{h:MH}(e:dw d h=some ys)(hl:xs.length+ys.length<=1000000):aw (.lv xs) d h=some (.lv (xs++ys),h):=by
 unfold aw sG;cases d <;> first |(cases e;done) | skip
 all_goals
  simp only[dw,Ql] at e ⊢
  first
   |(rw[e];dsimp only[Option.bind_some];rw[PL (by rw[show sizeLine=16777216 from rfl];lia)])
   |(cases e;rw[PL (by rw[show sizeLine=16777216 from rfl];lia)])
theorem Bg{d:Int}:∀{ns:List Int},ns≠[]->Sb.vt d ns∈ns/\∀a∈ns,a<=Sb.vt d ns:=by
 intro ns h;cases ns with
 | nil=>exact absurd rfl h
 | cons n r=>
  show r.foldl max n∈n::r/\∀a∈n::r,a<=r.foldl max n;clear h
  induction r generalizing n with
  | nil=>exact⟨.head _,λa ha=>by rw[P4.mp ha];exact Int.le_refl _⟩
  | cons x r ih=>
   obtain⟨h1,h2⟩:=ih (max n x);rw[List.foldl_cons];have hm:=h2 (max n x) (.head _);refine⟨?_,λa ha=>?_⟩
   ·rcases PZ.mp h1 with h1 | h1
    ·rw[h1]
     by_cases z:n<=x
     ·rw[Int.max_eq_right z];exact .tail _ (.head _)
     ·rw[Int.max_eq_left (by lia)];exact .head _
    ·exact .tail _ (.tail _ h1)
   ·rcases PZ.mp ha with rfl | ha
    ·lia
    ·rcases PZ.mp ha with rfl | ha
     ·lia
     ·exact h2 a (.tail _ ha)
theorem Gi(r:Row):(ai r=[]/\aS r=0)\/∃t∈ai r,aS r=au t:=by
 cases r with
 | say _=>exact .inl ⟨rfl,by rw[aS]⟩
 | call _ _=>exact .inl ⟨rfl,by rw[aS]⟩
 | within l b=>exact .inr ⟨b,.head _,by rw[aS]⟩
 | all l b=>exact .inr ⟨b,.head _,by rw[aS]⟩
 | again b=>exact .inr ⟨b,.head _,by rw[aS]⟩
 | ask l b e=>
  refine .inr ?_
  by_cases z:au b<=au e
  ·exact⟨e,.tail _ (.head _),by rw[aS,Rv z]⟩
  ·exact⟨b,.head _,by rw[aS,RD (by lia)]⟩
 | either b e=>
  refine .inr ?_
  by_cases z:au b<=au e
  ·exact⟨e,.tail _ (.head _),by rw[aS,Rv z]⟩
  ·exact⟨b,.head _,by rw[aS,RD (by lia)]⟩
 | nv s t a b c=>
  refine .inr ?_
  by_cases z:au b<=au c
  ·by_cases y:au a<=au c
   ·exact⟨c,.tail _ (.tail _ (.head _)),by rw[aS,Rv z,Rv y]⟩
   ·exact⟨a,.head _,by rw[aS,Rv z,RD (by lia)]⟩
  ·by_cases y:au a<=au b
   ·exact⟨b,.tail _ (.head _),by rw[aS,RD (a:=au b) (b:=au c) (by lia),Rv y]⟩
   ·exact⟨a,.head _,by rw[aS,RD (a:=au b) (by lia),RD (by lia)]⟩
theorem qG{r:Row}:(ai r=[]/\aS r=0)\/((∃t∈ai r,aS r=au t)/\∀t∈ai r,au t<=aS r):=by
 refine(Gi r).imp id λh=>⟨h,λt ht=>eC ht⟩
noncomputable def B2(k:Int)(l:List Row):List Int:=l.flatMap λr=>(ai r).map λt=>k+(au t:Int)
theorem y1{k:Int}{l:List Row}{a:Int}:a∈B2 k l↔∃r∈l,∃t∈ai r,a=k+(au t:Int):=by
 unfold B2;rw[List.mem_flatMap];constructor
 ·rintro⟨r,hr,ha⟩;obtain⟨t,ht,rfl⟩:=Qz.mp ha;exact⟨r,hr,t,ht,rfl⟩
 ·rintro⟨r,hr,t,ht,rfl⟩;exact⟨r,hr,RN (f:=λt=>k+(au t:Int)) ht⟩
theorem JV(k:Int)(l:List Row):Sb.vt k (B2 k l)=k+(au l:Int)-1:=by
 have h1:∀r∈l,∀t∈ai r,1+au t<=au l:=λr hr t ht=>by
  have:=dA hr;have:=eC ht;lia
 by_cases z:B2 k l=[]
 ·rw[z];show k=_;have:au l<=1:=by
   have:∀r∈l,aS r<=0:=λr hr=>by
    rcases qG (r:=r) with⟨_,e⟩ |⟨⟨t,ht,e⟩,_⟩
    ·rw[e];exact PJ _
    ·have:k+(au t:Int)∈B2 k l:=y1.mpr ⟨r,hr,t,ht,rfl⟩;rw[z] at this;cases this
   clear h1 z
   induction l with
   | nil=>rw[au];exact PJ _
   | cons r l ih=>
    rw[au];exact Nat.max_le.mpr ⟨by have:=this r (.head _);lia,ih λx hx=>this x (.tail _ hx)⟩
  have h2:1<=au l:=by cases l <;> rw[au] <;> lia
  lia
 ·obtain⟨a1,a2⟩:=Bg (d:=k) z;obtain⟨r,hr,t,ht,e⟩:=y1.mp a1;have h2:=h1 r hr t ht;have h3:∃r∈l,∃t∈ai r,au l=1+au t:=by
   clear a1 a2 e h2 z;have hx:∀(l:List Row),(∃r∈l,∃t∈ai r,au l=1+au t)\/au l=1:=by
    intro l
    induction l with
    | nil=>exact .inr (by rw[au])
    | cons x l ih=>
     rw[au]
     by_cases y:1+aS x<=au l
     ·rw[Rv y];exact ih.imp (λ⟨r,hr,q⟩=>⟨r,.tail _ hr,q⟩) id
     ·rw[RD (by lia)];rcases qG (r:=x) with⟨_,e⟩ |⟨⟨t,ht,e⟩,_⟩
      ·exact .inr (by rw[e])
      ·exact .inl ⟨x,.head _,t,ht,by rw[e]⟩
   refine(hx l).elim id λe=>?_;have:=h1 r hr t ht;have:1<=au t:=by cases t <;> rw[au] <;> lia
   lia
  obtain⟨r',hr',t',ht',e'⟩:=h3;have:=a2 _ (y1.mpr ⟨r',hr',t',ht',rfl⟩)
  lia
noncomputable def MC(n:Nat):EM:=ak (bC n) (af (av 1) (af (ao aw (av 2) (eK (.int 1))) aH))
theorem Ho{n:Nat}{k:Int}{r0:Option D}{h:MH}:∀(ts:List (List Row)) (o:Option D) (acc:List D),acc.length+ts.length<=10000->(∀t∈ts,bC n [aZ t,.int (k+1)] h=some (.int (k+1+(au t:Int)-1),h))->
  ∃o',fN [] (gN 1) cx (mL (MC n)) (ts.map aZ) [r0,o,some (.int k)] h acc=some ([r0,o',some (.int k)],h,acc++ts.map λt=>D.int (k+(au t:Int)))
 | [],o,acc,_,_=>⟨o,by rw[QW,QW,QD];rfl⟩
 | t::ts,o,acc,hl,ht=>by
  rw[P1] at hl;obtain⟨o',e2⟩:=Ho ts (some (aZ t)) (acc++[.int (k+(au t:Int))]) (by rw[PR,R6];lia) λu hu=>ht u (.tail _ hu);refine⟨o',?_⟩;have em:mL (MC n) [r0,some (aZ t),some (.int k)] h acc=some ([r0,some (aZ t),some (.int k)],h,acc++[.int (k+(au t:Int))]):=by
   show(bC n [aZ t,.int (k+1)] h).bind _=_;rw[ht t (.head _)];show(if acc.length < sizeLine then some (_,h,acc++[D.int (k+1+(au t:Int)-1)]) else none)=_;rw[PL (by rw[show sizeLine=16777216 from rfl];lia),show k+1+(au t:Int)-1=k+au t by lia]
  rw[P6,P6];show(mL (MC n) [r0,some (aZ t),some (.int k)] h acc).bind _=_;rw[em];show fN [] (gN 1) cx (mL (MC n)) (ts.map aZ) [r0,some (aZ t),some (.int k)] h (acc++[.int (k+(au t:Int))])=_;rw[e2,QE];rfl
noncomputable def dM(n:Nat):MK (List D):=om (dc (ak cJ (af (av 0) aH))) (gN 1) cx (mL (MC n))
theorem Bk(r:Row):(ai r).length<=3:=by cases r <;> simp[ai]
theorem Ej{n:Nat}{k:Int}{h:MH}:∀(l:List Row)(o0 o1:Option D)(acc:List D),acc.length+3*l.length<=10000->(∀r∈l,∀t∈ai r,bC n [aZ t,.int (k+1)] h=some (.int (k+1+(au t:Int)-1),h))->
  ∃δ,fN [] (gN 0) cx (dM n) (l.map ax) [o0,o1,some (.int k)] h acc=some (δ,h,acc++(B2 k l).map D.int)
 | [],o0,o1,acc,_,_=>⟨_,by rw[QW];show _=some (_,h,acc++[]);rw[QD];rfl⟩
 | r::l,o0,o1,acc,hl,ht=>by
  rw[P1] at hl;have h3:=Bk r;obtain⟨o',e1⟩:=Ho (r0:=some (ax r)) (ai r) o1 acc (by lia) (ht r (.head _));obtain⟨δ,e2⟩:=Ej l (some (ax r)) o' (acc++(ai r).map λt=>D.int (k+(au t:Int))) (by rw[PR,PC];lia) λx hx=>ht x (.tail _ hx);refine⟨δ,?_⟩;have em:dM n [some (ax r),o1,some (.int k)] h acc=some ([some (ax r),o',some (.int k)],h,acc++(ai r).map λt=>D.int (k+(au t:Int))):=by
   show((cJ [ax r] h).bind _).bind _=_;rw[lE];exact e1
  rw[P6];show(dM n [some (ax r),o1,some (.int k)] h acc).bind _=_;rw[em];show fN [] (gN 0) cx (dM n) (l.map ax) [some (ax r),o',some (.int k)] h _=_;rw[e2,QE];unfold B2;rw[U0,Qf,Ro];rfl
theorem le_sum_mem'{a:Nat}:∀{xs:List Nat},a∈xs->a<=xs.sum
 | x::r,h=>by
  rw[Rr];rcases PZ.mp h with rfl | h
  ·exact Qh _ _
  ·exact PY (le_sum_mem' h) (Nat.le_add_left _ _)
theorem lO:∀(f:Nat)(l:List Row)(k:Int)(h:MH),au l<=f->aB l<=1000->bC f [aZ l,.int k] h=some (.int (k+(au l:Int)-1),h)
 | 0,l,k,h,hn,_=>by
  have:1<=au l:=by cases l <;> rw[au] <;> lia
  lia
 | f+1,l,k,h,hn,hc=>by
  have hl:=lR l;obtain⟨δ,e⟩:=Ej (n:=f) (k:=k) (h:=h) l none none [] (by show 0+3*l.length<=10000;lia) λr hr t ht=>lO f t (k+1) h (by have:=dA hr;have:=eC ht;lia) (by
   have h1:=rD hr;have h2:=i0 r;have h3:=le_sum_mem' (RN (f:=aB) ht)
   lia)
  rw[bC];refine bp (bL (zF ?_));have e1:JU [none,none,some 1] (dc (av 0)) (gN 0) cx (om (dc (ak cJ (af (av 0) aH))) (gN 1) cx (mL (ak (bC f) (af (av 1) (af (ao aw (av 2) (eK (.int 1))) aH))))) [] .lv (entry 2 [aZ l,.int k]) h=some (.lv ((B2 k l).map D.int),h):=by
   show(fN [] (gN 0) cx (dM f) (b7 l) [none,none,some (.int k)] h []).map _=_;rw[aX,e];rfl
  refine⟨(.int (Sb.vt k (B2 k l)),h),?_,by rw[JV];rfl⟩;unfold Ei;have e2:af (JU [none,none,some 1] (dc (av 0)) (gN 0) cx (om (dc (ak cJ (af (av 0) aH))) (gN 1) cx (mL (ak (bC f) (af (av 1) (af (ao aw (av 2) (eK (.int 1))) aH))))) [] .lv) aH (entry 2 [aZ l,.int k]) h=some ([.lv ((B2 k l).map D.int)],h):=bp (bO (rv e1 (fI rfl)));show(af (JU [none,none,some 1] (dc (av 0)) (gN 0) cx (om (dc (ak cJ (af (av 0) aH))) (gN 1) cx (mL (ak (bC f) (af (av 1) (af (ao aw (av 2) (eK (.int 1))) aH))))) [] .lv) aH (entry 2 [aZ l,.int k]) h).bind _=_;rw[e2];show Hl (.lv ((B2 k l).map D.int)) (.int k) h=_;show((lH ((B2 k l).map D.int)).map _)=_;rw[ng];rfl
theorem iP{a:SM}{b:XM}{δ:DS}{h:MH}{Q:Str×MH->Prop}(r:Rn (a δ h) λp=>p.1=.nx/\Rn (b p.2.1 p.2.2) Q):Rn (uh a b δ h) Q:=a8 (r.imp λp ⟨e,q⟩=>by
 obtain⟨f,δ',h'⟩:=p;obtain rfl:f=.nx:=e;exact q)
theorem zE{t:TM}{a b:XM}{δ:DS}{h:MH}{Q:Str×MH->Prop}(r:Rn (t δ h) λp=>(p.1=true->Rn (a δ p.2) Q)/\(p.1=false->Rn (b δ p.2) Q)):Rn (Cf t a b δ h) Q:=a8 (r.imp λp ⟨q1,q2⟩=>by
 obtain⟨c,h⟩:=p;cases c with
 | true=>exact q1 rfl
 | false=>exact q2 rfl)
theorem CY{f:Xn}{m:AM}{δ:DS}{h:MH}{Q:Str×MH->Prop}(r:Rn (m δ h) λp=>Rn (f p.1 p.2) Q):Rn (E9 f m δ h) Q:=a8 r
theorem lh{c:Str}{m:AM}{δ:DS}{h:MH}{Q:Str×MH->Prop}(r:Rn (m δ h) λp=>Q (c,p.2)):Rn (jW c m δ h) Q:=CN r
theorem yn{a b:XM}{δ:DS}{h:MH}{Q:Str×MH->Prop}(r:Rn (a δ h) Q):Rn (Ce a b δ h) Q:=by
 obtain⟨p,e,q⟩:=r;exact⟨p,by unfold Ce;rw[e],q⟩
theorem qm{a b:XM}{δ:DS}{h:MH}{Q:Str×MH->Prop}(n:a δ h=none)(r:Rn (b δ h) Q):Rn (Ce a b δ h) Q:=by
 obtain⟨p,e,q⟩:=r;exact⟨p,by unfold Ce;rw[n];exact e,q⟩
theorem zG{len:Nat}{b:XM}{ds:List D}{h:MH}{Q:Str×MH->Prop}(r:Rn (b (entry len ds) h) Q):Rn (Jq len b ds h) Q:=r
theorem Cq(h:MH):wu ij "NoRow" h=some (.str "NoRow",h):=by
 have hx:(h++[MO.exc "NoRow"])[h.length]?=some (.exc "NoRow"):=by rw[P9 (PJ _),Uu];rfl
 have ei:∀(n:Str)(b:Bool)(δ:DS),decide (n∈(["NoRow","StuckError","ValueError"]:List Str))=b->δ[1]?=some (some (.ob h.length))->ku eX n (av 1) δ (h++[MO.exc "NoRow"])=some (.bl b,h++[MO.exc "NoRow"]):=λn b δ hb hd=>by
  have e1:av 1 δ (h++[MO.exc "NoRow"])=some (.ob h.length,h++[MO.exc "NoRow"]):=by unfold av;rw[hd];rfl
  subst hb;unfold ku;rw[e1];show(match (h++[MO.exc "NoRow"])[h.length]? with | some (.exc c)=>(eX.lookup c).map λas=>(D.bl (decide (n∈as)),h++[MO.exc "NoRow"]) | _=>none)=_;rw[hx];have:eX.lookup ("NoRow":Str)=some (["NoRow","StuckError","ValueError"]:List Str):=by ac_nf
  show(eX.lookup ("NoRow":Str)).map _=_;rw[this];rfl
 have e:(ij [none,some (.ob h.length),none,none] (h++[.exc "NoRow"])).bind r8=some (.str "NoRow",h++[.exc "NoRow"]):=by
  refine bp (a8 ?_);unfold ij;refine de (gI (CZ (iQ (mO (eY rfl (C5 (rv rfl ⟨false,rfl,⟨λz=>(nomatch z),λ_=>?_⟩⟩)))))));refine j8 (uS (rv (ei "ValueError" true _ (by decide+kernel) rfl) ⟨true,rfl,⟨λz=>(nomatch z),λ_=>rv rfl (oM ?_)⟩⟩));refine de (rv (a:=(.nx,[none,some (.ob h.length),none,some (.lv [.bl true,.bl false,.bl false])],h++[.exc "NoRow"])) (bp (sX (uU (bO (rv (ei "NoRow" true _ (by decide+kernel) rfl) (bO (rv (ei "NoLock" false _ (by decide+kernel) rfl) (bO (rv (ei "NoText" false _ (by decide+kernel) rfl) (fI rfl)))))))))) (oM ?_));refine de (rv (a:=(.nx,[none,some (.ob h.length),none,some (.lv [.bl true,.bl false,.bl false,.bl false,.bl false])],h++[.exc "NoRow"])) (bp (sX (mO (eY rfl (uU (bO (rv (ei "NoLine" false _ (by decide+kernel) rfl) (bO (rv (ei "NoStep" false _ (by decide+kernel) rfl) (fI (rv rfl rfl))))))))))) (oM ?_));refine rv (a:=(.rt (.str "NoRow"),[none,some (.ob h.length),none,some (.lv [.bl true,.bl false,.bl false,.bl false,.bl false])],h++[.exc "NoRow"])) (by ac_nf) ?_;exact rv rfl rfl
 unfold wu;rw[e];exact m9 (λn=>by simp) rfl
theorem BN{caps:List (Option Nat)}{x:XM}{m:EM}{δ:DS}{h:MH}(e:x (cS caps δ) h=some (("NoRow":Str),h)):cc iy caps ij x m δ h=some (.str "NoRow",h):=by
 unfold cc;rw[e];show(if("NoRow":Str)∈iy then _ else _)=_;rw[PL (by decide+kernel)];exact Cq h
theorem E8{P:Prog}(hP:xR P){z:Int}(hz:z < 0\/((placesFrom 0 P.aj).length:Int)<=z)(h:MH):fO [aQ P,.int z] h=some (("NoRow":Str),h):=by
 refine bp (zG (iP ?_));nofun;refine rv (f9 hP h) ⟨rfl,?_⟩;have hc:∃b,fv B1 BZ (eK (D.int 0)) (av 1) (ak ck (af (av 2) aH)) (List.set (entry 3 [aQ P,D.int z]) 2 (some (D.lv ((placesFrom 0 P.aj).map fK)))) h=some (.bl b,h)/\b=false:=by
  refine⟨false,bp (qp (rv rfl (rv (a:=(.int z,h)) rfl (rv rfl ⟨_,rfl,?_⟩)))),rfl⟩
  by_cases z0:0<=z
  ·rw[PL (Qj z0)];refine rv (a:=(.int ((placesFrom 0 P.aj).map fK).length,h)) rfl (rv rfl ?_);rw[PC];show(D.bl (decide (z < (placesFrom 0 P.aj).length)),h)=_;rw[Qv (by rcases hz with y | y <;> lia)]
  ·rw[P0 (by simpa using z0)]
 obtain⟨b,hc,rfl⟩:=hc;exact zE (j8 (iQ (rv hc ⟨false,rfl,⟨λ_=>lh (bO (C5 (fI rfl))),λy=>(nomatch y)⟩⟩)))
noncomputable def flat(st:List (Nat×Nat)):List Nat:=st.flatMap λs=>[s.1,s.2]
noncomputable def AW(st:List (Nat×Nat))(k:Nat):D:=fw (flat st++[k])
noncomputable def Ov(l:List Row)(s:Nat×Nat):Option (List Row):=(l[s.1]?).bind λr=>(ai r)[s.2]?
noncomputable def oo(rows:List Row):List (Nat×Nat)->Option (List Row)
 | []=>some rows
 | s::r=>(Ov rows s).bind λl=>oo l r
theorem D6(st:List (Nat×Nat)):(flat st).length=2*st.length:=by
 induction st with
 | nil=>rfl
 | cons s r ih=>show([s.1,s.2]++flat r).length=_;rw[PR,ih];simp;lia
theorem iX{xs:List D}{i:Nat}{d:D}{h:MH}(e:xs[i]?=some d):aV (.tup xs) (.int (i:Int)) h=some (d,h):=by
 have q:gU xs (i:Int)=some d:=pG e;simp only[aV,dG,dE,Ql,q,Qw]
theorem rf{p:List Nat}{i x:Nat}{h:MH}(e:p[i]?=some x):aV (fw p) (.int (i:Int)) h=some (iC x,h):=
 iX (by rw[P8,e];rfl)
theorem GD{l:List Row}{i:Nat}{r:Row}{h:MH}(e:l[i]?=some r):aV (aZ l) (iC i) h=some (ax r,h):=
 iX (by rw[aX,P8,e];rfl)
theorem kI{a:SM}{b:XM}{δ δ':DS}{h h':MH}(e:a δ h=some (.nx,δ',h')):uh a b δ h=b δ' h':=by unfold uh;rw[e];rfl
theorem jX{t:TM}{a b:XM}{δ:DS}{h h':MH}{c:Bool}(e:t δ h=some (c,h')):Cf t a b δ h=if c=true then a δ h' else b δ h':=by unfold Cf;rw[e];rfl
section
variable {P:Prog} {n j:Nat} {path:List Nat} {r:Row} {h:MH}
theorem xD(hn:(placesFrom 0 P.aj)[n]?=some (j,path,r))(h:MH):fv B1 BZ (eK (D.int 0)) (av 1) (ak ck (af (av 2) aH)) (List.set (entry 3 [aQ P,D.int (n:Int)]) 2 (some (D.lv ((placesFrom 0 P.aj).map fK)))) h=some (.bl true,h):=by
 have hlt:n < (placesFrom 0 P.aj).length:=(PH.mp hn).1;refine bp (qp (rv rfl (rv (a:=(.int (n:Int),h)) rfl (rv rfl ⟨_,rfl,?_⟩))));rw[PL (Qj (show(0:Int)<=n by lia))];refine rv (a:=(.int ((placesFrom 0 P.aj).map fK).length,h)) rfl (rv rfl ?_);rw[PC];show(D.bl (decide ((n:Int) < (placesFrom 0 P.aj).length)),h)=_;rw[Qj (show(n:Int) < (placesFrom 0 P.aj).length by lia)]
theorem Dn(hP:xR P)(hn:(placesFrom 0 P.aj)[n]?=some (j,path,r))(h:MH):fQ [aQ P,.int (n:Int)] h=some (.tup [iC j,fw path,ax r],h):=by
 refine bp (bL ?_);nofun;refine rv (f9 hP h) ?_;refine oM (de (gI (j8 (iQ (rv (xD hn h) ⟨true,rfl,?_⟩)))));refine⟨λz=>(nomatch z),λ_=>?_⟩;nofun;refine rv (cg hn) ?_;nofun;rfl
theorem jV(hP:xR P)(hn:(placesFrom 0 P.aj)[n]?=some (j,path,r))(h:MH):fO [aQ P,.int (n:Int)] h=none:=by
 have e1:aR 2 (ak bT (af (av 0) aH)) (entry 3 [aQ P,.int (n:Int)]) h=some (.nx,List.set (entry 3 [aQ P,D.int (n:Int)]) 2 (some (D.lv ((placesFrom 0 P.aj).map fK))),h):=by
  refine bp ?_;nofun;refine rv (f9 hP h) ?_;rfl
 unfold fO Jq;rw[show([aQ P,D.int (n:Int)]:List D)=[aQ P,.int (n:Int)] from rfl];rw[kI e1];have e2:Sm.jC (aI (fv B1 BZ (eK (.int 0)) (av 1) (ak ck (af (av 2) aH)))) (List.set (entry 3 [aQ P,D.int (n:Int)]) 2 (some (D.lv ((placesFrom 0 P.aj).map fK)))) h=some (false,h):=bp (j8 (iQ (rv (xD hn h) ⟨true,rfl,rfl⟩)));rw[jX e2];rfl
end
end Mi
namespace Pg
open PySem Sm L2
noncomputable def dq:Row->Nat->List Row->Row
 | .within l _,0,x=>.within l x
 | .all l _,0,x=>.all l x
 | .ask l _ e,0,x=>.ask l x e
 | .ask l b _,1,x=>.ask l b x
 | .nv s t _ b c,0,x=>.nv s t x b c
 | .nv s t a _ c,1,x=>.nv s t a x c
 | .nv s t a b _,2,x=>.nv s t a b x
 | .either _ b,0,x=>.either x b
 | .either a _,1,x=>.either a x
 | .again _,0,x=>.again x
 | r,_,_=>r
end Pg
namespace Mi
open PySem Sm L2 Pg
noncomputable def putAt(k:Nat)(x:List Row):List (Nat×Nat)->List Row->List Row
 | [],l=>l.take k++x++l.drop (k+1)
 | s::st,l=>match l[s.1]? with
  | some r=>match (ai r)[s.2]? with
   | some t=>l.take s.1++[dq r s.2 (putAt k x st t)]++l.drop (s.1+1)
   | none=>l
  | none=>l
theorem G8{xs:List D}{k:Nat}{h:MH}(hk:k<=xs.length):iD (.tup xs) none (some (k:Int)) h=some (.tup (xs.take k),h):=by
 unfold iD cutD;dsimp only;rw[HT.qe,HT.uM,RC hk,TY,Nat.sub_zero]
 split
 ·rename_i z;rw[Rz (Uv z.2.symm)]
 ·rfl
theorem uC{xs:List D}{k:Nat}{h:MH}(hk:k<=xs.length):iD (.tup xs) (some (k:Int)) none h=some (.tup (xs.drop k),h):=by
 unfold iD cutD;dsimp only;rw[HT.qe,HT.uM,RC hk]
 split
 ·rename_i z;rw[z.1,TY]
 ·rw[Rz (by rw[Q7];exact PJ _)]
theorem Fx{r:Row}{j:Nat}{t:List Row}(e:(ai r)[j]?=some t)(x:List Row):∃(a q:Int)(A B:List D),eg.lookup (uA r)=some [a,q]/\
  (∀h,iD (ax r) none (some (a+(j:Int))) h=some (.tup A,h))/\(∀h,aV (ax r) (.int (a+(j:Int))) h=some (aZ t,h))/\(∀h,iD (ax r) (some (a+(j:Int)+1)) none h=some (.tup B,h))/\ax (dq r j x)=.tup (A++[aZ x]++B)/\A.length<=10/\B.length<=10:=by
 cases r with
 | say w=>cases e
 | call d ts=>cases e
 | within l b=>match j,e with | 0,e=>cases e;exact⟨2,1,[.str "within",aJ l],[],by ac_nf,λh=>by rw[ax];rfl,λh=>by rw[ax];rfl,λh=>by rw[ax];rfl,by rw[dq,ax];rfl,by show 2<=10;decide,by decide⟩
 | all l b=>match j,e with | 0,e=>cases e;exact⟨2,1,[.str "all",.tup (l.map aJ)],[],by ac_nf,λh=>by rw[ax];rfl,λh=>by rw[ax];rfl,λh=>by rw[ax];rfl,by rw[dq,ax];rfl,by show 2<=10;decide,by decide⟩
 | ask l b c=>match j,e with
  | 0,e=>cases e;exact⟨2,2,[.str "ask",aJ l],[aZ c],by ac_nf,λh=>by rw[ax];rfl,λh=>by rw[ax];rfl,λh=>by rw[ax];rfl,by rw[dq,ax];rfl,by show 2<=10;decide,by show 1<=10;decide⟩
  | 1,e=>cases e;exact⟨2,2,[.str "ask",aJ l,aZ b],[],by ac_nf,λh=>by rw[ax];rfl,λh=>by rw[ax];rfl,λh=>by rw[ax];rfl,by rw[dq,ax];rfl,by show 3<=10;decide,by decide⟩
 | nv s u a b c=>match j,e with
  | 0,e=>cases e;exact⟨3,3,[.str "by",bq s,bq u],[aZ b,aZ c],by ac_nf,λh=>by rw[ax];rfl,λh=>by rw[ax];rfl,λh=>by rw[ax];rfl,by rw[dq,ax];rfl,by show 3<=10;decide,by show 2<=10;decide⟩
  | 1,e=>cases e;exact⟨3,3,[.str "by",bq s,bq u,aZ a],[aZ c],by ac_nf,λh=>by rw[ax];rfl,λh=>by rw[ax];rfl,λh=>by rw[ax];rfl,by rw[dq,ax];rfl,by show 4<=10;decide,by show 1<=10;decide⟩
  | 2,e=>cases e;exact⟨3,3,[.str "by",bq s,bq u,aZ a,aZ b],[],by ac_nf,λh=>by rw[ax];rfl,λh=>by rw[ax];rfl,λh=>by rw[ax];rfl,by rw[dq,ax];rfl,by show 5<=10;decide,by decide⟩
 | either a b=>match j,e with
  | 0,e=>cases e;exact⟨1,2,[.str "either"],[aZ b],by ac_nf,λh=>by rw[ax];rfl,λh=>by rw[ax];rfl,λh=>by rw[ax];rfl,by rw[dq,ax];rfl,by decide,by show 1<=10;decide⟩
  | 1,e=>cases e;exact⟨1,2,[.str "either",aZ a],[],by ac_nf,λh=>by rw[ax];rfl,λh=>by rw[ax];rfl,λh=>by rw[ax];rfl,by rw[dq,ax];rfl,by show 2<=10;decide,by decide⟩
 | again a=>match j,e with | 0,e=>cases e;exact⟨1,1,[.str "again"],[],by ac_nf,λh=>by rw[ax];rfl,λh=>by rw[ax];rfl,λh=>by rw[ax];rfl,by rw[dq,ax];rfl,by decide,by decide⟩
theorem qP{a:Nat}:∀{xs:List Nat},a∈xs->a<=xs.sum
 | x::r,h=>by
  rw[Rr];rcases PZ.mp h with rfl | h
  ·exact Qh _ _
  ·exact PY (qP h) (Nat.le_add_left _ _)
theorem xA{l:List Row}{i j:Nat}{r:Row}{t:List Row}(e1:l[i]?=some r)(e2:(ai r)[j]?=some t):aB t<=aB l:=by
 have h1:=lQ l (i+1);rw[(tW e1).1] at h1;have h2:=i0 r;have h3:aB t<=((ai r).map aB).sum:=qP (RN (PF e2))
 lia
theorem lF(l:List Row):(b7 l).length=l.length:=by rw[aX,PC]
theorem qu{p:List Nat}{h:MH}:ck [fw p] h=some (.int (p.length:Int),h):=by
 show some (D.int ((p.map iC).length:Int),h)=_;rw[PC]
theorem DO{l:List Row}{k:Nat}{h:MH}(hk:k<=l.length):iD (aZ l) none (some (k:Int)) h=some (aZ (l.take k),h):=by
 unfold aZ;rw[G8 (by rw[lF];exact hk),aX,aX,Ti]
theorem xb{l:List Row}{k:Nat}{h:MH}(hk:k<=l.length):iD (aZ l) (some (k:Int)) none h=some (aZ (l.drop k),h):=by
 unfold aZ;rw[uC (by rw[lF];exact hk),aX,aX,Ue]
theorem pA{a b:List Row}{h:MH}(hl:a.length+b.length<=10000):aw (aZ a) (aZ b) h=some (aZ (a++b),h):=by
 unfold aZ;rw[xr (by rw[lF,lF];exact hl),aX,aX,aX,Qf]
theorem yu{a b:Nat}{p:List Nat}{h:MH}:iD (fw (a::b::p)) (some 2) none h=some (fw p,h):=uC (xs:=iC a::iC b::p.map iC) (k:=2) (by simp)
theorem jP{k:Nat}{x:List Row}(hx:x.length<=1000):∀(st:List (Nat×Nat)) (f:Nat) (l lot:List Row) (h:MH),oo l st=some lot->st.length < f->k < lot.length->aB l<=1000->dz f [aZ l,AW st k,aZ x] h=some (aZ (putAt k x st l),h)
 | [],f,l,lot,h,e,hf,hk,hc=>by
  cases e;cases f with
  | zero=>exact absurd hf (Nat.not_lt_zero _)
  | succ f=>
  have hl:=lR l;rw[dz];refine bp (bL ?_);nofun;refine rv (rf (p:=flat []++[k]) (i:=0) rfl) ?_;nofun;refine rv (qu (p:=flat []++[k])) ?_;nofun;refine⟨false,rfl,λz=>(nomatch z),λ_=>?_⟩;nofun;refine⟨_,rfl,rv (DO (Ry hk)) ?_⟩;nofun;refine rv (pA (by rw[Qb];lia)) ?_;nofun;refine rv (a:=(.int ((k+1:Nat):Int),h)) rfl ?_;nofun;refine⟨_,rfl,rv rfl (rv (xb hk) ?_)⟩;nofun;refine rv (pA (by rw[PR,Qb,Q7];lia)) ?_;nofun;rfl
 | s::st,f,l,lot,h,e,hf,hk,hc=>by
  obtain⟨t,e1,e2⟩:=bw e;obtain⟨r,e3,e4⟩:=bw e1;cases f with
  | zero=>exact absurd hf (Nat.not_lt_zero _)
  | succ f=>
  have hl:=lR l;have ht:=xA e3 e4;have hi:s.1 < l.length:=(PH.mp e3).1;have ih:=jP hx st f t lot h e2 (Nat.lt_of_succ_lt_succ hf) hk (PY ht hc);have hput:putAt k x (s::st) l=l.take s.1++[dq r s.2 (putAt k x st t)]++l.drop (s.1+1):=by
   simp only[putAt,e3,e4]
  obtain⟨a,q,A,B,p1,p2,p3,p4,p5,p6,p7⟩:=Fx e4 (putAt k x st t);rw[dz,hput];refine bp (bL ?_);nofun;refine rv (rf (p:=s.1::s.2::(flat st++[k])) (i:=0) rfl) ?_;nofun;refine rv (qu (p:=s.1::s.2::(flat st++[k]))) ?_;nofun;refine⟨true,?_,λ_=>?_,λz=>(nomatch z)⟩
  ·show D.bl (decide ((1:Int) < ((s.1::s.2::(flat st++[k])).length:Int)))=_;rw[Qj (by simp only[P1];lia)]
  nofun;refine rv (GD e3) ?_;nofun;refine rv (sU r h) ?_;nofun;refine rv (a:=(.tup [.int a,.int q],h)) (by show(eg.lookup (uA r)).map _=_;rw[p1];rfl) ?_;nofun;refine rv (rf (p:=s.1::s.2::(flat st++[k])) (i:=1) rfl) ?_;nofun;refine rv (a:=(.int (a+(s.2:Int)),h)) rfl ?_;nofun;refine⟨_,rfl,rv (p2 h) ?_⟩;nofun;refine rv (p3 h) ?_;nofun;refine⟨_,rfl,rv rfl (rv (yu (p:=flat st++[k])) ?_)⟩;nofun;refine rv ih ?_;nofun;refine rv (xr (xs:=A) (ys:=[aZ (putAt k x st t)]) (by simp;lia)) ?_;nofun;refine⟨_,rfl,rv rfl (rv (p4 h) ?_)⟩;nofun;refine rv (xr (xs:=A++[aZ (putAt k x st t)]) (ys:=B) (by simp;lia)) ?_;nofun;rw[show D.tup [D.tup (A++[aZ (putAt k x st t)]++B)]=aZ [dq r s.2 (putAt k x st t)] by rw[<-p5];unfold aZ;rw[aX];rfl];refine⟨_,rfl,rv (DO (Ry hi)) ?_⟩;nofun;refine rv (pA (b:=[dq r s.2 (putAt k x st t)]) (by rw[Qb];simp;lia)) ?_;nofun;refine rv (a:=(.int ((s.1+1:Nat):Int),h)) rfl ?_;nofun;refine⟨_,rfl,rv rfl (rv (xb hi) ?_)⟩;nofun;refine rv (pA (by rw[PR,Qb,Q7];simp;lia)) ?_;nofun
noncomputable def II(P:Prog)(j k:Nat)(x:List Row)(st:List (Nat×Nat))(d:dX):Prog:={P with aj:=P.aj.take j++[(d.1,d.2.1,putAt k x st d.2.2)]++P.aj.drop (j+1)}
theorem lj{P:Prog}{j k:Nat}{x lot:List Row}{st:List (Nat×Nat)}{d:dX}(hx:x.length<=1000)(hd:P.aj[j]?=some d)(hl:oo d.2.2 st=some lot)(hst:st.length < 6)(hk:k < lot.length)(hc:aB d.2.2<=1000)(hP:P.aj.length<=1000)(h:MH):
  fP [aQ P,iC j,AW st k,aZ x] h=some (aQ (II P j k x st d),h):=by
 have hj:j < P.aj.length:=(PH.mp hd).1;have e1:aQ P=.tup [.tup (P.names.map D.str),.tup (P.aj.map dC)]:=rfl;have s1:iD (.tup (P.aj.map dC)) none (some (j:Int)) h=some (.tup ((P.aj.take j).map dC),h):=by rw[G8 (by rw[PC];lia),Ti]
 have s2:iD (.tup (P.aj.map dC)) (some ((j+1:Nat):Int)) none h=some (.tup ((P.aj.drop (j+1)).map dC),h):=by rw[uC (by rw[PC];lia),Ue]
 refine bp (bL ?_);rw[e1];nofun;refine rv (a:=(.tup [.str d.1,.tup (d.2.1.map D.str),aZ d.2.2],h)) (iX (i:=j) (by rw[P8,hd];rfl)) ?_;nofun;refine⟨_,rfl,rv s1 ?_⟩;nofun;refine rv (jP hx st 6 d.2.2 lot h hl hst hk hc) ?_;nofun;refine rv (xr (ys:=[.tup [.str d.1,.tup (d.2.1.map D.str),aZ (putAt k x st d.2.2)]]) (by simp;lia)) ?_;nofun;refine rv (a:=(.int ((j+1:Nat):Int),h)) rfl ?_;nofun;refine⟨_,rfl,rv rfl (rv s2 ?_)⟩;nofun;refine rv (xr (by simp;lia)) ?_;nofun;show(D.tup [D.tup (P.names.map D.str),D.tup _],h)=(D.tup [D.tup (P.names.map D.str),D.tup ((P.aj.take j++[(d.1,d.2.1,putAt k x st d.2.2)]++P.aj.drop (j+1)).map dC)],h);rw[Qf,Qf];rfl
end Mi
namespace Pg
open PySem Sm L2
theorem fX{w:Str}(h:1<=w.length/\w.length<=7/\Mi.low w):Sh 8 w:=⟨by lia,Mi.Ju h.2.2⟩
section
variable {W:Wd} {fl:List Int} {odd:Int} {ps:List Str}
theorem pd(hp:∀w∈ps,Sh 8 w){t:Term}(h:eB ps t):Ic t:=by
 refine⟨?_,h.2.1,h.2.2⟩;rcases h.1 with e | e
 ·rw[e];exact⟨by decide+kernel,by decide+kernel⟩
 ·exact hp _ e
theorem vw(ok:Mi.oX W fl odd)(hp:∀w∈ps,Sh 8 w){l:Lock}(h:fu W ps l):KP l:=⟨fX (ok.sn _ h.1),pd hp h.2⟩
theorem Io(ok:Mi.oX W fl odd)(hp:∀w∈ps,Sh 8 w){n:Nat}{r:Row}(h:bE W ps n r):NR r/\∀t∈ai r,bP W ps (n+1) t:=by
 cases r with
 | say w=>
  rw[bE] at h;refine⟨?_,λt ht=>(nomatch ht)⟩;rcases Qi.mp h with z | z
  ·exact fX (ok.sn _ z)
  ·exact fX (ok.sd _ z)
 | call d ts=>
  rw[bE] at h;obtain⟨⟨j,qs,e1,e2,e3⟩,ht⟩:=h;refine⟨⟨fX (ok.sd _ (PF e1)),by rw[e3];exact ok.p3 qs (PF e2),λt h=>pd hp (ht t h)⟩,λt ht=>(nomatch ht)⟩
 | within l b=>rw[bE] at h;exact⟨vw ok hp h.1,λt ht=>by rw[P4.mp ht];exact h.2.2.2⟩
 | all ls b=>
  rw[bE] at h;exact⟨⟨h.1.2.1,λl hl=>vw ok hp (h.1.2.2.2 l hl),by intro e;have:=h.1.1;rw[e] at this;simp at this⟩,λt ht=>by rw[P4.mp ht];exact h.2.2.2⟩
 | ask l b e=>
  rw[bE] at h;refine⟨vw ok hp h.1,λt ht=>?_⟩;rcases PZ.mp ht with rfl | ht
  ·exact h.2.2.2.2.1
  ·rw[P4.mp ht];exact h.2.2.2.2.2
 | nv s t a b c=>
  rw[bE] at h;obtain⟨h1,h2,_,_,_,_,h3,h4,h5⟩:=h;refine⟨⟨pd hp h1,pd hp h2⟩,λt ht=>?_⟩;simp only[ai,PZ,RM,SY] at ht;rcases ht with rfl | rfl | rfl
  ·exact h3
  ·exact h4
  ·exact h5
 | either a b=>
  rw[bE] at h;obtain⟨_,_,_,h3,h4⟩:=h;refine⟨trivial,λt ht=>?_⟩;simp only[ai,PZ,RM,SY] at ht;rcases ht with rfl | rfl
  ·exact h3
  ·exact h4
 | again a=>rw[bE] at h;exact⟨trivial,λt ht=>by rw[P4.mp ht];exact h.2.2⟩
theorem yI(ok:Mi.oX W fl odd)(hp:∀w∈ps,Sh 8 w):∀(f n:Nat)(l:List Row),bP W ps n l->LC f l
 | 0,_,_,_=>trivial
 | f+1,n,l,h=>λr hr=>by
  obtain⟨a,b⟩:=Io ok hp (tD h r hr);exact⟨a,λt ht=>yI ok hp f (n+1) t (b t ht)⟩
theorem FP(ok:Mi.oX W fl odd){m:Nat}{P:Prog}(o:KZ W m P)(hm:m<=60):O6 P:=by
 have fit:=o.fit (by lia) ok.d2;refine⟨fit,by rw[o.dl];exact ok.d2,by rw[o.nm,(cN W.names).length_eq];exact ok.n2,λx hx=>?_,λd hd=>?_,PY o.ct (by lia)⟩
 ·rw[o.nm] at hx;exact fX (ok.sn x ((cN W.names).mem_iff.mp hx))
 ·obtain⟨j,hj⟩:=Rg.mp hd;obtain⟨e1,e2,e3,_⟩:=o.dd j d hj;have hps:∀w∈d.2.1,Sh 8 w:=λw hw=>fX (ok.sp d.2.1 (PF e2) w hw);exact⟨fX (ok.sd _ (PF e1)),ok.p3 _ (PF e2),hps,yI ok hps 8 1 d.2.2 e3⟩
end
end Pg
namespace Mi
open PySem Sm L2 Pg
theorem qI{a:List Nat}{x:List Nat×Row}:∀{lot:List Row} {k:Nat},x∈aN a k lot↔∃i r,lot[i]?=some r/\(x=(a++[k+i],r)\/x∈ej (a++[k+i]) r)
 | [],k=>by rw[aN];exact⟨λz=>(nomatch z),λ⟨i,r,z,_⟩=>by simp at z⟩
 | y::l,k=>by
  rw[aN,PZ,Qi,qI (lot:=l) (k:=k+1)];constructor
  ·rintro(z | z |⟨i,r,z,w⟩)
   ·exact⟨0,y,rfl,.inl z⟩
   ·exact⟨0,y,rfl,.inr z⟩
   ·exact⟨i+1,r,z,by rw[show k+(i+1)=k+1+i by lia];exact w⟩
  ·rintro⟨i,r,z,w⟩;cases i with
   | zero=>
    cases z;rcases w with w | w
    ·exact .inl w
    ·exact .inr (.inl w)
   | succ i=>exact .inr (.inr ⟨i,r,z,by rw[show k+1+i=k+(i+1) by lia];exact w⟩)
theorem tG{a:List Nat}{x:List Nat×Row}:∀{ls:List (List Row)} {k:Nat},x∈cF a k ls↔∃j l,ls[j]?=some l/\x∈aN (a++[k+j]) 0 l
 | [],k=>by rw[cF];exact⟨λz=>(nomatch z),λ⟨i,r,z,_⟩=>by simp at z⟩
 | y::l,k=>by
  rw[cF,Qi,tG (ls:=l) (k:=k+1)];constructor
  ·rintro(z |⟨i,r,z,w⟩)
   ·exact⟨0,y,rfl,z⟩
   ·exact⟨i+1,r,z,by rw[show k+(i+1)=k+1+i by lia];exact w⟩
  ·rintro⟨i,r,z,w⟩;cases i with
   | zero=>cases z;exact .inl w
   | succ i=>exact .inr ⟨i,r,z,by rw[show k+1+i=k+(i+1) by lia];exact w⟩
noncomputable def LK(lot:List Row)(st:List (Nat×Nat))(k:Nat):Option Row:=(oo lot st).bind λl=>l[k]?
theorem nU:∀(n:Nat) {lot:List Row} {a p:List Nat} {r:Row},au lot<=n->(p,r)∈aN a 0 lot->∃st k,p=a++(flat st++[k])/\LK lot st k=some r
 | 0,lot,a,p,r,hn,_=>by
  exfalso;cases lot with
  | nil=>simp[au] at hn
  | cons r rs=>rw[au] at hn;lia
 | n+1,lot,a,p,r,hn,hx=>by
  obtain⟨i,y,e,w⟩:=qI.mp hx;rw[QV] at w;rcases w with w | w
  ·cases w;exact⟨[],i,rfl,e⟩
  ·rw[jl] at w;obtain⟨j,l,el,w⟩:=tG.mp w;rw[QV] at w;have h1:=dA (PF e);have h2:=eC (PF el);obtain⟨st,k,e1,e2⟩:=nU n (by lia) w;refine⟨(i,j)::st,k,?_,?_⟩
   ·rw[e1];show a++[i]++[j]++_=a++([i,j]++flat st++[k]);simp
   ·unfold LK at e2 ⊢;show((Ov lot (i,j)).bind λl=>oo l st).bind _=_;unfold Ov;rw[e];dsimp only[Option.bind_some];rw[el];exact e2
theorem qH{x:Nat×List Nat×Row}:∀{ds:List dX} {k:Nat},x∈placesFrom k ds↔∃i d,ds[i]?=some d/\x.1=k+i/\x.2∈aN [] 0 d.2.2
 | [],k=>by rw[placesFrom];exact⟨λz=>(nomatch z),λ⟨i,r,z,_⟩=>by simp at z⟩
 | y::l,k=>by
  rw[placesFrom,Qi,qH (ds:=l) (k:=k+1),Qz];constructor
  ·rintro(⟨z,hz,rfl⟩ |⟨i,r,z,w⟩)
   ·exact⟨0,y,rfl,rfl,hz⟩
   ·exact⟨i+1,r,z,by rw[show k+(i+1)=k+1+i by lia];exact w⟩
  ·rintro⟨i,r,z,w,q⟩;cases i with
   | zero=>cases z;exact .inl ⟨x.2,q,by rw[show k=x.1 by lia]⟩
   | succ i=>exact .inr ⟨i,r,z,by lia,q⟩
theorem qK{lot:List Row}:∀(st:List (Nat×Nat)) (l:List Row),oo l st=some lot->aB lot<=aB l/\st.length+au lot<=au l
 | [],l,e=>by cases e;exact⟨PJ _,by rw[QJ,QV];exact PJ _⟩
 |(i,j)::st,l,e=>by
  obtain⟨t,e1,e2⟩:=bw e;obtain⟨r0,e3,e4⟩:=bw e1;obtain⟨a,b⟩:=qK st t e2;have h1:=dA (PF e3);have h2:=eC (PF e4);exact⟨PY a (xA e3 e4),by rw[P1];lia⟩
theorem EJ{P:Prog}(hP:xR P){n:Nat}(hn:n < eO P.aj):∃(j k:Nat)(st:List (Nat×Nat)) (r:Row) (d:dX) (lot:List Row),(placesFrom 0 P.aj)[n]?=some (j,flat st++[k],r)/\P.aj[j]?=some d/\oo d.2.2 st=some lot/\lot[k]?=some r/\st.length+au lot<=au d.2.2/\aB lot<=aB d.2.2:=by
 obtain⟨x,hx⟩:∃x,(placesFrom 0 P.aj)[n]?=some x:=⟨_,P7 (by rw[cR];exact hn)⟩;obtain⟨i,d,hd,e1,e2⟩:=qH.mp (PF hx);obtain⟨j,p,r⟩:=x;obtain⟨st,k,e3,e4⟩:=nU _ (PJ _) e2;rw[QV] at e1;obtain⟨lot,e5,e6⟩:=bw e4;obtain⟨h1,h2⟩:=qK st _ e5;refine⟨i,k,st,r,d,lot,?_,hd,e5,e6,h2,h1⟩;rw[hx];dsimp only at e1 e3;rw[e1,e3,RE]
end Mi
namespace Mi
open PySem L2 Sm PySem.Spec PyProof.Rows Pg
mutual
noncomputable def HQ(m:Nat):D->Bool
 | .bR=>true
 | .bl _=>true
 | .int _=>true
 | .str _=>true
 | .tup xs=>decide (xs.length<=m)&&HR m xs
 | .lv xs=>decide (xs.length<=m)&&HR m xs
 | .dv kvs=>kvs.isEmpty
 | _=>false
noncomputable def HR(m:Nat):List D->Bool
 | []=>true
 | x::r=>HQ m x&&HR m r
end
abbrev KL:D->Bool:=HQ 1000
theorem zp{m:Nat}:∀{xs:List D},HR m xs=true↔∀x∈xs,HQ m x=true
 | []=>by simp[HR]
 | x::r=>by simp[HR,zp (xs:=r)]
theorem ur{m:Nat}{xs:List D}(t:HQ m (.tup xs)=true):xs.length<=m/\∀x∈xs,HQ m x=true:=by
 rw[HQ,Qm,zp] at t;exact⟨Qq t.1,t.2⟩
noncomputable def JJ:D->Bool
 | .str _=>true
 | _=>false
noncomputable def HD:D->Bool
 | .int _=>true
 | _=>false
theorem z6{d:D}{h:MH}(t:KL d=true):vF [d,.ty "str"] h=some (.bl (JJ d),h):=by cases d <;> first | rfl | cases t
theorem xj{d:D}{h:MH}(t:KL d=true):kC [d] h=some (.bl (HD d),h):=by cases d <;> first | rfl | cases t
noncomputable def HP(d:D)(n:Int):Bool:=match d with
 | .tup xs=>(xs.length:Int)==n
 | _=>false
theorem dR{d:D}{n:Int}{h:MH}(t:KL d=true):eW [d,.int n] h=some (.bl (HP d n),h):=by cases d <;> first | rfl | cases t
section
variable {ns ps:List Str} {h:MH}
theorem wL:∀ws:List Str,nS (ws.map D.str)=some (ws.map PyData.str)
 | []=>rfl
 | c::r=>by simp only[P6,nS,xP,wL r,Ql,Qw]
theorem rm:∀ws:List Str,PyData.depthAll (ws.map PyData.str)=0
 | []=>rfl
 | c::r=>by simp only[P6,PyData.depthAll,rm r,PyData.depth];rfl
theorem xK(w:Str):∀ws:List Str,((ws.map PyData.str).any λb=>PyData.eqv b (.str w))=decide (w∈ws)
 | []=>by simp
 | c::r=>by
  rw[P6,RH,xK w r,show PyData.eqv (.str c) (.str w)=(c==w) by simp[PyData.eqv]]
  by_cases z:c=w
  ·subst z;simp
  ·have:(c==w)=false:=by simp[z]
   rw[this,Bool.false_or];simp[Q2 z]
theorem tT(w:Str)(ps:List Str)(h:MH):KU (.str w) (.tup (ps.map D.str)) h=some (.bl (decide (w∈ps)),h):=by
 have e2:inD (.str w) (.tup (ps.map D.str)) h=some (decide (w∈ps)):=by
  show((nS (ps.map D.str)).bind λbs=>if(PyData.str w).depth<=60/\PyData.depthAll bs<=60 then some (bs.any λb=>PyData.eqv b (.str w)) else none)=_;rw[wL];show(if(PyData.str w).depth<=60/\PyData.depthAll (ps.map PyData.str)<=60 then some ((ps.map PyData.str).any λb=>PyData.eqv b (.str w)) else none)=_;rw[PL ⟨by simp[PyData.depth],by rw[rm];lia⟩,xK]
 unfold KU;rw[e2];rfl
noncomputable def fF(ps:List Str)(w:Str)(f:Int):Bool:=(w==Str.ofString ""||decide (w∈ps))&&(decide (-99<=f)&&decide (f<=99))
noncomputable def x6(ps:List Str)(a b:D):Bool:=match a,b with
 | .str w,.int f=>fF ps w f
 | _,_=>false
noncomputable def sL(ps:List Str):D->Bool
 | .tup [a,b]=>x6 ps a b
 | _=>false
theorem Mm(a b c:α)(r:List α)(n:Nat)(hn:n<=2):(((a::b::c::r).length:Int)==(n:Int))=false:=by
 simp only[P1];rw[Td]
 lia
theorem yO:∀{d:D},KL d=true->nD [d,.tup (ps.map D.str)] h=some (.bl (sL ps d),h)
 | .bR,_=>rfl
 | .bl _,_=>rfl
 | .int _,_=>rfl
 | .str _,_=>rfl
 | .lv _,_=>rfl
 | .dv _,_=>rfl
 | .tup [],_=>rfl
 | .tup [_],_=>rfl
 | .tup (a::b::c::r),t=>by
  refine bp (bL ?_);nofun;refine rv (dR t) ⟨_,rfl,λ_=>?_,λz=>?_⟩
  ·nofun;rfl
  ·have:HP (.tup (a::b::c::r)) 2=false:=Mm a b c r 2 (PJ _);rw[this] at z;cases z
 | .tup [a,b],t=>by
  have ta:=(ur t).2 a (by simp);have tb:=(ur t).2 b (by simp);cases a <;> first |(cases ta;done) | skip
  case str w=>
   cases b <;> first |(cases tb;done) | skip
   case int f=>
    refine bp (bL ?_);nofun;refine rv (dR t) ⟨_,rfl,λz=>(nomatch z),λ_=>?_⟩;nofun;refine rv (z6 ta) ⟨_,rfl,λz=>(nomatch z),λ_=>?_⟩;nofun;refine rv (xj tb) ⟨_,rfl,λz=>(nomatch z),λ_=>?_⟩;nofun;have fin:Rn (fv B1 B1 (Ag pM (eK (.int 99))) (av 3) (eK (.int 99)) [some (.tup [.str w,.int f]),some (.tup (ps.map D.str)),some (.str w),some (.int f)] h) λp=>p=(.bl (decide (-99<=f)&&decide (f<=99)),h):=by
     exact⟨_,Ez (a:=-99) (n:=f) (b:=99) rfl rfl rfl,rfl⟩
    refine⟨_,rfl,λz=>⟨_,rfl,λ_=>?_,λz=>(nomatch z)⟩,λz=>?_⟩
    ·refine fin.imp ?_;rintro _ rfl;nofun;show _=(D.bl (fF ps w f),h);unfold fF;rw[show(w==Str.ofString "")=true from z];rfl
    ·nofun;refine rv (tT w ps h) ⟨_,rfl,λy=>?_,λy=>?_⟩
     ·refine fin.imp ?_;rintro _ rfl;nofun;show _=(D.bl (fF ps w f),h);unfold fF;rw[show(w==Str.ofString "")=false from z,y];rfl
     ·nofun;show _=(D.bl (fF ps w f),h);unfold fF;rw[show(w==Str.ofString "")=false from z,y];rfl
   all_goals rfl
  all_goals rfl
noncomputable def yK(ns ps:List Str)(a d:D):Bool:=match a with
 | .str w=>decide (w∈ns)&&sL ps d
 | _=>false
noncomputable def zY(ns ps:List Str):D->Bool
 | .tup [a,d]=>yK ns ps a d
 | _=>false
theorem qQ:∀{d:D},KL d=true->cw [d,.tup (ns.map D.str),.tup (ps.map D.str)] h=some (.bl (zY ns ps d),h)
 | .bR,_=>rfl
 | .bl _,_=>rfl
 | .int _,_=>rfl
 | .str _,_=>rfl
 | .lv _,_=>rfl
 | .dv _,_=>rfl
 | .tup [],_=>rfl
 | .tup [_],_=>rfl
 | .tup (a::b::c::r),t=>by
  refine bp (bL ?_);nofun;refine rv (dR t) ⟨_,rfl,λ_=>?_,λz=>?_⟩
  ·nofun;rfl
  ·have:HP (.tup (a::b::c::r)) 2=false:=Mm a b c r 2 (PJ _);rw[this] at z;cases z
 | .tup [a,b],t=>by
  have ta:=(ur t).2 a (by simp);have tb:=(ur t).2 b (by simp);cases a <;> first |(cases ta;done) | skip
  case str w=>
   refine bp (bL ?_);nofun;refine rv (dR t) ⟨_,rfl,λz=>(nomatch z),λ_=>?_⟩;nofun;refine rv (z6 ta) ⟨_,rfl,λ_=>?_,λz=>(nomatch z)⟩;nofun;refine rv (tT w ns h) ⟨_,rfl,λy=>?_,λy=>?_⟩
   ·nofun;refine rv (yO tb) ?_;nofun;show _=(D.bl (decide (w∈ns)&&sL ps b),h);rw[y];rfl
   ·nofun;show _=(D.bl (decide (w∈ns)&&sL ps b),h);rw[y];rfl
  all_goals rfl
end
noncomputable def zW:Str:="zzzzzzzz"
noncomputable def wZ(w:Str)(ps:List Str):List D:=
 [.tup [.str w,.tup [.str "",.int 100]],.tup [.str w,.tup [.str "",.int (-100)]],.tup [.str w,.tup [.str zW,.int 0]],.tup [.str zW,.tup [.str "",.int 0]]]++
 [.tup [.str w,.tup [.str "",.bl true]],.tup [.str w,.int 3],.tup [.str w],.tup [.str w,.tup [.str "",.int 0],.int 0],.lv [.str w,.tup [.str "",.int 0]]]++
 [.tup [.str w,.lv [.str "",.int 0]],.tup [.str w,.tup [.str ""]],.tup [.str w,.tup [.bR,.int 0]]]++
 [.bR,.str w,.tup [],.int 0,.tup [.str "",.tup [.str "",.int 0]],.tup [.str w,.tup [.str "",.str "0"]],.tup [.str w,.tup [.tup [.str ""],.int 0]],.tup [.tup [.str w],.tup [.str "",.int 0]]]++
 ps.map λp=>.tup [.str w,.tup [.str p,.int 100]]
theorem Gh{w:Str}{ns ps qs:List Str}(h1:zW∉ns)(h2:zW∉ps)(h3:("":Str)∉ns){x:D}(hx:x∈wZ w qs)(h:MH):cw [x,.tup (ns.map D.str),.tup (ps.map D.str)] h=some (.bl false,h):=by
 have z1:(zW==Str.ofString "")=false:=by decide+kernel
 have key:∀x∈wZ w qs,KL x=true/\zY ns ps x=false:=by
  intro x hx;unfold wZ at hx;rw[Qi] at hx;rcases hx with hx | hx
  ·simp only[R8,RE,PZ,RM,SY] at hx;rcases hx with rfl | rfl | rfl | rfl | rfl | rfl | rfl | rfl | rfl | rfl | rfl | rfl | rfl | rfl | rfl | rfl | rfl | rfl | rfl | rfl <;> refine⟨rfl,?_⟩
   all_goals first | rfl |(simp[zY,yK,sL,x6,fF,z1,h1,h2,h3];done)
  ·obtain⟨p,hp,rfl⟩:=Qz.mp hx;exact⟨by simp[HQ,HR],by simp[zY,yK,sL,x6,fF]⟩
 obtain⟨t,e⟩:=key x hx;rw[qQ t,e]
end Mi
namespace Mi
open PySem Sm L2 Pg
section
variable {P:Prog} {n j k:Nat} {st:List (Nat×Nat)} {r:Row} {d:dX} {lot:List Row} {w:D}
theorem Dz:(flat st++[k]).length=2*st.length+1:=by
 rw[PR,D6];rfl
theorem Gy(m:Nat)(h:MH):vH (.int ((2*m+1:Nat):Int)) (.int 2) h=some (.int (m:Int),h):=by
 show some (D.int _,h)=_;congr 3
 lia
theorem zP(r:Row):D.tup [ax r]=aZ [r]:=by unfold aZ;rw[aX];rfl
noncomputable def xU(P:Prog)(n j k:Nat)(st:List (Nat×Nat))(r:Row)(w:D):DS:=[some (aQ P),some (.int (n:Int)),some (w),some (iC j),some (AW st k),some (ax r),some (.int ((st.length+1:Nat):Int))]
theorem jz(hr:1+aS r<=8)(hc:cnt r<=1000)(h:MH):aI (ao vG (ak (bC 8) (af (ak az (af (av 5) aH)) (af (ao aw (av 6) (eK (.int 1))) aH))) (eK (.int 5))) (xU P n j k st r w) h=some (decide (5 < st.length+2+aS r),h):=by
 have hn:au [r]=1+aS r:=by rw[au,au];lia
 refine bp (iQ ?_);unfold xU;nofun;rw[zP,show((st.length+1:Nat):Int)+1=((st.length+2:Nat):Int) by lia];refine rv (lO 8 [r] _ h (by rw[hn];exact hr) (by rw[aB,aB];lia)) ?_;refine rv rfl ⟨_,rfl,?_⟩;rw[hn];congr 1;exact Ss.mpr (by lia)
theorem jh(hP:xR P)(h:MH):aI (ao GF (ak ck (af (ak bT (af (av 0) aH)) aH)) (eK (.int 60))) (xU P n j k st r w) h=some (decide (60<=eO P.aj),h):=by
 refine bp (iQ ?_);unfold xU;nofun;refine rv (f9 hP h) ?_;nofun;refine⟨_,rfl,?_⟩;rw[PC,show(placesFrom 0 P.aj).length=eO P.aj from cR 0 P.aj];congr 1;exact Ss.mpr (by lia)
theorem jk(hP:xR P)(hn:(placesFrom 0 P.aj)[n]?=some (j,flat st++[k],r))(h:MH){Q:Fl×DS×MH->Prop}(q:Q (.nx,[some (aQ P),some (.int (n:Int)),some (w),some (iC j),some (AW st k),some (ax r),none],h)):Rn (fT (ak fQ (af (av 0) (af (av 1) aH))) (gT 3 (aA (gN 3) (aA (gN 4) (aA (gN 5) bZ)))) (entry 7 [aQ P,.int (n:Int),w]) h) Q:=by
 nofun;refine rv (Dn hP hn h) ?_;nofun;exact q
theorem lP(h:MH){Q:Fl×DS×MH->Prop}(q:Q (.nx,xU P n j k st r w,h)):Rn (aR 6 (ao aw (ao vH (ak ck (af (av 4) aH)) (eK (.int 2))) (eK (.int 1))) [some (aQ P),some (.int (n:Int)),some (w),some (iC j),some (AW st k),some (ax r),none] h) Q:=by
 nofun;refine rv (qu (p:=flat st++[k])) ?_;nofun;rw[Dz];refine rv (Gy _ h) ?_;nofun;exact q
theorem ug(hP:xR P)(hn:(placesFrom 0 P.aj)[n]?=some (j,flat st++[k],r))(hr:1+aS r<=8)(hc:cnt r<=1000)(hw:5 < st.length+2+aS r\/60<=eO P.aj)(h:MH):aY [aQ P,.int (n:Int),w] h=some (("NoRow":Str),h):=by
 refine bp (zG (qm ?_ (iP ?_)))
 ·exact jV hP hn h
 ·refine jk hP hn h ⟨rfl,iP (lP h ⟨rfl,?_⟩)⟩;have ed:=jz (P:=P) (n:=n) (j:=j) (k:=k) (st:=st) (r:=r) (w:=w) hr hc h;have er:=jh (n:=n) (j:=j) (k:=k) (st:=st) (r:=r) (w:=w) hP h
  by_cases z:5 < st.length+2+aS r
  ·exact yn (zE (rv ed ⟨λ_=>lh (bO (C5 (fI rfl))),λy=>absurd z (Tj y)⟩))
  ·refine qm ?_ (iP ?_)
   ·show Cf _ _ _ (xU P n j k st r w) h=none;rw[jX ed,P0 (by simpa using z)];rfl
   ·show Rn (fC _ _ _ (xU P n j k st r w) h) _;refine gI (rv ed ⟨λy=>absurd (Qq y) z,λ_=>?_⟩);refine rv rfl ⟨rfl,?_⟩;exact yn (zE (rv er ⟨λ_=>lh (bO (C5 (fI rfl))),λy=>absurd (hw.resolve_left z) (Tj y)⟩))
theorem pI{a b:XM}{δ:DS}{h:MH}(e1:a δ h=none)(e2:b δ h=none):Ce a b δ h=none:=by unfold Ce;rw[e1];exact e2
theorem m8{b:Bool}(hd:P.aj[j]?=some d)(hb:cw [w,.tup (P.names.map D.str),.tup (d.2.1.map D.str)] h=some (.bl b,h)):Sm.jC (mx (ak cw (af (av 2) (af (ao aV (av 0) (eK (.int 0))) (af (ao aV (ao aV (ao aV (av 0) (eK (.int 1))) (av 3)) (eK (.int 1))) aH))))) (xU P n j k st r w) h=some (!b,h):=by
 refine bp ?_;unfold xU;refine j8 (uS ?_);nofun;refine rv (a:=(.tup (P.names.map D.str),h)) rfl ?_;nofun;refine rv (a:=(.tup (P.aj.map dC),h)) rfl ?_;nofun;refine rv (a:=(dC d,h)) (iX (i:=j) (by rw[P8,hd];rfl)) ?_;nofun;refine rv (a:=(.tup (d.2.1.map D.str),h)) rfl ?_;nofun;exact rv hb ⟨_,rfl,rfl⟩
theorem Ay(hP:xR P)(hn:(placesFrom 0 P.aj)[n]?=some (j,flat st++[k],r))(hr:1+aS r<=8)(hc:cnt r<=1000)(w1:¬5 < st.length+2+aS r)(w2:¬60<=eO P.aj)(hd:P.aj[j]?=some d)(hb:cw [w,.tup (P.names.map D.str),.tup (d.2.1.map D.str)] h=some (.bl false,h)):aY [aQ P,.int (n:Int),w] h=some (("NoLock":Str),h):=by
 have ed:=jz (P:=P) (n:=n) (j:=j) (k:=k) (st:=st) (r:=r) (w:=w) hr hc h;have er:=jh (n:=n) (j:=j) (k:=k) (st:=st) (r:=r) (w:=w) hP h;refine bp (zG (qm (jV hP hn h) (iP (jk hP hn h ⟨rfl,iP (lP h ⟨rfl,?_⟩)⟩))));refine qm ?_ (iP ?_)
 ·show Cf _ _ _ (xU P n j k st r w) h=none;rw[jX ed,P0 (by simpa using w1)];rfl
 refine gI (rv ed ⟨λy=>absurd (Qq y) w1,λ_=>?_⟩);refine rv rfl ⟨rfl,?_⟩;refine qm ?_ (iP ?_)
 ·show Cf _ _ _ (xU P n j k st r w) h=none;rw[jX er,P0 (by simpa using w2)];rfl
 refine gI (rv er ⟨λy=>absurd (Qq y) w2,λ_=>?_⟩);refine rv rfl ⟨rfl,?_⟩;exact zE (rv (m8 hd hb) ⟨λ_=>lh (bO (C5 (fI rfl))),λy=>(nomatch y)⟩)
theorem wm(hP:xR P)(hn:(placesFrom 0 P.aj)[n]?=some (j,flat st++[k],r))(hr:1+aS r<=8)(hc:cnt r<=1000)(w1:¬5 < st.length+2+aS r)(w2:¬60<=eO P.aj)(hd:P.aj[j]?=some d)(hb:cw [w,.tup (P.names.map D.str),.tup (d.2.1.map D.str)] h=some (.bl true,h)):aY [aQ P,.int (n:Int),w] h=none:=by
 have ed:=jz (P:=P) (n:=n) (j:=j) (k:=k) (st:=st) (r:=r) (w:=w) hr hc h;have er:=jh (n:=n) (j:=j) (k:=k) (st:=st) (r:=r) (w:=w) hP h;have e1:=bp (a:=(Fl.nx,[some (aQ P),some (.int (n:Int)),some w,some (iC j),some (AW st k),some (ax r),none],h)) (jk hP hn h rfl);have e2:=bp (a:=(Fl.nx,xU P n j k st r w,h)) (lP h rfl);show Jq 7 _ _ h=none;unfold Jq;refine pI (jV hP hn h) ?_;rw[kI e1,kI e2];refine pI (by rw[jX ed,P0 (by simpa using w1)];rfl) ?_;rw[kI (bp (a:=(Fl.nx,xU P n j k st r w,h)) (gI (rv ed ⟨λy=>absurd (Qq y) w1,λ_=>rv rfl rfl⟩)))];refine pI (by rw[jX er,P0 (by simpa using w2)];rfl) ?_;rw[kI (bp (a:=(Fl.nx,xU P n j k st r w,h)) (gI (rv er ⟨λy=>absurd (Qq y) w2,λ_=>rv rfl rfl⟩)))];rw[jX (m8 hd hb)];rfl
end
section
variable {P:Prog} {n j k:Nat} {st:List (Nat×Nat)} {r:Row} {d:dX} {lot:List Row} {lk:Lock}
theorem Fb(hP:xR P)(hn:(placesFrom 0 P.aj)[n]?=some (j,flat st++[k],r))(hd:P.aj[j]?=some d)(hl:oo d.2.2 st=some lot)(hst:st.length < 6)(hkl:k < lot.length)(hcd:aB d.2.2<=1000)(hr:1+aS r<=8)(hc:cnt r<=1000)(w1:¬5 < st.length+2+aS r)(w2:¬60<=eO P.aj){h:MH}(hb:cw [aJ lk,.tup (P.names.map D.str),.tup (d.2.1.map D.str)] h=some (.bl true,h)):
  cy [aQ P,.int (n:Int),aJ lk] h=some (aQ (II P j k [.within lk [r]] st d),h):=by
 have ed:=jz (P:=P) (n:=n) (j:=j) (k:=k) (st:=st) (r:=r) (w:=aJ lk) hr hc h;have er:=jh (n:=n) (j:=j) (k:=k) (st:=st) (r:=r) (w:=aJ lk) hP h;refine bp (bL (de (jk hP hn h (de (lP h ?_)))));refine de (gI (rv ed ⟨λy=>absurd (Qq y) w1,λ_=>rv rfl ?_⟩));refine de (gI (rv er ⟨λy=>absurd (Qq y) w2,λ_=>rv rfl ?_⟩));refine de (gI (rv (m8 hd hb) ⟨λy=>(nomatch y),λ_=>rv rfl ?_⟩));unfold xU;nofun;rw[zP,show D.tup [D.tup [D.str (Str.ofString "within"),aJ lk,aZ [r]]]=aZ [.within lk [r]] by unfold aZ;rw[aX,aX];show _=D.tup [ax (.within lk [r])];rw[ax,aX]];refine rv (lj (by show 1<=1000;decide) hd hl hst hkl hcd hP.dl h) ?_;nofun
end
theorem AF(h:MH):wu ij "NoLock" h=some (.str "NoLock",h):=by
 have hx:(h++[MO.exc "NoLock"])[h.length]?=some (.exc "NoLock"):=by rw[P9 (PJ _),Uu];rfl
 have ei:∀(n:Str)(b:Bool)(δ:DS),decide (n∈(["NoLock","StuckError","ValueError"]:List Str))=b->δ[1]?=some (some (.ob h.length))->ku eX n (av 1) δ (h++[MO.exc "NoLock"])=some (.bl b,h++[MO.exc "NoLock"]):=λn b δ hb hd=>by
  have e1:av 1 δ (h++[MO.exc "NoLock"])=some (.ob h.length,h++[MO.exc "NoLock"]):=by unfold av;rw[hd];rfl
  subst hb;unfold ku;rw[e1];show(match (h++[MO.exc "NoLock"])[h.length]? with | some (.exc c)=>(eX.lookup c).map λas=>(D.bl (decide (n∈as)),h++[MO.exc "NoLock"]) | _=>none)=_;rw[hx];have:eX.lookup ("NoLock":Str)=some (["NoLock","StuckError","ValueError"]:List Str):=by ac_nf
  show(eX.lookup ("NoLock":Str)).map _=_;rw[this];rfl
 have e:(ij [none,some (.ob h.length),none,none] (h++[.exc "NoLock"])).bind r8=some (.str "NoLock",h++[.exc "NoLock"]):=by
  refine bp (a8 ?_);unfold ij;refine de (gI (CZ (iQ (mO (eY rfl (C5 (rv rfl ⟨false,rfl,⟨λz=>(nomatch z),λ_=>?_⟩⟩)))))));refine j8 (uS (rv (ei "ValueError" true _ (by decide+kernel) rfl) ⟨true,rfl,⟨λz=>(nomatch z),λ_=>rv rfl (oM ?_)⟩⟩));refine de (rv (a:=(.nx,[none,some (.ob h.length),none,some (.lv [.bl false,.bl true,.bl false])],h++[.exc "NoLock"])) (bp (sX (uU (bO (rv (ei "NoRow" false _ (by decide+kernel) rfl) (bO (rv (ei "NoLock" true _ (by decide+kernel) rfl) (bO (rv (ei "NoText" false _ (by decide+kernel) rfl) (fI rfl)))))))))) (oM ?_));refine de (rv (a:=(.nx,[none,some (.ob h.length),none,some (.lv [.bl false,.bl true,.bl false,.bl false,.bl false])],h++[.exc "NoLock"])) (bp (sX (mO (eY rfl (uU (bO (rv (ei "NoLine" false _ (by decide+kernel) rfl) (bO (rv (ei "NoStep" false _ (by decide+kernel) rfl) (fI (rv rfl rfl))))))))))) (oM ?_));refine rv (a:=(.rt (.str "NoLock"),[none,some (.ob h.length),none,some (.lv [.bl false,.bl true,.bl false,.bl false,.bl false])],h++[.exc "NoLock"])) (by ac_nf) ?_;exact rv rfl rfl
 unfold wu;rw[e];exact m9 (λn=>by simp) rfl
theorem za{caps:List (Option Nat)}{x:XM}{m:EM}{δ:DS}{h:MH}(e:x (cS caps δ) h=some (("NoLock":Str),h)):cc iy caps ij x m δ h=some (.str "NoLock",h):=by
 unfold cc;rw[e];show(if("NoLock":Str)∈iy then _ else _)=_;rw[PL (by decide+kernel)];exact AF h
theorem zb{caps:List (Option Nat)}{x:XM}{m:EM}{δ:DS}{h:MH}{v:D}(e:x (cS caps δ) h=none)(e2:m (cS caps δ) h=some (v,h)):cc iy caps ij x m δ h=some (.str "",h):=by
 unfold cc;rw[e];show(m (cS caps δ) h).bind _=_;rw[e2];show Cr ij h=_;have e:(ij [none,some .bR,none,none] h).bind r8=some (.str "",h):=by
  ac_nf
 unfold Cr;rw[e];have:=m9 (H:=h) (g:=[]) (d:=.str "") (λn=>by simp) rfl;rw[QD] at this;exact this
abbrev AU(a b c:Nat):EM:=cc iy [some a,some b,some c] ij (E9 aY (af (av 2) (af (av 1) (af (av 0) aH)))) (ak cy (af (av 2) (af (av 1) (af (av 0) aH))))
section
variable {P:Prog} {z:Int} {w:D} {δ:DS} {a b c:Nat} {h:MH}
theorem uP(e1:cS [some a,some b,some c] δ=[some w,some (.int z),some (aQ P)])(e:aY [aQ P,.int z,w] h=some (("NoRow":Str),h)):AU a b c δ h=some (.str "NoRow",h):=
 BN (by rw[e1];exact bp (CY (rv (a:=([aQ P,.int z,w],h)) rfl (rv e rfl))))
theorem CT(e1:cS [some a,some b,some c] δ=[some w,some (.int z),some (aQ P)])(e:aY [aQ P,.int z,w] h=some (("NoLock":Str),h)):AU a b c δ h=some (.str "NoLock",h):=
 za (by rw[e1];exact bp (CY (rv (a:=([aQ P,.int z,w],h)) rfl (rv e rfl))))
theorem CQ{v:D}(e1:cS [some a,some b,some c] δ=[some w,some (.int z),some (aQ P)])(e:aY [aQ P,.int z,w] h=none)(e2:cy [aQ P,.int z,w] h=some (v,h)):AU a b c δ h=some (.str "",h):=
 zb (v:=v) (by rw[e1];exact e) (by rw[e1];exact e2)
end
theorem K6{P:Prog}(hP:xR P){z:Int}(hz:z < 0\/((placesFrom 0 P.aj).length:Int)<=z)(w:D)(h:MH):aY [aQ P,.int z,w] h=some (("NoRow":Str),h):=
 bp (zG (yn (CY (rv (a:=([aQ P,.int z],h)) rfl (rv (E8 hP hz h) rfl)))))
theorem AI{w:Str}{h:MH}:∀(ps:List Str)(o:Option D),cf [] (gN 0) cx (ak az (a2 (av 1) (ak az (a2 (av 0) (eK (.int 100)))))) (ps.map D.str) [o,some (.str w)] h=some (ps.map (λp=>D.tup [.str w,.tup [.str p,.int 100]]),h):=λps o=>
 rC (t:=[some (.str w)]) D.str (λp=>D.tup [.str w,.tup [.str p,.int 100]]) ps o λ_ _=>rfl
theorem qE{ws ps:List Str}{H h:MH}{R:Nat}{s c:Nat}{cs:List Int}{Q:D×MH->Prop}(A:Sb s c cs H (R+1) h)(h0:0 < ws.length)(h6:ws.length<=1000)(hp:ps.length<=1000)(k:∀(w:Str)(h1:MH),w∈ws->Sb s c cs H R h1->Q (.lv (wZ w ps),h1)):Rn (cH [.ob s,.tup (ws.map D.str),.tup (ps.map D.str)] h) Q:=by
 refine bL ?_;nofun;refine vU A (.inr rfl) (by rw[PC];exact h0) (by rw[PC];lia) λx h1 hx A1=>?_;obtain⟨w,hw,rfl⟩:=Qz.mp hx;nofun;refine rv (iZ rfl (by simp)) ?_;nofun;refine rv (iZ rfl (by simp)) ?_;nofun;refine rv (iZ rfl (by simp)) ?_;nofun;refine du ?_;nofun;refine⟨_,_,rfl,?_⟩;refine rv (AI (w:=w) ps none) ⟨by rw[PC,show sizeLine=16777216 from rfl];lia,?_⟩;nofun;refine rv (iZ rfl (by simp;lia)) ?_;nofun;exact k w h1 hw A1
def DR(i:Nat)(r:Row):Prop:=cnt r=i+1/\aS r=i/\∀a,∃st:List (Nat×Nat),st.length=i/\(aN a 0 [r])[i]?=some (a++(flat st++[0]),.say "deepest")
theorem DR.zero:DR 0 (.say "deepest"):=⟨by rw[cnt],by rw[aS],λa=>⟨[],rfl,rfl⟩⟩
theorem DR.step{i:Nat}{r r':Row}(h:DR i r)(e:ai r'=[[r]]\/ai r'=[[],[r]])(en:aS r'=au [r]):DR (i+1) r':=by
 obtain⟨h1,h2,h3⟩:=h;have hc:=i0 r';refine⟨?_,by rw[en,au,au,h2];lia,λa=>?_⟩
 ·rcases e with e | e <;> (rw[hc,e];simp only[P6,QW,Rr,Uw,aB,h1];lia)
 ·have hl:∀b,(aN b 0 [r]).length=i+1:=λb=>by rw[a9,aB,aB,h1]
  rcases e with e | e
  ·obtain⟨st,s1,s2⟩:=h3 (a++[0]++[0]);refine⟨(0,0)::st,by rw[P1,s1],?_⟩;rw[aN,SH,jl,e,cF,PU (by rw[PR,hl];lia),PU (by rw[hl];lia),s2];simp[flat]
  ·obtain⟨st,s1,s2⟩:=h3 (a++[0]++[1]);refine⟨(0,1)::st,by rw[P1,s1],?_⟩;rw[aN,SH,jl,e,cF,cF,aN,RE,PU (by rw[PR,hl];lia),PU (by rw[hl];lia),s2];simp[flat]
noncomputable def xy(r:Row):Prog:=⟨["a"],[("go",["p"],[r])]⟩
noncomputable def fq(n:Nat):List Row:=List.replicate n (.say "x")
noncomputable def qW:Prog:=⟨["a"],[("go",["p"],[.either (fq 12) (fq 12),.either (fq 12) (fq 12),.either (fq 5) (fq 4)])]⟩
theorem lJ:eO qW.aj=60:=by decide+kernel
theorem qV:xR qW:=⟨λd hd=>by rw[P4.mp hd];decide+kernel,by show eO qW.aj<=1000;rw[lJ];decide,by show 1<=1000;decide⟩
theorem Eo{r:Row}(h:DR 4 r):xR (xy r):=⟨λd hd=>by rw[P4.mp hd];show au [r]<=6;rw[au,au,h.2.1];decide,by show aB [r]+0<=1000;rw[aB,aB,h.1];decide,by show 1<=1000;decide⟩
theorem Em{r:Row}(h:DR 4 r)(w:D)(H:MH):aY [aQ (xy r),.int 4,w] H=some (("NoRow":Str),H):=by
 obtain⟨st,s1,s2⟩:=h.2.2 [];have hn:(placesFrom 0 (xy r).aj)[4]?=some (0,flat st++[0],.say "deepest"):=by
  show(placesFrom 0 [("go",["p"],[r])])[4]?=_;rw[placesFrom,placesFrom,QD,P8,s2];rfl
 exact ug (n:=4) (Eo h) hn (by rw[aS];decide) (by rw[cnt];decide) (.inl (by rw[s1,aS];decide)) H
theorem D1{m:Int}(h0:0<=m)(h6:m < 60)(w:D)(H:MH):aY [aQ qW,.int m,w] H=some (("NoRow":Str),H):=by
 obtain⟨n,rfl⟩:=QM h0;obtain⟨j,k,st,r,d,lot,e1,e2,e3,e4,e5,e6⟩:=EJ qV (n:=n) (by rw[lJ];lia);have h1:=dA (PF e4);have h2:=rD (PF e4);have h3:=qV.nd d (PF e2);have h4:aB d.2.2<=eO qW.aj:=kM (PF e2);rw[lJ] at h4;exact ug qV e1 (by lia) (by lia) (.inr (by rw[lJ];decide)) H
theorem DT{H h:MH}{R:Nat}{cs:List Int}{Q:D×MH->Prop}(A:Sb 1 0 cs H (R+5) h)(k:∀(r:Row)(m:Int)(h1:MH),DR 4 r->0<=m->m < 60->Sb 1 0 cs H R h1->Q (.lv [.tup [aQ (xy r),.int 4],.tup [aQ qW,.int m]],h1)):Rn (i9 [.ob 1] h) Q:=by
 refine bL ?_;nofun;refine g9 ?_;nofun;refine⟨4,rfl,by decide,by decide,?_⟩;refine cK (λi δ h'=>∃(r:Row)(v2 v3:Option D),δ=[some (.ob 1),some (ax r),v2,v3,none,none,none]/\DR i r/\Sb 1 0 cs H (R+1+(4-i)) h')
  ⟨.say "deepest",_,_,by rw[ax];rfl,DR.zero,A⟩ (λ_ _ _ _ _=>rfl) ?_ ?_
 ·rintro i x δ h' hx ⟨r,v2,v3,rfl,hr,A1⟩;rw[P8] at hx;obtain⟨q,eq,rfl⟩:=Qg.mp hx;have hi:i < 4:=by have:=(PH.mp eq).1;simpa using this
  nofun;refine vU (R:=R+1+(4-(i+1))) (A1.le (by lia)) (.inl rfl) (by simp) (by simp) λy h2 hy A2=>?_;have key:∃r',y=ax r'/\DR (i+1) r':=by
   simp only[PZ,RM,SY] at hy;rcases hy with rfl | rfl | rfl
   ·exact⟨.again [r],by rw[ax,aX];rfl,hr.step (.inl rfl) (by rw[aS])⟩
   ·exact⟨.either [] [r],by rw[ax,aX,aX];rfl,hr.step (.inr rfl) (by rw[aS];have:1<=au [r]:=by {rw[au];lia};rw[show au []=1 by rw[au]];lia)⟩
   ·exact⟨.within ("a",("p",(q:Int))) [r],by rw[ax,aX];rfl,hr.step (.inl rfl) (by rw[aS])⟩
  obtain⟨r',rfl,hr'⟩:=key;nofun;exact⟨r',_,_,rfl,hr',A2⟩
 ·rintro δ h' ⟨r,v2,v3,rfl,hr,A1⟩;nofun;refine rv (a:=(.lv (List.replicate 12 (.tup [.str "say",.str "x"])),h')) rfl ?_;nofun;refine rv (a:=(aZ (fq 12),h')) (by ac_nf) ?_;nofun;refine rv (a:=(.tup [.tup [.str "either",aZ (fq 12),aZ (fq 12)],.tup [.str "either",aZ (fq 12),aZ (fq 12)]],h')) rfl ?_;nofun;refine⟨_,rfl,rv (a:=(aZ (fq 5),h')) (by ac_nf) ?_⟩;nofun;refine⟨_,rfl,rv (a:=(aZ (fq 4),h')) (by ac_nf) ?_⟩;nofun;refine rv (a:=(.tup [.tup [.str "either",aZ (fq 12),aZ (fq 12)],.tup [.str "either",aZ (fq 12),aZ (fq 12)],.tup [.str "either",aZ (fq 5),aZ (fq 4)]],h')) rfl ?_;nofun;refine dU (R:=R) (A1.le (by lia)) (by decide) (by decide) λm h2 m0 m6 A2=>?_;nofun;have e1:aQ (xy r)=.tup [.tup [.str "a"],.tup [.tup [.str "go",.tup [.str "p"],.tup [ax r]]]]:=by
   show D.tup [_,.tup [.tup [_,_,.tup (b7 [r])]]]=_;rw[aX];rfl
  have e2:aQ qW=.tup [.tup [.str "a"],.tup [.tup [.str "go",.tup [.str "p"],.tup [.tup [.str "either",aZ (fq 12),aZ (fq 12)],.tup [.str "either",aZ (fq 12),aZ (fq 12)],.tup [.str "either",aZ (fq 5),aZ (fq 4)]]]]]:=by ac_nf
  have:=k r m h2 hr m0 m6 A2;rw[e1,e2] at this;exact this
end Mi
namespace Pg
theorem BJ(d:dX)(ds:List dX):eO (d::ds)=aB d.2.2+eO ds:=by simp[eO]
theorem Et(x y:List dX):eO (x++y)=eO x+eO y:=by unfold eO;rw[Qf,SR]
end Pg
namespace Pg
open PySem Sm L2
noncomputable def iB(ds:List dX):List (List Str):=ds.flatMap λd=>List.replicate (aB d.2.2) d.2.1
theorem ll(d:dX)(ds:List dX):iB (d::ds)=List.replicate (aB d.2.2) d.2.1++iB ds:=U0
theorem FQ(a b:List dX):iB (a++b)=iB a++iB b:=List.flatMap_append
theorem uZ:∀ds:List dX,(iB ds).length=eO ds
 | []=>rfl
 | d::ds=>by rw[ll,PR,Rh,uZ ds,BJ]
theorem Dl:∀(ds:List dX)(i n:Nat)(q:Nat×List Nat×Row),(placesFrom i ds)[n]?=some q->∃m d,q.1=i+m/\ds[m]?=some d/\(iB ds)[n]?=some d.2.1
 | [],i,n,q,h=>by simp[placesFrom] at h
 | d::ds,i,n,q,h=>by
  rw[placesFrom] at h
  by_cases z:n < aB d.2.2
  ·rw[PU (by rw[PC,a9];exact z),P8] at h;obtain⟨p,ep,rfl⟩:=Qg.mp h;exact⟨0,d,rfl,rfl,by rw[ll,PU (by rw[Rh];exact z),SF,PL z]⟩
  ·rw[P9 (by rw[PC,a9];lia),PC,a9] at h;obtain⟨m,e,h1,h2,h3⟩:=Dl ds (i+1) (n-aB d.2.2) q h;exact⟨m+1,e,by lia,h2,by rw[ll,P9 (by rw[Rh];lia),Rh];exact h3⟩
noncomputable def FT(ps:List Str):D:=.tup (ps.map D.str)
end Pg
namespace Mi
open PySem Sm L2 Pg
theorem ML{h:MH}{s c R:Nat}{cs:List Int}{Q:D×MH->Prop}(S:St s c cs (R+6200) h)(C:Cl h)(k:∀(W:Wd)(fl:List Int)(odd:Int)(m:Nat)(P:Prog)(h1:MH),m<=60->oX W fl odd->KZ W m P->Sb s c cs h R h1->Cl h1->Q (aQ P,h1)):Rn (kE [.ob s] h) Q:=by
 refine bL ?_;nofun;refine jT (R:=R+6198+1) (is:=[4,8,12,20,40,60]) (λi=>0<=i/\i<=60) (by decide) S.sb λmost h1 hm _ A1=>?_;nofun;refine jT (R:=R+6198) (is:=[0,2,5,9]) (λi=>0<=i/\i<=9) (by decide) A1 λodd h2 ho _ A2=>?_;nofun;obtain⟨m,rfl⟩:=QM hm.1;refine BO (R:=R) (A2.le (by lia)) (C.but A2.S A2.b) ho.1 (by lia) λW fl P h3 ok okp A3 C3=>?_;nofun;exact k W fl odd m P h3 (by lia) ok okp A3 C3
theorem PB(cs:List Int):Cl [.lst (cs.map D.int),.lst [.int 0,.ob 0,.int 0]]:=by
 intro o ho;rcases PZ.mp ho with rfl | ho
 ·exact eP _ D.int (λ_=>rfl) _
 ·rw[P4.mp ho];rfl
theorem rep1{x:D}{a:Nat}{h:MH}(ha:a<=1000):qY (.lv [x]) (.int (a:Int)) h=some (.lv (List.replicate a x),h):=by
 show(if(0:Int)<=a/\(a:Int)<=1000/\[x].length<=1000 then some (D.lv (List.replicate (a:Int).toNat [x]).flatten,h) else none)=_;rw[PL ⟨by lia,by lia,by simp⟩,RJ];congr 3
 induction a with
 | zero=>rfl
 | succ n ih=>rw[QI,QI,Rp,ih (by lia)];rfl
theorem Cl.gl:∀(g h:MH),Cl h->GL g->Cl (h++g)
 | [],h,C,_=>by rw[QD];exact C
 | o::g,h,C,G=>by
  rw[show h++o::g=h++[o]++g by simp];refine Cl.gl g _ (C.snoc ?_) λx hx=>G x (.tail _ hx);obtain⟨X,rfl⟩:=G o (.head _);exact Hr _ X
theorem yq{W:Wd}{fl:List Int}{odd:Int}(ok:oX W fl odd){m:Nat}{P:Prog}(o:KZ W m P):(∀d∈P.aj,∀f,LC f d.2.2)/\∀d∈P.aj,au d.2.2<=5:=by
 refine⟨λd hd f=>?_,λd hd=>?_⟩
 ·obtain⟨j,hj⟩:=Rg.mp hd;obtain⟨e1,e2,e3,_⟩:=o.dd j d hj;exact yI ok (λw hw=>fX (ok.sp d.2.1 (PF e2) w hw)) f 1 d.2.2 e3
 ·obtain⟨j,hj⟩:=Rg.mp hd;obtain⟨e1,e2,e3,e4⟩:=o.dd j d hj;exact bH 1 d.2.2 e3 (by decide)
theorem Dk{P:Prog}(hP:O6 P)(h1:MH){d0 d1 d2 d8 d9 d10 d11:Option D}{Q:Fl×DS×MH->Prop}(q:∀(G:MH)(o6 o7 o8:Option D),GL G->Q (.nx,[d0,d1,d2,some (aQ P),some (.lv ((iB P.aj).map FT)),o6,o7,o8,d8,d9,d10,d11],h1++G))(o6 o7 o8:Option D):
  Rn (dc (ao aV v3 (ki 1)) [d0,d1,d2,some (aQ P),some (.lv []),o6,o7,o8,d8,d9,d10,d11] h1) λp=>Rn (jD p.2.1 (gT 3 (aA (gN 5) (aA (gN 6) (aA (gN 7) bZ)))) (aR 4 (ao aw v4 (ao qY (eL (a1 v6)) (ao aV (ak (bJ 8) (a2 v7 (ki 0))) (ki 1))))) p.1 [d0,d1,d2,some (aQ P),some (.lv []),o6,o7,o8,d8,d9,d10,d11] p.2.2) Q:=by
 have ct:=hP.ct;refine du ?_;nofun;refine rv (a:=(.tup (P.aj.map dC),h1)) rfl ?_;refine⟨_,_,rfl,?_⟩;refine cK (λi δ h'=>∃(G:MH)(o6 o7 o8:Option D),δ=[d0,d1,d2,some (aQ P),some (.lv ((iB (P.aj.take i)).map FT)),o6,o7,o8,d8,d9,d10,d11]/\h'=h1++G/\GL G)
  ⟨[],_,_,_,rfl,by simp,λo ho=>(nomatch ho)⟩ (λ_ _ _ _ _=>rfl) ?_ ?_
 ·rintro i x δ h' hx ⟨G,o6,o7,o8,rfl,rfl,hG⟩;rw[P8] at hx;obtain⟨d,ed,rfl⟩:=Qg.mp hx;obtain⟨s1,s2,s3,s4⟩:=hP.dd d (PF ed);have nd:=hP.fit.nd d (PF ed);have hcd:aB d.2.2<=900:=PY (kM (PF ed)) ct;have htk:iB (P.aj.take (i+1))=iB (P.aj.take i)++List.replicate (aB d.2.2) d.2.1:=by rw[Tx,ed,FQ,show iB (Option.toList (some d))=iB [d] from rfl,ll,show iB []=[] from rfl,QD]
  have hlen:(iB (P.aj.take i)).length<=900:=by
   rw[uZ];have:=congrArg eO (Rf i P.aj);rw[Et] at this;have:eO P.aj<=900:=ct
   lia
  obtain⟨nm,ps,rows⟩:=d;dsimp only at s1 s2 s3 s4 nd hcd htk;show Rn (gT 3 _ (.tup [.str nm,.tup (ps.map D.str),.tup (b7 rows)]) _ _) _;nofun;obtain⟨_,e2,n2,g2,rfl,hg2,hat2⟩:=tK 8 rows 0 (h1++G) (by lia) s4 (by lia);refine rv e2 ?_;nofun;rw[QV];refine rv (rep1 (by lia)) ?_;refine rv (iZ (ys:=List.replicate (aB rows) (.tup (ps.map D.str))) rfl (by rw[PC,Rh];lia)) ?_;nofun;rw[htk,Qf,List.map_replicate];exact⟨G++g2,_,_,_,rfl,QE _ _ _,hG.app hg2⟩
 ·rintro δ h' ⟨G,o6,o7,o8,rfl,rfl,hG⟩;rw[PC,QT];exact q G _ _ _ hG
theorem By{ns ps:List Str}{w:Str}(hw:w∈ns)(h:MH):cw [.tup [.str w,.tup [.str "",.int 0]],.tup (ns.map D.str),.tup (ps.map D.str)] h=some (.bl true,h):=by
 rw[qQ (d:=.tup [.str w,.tup [.str "",.int 0]]) rfl];show some (D.bl (decide (w∈ns)&&fF ps "" 0),h)=_;rw[Qj hw];unfold fF;rw[show(Str.ofString ""==Str.ofString "")=true by decide+kernel];rfl
theorem qF(w:Str)(ps:List Str):0 < (wZ w ps).length:=by unfold wZ;simp only[PR,P1];lia
theorem vq(w:Str)(ps:List Str)(h:ps.length<=3):(wZ w ps).length<=1000000:=by unfold wZ;simp only[PR,P1,PC,QJ];lia
theorem Au{P:Prog}{z:Int}{H h:MH}{R:Nat}{cs:List Int}{d0 d2 d4 d5 d6 d7 d8 d11:Option D}{Q:Fl×DS×MH->Prop}(hx:∀w h,aY [aQ P,.int z,w] h=some (("NoRow":Str),h))(A:Sb 1 0 cs H (R+2) h)(xs:List D):
  (∀(h1:MH)(d10:Option D),Sb 1 0 cs H (R+2) h1->Q (.nx,[d0,some (.ob 1),d2,some (aQ P),d4,d5,d6,d7,d8,some (.int z),d10,d11],h1))->∀(d10:Option D),Rn (jD [] (gN 10) (fC (aI (ao jE (AU 10 9 3) (ks "NoRow"))) (bc (eK (.bl false))) bY) xs [d0,some (.ob 1),d2,some (aQ P),d4,d5,d6,d7,d8,some (.int z),d10,d11] h) Q:=λk d10=>by
 refine cK (λi δ h'=>∃(d10:Option D),δ=[d0,some (.ob 1),d2,some (aQ P),d4,d5,d6,d7,d8,some (.int z),d10,d11]/\h'=h) ⟨_,rfl,rfl⟩ (λ_ _ _ _ _=>rfl) ?_ ?_
 ·rintro i x δ h' hx' ⟨d10,rfl,rfl⟩;nofun;refine rv (uP (P:=P) (z:=z) (w:=x) rfl (hx x h')) ?_;nofun;refine⟨false,by ac_nf,λy=>(nomatch y),λ_=>?_⟩;nofun;exact⟨_,rfl,rfl⟩
 ·rintro δ h' ⟨d10,rfl,rfl⟩;exact k _ _ A
theorem law_true(ns:List Int)(hn:ns.length<=63):∃h',xO [.ro (ns.map D.int)] []=some (.bl true,h'):=by
 have e:Rn (xO [.ro (ns.map D.int)] []) λp=>p.1=.bl true:=by
  obtain⟨cs,ed,S0⟩:=yZ ns hn 20000 (by decide);refine bL ?_;nofun;refine rv ed ?_;nofun;refine g9 ?_;nofun;refine⟨2,rfl,by decide,by decide,?_⟩;refine cK (λi δ h=>∃(v2 v3 v4 v5 v6 v7 v8 v9 v10 v11:Option D),δ=[some (.ro (ns.map D.int)),some (.ob 1),v2,v3,v4,v5,v6,v7,v8,v9,v10,v11]/\St 1 0 cs (20000-6600*i) h/\Cl h)
   ⟨_,_,_,_,_,_,_,_,_,_,rfl,S0,PB cs⟩ (λ_ _ _ _ _=>rfl) ?_ ?_
  ·rintro i x δ h hx ⟨v2,v3,v4,v5,v6,v7,v8,v9,v10,v11,rfl,S,C⟩;have hi:i < 2:=by
    have:=(PH.mp hx).1
    simpa using this
   nofun;refine ML (R:=20000-6600*(i+1)+400) (S.le (by lia)) C λW fl odd m P h1 hm ok okp A1 C1=>?_;have hP:=FP ok okp hm;obtain⟨hS,h5⟩:=yq ok okp;have h60:eO P.aj<=60:=PY okp.ct hm;have hnm:0 < P.names.length:=by rw[okp.nm,(cN W.names).length_eq];exact ok.n1
   have hnl:=hP.nl;have hpf:(placesFrom 0 P.aj).length=eO P.aj:=cR _ _;nofun;refine Dk hP h1 (λG o6 o7 o8 hG=>?_) _ _ _;have A2:=(A1.S.more G).sb;have C2:=Cl.gl G h1 C1 hG;generalize h1++G=H at A2 C2;have hpl:(iB P.aj).length=eO P.aj:=uZ _;obtain⟨w0,rest,hw0⟩:∃w0 rest,P.names=w0::rest:=by
    cases hh:P.names with
    | nil=>rw[hh] at hnm;cases hnm
    | cons a b=>exact⟨a,b,rfl⟩
   nofun;refine rv (a:=(.tup (P.names.map D.str),H)) rfl ?_;refine rv (a:=(.str w0,H)) (by rw[hw0];exact iX (i:=0) rfl) ?_;nofun;refine du ?_;nofun;refine rv (a:=(.int (10^20),H)) rfl ?_;nofun;refine dU (R:=20000-6600*(i+1)+399) (A2.le (by lia)) (by decide) (by decide) λm1 h2 m10 m19 A3=>?_;nofun;refine⟨_,_,rfl,?_⟩;rw[PC,hpl];refine cK (λi' δ h=>∃(v9 v10:Option D),δ=[some (.ro (ns.map D.int)),some (.ob 1),some x,some (aQ P),some (.lv ((iB P.aj).map FT)),o6,o7,o8,some (.tup [.str w0,.tup [.str "",.int 0]]),v9,v10,v11]/\Sb 1 0 cs H (20000-6600*(i+1)+380+2*(4-i')) h)
    ⟨_,_,rfl,A3.le (by lia)⟩ (λ_ _ _ _ _=>rfl) ?_ ?_
   ·rintro i' y δ h' hy ⟨v9,v10,rfl,A4⟩;have hi':i' < 4:=by simpa using (PH.mp hy).1
    obtain⟨z,rfl,hz⟩:∃z,y=.int z/\(z < 0\/((placesFrom 0 P.aj).length:Int)<=z):=by
     have:=PF hy;rw[hpf];simp only[PZ,RM,SY] at this;rcases this with rfl | rfl | rfl | rfl
     ·exact⟨_,rfl,.inr (Int.le_refl _)⟩
     ·exact⟨_,rfl,.inl (by decide)⟩
     ·exact⟨_,rfl,.inr (by lia)⟩
     ·exact⟨_,rfl,.inr (by lia)⟩
    nofun;refine du ?_;nofun;refine rv (a:=(.tup (P.names.map D.str),h')) rfl ?_;nofun;refine qE (ps:=[]) (R:=20000-6600*(i+1)+380+2*(4-(i'+1))+1) (A4.le (by lia)) hnm (by lia) (by decide) λw h3 hw A5=>?_;nofun;refine vU (R:=20000-6600*(i+1)+380+2*(4-(i'+1))) A5 (.inl rfl) (qF _ _) (vq _ _ (by decide)) λy h4 _ A6=>?_;nofun;refine⟨_,_,rfl,?_⟩;refine Au (R:=20000-6600*(i+1)+380+2*(4-(i'+1))-2) (λw h=>K6 hP.fit hz w h) (A6.le (by lia)) _ (λh5 d10 A7=>?_) _;exact⟨_,_,rfl,A7.le (by lia)⟩
   rintro δ h' ⟨v9,v10,rfl,A4⟩;nofun;refine jj ?_;nofun;refine⟨_,_,_,rfl,rfl,?_⟩;have zl:zW.length=8:=by decide+kernel
   have e0:("":Str).length=0:=by decide+kernel
   have z1:zW∉P.names:=λy=>by
    rw[okp.nm] at y;have:=(ok.sn _ ((cN W.names).mem_iff.mp y)).2.1
    lia
   have z3:("":Str)∉P.names:=λy=>by
    rw[okp.nm] at y;have:=(ok.sn _ ((cN W.names).mem_iff.mp y)).1
    lia
   refine cK (λn δ h=>∃(u v9 v10 v11:Option D),δ=[some (.ro (ns.map D.int)),some (.ob 1),some x,some (aQ P),some (.lv ((iB P.aj).map FT)),o6,u,o8,some (.tup [.str w0,.tup [.str "",.int 0]]),v9,v10,v11]/\Sb 1 0 cs H (20000-6600*(i+1)+2*(60-n)) h)
    ⟨_,_,_,_,rfl,A4.le (by lia)⟩ (λ_ _ _ _ _=>rfl) ?_ ?_
   ·rintro n y δ h' hy ⟨u,v9,v10,v11,rfl,A5⟩;obtain⟨ps,hps,rfl⟩:=jx hy;have hnlt:n < eO P.aj:=by rw[<-hpl];exact(PH.mp hps).1
    obtain⟨j,k,st,r,d,lot,e1,e2,e3,e4,e5,e6⟩:=EJ hP.fit hnlt;obtain⟨m,d',f1,f2,f3⟩:=Dl P.aj 0 n _ e1;dsimp only at f1;rw[QV] at f1;subst f1;cases e2.symm.trans f2;cases hps.symm.trans f3;have hm:=PF e2;have h5d:=h5 d hm;have hp3:=(hP.dd d hm).2.1;have hlr:=dA (PF e4);have hcr:=rD (PF e4);have hcd:aB d.2.2<=eO P.aj:=kM hm;have z2:zW∉d.2.1:=λy=>by
     have:=(ok.sp _ (PF (okp.dd j d e2).2.1) _ y).2.1
     lia
    nofun;refine rv (a:=(.tup (P.names.map D.str),h')) rfl ?_;nofun;refine qE (ps:=d.2.1) (R:=20000-6600*(i+1)+2*(60-(n+1))+1) (A5.le (by lia)) hnm (by lia) (by lia) λw h3 hw A6=>?_;nofun;refine vU (R:=20000-6600*(i+1)+2*(60-(n+1))) A6 (.inl rfl) (qF _ _) (vq _ _ hp3) λy h4 hyk A7=>?_;have no:=Gh z1 z2 z3 hyk h4;have yes:=By (ns:=P.names) (ps:=d.2.1) (w:=w0) (by rw[hw0];exact .head _) h4;nofun;have two:∃q:Str,(q="NoRow"\/q="NoLock")/\(∀δ,cS [some 8,some 9,some 3] δ=[some (.tup [.str w0,.tup [.str "",.int 0]]),some (.int (n:Int)),some (aQ P)]->yW (AU 8 9 3) (ks "NoLock") δ h4=some (.str q,h4))/\(∀δ,cS [some 10,some 9,some 3] δ=[some y,some (.int (n:Int)),some (aQ P)]->AU 10 9 3 δ h4=some (.str q,h4)):=by
     by_cases big:5 < st.length+2+aS r\/60<=eO P.aj
     ·refine⟨"NoRow",.inl rfl,λδ e=>?_,λδ e=>uP e (ug hP.fit e1 (by lia) (by lia) big h4)⟩;have:=uP e (ug hP.fit e1 (by lia) (by lia) big h4);unfold yW;rw[this];rfl
     ·have w1:¬5 < st.length+2+aS r:=λy=>big (.inl y);have w2:¬60<=eO P.aj:=λy=>big (.inr y);refine⟨"NoLock",.inr rfl,λδ e=>?_,λδ e=>CT e (Ay hP.fit e1 (by lia) (by lia) w1 w2 e2 no)⟩;have:=CQ (v:=aQ (II P j k [.within (w0,("",0)) [r]] st d)) e (wm hP.fit e1 (by lia) (by lia) w1 w2 e2 yes) (Fb (lk:=(w0,(("":Str),0))) hP.fit e1 e2 e3 (by lia) (PH.mp e4).1 (by lia) (by lia) (by lia) w1 w2 yes);unfold yW;rw[this];rfl
    obtain⟨q,hq,g1,g2⟩:=two;refine rv (g1 _ rfl) ?_;nofun;refine rv (a:=(.bl false,h4)) (by rcases hq with rfl | rfl <;> ac_nf) ⟨false,rfl,λy=>(nomatch y),λ_=>?_⟩;nofun;refine rv (g2 _ rfl) ?_;nofun;refine⟨false,by rw[Q5];rfl,λy=>(nomatch y),λ_=>?_⟩;nofun;exact⟨_,_,_,_,rfl,A7⟩
   ·rintro δ h' ⟨u,v9,v10,v11,rfl,A5⟩;nofun;exact⟨_,_,_,_,_,_,_,_,_,_,rfl,A5.S.le (by lia),C2.but A5.S A5.b⟩
  ·rintro δ h ⟨v2,v3,v4,v5,v6,v7,v8,v9,v10,v11,rfl,S,C⟩;nofun;refine du ?_;nofun;refine DT (R:=100) (S.le (by simp)).sb λr m h1 hr m0 m6 A1=>?_;refine⟨_,_,rfl,?_⟩;refine cK (λi δ h'=>∃(v2 v3 v4 v5 v6 v7 v8 v9 v10 v11:Option D),δ=[some (.ro (ns.map D.int)),some (.ob 1),v2,v3,v4,v5,v6,v7,v8,v9,v10,v11]/\Sb 1 0 cs h (10*(10-i)) h')
    ⟨_,_,_,_,_,_,_,_,_,_,rfl,A1⟩ (λ_ _ _ _ _=>rfl) ?_ ?_
   ·rintro i x δ h' hx ⟨v2,v3,v4,v5,v6,v7,v8,v9,v10,v11,rfl,A2⟩;have hi:i < 2:=by simpa using (PH.mp hx).1
    obtain⟨P,z,rfl,hz⟩:∃(P:Prog)(z:Int),x=.tup [aQ P,.int z]/\∀w h,aY [aQ P,.int z,w] h=some (("NoRow":Str),h):=by
     have:=PF hx;simp only[PZ,RM,SY] at this;rcases this with rfl | rfl
     ·exact⟨_,_,rfl,Em hr⟩
     ·exact⟨_,_,rfl,D1 m0 m6⟩
    nofun;refine du ?_;nofun;refine qE (ws:=["a"]) (ps:=[]) (R:=10*(10-(i+1))+3) (A2.le (by lia)) (by decide) (by decide) (by decide) λw h3 hw A5=>?_;nofun;refine vU (R:=10*(10-(i+1))+2) A5 (.inl rfl) (qF _ _) (vq _ _ (by decide)) λy h4 _ A6=>?_;nofun;refine⟨_,_,rfl,?_⟩;refine Au (R:=10*(10-(i+1))) hz A6 _ (λh5 d10 A7=>?_) _;exact⟨_,_,_,_,_,_,_,_,_,_,rfl,A7.le (by lia)⟩
   ·rintro δ h' ⟨v2,v3,v4,v5,v6,v7,v8,v9,v10,v11,rfl,A2⟩;nofun
 obtain⟨⟨d,h'⟩,e1,rfl⟩:=e;exact⟨h',e1⟩
end Mi
open PySem PySem.W PyProof.Rows
theorem Mi.Ou:defOf Mi.view "law"=some (Hd.k8 "law" Mi.kR,[]):=by ac_nf
theorem Mi.hp:PySem.Program.theDef Mi.pw "law"=some (L2.lN Mi.kR,L2.cY Mi.kR,L2.ah Mi.kR):=by ac_nf
theorem PySem.Challenge.cw_neverstuck_k73_locks_not_put_in_holds : PySem.Challenge.rw_neverstuck_k73_locks_not_put_in.Holds := by
 refine holds_law Mi.Ik λIk=>?_;refine PySem.W.holds_open (q:=Mi.view) (loose:=["SHAPES"]) (Xt:=Mi.Xt) (XP:=XL Mi.view []) (Yf:=Mi.Yf) (Ya:=Mi.ya) (YP:=λw h=>Hd.tabAt h "SHAPES"=(Mi.ya w).1/\Hd.oW h (Mi.eX.map (·.1)) Mi.oU=(Mi.ya w).2) (N:=20000) (d:=Hd.k8 "law" Mi.kR) (kwd:=[]) Mi.left (λ_ _ e=>⟨congrArg Prod.fst e,congrArg Prod.snd e⟩) (λ_ _ _ y k=>⟨Hd.x9 k y.1,Hd.tV k y.2⟩) (λs e=>xl_of s (Qc.mp e).1) XL.keeps Mi.Ou Mi.hp (by ac_nf) (λs e=>recFacts_of (Qc.mp e).2) (by ac_nf) Ik (by decide+kernel) ⟨rfl,rfl,rfl,rfl,rfl,by decide+kernel⟩ (by w_witness2) ?_;exact Hd.JK (k:=29) (by ac_nf) (by ac_nf) ⟨rfl,by decide,by decide⟩ λw s₀ mg mb h G Y=>Mi.all_mk G.T Y.1 Y.2 Mi.law_true
