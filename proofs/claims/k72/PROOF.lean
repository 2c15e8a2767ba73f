import PyProof.Rows.All
import Wide.All
import OpenK.AllK
import Wide.FinOn
import Lean
import PyProof.EqAt
import PyProof.EqKinds
import PyProof.TupleCall
import PyProof.AttrMissHeap
import KE.KDictOf
import PyProof.ConsumeWalk
import PyProof.ZipIter
import PyProof.EnumMake
import KE.KEqDict
import KE.KDictList
import KE.KDictSum
import KE.KIsAll
import KE.KItemsList
import KE.KLam
import KE.KMinKey
import KE.KSortTup
import PyProof.CallStr
import PyProof.CollectIter
import PyProof.DictFindH
import PyProof.DictRoadsH
import PyProof.ExcArgsOwn
import PyProof.ExcAttrAll.ValueError
import PyProof.ExcBaseAll.ValueError
import PyProof.ExcClass3
import PyProof.FString
import PyProof.FString5
import PyProof.FactsAll.tuple_2
import PyProof.FactsAll.zip_1
import PyProof.ListMulRoad
import PyProof.ListRange
import PyProof.MeetsStr
import PyProof.NeKinds
import PyProof.P3Eq
import PyProof.RaisesMany
import PyProof.Rows.CatchOwn
import PyProof.Rows.OwnQ
import PyProof.Rows.Range3
import PyProof.Rows.ReprOcc
import PyProof.Rows.RuleDivmod
import PyProof.Rows.SortShell
import PyProof.Rows.StrWeight2
import PyProof.Rows.Top
import PyProof.Rows.TopTwo
import PyProof.RulesAs
import PyProof.RulesDel
import PyProof.RulesTry
import PyProof.StationsW
import PyProof.StrCalls
import PyProof.StrCalls2
import PyProof.StrCalls5
import PyProof.StrWalks
import PyProof.WalkInts
import PyProof.WalksMore
import PySem.Challenge.RW_neverstuck_k72_locks_put_in
set_option Elab.async false
set_option linter.all false
set_option maxRecDepth 100000
set_option maxHeartbeats 4000000
set_option compiler.small 0
set_option compiler.extract_closed false
set_option compiler.reuse false
noncomputable section
local macro_rules | `(tactic| ac_nf) => `(tactic| kernel_rfl)
local macro_rules | `(tactic| nofun) => `(tactic| walk_at "r")
abbrev R9:=@List.length_map
abbrev Sa:=@PySem.wpAny_bind
abbrev Sd:=@List.mem_of_getElem?
abbrev Se:=@List.getElem?_eq_some_iff
abbrev Sf:=@List.length_cons
abbrev Si:=@if_pos
abbrev Sj:=@Nat.le_refl
abbrev Sk:=@List.mem_cons_self
abbrev Sl:=@List.map_cons
abbrev Sn:=@List.length_append
abbrev So:=@List.mem_append_right
abbrev Sq:=@List.mem_cons_of_mem
abbrev Sr:=@List.mem_cons
abbrev Ss:=@PySem.Heap.get?_push_of_some
abbrev Su:=@List.map_append
abbrev Sv:=@if_neg
abbrev Sw:=@Nat.le_trans
abbrev Sx:=@List.getElem?_append_left
abbrev Sy:=@PySem.wpAny_pure
abbrev Sz:=@List.mem_singleton
abbrev SD:=@List.getElem?_append_right
abbrev SF:=@List.mem_append
abbrev SH:=@List.size_toArray
abbrev SJ:=@PySem.Heap.lt_size
abbrev SK:=@List.getElem?_map
abbrev SN:=@List.getElem?_eq_getElem
abbrev SO:=@List.length_take
abbrev SR:=@Option.map_eq_some_iff
abbrev SU:=@Bool.and_eq_true_iff
abbrev SV:=@Nat.lt_of_lt_of_le
abbrev SX:=@Nat.ne_of_lt
abbrev SY:=@List.append_assoc
abbrev S8:=@List.mem_append_left
abbrev S9:=@Nat.le_add_right
abbrev Ta:=@List.cons_append
abbrev Tb:=@decide_eq_true
abbrev Tc:=@PySem.Heap.get?_push_size
abbrev Td:=@Option.bind_some
abbrev Te:=@PySem.wpAny_mono
abbrev Tf:=@Bool.and_eq_true
abbrev Tg:=@List.getElem?_take_of_lt
abbrev Th:=@List.getElem?_set_self
abbrev Ti:=@PySem.mem_of_lookup
abbrev Tj:=@Option.map_some
abbrev Tn:=@PySem.Str.length_append
abbrev To:=@List.lookup_cons
abbrev Tp:=@Nat.zero_add
abbrev Tq:=@List.mem_map
abbrev Tr:=@List.length_range
abbrev Ts:=@List.sum_cons
abbrev Tt:=@decide_eq_false
abbrev Tu:=@List.getElem?_set_ne
abbrev Tv:=@of_decide_eq_true
abbrev Tw:=@List.append_nil
abbrev Tx:=@List.getElem?_eq_none
abbrev Tz:=@PySem.PassesOwn.never
abbrev TB:=@decide_eq_true_eq
abbrev TC:=@beq_self_eq_true
abbrev TF:=@PyProof.Rows.slot_tuple_getitem
abbrev TH:=@PySem.W.kia_one
abbrev TJ:=@Nat.min_eq_left
abbrev TL:=@Nat.add_assoc
abbrev TN:=@List.nil_append
abbrev TQ:=@List.take_length
abbrev TR:=@List.map_map
abbrev TU:=@List.replicate_succ
abbrev TV:=@List.take_append_drop
abbrev TX:=@List.map_nil
abbrev TY:=@List.length_nil
abbrev TZ:=@PySem.wpAny_newObj_type
abbrev T8:=@PySem.F.plainAttrs_list
abbrev T9:=@List.filter_cons
abbrev Ua:=@List.filterMap_cons
abbrev Ub:=@Int.emod_nonneg
abbrev Uc:=@PySem.wpAny_standAt
abbrev Ud:=@PySem.wpAny_truthy_bool
abbrev Ue:=@PySem.Heap.get?_update_other
abbrev Ug:=@Nat.lt_of_le_of_lt
abbrev Uh:=@List.length_drop
abbrev Ui:=@PySem.wpAny_field
abbrev Uj:=@Int.le_trans
abbrev Uk:=@PySem.W.hideAll_none
abbrev Ul:=@PySem.wpAny_Call_Name_kw
abbrev Um:=@Ne.symm
abbrev Uo:=@List.flatten_cons
abbrev Up:=@Int.eq_ofNat_of_zero_le
abbrev Uq:=@PySem.wpAny_holding
abbrev Ur:=@PyProof.Rows.callWith_type1
abbrev Us:=@List.take_of_length_le
abbrev Ut:=@List.drop_of_length_le
abbrev Uu:=@PySem.wpAny_callSpecial?_slot
abbrev Uv:=@Nat.lt_irrefl
abbrev Uw:=@Nat.le_of_not_lt
abbrev Ux:=@beq_iff_eq
abbrev Uy:=@List.mem_filterMap
abbrev Uz:=@Int.emod_lt_of_pos
abbrev UA:=@Bool.false_ne_true
abbrev UB:=@List.mem_iff_getElem?
abbrev UC:=@List.length_singleton
abbrev UD:=@List.length_replicate
abbrev UE:=@PySem.wpAny_execs_cons
abbrev UG:=@Nat.max_eq_left
abbrev UH:=@List.sum_append
abbrev UI:=@List.length_set
abbrev UJ:=@Bool.eq_iff_iff
abbrev UK:=@Nat.zero_le
abbrev UL:=@Nat.le_succ
abbrev UM:=@Option.isSome_iff_exists
abbrev UN:=@List.mem_map_of_mem
abbrev UO:=@PySem.F.plain_max_loop
abbrev UP:=@Nat.max_eq_right
abbrev UQ:=@List.take_left
abbrev UR:=@List.mem_range
abbrev US:=@List.all_eq_true
abbrev UT:=@PySem.F.plainAttrs_str
abbrev UU:=@Nat.le_of_lt
abbrev UW:=@List.length_eq_one_iff
abbrev UX:=@Int.lt_of_le_of_lt
abbrev UY:=@PySem.wpAny_call_entry
abbrev UZ:=@List.find?_cons
abbrev U0:=@Bool.or_eq_true
abbrev U1:=@List.any_cons
abbrev U2:=@PySem.F.slot_dict_get
abbrev U3:=@List.set_append_right
abbrev U4:=@List.reverse_cons
abbrev U5:=@List.flatMap_cons
abbrev U6:=@Int.toNat_natCast
abbrev U7:=@PySem.tupleKind_room_in1
abbrev U8:=@Array.mem_toList_iff
abbrev U9:=@PySem.F.slot_enumerate_next
abbrev Va:=@Nat.sub_self
abbrev Vb:=@List.drop_append
abbrev Vc:=@beq_eq_false_iff_ne
abbrev Vd:=@Array.length_toList
abbrev Ve:=@PySem.sizeLine_eq
abbrev Vf:=@PySem.call_meets
abbrev Vg:=@PySem.F.slot_tuple_iterator_next
abbrev Vh:=@of_decide_eq_false
abbrev Vi:=@Option.bind_eq_some_iff
abbrev Vj:=@List.length_eq_zero_iff
abbrev Vk:=@PySem.SeqAt.eqAt_reads
abbrev Vl:=@PySem.F.slot_list_append
abbrev Vm:=@PySem.F.entry_dict_get
abbrev Vn:=@Nat.le_of_lt_succ
abbrev Vo:=@List.take_add_one
abbrev Vp:=@PySem.wpAny_execs_nil
abbrev Vq:=@PySem.wpAny_getItem_str_slice
abbrev Vr:=@PySem.F.type_str_join
abbrev Vs:=@PySem.F.slot_str_join
abbrev Vt:=@Nat.succ_le_succ
abbrev Vu:=@List.map_take
abbrev Vv:=@PySem.codeAny_mono
abbrev Vw:=@List.take_append_of_le_length
abbrev Vx:=@PySem.W.hideAll_get
abbrev Vy:=@PySem.Heap.get?_update_self
abbrev Vz:=@List.flatMap_append
abbrev VA:=@Int.toNat_of_nonneg
abbrev VB:=@Array.toList_append
abbrev VC:=@if_true
abbrev VD:=@PySem.wpAny_rule
abbrev VE:=@PySem.W.of_hideAll
abbrev VF:=@PySem.F.excBase_ValueError
abbrev VG:=@Nat.max_le
abbrev VH:=@List.filterMap_map
abbrev VI:=@Array.getElem?_eq_some_iff
abbrev VJ:=@PySem.wpAny_passesOwn
abbrev VL:=@PySem.F.type_list_append
abbrev VM:=@PySem.F.args_tuple_add_2
abbrev VN:=@List.map_drop
abbrev VO:=@List.length_filterMap_le
abbrev VP:=@decide_eq_decide
abbrev VQ:=@PySem.wpAny_tryCatch
abbrev VR:=@PySem.wpAny_seqItems
abbrev VS:=@PySem.wpAny_pyIter_tuple
abbrev VT:=@PySem.Heap.size_push
abbrev VU:=@PySem.F.slot_str_split
abbrev VW:=@PySem.F.entry_tuple_add
abbrev VX:=@List.getElem?_replicate
abbrev VY:=@PySem.F.slot_tuple_add
abbrev VZ:=@Nat.ne_of_gt
abbrev V0:=@List.flatMap_singleton
abbrev V1:=@Int.ofNat_lt
abbrev V2:=@Nat.min_le_left
abbrev V3:=@List.nodup_cons
abbrev V4:=@List.foldl_cons
abbrev V5:=@PySem.wpAny_comprehension_free
abbrev V6:=@PySem.F.slot_list_extend
abbrev V7:=@List.mem_of_mem_take
abbrev V8:=@List.getElem?_of_mem
abbrev V9:=@List.forall_mem_cons
abbrev Wa:=@List.drop_zero
abbrev Wc:=@ne_true_of_eq_false
abbrev We:=@PySem.wpAny_Name
abbrev Wf:=@PySem.typeIs_str
abbrev Wg:=@List.length_reverse
abbrev Wh:=@PySem.post_val_or_str
abbrev Wi:=@PySem.codeAny_builtin
abbrev Wj:=@if_false
abbrev Wk:=@PySem.wpAny_newFunctionEnv
abbrev Wl:=@PySem.wpAny_letGo
abbrev Wm:=@PySem.Around.under_plainId
abbrev Wn:=@Option.isSome_map
abbrev Wo:=@Nat.lt_trans
abbrev Wq:=@Nat.le_succ_of_le
abbrev Wr:=@Nat.le_of_eq
abbrev Ws:=@Nat.add_left_comm
abbrev Wt:=@Nat.add_comm
abbrev Wu:=@List.take_sublist
abbrev Wv:=@List.nodup_append
abbrev Ww:=@List.ext_getElem?
abbrev Wx:=@PySem.wpAny_attempt
abbrev Wy:=@PySem.plainId_quiet
abbrev Wz:=@PySem.F.args_str_split_2
abbrev WA:=@PySem.Calls.spliced_cons
abbrev WB:=@Nat.le_add_left
abbrev WC:=@List.of_mem_zip
abbrev WD:=@PySem.wpAny_loadPart_at
abbrev WE:=@PySem.call_meetsIn
abbrev WG:=@PySem.F.entry_str_split
abbrev WH:=@PySem.Calls.spliced_nil
abbrev WI:=@List.take_succ
abbrev WJ:=@PySem.F.slot_dict_getitem
abbrev WK:=@List.mem_or_eq_of_mem_set
abbrev WL:=@List.mem_of_find?_eq_some
abbrev WM:=@PySem.noFill_tuple_add
abbrev WN:=@PySem.F.type_list_extend
abbrev WO:=@PySem.F.entry_max_loop
abbrev WQ:=@List.Perm.eq_of_pairwise
abbrev WR:=@decide_eq_false_iff_not
abbrev WS:=@PySem.F.slot_list_index
abbrev WT:=@PySem.F.slot_list_count
abbrev WU:=@PySem.F.args_dict_get_3
abbrev WV:=@PySem.F.args_dict_get_2
abbrev WW:=@Option.join_eq_some_iff
abbrev WX:=@List.pairwise_mergeSort
abbrev WY:=@List.getElem?_cons_succ
abbrev WZ:=@PySem.wpAny_updateSeq
abbrev W0:=@PySem.W.cellsFrom_some
abbrev W2:=@PySem.F.args_tuple_iterator_next_1
abbrev W3:=@PyProof.Rows.split_pos
abbrev W4:=@Nat.sub_zero
abbrev W5:=@Nat.add_zero
abbrev W6:=@List.sum_nil
abbrev W7:=@Int.ediv_one
abbrev W8:=@PySem.F.entry_tuple_iterator_next
abbrev W9:=@PyProof.Rows.assignInOrder_cons
abbrev Xa:=@List.filterMap_eq_map
abbrev Xb:=@Array.mem_of_getElem?
abbrev Xc:=@PySem.wpAny_newFunctionEnv_cells
abbrev Xd:=@PySem.wpAny_bindName
abbrev Xe:=@PySem.Calls.Name_function_global
abbrev Xf:=@Nat.pow_le_pow_right
abbrev Xg:=@List.mergeSort_perm
abbrev Xh:=@List.map_congr_left
abbrev Xi:=@List.getElem?_range
abbrev Xj:=@PySem.seq_tuple_add
abbrev Xk:=@PySem.W.kitx_tuple
abbrev Xl:=@PySem.W.callWith_K
abbrev Xm:=@List.pairwise_cons
abbrev Xo:=@List.findIdx?_cons
abbrev Xp:=@Bool.false_eq_true
abbrev Xq:=@Array.find?_toList
abbrev Xs:=@Array.all_eq_true'
abbrev Xu:=@PySem.W.kitx_list
abbrev Xv:=@PySem.W.kitx_dict
abbrev Xw:=@PySem.F.args_enumerate_next_1
abbrev Xx:=@Nat.lt_succ_of_lt
abbrev Xy:=@List.map_inj_left
abbrev Xz:=@List.getElem?_inj
abbrev XA:=@List.any_eq_false
abbrev XB:=@Bool.not_eq_true'
abbrev XD:=@Array.isEmpty_iff
set_option hygiene false
set_option hygiene true
abbrev FR:=PySem.W.Frag
namespace Hd
open PySem PySem.W PySem.Spec PyProof.Rows
noncomputable def BP:List Value->Option (List Int)
 | []=>some []
 | .int i _::r=>(BP r).map λis=>i::is
 | _=>none
noncomputable def B2(v:Value)(t:String):Bool:=match v with
 | .type s=>decide (s=t)
 | _=>false
noncomputable def rowAt(h:Heap)(e:DictEntry):Option (Str×Int×List Int):=match e.key with
 | .str x _=>match e.val with
  | .ref t=>match h.get? t with
   | some u=>if B2 u.cls "tuple"&&u.dict.isNone then(match u.data with
     | .seq its _=>if its.size<=100 then(BP its.toList).map λis=>(x,e.hash,is) else none
     | _=>none) else none
   | none=>none
  | _=>none
 | _=>none
noncomputable def k7(h:Heap):List DictEntry->Option (List (Str×Int×List Int))
 | []=>some []
 | e::r=>(rowAt h e).bind λx=>(k7 h r).map λxs=>x::xs
noncomputable def tabAt(h:Heap)(nm:Str):Option (List (Str×Int×List Int)):=match h.nsMap mainGlobals nm with
 | some (.ref a)=>if a==sysModules then none else(match h.get? a with
  | some o=>if B2 o.cls "dict"&&o.dict.isNone&&decide (o.slots=#[]) then(match o.data with
    | .dict es _=>k7 h es.toList
    | _=>none) else none
  | none=>none)
 | _=>none
noncomputable def vp(h:Heap)(ns:Addr)(name:Str):Option (Option Value):=match h.get? ns with
 | some ⟨_,_,.dict es _,_⟩=>(match es.toList.find? (·.key.isStr name) with
   | some e=>some (some e.val)
   | none=>if es.toList.any (·.refKey) then none else some none)
 | _=>none
noncomputable def jG(h:Heap)(name:Str):Value->Option (Option Value)
 | .type n=>some (fastBuiltinOwn n name)
 | .ref a=>(match h.get? a with
   | some ⟨_,_,.cls cd,_⟩=>vp h cd.ns name
   | _=>none)
 | _=>some none
noncomputable def cH(h:Heap)(name:Str):List Value->Option (Option Value)
 | []=>some none
 | c::r=>match jG h name c with
  | some (some v)=>some (some v)
  | some none=>cH h name r
  | none=>none
noncomputable def clsAt(h:Heap)(c:Str):Option (Addr×ClassData):=match h.nsMap mainGlobals c with
 | some (.ref C)=>match h.get? C with
  | some ⟨.type "type",_,.cls cd,_⟩=>some (C,cd)
  | _=>none
 | _=>none
noncomputable def isAt(h:Heap)(cd:ClassData)(n:Str):Option Bool:=(clsAt h n).map λp=>cd.mro.contains (.ref p.1)
noncomputable def kT(h:Heap)(ns:List Str)(c:Str):Option (List (Option Bool)):=(clsAt h c).bind λp=>
 if(cH h "__getattribute__" p.2.mro==some (some (.builtin "BaseException.__getattribute__"))&&cH h "__getattr__" p.2.mro==some none&&cH h "__class__" p.2.mro==some (some (.builtin "object.__class__"))&&
  p.2.mro.contains (.type "object")&&p.2.mro.contains (.type "BaseException")&&p.2.mro.contains (.type "ValueError")&&p.2.mro.contains (.ref p.1))=true then some (ns.map (isAt h p.2)) else none
noncomputable def qw(h:Heap)(cs ns:List Str):List (Option (List (Option Bool))):=cs.map (kT h ns)
theorem ID(row:String)(h0:∀w:World,(fencedOpening treeTable p w N).map (λs₀=>(topFrom treeTable p (w.withFollow row false) N s₀).map (λs=>(openSeen q loose (importedModules p.main.body) Xt true s,Yf s)))=some (some (openGood q loose,Ya (w.withFollow row false))))(h1:∀w:World,(fencedOpening treeTable p w N).map (λs₀=>(topFrom treeTable p (w.withFollow row true) N s₀).map (λs=>(openSeen q loose (importedModules p.main.body) Xt true s,Yf s)))=some (some (openGood q loose,Ya (w.withFollow row true)))):LeftO p q loose Xt Yf Ya N true:=λw=>by
 obtain⟨s₀,a,b0⟩:=SR.mp (h0 w);obtain⟨s₁,a1,b1⟩:=SR.mp (h1 w);have e:=World.withFollow_self w row;unfold openEnds;cases hb:w.params.followText row <;> rw[hb] at e
 ·rw[a];rw[e] at b0;exact b0
 ·rw[a1];rw[e] at b1;exact b1
end Hd
namespace Mi
open PySem
abbrev pw:Program:=PySem.Challenge.pw_neverstuck_k72_locks_put_in
noncomputable def top(i:Nat):Stmt:=pw.main.body.getD i (.Pass ⟨0,0,0,0⟩)
noncomputable def eX:List (Str×List Int):=[("say",[2,0]),("call",[3,0]),("within",[2,1]),("all",[2,1]),("ask",[2,2]),("by",[3,3]),("either",[1,2]),("again",[1,1])]
noncomputable def gz:List (Str×List Str):=[("NoRow",["NoRow","StuckError","ValueError"]),("NoLock",["NoLock","StuckError","ValueError"])]
noncomputable def qq:List Str:=["StuckError","NoStep","NoRow","NoLock","NoText","NoLine"]
noncomputable def tJ:List Str:=["NoRow","NoLock"]
noncomputable def view:Program:={pw with main:={pw.main with body:=[top 1,top 2,top 3,top 4,top 5,top 6,top 8,top 9,top 10,top 11,top 12,top 14,top 15,top 16,top 17,top 18,top 19,top 21,top 22,top 23,top 24,top 25,top 27,top 28,top 29,top 30,top 31,top 32,top 33,top 34,top 35,top 36,top 37,top 38,top 39,top 40,top 41,top 42,top 43,top 44,top 45,top 46,top 47,top 48,top 49,top 50,top 51,top 52,top 53]}}
end Mi
local macro_rules | `(tactic| walk_at "s") => `(tactic| exact⟨rfl, rfl, rfl, by decide +kernel, rfl, by decide +kernel, by decide +kernel⟩)
namespace Mi
open PySem PySem.W PyProof.Rows
abbrev ext:List (Option (List (Option Bool))):=gz.map λp=>some (qq.map λn=>some (decide (n∈p.2)))
abbrev ya(w:World):=(some (eX.map λx:Str×List Int=>(x.1,hashStr w x.1,x.2)),ext)
abbrev Xt:Shared->Bool:=λs=>xlAt view [] s&&recOk (RowW.records (OpenRow.toRowW PySem.Challenge.rw_neverstuck_k72_locks_put_in.row)) s
abbrev Yf:Shared->Option (List (Str×Int×List Int))×List (Option (List (Option Bool))):=λs=>(Hd.tabAt s.heap "SHAPES",Hd.qw s.heap (gz.map (·.1)) qq)
theorem OO(w:World):(fencedOpening treeTable pw w 20000).map (λs₀=>(topFrom treeTable pw (w.withFollow "special-get-raises" false) 20000 s₀).map (λs=>(openSeen view (["SHAPES"]:List Str) (importedModules pw.main.body) Xt true s,Yf s)))=some (some (openGood view (["SHAPES"]:List Str),(ya) (w.withFollow "special-get-raises" false))):=by ac_nf
theorem ON(w:World):(fencedOpening treeTable pw w 20000).map (λs₀=>(topFrom treeTable pw (w.withFollow "special-get-raises" true) 20000 s₀).map (λs=>(openSeen view (["SHAPES"]:List Str) (importedModules pw.main.body) Xt true s,Yf s)))=some (some (openGood view (["SHAPES"]:List Str),(ya) (w.withFollow "special-get-raises" true))):=by ac_nf
theorem left:LeftO pw view (["SHAPES"]:List Str) Xt Yf (ya) 20000:=Hd.ID "special-get-raises" OO ON
theorem KO:PySem.Challenge.rw_neverstuck_k72_locks_put_in.wellSaid=true:=by
 unfold OpenLaw.wellSaid
 repeat(with_reducible refine look_both ?_ (by decide+kernel))
 unfold OpenRow.wellSaid
 repeat(with_reducible refine look_both ?_ (by decide+kernel))
 unfold OpenRow.partSaid
 repeat(with_reducible refine look_both ?_ (by decide+kernel))
 unfold looksOpen
 repeat(with_reducible refine look_both ?_ (by decide+kernel))
 decide+kernel
end Mi
theorem b7{α:Type}{p:α}{C:Prop}(h:none=some p):C:=nomatch h
namespace L2
open PySem PySem.Spec PyProof.Rows
abbrev Key:=Sum Int Str
noncomputable def vB:Key->Value->Bool
 | .inl k,v=>Value.isInt k v
 | .inr x,v=>Value.isStrOf x v
noncomputable def L4(w:World):Key->Int
 | .inl k=>hashInt k
 | .inr x=>hashStr w x
theorem cA:∀{k:Key} {v:Value},vB k v=true->(∃i t,k=Sum.inl i/\v=Value.int i t)\/(∃x t,k=Sum.inr x/\v=Value.str x t)
 | .inl i,v,h=>by
  obtain⟨t,e⟩:=Value.isInt_shape (k:=i) (v:=v) h;exact .inl ⟨i,t,rfl,e⟩
 | .inr x,v,h=>by
  obtain⟨t,e⟩:=Value.isStrOf_shape (x:=x) (v:=v) h;exact .inr ⟨x,t,rfl,e⟩
theorem C7(i:Int)(t:Tok):vB (.inl i) (.int i t)=true:=by simp[vB,Value.isInt]
theorem C6(x:Str)(t:Tok):vB (.inr x) (.str x t)=true:=by simp[vB,Value.isStrOf]
theorem L3(a b:Int):decide ((Sum.inl a:Key)=Sum.inl b)=(a==b):=by
 by_cases e:a=b
 ·subst e;simp
 ·have h:¬(Sum.inl a:Key)=Sum.inl b:=λq=>e (Sum.inl.inj q);rw[Tt h];exact(Vc.mpr e).symm
theorem LX(a b:Str):decide ((Sum.inr a:Key)=Sum.inr b)=decide (a=b):=by
 by_cases e:a=b
 ·subst e;simp
 ·have h:¬(Sum.inr a:Key)=Sum.inr b:=λq=>e (Sum.inr.inj q);rw[Tt h,Tt e]
theorem LZ(a:Int)(b:Str):decide ((Sum.inl a:Key)=Sum.inr b)=false:=Tt (λq=>nomatch q)
theorem LY(a:Str)(b:Int):decide ((Sum.inr a:Key)=Sum.inl b)=false:=Tt (λq=>nomatch q)
noncomputable def bX(prog:Program)(w:World):PySem.KeyKind prog w Key where
 is:=vB
 hash:=L4 w
 inj:=λv a b ha hb=>by
  rcases cA ha with⟨i,t,rfl,rfl⟩ |⟨x,t,rfl,rfl⟩
  ·rcases cA hb with⟨j,u,rfl,e⟩ |⟨y,u,rfl,e⟩
   ·injection e with e1 _;rw[e1]
   ·exact nomatch e
  ·rcases cA hb with⟨j,u,rfl,e⟩ |⟨y,u,rfl,e⟩
   ·exact nomatch e
   ·injection e with e1 _;rw[e1]
 byValue:=λk v h=>by
  rcases cA h with⟨i,t,rfl,rfl⟩ |⟨x,t,rfl,rfl⟩ <;> rfl
 pyHash:=λhv h=>by
  rcases cA hv with⟨i,t,rfl,rfl⟩ |⟨x,t,rfl,rfl⟩
  ·exact wpAny_pyHash_int h
  ·exact wpAny_pyHash_str h
 eqBool:=λhu hv h=>by
  rcases cA hu with⟨i,t,rfl,rfl⟩ |⟨x,t,rfl,rfl⟩
  ·rcases cA hv with⟨j,u,rfl,rfl⟩ |⟨y,u,rfl,rfl⟩
   ·rw[L3] at h;exact wpAny_eqBool_int h
   ·rw[LZ] at h;exact SeqAt.EqAt.int_str i t y u _ _ _ _ h
  ·rcases cA hv with⟨j,u,rfl,rfl⟩ |⟨y,u,rfl,rfl⟩
   ·rw[LY] at h;exact SeqAt.EqAt.str_int x t j u _ _ _ _ h
   ·rw[LX] at h;exact wpAny_eqBool_str h
 «strs»:=λk x t v h=>by
  rcases cA h with⟨i,u,rfl,e⟩ |⟨y,u,rfl,e⟩
  ·exact nomatch e
  ·injection e with e1 _
   subst e1;cases v <;> rfl
theorem yP(prog:Program)(w:World)(i:Int)(t:Tok):(bX prog w).is (.inl i) (.int i t)=true:=C7 i t
theorem yO(prog:Program)(w:World)(x:Str)(t:Tok):(bX prog w).is (.inr x) (.str x t)=true:=C6 x t
inductive V where
 | cq | bl (b:Bool) | int (i:Int) | str (x:Str) | byt (b:Array UInt8) | M7 (b:UInt64) | ref (a:Addr) | ty (n:String)
 deriving DecidableEq
def RelV:V->Value->Prop
 | .cq,u=>u=Value.none
 | .bl b,u=>u=Value.bool b
 | .int i,u=>∃t,u=Value.int i t
 | .str x,u=>∃t,u=Value.str x t
 | .byt b,u=>∃t,u=Value.bytes b t
 | .M7 b,u=>∃t,u=Value.float b t
 | .ref a,u=>u=Value.ref a
 | .ty n,u=>u=Value.type n
abbrev Vals:List V->List Value->Prop:=Paired RelV
theorem Vals.length(r:Vals xs us):xs.length=us.length:=Paired.length r
theorem Vals.get:∀{xs:List V} {us:List Value} {i:Nat} {x:V},Vals xs us->xs[i]?=some x->∃u,us[i]?=some u/\RelV x u
 | _,_,_,_,.nil,e=>by simp at e
 | _,_,0,_,.cons r _,e=>by simp at e;subst e;exact⟨_,rfl,r⟩
 | _,_,i+1,x,.cons _ t,e=>by
  obtain⟨u,h1,h2⟩:=Vals.get (i:=i) (x:=x) t (by simpa using e);exact⟨u,by simpa using h1,h2⟩
theorem Vals.set(r:RelV x u):∀{xs:List V} {us:List Value} (i:Nat),Vals xs us->Vals (xs.set i x) (us.set i u)
 | _,_,_,.nil=>.nil
 | _,_,0,.cons _ t=>.cons r t
 | _,_,i+1,.cons q t=>.cons q (Vals.set r i t)
theorem Vals.append{xs ys:List V}{us ws:List Value}(a:Vals xs us)(s:Vals ys ws):Vals (xs++ys) (us++ws):=by
 induction a with
 | nil=>exact s
 | cons r t ih=>exact .cons r ih
theorem Vals.take:∀{xs:List V} {us:List Value} (n:Nat),Vals xs us->Vals (xs.take n) (us.take n)
 | _,_,0,_=>.nil
 | _,_,_+1,.nil=>.nil
 | _,_,n+1,.cons r t=>.cons r (Vals.take n t)
theorem Vals.drop:∀{xs:List V} {us:List Value} (n:Nat),Vals xs us->Vals (xs.drop n) (us.drop n)
 | _,_,0,r=>r
 | _,_,_+1,.nil=>.nil
 | _,_,n+1,.cons _ t=>Vals.drop n t
def oY:Option V->Option Value->Prop
 | some v,some u=>RelV v u
 | none,none=>True
 | _,_=>False
def KV{κ:Type}:List (κ×V)->List (κ×Value)->Prop:=Paired λ(p:κ×V)(q:κ×Value)=>p.1=q.1/\RelV p.2 q.2
noncomputable def kV:Key->V
 | .inl i=>.int i
 | .inr x=>.str x
inductive HO where
 | lst (xs:List V)
 | tup (xs:List V)
 | dK (kvs:List (Key×V)) | dT (kvs:List (List Key×V))
 | set (S:Int->Bool) (n:Nat)
 | ins (C dx:Addr) (fs:List (Str×V))
 | own (x:Addr)
 | xd (fs:List (Str×V))
 | met (f x:Addr)
 | zF (lo hi:Int)
 | lQ (o:Obj) (u:HO)
 | Jw (ps:Array Value)
 | ext (φ:Heap->Prop)
 | BU (φ:World->Heap->Prop)
 | tb
abbrev Hp:=Addr->Option HO
noncomputable def upd(H:Hp)(a:Addr)(o:HO):Hp:=λb=>if b=a then some o else H b
theorem aO:upd H a o a=some o:=by unfold upd;rw[Si rfl]
theorem az(h:b≠a):upd H a o b=H b:=by unfold upd;rw[Sv h]
theorem OA{H:Hp}{a b:Addr}{o u:HO}(h:H a=some o)(h':H b=some u)(d:o≠u):a≠b:=by
 intro e;subst e;rw[h] at h';exact d (Option.some.inj h')
theorem aP{H:Hp}{a b:Addr}{o:HO}(h:H a=some o)(h':H b=none):a≠b:=by
 intro e;subst e;rw[h] at h';cases h'
def zB(h:Heap)(a:Addr)(items:Array Value):Prop:=∃o,h.get? a=some o/\o.cls=.type "tuple"/\(∃n,o.data=.seq items n)/\o.dict=none
theorem zB.tup(x:zB h a items):IsTup h a items:=let⟨o,e,c,d,_⟩:=x;⟨o,e,c,d⟩
theorem zB.new(h:Heap)(items:Array Value):zB (h.push {cls:=.type "tuple",data:=.seq items}) h.objs.size items:=⟨_,Tc _ rfl,rfl,⟨_,rfl⟩,rfl⟩
section
variable (P:Program) (w:World)
def bS(H:Hp)(h:Heap)(a:Addr):HO->Prop
 | .lst xs=>xs.length<=sizeLine/\∃(its:List Value)(n:Nat),Vals xs its/\h.get? a=some {cls:=.type "list",data:=.seq its.toArray n}
 | .tup xs=>xs.length<=sizeLine/\∃its:List Value,Vals xs its/\zB h a its.toArray
 | .dK kvs=>kvs.length<=sizeLine/\(a==sysModules)=false/\∃vs,KV kvs vs/\h.DictOf (bX P w) a vs
 | .dT kvs=>kvs.length<=sizeLine/\(a==sysModules)=false/\∃xs:List (List Key×Addr×Value),
   Paired (λ(p:List Key×V)(q:List Key×Addr×Value)=>p.1=q.1/\H q.2.1=some (.tup (p.1.map kV))/\RelV p.2 q.2.2) kvs xs/\
   ∃o es ep,h.get? a=some o/\o.ExactDict/\o.data=.dict es ep/\es.toList=xs.map (entryOfKey (tupleKind (bX P w)))/\(xs.map (·.1)).Nodup
 | .set S n=>h.SetOf (intKind P w) a S n
 | .ins C dx fs=>H dx=some (.own a)/\fs.length<=1000/\dx≠a/\h.get? a=some (PySem.W.instObj C dx)/\
   ∃mA,h.Ns1 dx mA/\(∀f,oY (fs.lookup f) (mA f))/\PySem.Within mA (fs.map (·.1))
 | .own _=>∃o,h.get? a=some o
 | .xd fs=>∃mA,h.Ns1 a mA/\∀f,oY (fs.lookup f) (mA f)
 | .zF lo hi=>∃t u v,h.get? a=some {cls:=.type "range",data:=.fields #[.int lo t,.int hi u,.int 1 v]}
 | .lQ o u=>h.get? a=some o/\bS H h a u
 | .Jw ps=>h.get? a=some {cls:=.none,data:=.fields ps}
 | .met f x=>h.get? a=some (PySem.W.methodObj (.ref f) (.ref x))
 | .ext φ=>φ h/\(∃o,h.get? a=some o)/\∀h1 h2:Heap,φ h1->(∀o,h1.get? a=some o->h2.get? a=some o)->φ h2
 | .BU φ=>φ w h/\(∃o,h.get? a=some o)/\∀h1 h2:Heap,φ w h1->(∀o,h1.get? a=some o->h2.get? a=some o)->φ w h2
 | .tb=>∃ps:Array Value,h.get? a=some {cls:=.none,data:=.fields ps}/\TriplesOk ps.toList/\∀pos c,codeAmong pos ps.toList=some c->∃c' oc vs q t,c=.ref c'/\H c'=some (.lQ oc (.own a))/\oc.data=.fields vs/\vs[1]?=some (.str q t)
def jT(H:Hp)(h:Heap):Prop:=∀a o,H a=some o->bS P w H h a o
end
theorem bS.lt(x:bS P w H h a o):a < h.objs.size:=by
 cases o with
 | lst xs=>obtain⟨_,_,_,_,e⟩:=x;exact SJ e
 | tup xs=>obtain⟨_,_,_,p⟩:=x;exact p.tup.lt
 | dK kvs=>obtain⟨_,_,_,_,o,_,_,e,_⟩:=x;exact SJ e
 | dT kvs=>obtain⟨_,_,_,_,o,_,_,e,_⟩:=x;exact SJ e
 | set S n=>obtain⟨o,_,_,_,e,_⟩:=x;exact SJ e
 | ins C dx fs=>obtain⟨_,_,_,e,_⟩:=x;exact SJ e
 | own y=>obtain⟨_,e⟩:=x;exact SJ e
 | xd fs=>obtain⟨_,⟨_,_,_,e,_⟩,_⟩:=x;exact SJ e
 | zF lo hi=>obtain⟨_,_,_,e⟩:=x;exact SJ e
 | lQ ob u=>obtain⟨e,_⟩:=x;exact SJ e
 | Jw ps=>exact SJ (show h.get? a=some _ from x)
 | met f y=>exact SJ (show h.get? a=some _ from x)
 | ext φ=>obtain⟨_,⟨_,e⟩,_⟩:=x;exact SJ e
 | BU φ=>obtain⟨_,⟨_,e⟩,_⟩:=x;exact SJ e
 | tb=>obtain⟨_,e,_⟩:=x;exact SJ e
theorem Paired.OF{α β:Type}{F G:α->β->Prop}{l₁:List α}{l₂:List β}(a:Paired F l₁ l₂)(f:∀a b,F a b->G a b):Paired G l₁ l₂:=by
 induction a with
 | nil=>exact .nil
 | cons r t ih=>exact .cons (f _ _ r) ih
theorem bS.og(x:bS P w H h a o)(k:∀b u,(b=a\/H b=some (.own a))->h.get? b=some u->h'.get? b=some u)
  (ho:∀b,H b=some (.own a)->H' b=some (.own a)) (ht:∀b xs,H b=some (.tup xs)->H' b=some (.tup xs)) (hf:∀b o,H b=some (.lQ o (.own a))->H' b=some (.lQ o (.own a)):=by exactλ_ _ q=>q):bS P w H' h' a o:=by
 induction o with
 | lst xs=>obtain⟨z,its,n,r,e⟩:=x;exact⟨z,its,n,r,k _ _ (.inl rfl) e⟩
 | tup xs=>obtain⟨z,its,r,ob,e,c⟩:=x;exact⟨z,its,r,ob,k _ _ (.inl rfl) e,c⟩
 | dK kvs=>obtain⟨z,y,vs,r,ob,es,ep,e,c⟩:=x;exact⟨z,y,vs,r,ob,es,ep,k _ _ (.inl rfl) e,c⟩
 | dT kvs=>
  obtain⟨z,y,xs,r,ob,es,ep,e,c⟩:=x;exact⟨z,y,xs,Paired.OF r λp q z=>⟨z.1,ht _ _ z.2.1,z.2.2⟩,ob,es,ep,k _ _ (.inl rfl) e,c⟩
 | set S n=>obtain⟨ob,es,ep,t,e,c⟩:=x;exact⟨ob,es,ep,t,k _ _ (.inl rfl) e,c⟩
 | ins C dx fs=>
  obtain⟨d,z,ne,e,mA,⟨od,es,ep,e2,c⟩,r⟩:=x;exact⟨ho _ d,z,ne,k _ _ (.inl rfl) e,mA,⟨od,es,ep,k _ _ (.inr d) e2,c⟩,r⟩
 | own y=>obtain⟨ob,e⟩:=x;exact⟨ob,k _ _ (.inl rfl) e⟩
 | xd fs=>obtain⟨mA,⟨od,es,ep,e,c⟩,r⟩:=x;exact⟨mA,⟨od,es,ep,k _ _ (.inl rfl) e,c⟩,r⟩
 | zF lo hi=>obtain⟨t,u,v,e⟩:=x;exact⟨t,u,v,k _ _ (.inl rfl) e⟩
 | lQ ob u ih=>obtain⟨e,q⟩:=x;exact⟨k _ _ (.inl rfl) e,ih q⟩
 | Jw ps=>
  have e:h.get? a=some {cls:=.none,data:=.fields ps}:=x;show h'.get? a=some {cls:=.none,data:=.fields ps};exact k a _ (.inl rfl) e
 | met f y=>
  have e:h.get? a=some (PySem.W.methodObj (.ref f) (.ref y)):=x;show h'.get? a=some (PySem.W.methodObj (.ref f) (.ref y));exact k a _ (.inl rfl) e
 | ext φ=>obtain⟨p,⟨o,e⟩,st⟩:=x;exact⟨st _ _ p λo q=>k _ _ (.inl rfl) q,⟨o,k _ _ (.inl rfl) e⟩,st⟩
 | BU φ=>obtain⟨p,⟨o,e⟩,st⟩:=x;exact⟨st _ _ p λo q=>k _ _ (.inl rfl) q,⟨o,k _ _ (.inl rfl) e⟩,st⟩
 | tb=>
  obtain⟨ps,e,t,f⟩:=x;exact⟨ps,k _ _ (.inl rfl) e,t,λpos c ec=>let⟨c',oc,vs,q,tk,e1,e2,r⟩:=f pos c ec;⟨c',oc,vs,q,tk,e1,hf _ _ e2,r⟩⟩
theorem jT.lt(x:jT P w H h)(e:H a=some o):a < h.objs.size:=(x a o e).lt
theorem jT.fresh(x:jT P w H h)(e:h.objs.size<=a):H a=none:=by
 cases q:H a with
 | none=>rfl
 | some u=>exact absurd (SV (x.lt q) e) (Uv _)
theorem jT.kept(x:jT P w H h)(k:∀b u,h.get? b=some u->h'.get? b=some u):jT P w H h':=λa o e=>
 (x a o e).og (λb u _ q=>k b u q) (λ_ q=>q) λ_ _ q=>q
theorem jT.laid(x:jT P w H h)(k:∀b u,h.get? b=some u->h'.get? b=some u)(hp:h.objs.size<=a)(new:bS P w (upd H a o) h' a o):jT P w (upd H a o) h':=λb u e=>by
 have hn:=x.fresh hp
 by_cases hb:b=a
 ·subst hb;rw[aO] at e;cases e;exact new
 ·rw[az hb] at e;exact(x b u e).og (λc v _ q=>k c v q) (λc q=>by rw[az (aP q hn)];exact q) (λc xs q=>by rw[az (aP q hn)];exact q) λc xs q=>by rw[az (aP q hn)];exact q
def Rd(H:Hp)(a:Addr)(u:HO):Prop:=H a=some u\/∃o,H a=some (.lQ o u)
theorem Rd.ok(r:Rd H a u)(x:jT P w H h):bS P w H h a u:=by
 rcases r with r |⟨o,r⟩
 ·exact x a u r
 ·obtain⟨_,q⟩:=x a _ r;exact q
def Pz:Option HO->Prop
 | some (.lst _)=>True
 | some (.dK _)=>True
 | some (.dT _)=>True
 | some (.set _ _)=>True
 | some (.ins _ _ _)=>True
 | some (.ext _)=>True
 | some (.BU _)=>True
 | _=>False
theorem jT.write(ok:jT P w H h)(mu:Pz (H x))(he:e=x\/H e=some (.own x))(k:∀b u,b≠e->h.get? b=some u->h'.get? b=some u)(heo:∃u,h'.get? e=some u)
  (new:bS P w (upd H x o') h' x o'):jT P w (upd H x o') h':=λb u q=>by
 have nown:∀c y,H c=some (.own y)->c≠x:=λc y r z=>by subst z;rw[r] at mu;exact mu
 have ntup:∀c xs,H c=some (.tup xs)->c≠x:=λc xs r z=>by subst z;rw[r] at mu;exact mu
 by_cases hb:b=x
 ·subst hb;rw[aO] at q;cases q;exact new
 ·rw[az hb] at q
  by_cases hbe:b=e
  ·have q':H b=some (.own x):=by
    rcases he with z | z
    ·exact absurd (hbe.trans z) hb
    ·rw[hbe];exact z
   rw[q] at q';cases q';obtain⟨v,hv⟩:=heo;exact⟨v,by rw[hbe];exact hv⟩
  ·refine(ok b u q).og (λc v hc r=>k c v ?_ r) (λc r=>by rw[az (nown c b r)];exact r) (λc xs r=>by rw[az (ntup c xs r)];exact r) λc o r=>by rw[az (λz=>by subst z;rw[r] at mu;exact mu)];exact r
   rcases hc with rfl | hc
   ·exact hbe
   ·rintro rfl;rcases he with z | z
    ·exact nown c b hc z
    ·rw[hc] at z;cases z;exact hb rfl
structure Un(fs ex:List Addr)(H H':Hp)(h h':Heap):Prop where
 keep:∀b o,h.get? b=some o->H b=none->b∉fs->b∉ex->h'.get? b=some o
 slot:∀b o,h.get? b=some o->H b=none->b∈fs->b∉ex->∃sl,h'.get? b=some {o with slots:=sl}
 free:∀b o,h.get? b=some o->H b=none->b∉ex->H' b=none
 there:∀b o,h.get? b=some o->b∉ex->∃o',h'.get? b=some o'
 nX:∀b xs,H b=some (.tup xs)->H' b=some (.tup xs)
 ng:∀b o u,H b=some (.lQ o u)->H' b=some (.lQ o u)
 nY:∀b ps,H b=some (.Jw ps)->∃more,H' b=some (.Jw (ps++more))
theorem Un.any(u:Un fs ex H H1 h h1)(q:h.get? b=some ob)(n:H b=none)(hx:b∉ex):∃sl,h1.get? b=some {ob with slots:=sl}:=by
 by_cases hb:b∈fs
 ·exact u.slot b ob q n hb hx
 ·exact⟨ob.slots,u.keep b ob q n hb hx⟩
theorem Un.kept(k:∀b u,h.get? b=some u->h'.get? b=some u):Un fs ex H H h h':=
 ⟨λb ob q _ _ _=>k b ob q,λb ob q _ _ _=>⟨ob.slots,k b ob q⟩,λ_ _ _ n _=>n,λb ob q _=>⟨ob,k b ob q⟩,λ_ _ q=>q,λ_ _ _ q=>q,λ_ ps q=>⟨#[],by rw[q];simp⟩⟩
theorem Un.refl:Un fs ex H H h h:=Un.kept λ_ _ q=>q
theorem Un.laid(k:∀b u,h.get? b=some u->h'.get? b=some u)(hp:h.objs.size<=a)(hn:H a=none):Un fs ex H (upd H a o) h h' where
 keep:=λb u q _ _ _=>k b u q
 slot:=λb u q _ _ _=>⟨u.slots,k b u q⟩
 free:=λb u q n _=>by rw[az (SX (SV (SJ q) hp))];exact n
 there:=λb u q _=>⟨u,k b u q⟩
 nX:=λb xs q=>by rw[az (aP q hn)];exact q
 ng:=λb u xs q=>by rw[az (aP q hn)];exact q
 nY:=λb ps q=>⟨#[],by rw[az (aP q hn),q];simp⟩
theorem Un.write(mu:Pz (H x))(he:e=x\/H e=some (.own x))(k:∀b u,b≠e->h.get? b=some u->h'.get? b=some u)(heo:∃u,h'.get? e=some u):Un fs ex H (upd H x o) h h':=by
 have hx:∀b,H b=none->b≠x:=λb n z=>by subst z;rw[n] at mu;exact mu
 have hb:∀b,H b=none->b≠e:=λb n z=>by
  subst z;rcases he with r | r
  ·exact hx b n r
  ·rw[n] at r;cases r
 have hm:∀b u,H b=some u->¬Pz (some u)->b≠x:=λb u q nm z=>by subst z;rw[q] at mu;exact nm mu
 refine⟨λb u q n _ _=>k b u (hb b n) q,λb u q n _ _=>⟨u.slots,k b u (hb b n) q⟩,λb u q n _=>by rw[az (hx b n)];exact n,λb u q _=>?_,
  λb xs q=>by rw[az (hm b _ q λz=>z)];exact q,λb u xs q=>by rw[az (hm b _ q λz=>z)];exact q,λb ps q=>⟨#[],by rw[az (hm b _ q λz=>z),q];simp⟩⟩
 by_cases hbe:b=e
 ·subst hbe;exact heo
 ·exact⟨u,k b u hbe q⟩
noncomputable def PQ(h:Heap)(H:Hp):List Addr:=(List.range h.objs.size).filter λa=>(H a).isSome
noncomputable def xr(h:Heap)(H:Hp):Heap:=PySem.W.hideAll h (PQ h H)
theorem Dd(h:Heap)(H:Hp):(xr h H).objs.size=h.objs.size:=PySem.W.hideAll_size _ _
theorem FW(e:h.get? b=some o)(n:H b=none):(xr h H).get? b=some o:=
 Vx _ e λhm=>by
  have q:(H b).isSome=true:=(List.mem_filter.mp hm).2;rw[n] at q;simp at q
theorem Ip(e:(xr h H).get? b=some o):h.get? b=some o/\H b=none:=by
 have e':h.get? b=some o:=VE (PQ h H) e;refine⟨e',?_⟩;cases q:H b with
 | none=>rfl
 | some x=>
  have hm:b∈PQ h H:=List.mem_filter.mpr ⟨UR.mpr (SJ e'),by simp[q]⟩;have z:(xr h H).get? b=none:=Uk (PQ h H) hm;rw[z] at e;cases e
structure Mod(K:FR)(mg:Str->Option Value)(base:Heap):Prop where
 PY:K.In base
 glob:base.Ns mainGlobals mg
 blt:∃mb,base.Ns builtinsNs mb/\∀x:Str,x≠"__name__"->mb x=bootBuiltins x
 nolimit:base.NoLimit
structure Cx where
 prog:Program
 w:World
 K:FR
 mg:Str->Option Value
 base:Heap
 A:Around
 N:List Str
 s₀:Shared
 H₀:Hp
 env:Env
 outer:List Env
 stack:List Env
 ex:List Addr
 fn:Str->Bool
 calm:Bool
 pn:List (Addr×Obj)
 xe:Value->Shared->Prop
noncomputable def ku(l:List Env):List Addr:=l.filterMap (·.frame)
abbrev Cx.fs(X:Cx):List Addr:=ku X.outer
def MR(sc:Scope)(x:Str):Prop:=sc.names.lookup x=some .local\/sc.names.lookup x=some .cell\/sc.names.lookup x=some .free
def Loc(sc:Scope)(x:Str):Prop:=sc.names.lookup x=some .local\/sc.names.lookup x=some .cell
def Look(env:Env)(h:Heap)(m:Str->Option Value)(x:Str)(u:Value):Prop:=
 (env.kindOf x=some .local/\m x=some u)\/((env.kindOf x=some .cell\/env.kindOf x=some .free)/\∃c,env.cells.lookup x=some c/\h.IsCell c (some u))
structure Cx.Ok(X:Cx):Prop where
 mod:Mod X.K X.mg X.base
 kind:X.env.scope.kind=.function
 glob:X.env.globals=mainGlobals
 blt:X.env.builtins=builtinsNs
 above:X.s₀.heap.objs.size<=X.env.locals
 inj:∀x y c,X.env.cells.lookup x=some c->X.env.cells.lookup y=some c->x=y
 has:∀x,(X.env.kindOf x=some .cell\/X.env.kindOf x=some .free)->∃c,X.env.cells.lookup x=some c
 Na:∀x c,X.fn x=true->X.env.cells.lookup x=some c->X.s₀.heap.objs.size<=c
 hd:X.calm=true->X.A.handled=none
 frames:X.A.frames=some X.stack
 NM:X.stack=X.outer\/(X.stack=X.env::X.outer/\X.env.frame=some X.env.locals)
 QZ:∀b∈X.ex,b≠X.env.locals/\∀x c,X.env.cells.lookup x=some c->c≠b
 bs:∀b o,X.base.get? b=some o->X.s₀.heap.get? b=some o/\X.H₀ b=none
 G5:X.base.objs.size<=X.s₀.heap.objs.size
 CM:∀b o,X.base.get? b=some o->b∉X.ex
 Ge:∀b∈X.ex,b∉X.fs
 oN:X.s₀.heap.FunFrames X.base X.outer
 JQ:∀b∈X.fs,X.H₀ b=none
structure Inv(X:Cx)(pins:List (Addr×Obj))(σ:List (Option V))(H:Hp)(s:Shared):Prop where
 ok:X.Ok
 os:s.os=X.s₀.os
 bare:AllBare s.gens
 base:Un X.fs X.ex X.H₀ H X.s₀.heap s.heap
 loc:∃m,s.heap.Ns X.env.locals m/\∀(i:Nat)(x:Str)(v:V),X.N[i]?=some x->σ[i]?=some (some v)->MR X.env.scope x->∃u,RelV v u/\Look X.env s.heap m x u
 cell:∀x c,X.env.cells.lookup x=some c->∃v,s.heap.IsCell c v
 free:H X.env.locals=none
 gp:∀x c,X.env.cells.lookup x=some c->H c=none
 pin:∀p∈X.pn++pins,s.heap.get? p.1=some p.2/\H p.1=none/\p.1≠X.env.locals/\p.1∉X.fs/\∀v,p.2.data≠.cell v
 bg:jT X.prog X.w H s.heap
 len:σ.length=X.N.length
section
variable {X:Cx} {pins:List (Addr×Obj)} {σ:List (Option V)} {H H':Hp} {s:Shared} {h':Heap}
theorem Cx.Ok.QQ(ok:X.Ok)(e:X.base.get? b=some o):b∉X.fs:=λhb=>by
 have:=(ok.oN.mem hb).1;rw[e] at this;cases this
theorem Inv.bs(I:Inv X pins σ H s):∀b o,X.base.get? b=some o->s.heap.get? b=some o/\H b=none:=λb o e=>
 ⟨I.base.keep b o (I.ok.bs b o e).1 (I.ok.bs b o e).2 (I.ok.QQ e) (I.ok.CM b o e),I.base.free b o (I.ok.bs b o e).1 (I.ok.bs b o e).2 (I.ok.CM b o e)⟩
theorem Inv.bk(I:Inv X pins σ H s):∀b o,X.base.get? b=some o->s.heap.get? b=some o:=λb o e=>(I.bs b o e).1
theorem Inv.mod(I:Inv X pins σ H s):Mod X.K X.mg X.base:=I.ok.mod
theorem Inv.pU(I:Inv X pins σ H s):X.K.In s.heap:=I.ok.mod.PY.keeps I.bk
theorem Inv.nolimit(I:Inv X pins σ H s):s.heap.NoLimit:=I.ok.mod.nolimit.keeps I.bk
theorem Inv.lt(I:Inv X pins σ H s):X.env.locals < s.heap.objs.size:=let⟨_,hn,_⟩:=I.loc;hn.lt
theorem Inv.sz(I:Inv X pins σ H s):X.s₀.heap.objs.size<=s.heap.objs.size:=Sw I.ok.above (UU I.lt)
theorem Inv.QP(I:Inv X pins σ H s)(h:s.heap.objs.size<=a):a∉X.fs:=λhb=>by
 obtain⟨_,o,ho,_⟩:=I.ok.oN.mem hb;exact absurd (SV (SJ ho) (Sw I.sz h)) (Uv _)
theorem Inv.Gw(I:Inv X pins σ H s):∀x c,X.env.cells.lookup x=some c->c≠X.env.locals:=λx c e z=>by
 obtain⟨v,o,ho,hd⟩:=I.cell x c e;obtain⟨m,⟨o',es,ep,ho',hd',_⟩,_⟩:=I.loc;rw[z,ho'] at ho;cases ho;rw[hd'] at hd;cases hd
theorem Inv.oN(I:Inv X pins σ H s):s.heap.FunFrames X.base X.outer:=by
 have all:∀(l:List Env),(∀b∈ku l,b∈X.fs)->X.s₀.heap.FunFrames X.base l->s.heap.FunFrames X.base l:=by
  intro l
  induction l with
  | nil=>intro _ _;trivial
  | cons env r ih=>
   intro hs hl;obtain⟨hk,⟨L,o,hf,hn,ho,hd⟩,hr⟩:=hl;have hL:L∈X.fs:=hs L (by unfold ku;rw[Ua,hf];exact Sk);obtain⟨sl,e⟩:=I.base.slot L o ho (I.ok.JQ L hL) hL λz=>I.ok.Ge L z hL;exact⟨hk,⟨L,_,hf,hn,e,hd⟩,ih (λb hb=>hs b (by unfold ku;rw[Ua,hf];exact Sq _ hb)) hr⟩
 exact all X.outer (λ_ hb=>hb) I.ok.oN
theorem Inv.stack(I:Inv X pins σ H s):s.heap.FunFrames X.base X.stack:=by
 rcases I.ok.NM with e |⟨e,hf⟩
 ·rw[e];exact I.oN
 ·rw[e];obtain⟨m,hn,_⟩:=I.loc;refine .cons (by rw[I.ok.kind];decide) hf hn ?_ I.oN;exact Heap.get?_none_of_le (Sw I.ok.G5 I.ok.above)
theorem Inv.n6(I:Inv X pins σ H s):∀b∈ku X.stack,b∈X.env.locals::X.fs:=λb hb=>by
 rcases I.ok.NM with e |⟨e,hf⟩
 ·rw[e] at hb;exact Sq _ hb
 ·rw[e] at hb;unfold ku at hb;rw[Ua,hf] at hb;exact hb
theorem Inv.qD(I:Inv X pins σ H s):∀b∈ku X.stack,H b=none:=λb hb=>by
 rcases Sr.mp (I.n6 b hb) with e | hb
 ·rw[e];exact I.free
 ·obtain⟨_,o,ho,_⟩:=I.ok.oN.mem hb;exact I.base.free b o ho (I.ok.JQ b hb) λz=>I.ok.Ge b z hb
theorem Inv.step{g':Array GenState}{t':Nat}{d':Drawn}{ch:List Addr}(I:Inv X pins σ H s)
  (hch:∀b∈ch,(b∈X.ex\/X.s₀.heap.objs.size<=b)/\b≠X.env.locals/\(∀x c,X.env.cells.lookup x=some c->c≠b)/\∀p∈X.pn++pins,p.1≠b)
  (keep:∀b o,b≠X.env.locals->b∉X.fs->b∉ch->s.heap.get? b=some o->H b=none->h'.get? b=some o)
  (slot:∀b o,b≠X.env.locals->b∈X.fs->b∉ch->s.heap.get? b=some o->H b=none->∃sl,h'.get? b=some {o with slots:=sl}) (free:∀b o,b∉ch->s.heap.get? b=some o->H b=none->H' b=none)
  (there:∀b o,b∉ch->s.heap.get? b=some o->∃o',h'.get? b=some o')
  (nX:∀b xs,H b=some (.tup xs)->H' b=some (.tup xs)) (ng:∀b o u,H b=some (.lQ o u)->H' b=some (.lQ o u)) (nY:∀b ps,H b=some (.Jw ps)->∃more,H' b=some (.Jw (ps++more)))
  (ns:∀m,s.heap.Ns X.env.locals m->h'.Ns X.env.locals m) (bg:jT X.prog X.w H' h') (hg:AllBare g'):
  Inv X pins σ H' {s with heap:=h',gens:=g',drawn:=d',toks:=t'}:=by
 have neL:∀b o,X.s₀.heap.get? b=some o->b≠X.env.locals:=λb o e=>SX (SV (SJ e) I.ok.above);have neC:∀b o,X.s₀.heap.get? b=some o->b∉X.ex->b∉ch:=λb o e hx hb=>by
  rcases(hch b hb).1 with z | z
  ·exact hx z
  ·exact absurd (SV (SJ e) z) (Uv _)
 have cellK:∀x c,X.env.cells.lookup x=some c->∀v,s.heap.IsCell c v->h'.IsCell c v:=λx c e v ⟨o,ho,hd⟩=>by
  have nch:c∉ch:=λz=>(hch c z).2.2.1 x c e rfl
  by_cases hc:c∈X.fs
  ·obtain⟨sl,q⟩:=slot c o (I.Gw x c e) hc nch ho (I.gp x c e);exact⟨_,q,hd⟩
  ·exact⟨o,keep c o (I.Gw x c e) hc nch ho (I.gp x c e),hd⟩
 refine⟨I.ok,I.os,hg,⟨λb o e n hb hx=>?_,λb o e n hb hx=>?_,λb o e n hx=>?_,λb o e hx=>?_,λb xs e=>nX b xs (I.base.nX b xs e),λb o xs e=>ng b o xs (I.base.ng b o xs e),λb ps e=>?_⟩,?_,λx c e=>?_,?_,λx c e=>?_,λp hp=>?_,bg,I.len⟩
 ·exact keep b o (neL b o e) hb (neC b o e hx) (I.base.keep b o e n hb hx) (I.base.free b o e n hx)
 ·obtain⟨sl,e1⟩:=I.base.slot b o e n hb hx;obtain⟨sl',e2⟩:=slot b _ (neL b o e) hb (neC b o e hx) e1 (I.base.free b o e n hx);exact⟨sl',e2⟩
 ·obtain⟨o',e1⟩:=I.base.there b o e hx;exact free b o' (neC b o e hx) e1 (I.base.free b o e n hx)
 ·obtain⟨o',e1⟩:=I.base.there b o e hx;exact there b o' (neC b o e hx) e1
 ·obtain⟨m1,e1⟩:=I.base.nY b ps e;obtain⟨m2,e2⟩:=nY b _ e1;exact⟨m1++m2,by rw[e2,Array.append_assoc]⟩
 ·obtain⟨m,hn,hl⟩:=I.loc;refine⟨m,ns m hn,λi x v e1 e2 e3=>?_⟩;obtain⟨u,r,l⟩:=hl i x v e1 e2 e3;refine⟨u,r,?_⟩;rcases l with l |⟨k,c,e,z⟩
  ·exact .inl l
  ·exact .inr ⟨k,c,e,cellK x c e _ z⟩
 ·obtain⟨v,z⟩:=I.cell x c e;exact⟨v,cellK x c e v z⟩
 ·obtain⟨m,⟨o,_,_,ho,_⟩,_⟩:=I.loc;exact free _ o (λz=>(hch _ z).2.1 rfl) ho I.free
 ·obtain⟨v,o,ho,hd⟩:=I.cell x c e;exact free c o (λz=>(hch c z).2.2.1 x c e rfl) ho (I.gp x c e)
 ·obtain⟨e,n,ne,nf,d⟩:=I.pin p hp;have nch:p.1∉ch:=λz=>(hch p.1 z).2.2.2 p hp rfl;exact⟨keep p.1 p.2 ne nf nch e n,free p.1 p.2 nch e n,ne,nf,d⟩
theorem Inv.un{t':Nat}(I:Inv X pins σ H s)(u:Un X.fs [] H H' s.heap h')(bg:jT X.prog X.w H' h'):Inv X pins σ H' {s with heap:=h',toks:=t'}:=by
 obtain⟨m,⟨o,es,ep,ho,r⟩,_⟩:=id I.loc;obtain⟨sl,hL⟩:=u.any ho I.free (by simp);exact I.step (g':=s.gens) (d':=s.drawn) (ch:=[]) (λ_ z=>nomatch z) (λb o _ hb _ e n=>u.keep b o e n hb (by simp)) (λb o _ hb _ e n=>u.slot b o e n hb (by simp)) (λb o _ e n=>u.free b o e n (by simp)) (λb o _ e=>u.there b o e (by simp)) u.nX u.ng u.nY (λm' hm=>by
  obtain⟨o',es',ep',ho',r'⟩:=hm;rw[ho] at ho';cases ho';exact⟨_,es',ep',hL,r'⟩) bg I.bare
theorem Inv.call{g':Array GenState}{t':Nat}{d':Drawn}{ch:List Addr}(I:Inv X pins σ H s)(u:Un (ku X.stack) ch H H' s.heap h')(bg:jT X.prog X.w H' h')(hg:AllBare g')
  (hch:∀b∈ch,(b∈X.ex\/X.s₀.heap.objs.size<=b)/\b≠X.env.locals/\(∀x c,X.env.cells.lookup x=some c->c≠b)/\∀p∈X.pn++pins,p.1≠b):
  Inv X pins σ H' {s with heap:=h',gens:=g',drawn:=d',toks:=t'}:=by
 obtain⟨m,⟨o,es,ep,ho,r⟩,_⟩:=id I.loc;obtain⟨sl,hL⟩:=u.any ho I.free λz=>(hch _ z).2.1 rfl;exact I.step (ch:=ch) hch (λb o hL hb hc e n=>u.keep b o e n (λz=>(Sr.mp (I.n6 b z)).elim hL hb) hc) (λb o _ _ hc e n=>u.any e n hc) (λb o hc e n=>u.free b o e n hc) (λb o hc e=>u.there b o e hc) u.nX u.ng u.nY (λm' hm=>by
  obtain⟨o',es',ep',ho',r'⟩:=hm;rw[ho] at ho';cases ho';exact⟨_,es',ep',hL,r'⟩) bg hg
theorem Inv.turned{t':Nat}{it:Addr}(I:Inv X pins σ H s)(k:∀b o,b≠it->s.heap.get? b=some o->h'.get? b=some o)(hn:H it=none)(hL:it≠X.env.locals)
  (h1:it∈X.ex\/X.s₀.heap.objs.size<=it) (h2:∀x c,X.env.cells.lookup x=some c->c≠it) (h3:∀p∈X.pn++pins,p.1≠it):Inv X pins σ H {s with heap:=h',toks:=t'}:=by
 have nit:∀b u,H b=some u->b≠it:=λb u e z=>by rw[z,hn] at e;cases e
 refine I.step (g':=s.gens) (d':=s.drawn) (ch:=[it]) (λb hb=>?_) (λb o _ _ hc e _=>k b o (λz=>hc (by simp[z])) e) (λb o _ _ hc e _=>⟨o.slots,k b o (λz=>hc (by simp[z])) e⟩) (λ_ _ _ _ n=>n)
  (λb o hc e=>⟨o,k b o (λz=>hc (by simp[z])) e⟩) (λ_ _ e=>e) (λ_ _ _ e=>e) (λb ps e=>⟨#[],by rw[e];simp⟩) (λm hm=>?_) (λb u e=>?_) I.bare
 ·have e:b=it:=by simpa using hb
  subst e;exact⟨h1,hL,h2,h3⟩
 ·obtain⟨o,es,ep,ho,r⟩:=hm;exact⟨o,es,ep,k _ o (Um hL) ho,r⟩
 ·refine(I.bg b u e).og (λc v hc q=>k c v ?_ q) (λ_ q=>q) λ_ _ q=>q;rcases hc with z | z
  ·rw[z];exact nit b u e
  ·exact nit c _ z
theorem Inv.tok(I:Inv X pins σ H s)(t:Nat):Inv X pins σ H {s with toks:=t}:=I.un (h':=s.heap) (t':=t) Un.refl I.bg
theorem Inv.kept(I:Inv X pins σ H s)(k:∀b u,s.heap.get? b=some u->h'.get? b=some u):Inv X pins σ H {s with heap:=h',toks:=t'}:=I.un (Un.kept k) (I.bg.kept k)
theorem Inv.laid(I:Inv X pins σ H s)(k:∀b u,s.heap.get? b=some u->h'.get? b=some u)(hp:s.heap.objs.size<=a)(new:bS X.prog X.w (upd H a o) h' a o):
  Inv X pins σ (upd H a o) {s with heap:=h',toks:=t'}:=I.un (Un.laid k hp (I.bg.fresh hp)) (I.bg.laid k hp new)
theorem Inv.write(I:Inv X pins σ H s)(mu:Pz (H x))(he:e=x\/H e=some (.own x))(k:∀b u,b≠e->s.heap.get? b=some u->h'.get? b=some u)(heo:∃u,h'.get? e=some u)(new:bS X.prog X.w (upd H x o) h' x o):Inv X pins σ (upd H x o) {s with heap:=h',toks:=t'}:=I.un (Un.write mu he k heo) (I.bg.write mu he k heo new)
theorem Inv.Bw(I:Inv X pins σ H s)(h:∀p∈pins',s.heap.get? p.1=some p.2/\H p.1=none/\p.1≠X.env.locals/\p.1∉X.fs/\∀v,p.2.data≠.cell v):Inv X pins' σ H s:=
 ⟨I.ok,I.os,I.bare,I.base,I.loc,I.cell,I.free,I.gp,λp hp=>(SF.mp hp).elim (λz=>I.pin p (S8 _ z)) (h p),I.bg,I.len⟩
theorem sF{N:List Str}(hN:N.Nodup){i j:Nat}{x:Str}(a:N[i]?=some x)(b:N[j]?=some x):i=j:=by
 obtain⟨h1,e1⟩:=Se.mp a;obtain⟨h2,e2⟩:=Se.mp b;exact(List.getElem_inj hN).mp (e1.trans e2.symm)
theorem uO{M:Model}{A:Around}{E:Value->Shared->Prop}{i:Nat}{x:Str}{v:V}{u:Value}{Q:Unit->Shared->Prop}(I:Inv X pins σ H s)(hN:X.N.Nodup)(hi:X.N[i]?=some x)(hx:Loc X.env.scope x)(r:RelV v u)
  (h:∀s',Inv X pins (σ.set i (some v)) H s'->(∃a,Heap.SameBut a s.heap s'.heap/\(a=X.env.locals\/X.env.cells.lookup x=some a))->Q () s') (hf:X.fn x=true\/X.env.scope.names.lookup x=some .local:=by first | exact .inl rfl | exact .inr rfl | assumption):wpAny M A (storeName X.env x u) Q E s:=by
 obtain⟨m,hn,hl⟩:=id I.loc;have hcls:(X.env.scope.kind==.class||(X.env.scope.kind==.module&&X.env.locals !=X.env.globals))=false:=by rw[I.ok.kind];rfl
 have hiσ:i < σ.length:=by rw[I.len];exact(Se.mp hi).1
 have Gw:=I.Gw;have tracked:∀{a:Addr} {h':Heap},(∃o,s.heap.get? a=some o/\H a=none)->Heap.SameBut a s.heap h'->jT X.prog X.w H h':=λ{a h'} ha hs b ob e=>by
  obtain⟨_,_,hfree⟩:=ha;refine(I.bg b ob e).og (λc w' hc q=>(hs.2 c ?_).trans q) (λ_ q=>q) λ_ _ q=>q;rintro rfl;rcases hc with rfl | hc
  ·rw[hfree] at e;cases e
  ·rw[hfree] at hc;cases hc
 rcases hx with hk | hk
 ·refine wpAny_storeName_local hk hn (λh' hn' hs=>?_) hcls;obtain⟨oL,_,_,hoL,_⟩:=id hn;refine h _ ⟨I.ok,I.os,I.bare,⟨λb o e n hb hx=>?_,λb o e n hb hx=>?_,I.base.free,λb o e hx=>?_,I.base.nX,I.base.ng,I.base.nY⟩,⟨_,hn',λj y v' e1 e2 e3=>?_⟩,λy c e=>?_,I.free,I.gp,λp hp=>?_,tracked ⟨oL,hoL,I.free⟩ hs,by simpa using I.len⟩ ⟨_,hs,.inl rfl⟩
  ·exact(hs.2 b (SX (SV (SJ e) I.ok.above))).trans (I.base.keep b o e n hb hx)
  ·obtain⟨sl,e1⟩:=I.base.slot b o e n hb hx;exact⟨sl,(hs.2 b (SX (SV (SJ e) I.ok.above))).trans e1⟩
  ·obtain⟨o',e1⟩:=I.base.there b o e hx;exact⟨o',(hs.2 b (SX (SV (SJ e) I.ok.above))).trans e1⟩
  ·by_cases hj:j=i
   ·subst hj;rw[hi] at e1;cases e1;rw[Th hiσ] at e2;cases e2;exact⟨u,r,.inl ⟨hk,by simp⟩⟩
   ·rw[Tu (Um hj)] at e2;obtain⟨u',r',q⟩:=hl j y v' e1 e2 e3;refine⟨u',r',?_⟩;rcases q with⟨k,e⟩ |⟨k,c,e,z⟩
    ·refine .inl ⟨k,?_⟩;have:y≠x:=λe=>hj (sF hN e1 (e ▸ hi));simp[this,e]
    ·exact .inr ⟨k,c,e,z.sameBut hs (Gw y c e)⟩
  ·obtain⟨w',z⟩:=I.cell y c e;exact⟨w',z.sameBut hs (Gw y c e)⟩
  ·obtain⟨e,n,ne,nf,d⟩:=I.pin p hp;exact⟨(hs.2 p.1 ne).trans e,n,ne,nf,d⟩
 ·have hfn:X.fn x=true:=by
   rcases hf with z | z
   ·exact z
   ·rw[z] at hk;cases hk
  obtain⟨c,hc⟩:=I.ok.has x (.inl hk);obtain⟨w',z⟩:=I.cell x c hc;refine wpAny_storeName_cell I.ok.kind hk hc z (λh' hc' hs=>?_);obtain⟨oc,hoc,hocd⟩:=id z;refine h {s with heap:=h'} ⟨I.ok,I.os,I.bare,⟨λb o e n hb hx=>?_,λb o e n hb hx=>?_,I.base.free,λb o e hx=>?_,I.base.nX,I.base.ng,I.base.nY⟩,⟨m,hn.sameBut hs (Um (Gw x c hc)),λj y v' e1 e2 e3=>?_⟩,λy c' e=>?_,I.free,I.gp,λp hp=>?_,tracked ⟨oc,hoc,I.gp x c hc⟩ hs,by simpa using I.len⟩ ⟨c,hs,.inr hc⟩
  ·exact(hs.2 b (SX (SV (SJ e) (I.ok.Na x c hfn hc)))).trans (I.base.keep b o e n hb hx)
  ·obtain⟨sl,e1⟩:=I.base.slot b o e n hb hx;exact⟨sl,(hs.2 b (SX (SV (SJ e) (I.ok.Na x c hfn hc)))).trans e1⟩
  ·obtain⟨o',e1⟩:=I.base.there b o e hx;exact⟨o',(hs.2 b (SX (SV (SJ e) (I.ok.Na x c hfn hc)))).trans e1⟩
  ·by_cases hj:j=i
   ·subst hj;rw[hi] at e1;cases e1;rw[Th hiσ] at e2;cases e2;exact⟨u,r,.inr ⟨.inl hk,c,hc,hc'⟩⟩
   ·rw[Tu (Um hj)] at e2;obtain⟨u',r',q⟩:=hl j y v' e1 e2 e3;refine⟨u',r',?_⟩;rcases q with q |⟨k,c',e,z'⟩
    ·exact .inl q
    ·refine .inr ⟨k,c',e,z'.sameBut hs ?_⟩;rintro rfl;exact hj (sF hN e1 (I.ok.inj _ _ _ e hc ▸ hi))
  ·by_cases hcc:c'=c
   ·subst hcc;exact⟨_,hc'⟩
   ·obtain⟨w2,z2⟩:=I.cell y c' e;exact⟨w2,z2.sameBut hs hcc⟩
  ·obtain⟨e,n,ne,nf,d⟩:=I.pin p hp;refine⟨(hs.2 p.1 ?_).trans e,n,ne,nf,d⟩;intro q;rw[q,hoc] at e;have q':oc=p.2:=Option.some.inj e;exact d w' (by rw[<-q'];exact hocd)
theorem ie(I:Inv X pins σ H s)(hN:X.N.Nodup)(hi:X.N[i]?=some x)(hx:Loc X.env.scope x)(r:RelV v u)(h:∀s',Inv X pins (σ.set i (some v)) H s'->Q () s')(hf:X.fn x=true\/X.env.scope.names.lookup x=some .local:=by first | exact .inl rfl | exact .inr rfl | assumption):wpAny M A (storeName X.env x u) Q E s:=
 uO I hN hi hx r (λs' I' _=>h s' I') hf
theorem Inv.call'(I:Inv X pins σ H s)(ho:s'.os=s.os)(u:Un (ku X.stack) ch H H' s.heap s'.heap)(bg:jT X.prog X.w H' s'.heap)(hg:AllBare s'.gens)(hch:∀b∈ch,(b∈X.ex\/X.s₀.heap.objs.size<=b)/\b≠X.env.locals/\(∀x c,X.env.cells.lookup x=some c->c≠b)/\∀p∈X.pn++pins,p.1≠b):Inv X pins σ H' s':=by
 obtain⟨h',g',d',t',o'⟩:=s';have e:o'=s.os:=ho;subst e;exact I.call (g':=g') (t':=t') (d':=d') u bg hg hch
end
abbrev XK:=Value->Option Addr->Hp->Prop
abbrev St:=List (Option V)
abbrev VK:=V->Hp->Prop
abbrev TE:=St->Hp->VK->Prop
abbrev TT:=St->Hp->(Bool->Hp->Prop)->Prop
abbrev TA:=St->Hp->(List V->Hp->Prop)->Prop
structure Ends where
 nx:St->Hp->Prop
 rt:VK
 bk:St->Hp->Prop:=λ_ _=>False
 ct:St->Hp->Prop:=λ_ _=>False
abbrev TS:=Ends->St->Hp->Prop
inductive RL(X:Cx)(pins:List (Addr×Obj))(σ:St)(Q:VK)(u:Value)(s':Shared):Prop where
 | mk (v H'):Inv X pins σ H' s'->RelV v u->Q v H'->RL X pins σ Q u s'
def EP(X:Cx)(pins:List (Addr×Obj))(σ:St)(Q:VK)(u:Value)(s':Shared):Prop:=RL X pins σ Q u s'
def TP(X:Cx)(pins:List (Addr×Obj))(σ:St)(Q:Bool->Hp->Prop)(b:Bool)(s':Shared):Prop:=∃H',Inv X pins σ H' s'/\Q b H'
inductive RM(X:Cx)(pins:List (Addr×Obj))(σ:St)(Q:List V->Hp->Prop)(us:List Value)(s':Shared):Prop where
 | mk (vs H'):Inv X pins σ H' s'->Vals vs us->Q vs H'->RM X pins σ Q us s'
def AP(X:Cx)(pins:List (Addr×Obj))(σ:St)(Q:List V->Hp->Prop)(us:List Value)(s':Shared):Prop:=RM X pins σ Q us s'
def SP(X:Cx)(pins:List (Addr×Obj))(D:Ends)(f:Flow)(s':Shared):Prop:=
 match f with
 | .next=>∃σ' H',Inv X pins σ' H' s'/\D.nx σ' H'
 | .brk=>∃σ' H',Inv X pins σ' H' s'/\D.bk σ' H'
 | .cont=>∃σ' H',Inv X pins σ' H' s'/\D.ct σ' H'
 | .ret u=>∃v σ' H',Inv X pins σ' H' s'/\RelV v u/\D.rt v H'
def PE(X:Cx)(e:Expr)(t:TE):Prop:=
 ∀(pins:List (Addr×Obj)) (s:Shared) (σ:St) (H:Hp) (Q:VK),Inv X pins σ H s->t σ H Q->wpAny (model X.prog X.w) X.A (eval e X.env) (EP X pins σ Q) X.xe s
def PT(X:Cx)(e:Expr)(t:TT):Prop:=
 ∀(pins:List (Addr×Obj)) (s:Shared) (σ:St) (H:Hp) (Q:Bool->Hp->Prop),Inv X pins σ H s->t σ H Q->wpAny (model X.prog X.w) X.A (isTrue e X.env (eval e X.env)) (TP X pins σ Q) X.xe s
def PW(X:Cx)(e:Expr)(t:TT):Prop:=
 ∀(whole:Sem Value)(pins:List (Addr×Obj)) (s:Shared) (σ:St) (H:Hp) (Q:Bool->Hp->Prop),Inv X pins σ H s->t σ H Q->wpAny (model X.prog X.w) X.A (isTrue e X.env whole) (TP X pins σ Q) X.xe s
theorem PW.pt(h:PW X e t):PT X e t:=h _
def PA(X:Cx)(es:List Expr)(t:TA):Prop:=
 ∀(pos:Pos)(pins:List (Addr×Obj)) (s:Shared) (σ:St) (H:Hp) (Q:List V->Hp->Prop),Inv X pins σ H s->t σ H Q->wpAny (model X.prog X.w) X.A (spliced (backTo pos (starEach es X.env))) (AP X pins σ Q) X.xe s
def PS(X:Cx)(st:Stmt)(t:TS):Prop:=
 ∀(pins:List (Addr×Obj)) (s:Shared) (σ:St) (H:Hp) (D:Ends),Inv X pins σ H s->t D σ H->wpAny (model X.prog X.w) X.A (exec st X.env) (SP X pins D) X.xe s
def xX(X:Cx)(st:List Stmt)(t:TS):Prop:=
 ∀(pins:List (Addr×Obj)) (s:Shared) (σ:St) (H:Hp) (D:Ends),Inv X pins σ H s->t D σ H->wpAny (model X.prog X.w) X.A (execs st X.env) (SP X pins D) X.xe s
theorem cD(h:wpAny M A t Q E s)(hQ:∀a s,Q a s->Q' a s):wpAny M A t Q' E s:=Te h hQ λ_ _ x=>x
section
variable {X:Cx}
def Qb(i:Nat):TE:=λσ H Q=>∃v,σ[i]?=some (some v)/\Q v H
def tC(v:V):TE:=λ_ H Q=>Q v H
theorem Fd(hN:X.N[i]?=some x)(hv:MR X.env.scope x)(hd:(x==("__debug__":Str))=false:=by decide)(hcd:(x==("__classdict__":Str))=false:=by decide):PE X (.Name x pos) (Qb i):=by
 intro pins s σ H Q I h;obtain⟨v,e,h⟩:=h;obtain⟨m,hn,hl⟩:=I.loc;obtain⟨u,r,l⟩:=hl i x v hN e hv;have fin:EP X pins σ Q u s:=⟨v,H,I,r,h⟩;rcases l with⟨hk,hm⟩ |⟨hk,c,hc,hcell⟩
 ·exact We (wpAny_loadName_local I.ok.kind hk hn hm fin) hd
 ·rcases hk with hk | hk
  ·exact We (wpAny_loadName_cell I.ok.kind hk hc hcell fin) hd
  ·exact We (wpAny_loadName_free I.ok.kind hk hc hcell fin hcd) hd
theorem Lq{i j pos}:PE X (.Constant (.int i) j pos) (tC (.int i)):=λ_ _ _ H _ I h=>wpAny_Constant_int ⟨.int i,H,I.tok _,⟨_,rfl⟩,h⟩
theorem Ol{b j pos}:PE X (.Constant (.bool b) j pos) (tC (.bl b)):=λ_ _ _ H _ I h=>Constant_bool ⟨.bl b,H,I,rfl,h⟩
theorem Ff{j pos}:PE X (.Constant .none j pos) (tC .cq):=λ_ _ _ H _ I h=>Constant_none ⟨.cq,H,I,rfl,h⟩
theorem Lk{x j pos}:PE X (.Constant (.str x) j pos) (tC (.str x)):=λ_ _ _ H _ I h=>Calls.Constant_str ⟨.str x,H,I.tok _,⟨_,rfl⟩,h⟩
def Gl(X:Cx)(x:Str):Prop:=X.env.kindOf x=some .globalImplicit
theorem kj(I:Inv X pins σ H s)(hg:Gl X x)(hm:X.mg x=some u)(h:Q u s)(hd:(x==("__debug__":Str))=false:=by decide):wpAny (model X.prog X.w) X.A (eval (.Name x pos) X.env) Q E s:=
 Xe I.ok.kind hg (Calls.loadGlobal_global (by rw[I.ok.glob];exact I.mod.glob.keeps I.bk) hm h) hd
theorem jO(I:Inv X pins σ H s)(hg:Gl X x)(hm:X.mg x=none)(hv:bootBuiltins x=some u)(h:Q u s)(hn:x≠"__name__":=by decide)(hd:(x==("__debug__":Str))=false:=by decide):wpAny (model X.prog X.w) X.A (eval (.Name x pos) X.env) Q E s:=by
 obtain⟨mb,h1,h2⟩:=I.mod.blt;exact Xe I.ok.kind hg (Calls.loadGlobal_builtin (by rw[I.ok.glob];exact I.mod.glob.keeps I.bk) hm (by rw[I.ok.blt];exact h1.keeps I.bk) ((h2 x hn).trans hv) h) hd
theorem Bx(hg:Gl X x)(hm:X.mg x=some u)(r:RelV v u)(hd:(x==("__debug__":Str))=false:=by decide):PE X (.Name x pos) (tC v):=
 λ_ _ _ H _ I h=>kj I hg hm ⟨v,H,I,r,h⟩ hd
theorem BA(hg:Gl X x)(hm:X.mg x=none)(hv:bootBuiltins x=some u)(r:RelV v u)(hn:x≠"__name__":=by decide)(hd:(x==("__debug__":Str))=false:=by decide):PE X (.Name x pos) (tC v):=
 λ_ _ _ H _ I h=>jO I hg hm hv ⟨v,H,I,r,h⟩ hn hd
variable {a b:Expr} {ta tb:TE} {pos:Pos}
variable {tA tB':TT} {rest:List Expr}
def n4(t u:TT):TT:=λσ H Q=>t σ H λc H1=>if c=true then u σ H1 Q else Q false H1
def D9(t u:TT):TT:=λσ H Q=>t σ H λc H1=>if c=true then Q true H1 else u σ H1 Q
def jm(t:TT):TT:=λσ H Q=>t σ H λc H1=>Q (!c) H1
theorem HJ(ha:PT X a tA):PW X (.BoolOp .And [a] pos) tA:=by
 intro wh pins s σ H Q I h;refine isTrue_and (cD (ha pins s σ H Q I h) λc s1 e=>?_);cases c with
 | true=>exact isTrue_and_nil e
 | false=>exact e
theorem K8(ha:PT X a tA):PW X (.BoolOp .Or [a] pos) tA:=by
 intro wh pins s σ H Q I h;refine isTrue_or (cD (ha pins s σ H Q I h) λc s1 e=>?_);cases c with
 | false=>exact isTrue_or_nil e
 | true=>exact e
theorem K9(ha:PT X a tA)(hb:PW X (.BoolOp .And (b::rest) pos) tB'):PW X (.BoolOp .And (a::b::rest) pos) (n4 tA tB'):=by
 intro wh pins s σ H Q I h;refine isTrue_and (cD (ha pins s σ H _ I h) λc s1 ⟨H1,I1,q1⟩=>?_);cases c with
 | true=>exact hb wh pins s1 σ H1 Q I1 q1
 | false=>exact⟨H1,I1,q1⟩
theorem Oe(ha:PT X a tA)(hb:PW X (.BoolOp .Or (b::rest) pos) tB'):PW X (.BoolOp .Or (a::b::rest) pos) (D9 tA tB'):=by
 intro wh pins s σ H Q I h;refine isTrue_or (cD (ha pins s σ H _ I h) λc s1 ⟨H1,I1,q1⟩=>?_);cases c with
 | true=>exact⟨H1,I1,q1⟩
 | false=>exact hb wh pins s1 σ H1 Q I1 q1
theorem Lb(ha:PT X a tA):PT X (.UnaryOp .Not a pos) (jm tA):=by
 intro pins s σ H Q I h;exact isTrue_not (ha pins s σ H (λc H1=>Q (!c) H1) I h)
def NK(ta tb:TE):TE:=λσ H Q=>ta σ H λx H1=>∃c,x=.bl c/\if c=true then tb σ H1 Q else Q (.bl false) H1
def Qe(ta tb:TE):TE:=λσ H Q=>ta σ H λx H1=>∃c,x=.bl c/\if c=true then Q (.bl true) H1 else tb σ H1 Q
def NC(ta:TE):TE:=λσ H Q=>ta σ H λx H1=>∃c,x=.bl c/\Q (.bl (!c)) H1
theorem Lm{op}(h:PE X a t):PE X (.BoolOp op [a] pos) t:=λpins s σ H Q I hw=>BoolOp_one (h pins s σ H Q I hw)
theorem Ls(ha:PE X a ta)(hb:PE X (.BoolOp .And (b::rest) pos) tb):PE X (.BoolOp .And (a::b::rest) pos) (NK ta tb):=by
 intro pins s σ H Q I h;refine BoolOp_and (cD (ha pins s σ H _ I h) λv s1 ⟨x,H1,I1,r1,q1⟩=>?_);obtain⟨c,rfl,q1⟩:=q1;cases r1;refine Ud ?_;cases c with
 | true=>exact hb pins s1 σ H1 Q I1 q1
 | false=>exact⟨.bl false,H1,I1,rfl,q1⟩
theorem Oh(ha:PE X a ta)(hb:PE X (.BoolOp .Or (b::rest) pos) tb):PE X (.BoolOp .Or (a::b::rest) pos) (Qe ta tb):=by
 intro pins s σ H Q I h;refine BoolOp_or (cD (ha pins s σ H _ I h) λv s1 ⟨x,H1,I1,r1,q1⟩=>?_);obtain⟨c,rfl,q1⟩:=q1;cases r1;refine Ud ?_;cases c with
 | false=>exact hb pins s1 σ H1 Q I1 q1
 | true=>exact⟨.bl true,H1,I1,rfl,q1⟩
theorem Lo(ha:PE X a ta):PE X (.UnaryOp .Not a pos) (NC ta):=by
 intro pins s σ H Q I h;refine UnaryOp_ (cD (ha pins s σ H _ I h) λv s1 ⟨x,H1,I1,r1,q1⟩=>?_);obtain⟨c,rfl,q1⟩:=q1;cases r1;exact not_of (Ud ⟨.bl (!c),H1,I1,rfl,q1⟩)
end
def gH(K:FR)(H:Hp)(a:Addr)(xs:List V):Prop:=
 Rd H a (.lst xs)\/
  ∃(o:Obj)(its:Array Value)(n:Nat),K.lookup a=some o/\o.cls=.type "list"/\o.dict=none/\o.data=.seq its n/\its.size<=sizeLine/\Vals xs its.toList
def kF(K:FR)(H:Hp)(a:Addr)(xs:List V):Prop:=
 Rd H a (.tup xs)\/
  ∃(o:Obj)(its:Array Value)(n:Nat),K.lookup a=some o/\o.cls=.type "tuple"/\o.data=.seq its n/\its.size<=sizeLine/\Vals xs its.toList/\o.dict=none
noncomputable def Ra:Value->Option V
 | .none=>some .cq
 | .bool b=>some (.bl b)
 | .int i _=>some (.int i)
 | .str x _=>some (.str x)
 | .bytes b _=>some (.byt b)
 | .float b _=>some (.M7 b)
 | .ref a=>some (.ref a)
 | .type n=>some (.ty n)
 | _=>none
theorem RelV.abs(r:RelV x u):Ra u=some x:=by
 cases x with
 | cq=>cases r;rfl
 | bl _=>cases r;rfl
 | int _=>obtain⟨t,rfl⟩:=r;rfl
 | str _=>obtain⟨t,rfl⟩:=r;rfl
 | byt _=>obtain⟨t,rfl⟩:=r;rfl
 | M7 _=>obtain⟨t,rfl⟩:=r;rfl
 | ref _=>cases r;rfl
 | ty _=>cases r;rfl
theorem RelV.inj(r:RelV x u)(q:RelV y u):x=y:=Option.some.inj (r.abs.symm.trans q.abs)
theorem Vals.inj{xs ys:List V}{us:List Value}(a:Vals xs us)(b:Vals ys us):xs=ys:=by
 induction a generalizing ys with
 | nil=>cases b;rfl
 | cons r t ih=>cases b with | cons r' t'=>rw[r.inj r',ih t']
theorem gH.of{K:FR}(h:H a=some (.lst xs)):gH K H a xs:=.inl (.inl h)
theorem Inv.list(I:Inv X pins σ H s)(h:gH X.K H a xs):∃its:List Value,Vals xs its/\PlainL s.heap a its.toArray/\xs.length<=sizeLine:=by
 rcases h with h |⟨o,its,n,hk,hc,hd,hs,hz,r⟩
 ·obtain⟨z,its,n,r,e⟩:=h.ok I.bg;exact⟨its,r,⟨_,n,e,rfl,rfl,rfl⟩,z⟩
 ·refine⟨its.toList,r,⟨o,n,I.pU a o hk,hc,hd,by simpa using hs⟩,?_⟩;have e:=r.length;simp only[Vd] at e
  lia
theorem Inv.tuple(I:Inv X pins σ H s)(h:kF X.K H a xs):∃its:List Value,Vals xs its/\IsTup s.heap a its.toArray/\xs.length<=sizeLine:=by
 rcases h with h |⟨o,its,n,hk,hc,hs,hz,r,_⟩
 ·obtain⟨z,its,r,p⟩:=h.ok I.bg;exact⟨its,r,p.tup,z⟩
 ·refine⟨its.toList,r,⟨o,I.pU a o hk,hc,n,by simpa using hs⟩,?_⟩;have e:=r.length;simp only[Vd] at e
  lia
theorem Inv.yU(I:Inv X pins σ H s)(h:gH X.K H a xs)(h':gH X.K H a ys):xs=ys:=by
 obtain⟨its,r,⟨o,n,e,_,_,d⟩,_⟩:=I.list h;obtain⟨its',r',⟨o',n',e',_,_,d'⟩,_⟩:=I.list h';rw[e] at e';cases e';rw[d] at d';injection d' with d1 _
 have:its=its':=by simpa using congrArg Array.toList d1
 subst this;exact r.inj r'
theorem Inv.uM(I:Inv X pins σ H s)(h:kF X.K H a xs)(h':kF X.K H a ys):xs=ys:=by
 obtain⟨its,r,⟨o,e,_,n,d⟩,_⟩:=I.tuple h;obtain⟨its',r',⟨o',e',_,n',d'⟩,_⟩:=I.tuple h';rw[e] at e';cases e';rw[d] at d';injection d' with d1 _
 have:its=its':=by simpa using congrArg Array.toList d1
 subst this;exact r.inj r'
abbrev Cx.qV(X:Cx)(E:Value->Shared->Prop):Cx:={X with xe:=E}
abbrev Cx.FC(X:Cx):Cx:=X.qV λ_ _=>False
theorem Cx.Ok.qV{X:Cx}(ok:X.Ok)(E:Value->Shared->Prop):(X.qV E).Ok:=
 ⟨ok.mod,ok.kind,ok.glob,ok.blt,ok.above,ok.inj,ok.has,ok.Na,ok.hd,ok.frames,ok.NM,ok.QZ,ok.bs,ok.G5,ok.CM,ok.Ge,ok.oN,ok.JQ⟩
theorem Cx.Ok.g6{X:Cx}{E:Value->Shared->Prop}(ok:(X.qV E).Ok):X.Ok:=
 ⟨ok.mod,ok.kind,ok.glob,ok.blt,ok.above,ok.inj,ok.has,ok.Na,ok.hd,ok.frames,ok.NM,ok.QZ,ok.bs,ok.G5,ok.CM,ok.Ge,ok.oN,ok.JQ⟩
theorem Inv.qV(I:Inv X pins σ H s)(E:Value->Shared->Prop):Inv (X.qV E) pins σ H s:=⟨I.ok.qV E,I.os,I.bare,I.base,I.loc,I.cell,I.free,I.gp,I.pin,I.bg,I.len⟩
theorem Inv.g6(I:Inv (X.qV E) pins σ H s):Inv X pins σ H s:=⟨I.ok.g6,I.os,I.bare,I.base,I.loc,I.cell,I.free,I.gp,I.pin,I.bg,I.len⟩
theorem SP.g6(h:SP (X.qV E) pins D f s'):SP X pins D f s':=by
 cases f with
 | next=>obtain⟨σ',H',I,q⟩:=h;exact⟨σ',H',I.g6,q⟩
 | brk=>obtain⟨σ',H',I,q⟩:=h;exact⟨σ',H',I.g6,q⟩
 | cont=>obtain⟨σ',H',I,q⟩:=h;exact⟨σ',H',I.g6,q⟩
 | ret u=>obtain⟨v,σ',H',I,r,q⟩:=h;exact⟨v,σ',H',I.g6,r,q⟩
theorem xX.FC{st:List Stmt}{t:TS}(h:xX X.FC st t):xX X st t:=λpins s σ H D I hw=>
 Te (h pins s σ H D (I.qV _) hw) (λ_ _ q=>q.g6) λ_ _ z=>False.elim z
section
variable {X:Cx} {st:Stmt} {rest:List Stmt} {t u:TS} {e:Expr} {te:TE} {pos:Pos}
def NF:TS:=λD σ H=>D.nx σ H
def Ny(t u:TS):TS:=λD σ H=>t {D with nx:=u D} σ H
theorem HM:xX X [] NF:=λ_ _ σ H _ I h=>Vp ⟨σ,H,I,h⟩
theorem yB(h1:PS X st t)(h2:xX X rest u):xX X (st::rest) (Ny t u):=by
 intro pins s σ H D I h;refine UE (cD (h1 pins s σ H {D with nx:=u D} I h) λf s1 q=>?_);cases f with
 | next=>
  obtain⟨σ',H',I',q⟩:=q;exact h2 pins s1 σ' H' D I' q
 | ret v=>exact q
 | brk=>exact q
 | cont=>exact q
theorem HL(h1:PS X st t):xX X [st] t:=by
 intro pins s σ H D I h;refine UE (cD (h1 pins s σ H D I h) λf s1 q=>?_);cases f with
 | next=>exact Vp q
 | ret v=>exact q
 | brk=>exact q
 | cont=>exact q
theorem Inv.quiet(I:Inv X pins σ H s):interactive X.env=false:=by simp[interactive,I.ok.kind]
def NI(te:TE):TS:=λD σ H=>te σ H λ_ H1=>D.nx σ H1
theorem HP(he:PE X e te)(hs:swapsWith e none pos.line X.env=pure false:=by rfl):PS X (.Expr e pos) (NI te):=by
 intro pins s σ H D I h;exact wpAny_Expr_any (cD (he pins s σ H _ I h) λv s1 ⟨x,H1,I1,r1,q1⟩=>⟨σ,H1,I1,q1⟩) I.quiet hs
def Qd(te:TE):TS:=λD σ H=>te σ H D.rt
theorem Lc(he:PE X e te):PS X (.Return (some e) pos) (Qd te):=by
 intro pins s σ H D I h;exact wpAny_Return_some (cD (he pins s σ H _ I h) λv s1 ⟨x,H1,I1,r1,q1⟩=>⟨x,σ,H1,I1,r1,q1⟩)
def Qh(c:TT)(t u:TS):TS:=λD σ H=>c σ H λb H1=>if b=true then t D σ H1 else u D σ H1
theorem JK(hc:PT X c tc)(ha:xX X a t)(hb:xX X b u):PS X (.If c a b pos) (Qh tc t u):=by
 intro pins s σ H D I h;refine wpAny_If (cD (hc pins s σ H _ I h) λd s1 ⟨H1,I1,q1⟩=>?_);cases d with
 | true=>exact ha pins s1 σ H1 D I1 q1
 | false=>exact hb pins s1 σ H1 D I1 q1
def Kv:TS:=λ_ _ _=>False
theorem E3:PS X st Kv:=λ_ _ _ _ _ _ h=>h.elim
end
abbrev TG:=V->St->Hp->(St->Hp->Prop)->Prop
abbrev MU:=List V->St->Hp->(St->Hp->Prop)->Prop
def PG(X:Cx)(target:Expr)(t:TG):Prop:=
 ∀(pins:List (Addr×Obj)) (s:Shared) (σ:St) (H:Hp) (v:V) (u:Value) (Q:St->Hp->Prop),Inv X pins σ H s->RelV v u->t v σ H Q->
  wpAny (model X.prog X.w) X.A (assign target X.env u) (λ_ s'=>∃σ' H',Inv X pins σ' H' s'/\Q σ' H') X.xe s
def Kf(X:Cx)(ts:List Expr)(t:MU):Prop:=
 ∀(pins:List (Addr×Obj)) (s:Shared) (σ:St) (H:Hp) (vs:List V) (us:List Value) (Q:St->Hp->Prop),Inv X pins σ H s->Vals vs us->t vs σ H Q->
  wpAny (model X.prog X.w) X.A (assignInOrder ((assignEach ts X.env).map (·.2)) us) (λ_ s'=>∃σ' H',Inv X pins σ' H' s'/\Q σ' H') X.xe s
abbrev Pj:=V->V->V->Hp->(Hp->Prop)->Prop
def MZ(X:Cx)(t:Pj):Prop:=
 ∀(pins:List (Addr×Obj)) (s:Shared) (σ:St) (H:Hp) (o i v:V) (ov iv u:Value) (Q:Hp->Prop),Inv X pins σ H s->RelV o ov->RelV i iv->RelV v u->t o i v H Q->
  wpAny (model X.prog X.w) X.A (setItem ov iv u) (λ_ s'=>∃H',Inv X pins σ H' s'/\Q H') X.xe s
def y2(i:Nat):TG:=λv σ H Q=>Q (σ.set i (some v)) H
theorem Ie(hN:X.N.Nodup)(hi:X.N[i]?=some x)(hx:Loc X.env.scope x)(hf:X.fn x=true\/X.env.scope.names.lookup x=some .local:=by first | exact .inl rfl | exact .inr rfl | assumption):PG X (.Name x pos) (y2 i):=by
 intro pins s σ H v u Q I r h;exact wpAny_assign_Name (ie I hN hi hx r (λs' I'=>⟨_,H,I',h⟩) hf)
noncomputable def QX:MU:=λvs σ H Q=>vs=[]/\Q σ H
def OQ(t:TG)(u:MU):MU:=λvs σ H Q=>∃v r,vs=v::r/\t v σ H λσ' H'=>u r σ' H' Q
theorem Ic:Kf X [] QX:=by
 intro pins s σ H vs us Q I r h;obtain⟨e,h⟩:=h;subst e;cases r;exact assignInOrder_nil ⟨σ,H,I,h⟩
theorem Fc(h1:PG X e t)(h2:Kf X es u)(hs:(assignEach (e::es) X.env).map (·.2)=assign e X.env::(assignEach es X.env).map (·.2):=by rfl):Kf X (e::es) (OQ t u):=by
 intro pins s σ H vs us Q I r h;obtain⟨v,vr,e1,h⟩:=h;subst e1;cases r with
 | cons r rr=>
  rw[hs];refine W9 (cD (h1 pins s σ H _ _ _ I r h) λ_ s1 ⟨σ1,H1,I1,q1⟩=>?_);exact h2 pins s1 σ1 H1 _ _ Q I1 rr q1
def QW(K:FR)(n:Nat)(t:MU):TG:=λv σ H Q=>∃a xs,v=.ref a/\kF K H a xs/\xs.length=n/\t xs σ H Q
theorem Lg(hc:X.calm=true)(h:Kf X es t)(hn:(assignEach es X.env).length=n:=by rfl)(hst:(assignEach es X.env).findIdx? (·.1)=none:=by rfl):PG X (.Tuple es k pos) (QW X.K n t):=by
 intro pins s σ H v u Q I r hw;obtain⟨a,xs,e1,hq,hl,hw⟩:=hw;subst e1;cases r;obtain⟨its,rv,ht,hz⟩:=I.tuple hq;refine assign_Tuple_tuple (I.ok.hd hc) ht (by simp[hn,<-hl,rv.length]) hst λh' hx=>?_;have I1:Inv X pins σ H {s with heap:=h'}:=I.kept (t':=s.toks) λb o e=>hx b o (SX (SJ e)) e;exact h pins _ σ H xs _ Q I1 (by simpa using rv) hw
def qu(to ti:TE)(t:Pj):TG:=λv σ H Q=>to σ H λo H1=>ti σ H1 λi H2=>t o i v H2 λH3=>Q σ H3
theorem Lh (ho:PE X o to) (hi:PE X i ti) (hs:MZ X t) (ha:∀v,assign (.Subscript o i pos) X.env v=(do
   let ov<-holding [v] (eval o X.env);let iv<-holding [v,ov] (eval i X.env)
   standAt pos
   holding [v,ov,iv] (setItem ov iv v)
   release [v,ov,iv] []):=by intro _;rfl):PG X (.Subscript o i pos) (qu to ti t):=by
 intro pins s σ H v u Q I r h;rw[ha];refine Sa (Uq (cD (ho pins s σ H _ I h) λov s1 ⟨x,H1,I1,r1,q1⟩=>?_));refine Sa (Uq (cD (hi pins s1 σ H1 _ I1 q1) λiv s2 ⟨y,H2,I2,r2,q2⟩=>?_));refine Sa (Uc (Sa (Uq (cD (hs pins s2 σ H2 x y v ov iv u _ I2 r1 r2 r q2) λ_ s3 ⟨H3,I3,q3⟩=>?_))));exact wpAny_release ⟨σ,H3,I3,q3⟩
def Hj(te:TE)(g:TG):TS:=λD σ H=>te σ H λx H1=>g x σ H1 D.nx
theorem E5(he:PE X e te)(hg:PG X tg g)(hs:swapsWithSole [tg] e pos.line X.env=pure false:=by rfl)(hw:swappedStores [tg] e X.env=pure none:=by rfl)(h1:(assignEach [tg] X.env).map (·.2)=[assign tg X.env]:=by rfl):PS X (.Assign [tg] e pos) (Hj te g):=by
 intro pins s σ H D I h;refine wpAny_Assign_stores (cD (he pins s σ H _ I h) λv s1 ⟨x,H1,I1,r1,q1⟩=>?_) hs hw;rw[h1];exact cD (hg pins s1 σ H1 x v _ I1 r1 q1) λ_ s2 q=>q
theorem Ag(hN:X.N.Nodup)(hi:X.N[i]?=some x)(hx:Loc X.env.scope x)(he:PE X e te)(hs:swapsWith e (some (.Name x pos')) pos.line X.env=pure false:=by rfl)(hf:X.fn x=true\/X.env.scope.names.lookup x=some .local:=by first | exact .inl rfl | exact .inr rfl | assumption):
  PS X (.Assign [.Name x pos'] e pos) (Hj te (y2 i)):=by
 intro pins s σ H D I h;refine wpAny_Assign_Name (cD (he pins s σ H _ I h) λv s1 ⟨y,H1,I1,r1,q1⟩=>?_) hs;exact ie I1 hN hi hx r1 (λs2 I2=>⟨_,H1,I2,q1⟩) hf
def NA(i j:Nat)(ta:TA):TS:=λD σ H=>ta σ H λvs H1=>∃v w,vs=[v,w]/\D.nx ((σ.set i (some v)).set j (some w)) H1
theorem jA{kt k2 pt2}(hc:X.calm=true)(hN:X.N.Nodup)(hi:X.N[i]?=some x)(hj:X.N[j]?=some y)(hij:i≠j)(hx:X.env.scope.names.lookup x=some .local)(hy:X.env.scope.names.lookup y=some .local)(ha:PA X [a,b] ta)(hw:swappedStores [.Tuple [.Name x px,.Name y py] kt pt] (.Tuple [a,b] k2 pt2) X.env=pure (some [x,y]))(hs:swapsWithSole [.Tuple [.Name x px,.Name y py] kt pt] (.Tuple [a,b] k2 pt2) pos.line X.env=pure false:=by rfl):
  PS X (.Assign [.Tuple [.Name x px,.Name y py] kt pt] (.Tuple [a,b] k2 pt2) pos) (NA i j ta):=by
 intro pins s σ H D I h;rw[exec_Assign_arm];refine Sa (Uc ?_);rw[hs];refine Sa (Sy ?_);rw[Sv (by decide)];refine Sa (Tuple_ (cD (ha _ pins s σ H _ I h) λus s1 ⟨vs,H1,I1,r1,q1⟩=>?_));obtain⟨v,w,e1,q1⟩:=q1;subst e1;obtain⟨u1,u2,rfl,rv,rw'⟩:∃u1 u2,us=[u1,u2]/\RelV v u1/\RelV w u2:=by
  cases r1 with
  | cons p q=>
   cases q with
   | cons p' q'=>
    cases q';exact⟨_,_,rfl,p,p'⟩
 refine TZ ?_ (by show 2<=sizeLine;decide);have I2:Inv X pins σ H1 {s1 with heap:=s1.heap.push {cls:=.type "tuple",data:=.seq [u1,u2].toArray}}:=I1.kept (t':=s1.toks) λb o e=>Ss _ e;rw[hw];refine Sa (Sy ?_);show wpAny (model X.prog X.w) X.A (do rule "assign.swapped-stores";let items<-unpackItems (.ref s1.heap.objs.size) 2 none;assignInOrder [λv=>bindName X.env y v,λv=>bindName X.env x v] items.reverse;pure Flow.next) _ _ _;refine Sa (VD (Sa (unpackItems_tuple (items:=#[u1,u2]) (I.ok.hd hc) (IsTup.new s1.heap _) λh' hx'=>?_)));have I3:=I2.kept (h':=h') (t':=s1.toks) λb o e=>hx' b o (SX (SJ e)) e;show wpAny _ _ (assignInOrder [λv=>bindName X.env y v,λv=>bindName X.env x v] [u2,u1] >>=λ_=>pure Flow.next) _ _ _;refine Sa (W9 (Xd (ie I3 hN hj (.inl hy) rw' (λs2 I4=>?_) (.inr hy))));refine W9 (Xd (ie I4 hN hi (.inl hx) rv (λs3 I5=>assignInOrder_nil (Sy ?_)) (.inr hx)));rw[List.set_comm _ _ (Um hij)] at I5;exact⟨_,H1,I5,q1⟩
structure It where
 go:Nat->Hp->Prop
 Js:Nat->Hp->V->Hp->Prop
 stop:Nat->Hp->Prop
def ib(X:Cx)(pins:List (Addr×Obj))(H:Hp)(b:Addr):Prop:=
 H b=none/\b≠X.env.locals/\b∉X.fs/\(b∈X.ex\/X.s₀.heap.objs.size<=b)/\(∀x c,X.env.cells.lookup x=some c->c≠b)/\∀p∈X.pn++pins,p.1≠b
theorem Inv.F1(I:Inv X pins σ H s)(hb:s.heap.objs.size<=b)(hn:H' b=none):ib X pins H' b:=by
 refine⟨hn,VZ (SV I.lt hb),I.QP hb,.inr (Sw I.sz hb),λx c e z=>?_,λp hp z=>?_⟩
 ·obtain⟨v,q⟩:=I.cell x c e;exact absurd (SV q.lt (by rw[z];exact hb)) (Uv _)
 ·exact absurd (SV (SJ (I.pin p hp).1) (by rw[z];exact hb)) (Uv _)
structure Turn(P:Program)(w:World)(K:FR)(tg:Expr)(J:It)(fp:List Addr)(it:Addr)(tn:Nat->Heap->Prop):Prop where
 mem:it∈fp
 obj:∀i h,tn i h->∀b∈fp,∃o,h.get? b=some o/\∀v,o.data≠.cell v
 keep:∀i h h',tn i h->(∀b∈fp,∀o,h.get? b=some o->h'.get? b=some o)->tn i h'
 item:∀(X:Cx),X.prog=P->X.w=w->X.K=K->X.calm=true->∀(i:Nat)(pins:List (Addr×Obj)) (s:Shared) (σ:St) (H:Hp) (E:Value->Shared->Prop),Inv X pins σ H s->(∀b∈fp,ib X pins H b)->tn i s.heap->J.go i H->
  wpAny (model P w) X.A (pyNext (.ref it)) (λr s1=>∃u,r=some u/\
   wpAny (model P w) X.A (letOwnedTupleGo tg (.ref it) u) (λ_ s2=>∃x H',Inv X pins σ H' s2/\RelV x u/\J.Js i H x H'/\tn (i+1) s2.heap/\∀b∈fp,H' b=none) E s1) E s
 done:∀(X:Cx),X.prog=P->X.w=w->X.K=K->X.calm=true->∀(i:Nat)(pins:List (Addr×Obj)) (s:Shared) (σ:St) (H:Hp) (E:Value->Shared->Prop),Inv X pins σ H s->(∀b∈fp,ib X pins H b)->tn i s.heap->J.stop i H->
  wpAny (model P w) X.A (pyNext (.ref it)) (λr s1=>r=none/\Inv X pins σ H s1) E s
 self:∀(A:Around)(i:Nat)(s:Shared)(Q:Value->Shared->Prop)(E:Value->Shared->Prop),tn i s.heap->Q (.ref it) s->wpAny (model P w) A (pyIter (.ref it)) Q E s
abbrev TI:=St->Hp->(It->Hp->Prop)->Prop
def RI(X:Cx)(pins:List (Addr×Obj))(σ:St)(tg:Expr)(R:It->Hp->Prop)(itv:Value)(s2:Shared):Prop:=
 ∃(it:Addr)(fp:List Addr)(tn:Nat->Heap->Prop)(J:It)(H':Hp),itv=.ref it/\Inv X pins σ H' s2/\Turn X.prog X.w X.K tg J fp it tn/\tn 0 s2.heap/\(∀b∈fp,ib X pins H' b)/\R J H'
def PI(X:Cx)(tg iter:Expr)(wi:TI):Prop:=
 ∀(pins:List (Addr×Obj)) (s:Shared) (σ:St) (H:Hp) (R:It->Hp->Prop),Inv X pins σ H s->wi σ H R->
  wpAny (model X.prog X.w) X.A (eval iter X.env) (λv s1=>wpAny (model X.prog X.w) X.A (pyIter v) (RI X pins σ tg R) X.xe s1) X.xe s
theorem FZ(ho:s.heap.get? it=some o)(hc:o.cls=.type n)(hd:o.data=.fields vs)(hn:["enumerate","zip","dict_itemiterator","dict_reverseitemiterator","odict_iterator","itertools.zip_longest","itertools.pairwise"].contains n=false)(hQ:Q () s):wpAny M A (letOwnedTupleGo tg (.ref it) u) Q E s:=by
 unfold letOwnedTupleGo;cases tg <;> first
  | exact Sy hQ
  |(cases u <;> first
    | exact Sy hQ
    |(refine Sa (wpAny_load ho ?_);rw[hc,hd];show wpAny M A (if(["enumerate","zip","dict_itemiterator","dict_reverseitemiterator","odict_iterator","itertools.zip_longest","itertools.pairwise"].contains n&&vs[0]?==some (rawInt _))=true then _ else _) Q E s;rw[Sv (by intro h;rw[hn,Bool.false_and] at h;cases h)];exact Sy hQ))
noncomputable def Rj(K:FR)(a:Addr):It:=
 ⟨λi H=>∃xs x,gH K H a xs/\xs[i]?=some x,λi H x H'=>H'=H/\∀xs,gH K H a xs->xs[i]?=some x,λi H=>∃xs,gH K H a xs/\xs.length<=i⟩
noncomputable def Ri(K:FR)(a:Addr):It:=
 ⟨λi H=>∃xs x,kF K H a xs/\xs[i]?=some x,λi H x H'=>H'=H/\∀xs,kF K H a xs->xs[i]?=some x,λi H=>∃xs,kF K H a xs/\xs.length<=i⟩
noncomputable def P2(lo:Int)(n:Nat):It:=⟨λi _=>i < n,λi H x H'=>H'=H/\x=.int (lo+i),λi _=>n<=i⟩
theorem Cm{P:Program}{w:World}{K:FR}{tg:Expr}(a it:Addr):Turn P w K tg (Rj K a) [it] it (λi h=>h.IsListIter it a i) where
 mem:=by simp
 obj:=λi h st b hb=>by
  have e:b=it:=by simpa using hb
  subst e;obtain⟨o,e,c,d⟩:=st;exact⟨o,e,λv z=>by rw[d] at z;cases z⟩
 keep:=λi h h' st k=>st.at λo e=>k it (by simp) o e
 item:=by
  intro X hP hw hK hc i pins s σ H E I hf st hg;subst hP hw hK;obtain⟨xs,x,hq,hx⟩:=hg;obtain⟨its,rv,p,hz⟩:=I.list hq;obtain⟨u,hu,ru⟩:=rv.get hx;obtain⟨f0,f1,f2,f3,f4,f5⟩:=hf it (by simp);refine wpAny_pyNext_list_item st p.isList (x:=u) (by simpa using hu) λh' st' sb=>?_;have I1:Inv X pins σ H {s with heap:=h'}:=I.turned (t':=s.toks) (λb o hb e=>(sb.2 b hb).trans e) f0 f1 f3 f4 f5;obtain⟨o,e,c,d⟩:=id st';exact⟨u,rfl,FZ (s:={s with heap:=h'}) e c d (by decide) ⟨x,H,I1,ru,⟨rfl,λys hy=>by rw[I.yU hy hq];exact hx⟩,st',λb hb=>(hf b hb).1⟩⟩
 done:=by
  intro X hP hw hK hc i pins s σ H E I hf st hg;subst hP hw hK;obtain⟨xs,hq,hx⟩:=hg;obtain⟨its,rv,p,hz⟩:=I.list hq;obtain⟨f0,f1,f2,f3,f4,f5⟩:=hf it (by simp);have hl:=rv.length;exact wpAny_pyNext_list_end (I.ok.hd hc) st p.isList (by simp;lia) λh' eb=>⟨rfl,I.turned (t':=s.toks) (λb o hb e=>eb b o hb e) f0 f1 f3 f4 f5⟩
 self:=λ_ _ _ _ _ st h=>wpAny_pyIter_listiter st h
theorem zM{P:Program}{w:World}{K:FR}{tg:Expr}(a it:Addr):Turn P w K tg (Ri K a) [it] it (λi h=>h.IsTupleIter it a i) where
 mem:=by simp
 obj:=λi h st b hb=>by
  have e:b=it:=by simpa using hb
  subst e;obtain⟨o,e,c,d⟩:=st;exact⟨o,e,λv z=>by rw[d] at z;cases z⟩
 keep:=λi h h' st k=>st.at λo e=>k it (by simp) o e
 item:=by
  intro X hP hw hK hc i pins s σ H E I hf st hg;subst hP hw hK;obtain⟨xs,x,hq,hx⟩:=hg;obtain⟨its,rv,p,hz⟩:=I.tuple hq;obtain⟨u,hu,ru⟩:=rv.get hx;obtain⟨f0,f1,f2,f3,f4,f5⟩:=hf it (by simp);refine wpAny_pyNext_tuple_item st (show s.heap.IsTuple a its.toArray from p) (x:=u) (by simpa using hu) λh' st' sb=>?_;have I1:Inv X pins σ H {s with heap:=h'}:=I.turned (t':=s.toks) (λb o hb e=>(sb.2 b hb).trans e) f0 f1 f3 f4 f5;obtain⟨o,e,c,d⟩:=id st';exact⟨u,rfl,FZ (s:={s with heap:=h'}) e c d (by decide) ⟨x,H,I1,ru,⟨rfl,λys hy=>by rw[I.uM hy hq];exact hx⟩,st',λb hb=>(hf b hb).1⟩⟩
 done:=by
  intro X hP hw hK hc i pins s σ H E I hf st hg;subst hP hw hK;obtain⟨xs,hq,hx⟩:=hg;obtain⟨its,rv,p,hz⟩:=I.tuple hq;obtain⟨f0,f1,f2,f3,f4,f5⟩:=hf it (by simp);have hl:=rv.length;exact wpAny_pyNext_tuple_end (I.ok.hd hc) st (show s.heap.IsTuple a its.toArray from p) (by simp;lia) λh' eb=>⟨rfl,I.turned (t':=s.toks) (λb o hb e=>eb b o hb e) f0 f1 f3 f4 f5⟩
 self:=λ_ _ _ _ _ st h=>wpAny_pyIter_tupleiter st h
theorem zN{P:Program}{w:World}{K:FR}{tg:Expr}(it:Addr)(lo:Int)(n:Nat):Turn P w K tg (P2 lo n) [it] it (λi h=>IsRangeIter h it (lo+(i:Nat)*1) ((n:Int)-(i:Nat)) 1) where
 mem:=by simp
 obj:=λi h st b hb=>by
  have e:b=it:=by simpa using hb
  subst e;exact⟨_,st,λv z=>by
   have z':Data.fields _=Data.cell v:=z;cases z'⟩
 keep:=λi h h' st k=>k it (by simp) _ st
 item:=by
  intro X hP hw hK hc i pins s σ H E I hf st hg;subst hP hw hK;obtain⟨f0,f1,f2,f3,f4,f5⟩:=hf it (by simp);have W:=Walks.range (prog:=X.prog) (w:=X.w) (I.ok.hd hc) it lo 1 n;refine W.item i s _ _ hg st λv h' tk hv st' kk=>?_;obtain⟨t,rfl⟩:=hv;have I1:Inv X pins σ H {s with heap:=h',toks:=tk}:=I.turned (λb o hb e=>kk b o (by simpa using hb) e) f0 f1 f3 f4 f5;refine⟨_,rfl,FZ (s:={s with heap:=h',toks:=tk}) (n:="range_iterator") st' rfl rfl (by decide) ⟨.int (lo+i),H,I1,⟨t,?_⟩,⟨rfl,rfl⟩,st',λb hb=>(hf b hb).1⟩⟩;rw[Int.mul_one]
 done:=by
  intro X hP hw hK hc i pins s σ H E I hf st hg;subst hP hw hK;obtain⟨f0,f1,f2,f3,f4,f5⟩:=hf it (by simp);exact wpAny_pyNext_range_end (I.ok.hd hc) st (by have:n<=i:=hg;lia) λh' eb=>⟨rfl,I.turned (t':=s.toks) (λb o hb e=>eb b o hb e) f0 f1 f3 f4 f5⟩
 self:=λ_ _ _ _ _ st h=>wpAny_pyIter_rangeiter st h
theorem EK{pins:List (Addr×Obj)}{σ:St}{H:Hp}{s:Shared}{R:It->Hp->Prop}{E:Value->Shared->Prop}{lo hi:Int}{t u v:Tok}{tk:Nat}(I:Inv X pins σ H s)(h1:-(2^62)<=lo)(h2:lo < 2^62)(h3:-(2^62)<=hi)(h4:hi < 2^62)
  (q:R (P2 lo (hi-lo).toNat) H):wpAny (model X.prog X.w) X.A (pyIter (.ref s.heap.objs.size)) (RI X pins σ tg R) E {s with heap:=s.heap.push {cls:=.type "range",data:=.fields #[.int lo t,.int hi u,.int 1 v]},toks:=tk}:=by
 refine wpAny_pyIter_range (IsRange.new ..) (small_one h1 h2 h3 h4) ?_;have I1:Inv X pins σ H {s with heap:=s.heap.push {cls:=.type "range",data:=.fields #[.int lo t,.int hi u,.int 1 v]},toks:=tk}:=I.kept λb o e=>Ss _ e;refine⟨(s.heap.push {cls:=.type "range",data:=.fields #[.int lo t,.int hi u,.int 1 v]}).objs.size,[(s.heap.push {cls:=.type "range",data:=.fields #[.int lo t,.int hi u,.int 1 v]}).objs.size],_,_,H,rfl,
  I1.kept (t':=tk) λb o e=>Ss _ e,zN _ lo (hi-lo).toNat,?_,λb hb=>?_,q⟩
 ·have e1:lo+((0:Nat):Int)*1=lo:=by simp
  have e2:(((hi-lo).toNat:Nat):Int)-((0:Nat):Int)=Builtin.Range.rangeSize lo hi 1:=by rw[rangeSize_one];split <;> lia
  show IsRangeIter _ _ (lo+((0:Nat):Int)*1) ((((hi-lo).toNat:Nat):Int)-((0:Nat):Int)) 1;rw[e1,e2];exact Tc _ rfl
 ·have e:b=(s.heap.push {cls:=.type "range",data:=.fields #[.int lo t,.int hi u,.int 1 v]}).objs.size:=by simpa using hb
  subst e;exact I1.F1 (Sj _) (I1.bg.fresh (Sj _))
def OK(ta:TA):TI:=λσ H R=>ta σ H λvs H1=>∃j:Int,vs=[.int j]/\-(2^62)<=j/\j < 2^62/\R (P2 0 j.toNat) H1
theorem CG{a:Expr}{ta:TA}{p pos:Pos}(hg:Gl X "range")(hm:X.mg "range"=none)(ha:PA X [a] ta)(hs:starEach [a] X.env=[(false,eval a X.env)]:=by rfl):PI X tg (.Call (.Name "range" p) [a] [] pos) (OK ta):=by
 intro pins s σ H R I h;refine Call_ (jO I hg hm boot_range (Ur (cD (ha pos pins s σ H _ I h) λus s1 ⟨vs,H1,I1,r1,q1⟩=>?_) hs rfl));obtain⟨j,e,q1,q2,q⟩:=q1;subst e;cases r1 with
 | cons r rr=>
  cases rr;obtain⟨t,rfl⟩:=r;exact call_range_1 (EK I1 (by lia) (by lia) q1 q2 (by simpa using q))
def NH(wi:TI)(g:TG)(tb:TS):TS:=λD σ H=>wi σ H λJ H1=>∃W:Nat->Nat->St->Hp->Prop,(∃m,W 0 m σ H1)/\∀i m σ H,W i m σ H->
 (J.stop i H/\D.nx σ H)\/(J.go i H/\∃N:St->Hp->Prop,(∀σ' H',N σ' H'->∃m',m' < m/\W (i+1) m' σ' H')/\∀x H',J.Js i H x H'->g x σ H' λσ2 H2=>tb {D with nx:=N,ct:=N,bk:=D.nx} σ2 H2)
noncomputable def oB(fp:List Addr)(h:Heap):List (Addr×Obj):=fp.filterMap λb=>(h.get? b).map λo=>(b,o)
theorem fh(hb:b∈fp)(e:h.get? b=some o):(b,o)∈oB fp h:=Uy.mpr ⟨b,hb,by rw[e];rfl⟩
theorem CJ(hp:p∈oB fp h):p.1∈fp/\h.get? p.1=some p.2:=by
 obtain⟨b,hb,e⟩:=Uy.mp hp;cases q:h.get? b with
 | none=>rw[q] at e;cases e
 | some o=>
  rw[q] at e;have e':(b,o)=p:=Option.some.inj e;subst e';exact⟨hb,q⟩
theorem Inv.pinned(I:Inv X pins σ H s)(hf:∀b∈fp,ib X pins H b)(ho:∀b∈fp,∃o,s.heap.get? b=some o/\∀v,o.data≠.cell v):Inv X (pins++oB fp s.heap) σ H s:=
 I.Bw λp hp=>(SF.mp hp).elim (λz=>I.pin p (So _ z)) λz=>by
  obtain⟨hb,e⟩:=CJ z;obtain⟨f0,f1,f2,_⟩:=hf p.1 hb;obtain⟨o,e',d⟩:=ho p.1 hb;rw[e] at e';cases e';exact⟨e,f0,f1,f2,d⟩
theorem Inv.jl(I:Inv X (pins++pl) σ H s):Inv X pins σ H s:=I.Bw λp hp=>I.pin p (So _ (S8 _ hp))
theorem Ld(hp:PassesOwn (model X.prog X.w) X.A X.env X.xe)(hc:X.calm=true)(hi:PI X tg iter wi)(hg:PG X tg g)(hb:xX X body tb)(hs:∀x,foldedSetIterable iter X.env x=pure x:=by intro _;rfl):PS X (.For tg iter body [] pos) (NH wi g tb):=by
 intro pins s σ H D I h;refine wpAny_For (cD (hi pins s σ H _ I h) λv s1 h1=>cD h1 λitv s2 h2=>?_) hs;obtain⟨it,fp,tn,J,H2,e,I2,T,st2,f2,W,⟨m0,w0⟩,turn⟩:=h2;subst e;have stat:∀{H':Hp},(∀b∈fp,H' b=none)->∀b∈fp,ib X pins H' b:=λhn b hb=>⟨hn b hb,(f2 b hb).2⟩;refine codeAny_forLoop_any (λn s'=>∃i σ' H',Inv X pins σ' H' s'/\tn i s'.heap/\(∀b∈fp,H' b=none)/\W i n σ' H') ?_ m0 ⟨0,σ,H2,I2,st2,λb hb=>(f2 b hb).1,w0⟩;rintro n s3 ⟨i,σ3,H3,I3,st3,fr3,w3⟩;rcases turn i n σ3 H3 w3 with⟨stop,qn⟩ |⟨go,N,hN,step⟩
 ·refine VJ hp (cD (T.done X rfl rfl rfl hc i pins s3 σ3 H3 X.xe I3 (stat fr3) st3 stop) λr s4 ⟨hr,I4⟩=>?_);subst hr;exact Vp ⟨σ3,H3,I4,qn⟩
 ·refine VJ hp (cD (T.item X rfl rfl rfl hc i pins s3 σ3 H3 X.xe I3 (stat fr3) st3 go) λr s4 ⟨u,hr,h4⟩=>?_);subst hr;refine VJ hp (cD h4 λ_ s5 ⟨x,H5,I5,r5,y5,st5,fr5⟩=>?_);have I5':=I5.pinned (stat fr5) (T.obj _ _ st5);refine VJ hp (cD (hg _ s5 σ3 H5 x u _ I5' r5 (step x H5 y5)) λ_ s6 ⟨σ6,H6,I6,q6⟩=>?_);refine VJ hp (cD (hb _ s6 σ6 H6 _ I6 q6) λf s7 q7=>?_);have again:∀{σ7:St} {H7:Hp},Inv X (pins++oB fp s5.heap) σ7 H7 s7->N σ7 H7->∃m,m < n/\∃i σ' H',Inv X pins σ' H' s7/\tn i s7.heap/\(∀b∈fp,H' b=none)/\W i m σ' H':=λ{σ7 H7} I7 n7=>by
   obtain⟨m',hm,w7⟩:=hN σ7 H7 n7;refine⟨m',hm,i+1,σ7,H7,I7.jl,T.keep _ _ _ st5 λb hb o e=>(I7.pin (b,o) (So _ (So _ (fh hb e)))).1,λb hb=>?_,w7⟩;obtain⟨o,e,d⟩:=T.obj _ _ st5 b hb;exact(I7.pin (b,o) (So _ (So _ (fh hb e)))).2.1
  cases f with
  | next=>obtain⟨σ7,H7,I7,n7⟩:=q7;exact again I7 n7
  | cont=>obtain⟨σ7,H7,I7,n7⟩:=q7;exact again I7 n7
  | brk=>obtain⟨σ7,H7,I7,q7⟩:=q7;exact⟨σ7,H7,I7.jl,q7⟩
  | ret v=>obtain⟨x7,σ7,H7,I7,r7,q7⟩:=q7;exact⟨x7,σ7,H7,I7.jl,r7,q7⟩
abbrev R2:=V->V->Hp->VK->Prop
def nQ(X:Cx)(f:Value->Value->Sem Value)(r:R2):Prop:=
 ∀(pins:List (Addr×Obj)) (s:Shared) (σ:St) (H:Hp) (x y:V) (v u:Value) (Q:VK),Inv X pins σ H s->RelV x v->RelV y u->r x y H Q->
  wpAny (model X.prog X.w) X.A (f v u) (EP X pins σ Q) X.xe s
def Pf(X:Cx)(f:Value->Sem Value)(r:V->Hp->VK->Prop):Prop:=
 ∀(pins:List (Addr×Obj)) (s:Shared) (σ:St) (H:Hp) (x:V) (v:Value) (Q:VK),Inv X pins σ H s->RelV x v->r x H Q->
  wpAny (model X.prog X.w) X.A (f v) (EP X pins σ Q) X.xe s
def fY(X:Cx)(f:Value)(r:List V->Hp->VK->Prop):Prop:=
 ∀(pins:List (Addr×Obj)) (s:Shared) (σ:St) (H:Hp) (xs:List V) (us:List Value) (Q:VK),Inv X pins σ H s->Vals xs us->r xs H Q->
  wpAny (model X.prog X.w) X.A (call f us) (EP X pins σ Q) X.xe s
def Rb(X:Cx)(r:V->Hp->(Bool->Hp->Prop)->Prop):Prop:=
 ∀(pins:List (Addr×Obj)) (s:Shared) (σ:St) (H:Hp) (x:V) (v:Value) (Q:Bool->Hp->Prop),Inv X pins σ H s->RelV x v->r x H Q->
  wpAny (model X.prog X.w) X.A (truthy v) (TP X pins σ Q) X.xe s
def NB(r:R2)(ta tb:TE):TE:=λσ H Q=>ta σ H λx H1=>tb σ H1 λy H2=>r x y H2 Q
def RP(r:V->Hp->VK->Prop)(ta:TE):TE:=λσ H Q=>ta σ H λx H1=>r x H1 Q
def rI(C:Int->Int->Prop)(g:Int->Int->V):R2:=λx y H Q=>∃i j,x=.int i/\y=.int j/\C i j/\Q (g i j) H
def HG(g:Int->Int->V):R2:=λx y H Q=>∃i j,x=.int i/\y=.int j/\Q (g i j) H
def rU(g:Int->V):V->Hp->VK->Prop:=λx H Q=>∃i,x=.int i/\Q (g i) H
theorem MN(ha:PE X a ta)(hb:PE X b tb){pins:List (Addr×Obj)}{s:Shared}{σ:St}{H:Hp}{R:V->V->Hp->Prop}(I:Inv X pins σ H s)
  (h:ta σ H λx H1=>tb σ H1 λy H2=>R x y H2) {Q:Value->Shared->Prop} {f:Value->Value->Sem Value}
  (hf:∀v u s2 x y H2,Inv X pins σ H2 s2->RelV x v->RelV y u->R x y H2->wpAny (model X.prog X.w) X.A (f v u) Q X.xe s2):
  wpAny (model X.prog X.w) X.A (eval a X.env) (λv s₁=>wpAny (model X.prog X.w) X.A (eval b X.env) (λu s₂=>wpAny (model X.prog X.w) X.A (f v u) Q X.xe s₂) X.xe s₁) X.xe s:=by
 refine cD (ha pins s σ H _ I h) λv s1 ⟨x,H1,I1,r1,q1⟩=>?_;refine cD (hb pins s1 σ H1 _ I1 q1) λu s2 ⟨y,H2,I2,r2,q2⟩=>?_;exact hf v u s2 x y H2 I2 r1 r2 q2
theorem JL{op:Operator}{r:R2}(ho:nQ X (binaryOp op) r)(ha:PE X a ta)(hb:PE X b tb):PE X (.BinOp a op b pos) (NB r ta tb):=by
 intro pins s σ H Q I h;exact wpAny_BinOp (MN ha hb I h λv u s2 x y H2 I2 rx ry q=>ho pins s2 σ H2 x y v u Q I2 rx ry q)
theorem Og(ho:Pf X (unaryOp op) r)(ha:PE X a ta):PE X (.UnaryOp op a pos) (RP r ta):=by
 intro pins s σ H Q I h;exact UnaryOp_ (cD (ha pins s σ H _ I h) λv s1 ⟨x,H1,I1,r1,q1⟩=>ho pins s1 σ H1 x v Q I1 r1 q1)
theorem PV{f:Value->Value->Sem Value}{C:Int->Int->Prop}{g:Int->Int->Int}
  (rule:∀(i j:Int)(t u:Tok)(s:Shared)(Q:Value->Shared->Prop)(E:Value->Shared->Prop),C i j->Q (.int (g i j) s.toks) {s with toks:=s.toks+1}->wpAny (model X.prog X.w) X.A (f (.int i t) (.int j u)) Q E s):
  nQ X f (rI C λi j=>.int (g i j)):=by
 intro pins s σ H x y v u Q I rx ry h;obtain⟨i,j,rfl,rfl,hc,q⟩:=h;obtain⟨t,rfl⟩:=rx;obtain⟨t',rfl⟩:=ry;exact rule i j t t' s _ _ hc ⟨.int (g i j),H,I.tok _,⟨_,rfl⟩,q⟩
theorem Ox{f:Value->Value->Sem Value}{g:Int->Int->Int}
  (rule:∀(i j:Int)(t u:Tok)(s:Shared)(Q:Value->Shared->Prop)(E:Value->Shared->Prop),Q (.int (g i j) s.toks) {s with toks:=s.toks+1}->wpAny (model X.prog X.w) X.A (f (.int i t) (.int j u)) Q E s):
  nQ X f (HG λi j=>.int (g i j)):=by
 intro pins s σ H x y v u Q I rx ry h;obtain⟨i,j,rfl,rfl,q⟩:=h;obtain⟨t,rfl⟩:=rx;obtain⟨t',rfl⟩:=ry;exact rule i j t t' s _ _ ⟨.int (g i j),H,I.tok _,⟨_,rfl⟩,q⟩
theorem Io{f:Value->Value->Sem Value}{g:Int->Int->Bool}
  (rule:∀(i j:Int)(t u:Tok)(s:Shared)(Q:Value->Shared->Prop)(E:Value->Shared->Prop),Q (.bool (g i j)) s->wpAny (model X.prog X.w) X.A (f (.int i t) (.int j u)) Q E s):
  nQ X f (HG λi j=>.bl (g i j)):=by
 intro pins s σ H x y v u Q I rx ry h;obtain⟨i,j,rfl,rfl,q⟩:=h;obtain⟨t,rfl⟩:=rx;obtain⟨t',rfl⟩:=ry;exact rule i j t t' s _ _ ⟨.bl (g i j),H,I,rfl,q⟩
def Ro(i j:Int):Prop:=0<=j/\j<=1000000/\i.natAbs < 2^64
def M4(i j:Int):Prop:=(-(2^64) < i/\i < 2^64)\/(-(2^64) < j/\j < 2^64)
theorem M4.ok(h:M4 i j):IntMulOk i j:=by
 rcases h with⟨h1,h2⟩ |⟨h1,h2⟩
 ·exact .of_left (intBits_le_64 h1 h2)
 ·exact .of_right (intBits_le_64 h1 h2)
theorem LG:nQ X (binaryOp .Add) (HG λi j=>.int (i+j)):=Ox λ_ _ _ _ _ _ _ q=>add_int q
theorem Lz:nQ X (binaryOp .Sub) (HG λi j=>.int (i-j)):=Ox λ_ _ _ _ _ _ _ q=>sub_int q
theorem LC:nQ X (binaryOp .Mult) (rI M4 λi j=>.int (i*j)):=PV λ_ _ _ _ _ _ _ hc q=>mul_int q hc.ok
theorem LD:nQ X (binaryOp .Mod) (rI (λ_ j=>0 < j) λi j=>.int (i % j)):=PV λi j _ _ _ _ _ hc q=>by
 have h1:(0:Int) < j:=hc;exact mod_int' (by lia) (by rw[Int.fmod_eq_emod_of_nonneg i (by lia)];exact q)
theorem LB:nQ X (binaryOp .Pow) (rI Ro λi j=>.int (i^j.toNat)):=PV λ_ _ _ _ _ _ _ hc q=>pow_int_small hc.1 hc.2.1 hc.2.2 q
theorem RN{f:Value->Sem Value}{g:Int->Int}
  (rule:∀(i:Int)(t:Tok)(s:Shared)(Q:Value->Shared->Prop)(E:Value->Shared->Prop),Q (.int (g i) s.toks) {s with toks:=s.toks+1}->wpAny (model X.prog X.w) X.A (f (.int i t)) Q E s):
  Pf X f (rU λi=>.int (g i)):=by
 intro pins s σ H x v Q I rx h;obtain⟨i,rfl,q⟩:=h;obtain⟨t,rfl⟩:=rx;exact rule i t s _ _ ⟨.int (g i),H,I.tok _,⟨_,rfl⟩,q⟩
theorem Kp:Pf X (unaryOp .USub) (rU λi=>.int (-i)):=RN λ_ _ _ _ _ q=>neg_int q
theorem Mh(I:Inv X pins σ H s)(q:Q (.bl k) H)(e:k=k'):EP X pins σ Q (.bool k') s:=by
 subst e;exact⟨.bl k,H,I,rfl,q⟩
theorem Ot:nQ X (compareOp .Lt) (HG λi j=>.bl (decide (i < j))):=Io λ_ _ _ _ _ _ _ q=>lt_int q
theorem Ou:nQ X (compareOp .LtE) (HG λi j=>.bl (decide (i<=j))):=Io λ_ _ _ _ _ _ _ q=>le_int q
theorem Ov:nQ X (compareOp .Gt) (HG λi j=>.bl (decide (j < i))):=Io λ_ _ _ _ _ _ _ q=>gt_int q
theorem Ow:nQ X (compareOp .GtE) (HG λi j=>.bl (decide (j<=i))):=Io λ_ _ _ _ _ _ _ q=>ge_int q
theorem LF:nQ X (compareOp .Is) (λx y H Q=>y=.cq/\Q (.bl (decide (x=.cq))) H):=by
 intro pins s σ H x y v u Q I rx ry h;obtain⟨rfl,q⟩:=h;cases ry;refine is_none_gen (Mh I q ?_);cases x <;> first
  |(cases rx;rfl)
  |(obtain⟨t,rfl⟩:=rx;rfl)
theorem fg(b:Expr)(h:op≠.In:=by decide)(h2:op≠.NotIn:=by decide):behindInMarks op b=false:=by
 have e1:(op==CmpOp.In)=false:=by cases op <;> first | rfl | exact absurd rfl h
 have e2:(op==CmpOp.NotIn)=false:=by cases op <;> first | rfl | exact absurd rfl h2
 cases b <;> simp[behindInMarks,e1,e2]
theorem Ih{op:CmpOp}{r:R2}(ho:nQ X (compareOp op) r)(ha:PE X a ta)(hb:PE X b tb)(hm:behindInMarks op b=false):PE X (.Compare a [op] [b] pos) (NB r ta tb):=by
 intro pins s σ H Q I h;exact wpAny_Compare1 (MN ha hb I h λv u s2 x y H2 I2 rx ry q=>ho pins s2 σ H2 x y v u Q I2 rx ry q) hm
def Jx(t:TE):TT:=λσ H Q=>t σ H λx H'=>∃k,x=.bl k/\Q k H'
theorem HK(ho:nQ X (compareOp op) r)(ha:PE X a ta)(hb:PE X b tb)(hm:behindInMarks op b=false):PT X (.Compare a [op] [b] pos) (Jx (NB r ta tb)):=by
 intro pins s σ H Q I h;refine wpAny_isTrue_Compare1 (cD (ha pins s σ H _ I h) λv s1 ⟨x,H1,I1,r1,q1⟩=>cD (hb pins s1 σ H1 _ I1 q1) λu s2 ⟨y,H2,I2,r2,q2⟩=>
  cD (ho pins s2 σ H2 x y v u _ I2 r1 r2 q2) λc s3 ⟨z,H3,I3,r3,k,e,q3⟩=>?_) hm
 subst e;cases r3;exact Ud ⟨H3,I3,q3⟩
def zS(r r':R2)(ta tb tc:TE):TE:=λσ H Q=>ta σ H λx H1=>tb σ H1 λy H2=>r x y H2 λz H3=>∃k,z=.bl k/\
 (if k=true then tc σ H3 λw' H4=>r' y w' H4 Q else Q (.bl false) H3)
theorem Fj(ho:nQ X (compareOp op) r)(ho':nQ X (compareOp op') r')(ha:PE X a ta)(hb:PE X b tb)(hc:PE X c tc)(hm:lastMarks [op,op'] [b,c]=false:=by with_unfolding_all rfl):PE X (.Compare a [op,op'] [b,c] pos) (zS r r' ta tb tc):=by
 intro pins s σ H Q I h;refine Compare_chain (cD (ha pins s σ H _ I h) λv s1 ⟨x,H1,I1,r1,q1⟩=>chain_link (cD (hb pins s1 σ H1 _ I1 q1) λu s2 ⟨y,H2,I2,r2,q2⟩=>
  cD (ho pins s2 σ H2 x y v u _ I2 r1 r2 q2) λd s3 ⟨z,H3,I3,r3,k,e,q3⟩=>?_)) hm
 subst e;cases r3;refine Ud ?_;cases k with
 | false=>exact ite_ff ⟨.bl false,H3,I3,rfl,q3⟩
 | true=>exact ite_tt (chain_last (cD (hc pins s3 σ H3 _ I3 q3) λw' s4 ⟨z',H4,I4,r4,q4⟩=>ho' pins s4 σ H4 y z' u w' Q I4 r2 r4 q4))
theorem EZ(ho:nQ X (compareOp op) r)(ho':nQ X (compareOp op') r')(ha:PE X a ta)(hb:PE X b tb)(hc:PE X c tc)(hm:lastMarks [op,op'] [b,c]=false:=by with_unfolding_all rfl):PT X (.Compare a [op,op'] [b,c] pos) (Jx (zS r r' ta tb tc)):=by
 intro pins s σ H Q I h;refine isTrue_chain (cD (ha pins s σ H _ I h) λv s1 ⟨x,H1,I1,r1,q1⟩=>test_link (cD (hb pins s1 σ H1 _ I1 q1) λu s2 ⟨y,H2,I2,r2,q2⟩=>
  cD (ho pins s2 σ H2 x y v u _ I2 r1 r2 q2) λd s3 ⟨z,H3,I3,r3,k,e,q3⟩=>?_)) hm
 subst e;cases r3;refine Ud ?_;cases k with
 | false=>
  obtain⟨k',e',q'⟩:=q3;cases e';exact ite_ff ⟨H3,I3,q'⟩
 | true=>
  refine ite_tt (test_last (cD (hc pins s3 σ H3 _ I3 q3) λw' s4 ⟨z',H4,I4,r4,q4⟩=>cD (ho' pins s4 σ H4 y z' u w' _ I4 r2 r4 q4) λd' s5 ⟨z2,H5,I5,r5,k2,e2,q5⟩=>?_));subst e2;cases r5;exact Ud ⟨H5,I5,q5⟩
def Jo(K:FR)(x:V)(H:Hp)(k:Bool):Prop:=
 match x with
 | .cq=>k=false
 | .bl b=>k=b
 | .int i=>k=(i !=0)
 | .str y=>y.length<=sizeLine/\k=((y.length:Int) !=0)
 | .byt y=>y.size<=sizeLine/\k=((y.size:Int) !=0)
 | .ref p=>(∃xs,gH K H p xs/\k=!xs.isEmpty)\/(∃xs,kF K H p xs/\k=!xs.isEmpty)\/∃kvs,H p=some (.dK kvs)/\k=!kvs.isEmpty
 | _=>False
theorem AG(r:KV kvs vs):(!vs.isEmpty)=!kvs.isEmpty:=by
 cases r <;> rfl
theorem sR(r:Vals xs its):(!its.toArray.isEmpty)=!xs.isEmpty:=by
 cases r <;> simp
theorem lC:(sizeLine:Nat) < 2^63:=by rw[Ve];decide
theorem D6:Rb X (λx H Q=>∃k,Jo X.K x H k/\Q k H):=by
 intro pins s σ H x v Q I rx h;obtain⟨k,e,q⟩:=h;have hl:=lC;have hs:sizeLine=16777216:=Ve;cases x with
 | cq=>
  cases rx;have e':k=false:=e;subst e';exact truthy_none ⟨H,I,q⟩
 | bl b=>
  cases rx;have e':k=b:=e;subst e';exact Ud ⟨H,I,q⟩
 | int i=>
  obtain⟨t,rfl⟩:=rx;have e':k=(i !=0):=e;subst e';exact PySem.P.truthy_int ⟨H,I,q⟩
 | str y=>
  obtain⟨t,rfl⟩:=rx;obtain⟨hy,e'⟩:y.length<=sizeLine/\k=((y.length:Int) !=0):=e;subst e';exact PySem.P.truthy_str (by lia) ⟨H,I.tok _,q⟩
 | byt y=>
  obtain⟨t,rfl⟩:=rx;obtain⟨hy,e'⟩:y.size<=sizeLine/\k=((y.size:Int) !=0):=e;subst e';exact PySem.W.truthy_bytes (by lia) ⟨H,I.tok _,q⟩
 | ref p=>
  cases rx;have e':(∃xs,gH X.K H p xs/\k=!xs.isEmpty)\/(∃xs,kF X.K H p xs/\k=!xs.isEmpty)\/∃kvs,H p=some (.dK kvs)/\k=!kvs.isEmpty:=e;rcases e' with⟨xs,hx,e'⟩ |⟨xs,hx,e'⟩ |⟨kvs,hx,e'⟩
  ·subst e';obtain⟨its,r,pl,hz⟩:=I.list hx;have hlen:=r.length;exact wpAny_truthy_list pl.isList (by simp only[SH];lia) ⟨H,I.tok _,by rw[sR r];exact q⟩
  ·subst e';obtain⟨its,r,pl,hz⟩:=I.tuple hx;have hlen:=r.length;exact truthy_tuple pl (by simp only[SH];lia) ⟨H,I.tok _,by rw[sR r];exact q⟩
  ·subst e';obtain⟨hz,hS,vs,r,m⟩:kvs.length<=sizeLine/\(p==sysModules)=false/\∃vs,KV kvs vs/\s.heap.DictOf (bX X.prog X.w) p vs:=I.bg p _ hx;have hlen:kvs.length=vs.length:=Paired.length r;exact wpAny_truthy_dict hS m (by lia) ⟨H,I.tok _,by rw[AG r];exact q⟩
 | _=>exact(show False from e).elim
theorem EY(ha:PE X a ta)(he:∀whole,isTrue a X.env whole=(do let v<-whole;standAt a.pos;holding [v] (truthy v))):
  PT X a (λσ H Q=>ta σ H λx H'=>∃k,Jo X.K x H' k/\Q k H'):=by
 intro pins s σ H Q I h;exact isTrue_plain (cD (ha pins s σ H _ I h) λv s1 ⟨x,H1,I1,r1,q1⟩=>D6 pins s1 σ H1 x v Q I1 r1 q1) (he _)
theorem An:nQ X (binaryOp .Add) (λx y H Q=>∃i j,x=.str i/\y=.str j/\i.length+j.length<=sizeLine/\Q (.str (i++j)) H):=by
 intro pins s σ H x y v u Q I rx ry h;obtain⟨i,j,rfl,rfl,hz,q⟩:=h;obtain⟨t,rfl⟩:=rx;obtain⟨t',rfl⟩:=ry;exact add_str (λt' tk=>⟨.str (i++j),H,I.tok _,⟨_,rfl⟩,q⟩) hz
theorem vals1(r:Vals [x] us):∃u,us=[u]/\RelV x u:=by
 cases r with
 | cons r1 r2=>cases r2;exact⟨_,rfl,r1⟩
theorem vals2(r:Vals [x,y] us):∃u w',us=[u,w']/\RelV x u/\RelV y w':=by
 cases r with
 | cons r1 r2=>
  cases r2 with
  | cons r3 r4=>cases r4;exact⟨_,_,rfl,r1,r3⟩
theorem GG:fY X (.builtin "abs") (λxs H Q=>∃i,xs=[.int i]/\Q (.int (if i < 0 then -i else i)) H):=by
 intro pins s σ H xs us Q I r h;obtain⟨i,rfl,q⟩:=h;obtain⟨u,rfl,t,rfl⟩:=vals1 r;exact call_abs_int λu tk=>⟨.int (if i < 0 then -i else i),H,I.tok _,⟨_,rfl⟩,q⟩
theorem Du(hc:X.calm=true):fY X (.builtin "max") (λxs H Q=>∃i j,xs=[.int i,.int j]/\Q (.int (if j > i then j else i)) H):=by
 intro pins s σ H xs us Q I r h;obtain⟨i,j,rfl,q⟩:=h;obtain⟨u,w',rfl,⟨t,rfl⟩,⟨t',rfl⟩⟩:=vals2 r;refine max_two_ints (I.ok.hd hc) λh' tk k=>⟨_,H,I.kept k,?_,q⟩
 by_cases hj:j > i
 ·rw[Si hj,Si hj];exact⟨_,rfl⟩
 ·rw[Sv hj,Sv hj];exact⟨_,rfl⟩
theorem Dt(hc:X.calm=true):fY X (.builtin "min") (λxs H Q=>∃i j,xs=[.int i,.int j]/\Q (.int (if j < i then j else i)) H):=by
 intro pins s σ H xs us Q I r h;obtain⟨i,j,rfl,q⟩:=h;obtain⟨u,w',rfl,⟨t,rfl⟩,⟨t',rfl⟩⟩:=vals2 r;refine min_two_ints (I.ok.hd hc) λh' tk k=>⟨_,H,I.kept k,?_,q⟩
 by_cases hj:j < i
 ·rw[Si hj,Si hj];exact⟨_,rfl⟩
 ·rw[Sv hj,Sv hj];exact⟨_,rfl⟩
theorem xF:fY X (.type "str") (λxs H Q=>∃i,xs=[.int i]/\i.natAbs.log2 < 1920/\Q (.str (toString i)) H):=by
 intro pins s σ H xs us Q I r h;obtain⟨i,rfl,hz,q⟩:=h;obtain⟨u,rfl,t,rfl⟩:=vals1 r;exact PySem.P.str_of_int hz ⟨.str _,H,I.tok _,⟨_,rfl⟩,q⟩
structure M3(h:Heap)(x dx C:Addr)(mA:Str->Option Value):Prop where
 obj:h.get? x=some (PySem.W.instObj C dx)
 ns:h.Ns1 dx mA
 ne:dx≠x
theorem CW{h:Heap}{dx:Addr}{mA:Str->Option Value}(n:h.Ns1 dx mA):∃od,h.get? dx=some od/\∀name,PySem.W.lookIn name od=some (mA name):=by
 obtain⟨o,es,ep,ho,hd,hk,_,hm⟩:=n;refine⟨o,ho,λname=>?_⟩;have e:=hm name;unfold nsFind findBy at e;rw[<-Xq] at e;unfold PySem.W.lookIn;rw[hd];dsimp only
 split
 ·rename_i y q;rw[q] at e;exact congrArg some e
 ·rename_i q;rw[q] at e;have a:es.toList.any (·.refKey)=false:=by
   rw[XA];intro y hy;obtain⟨z,t,hkey⟩:=hk y (U8.mp hy);simp[DictEntry.refKey,hkey]
  have a':¬es.toList.any (·.refKey)=true:=by rw[a];exact UA
  rw[Sv a'];exact congrArg some e
theorem M3.look(I:M3 h x dx C mA):∃od,PySem.W.InstAt h x (PySem.W.instObj C dx) C (some od)/\∀name,PySem.W.lookIn name od=some (mA name):=
 let⟨od,ho,hl⟩:=CW I.ns
 ⟨od,⟨I.obj,rfl,rfl,ho⟩,hl⟩
section
variable {prog:Program} {w:World} {A:Around} {E:Value->Shared->Prop} {s:Shared} {K:FR} {x dx C f:Addr} {mA:Str->Option Value} {name:Str} {v:Value}
end
theorem oY.some_of(r:oY (some v) o):∃u,o=some u/\RelV v u:=by
 cases o with
 | none=>exact(show False from r).elim
 | some u=>exact⟨u,rfl,r⟩
theorem II(bg:jT P w H h)(e:H a=some (.ins C dx fs)):∃mA,M3 h a dx C mA/\(∀f,oY (fs.lookup f) (mA f))/\PySem.Within mA (fs.map (·.1))/\fs.length<=1000/\H dx=some (.own a):=by
 obtain⟨d,z,ne,ob,mA,n,r,q⟩:=(show bS P w H h a (.ins C dx fs) from bg a _ e);exact⟨mA,⟨ob,n,ne⟩,r,q,z,d⟩
structure Rm(K:FR)(C:Addr):Prop where
 pg:PySem.W.plainGet K C Str.empty=true
 hd:PySem.W.hasDictIn K C=true
 po:PySem.W.plainOver K C=true
 sa:PySem.W.findIn K (.ref C) "__setattr__"=some (some (.builtin "object.__setattr__"))
theorem Rm.get{K:FR}{C:Addr}(c:Rm K C)(f:Str):PySem.W.plainGet K C f=true:=c.pg
inductive nE(K:FR)(H:Hp):V->Value->Prop where
 | cq:nE K H .cq (.type "NoneType")
 | bl (x:Bool):nE K H (.bl x) (.type "bool")
 | int (i:Int):nE K H (.int i) (.type "int")
 | str (x:Str):nE K H (.str x) (.type "str")
 | M7 (x:UInt64):nE K H (.M7 x) (.type "float")
 | lst {a:Addr} {xs:List V} (e:H a=some (.lst xs)):nE K H (.ref a) (.type "list")
 | lQ {a:Addr} {o:Obj} {xs:List V} (e:H a=some (.lQ o (.lst xs))):nE K H (.ref a) (.type "list")
 | tup {a:Addr} {xs:List V} (e:H a=some (.tup xs)):nE K H (.ref a) (.type "tuple")
 | dK {a:Addr} {kvs:List (Key×V)} (e:H a=some (.dK kvs)):nE K H (.ref a) (.type "dict")
 | dT {a:Addr} {kvs:List (List Key×V)} (e:H a=some (.dT kvs)):nE K H (.ref a) (.type "dict")
 | ins {a C dx:Addr} {fs:List (Str×V)} (e:H a=some (.ins C dx fs)) (cl:Rm K C) (ha:PySem.W.findIn K (.ref C) "__class__"=some (some (.builtin "object.__class__")))
   (hn:PySem.W.specialIn K (.builtin "object.__class__") "__get__"=some (some (.builtin "getset_descriptor.__get__"))) (htk:PySem.W.takesIn K (.builtin "object.__class__")=some true)
   (hm:PySem.W.mroIn K C (.type "object")=some true):nE K H (.ref a) (.ref C)
theorem C8(I:Inv X pins σ H s)(rx:RelV x u)(ty:nE X.K H x t)(e:PySem.W.kitOne X.K t c=some b)(h:∀tk,Q (.bool b) {s with toks:=tk}):
  wpAny (model X.prog X.w) A (call (.builtin "isinstance") [u,c]) Q E s:=by
 cases ty with
 | cq=>cases(show u=Value.none from rx);exact TH PySem.W.kitx_none I.pU True.intro e (λz=>nomatch z) h
 | bl y=>cases(show u=Value.bool y from rx);exact TH PySem.W.kitx_bool I.pU True.intro e (λz=>nomatch z) h
 | int i=>obtain⟨t,q⟩:=(show ∃t,u=Value.int i t from rx);cases q;exact TH PySem.W.kitx_int I.pU True.intro e (λz=>nomatch z) h
 | str y=>obtain⟨t,q⟩:=(show ∃t,u=Value.str y t from rx);cases q;exact TH PySem.W.kitx_str I.pU True.intro e (λz=>nomatch z) h
 | M7 y=>obtain⟨t,q⟩:=(show ∃t,u=Value.float y t from rx);cases q;exact TH PySem.W.kitx_float I.pU True.intro e (λz=>nomatch z) h
 | @lst a xs ea=>
  cases(show u=Value.ref a from rx);obtain⟨_,_,n,_,h1⟩:=(show bS X.prog X.w H s.heap a (.lst xs) from I.bg a _ ea);exact TH Xu I.pU ⟨_,h1,rfl⟩ e (λz=>nomatch z) h
 | @lQ a ob xs ea=>
  cases(show u=Value.ref a from rx);obtain⟨_,_,_,n,_,h1⟩:=(show bS X.prog X.w H s.heap a (.lQ ob (.lst xs)) from I.bg a _ ea);exact TH Xu I.pU ⟨_,h1,rfl⟩ e (λz=>nomatch z) h
 | @tup a xs ea=>
  cases(show u=Value.ref a from rx);obtain⟨_,_,_,p⟩:=(show bS X.prog X.w H s.heap a (.tup xs) from I.bg a _ ea);obtain⟨o,h1,h2,_⟩:=p;exact TH Xk I.pU ⟨o,h1,h2⟩ e (λz=>nomatch z) h
 | @dK a kvs ea=>
  cases(show u=Value.ref a from rx);obtain⟨_,_,vs,_,p⟩:=(show bS X.prog X.w H s.heap a (.dK kvs) from I.bg a _ ea);obtain⟨o,es,ep,h1,h2,_⟩:=p;exact TH Xv I.pU ⟨o,h1,h2.1⟩ e (λz=>nomatch z) h
 | @dT a kvs ea=>
  cases(show u=Value.ref a from rx);obtain⟨_,_,xs,_,o,es,ep,h1,h2,_⟩:=(show bS X.prog X.w H s.heap a (.dT kvs) from I.bg a _ ea);exact TH Xv I.pU ⟨o,h1,h2.1⟩ e (λz=>nomatch z) h
 | @ins a C dx fs ea cl ha hn htk hm=>
  cases(show u=Value.ref a from rx);obtain⟨mA,O,_⟩:=II I.bg ea;obtain⟨od,J,_⟩:=O.look;exact TH (PySem.W.kitx_own (cl.get _) cl.hd ha hn htk hm) I.pU J e (λz=>nomatch z) h
structure cL(k:Nat)(A:Around):Prop where
 hd:A.handled=none
 dp:A.depth+3*k+5 < recursionLimit
 un:A.units+16*k+200 < cLine
theorem cL.mono(r:cL k A)(h:j<=k):cL j A:=⟨r.hd,by have:=r.dp;lia,by have:=r.un;lia⟩
theorem cL.deeper(r:cL (k+1) A)(env:Env):cL k (A.deeper env):=
 ⟨r.hd,by have:=r.dp;show A.depth+1+3*k+5 < _;lia,by have:=r.un;show A.units+3+16*k+200 < _;lia⟩
theorem cL.depth(r:cL k A):A.depth < recursionLimit:=by have:=r.dp;lia
theorem cL.units(r:cL k A):A.units+64 < cLine:=by have:=r.un;lia
def ND:TA:=λ_ H Q=>Q [] H
def JA(ta:TE)(tr:TA):TA:=λσ H Q=>ta σ H λx H1=>tr σ H1 λxs H2=>Q (x::xs) H2
theorem Fo:PA X [] ND:=λ_ _ _ _ H Q I h=>WH ⟨[],H,I,.nil,h⟩
theorem wV(ha:PE X e te)(hr:PA X es t)(hs:starEach (e::es) X.env=(false,eval e X.env)::starEach es X.env:=by rfl):PA X (e::es) (JA te t):=by
 intro pos pins s σ H Q I h;rw[hs];show wpAny _ _ (spliced ((false,eval e X.env)::backTo pos (starEach es X.env))) _ _ s;refine WA (cD (ha pins s σ H _ I h) λu s1 ⟨x,H1,I1,r1,q1⟩=>?_);exact cD (hr pos pins s1 σ H1 _ I1 q1) λus s2 ⟨xs,H2,I2,r2,q2⟩=>⟨x::xs,H2,I2,.cons r1 r2,q2⟩
def Qc(t:TA):TE:=λσ H Q=>t σ H λxs H1=>xs.length<=sizeLine/\∀p,H1 p=none->Q (.ref p) (upd H1 p (.tup xs))
def Qg(t:TA):TE:=λσ H Q=>t σ H λxs H1=>xs.length<=sizeLine/\∀p,H1 p=none->Q (.ref p) (upd H1 p (.lst xs))
theorem Li{x1}(h:PA X es t):PE X (.Tuple es x1 pos) (Qc t):=by
 intro pins s σ H Q I hq;refine wpAny_Tuple_spliced (cD (h pos pins s σ H _ I hq) λus s1 ⟨xs,H1,I1,r,z,q⟩=>⟨by rw[<-r.length];exact z,?_⟩);have hf:H1 s1.heap.objs.size=none:=I1.bg.fresh (Sj _);refine⟨.ref s1.heap.objs.size,upd H1 s1.heap.objs.size (.tup xs),I1.laid (t':=s1.toks) (λb u e=>Ss _ e) (Sj _) ?_,rfl,q _ hf⟩;exact⟨z,us,r,⟨_,Tc _ rfl,rfl,⟨_,rfl⟩,rfl⟩⟩
theorem Lp(h:PA X es t):PE X (.List es pos) (Qg t):=by
 intro pins s σ H Q I hq;refine wpAny_List_spliced (cD (h pos pins s σ H _ I hq) λus s1 ⟨xs,H1,I1,r,z,q⟩=>⟨by rw[<-r.length];exact z,?_⟩);have hf:H1 s1.heap.objs.size=none:=I1.bg.fresh (Sj _);refine⟨.ref s1.heap.objs.size,upd H1 s1.heap.objs.size (.lst xs),I1.laid (t':=s1.toks) (λb u e=>Ss _ e) (Sj _) ?_,rfl,q _ hf⟩;exact⟨z,us,0,r,Tc _ rfl⟩
abbrev Sp:=List V->Hp->VK->XK->Prop
abbrev Cg:=List Env->Hp->Shared->XK->Value->Shared->Prop
structure GZ(P:Program)(w:World)(K:FR)(mg:Str->Option Value)(base:Heap)(A:Around)(outer:List Env)(s:Shared)(H:Hp):Prop where
 frames:A.frames=some outer
 mod:Mod K mg base
 bs:∀b o,base.get? b=some o->s.heap.get? b=some o/\H b=none
 G5:base.objs.size<=s.heap.objs.size
 oN:s.heap.FunFrames base outer
 JQ:∀b∈ku outer,H b=none
 bg:jT P w H s.heap
 bare:AllBare s.gens
def CE(outer:List Env)(P:Program)(w:World)(H:Hp)(s:Shared)(Q:VK)(u:Value)(s':Shared):Prop:=
 ∃v H',s'.os=s.os/\AllBare s'.gens/\Un (ku outer) [] H H' s.heap s'.heap/\jT P w H' s'.heap/\RelV v u/\Q v H'
def CR(CX:Cg)(outer:List Env)(P:Program)(w:World)(H:Hp)(s:Shared)(Q:VK)(E:XK)(r:Result)(s':Shared):Prop:=
 match r with
 | .ok (.ret u)=>CE outer P w H s Q u s'
 | .ok _=>False
 | .error e=>CX outer H s E e s'
structure eS(P:Program)(w:World)(K:FR)(mg:Str->Option Value)(base:Heap)(CX:Cg)(k:Nat)(f:Addr)(fd:FuncData)(ps:List Str)(sp:Sp):Prop where
 len:∀vs H Q E,sp vs H Q E->vs.length=ps.length
 run:∀(A:Around)(outer:List Env)(s:Shared)(H:Hp)(args:Args)(us:List Value)(vs:List V)(Q:VK)(E:XK),cL k A->GZ P w K mg base A outer s H->BindsTo s fd args (ps.zip us)->Vals vs us->sp vs H Q E->
  codeAny (model P w) A (.call (.ref f) args) (CR CX outer P w H s Q E) s
theorem eS.imp{P:Program}{w:World}{K:FR}{mg:Str->Option Value}{base:Heap}{CX:Cg}{k:Nat}{f:Addr}{fd:FuncData}{ps:List Str}{sp sp':Sp}(F:eS P w K mg base CX k f fd ps sp)
  (h:∀vs H Q E,sp' vs H Q E->sp vs H Q E):eS P w K mg base CX k f fd ps sp':=
 ⟨λvs H Q E q=>F.len vs H Q E (h _ _ _ _ q),λA outer s H args us vs Q E hr he hb hv hs=>F.run A outer s H args us vs Q E hr he hb hv (h _ _ _ _ hs)⟩
theorem Inv.Mp(I:Inv X pins σ H s):GZ X.prog X.w X.K X.mg X.base X.A X.stack s H:=
 ⟨I.ok.frames,I.ok.mod,I.bs,Sw I.ok.G5 I.sz,I.stack,I.qD,I.bg,I.bare⟩
theorem Inv.after(I:Inv X pins σ H s)(h:CE X.stack X.prog X.w H s Q u s'):EP X pins σ Q u s':=by
 obtain⟨v,H',os,bare,un,bg,r,q⟩:=h;obtain⟨hh,g,d,t,os'⟩:=s';obtain rfl:os'=s.os:=os;exact⟨v,H',I.call (h':=hh) (g':=g) (d':=d) (t':=t) (ch:=[]) un bg bare (λb z=>absurd z (by simp)),r,q⟩
def NJ(sp:Sp)(dvs:List V)(E:XK)(t:TA):TE:=λσ H Q=>t σ H λvs H1=>sp (vs++dvs) H1 Q E
def Binds(K:FR)(fd:FuncData)(ps:List Str)(ds:List Value):Prop:=
 ∀(s:Shared)(us:List Value),K.In s.heap->(us++ds).length=ps.length->BindsTo s fd ⟨us,[]⟩ (ps.zip (us++ds))
theorem Binds.all{K:FR}{fd:FuncData}{ps:List Str}(h:∀us:List Value,us.length=ps.length->bindArgs fd ⟨us,[]⟩=pure (ps.zip us)):Binds K fd ps []:=λs us _ hl=>by
 rw[Tw] at hl ⊢;exact .of_eq (h us hl)
def Passes(CX:Cg)(X:Cx)(E:XK):Prop:=∀(pins:List (Addr×Obj)) (σ:St) (H:Hp) (s:Shared) (e:Value) (s':Shared),Inv X pins σ H s->CX X.stack H s E e s'->X.xe e s'
theorem KQ(F:eS X.prog X.w X.K X.mg X.base CX k f fd ps sp)(hr:cL k X.A)(hb:Binds X.K fd ps ds)(hd:Vals dvs ds)(hx:Passes CX X E)(I:Inv X pins σ H s)(r:Vals vs us)(h:sp (vs++dvs) H Q E):wpAny (model X.prog X.w) X.A (call (.ref f) us) (EP X pins σ Q) X.xe s:=by
 have r2:Vals (vs++dvs) (us++ds):=r.append hd;have hl:(us++ds).length=ps.length:=by rw[<-r2.length];exact F.len _ _ _ _ h
 refine wpAny_call (Vv (F.run X.A X.stack s H ⟨us,[]⟩ (us++ds) (vs++dvs) Q E hr I.Mp (hb s us I.pU hl) r2 h) λr s' hq=>?_);cases r with
 | error e=>exact hx pins σ H s e s' I hq
 | ok fl=>
  cases fl with
  | ret u=>exact I.after hq
  | next=>exact False.elim hq
  | brk=>exact False.elim hq
  | cont=>exact False.elim hq
theorem Bz(F:eS X.prog X.w X.K X.mg X.base CX k f fd ps sp)(hr:cL k X.A)(hg:Gl X x)(hm:X.mg x=some (.ref f))(hk:PySem.W.keepIn X.K (.ref f)=true)(hb:Binds X.K fd ps ds)(hd:Vals dvs ds)(hx:Passes CX X E)
  (ha:PA X (e::es) t) (hdb:(x==("__debug__":Str))=false:=by decide) (he:starEach (e::es) X.env=(false,eval e X.env)::starEach es X.env:=by rfl) (hpl:(backTo pos (starEach es X.env)).any (·.1)=false:=by rfl):
  PE X (.Call (.Name x p) (e::es) [] pos) (NJ sp dvs E t):=by
 intro pins s σ H Q I h;refine Ul (kj I hg hm ?_ hdb);refine Xl (h₀:=X.base) I.ok.mod.PY hk (cD (ha pos pins s σ H _ I h) λus s1 ⟨vs,H1,I1,r,q⟩=>⟨I1.pU,?_⟩) he hpl;exact KQ F hr hb hd hx I1 r q
def PK(X:Cx)(kws:List Keyword)(t:TA):Prop:=
 ∀(pos:Pos)(pins:List (Addr×Obj)) (s:Shared) (σ:St) (H:Hp) (Q:List V->Hp->Prop),Inv X pins σ H s->t σ H Q->wpAny (model X.prog X.w) X.A (evalAll ((backToKw pos (keywordEach kws X.env)).map (·.2))) (AP X pins σ Q) X.xe s
theorem Le:PK X [] ND:=λ_ _ _ _ H Q I h=>wpAny_evalAll_nil ⟨[],H,I,.nil,h⟩
theorem HY(ha:PE X e te)(hr:PK X kws t):PK X (⟨nm,e,kpos⟩::kws) (JA te t):=by
 intro pos pins s σ H Q I h;show wpAny _ _ (evalAll ((do let v<-eval e X.env;standAt pos;pure v)::(backToKw pos (keywordEach kws X.env)).map (·.2))) _ _ s;refine wpAny_evalAll_cons (Sa (cD (ha pins s σ H _ I h) λu s1 ⟨x,H1,I1,r1,q1⟩=>Sa (Uc (Sy ?_))));exact cD (hr pos pins s1 σ H1 _ I1 q1) λus s2 ⟨xs,H2,I2,r2,q2⟩=>⟨x::xs,H2,I2,.cons r1 r2,q2⟩
structure aD(N P:List Str)(sc:Scope):Prop where
 kind:sc.kind=.function
 co:sc.isCoroutine=false
 gen:sc.isGenerator=false
 nd:N.Nodup
 pre:N.take P.length=P
 par:∀x∈P,sc.names.lookup x=some .local\/sc.names.lookup x=some .cell
 LK:∀y∈sc.names,y.2≠.free
theorem vM{kindOf:Str->Option NameKind}{x:Str}:∀{binds:List (Str×Value)} {m:Str->Option Value},(∀v,(x,v)∉binds)->bindL kindOf binds m x=m x
 | [],_,_=>rfl
 |(n,v)::r,m,h=>by
  unfold bindL;rw[vM λw hw=>h w (Sq _ hw)]
  split
  ·have:x≠n:=by rintro rfl;exact h v Sk
   simp[this]
  ·rfl
theorem vO{kindOf:Str->Option NameKind}{x:Str}:∀{binds:List (Str×Value)} {m:Str->Option Value},(∀v,(x,v)∉binds)->bindC kindOf binds m x=m x
 | [],_,_=>rfl
 |(n,v)::r,m,h=>by
  unfold bindC;rw[vO λw hw=>h w (Sq _ hw)]
  split
  ·rfl
  ·have:x≠n:=by rintro rfl;exact h v Sk
   simp[this]
theorem vN{kindOf:Str->Option NameKind}{x:Str}{v:Value}:∀{P:List Str} {vs:List Value} {i:Nat} {m:Str->Option Value},P.Nodup->P[i]?=some x->vs[i]?=some v->kindOf x=some .local->
  bindL kindOf (P.zip vs) m x=some v
 | [],_,_,_,_,h,_,_=>by simp at h
 | _::_,[],_,_,_,_,h,_=>by simp at h
 | p::P,w::vs,0,m,nd,h1,h2,hk=>by
  simp at h1 h2;subst h1;subst h2;show bindL kindOf ((p,w)::P.zip vs) m p=_;unfold bindL;rw[vM λv hv=>(V3.mp nd).1 (WC hv).1,Si hk];simp
 | p::P,w::vs,i+1,m,nd,h1,h2,hk=>by
  show bindL kindOf ((p,w)::P.zip vs) m x=_;unfold bindL;exact vN (i:=i) (V3.mp nd).2 (by simpa using h1) (by simpa using h2) hk
theorem vP{kindOf:Str->Option NameKind}{x:Str}{v:Value}:∀{P:List Str} {vs:List Value} {i:Nat} {m:Str->Option Value},P.Nodup->P[i]?=some x->vs[i]?=some v->kindOf x≠some .local->
  bindC kindOf (P.zip vs) m x=some v
 | [],_,_,_,_,h,_,_=>by simp at h
 | _::_,[],_,_,_,_,h,_=>by simp at h
 | p::P,w::vs,0,m,nd,h1,h2,hk=>by
  simp at h1 h2;subst h1;subst h2;show bindC kindOf ((p,w)::P.zip vs) m p=_;unfold bindC;rw[vO λv hv=>(V3.mp nd).1 (WC hv).1,Sv hk];simp
 | p::P,w::vs,i+1,m,nd,h1,h2,hk=>by
  show bindC kindOf ((p,w)::P.zip vs) m x=_;unfold bindC;exact vP (i:=i) (V3.mp nd).2 (by simpa using h1) (by simpa using h2) hk
noncomputable def start(N:List Str)(vs:List V):St:=vs.map some++List.replicate (N.length-vs.length) none
abbrev fm(CX:Cg)(P:Program)(w:World)(K:FR)(mg:Str->Option Value)(base:Heap)(N:List Str)(qual:Str)(scope:Scope)(f:Addr)(cd:Value)(A:Around)(outer:List Env)(s:Shared)(H:Hp)(E:XK):Cx where
 prog:=P
 w:=w
 K:=K
 mg:=mg
 base:=base
 A:=A.deeper (envOfC qual scope s.heap.objs.size f cd)
 N:=N
 s₀:=s
 H₀:=H
 env:=envOfC qual scope s.heap.objs.size f cd
 outer:=outer
 stack:=envOfC qual scope s.heap.objs.size f cd::outer
 ex:=[]
 calm:=true
 fn:=λ_=>true
 pn:=[]
 xe:=λe s'=>wpAny (model P w) (A.deeper (envOfC qual scope s.heap.objs.size f cd)) (leaving (envOfC qual scope s.heap.objs.size f cd) e) (λ_ s''=>CX outer H s E e s'') (λe' s''=>CX outer H s E e' s'') s'
theorem zu{sc:Scope}{n:Nat}{x:Str}(h:sc.names.lookup x=some .cell):∃c,(cellsFrom n sc.names []).lookup x=some c:=by
 have q:=W0 sc.names n [] (.inl h);exact UM.mp q
theorem vD{CX:Cg}{P:Program}{w:World}{K:FR}{mg:Str->Option Value}{base:Heap}{N ps:List Str}{qual:Str}{scope:Scope}{f:Addr}{cd:Value}{A:Around}{outer:List Env}{s s1:Shared}{H:Hp}{E:XK}{us:List Value}{vs:List V}
  (S:aD N ps scope) (hd:A.handled=none) (e0:GZ P w K mg base A outer s H) (hl:vs.length=ps.length) (r:Vals vs us)
  (x:InCallC s s.heap.objs.size (bindL (envOfC qual scope s.heap.objs.size f cd).kindOf (ps.zip us) λ_=>none) (cellsFrom (s.heap.objs.size+1) scope.names []) (bindC (envOfC qual scope s.heap.objs.size f cd).kindOf (ps.zip us) λ_=>none) s1):
  Inv (fm CX P w K mg base N qual scope f cd A outer s H E) [] (start N vs) H s1:=by
 have hpl:ps.length<=N.length:=by have:=congrArg List.length S.pre;rw[SO] at this;lia
 obtain⟨h1,tk,rfl,hk⟩:=x.done;have noA:∀b:Addr,b∉(fm CX P w K mg base N qual scope f cd A outer s H E).ex:=λb z=>absurd (show b∈([]:List Addr) from z) (by simp);refine⟨⟨e0.mod,S.kind,rfl,rfl,Sj _,λy z c h1 h2=>?_,λy hy=>?_,λy c _ h=>?_,λ_=>hd,Around.frames_deeper e0.frames,.inr ⟨rfl,rfl⟩,λb z=>absurd z (noA b),e0.bs,e0.G5,λb _ _=>noA b,λb z=>absurd z (noA b),e0.oN,e0.JQ⟩,
  rfl,e0.bare,Un.kept hk,⟨_,x.toInCall.ns,λi y v h1 h2 h3=>?_⟩,λy c h=>⟨_,x.cell y c h⟩,e0.bg.fresh (Sj _),λy c h=>?_,λp hp=>absurd (show p∈([]:List (Addr×Obj)) from hp) (by simp),e0.bg.kept hk,?_⟩
 ·exact name_of_addr x.apart (Ti h1) (Ti h2)
 ·have hy:scope.names.lookup y=some .cell\/scope.names.lookup y=some .free:=hy;rcases hy with hy | hy
  ·exact zu hy
  ·exact absurd rfl (S.LK _ (Ti hy))
 ·exact UU (x.above y c (Ti h))
 ·have hi:i < vs.length:=by
   unfold start at h2
   by_cases hi:i < vs.length
   ·exact hi
   ·rw[SD (by simpa using hi)] at h2;rw[VX] at h2
    split at h2 <;> cases h2
  have ha:vs[i]?=some v:=by
   unfold start at h2;rw[Sx (by simpa using hi),SK] at h2;cases e:vs[i]? with
   | none=>rw[e] at h2;cases h2
   | some a=>rw[e] at h2;cases h2;rfl
  obtain⟨u,hu,rv⟩:=r.get ha;have hp:ps[i]?=some y:=by
   rw[<-S.pre,Tg (by lia)];exact h1
  have ndP:ps.Nodup:=by rw[<-S.pre];exact S.nd.sublist (Wu _ _)
  refine⟨u,rv,?_⟩;rcases S.par y (Sd hp) with k | k
  ·exact .inl ⟨k,vN ndP hp hu k⟩
  ·obtain⟨c,e⟩:=zu (n:=s.heap.objs.size+1) k;refine .inr ⟨.inl k,c,e,?_⟩;have q:=x.cell y c e;rw[vP ndP hp hu (by show scope.names.lookup y≠_;rw[k];decide)] at q;exact q
 ·exact e0.bg.fresh (UU (x.above y c (Ti h)))
 ·unfold start;show _=N.length;rw[Sn,R9,UD]
  lia
theorem F2{CX:Cg}{P:Program}{w:World}{K:FR}{mg:Str->Option Value}{base:Heap}{k:Nat}{f:Addr}{name qual:Str}{params:Arguments}{body:List Stmt}{scope:Scope}{dV kV doc pm cdv ct oc:Value}{an od:Option Addr}
  {osl:Array (Option Value)} {N ps:List Str} {sp:Sp} (lk:K.lookup f=some ⟨oc,od,.func (PySem.W.fnOf name qual params body scope dV kV doc pm an cdv ct),osl⟩) (hcd:PySem.W.codeIn K cdv qual=true) (S:aD N ps scope)
  (len:∀vs H Q E,sp vs H Q E->vs.length=ps.length)
  (hbody:∀(A:Around)(outer:List Env)(s:Shared)(H:Hp)(vs:List V)(Q:VK)(E:XK),cL k (A.deeper (envOfC qual scope s.heap.objs.size f cdv))->sp vs H Q E->
   ∃t,xX (fm CX P w K mg base N qual scope f cdv A outer s H E) body t/\t {nx:=λ_ H'=>Q .cq H',rt:=Q} (start N vs) H):
  eS P w K mg base CX (k+1) f (PySem.W.fnOf name qual params body scope dV kV doc pm an cdv ct) ps sp:=by
 refine⟨len,λA outer s H args us vs Q E hr e0 hb r hsp=>?_⟩;have hl:=len _ _ _ _ hsp;have KX:K.In s.heap:=e0.mod.PY.keeps λb o e=>(e0.bs b o e).1;have lim:s.heap.NoLimit:=e0.mod.nolimit.keeps λb o e=>(e0.bs b o e).1;have hkind:∀y∈ps.zip us,scope.names.lookup y.1=some .local\/(scope.names.lookup y.1=some .cell/\((cellsFrom (s.heap.objs.size+1) scope.names []).lookup y.1).isSome=true):=λ⟨n,v⟩ hy=>by
  rcases S.par n (WC hy).1 with q | q
  ·exact .inl q
  ·exact .inr ⟨q,W0 _ _ _ (.inl q)⟩
 refine codeAny_call_function hr.depth (KX _ _ lk) rfl S.co S.gen rfl (PySem.W.codeRec_of KX hcd) (hb _ _ _ _ ?_);refine Xc S.kind hkind λenv he s1 x=>?_;subst he;refine⟨lim.keeps x.toInCall.keep,codeAny_func ?_⟩;obtain⟨t,ht,hq⟩:=hbody A outer s H vs Q E (hr.deeper _) hsp;have I:Inv (fm CX P w K mg base N qual scope f cdv A outer s H E) [] (start N vs) H s1:=vD S hr.hd e0 hl r x;refine Te (ht [] s1 (start N vs) H _ I hq) (λfl s' hs=>?_) λe s' hs=>hs;have fin:∀{σ':St} {H':Hp} {v:V} {u:Value},Inv (fm CX P w K mg base N qual scope f cdv A outer s H E) [] σ' H' s'->RelV v u->Q v H'->CE outer P w H s Q u s':=
  λ{σ' H' v u} J rv q=>⟨v,H',J.os,J.bare,J.base,J.bg,rv,q⟩
 cases fl with
 | ret u=>
  obtain⟨v,σ',H',J,rv,q⟩:=hs;exact fin J rv q
 | next=>
  obtain⟨σ',H',J,q⟩:=hs;exact fin (v:=V.cq) (u:=Value.none) J rfl q
 | brk=>
  obtain⟨_,_,_,q⟩:=hs;exact False.elim q
 | cont=>
  obtain⟨_,_,_,q⟩:=hs;exact False.elim q
section
variable {X:Cx} {x:Str} {p pos:Pos} {e:Expr} {es:List Expr} {t:TA} {id T:String} {r:List V->Hp->VK->Prop}
def Rt(r:List V->Hp->VK->Prop)(t:TA):TE:=λσ H Q=>t σ H λvs H1=>r vs H1 Q
theorem yD(hc:fY X (.builtin id) r)(hg:Gl X x)(hm:X.mg x=none)(hv:bootBuiltins x=some (.builtin id))(ha:PA X (e::es) t)(hn:x≠"__name__":=by decide)(hdb:(x==("__debug__":Str))=false:=by decide)
  (he:starEach (e::es) X.env=(false,eval e X.env)::starEach es X.env:=by rfl) (hpl:(backTo pos (starEach es X.env)).any (·.1)=false:=by rfl):PE X (.Call (.Name x p) (e::es) [] pos) (Rt r t):=by
 intro pins s σ H Q I h;refine Ul (jO I hg hm hv ?_ hn hdb);exact PyProof.Rows.callWith_builtin1 (cD (ha pos pins s σ H _ I h) λus s1 ⟨vs,H1,I1,r1,q1⟩=>hc pins s1 σ H1 vs us Q I1 r1 q1) he hpl
theorem vg(hc:fY X (.type T) r)(hg:Gl X x)(hm:X.mg x=none)(hv:bootBuiltins x=some (.type T))(ha:PA X (e::es) t)(hn:x≠"__name__":=by decide)(hdb:(x==("__debug__":Str))=false:=by decide)
  (he:starEach (e::es) X.env=(false,eval e X.env)::starEach es X.env:=by rfl) (hpl:(backTo pos (starEach es X.env)).any (·.1)=false:=by rfl):PE X (.Call (.Name x p) (e::es) [] pos) (Rt r t):=by
 intro pins s σ H Q I h;refine Ul (jO I hg hm hv ?_ hn hdb);exact Ur (cD (ha pos pins s σ H _ I h) λus s1 ⟨vs,H1,I1,r1,q1⟩=>hc pins s1 σ H1 vs us Q I1 r1 q1) he hpl
end
end L2
namespace HT
open PySem PyProof.Rows
section
open PySem.SeqAt
open PySem.AutoSeq1 (wpAny_loadPart')
open PySem.MeetsSeq PySem.MeetsSeq2 PySem.MeetsSeq3
end
theorem Jh(ht:IsTup s.heap t vs.toArray)(hb:IsTup s.heap b ws.toArray)(hv:vs≠[])(h1:ws=[]->Q (.ref t) s)(h2:ws≠[]->Q (.ref s.heap.objs.size) {s with heap:=s.heap.push {cls:=.type "tuple",data:=.seq (vs++ws).toArray}})(hsz:vs.length+ws.length<=sizeLine):wpAny (model prog w) A (binaryOp .Add (.ref t) (.ref b)) Q E s:=by
 obtain⟨⟨cls,dd,data,sl⟩,ho,hc,n,hd⟩:=id ht;obtain⟨⟨cls2,dd2,data2,sl2⟩,ho2,hc2,n2,hd2⟩:=id hb;simp only at hc hd hc2 hd2;subst hc hd hc2 hd2;have e:vs.toArray++ws.toArray=(vs++ws).toArray:=by simp
 by_cases hw:ws=[]
 ·exact concat_meets ⟨_,ho,rfl⟩ ⟨_,ho2,rfl⟩ WM Xj VY VW (VM _ _)
   (tuple_addW1 t b vs.toArray ws.toArray n n2 dd dd2 sl sl2 (by simpa using hv) (by simp[hw])) ⟨ho,ho2,h1 hw⟩
 ·refine concat_meets ⟨_,ho,rfl⟩ ⟨_,ho2,rfl⟩ WM Xj VY VW (VM _ _)
   (tuple_addW2 t b vs.toArray ws.toArray n n2 dd dd2 sl sl2 (by simpa using hv) (by simpa using hw) (by rw[SH,SH];exact hsz)) ⟨ho,ho2,?_⟩
  rw[e];exact h2 hw
noncomputable def cM(n d:Nat):Option Int->Nat
 | none=>d
 | some v=>if v < 0 then(v+(n:Int)).toNat else min v.toNat n
theorem iq(n d:Nat):cM n d none=d:=rfl
theorem gM(n d k:Nat):cM n d (some (k:Int))=min k n:=by
 show(if(k:Int) < 0 then((k:Int)+(n:Int)).toNat else min (k:Int).toNat n)=min k n;rw[Sv (by lia),U6]
theorem KP(n d:Nat)(hd:d<=n)(o:Option Int):cM n d o<=n:=by
 cases o with
 | none=>exact hd
 | some v=>
  show(if v < 0 then(v+(n:Int)).toNat else min v.toNat n)<=n
  by_cases hv:v < 0
  ·rw[Si hv];lia
  ·rw[Sv hv];exact Nat.min_le_right _ _
theorem B3(v:Int)(n d:Nat):(if v < 0 then max (v+(n:Int)) 0 else min v (n:Int))=((cM n d (some v):Nat):Int):=by
 show(if v < 0 then max (v+(n:Int)) 0 else min v (n:Int))=(((if v < 0 then(v+(n:Int)).toNat else min v.toNat n):Nat):Int)
 by_cases hv:v < 0
 ·simp only[Si hv];lia
 ·simp only[Sv hv];lia
theorem A9(lo hi:Option Int)(n:Nat):Builtin.Slice.sliceAdjust lo hi 1 (n:Int)=(((cM n 0 lo:Nat):Int),((cM n n hi:Nat):Int)):=by
 have h1:¬((1:Int) < 0):=by lia
 unfold Builtin.Slice.sliceAdjust;simp only[h1,Wj];refine Prod.ext ?_ ?_
 ·cases lo with
  | none=>rfl
  | some v=>exact B3 v n 0
 ·cases hi with
  | none=>rfl
  | some v=>exact B3 v n n
theorem Aj(i j:Nat):Builtin.Slice.slicePlaces (i:Int) (j:Int) 1=j-i:=by
 unfold Builtin.Slice.slicePlaces;have h1:(1:Int) > 0:=by lia
 simp only[h1,VC,W7]
 split <;> lia
theorem rj(p:IsPart v o)(h:Q o s):wpAny (model prog w) A (Builtin.Slice.slicePartIndex v) Q E s:=by
 cases p with
 | none=>exact slicePart_none h
 | int i t=>exact slicePart_int h
theorem ij{sl:Addr}{vl vu:Value}{lo hi:Option Int}{n:Nat}{Q:Int×Int×Nat->Shared->Prop}(hs:s.heap.IsSliceOf sl vl vu .none)(pl:IsPart vl lo)(pu:IsPart vu hi)
  (h:Q (((cM n 0 lo:Nat):Int),1,cM n n hi-cM n 0 lo) s):wpAny (model prog w) A (Builtin.Slice.sliceApplied (.ref sl) (pure (n:Int))) Q E s:=by
 obtain⟨os,hos,hcs,sV⟩:=id hs;unfold Builtin.Slice.sliceApplied Builtin.Slice.sliceFields;refine Sa (Sa (Ui hos sV (x:=vl) rfl (Sa (Ui hos sV (x:=vu) rfl (Sa (Ui hos sV (x:=.none) rfl (Sy ?_)))))));refine Sa (slicePart_none ?_);show wpAny _ _ (if((1:Int)==0)=true then _ else _) _ _ s;rw[Sv (by decide)];refine Sa (rj pl (Sa (rj pu (Sa (Sy ?_)))));show wpAny _ _ (match Builtin.Slice.sliceAdjust lo hi 1 (n:Int) with |(lo,hi)=>pure (lo,(1:Int),Builtin.Slice.slicePlaces lo hi 1)) _ _ s;rw[A9 lo hi n];show wpAny _ _ (pure (((cM n 0 lo:Nat):Int),(1:Int),Builtin.Slice.slicePlaces ((cM n 0 lo:Nat):Int) ((cM n n hi:Nat):Int) 1)) _ _ s;rw[Aj];exact Sy h
theorem Fb(xs:Array Value)(i k:Nat):((List.range k).filterMap λ(m:Nat)=>xs[((i:Int)+(m:Int)*1).toNat]?).toArray=((xs.toList.drop i).take k).toArray:=by
 have e:(λ(m:Nat)=>xs[((i:Int)+(m:Int)*1).toNat]?)=λm=>xs[i+m]?:=by
  funext m
  have:((i:Int)+(m:Int)*1).toNat=i+m:=by lia
  rw[this]
 rw[e];have:=pick_run xs i k;rw[VH] at this;have e2:((λx=>xs[x]?)∘λx=>i+x)=λm=>xs[i+m]?:=rfl;rw[e2] at this;rw[this]
theorem m9{t sl:Addr}{items:Array Value}{vl vu:Value}{lo hi:Option Int}{Q:Value->Shared->Prop}(ht:IsTup s.heap t items)(hs:s.heap.IsSliceOf sl vl vu .none)(pl:IsPart vl lo)(pu:IsPart vu hi)
  (hw:¬(cM items.size 0 lo=0/\cM items.size items.size hi=items.size))
  (h:Q (.ref s.heap.objs.size) {s with heap:=s.heap.push {cls:=.type "tuple",data:=.seq ((items.toList.drop (cM items.size 0 lo)).take (cM items.size items.size hi-cM items.size 0 lo)).toArray}})
  (hsz:items.size<=sizeLine):wpAny (model prog w) A (getItem (.ref t) (.ref sl)) Q E s:=by
 have htake:sizeOk (.seq ((items.toList.drop (cM items.size 0 lo)).take (cM items.size items.size hi-cM items.size 0 lo)).toArray):=by
  show((items.toList.drop (cM items.size 0 lo)).take (cM items.size items.size hi-cM items.size 0 lo)).toArray.size<=sizeLine;rw[SH,SO,Uh,Vd]
  lia
 have hj:cM items.size items.size hi<=items.size:=KP _ _ (Sj _) hi;obtain⟨os,hos,hcs,sV⟩:=id hs;have hTs:s.TypeIs (.ref sl) "slice":=⟨os,hos,hcs⟩;unfold getItem
 try with_reducible refine Uq ?_
 first | refine Sa (Sy ?_) | skip
 refine Sa (wpAny_sequenceKey ht.typeIs (by decide) ?_);refine Sa (Uu (name:=Str.ofString "__getitem__") ht.typeIs TF
  (UY TF ht.typeIs entry_tuple_getitem ?_ (args_tuple_getitem _ _)))
 show wpAny _ _ (Builtin.Tuple.tupleItemsOf (.ref t) >>=_) _ _ s;refine Sa (tupleItemsOf_ ht ?_);refine Sa (wpAny_typeOf hTs ?_);rw[Si (by decide)];refine Sa (ij hs pl pu ?_);have hno:¬((((cM items.size 0 lo:Nat):Int)==0&&(1:Int)==1&&(cM items.size items.size hi-cM items.size 0 lo)==items.size)=true):=by
  intro q;rw[Tf,Tf] at q;have q1:((cM items.size 0 lo:Nat):Int)=0:=eq_of_beq q.1.1;have q2:cM items.size items.size hi-cM items.size 0 lo=items.size:=eq_of_beq q.2;exact hw ⟨by lia,by lia⟩
 show wpAny _ _ (if(((cM items.size 0 lo:Nat):Int)==0&&(1:Int)==1&&(cM items.size items.size hi-cM items.size 0 lo)==items.size)=true then _ else _) _ _ s;rw[Sv hno,Fb]
 first
  | exact Sa (m:=Builtin.Tuple.tupleExact _) (TZ (Sy ⟨_,rfl,Sy h⟩) htake)
  | exact Sa (m:=Builtin.Tuple.tupleExact _) (TZ (Sa (Sy (Sy ⟨_,rfl,Sy h⟩))) htake)
  | exact Sa (Sa (m:=Builtin.Tuple.tupleExact _) (TZ (Sy (Sy ⟨_,rfl,Sy h⟩)) htake))
  | exact Sa (Sa (m:=Builtin.Tuple.tupleExact _) (TZ (Sy ⟨_,rfl,Sy h⟩) htake))
end HT
namespace L2
open PySem PySem.Spec PyProof.Rows
abbrev TO:=St->Hp->(Option Int->Hp->Prop)->Prop
def PO(X:Cx)(e:Option Expr)(t:TO):Prop:=
 ∀(pins:List (Addr×Obj)) (s:Shared) (σ:St) (H:Hp) (Q:Option Int->Hp->Prop),Inv X pins σ H s->t σ H Q->
  wpAny (model X.prog X.w) X.A (evalPart e X.env) (λu s'=>∃o H',Inv X pins σ H' s'/\IsPart u o/\Q o H') X.xe s
noncomputable def Hi:TO:=λ_ H Q=>Q none H
def Nz(t:TE):TO:=λσ H Q=>t σ H λx H1=>∃i,x=.int i/\Q (some i) H1
theorem intsAre_of:∀{us:List Value},Vals (ns.map V.int) us->IntsAre us ns:=by
 induction ns with
 | nil=>intro us r;rw[TX] at r;cases r;exact .nil
 | cons n ns ih=>
  intro us r;rw[Sl] at r;cases r with
  | cons r1 r2=>
   obtain⟨t,e⟩:=r1;subst e;exact .cons n t (ih r2)
section
variable {X:Cx} {e:Expr} {te:TE} {lo hi:Option Expr} {tl th:TO} {pos p2:Pos}
theorem HV:PO X none Hi:=by
 intro pins s σ H Q I h;rw[evalPart_none];exact Sy ⟨none,H,I,.none,h⟩
theorem HU(h:PE X e te):PO X (some e) (Nz te):=by
 intro pins s σ H Q I hw;rw[evalPart_some];refine cD (h pins s σ H _ I hw) λu s1 ⟨x,H1,I1,r1,q1⟩=>?_;obtain⟨i,rfl,q⟩:=q1;obtain⟨t,rfl⟩:=r1;exact⟨some i,H1,I1,.int i t,q⟩
def MV(X:Cx)(r:V->Option Int->Option Int->Hp->VK->Prop):Prop:=
 ∀(pins:List (Addr×Obj)) (s:Shared) (σ:St) (H:Hp) (x:V) (v vl vu:Value) (lo hi:Option Int) (sl:Addr) (Q:VK),Inv X pins σ H s->RelV x v->s.heap.IsSliceOf sl vl vu .none->IsPart vl lo->IsPart vu hi->r x lo hi H Q->
  ∃T id,typeLookup (.type T) "__getitem__"=pure (some (.builtin id))/\s.TypeIs v T/\wpAny (model X.prog X.w) X.A (getItem v (.ref sl)) (EP X pins σ Q) X.xe s
def RQ(r:V->Option Int->Option Int->Hp->VK->Prop)(te:TE)(tl th:TO):TE:=λσ H Q=>te σ H λx H1=>tl σ H1 λl H2=>th σ H2 λu H3=>r x l u H3 Q
theorem Fe(hr:MV X r)(he:PE X e te)(hl:PO X lo tl)(hu:PO X hi th):PE X (.Subscript e (.Slice lo hi none p2) pos) (RQ r te tl th):=by
 intro pins s σ H Q I h;refine Subscript_ (cD (he pins s σ H _ I h) λv s1 ⟨x,H1,I1,r1,q1⟩=>?_);refine wpAny_Slice (cD (hl pins s1 σ H1 _ I1 q1) λvl s2 ⟨l,H2,I2,pl,q2⟩=>cD (hu pins s2 σ H2 _ I2 q2) λvu s3 ⟨u,H3,I3,pu,q3⟩=>?_);rw[evalPart_none];refine Sy ?_;have I4:Inv X pins σ H3 {s3 with heap:=s3.heap.push {cls:=.type "slice",data:=.fields #[vl,vu,.none]}}:=I3.kept (t':=s3.toks) λb ob q=>Ss _ q;obtain⟨T,id,hT,ht,hg⟩:=hr pins {s3 with heap:=s3.heap.push {cls:=.type "slice",data:=.fields #[vl,vu,.none]}} σ H3 x v vl vu l u s3.heap.objs.size Q I4 r1 (Heap.IsSliceOf.new ..) pl pu q3;show wpAny (model X.prog X.w) X.A (subscriptTail e (.Slice lo hi none p2) v (.ref s3.heap.objs.size)) (EP X pins σ Q) X.xe {s3 with heap:=s3.heap.push {cls:=.type "slice",data:=.fields #[vl,vu,.none]}};exact tail_any (ops:=[.ref s3.heap.objs.size,v]) ht hT hg (by with_unfolding_all rfl)
noncomputable def tE(xs:List V)(lo hi:Option Int):List V:=(xs.drop (HT.cM xs.length 0 lo)).take (HT.cM xs.length xs.length hi-HT.cM xs.length 0 lo)
theorem pY(xs:List V)(lo hi:Option Int):(tE xs lo hi).length<=xs.length:=by
 unfold tE;rw[SO,Uh]
 lia
def QB(K:FR):V->Option Int->Option Int->Hp->VK->Prop:=λx lo hi H Q=>∃a xs,x=.ref a/\kF K H a xs/\
 ¬(HT.cM xs.length 0 lo=0/\HT.cM xs.length xs.length hi=xs.length)/\∀p,H p=none->Q (.ref p) (upd H p (.tup (tE xs lo hi)))
theorem KC:MV X (QB X.K):=by
 intro pins s σ H x v vl vu lo hi sl Q I rx hs pl pu h;obtain⟨a,xs,rfl,hx,hw,q⟩:=h;cases rx;obtain⟨its,r,ht,hz⟩:=I.tuple hx;have hlen:its.toArray.size=xs.length:=by rw[SH];exact r.length.symm
 refine⟨"tuple",_,TF.lookup,ht.typeIs,?_⟩;refine HT.m9 ht hs pl pu (by rw[hlen];exact hw) ?_ (by rw[hlen];exact hz);rw[hlen];refine⟨.ref s.heap.objs.size,_,I.laid (t':=s.toks) (o:=.tup (tE xs lo hi)) (λb ob q=>Ss _ q) (Sj _) ?_,rfl,q _ (I.bg.fresh (Sj _))⟩;exact⟨Sw (pY xs lo hi) hz,_,(r.drop (HT.cM xs.length 0 lo)).take (HT.cM xs.length xs.length hi-HT.cM xs.length 0 lo),zB.new _ _⟩
def Od(K:FR):R2:=λx y H Q=>∃a b xs ys,x=.ref a/\y=.ref b/\kF K H a xs/\kF K H b ys/\xs≠[]/\xs.length+ys.length<=sizeLine/\
 (ys=[]->Q (.ref a) H)/\(ys≠[]->∀p,H p=none->Q (.ref p) (upd H p (.tup (xs++ys))))
theorem Vals.qK(r:Vals xs us):us=[]↔xs=[]:=by
 cases r with
 | nil=>simp
 | cons _ _=>simp
theorem Im:nQ X (binaryOp .Add) (Od X.K):=by
 intro pins s σ H x y v u Q I rx ry h;obtain⟨a,b,xs,ys,rfl,rfl,ha,hb,hx,hz,q1,q2⟩:=h;cases rx;cases ry;obtain⟨its,r1,p1,_⟩:=I.tuple ha;obtain⟨its2,r2,p2,_⟩:=I.tuple hb;refine HT.Jh p1 p2 (λz=>hx (r1.qK.mp z)) (λz=>⟨.ref a,H,I,rfl,q1 (r2.qK.mp z)⟩) (λz=>?_) (by rw[<-r1.length,<-r2.length];exact hz);refine⟨.ref s.heap.objs.size,_,I.laid (t':=s.toks) (o:=.tup (xs++ys)) (λb ob q=>Ss _ q) (Sj _) ?_,rfl,q2 (λw=>z (r2.qK.mpr w)) _ (I.bg.fresh (Sj _))⟩;exact⟨by rw[Sn];exact hz,_,r1.append r2,zB.new _ _⟩
end
noncomputable def sQ(n:Nat)(i:Int):Option Nat:=if 0<=i then(if i < n then some i.toNat else none) else if -(n:Int)<=i then some (i+n).toNat else none
noncomputable def gG{α:Type}(xs:List α)(i:Int):Option α:=(sQ xs.length i).bind λj=>xs[j]?
theorem BO(h:sQ n i=some j):seqIndex? i n=some j/\j < n/\-(n:Int)<=i/\i < n:=by
 unfold sQ at h
 by_cases h0:0<=i
 ·rw[Si h0] at h
  by_cases h1:i < n
  ·rw[Si h1] at h;have e:i.toNat=j:=Option.some.inj h;exact⟨by rw[seqIndex_of h0 h1,e],by lia,by lia,h1⟩
  ·rw[Sv h1] at h;cases h
 ·rw[Sv h0] at h
  by_cases h1:-(n:Int)<=i
  ·rw[Si h1] at h;have e:(i+n).toNat=j:=Option.some.inj h;exact⟨by rw[seqIndex_neg (by lia) h1,e],by lia,h1,by lia⟩
  ·rw[Sv h1] at h;cases h
theorem qU(h:gG xs i=some v):∃j,seqIndex? i xs.length=some j/\xs[j]?=some v/\j < xs.length/\-(xs.length:Int)<=i/\i < xs.length:=by
 unfold gG at h;cases e:sQ xs.length i with
 | none=>rw[e] at h;cases h
 | some j=>
  rw[e] at h;obtain⟨h1,h2,h3,h4⟩:=BO e;exact⟨j,h1,h,h2,h3,h4⟩
theorem qT{α:Type}{xs:List α}{j:Nat}{v:α}(h:xs[j]?=some v):gG xs (j:Int)=some v:=by
 have hj:j < xs.length:=(Se.mp h).1;have e:sQ xs.length (j:Int)=some j:=by
  unfold sQ;rw[Si (by lia),Si (by lia)];simp
 unfold gG;rw[e];exact h
theorem GR(xs:List α)(v:α):gG (xs++[v]) (-1)=some v:=by
 have hl:(xs++[v]).length=xs.length+1:=by simp
 have e:sQ (xs++[v]).length (-1)=some xs.length:=by
  unfold sQ;rw[hl,Sv (by decide),Si (by lia)];congr 1
  lia
 unfold gG;rw[e];show(xs++[v])[xs.length]?=some v;simp
def nP(b:Expr):Prop:=∀o i,subscripted b false o i=operate [o,i] (getItem o i)
def PB(X:Cx)(r:R2):Prop:=
 ∀(value slice:Expr)(pins:List (Addr×Obj)) (s:Shared) (σ:St) (H:Hp) (x y:V) (v u:Value) (Q:VK),Inv X pins σ H s->RelV x v->RelV y u->r x y H Q->
  subscripted slice false v u=operate [v,u] (getItem v u)->wpAny (model X.prog X.w) X.A (subscriptTail value slice v u) (EP X pins σ Q) X.xe s
def Ce(X:Cx)(id:String)(r:V->List V->Hp->VK->Prop):Prop:=
 ∀(pins:List (Addr×Obj)) (s:Shared) (σ:St) (H:Hp) (x:V) (xs:List V) (v:Value) (us:List Value) (Q:VK),Inv X pins σ H s->RelV x v->Vals xs us->r x xs H Q->
  wpAny (model X.prog X.w) X.A (call (.builtin id) (v::us)) (EP X pins σ Q) X.xe s
section
variable {X:Cx} {a b:Expr} {ta tb:TE} {pos:Pos}
theorem Oi(hr:PB X r)(ha:PE X a ta)(hb:PE X b tb)(hs:nP b):PE X (.Subscript a b pos) (NB r ta tb):=by
 intro pins s σ H Q I h;exact Subscript_ (MN ha hb I h λv u s2 x y H2 I2 rx ry q=>hr a b pins s2 σ H2 x y v u Q I2 rx ry q (hs _ _))
def QK(K:FR):R2:=λx y H Q=>∃p xs i v,x=.ref p/\y=.int i/\gH K H p xs/\gG xs i=some v/\Q v H
def QI(K:FR):R2:=λx y H Q=>∃p xs i v,x=.ref p/\y=.int i/\kF K H p xs/\gG xs i=some v/\Q v H
def QJ:R2:=λx y H Q=>∃z i c,x=.str z/\y=.int i/\z.length<=sizeLine/\gG z.cps.toList i=some c/\Q (.str ⟨#[c]⟩) H
theorem IH:PB X (QK X.K):=by
 intro value slice pins s σ H x y v u Q I rx ry h hs;obtain⟨p,xs,i,z,rfl,rfl,hq,he,q⟩:=h;cases rx;obtain⟨t,rfl⟩:=ry;obtain⟨its,r,pl,hz⟩:=I.list hq;obtain⟨j,h1,h2,h3,h4,h5⟩:=qU he;obtain⟨w,ew,rw'⟩:=r.get h2;have hl:=r.length;have hn:=lC;have fin:EP X pins σ Q w s:=⟨z,H,I,rw',q⟩
 by_cases h0:0<=i
 ·have hj:i.toNat=j:=by
   rw[seqIndex_of h0 h5] at h1;exact Option.some.inj h1
  exact item_listR pl.isList h0 (by lia) (by rw[hj];simpa using ew) fin hs
 ·have hj:(i+(its.toArray.size:Int)).toNat=j:=by
   rw[seqIndex_neg (by lia) h4] at h1;rw[SH,<-hl];exact Option.some.inj h1
  exact subscriptTail_builtinR (x:=w) pl.isList.typeIs slot_list_getitem.lookup
   (wpAny_getItem_list_neg (Q:=λr s'=>r=w/\EP X pins σ Q r s') pl.isList (by lia) (by rw[SH] <;> lia) (by lia) (by rw[hj];simpa using ew) ⟨rfl,fin⟩) hs
theorem L5:PB X (QI X.K):=by
 intro value slice pins s σ H x y v u Q I rx ry h hs;obtain⟨p,xs,i,z,rfl,rfl,hq,he,q⟩:=h;cases rx;obtain⟨t,rfl⟩:=ry;obtain⟨its,r,pl,hz⟩:=I.tuple hq;obtain⟨j,h1,h2,h3,h4,h5⟩:=qU he;obtain⟨w,ew,rw'⟩:=r.get h2;have hl:=r.length;have hn:=lC;have fin:EP X pins σ Q w s:=⟨z,H,I,rw',q⟩;exact subscriptTail_builtinR (x:=w) pl.typeIs TF.lookup
  (getItem_tuple (j:=j) (Q:=λr s'=>r=w/\EP X pins σ Q r s') pl (by lia) (by lia) (by rw[SH,<-hl];exact h1) (by simpa using ew) ⟨rfl,fin⟩) hs
theorem L6:PB X QJ:=by
 intro value slice pins s σ H x y v u Q I rx ry h hs;obtain⟨z,i,c,rfl,rfl,hz,he,q⟩:=h;obtain⟨t,rfl⟩:=rx;obtain⟨t',rfl⟩:=ry;obtain⟨j,h1,h2,h3,h4,h5⟩:=qU he;have hl:z.cps.toList.length=z.length:=by simp[Str.length]
 rw[hl] at h1 h4 h5;have hn:=lC;exact tail_any (Wf s z t) slot_str_getitem.lookup (getItem_str (c:=c) (by
  have e1:decide (i < -(2^63:Int))=false:=Tt (by lia);have e2:decide (i≥2^63)=false:=Tt (by lia);rw[e1,e2,Bool.or_false]) (by rw[h1];simpa using h2) ⟨.str ⟨#[c]⟩,H,I.tok _,⟨_,rfl⟩,q⟩) hs
theorem Ax(its:List Value)(n j:Nat)(u:Value):Obj.mapSeq (·.setIfInBounds j u) {cls:=.type "list",data:=.seq its.toArray n}={cls:=.type "list",data:=.seq (its.set j u).toArray n}:=by
 simp[Obj.mapSeq]
theorem Inv.lst(I:Inv X pins σ H s)(h:H p=some (.lst xs)):
  ∃(its:List Value)(n:Nat),Vals xs its/\s.heap.get? p=some {cls:=.type "list",data:=.seq its.toArray n}/\xs.length<=sizeLine:=by
 obtain⟨z,its,n,r,e⟩:=I.bg p _ h;exact⟨its,n,r,e,z⟩
theorem Inv.LR{pins:List (Addr×Obj)}{σ:St}{H:Hp}{s:Shared}{p:Addr}{xs ys:List V}{its its':List Value}{n n':Nat}{f:Obj->Obj}(I:Inv X pins σ H s)(h:H p=some (.lst xs))
  (ho:s.heap.get? p=some {cls:=.type "list",data:=.seq its.toArray n}) (hf:f {cls:=.type "list",data:=.seq its.toArray n}={cls:=.type "list",data:=.seq its'.toArray n'}) (r:Vals ys its') (hz:ys.length<=sizeLine) (t:Nat):
  Inv X pins σ (upd H p (.lst ys)) {s with heap:=s.heap.update p f,toks:=t}:=by
 have e:(s.heap.update p f).get? p=some {cls:=.type "list",data:=.seq its'.toArray n'}:=by
  rw[Vy f ho (by rw[hf] <;> rfl),hf]
 refine I.write (x:=p) (e:=p) (by rw[h];trivial) (.inl rfl) (λb u hb q=>(Ue _ _ (Um hb)).trans q) ⟨_,e⟩ ?_;exact⟨hz,its',n',r,e⟩
def Oc:V->V->V->Hp->(Hp->Prop)->Prop:=λo i v H Q=>∃p xs k j,o=.ref p/\i=.int k/\H p=some (.lst xs)/\sQ xs.length k=some j/\Q (upd H p (.lst (xs.set j v)))
theorem set_list:MZ X Oc:=by
 intro pins s σ H o i v ov iv u Q I ro ri rv h;obtain⟨p,xs,k,j,rfl,rfl,hp,hj,q⟩:=h;cases ro;obtain⟨t,rfl⟩:=ri;obtain⟨its,n,r,ho,hz⟩:=I.lst hp;obtain⟨h1,h2,h3,h4⟩:=BO hj;have hl:=r.length;have hn:=lC;have I':Inv X pins σ (upd H p (.lst (xs.set j v))) {s with heap:=s.heap.update p (Obj.mapSeq (·.setIfInBounds j u))}:=
  I.LR hp ho (Ax its n j u) (r.set rv j) (by rw[UI];exact hz) s.toks
 by_cases h0:0<=k
 ·have hk:k.toNat=j:=by
   rw[seqIndex_of h0 h4] at h1;exact Option.some.inj h1
  exact PySem.W.ki_setAt ho h0 (by lia) (by rw[SH,<-hl];exact h4) (by rw[hk];exact⟨_,I',q⟩)
 ·have hk:(k+(its.toArray.size:Int)).toNat=j:=by
   rw[seqIndex_neg (by lia) h3] at h1;rw[SH,<-hl];exact Option.some.inj h1
  exact PySem.W.ki_setBack ho (by lia) (by rw[SH,<-hl];exact h3) (by lia) (by rw[hk];exact⟨_,I',q⟩)
theorem wu(lo hi:Option Int)(n:Nat):(sliceBounds lo hi none n).1=((HT.cM n 0 lo:Nat):Int)/\(sliceBounds lo hi none n).2.1=((HT.cM n n hi:Nat):Int)/\(sliceBounds lo hi none n).2.2=1:=by
 refine⟨?_,?_,rfl⟩
 ·cases lo with
  | none=>simp[sliceBounds,HT.cM]
  | some i=>
   simp only[sliceBounds,HT.cM,Option.getD_none,show(1:Int) > 0 by decide,VC]
   by_cases h:i < 0
   ·simp only[h,VC] <;> lia
   ·simp only[h,Wj] <;> lia
 ·cases hi with
  | none=>simp[sliceBounds,HT.cM]
  | some i=>
   simp only[sliceBounds,HT.cM,Option.getD_none,show(1:Int) > 0 by decide,VC]
   by_cases h:i < 0
   ·simp only[h,VC] <;> lia
   ·simp only[h,Wj] <;> lia
theorem ub(its:List Value)(lo hi:Option Int):slicePick its.toArray lo hi none=((its.drop (HT.cM its.length 0 lo)).take (HT.cM its.length its.length hi-HT.cM its.length 0 lo)).toArray:=by
 obtain⟨h1,h2,h3⟩:=wu lo hi its.toArray.size;unfold slicePick;rw[h1,h2,h3];simp only[sliceRange_one,pick_run,SH] <;> rfl
def QD(K:FR):V->Option Int->Option Int->Hp->VK->Prop:=λx lo hi H Q=>∃a xs,x=.ref a/\gH K H a xs/\∀p,H p=none->Q (.ref p) (upd H p (.lst (tE xs lo hi)))
theorem Hn:MV X (QD X.K):=by
 intro pins s σ H x v vl vu lo hi sl Q I rx hs pl pu h;obtain⟨a,xs,rfl,hx,q⟩:=h;cases rx;obtain⟨its,r,ht,hz⟩:=I.list hx;have hlen:=r.length;refine⟨"list",_,slot_list_getitem.lookup,ht.isList.typeIs,?_⟩;refine wpAny_getItem_list_slice ht.isList hs pl pu .none (by simp) ?_ (by rw[SH] <;> lia);rw[ub,<-hlen];refine⟨.ref s.heap.objs.size,_,I.laid (t':=s.toks) (o:=.lst (tE xs lo hi)) (λb ob q=>Ss _ q) (Sj _) ?_,rfl,q _ (I.bg.fresh (Sj _))⟩;exact⟨Sw (pY xs lo hi) hz,_,0,(r.drop (HT.cM xs.length 0 lo)).take (HT.cM xs.length xs.length hi-HT.cM xs.length 0 lo),Tc _ rfl⟩
theorem xI:fY X (.builtin "len") (λxs H Q=>∃p ys,xs=[.ref p]/\(gH X.K H p ys\/kF X.K H p ys)/\Q (.int ys.length) H):=by
 intro pins s σ H xs us Q I r h;obtain⟨p,ys,rfl,hq,q⟩:=h;obtain⟨u,rfl,rx⟩:=vals1 r;cases rx;have hn:=lC;rcases hq with hq | hq
 ·obtain⟨its,r',pl,hz⟩:=I.list hq;have hlen:=r'.length;exact Calls.call_len_list pl.isList (by simp only[SH] <;> lia) ⟨.int ys.length,H,I.tok _,⟨s.toks+1,by rw[SH,hlen]⟩,q⟩
 ·obtain⟨its,r',pl,hz⟩:=I.tuple hq;have hlen:=r'.length;exact len_tuple pl (by simp only[SH] <;> lia) ⟨.int ys.length,H,I.tok _,⟨s.toks+1,by rw[SH,hlen]⟩,q⟩
theorem xH:fY X (.builtin "len") (λxs H Q=>∃z,xs=[.str z]/\z.length<=sizeLine/\Q (.int z.length) H):=by
 intro pins s σ H xs us Q I r h;obtain⟨z,rfl,hz,q⟩:=h;obtain⟨u,rfl,t,rfl⟩:=vals1 r;have hn:=lC;exact len_str (by lia) ⟨.int z.length,H,I.tok _,⟨_,rfl⟩,q⟩
theorem xG:fY X (.type "list") (λxs H Q=>∃p ys,xs=[.ref p]/\(gH X.K H p ys\/kF X.K H p ys)/\∀l,H l=none->Q (.ref l) (upd H l (.lst ys))):=by
 intro pins s σ H xs us Q I r h;obtain⟨p,ys,rfl,hq,q⟩:=h;obtain⟨u,rfl,rx⟩:=vals1 r;cases rx;have fin:∀(its:List Value),Vals ys its->ys.length<=sizeLine->∀(h':Heap)(c':Nat),(∀b o',s.heap.get? b=some o'->h'.get? b=some o')->
   h'.get? s.heap.objs.size=some {cls:=.type "list",dict:=none,data:=.seq its.toArray c',slots:=#[]}->EP X pins σ Q (.ref s.heap.objs.size) {s with heap:=h'}:=λits r' hz h' c' kp e=>
  ⟨.ref s.heap.objs.size,_,I.laid (t':=s.toks) kp (Sj _) (show bS X.prog X.w _ h' _ (.lst ys) from⟨hz,its,c',r',e⟩),rfl,q _ (I.bg.fresh (Sj _))⟩
 rcases hq with hq | hq
 ·obtain⟨its,r',pl,hz⟩:=I.list hq;have hlen:=r'.length;obtain⟨o,ho,hc,n,hd⟩:=pl.isList;exact call_list_seq p (.inl rfl) ho hc hd (λh' c' kp e=>fin its r' hz h' c' kp e) (by simp only[SH] <;> lia)
 ·obtain⟨its,r',pl,hz⟩:=I.tuple hq;have hlen:=r'.length;obtain⟨o,ho,hc,n,hd⟩:=pl;exact call_list_seq p (.inr rfl) ho hc hd (λh' c' kp e=>fin its r' hz h' c' kp e) (by simp only[SH] <;> lia)
theorem uJ:fY X (.type "tuple") (λxs H Q=>∃p ys,xs=[.ref p]/\((gH X.K H p ys/\∀l,H l=none->Q (.ref l) (upd H l (.tup ys)))\/(kF X.K H p ys/\Q (.ref p) H))):=by
 intro pins s σ H xs us Q I r h;obtain⟨p,ys,rfl,h⟩:=h;obtain⟨u,rfl,rx⟩:=vals1 r;cases rx;rcases h with⟨hq,q⟩ |⟨hq,q⟩
 ·obtain⟨its,r',pl,hz⟩:=I.list hq;have hlen:=r'.length;refine call_tuple_list pl.isList (λh' kp=>?_) (by simp only[SH] <;> lia);have I1:Inv X pins σ H {s with heap:=h'}:=I.kept (t':=s.toks) kp;have I2:Inv X pins σ (upd H h'.objs.size (.tup ys)) {s with heap:=h'.push {cls:=.type "tuple",data:=.seq its.toArray}}:=
   I1.laid (t':=s.toks) (λb o e=>Ss _ e) (Sj _) (show bS X.prog X.w _ _ _ (.tup ys) from⟨hz,its,r',zB.new _ _⟩)
  exact⟨.ref h'.objs.size,_,I2,rfl,q _ (I1.bg.fresh (Sj _))⟩
 ·obtain⟨its,r',pl,hz⟩:=I.tuple hq;exact call_tuple_same pl ⟨.ref p,H,I,rfl,q⟩
def Jv(K:FR)(T:String)(x:V)(H:Hp):Prop:=match x with
 | .str _=>T="str"
 | .int _=>T="int"
 | .ref p=>(T="list"/\∃xs,gH K H p xs)\/(T="tuple"/\∃o,K.lookup p=some o/\o.cls=.type "tuple"/\o.dict=none)\/
   (T="dict"/\((∃kvs,H p=some (.dK kvs))\/(∃kvs,H p=some (.dT kvs))\/∃φ,H p=some (.BU φ)/\∀w h,φ w h->∃o,h.get? p=some o/\o.ExactDict))\/(T="set"/\∃S n,H p=some (.set S n))
 | _=>False
theorem D3(I:Inv X pins σ H s)(r:RelV x v)(ty:Jv X.K T x H):
  s.TypeIs v T/\∀a,v=.ref a->∃ob,s.heap.get? a=some ob/\ob.dict=none:=by
 cases x with
 | str z=>
  obtain⟨t,rfl⟩:=r;cases(show T="str" from ty);exact⟨Wf s z t,λ_ e=>nomatch e⟩
 | int i=>
  obtain⟨t,rfl⟩:=r;cases(show T="int" from ty);exact⟨typeIs_int s i t,λ_ e=>nomatch e⟩
 | ref p=>
  cases r;rcases ty with⟨rfl,xs,hq⟩ |⟨rfl,o,hk,hc,hd⟩ |⟨rfl,hk⟩ |⟨rfl,S,n,hk⟩
  ·obtain⟨its,_,pl,_⟩:=I.list hq;refine⟨pl.isList.typeIs,λa e=>?_⟩;cases e;obtain⟨o,n,e,c,hd,_⟩:=pl;exact⟨o,e,hd⟩
  ·refine⟨⟨o,I.pU p o hk,hc⟩,λa e=>?_⟩;cases e;exact⟨o,I.pU _ o hk,hd⟩
  ·have z:∃o,s.heap.get? p=some o/\o.ExactDict:=by
    rcases hk with⟨kvs,hk⟩ |⟨kvs,hk⟩ |⟨φ,hk,hφ⟩
    ·obtain⟨_,_,_,_,o,_,_,e,ex,_⟩:=I.bg p _ hk;exact⟨o,e,ex⟩
    ·obtain⟨_,_,_,_,o,_,_,e,ex,_⟩:=I.bg p _ hk;exact⟨o,e,ex⟩
    ·obtain⟨q,_⟩:=I.bg p _ hk;exact hφ _ _ q
   obtain⟨o,e,ex⟩:=z;refine⟨⟨o,e,ex.1⟩,λa e2=>?_⟩;cases e2;exact⟨o,e,ex.2.1⟩
  ·obtain⟨o,_,_,_,e,ex,_⟩:=I.bg p _ hk;refine⟨⟨o,e,ex.1⟩,λa e2=>?_⟩;cases e2;exact⟨o,e,ex.2.1⟩
 | _=>exact False.elim ty
def Qi(K:FR)(T:String)(r:V->List V->Hp->VK->Prop)(to:TE):TE:=λσ H Q=>to σ H λx H1=>Jv K T x H1/\r x [] H1 Q
def RV(K:FR)(T:String)(r:V->List V->Hp->VK->Prop)(to:TE)(t:TA):TE:=λσ H Q=>to σ H λx H1=>Jv K T x H1/\t σ H1 λxs H2=>r x xs H2 Q
variable {o e:Expr} {es:List Expr} {to:TE} {t:TA} {name:Str} {apos cpos:Pos} {T id:String} {r:V->List V->Hp->VK->Prop}
theorem Lr(pa:PlainAttrs T)(slot:Slot T name id)(hty:typeOf (.builtin id)=pure (.type "method_descriptor"))(hm:Ce X id r)(ho:PE X o to)
  (hbase:attributeBase o name X.env (eval o X.env)=eval o X.env:=by rfl) (hline:(apos.endLine==cpos.line)=true:=by rfl):PE X (.Call (.Attribute o name apos) [] [] cpos) (Qi X.K T r to):=by
 intro pins s σ H Q I h;refine wpAny_Call_method0_late hbase hline (cD (ho pins s σ H _ I h) λv s1 ⟨x,H1,I1,r1,ty,q1⟩=>?_);obtain⟨h1,h2⟩:=D3 I1 r1 ty;exact⟨T,id,pa,slot,hty,h1,h2,Calls.callWith_builtin rfl (PySem.evalArgs_none (hm pins s1 σ H1 x [] v [] Q I1 r1 .nil q1))⟩
theorem Oj(pa:PlainAttrs T)(slot:Slot T name id)(hty:typeOf (.builtin id)=pure (.type "method_descriptor"))(hm:Ce X id r)(ho:PE X o to)(ha:PA X (e::es) t)
  (hbase:attributeBase o name X.env (eval o X.env)=eval o X.env:=by rfl)
  (hfew:((backTo cpos (starEach (e::es) X.env)).all (λx=>!x.1)&&(backToKw cpos (keywordEach [] X.env)).all (λx=>x.1.isSome)
   &&decide ((e::es).length+([]:List Keyword).length+(if([]:List Keyword).isEmpty then 0 else 1) < 30))=true:=by rfl)
  (hline:(apos.endLine==cpos.line)=true:=by rfl) (hs:starEach (e::es) X.env=(false,eval e X.env)::starEach es X.env:=by rfl) (hplain:(backTo cpos (starEach es X.env)).any (·.1)=false:=by rfl):
  PE X (.Call (.Attribute o name apos) (e::es) [] cpos) (RV X.K T r to t):=by
 intro pins s σ H Q I h;refine wpAny_Call_method_late hbase hfew hline rfl (cD (ho pins s σ H _ I h) λv s1 ⟨x,H1,I1,r1,ty,q1⟩=>?_);obtain⟨h1,h2⟩:=D3 I1 r1 ty;refine⟨T,id,pa,slot,hty,h1,h2,?_⟩;have hA:=ha cpos pins s1 σ H1 _ I1 q1;rw[hs] at hA ⊢;refine Calls.callWith_builtin (by show(false||(backTo cpos (starEach es X.env)).any (·.1))=false;rw[hplain] <;> rfl) (Calls.evalArgs_plain ?_);exact cD hA λus s2 ⟨vs,H2,I2,r2,q2⟩=>hm pins s2 σ H2 x vs v us Q I2 r1 r2 q2
end
def Rg(X:Cx)(id:String)(r:V->List V->Hp->VK->Prop):Prop:=
 ∀(pins:List (Addr×Obj)) (s:Shared) (σ:St) (H:Hp) (x:V) (xs:List V) (v:Value) (us:List Value) (Q:VK),Inv X pins σ H s->RelV x v->Vals xs us->r x xs H Q->
  wpAny (model X.prog X.w) X.A (call (.builtin id) (v::us)) (EP X pins σ Q) X.xe s
theorem Vals.one{x:V}{us:List Value}(h:Vals [x] us):∃u,us=[u]/\RelV x u:=by
 cases h with
 | cons r t=>cases t;exact⟨_,rfl,r⟩
theorem Vals.two{x y:V}{us:List Value}(h:Vals [x,y] us):∃u v,us=[u,v]/\RelV x u/\RelV y v:=by
 cases h with
 | cons r t=>cases t with
  | cons q z=>cases z;exact⟨_,_,rfl,r,q⟩
theorem Vals.zero:∀{us:List Value},Vals [] us->us=[]
 | _,.nil=>rfl
theorem Vals.dropLast(h:Vals xs us):Vals xs.dropLast us.dropLast:=by
 induction h with
 | nil=>exact .nil
 | cons r t ih=>
  cases t with
  | nil=>exact .nil
  | cons q t'=>exact .cons r ih
theorem Vals.rep(h:Vals xs us):∀k:Nat,Vals (List.replicate k xs).flatten (List.replicate k us).flatten
 | 0=>.nil
 | k+1=>by
  rw[TU,TU,Uo,Uo];exact Vals.append h (Vals.rep h k)
theorem AK(l:List α):l.eraseIdx (l.length-1)=l.dropLast:=by
 induction l with
 | nil=>rfl
 | cons a r ih=>
  cases r with
  | nil=>rfl
  | cons b r=>
   have e:(a::b::r).length-1=((b::r).length-1)+1:=by
    have h1:(a::b::r).length=r.length+2:=rfl;have h2:(b::r).length=r.length+1:=rfl
    lia
   rw[e,List.eraseIdx_cons_succ,ih]
   all_goals rfl
theorem foldl_rep(its:List Value):∀(k:Nat)(acc:List Value),
  List.foldl (λx1 x2=>x1++x2) acc.toArray (List.replicate k its.toArray)=(acc++(List.replicate k its).flatten).toArray
 | 0,acc=>by simp
 | k+1,acc=>by
  have e:acc.toArray++its.toArray=(acc++its).toArray:=by simp
  have e2:(acc++its)++(List.replicate k its).flatten=acc++(List.replicate (k+1) its).flatten:=by
   rw[TU,Uo,SY]
  rw[<-e2,<-foldl_rep its k (acc++its),<-e,TU,V4]
theorem Inv.LU{its its':List Value}{n:Nat}{f:Array Value->Array Value}{t':Nat}(I:Inv X pins σ H s)(hH:H l=some (.lst xs))
  (e:s.heap.get? l=some {cls:=.type "list",data:=.seq its.toArray n}) (hf:f its.toArray=its'.toArray) (hv:Vals ys its') (hz:ys.length<=sizeLine):
  Inv X pins σ (upd H l (.lst ys)) {s with heap:=s.heap.update l (Obj.mapSeq f),toks:=t'}:=by
 have q:=PySem.IsL.update e f;rw[hf] at q;refine I.write (x:=l) (e:=l) (by rw[hH];exact trivial) (.inl rfl) (λb' u hb hu=>(Ue s.heap (Obj.mapSeq f) (Um hb)).trans hu) ⟨_,q⟩ ?_;exact⟨hz,its',_,hv,q⟩
theorem Inv.IC(I:Inv X pins σ H s)(hv:Vals ys its)(hz:ys.length<=sizeLine):
  Inv X pins σ (upd H s.heap.objs.size (.lst ys)) {s with heap:=s.heap.push {cls:=.type "list",data:=.seq its.toArray},toks:=t'}:=
 I.laid (λ_ _ q=>Ss _ q) (Sj _) ⟨hz,its,0,hv,Tc _ rfl⟩
theorem Inv.fresh(I:Inv X pins σ H s):H s.heap.objs.size=none:=I.bg.fresh (Sj _)
theorem Inv.Ay(I:Inv X pins σ H s)(hH:H l=some (.lst xs)):xs.length<=sizeLine/\∃(its:List Value)(n:Nat),Vals xs its/\xs.length=its.length/\s.heap.get? l=some {cls:=.type "list",data:=.seq its.toArray n}:=by
 obtain⟨z,its,n,r,e⟩:=I.bg l _ hH;exact⟨z,its,n,r,r.length,e⟩
theorem yL(h:n<=sizeLine):Builtin.List.listTooLong n=false:=by
 unfold Builtin.List.listTooLong;exact Tt (by lia)
def HI:V->List V->Hp->VK->Prop:=λx vs H Q=>∃l xs y,x=.ref l/\vs=[y]/\H l=some (.lst xs)/\xs.length < sizeLine/\Q .cq (upd H l (.lst (xs++[y])))
theorem oG:Rg X "list.append" HI:=by
 intro pins s σ H x vs v us Q I rx rv h;obtain⟨l,xs,y,rfl,rfl,hH,hz,q⟩:=h;cases rx;obtain⟨u,rfl,ru⟩:=rv.one;obtain⟨z,its,n,r,hl,e⟩:=I.Ay hH;refine Vf Vl ⟨_,e,rfl⟩ F.entry_list_append (F.args_list_append_2 _ _) (PySem.list_append l its.toArray n u (by rw[SH];lia)) ⟨e,?_⟩;refine⟨.cq,_,I.LU (its':=its++[u]) hH e (by simp) (r.append (.cons ru .nil)) ?_,rfl,q⟩;rw[Sn,UC]
 lia
def HH:V->List V->Hp->VK->Prop:=λx vs H Q=>∃l b xs zs,x=.ref l/\vs=[.ref b]/\H l=some (.lst xs)/\H b=some (.lst zs)/\xs.length+zs.length<=sizeLine/\Q .cq (upd H l (.lst (xs++zs)))
theorem CN:Rg X "list.extend" HH:=by
 intro pins s σ H x vs v us Q I rx rv h;obtain⟨l,b,xs,zs,rfl,rfl,hH,hB,hz,q⟩:=h;cases rx;obtain⟨u,rfl,ru⟩:=rv.one;cases ru;obtain⟨z,its,n,r,hl,e⟩:=I.Ay hH;obtain⟨z2,its2,n2,r2,hl2,e2⟩:=I.Ay hB;have hsz:its.toArray.size+its2.toArray.size<=sizeLine:=by rw[SH,SH];lia
 have hlong:¬(!its.toArray.isEmpty&&Builtin.List.listTooLong (its.toArray.size+its2.toArray.size))=true:=by
  rw[yL hsz,Bool.and_false];exact UA
 refine Vf V6 ⟨_,e,rfl⟩ F.entry_list_extend (F.args_list_extend_2 _ _)
  (AutoSeq1.list_extend_list_list_0 l its.toArray n b its2.toArray n2 hlong (by rw[SH];lia) (by lia)) ⟨e,e2,?_⟩
 refine⟨.cq,_,I.LU (its':=its++its2) hH e (by simp) (r.append r2) ?_,rfl,q⟩;rw[Sn]
 lia
def QH:V->List V->Hp->VK->Prop:=λx vs H Q=>∃l xs y,x=.ref l/\vs=[]/\H l=some (.lst xs)/\xs[xs.length-1]?=some y/\Q y (upd H l (.lst xs.dropLast))
theorem LL:Rg X "list.pop" QH:=by
 intro pins s σ H x vs v us Q I rx rv h;obtain⟨l,xs,y,rfl,rfl,hH,hy,q⟩:=h;cases rx;have hus:=rv.zero;subst hus;obtain⟨z,its,n,r,hl,e⟩:=I.Ay hH;obtain⟨u,hu,ru⟩:=r.get hy;have hy':its.toArray[its.toArray.size-1]?=some u:=by
  show its.toArray[its.length-1]?=some u;rw[<-Array.getElem?_toList,<-hl];exact hu
 refine Vf F.slot_list_pop ⟨_,e,rfl⟩ F.entry_list_pop (F.args_list_pop_1 _) (MeetsSeq.list_pop_last l its.toArray n u hy' (by rw[SH];lia)) ⟨e,?_⟩;refine⟨y,_,I.LU (its':=its.dropLast) hH e ?_ r.dropLast ?_,ru,q⟩
 ·show its.toArray.eraseIdxIfInBounds (its.toArray.size-1)=its.dropLast.toArray;rw[SH,List.eraseIdxIfInBounds_toArray,AK]
 ·rw[List.length_dropLast]
  lia
def QL:R2:=λx y H Q=>∃l b xs zs,x=.ref l/\y=.ref b/\H l=some (.lst xs)/\H b=some (.lst zs)/\xs.length+zs.length<=sizeLine/\∀p,H p=none->Q (.ref p) (upd H p (.lst (xs++zs)))
theorem Fz:nQ X (binaryOp .Add) QL:=by
 intro pins s σ H x y v u Q I rx ry h;obtain⟨l,b,xs,zs,rfl,rfl,hH,hB,hz,q⟩:=h;cases rx;cases ry;obtain⟨z,its,n,r,hl,e⟩:=I.Ay hH;obtain⟨z2,its2,n2,r2,hl2,e2⟩:=I.Ay hB;refine PySem.P.add_list e e2 ?_ (by rw[SH,SH];lia);have ea:its.toArray++its2.toArray=(its++its2).toArray:=by simp
 rw[ea];exact⟨.ref _,_,I.IC (t':=s.toks) (r.append r2) (by rw[Sn];lia),rfl,q _ I.fresh⟩
def QG:R2:=λx y H Q=>∃l k xs,x=.ref l/\y=.int k/\H l=some (.lst xs)/\-(2^63)<=k/\k < 2^63/\xs.length*k.toNat<=sizeLine/\
 ∀p,H p=none->Q (.ref p) (upd H p (.lst (List.replicate k.toNat xs).flatten))
theorem len_rep(xs:List α)(k:Nat):(List.replicate k xs).flatten.length=k*xs.length:=by
 induction k with
 | zero=>simp
 | succ k ih=>rw[TU,Uo,Sn,ih,Nat.succ_mul,Wt]
theorem LA:nQ X (binaryOp .Mult) QG:=by
 intro pins s σ H x y v u Q I rx ry h;obtain⟨l,k,xs,rfl,rfl,hH,h1,h2,hz,q⟩:=h;cases rx;obtain⟨t,rfl⟩:=ry;obtain⟨z,its,n,r,hl,e⟩:=I.Ay hH;have hlen:its.toArray.size*k.toNat<=sizeLine:=by rw[SH,<-hl];exact hz
 have hcap:¬its.toArray.size*k.toNat > (2^63-1) / 8:=by
  have:(sizeLine:Nat)<=(2^63-1) / 8:=by decide
  lia
 have hfit:¬(!Builtin.List.listFitsIndex k)=true:=by
  rw[fitsIndex_both h1 h2];exact UA
 have hlong:¬Builtin.List.listTooLong (its.toArray.size*k.toNat)=true:=by
  rw[yL hlen];exact UA
 have hnew:List.foldl (λx1 x2=>x1++x2) #[] (List.replicate (if its.toArray.isEmpty=true then 0 else k.toNat) its.toArray)=(List.replicate k.toNat its).flatten.toArray:=by
  have f0:∀m:Nat,List.foldl (λx1 x2=>x1++x2) #[] (List.replicate m its.toArray)=(List.replicate m its).flatten.toArray:=λm=>by
   have:=foldl_rep its m [];rw[TN] at this;exact this
  rw[f0];cases its with
  | nil=>simp
  | cons a r'=>rw[Sv (by simp)]
 refine wpAny_binaryOp_repeat_ref (T:="list") (U:="int") (by decide) ⟨_,e,rfl⟩ (λs'=>typeIs_int s' k t) noFill_list_mul F.fills_int_mul F.slot_int_rmul repeat_list F.slot_int_index.lookup
  (Vf F.slot_int_rmul (typeIs_int s k t) F.entry_int_rmul (F.args_int_rmul_2 _ _) (int___rmul___int_list k t l its.toArray n)
   ⟨e,rfl,⟨_,e,rfl⟩,Vf F.slot_list_mul ⟨_,e,rfl⟩ F.entry_list_mul (F.args_list_mul_2 _ _) (AutoListH.list___mul___list_int_3 l its.toArray n k t hfit hcap hlong) ⟨e,?_⟩⟩)
 rw[hnew];exact⟨.ref _,_,I.IC (t':=s.toks) (r.rep k.toNat) (by rw[len_rep,Nat.mul_comm];exact hz),rfl,q _ I.fresh⟩
section
variable {κ:Type} [DecidableEq κ]
noncomputable def jh(kvs:List (κ×V))(k:κ):Option V:=(kvs.find? λkv=>decide (kv.1=k)).map (·.2)
noncomputable def putK(kvs:List (κ×V))(k:κ)(v:V):List (κ×V):=
 if(kvs.any λkv=>decide (kv.1=k))=true then kvs.map (λkv=>if kv.1=k then(kv.1,v) else kv) else kvs++[(k,v)]
theorem qY{p:κ×V}{r:List (κ×V)}{k:κ}(e:p.1=k):jh (p::r) k=some p.2:=by simp[jh,UZ,e]
theorem lS{p:κ×V}{r:List (κ×V)}{k:κ}(e:¬p.1=k):jh (p::r) k=jh r k:=by simp[jh,UZ,e]
theorem xY(k:κ):∀kvs:List (κ×V),(kvs.any λkv=>decide (kv.1=k))=(jh kvs k).isSome
 | []=>rfl
 | p::r=>by
  rw[U1]
  by_cases e:p.1=k
  ·simp only[qY e,Tb e,Bool.true_or,Option.isSome_some]
  ·rw[lS e,Tt e,Bool.false_or];exact xY k r
theorem jN(kvs:List (κ×V))(k:κ)(v:V):(putK kvs k v).length<=kvs.length+1:=by
 unfold putK
 split
 ·rw[R9];lia
 ·rw[Sn,Sf,TY];lia
theorem oY.iz(r:oY o u):o.isSome=u.isSome:=by
 cases o with
 | none=>cases u with
  | none=>rfl
  | some _=>exact(show False from r).elim
 | some _=>cases u with
  | none=>exact(show False from r).elim
  | some _=>rfl
theorem oY.getD(r:oY o u)(rd:RelV d d'):RelV (o.getD d) (u.getD d'):=by
 cases o with
 | none=>cases u with
  | none=>exact rd
  | some _=>exact(show False from r).elim
 | some _=>cases u with
  | none=>exact(show False from r).elim
  | some _=>exact r
theorem KV.val{kvs:List (κ×V)}{vs:List (κ×Value)}(r:KV kvs vs)(k:κ):oY (jh kvs k) (valueAt vs k):=by
 unfold KV at r
 induction r with
 | nil=>exact True.intro
 | @cons p q ps qs h t ih=>
  obtain⟨h1,h2⟩:=h
  by_cases e:p.1=k
  ·have e':q.1=k:=h1.symm.trans e;have b:valueAt (q::qs) k=some q.2:=by simp[valueAt,UZ,e']
   rw[qY e,b];exact h2
  ·have e':¬q.1=k:=λz=>e (h1.trans z);have b:valueAt (q::qs) k=valueAt qs k:=by simp[valueAt,UZ,e']
   rw[lS e,b];exact ih
theorem KV.any(r:KV kvs vs)(k:κ):(kvs.any λkv=>decide (kv.1=k))=vs.any λkv=>decide (kv.1=k):=by
 unfold KV at r
 induction r with
 | nil=>rfl
 | cons h t ih=>rw[U1,U1,ih,h.1]
theorem KV.KU(r:KV kvs vs)(k:κ)(ry:RelV y u):
  KV (kvs.map λkv=>if kv.1=k then(kv.1,y) else kv) (vs.map λkv=>if kv.1=k then(kv.1,u) else kv):=by
 unfold KV at r ⊢
 induction r with
 | nil=>exact .nil
 | @cons p q ps qs h t ih=>
  rw[Sl,Sl];refine .cons ?_ ih;obtain⟨h1,h2⟩:=h
  by_cases e:p.1=k
  ·rw[Si e,Si (h1.symm.trans e)];exact⟨h1,ry⟩
  ·rw[Sv e,Sv (λz=>e (h1.trans z))];exact⟨h1,h2⟩
theorem KV.put(r:KV kvs vs)(k:κ)(ry:RelV y u):KV (putK kvs k y) (stored vs k u):=by
 unfold putK stored;rw[r.any k]
 by_cases e:(vs.any λkv=>decide (kv.1=k))=true
 ·rw[Si e,Si e];exact r.KU k ry
 ·rw[Sv e,Sv e];exact Paired.snoc r ⟨rfl,ry⟩
theorem KV.length(r:KV kvs vs):kvs.length=vs.length:=Paired.length r
end
theorem pT(r:RelV (kV k) u):(bX P w).is k u=true:=by
 cases k with
 | inl i=>obtain⟨t,e⟩:=(show ∃t,u=Value.int i t from r);subst e;exact yP P w i t
 | inr x=>obtain⟨t,e⟩:=(show ∃t,u=Value.str x t from r);subst e;exact yO P w x t
theorem vC:∀{ks:List Key} {us:List Value},Vals (ks.map kV) us->ItemsAre (bX P w) ks us
 | [],_,r=>by rw[TX] at r;cases r;exact .nil
 | k::ks,_,r=>by
  rw[Sl] at r;cases r with
  | cons h t=>exact .cons (pT h) (vC t)
abbrev KT(H:Hp):List (List Key×V)->List (List Key×Addr×Value)->Prop:=Paired λp q=>p.1=q.1/\H q.2.1=some (.tup (p.1.map kV))/\RelV p.2 q.2.2
theorem KT.val{H:Hp}{kvs:List (List Key×V)}{xs:List (List Key×Addr×Value)}(r:KT H kvs xs)(k:List Key):oY (jh kvs k) ((atKey xs k).map (·.2)):=by
 induction r with
 | nil=>exact True.intro
 | @cons p q ps qs h t ih=>
  obtain⟨h1,_,h2⟩:=h
  by_cases e:p.1=k
  ·have e':q.1=k:=h1.symm.trans e;have b:atKey (q::qs) k=some q.2:=by simp[atKey,UZ,e']
   rw[qY e,b];exact h2
  ·have e':¬q.1=k:=λz=>e (h1.trans z);have b:atKey (q::qs) k=atKey qs k:=by simp[atKey,UZ,e']
   rw[lS e,b];exact ih
theorem KT.KU(r:KT H kvs xs)(k:List Key)(ry:RelV y u):
  KT H (kvs.map λkv=>if kv.1=k then(kv.1,y) else kv) (xs.map (putAt k u)):=by
 induction r with
 | nil=>exact .nil
 | @cons p q ps qs h t ih=>
  rw[Sl,Sl];refine .cons ?_ ih;obtain⟨h1,h2,h3⟩:=h;unfold putAt
  by_cases e:p.1=k
  ·rw[Si e,Si (h1.symm.trans e)];exact⟨h1,h2,ry⟩
  ·rw[Sv e,Sv (λz=>e (h1.trans z))];exact⟨h1,h2,h3⟩
theorem KT.put(r:KT H kvs xs)(k:List Key)(hb:H b=some (.tup (k.map kV)))(ry:RelV y u):
  KT H (putK kvs k y) (storedH xs k b u):=by
 have e:(kvs.any λkv=>decide (kv.1=k))=(atKey xs k).isSome:=by
  rw[xY,(r.val k).iz,Wn]
 unfold putK storedH;rw[e]
 by_cases q:(atKey xs k).isSome=true
 ·rw[Si q,Si q];exact r.KU k ry
 ·rw[Sv q,Sv q];exact Paired.snoc r ⟨rfl,hb,ry⟩
theorem KT.keeps(r:KT H kvs xs)(ht:∀b ys,H b=some (.tup ys)->H' b=some (.tup ys)):KT H' kvs xs:=
 Paired.OF r λ_ _ z=>⟨z.1,ht _ _ z.2.1,z.2.2⟩
theorem JF(ok:jT P w H h)(e:Rd H a u):bS P w H h a u:=e.ok ok
theorem pW(ok:jT P w H h)(e:Rd H a (.dK kvs)):kvs.length<=sizeLine/\(a==sysModules)=false/\∃vs,KV kvs vs/\h.DictOf (bX P w) a vs:=
 show bS P w H h a (.dK kvs) from JF ok e
theorem BX(ok:jT P w H h)(e:H a=some (.dK kvs)):kvs.length<=sizeLine/\(a==sysModules)=false/\∃vs,KV kvs vs/\h.DictOf (bX P w) a vs:=pW ok (.inl e)
theorem lE(ok:jT P w H h)(e:H a=some (.tup (ks.map kV))):(tupleKind (bX P w)).is h ks a:=by
 obtain⟨_,its,r,o,h1,h2,⟨n,h3⟩,_⟩:=(show bS P w H h a (.tup (ks.map kV)) from ok a _ e);exact⟨o,its.toArray,n,h1,h2,h3,by simpa using vC r⟩
theorem tu(ok:jT P w H h)(e:Rd H a (.dT kvs)):kvs.length<=sizeLine/\(a==sysModules)=false/\
  ∃xs,KT H kvs xs/\h.DictOfH (tupleKind (bX P w)) a xs:=by
 obtain⟨z,y,xs,r,o,es,ep,h1,h2,h3,h4,h5⟩:=(show bS P w H h a (.dT kvs) from JF ok e);refine⟨z,y,xs,r,o,es,ep,h1,h2,h3,h4,λx hx=>?_,h5⟩;have all:∀{l:List (List Key×V)} {m:List (List Key×Addr×Value)},KT H l m->∀x∈m,(tupleKind (bX P w)).is h x.1 x.2.1:=by
  intro l m q
  induction q with
  | nil=>intro x hx;exact nomatch hx
  | @cons p q ps qs hq t ih=>
   intro x hx;rcases Sr.mp hx with e | hx
   ·subst e;exact lE ok (by rw[<-hq.1];exact hq.2.1)
   ·exact ih x hx
 exact all r x hx
theorem OV(ok:jT P w H h)(e:H a=some (.dT kvs)):kvs.length<=sizeLine/\(a==sysModules)=false/\
  ∃xs,KT H kvs xs/\h.DictOfH (tupleKind (bX P w)) a xs:=tu ok (.inl e)
def nR(H:Hp)(a:Addr)(y:V)(r:Option V):Prop:=
 (∃kvs k,Rd H a (.dK kvs)/\y=kV k/\r=jh kvs k)\/∃kvs k b,Rd H a (.dT kvs)/\y=.ref b/\H b=some (.tup (k.map kV))/\r=jh kvs k
def Jr(H:Hp)(a:Addr)(y v:V)(H':Hp):Prop:=
 (∃kvs k,H a=some (.dK kvs)/\y=kV k/\kvs.length < sizeLine/\H'=upd H a (.dK (putK kvs k v)))\/
 ∃kvs k b,H a=some (.dT kvs)/\y=.ref b/\H b=some (.tup (k.map kV))/\kvs.length < sizeLine/\H'=upd H a (.dT (putK kvs k v))
theorem nR.k{H:Hp}{a:Addr}{kvs:List (Key×V)}{k:Key}(e:H a=some (.dK kvs)):nR H a (kV k) (jh kvs k):=.inl ⟨kvs,k,.inl e,rfl,rfl⟩
theorem Jr.k{H:Hp}{a:Addr}{kvs:List (Key×V)}{k:Key}{v:V}(e:H a=some (.dK kvs))(hl:kvs.length < sizeLine):Jr H a (kV k) v (upd H a (.dK (putK kvs k v))):=.inl ⟨kvs,k,e,rfl,hl,rfl⟩
theorem Inv.big(I:Inv X pins σ H s):sysModules < s.heap.objs.size:=by
 have h:mainGlobals < s.heap.objs.size:=(I.mod.glob.keeps I.bk).lt;exact Wo (by decide) h
theorem Dq(hu:A.units+1 < cLine)(I:Inv X pins σ H s)(g:nR H a y (some v))(ry:RelV y u)(h:∀w' s',Inv X pins σ H s'->RelV v w'->Q w' s'):
  wpAny (model X.prog X.w) A (getItem (.ref a) u) Q E s:=by
 rcases g with⟨kvs,k,e,ey,l⟩ |⟨kvs,k,b,e,ey,eb,l⟩
 ·subst ey;obtain⟨z,hd,vs,rel,dd⟩:=pW I.bg e;obtain⟨w',hw,rw'⟩:=oY.some_of (v:=v) (o:=valueAt vs k) (by rw[l];exact rel.val k);exact wpAny_getItem_of (pT ry) dd.mapOf hw (h w' _ (I.tok _) rw')
 ·subst ey;cases(show u=Value.ref b from ry);obtain⟨z,hd,xs,rel,dd⟩:=tu I.bg e;obtain⟨w',hw,rw'⟩:=oY.some_of (v:=v) (o:=(atKey xs k).map (·.2)) (by rw[l];exact rel.val k);obtain⟨p,hp,hp2⟩:=SR.mp hw;refine wpAny_getItem_heap (U7 hu) (lE I.bg eb) dd hp ?_;rw[hp2];exact h w' _ (I.tok _) rw'
theorem Q1(hu:A.units+1 < cLine)(I:Inv X pins σ H s)(g:nR H a y o)(ry:RelV y u)(h:∀s',Inv X pins σ H s'->Q (.bool o.isSome) s'):
  wpAny (model X.prog X.w) A (compareOp .In u (.ref a)) Q E s:=by
 rcases g with⟨kvs,k,e,ey,l⟩ |⟨kvs,k,b,e,ey,eb,l⟩
 ·subst ey;obtain⟨z,hd,vs,rel,dd⟩:=pW I.bg e;refine wpAny_in_of (pT ry) hd dd.mapOf ?_;rw[<-(rel.val k).iz,<-l];exact h _ (I.tok _)
 ·subst ey;cases(show u=Value.ref b from ry);obtain⟨z,hd,xs,rel,dd⟩:=tu I.bg e;refine wpAny_in_heap (U7 hu) (lE I.bg eb) hd dd ?_;have q:=(rel.val k).iz;rw[Wn] at q;rw[<-q,<-l];exact h _ (I.tok _)
theorem I9(hu:A.units+1 < cLine)(I:Inv X pins σ H s)(g:nR H a y o)(ry:RelV y u)(h:∀s',Inv X pins σ H s'->Q (.bool (!o.isSome)) s'):
  wpAny (model X.prog X.w) A (compareOp .NotIn u (.ref a)) Q E s:=by
 rcases g with⟨kvs,k,e,ey,l⟩ |⟨kvs,k,b,e,ey,eb,l⟩
 ·subst ey;obtain⟨z,hd,vs,rel,dd⟩:=pW I.bg e;refine wpAny_notIn_of (pT ry) hd dd.mapOf ?_;rw[<-(rel.val k).iz,<-l];exact h _ (I.tok _)
 ·subst ey;cases(show u=Value.ref b from ry);obtain⟨z,hd,xs,rel,dd⟩:=tu I.bg e;refine wpAny_notIn_heap (U7 hu) (lE I.bg eb) hd dd ?_;have q:=(rel.val k).iz;rw[Wn] at q;rw[<-q,<-l];exact h _ (I.tok _)
theorem xA(I:Inv X pins σ H s)(mu:Pz (H a))(hs:Heap.SameBut a s.heap h')(he:∃q,h'.get? a=some q)(new:bS X.prog X.w (upd H a ob) h' a ob):
  Inv X pins σ (upd H a ob) {s with heap:=h',toks:=t'}:=
 I.write (x:=a) (e:=a) mu (.inl rfl) (λb q hb z=>(hs.2 b hb).trans z) he new
theorem Gn(z:kvs.length<=sizeLine)(hd:(a==sysModules)=false)(rel:KV kvs vs)(dd:h'.DictOf (bX P w) a vs):
  bS P w H' h' a (.dK kvs):=⟨z,hd,vs,rel,dd⟩
theorem Dn(hu:A.units+1 < cLine)(I:Inv X pins σ H s)(g:Jr H a y v H')(ry:RelV y u)(rv:RelV v r)(h:∀s',Inv X pins σ H' s'->Q () s'):
  wpAny (model X.prog X.w) A (setItem (.ref a) u r) Q E s:=by
 rcases g with⟨kvs,k,e,ey,l,eH⟩ |⟨kvs,k,b,e,ey,eb,l,eH⟩
 ·subst ey eH;obtain⟨z,hd,vs,rel,dd⟩:=BX I.bg e;have hz:vs.length<=sizeLine:=by rw[<-rel.length];exact z
  have hl:(putK kvs k v).length<=sizeLine:=by have:=jN kvs k v;lia
  refine wpAny_setItem_pairs (hsz:=hz) (pT ry) dd λh' dd' hs=>h _ ?_;have he:∃q,h'.get? a=some q:=by obtain⟨q,_,_,hq,_⟩:=dd';exact⟨q,hq⟩
  exact xA I (by rw[e];exact True.intro) hs he (Gn hl hd (rel.put k rv) dd')
 ·subst ey eH;cases(show u=Value.ref b from ry);obtain⟨z,hd,xs,rel,dd⟩:=OV I.bg e;have hz:xs.length<=sizeLine:=by rw[<-Paired.length rel];exact z
  have hl:(putK kvs k v).length<=sizeLine:=by have:=jN kvs k v;lia
  refine wpAny_setItem_heap (hsz:=hz) (U7 hu) (lE I.bg eb) dd λh' dd' hs=>h _ ?_;obtain⟨q,es,ep,hq,h2,h3,h4,_,h5⟩:=dd';refine xA I (by rw[e];exact True.intro) hs ⟨q,hq⟩ ⟨hl,hd,_,(rel.put k eb rv).keeps λc ys ec=>?_,q,es,ep,hq,h2,h3,h4,h5⟩;rw[az (OA ec e (λz=>nomatch z))];exact ec
theorem OX(I:Inv X pins σ H s)(e:Rd H a (.dK kvs))(h:∀t s',Inv X pins σ H s'->Q (.int kvs.length t) s'):wpAny (model X.prog X.w) A (call (.builtin "len") [.ref a]) Q E s:=by
 obtain⟨z,hd,vs,rel,dd⟩:=pW I.bg e;refine call_len_dict hd dd (by rw[<-rel.length];rw[Ve] at z;lia) ?_;rw[<-rel.length];exact h _ _ (I.tok _)
def Jp(i:Expr):Prop:=∀ov iv,subscripted i false ov iv=operate [ov,iv] (getItem ov iv)
theorem Hk{prog:Program}{w:World}{A:Around}{E:Value->Shared->Prop}{s:Shared}{env:Env}{value slice:Expr}{pos:Pos}{T id:String}{Q:Value->Shared->Prop}
  (hl:typeLookup (.type T) "__getitem__"=pure (some (.builtin id))) (hs:Jp slice)
  (h:wpAny (model prog w) A (eval value env) (λo s₁=>wpAny (model prog w) A (eval slice env) (λi s₂=>s₂.TypeIs o T/\wpAny (model prog w) A (getItem o i) Q E s₂) E s₁) E s):
  wpAny (model prog w) A (eval (.Subscript value slice pos) env) Q E s:=by
 refine Subscript_ (Te h (λo s₁ h₁=>Te h₁ (λi s₂ h₂=>?_) λ_ _ x=>x) λ_ _ x=>x);obtain⟨hT,h₂⟩:=h₂;unfold subscriptTail;refine Sa ?_;rw[getitemInPython_of_ne hT.not_modules];refine Sa (wpAny_specialOf hT hl ?_);have fin:wpAny (model prog w) A (subscripted slice false o i) (λr s₃=>wpAny (model prog w) A (letTemporaryGo value o r >>=λ_=>pure r) Q E s₃) E s₂:=by
  rw[hs o i];exact wpAny_operating (Te h₂ (λr s₃ h₃=>Sa (wpAny_letTemporaryGo (Sy h₃))) λ_ _ x=>x)
 first
  | exact Sy (Sa fin)
  | exact Sa (Sy (Sa fin))
  | exact Sa fin
theorem ze(I:Inv X pins σ H s)(g:nR H a y o):s.TypeIs (.ref a) "dict":=by
 rcases g with⟨kvs,k,e,_,_⟩ |⟨kvs,k,b,e,_,_,_⟩
 ·obtain⟨_,_,vs,_,dd⟩:=pW I.bg e;exact dd.typeIs
 ·obtain⟨_,_,xs,_,dd⟩:=tu I.bg e;exact dd.typeIs
theorem zd(h:Heap)(hb:sysModules < h.objs.size):bS P w H (h.push {cls:=.type "dict",data:=.dict #[]}) h.objs.size (.dK []):=
 ⟨UK _,Vc.mpr (Um (SX hb)),[],.nil,Heap.DictOf.new h⟩
def Kx:TE:=λ_ H Q=>∀p,H p=none->Q (.ref p) (upd H p (.dK []))
theorem Fh:PE X (.Dict [] [] pos) Kx:=λpins s σ H Q I h=>
 wpAny_Dict_empty ⟨.ref s.heap.objs.size,_,I.laid (a:=s.heap.objs.size) (o:=.dK []) (t':=s.toks) (λ_ _ q=>Ss _ q) (Sj _) (zd s.heap I.big),rfl,h _ (I.bg.fresh (Sj _))⟩
def wj:List (TE×TE)->St->Hp->(List (V×V)->Hp->Prop)->Prop
 | [],_,H,Q=>Q [] H
 |(tk,tv)::r,σ,H,Q=>tk σ H λx H1=>tv σ H1 λy H2=>wj r σ H2 λps H3=>Q ((x,y)::ps) H3
abbrev VV:List (V×V)->List (Value×Value)->Prop:=Paired λp q=>RelV p.1 q.1/\RelV p.2 q.2
def M0(X:Cx)(pos:Pos)(keys:List (Option Expr))(values:List Expr)(trs:List (TE×TE)):Prop:=
 ∀(pins:List (Addr×Obj)) (s:Shared) (σ:St) (H:Hp) (Q:List (V×V)->Hp->Prop),Inv X pins σ H s->wj trs σ H Q->
  wpAny (model X.prog X.w) X.A (evalPairs (pairTrees keys values X.env pos)) (λvs s'=>∃ps H',Inv X pins σ H' s'/\VV ps vs/\Q ps H') X.xe s
theorem HS:M0 X pos [] [] []:=λpins s σ H Q I h=>pairTrees_nil_walk ⟨[],H,I,.nil,h⟩
theorem E8(hk:PE X k tk)(hv:PE X v tv)(hr:M0 X pos ks vs trs):
  M0 X pos (some k::ks) (v::vs) ((tk,tv)::trs):=λpins s σ H Q I h=>
 pairTrees_cons_walk (cD (hk pins s σ H _ I h) λu s1 ⟨x,H1,I1,rx,q1⟩=>cD (hv pins s1 σ H1 _ I1 q1) λw2 s2 ⟨y,H2,I2,ry,q2⟩=>
  cD (hr pins s2 σ H2 _ I2 q2) λws s3 ⟨ps,H3,I3,rel,q3⟩=>⟨(x,y)::ps,H3,I3,.cons ⟨rx,ry⟩ rel,q3⟩)
noncomputable def gm(kvs more:List (Key×V)):List (Key×V):=more.foldl (λacc kv=>putK acc kv.1 kv.2) kvs
theorem KV.merge:∀{more:List (Key×V)} {rs:List (Key×Value)} {kvs:List (Key×V)} {vs:List (Key×Value)},KV more rs->KV kvs vs->KV (gm kvs more) (merged vs rs):=by
 intro more rs kvs vs r;unfold KV at r
 induction r generalizing kvs vs with
 | nil=>intro q;exact q
 | @cons p q ps qs h t ih=>
  intro r0;have e:KV (putK kvs p.1 p.2) (stored vs q.1 q.2):=by
   have:=r0.put p.1 h.2;rw[<-h.1];exact this
  exact ih e
theorem kS:∀(more kvs:List (Key×V)),(gm kvs more).length<=kvs.length+more.length
 | [],kvs=>by show kvs.length<=kvs.length+0;lia
 | p::r,kvs=>by
  have h1:=kS r (putK kvs p.1 p.2);have h2:=jN kvs p.1 p.2;show(gm (putK kvs p.1 p.2) r).length<=_;rw[Sf];lia
theorem tR:∀{kvs:List (Key×V)} {ws:List (Value×Value)},VV (kvs.map λkv=>(kV kv.1,kv.2)) ws->∃rs,Carries (bX P w) ws rs/\KV kvs rs
 | [],_,r=>by rw[TX] at r;cases r;exact⟨[],True.intro,.nil⟩
 | p::kvs,_,r=>by
  rw[Sl] at r;cases r with
  | @cons a b as bs h t=>
   obtain⟨rs,c,q⟩:=tR (P:=P) (w:=w) t;obtain⟨b1,b2⟩:=b;exact⟨(p.1,b2)::rs,⟨pT h.1,rfl,c⟩,.cons ⟨rfl,h.2⟩ q⟩
def Ea(trs:List (TE×TE)):TE:=λσ H Q=>∀p,H p=none->wj trs σ (upd H p (.dK [])) λps H2=>H2 p=some (.dK [])/\∃kvs:List (Key×V),ps=kvs.map (λkv=>(kV kv.1,kv.2))/\kvs.length<=15/\Q (.ref p) (upd H2 p (.dK (gm [] kvs)))
theorem By(h:M0 X pos keys values trs)(hall:keys.all (·.isSome)=true)(hl:keys.length=values.length)(h0:keys≠[])(h15:keys.length<=15):PE X (.Dict keys values pos) (Ea trs):=by
 intro pins s σ H Q I q;have hn:=I.bg.fresh (Sj s.heap.objs.size);have I1:=I.laid (a:=s.heap.objs.size) (o:=.dK []) (h':=s.heap.push {cls:=.type "dict",data:=.dict #[]}) (t':=s.toks) (λ_ _ q=>Ss _ q) (Sj _) (zd s.heap I.big);refine wpAny_Dict_walk (knd:=bX X.prog X.w) hall hl h0 h15 (cD (h pins _ σ _ _ I1 (q _ hn)) λws s2 ⟨ps,H2,I2,rel,e,kvs,ep,lk,q2⟩=>?_);subst ep;obtain⟨rs,c,rk⟩:=tR (P:=X.prog) (w:=X.w) rel;obtain⟨z,hd,vs0,r0,dd⟩:=BX I2.bg e;cases r0;refine⟨rs,c,dd,λh' dd' hs=>⟨.ref s.heap.objs.size,_,?_,rfl,q2⟩⟩;have hz:(gm [] kvs).length<=sizeLine:=by
  have h1:=kS kvs [];rw[TY] at h1;rw[Ve];lia
 have he:∃q,h'.get? s.heap.objs.size=some q:=by obtain⟨q,_,_,hq,_⟩:=dd';exact⟨q,hq⟩
 exact xA I2 (by rw[e];exact True.intro) hs he (Gn hz hd (rk.merge .nil) dd')
theorem Mu(hu:A.units+1 < cLine)(I:Inv X pins σ H s)(g:nR H a y o)(ry:RelV y u)(h:∀w' s',Inv X pins σ H s'->RelV (o.getD .cq) w'->Q w' s'):
  wpAny (model X.prog X.w) A (call (.builtin "dict.get") [.ref a,u]) Q E s:=by
 rcases g with⟨kvs,k,e,ey,l⟩ |⟨kvs,k,b,e,ey,eb,l⟩
 ·subst ey;obtain⟨z,hd,vs,rel,dd⟩:=pW I.bg e;refine WE U2 dd.typeIs Vm (WV _ _) (meets_dict_get (bX X.prog X.w) a (pT ry) hd) ⟨_,dd.mapOf,h _ _ (I.tok _) ?_⟩;rw[l];exact(rel.val k).getD rfl
 ·subst ey;cases(show u=Value.ref b from ry);obtain⟨z,hd,xs,rel,dd⟩:=tu I.bg e;refine WE U2 dd.typeIs Vm (WV _ _) (meetsH_dict_get (tupleKind (bX X.prog X.w)) a b hd) ⟨U7 hu,k,xs,lE I.bg eb,dd,h _ _ (I.tok _) ?_⟩;rw[l];exact(rel.val k).getD rfl
theorem Mt(hu:A.units+1 < cLine)(I:Inv X pins σ H s)(g:nR H a y o)(ry:RelV y u)(rd:RelV d r)(h:∀w' s',Inv X pins σ H s'->RelV (o.getD d) w'->Q w' s'):
  wpAny (model X.prog X.w) A (call (.builtin "dict.get") [.ref a,u,r]) Q E s:=by
 rcases g with⟨kvs,k,e,ey,l⟩ |⟨kvs,k,b,e,ey,eb,l⟩
 ·subst ey;obtain⟨z,hd,vs,rel,dd⟩:=pW I.bg e;refine WE U2 dd.typeIs Vm (WU _ _ _) (meets_dict_get_default (bX X.prog X.w) a (pT ry) hd r) ⟨_,dd.mapOf,h _ _ (I.tok _) ?_⟩;rw[l];exact(rel.val k).getD rd
 ·subst ey;cases(show u=Value.ref b from ry);obtain⟨z,hd,xs,rel,dd⟩:=tu I.bg e;refine WE U2 dd.typeIs Vm (WU _ _ _) (meetsH_dict_get_default (tupleKind (bX X.prog X.w)) a b hd r) ⟨U7 hu,k,xs,lE I.bg eb,dd,h _ _ (I.tok _) ?_⟩;rw[l];exact(rel.val k).getD rd
end L2
namespace Att
open PySem PySem.W PySem.Calls PyProof.Rows
theorem qr:∀(ns:List Int)(vs:List Value),WellAll P h vs (ns.map WData.int)->IntsAre vs ns:=by
 intro ns
 induction ns with
 | nil=>
  intro vs w;rw[TX] at w;cases w;exact .nil
 | cons n ns ih=>
  intro vs w;rw[Sl] at w;cases w with
  | cons a b=>
   cases a;exact .cons _ _ (ih _ b)
theorem CA{l:OpenLaw}{n:Nat}(hn:l.most=some n){P:Params}{h:Heap}{args:List WData}{vals:List Value}
  (hpre:l.row.toRowW.claim.pre args=true) (hwl:WellAll P h vals args):
  ∃a vs ns,vals=[Value.ref a]/\args=[WData.list (ns.map WData.int)]/\h.get? a=some {cls:=.type "list",data:=.seq vs.toArray}/\IntsAre vs ns/\ns.length<=n:=by
 have hsh:WShape.hasAll [] args [.list .int]=true:=(pre_splitW hpre).1;have hc:l.pre.holds [] {args:=args}=true:=(pre_splitW hpre).2;obtain⟨d,r,rfl,h1,h2⟩:=hasAllW_cons hsh;obtain rfl:=hasAllW_nil h2;obtain⟨xs,rfl,h3⟩:=hasW_list h1;obtain⟨ns,rfl⟩:=items_int h3;have hlen:ns.length<=n:=by
  unfold OpenLaw.pre at hc;have h4:(WTm.not (.lt (.lit (.int (n:Int))) (.len (.arg 0)))).holds [] {args:=[.list (ns.map .int)]}=true:=by
   have h4:=(holds_andW hc).1;rw[hn] at h4;exact h4
  have h5:=condW_of h4 (w_not (w_lt w_lit (w_len_list (w_arg rfl))));rw[R9] at h5;refine Uw λq=>?_;have q':(n:Int) < ((ns.length:Nat):Int):=by lia
  first
   |(rw[Tb q'] at h5;exact absurd h5 (by decide))
   |(simp at h5;lia)
 cases hwl with
 | cons w1 w2=>
  cases w2;cases w1 with
  | list ho hall=>exact⟨_,_,ns,rfl,rfl,ho,qr ns _ hall,hlen⟩
theorem CF(l:OpenLaw)(args:List WData):l.row.toRowW.claim.post args (.bool true) args=true:=
 postW_of (r:=l.row.toRowW) (X:=(true==true))
  (show WShape.has [] (.bool true) .bool=true by first | rfl | decide | simp[WShape.has,WShape.arms,WShape.armsAll])
  (show(WTm.eq .res (.lit (.bool true))).value [] {args:=args,res:=some (.bool true),after:=args}=some (.bool (true==true)) from w_eq_bool (w_res rfl) w_lit) rfl
theorem zy{l:OpenLaw}{n:Nat}{q:Program}{loose:List Str}{XP:(Str->Option Value)->Heap->Prop}{YP:World->Heap->Prop}{d:DefRec}
  (hn:l.most=some n) (hdf:d.params.defaults=[])
  (call:∀(w:World)(s₀ s₁:Shared)(mg mb:Str->Option Value)(fa:Addr)(o:Obj)(pm cd doc:Value)(a:Addr)(vs:List Value)(ns:List Int),
   Ground q loose [] XP w s₀ mg mb s₁.heap->YP w s₁.heap->
   s₁.heap.get? fa=some o->o.data=.func (docDef d.name d.params d.body d.scope pm cd doc)->s₁.heap.CodeRec cd d.name->mg d.name=some (.ref fa)->
   s₁.heap.get? a=some {cls:=.type "list",data:=.seq vs.toArray}->IntsAre vs ns->ns.length<=n->s₁.gens=#[]->
   codeAny (model l.prog w) callerA (.call (.ref fa) ⟨[.ref a],[]⟩) (λr s'=>r=.ok (.ret (.bool true))/\OldK s₁.heap s'.heap/\s'.os=s₁.os/\AllBare s'.gens) s₁):
  WalkO q loose XP YP l.row.toRowW d [] (λf vs=>PySem.call f vs):=by
 intro w s₀ s₁ mg mb G Y fa o pm cd doc dV kV ho hd hcd hD hmg hg args vals as hpre hlay hrd hwl hlo;obtain rfl:dV=.none:=Dflts.none hD hdf;obtain rfl:kV=.none:=Dflts.noKw hD;obtain⟨a,vs,ns,rfl,rfl,hobj,hints,hlen⟩:=CA hn hpre hwl;refine enter_call (Vv (call w s₀ s₁ mg mb fa o pm cd doc a vs ns G Y ho (fd_plain hd) hcd hmg hobj hints hlen hg) λr s' hq=>?_);obtain⟨rfl,h2,h3,h4⟩:=hq;exact⟨.inl ⟨.bool true,.bool true,[],rfl,λ_=>rfl,.bool true,CF l _,λ_=>⟨List.Pairwise.nil,λ_ hm=>(nomatch hm)⟩⟩,h2,h3,h4⟩
section
variable {prog:Program} {w:World} {A:Around} {E:Value->Shared->Prop} {s:Shared} {K:Frag}
end
end Att
namespace L2
open PySem PySem.Spec PyProof.Rows
theorem nW{vs:List Value}{ns:List Int}(a:IntsAre vs ns):Vals (ns.map V.int) vs:=by
 induction a with
 | nil=>exact .nil
 | cons n t h ih=>exact .cons ⟨t,rfl⟩ ih
def iH(K:FR)(P:Addr):Prop:=∃vs:Array Value,(mainGlobals,({cls:=.none,data:=.fields vs}:Obj))∈K/\.ref P∈vs.toList
open Classical in
theorem FP{P:Program}{w:World}{K:FR}{mg mb:Str->Option Value}{CX:Cg}{k:Nat}{fa a:Addr}{fd:FuncData}{x:Str}{sp:Sp}{s₁:Shared}{vs:List Value}{ns:List Int}
  (KX:K.In s₁.heap) (hns:s₁.heap.Ns mainGlobals mg) (hb:s₁.heap.Ns builtinsNs mb) (hbb:∀x:Str,x≠"__name__"->mb x=bootBuiltins x) (hlim:s₁.heap.NoLimit) (hg:s₁.gens=#[])
  (ha:s₁.heap.get? a=some {cls:=.type "list",data:=.seq vs.toArray}) (hi:IntsAre vs ns) (hl:ns.length<=sizeLine) (hr:cL k callerA)
  (F:∀base:Heap,K.In base->base.Ns mainGlobals mg->eS P w K mg base CX k fa fd [x] sp) (hbind:∀(s:Shared)(u:Value),BindsTo s fd ⟨[u],[]⟩ [(x,u)])
  (hT:∀b,iH K b->isCodeTable s₁.heap b/\s₁.heap.get? b=some {cls:=.none,data:=.fields #[]}/\K.lookup b=none)
  (hsp:∀H:Hp,gH K H a (ns.map V.int)->(∀b,iH K b->H b=some .tb)->sp [.ref a] H (λv H'=>v=.bl true/\∀b,iH K b->H' b=some .tb) λ_ _ _=>False)
  (hCX:∀H e s',CX [] H s₁ (λ_ _ _=>False) e s'->False):
  codeAny (model P w) callerA (.call (.ref fa) ⟨[.ref a],[]⟩) (λr s'=>r=.ok (.ret (.bool true))/\OldK s₁.heap s'.heap/\s'.os=s₁.os/\AllBare s'.gens) s₁:=by
 have rv:=nW hi;have lenV:=hi.length;have hTa:¬iH K a:=λz=>by rw[(hT a z).2.1] at ha;cases ha
 have core:∀H:Hp,gH K H a (ns.map V.int)->jT P w H s₁.heap->(∀b,iH K b->H b=some .tb)->(∀b u,H b=some u->iH K b\/(b=a/\K.lookup a=none/\∃o xs,u=.lQ o (.lst xs)))->
   codeAny (model P w) callerA (.call (.ref fa) ⟨[.ref a],[]⟩) (λr s'=>r=.ok (.ret (.bool true))/\OldK s₁.heap s'.heap/\s'.os=s₁.os/\AllBare s'.gens) s₁:=by
  intro H hS bg hTb hA;have base_of:∀{b:Addr} {o:Obj},s₁.heap.get? b=some o->H b=none->(xr s₁.heap H).get? b=some o:=λe n=>FW e n;have noA:∀{b:Addr} {o:Obj} {es:Array DictEntry} {ep:Nat},s₁.heap.get? b=some o->o.data=.dict es ep->H b=none:=λ{b o es ep} e d=>by
   cases q:H b with
   | none=>rfl
   | some u=>
    rcases hA b u q with z |⟨rfl,_⟩
    ·rw[(hT b z).2.1] at e;cases e;cases d
    ·rw[ha] at e;cases e;have d':Data.seq vs.toArray _=Data.dict es ep:=d;cases d'
  have nsK:∀{b:Addr} {m:Str->Option Value},s₁.heap.Ns b m->(xr s₁.heap H).Ns b m:=λ{b m} ⟨o,es,ep,e,d,r⟩=>⟨o,es,ep,base_of e (noA e d),d,r⟩;have hKb:K.In (xr s₁.heap H):=λb o e=>base_of (KX b o e) (by
   cases q:H b with
   | none=>rfl
   | some u=>
    rcases hA b u q with z |⟨rfl,hk,_⟩
    ·rw[(hT b z).2.2] at e;cases e
    ·rw[hk] at e;cases e)
  have hM:Mod K mg (xr s₁.heap H):=⟨hKb,nsK hns,⟨mb,nsK hb,hbb⟩,let⟨mc,h1,h2⟩:=hlim;⟨mc,nsK h1,h2⟩⟩;have e0:GZ P w K mg (xr s₁.heap H) callerA [] s₁ H:=⟨rfl,hM,λb o e=>Ip e,Wr (Dd _ _),trivial,λb hb=>absurd (show b∈([]:List Addr) from hb) (by simp),bg,.of_eq hg⟩;refine Vv ((F _ hKb (nsK hns)).run callerA [] s₁ H ⟨[.ref a],[]⟩ [.ref a] [.ref a] _ _ hr e0 (hbind s₁ (.ref a)) (.cons rfl .nil) (hsp H hS hTb)) λr s' h=>?_;cases r with
  | error e=>exact(hCX H e s' h).elim
  | ok fl=>
   cases fl with
   | next=>exact False.elim h
   | brk=>exact False.elim h
   | cont=>exact False.elim h
   | ret u=>
    obtain⟨v,H',os,bare,un,hok',r',q⟩:=h;obtain⟨q',q2⟩:v=.bl true/\∀b,iH K b->H' b=some .tb:=q;subst q';obtain rfl:u=Value.bool true:=r';have lQ:∀b o xs,H b=some (.lQ o (.lst xs))->s₁.heap.get? b=some o/\s'.heap.get? b=some o:=λb o xs z=>by
     obtain⟨e1,_⟩:=bg b _ z;obtain⟨e2,_⟩:=hok' b _ (un.ng b _ _ z);exact⟨e1,e2⟩
    refine⟨rfl,⟨λb o e=>?_,λb o e=>un.there b o e (by simp)⟩,os,bare⟩;cases q:H b with
    | none=>exact .inl (un.keep b o e q (by intro z;exact absurd (show b∈([]:List Addr) from z) (by simp)) (by simp))
    | some u=>
     rcases hA b u q with z |⟨_,_,ob,xs,rfl⟩
     ·obtain⟨ps,e2,_⟩:=hok' b _ (q2 b z);have e1:=(hT b z).2.1;rw[e] at e1;cases e1;exact .inr (.inl ⟨(hT b z).1,rfl,#[],ps,rfl,by rw[e2];simp⟩)
     ·obtain⟨e1,e2⟩:=lQ b ob xs q;rw[e] at e1;cases e1;exact .inl e2
 have tbOk:∀(H:Hp) b,iH K b->bS P w H s₁.heap b .tb:=λH b z=>⟨#[],(hT b z).2.1,trivial,λpos c e=>by simp[codeAmong] at e⟩;cases hk:K.lookup a with
 | some o=>
  have e:=KX a o hk;rw[ha] at e;cases e;refine core (λb=>if iH K b then some .tb else none) (.inr ⟨_,vs.toArray,_,hk,rfl,rfl,rfl,by rw[SH,lenV];exact hl,by simpa using rv⟩) (λb u z=>?_) (λb z=>Si z) λb u z=>?_
  ·by_cases hb:iH K b
   ·have z':=(Si hb).symm.trans z;cases z';exact tbOk _ b hb
   ·have z':=(Sv hb).symm.trans z;cases z'
  ·by_cases hb:iH K b
   ·exact .inl hb
   ·have z':=(Sv hb).symm.trans z;cases z'
 | none=>
  refine core (λb=>if iH K b then some .tb else if b=a then some (.lQ {cls:=.type "list",data:=.seq vs.toArray} (.lst (ns.map V.int))) else none) (.inl (.inr ⟨{cls:=.type "list",data:=.seq vs.toArray},(Sv hTa).trans (Si rfl)⟩)) (λb u z=>?_) (λb z=>Si z) λb u z=>?_
  ·by_cases hb:iH K b
   ·have z':=(Si hb).symm.trans z;cases z';exact tbOk _ b hb
   ·have z':=(Sv hb).symm.trans z
    by_cases hb:b=a
    ·have z':=(Si hb).symm.trans z';cases z';subst hb;exact⟨ha,by rw[R9];exact hl,vs,_,rv,ha⟩
    ·have z':=(Sv hb).symm.trans z';cases z'
  ·by_cases hb:iH K b
   ·exact .inl hb
   ·have z':=(Sv hb).symm.trans z
    by_cases hb:b=a
    ·have z':=(Si hb).symm.trans z';cases z';exact .inr ⟨hb,hk,_,_,rfl⟩
    ·have z':=(Sv hb).symm.trans z';cases z'
noncomputable def nv(s:Stmt):Arguments:=match s with
 | .FunctionDef _ a _ _ _ _ _ _ _ _=>a
 | _=>{posonlyargs:=[],args:=[],vararg:=none,kwonlyargs:=[],kw_defaults:=[],kwarg:=none,defaults:=[]}
noncomputable def dq(s:Stmt):List Stmt:=match s with
 | .FunctionDef _ _ b _ _ _ _ _ _ _=>b
 | _=>[]
noncomputable def ak(s:Stmt):Scope:=match s with
 | .FunctionDef _ _ _ _ _ _ sc _ _ _=>sc
 | _=>{kind:=.function,names:=[],isGenerator:=false,isCoroutine:=false}
abbrev nU:Cg:=λ_ _ _ _ _ _=>False
abbrev E0:XK:=λ_ _ _=>False
theorem Om:Passes nU X E0:=λ_ _ _ _ _ _ _ h=>h.elim
structure t9(K:FR)(x qual:Str)(st:Stmt)(f:Addr)(fd:FuncData):Prop where
 ex:∃(oc:Value)(od:Option Addr)(kV doc pm:Value)(an:Option Addr)(cdv ct:Value)(osl:Array (Option Value)),
  fd=PySem.W.fnOf x qual (nv st) (dq st) (ak st) .none kV doc pm an cdv ct/\K.lookup f=some ⟨oc,od,.func fd,osl⟩/\PySem.W.codeIn K cdv qual=true
 kp:PySem.W.keepIn K (.ref f)=true
section
variable {P:Program} {w:World} {K:FR} {mg:Str->Option Value} {base:Heap}
theorem t9.ok{x qual:Str}{st:Stmt}{f:Addr}{fd:FuncData}{N ps:List Str}{k:Nat}{sp:Sp}(F:t9 K x qual st f fd)(S:aD N ps (ak st))(len:∀vs H Q E,sp vs H Q E->vs.length=ps.length)
  (hbody:∀(cdv:Value)(A:Around)(outer:List Env)(s:Shared)(H:Hp)(vs:List V)(Q:VK)(E:XK),cL k (A.deeper (envOfC qual (ak st) s.heap.objs.size f cdv))->sp vs H Q E->
   ∃t,xX (fm nU P w K mg base N qual (ak st) f cdv A outer s H E).FC (dq st) t/\t {nx:=λ_ H'=>Q .cq H',rt:=Q} (start N vs) H):eS P w K mg base nU (k+1) f fd ps sp:=by
 obtain⟨oc,od,kV,doc,pm,an,cdv,ct,osl,rfl,lk,hcd⟩:=F.ex;refine F2 lk hcd S len λA outer s H vs Q E hr hsp=>?_;obtain⟨t,h,q⟩:=hbody cdv A outer s H vs Q E hr hsp;exact⟨t,h.FC,q⟩
theorem t9.binds{x qual:Str}{st:Stmt}{f:Addr}{fd:FuncData}{ps:List Str}(F:t9 K x qual st f fd)
  (h:∀(kV doc pm:Value)(an:Option Addr)(cdv ct:Value)(us:List Value),us.length=ps.length->bindArgs (PySem.W.fnOf x qual (nv st) (dq st) (ak st) .none kV doc pm an cdv ct) ⟨us,[]⟩=pure (ps.zip us)):Binds K fd ps []:=by
 obtain⟨oc,od,kV,doc,pm,an,cdv,ct,osl,rfl,lk,hcd⟩:=F.ex;exact .all (h kV doc pm an cdv ct)
end
theorem OL(hr:cL k A):A.units+1 < cLine:=Ug (Nat.add_le_add_left (by decide:1<=64) _) hr.units
theorem Dv:fY X (.builtin "len") (λxs H Q=>∃a kvs,xs=[V.ref a]/\H a=some (.dK kvs)/\Q (.int kvs.length) H):=by
 intro pins s σ H xs us Q I r h;obtain⟨a,kvs,rfl,ha,q⟩:=h;obtain⟨u,rfl,ru⟩:=vals1 r;cases ru;exact OX I (.inl ha) λt s' I'=>⟨.int kvs.length,H,I',⟨t,rfl⟩,q⟩
theorem Mb{A B:Prop}(h:B):if false=true then A else B:=by
 rw[Sv UA];exact h
theorem Ma{A B:Prop}(h:A):if true=true then A else B:=by
 rw[Si rfl];exact h
section
variable {κ:Type} [DecidableEq κ]
end
theorem jT.off(ok:jT P w H h)(hC:H C=none)(k:∀b u,b≠C->h.get? b=some u->h'.get? b=some u):jT P w H h':=by
 intro a o e;have ne:a≠C:=by rintro rfl;rw[hC] at e;cases e
 refine(ok a o e).og (λb u hb q=>k b u ?_ q) (λ_ x=>x) (λ_ _ x=>x);rcases hb with rfl | hb
 ·exact ne
 ·rintro rfl;rw[hC] at hb;cases hb
noncomputable def gc(env:Env):List (Str×NameKind)->List (Str×Addr)->List (Str×Addr)
 | [],acc=>acc
 |(n,k)::r,acc=>if(k==NameKind.free)=true then gc env r ((n,(env.cells.lookup n).getD 0)::acc) else gc env r acc
theorem i5(h:∀y∈scope.names,y.2=.free->∃c,env.cells.lookup y.1=some c):closureFor scope env=pure (gc env scope.names []):=by
 have key:∀(names:List (Str×NameKind)) (acc:List (Str×Addr)),(∀y∈names,y.2=.free->∃c,env.cells.lookup y.1=some c)->
   (forIn names acc (λ(x:Str×NameKind)(r:List (Str×Addr))=>match x with
    |(name,kind)=>if(kind==NameKind.free)=true then do let a<-cellOf env name;pure (ForInStep.yield ((name,a)::r)) else pure (ForInStep.yield r)):Sem (List (Str×Addr)))=pure (gc env names acc):=by
  intro names
  induction names with
  | nil=>intro acc _;rfl
  | cons y r ih=>
   intro acc hy;obtain⟨n,k⟩:=y;have hr:=λa=>ih a λz hz=>hy z (Sq _ hz);rw[List.forIn_cons];unfold gc
   by_cases hk:(k==NameKind.free)=true
   ·have hk':k=.free:=by simpa using hk
    obtain⟨c,hc⟩:=hy (n,k) Sk hk';have e:cellOf env n=pure c:=by unfold cellOf;rw[hc]
    simp only[hk,VC,e,hc,Option.getD_some];exact hr _
   ·simp only[hk,Wj];exact hr _
 have k:=key scope.names [] h;unfold closureFor;dsimp only;rw[k];rfl
theorem oU:∀(names:List (Str×NameKind)) (acc:List (Str×Addr)),(∀y∈names,y.2=.free->∃c,env.cells.lookup y.1=some c)->
  (∀d,acc.lookup x=some d->env.cells.lookup x=some d)->(gc env names acc).lookup x=some c->env.cells.lookup x=some c
 | [],acc,_,ha,h=>ha c h
 |(n,k)::r,acc,hy,ha,h=>by
  unfold gc at h;have hr:=λz hz=>hy z (Sq _ hz)
  by_cases hk:(k==NameKind.free)=true
  ·rw[Si hk] at h;refine oU r _ hr (λd hd=>?_) h;have hk':k=.free:=by simpa using hk
   obtain⟨c',hc⟩:=hy (n,k) Sk hk';rw[To] at hd;cases hx:x==n with
   | true=>
    rw[hx] at hd;have e:x=n:=by simpa using hx
    rw[e,hc];rw[hc] at hd;exact hd
   | false=>
    rw[hx] at hd;exact ha d hd
  ·rw[Sv hk] at h;exact oU r _ hr ha h
theorem tN:∀(names:List (Str×NameKind)) (acc:List (Str×Addr)),(∃c,acc.lookup x=some c)->∃c,(gc env names acc).lookup x=some c
 | [],_,h=>h
 |(n,k)::r,acc,h=>by
  unfold gc
  by_cases hk:(k==NameKind.free)=true
  ·rw[Si hk];refine tN r _ ?_;rw[To];cases hx:x==n with
   | true=>exact⟨_,rfl⟩
   | false=>exact h
  ·rw[Sv hk];exact tN r _ h
theorem iE:∀(names:List (Str×NameKind)) (acc:List (Str×Addr)),(x,NameKind.free)∈names->∃c,(gc env names acc).lookup x=some c
 | [],_,h=>by cases h
 |(n,k)::r,acc,h=>by
  unfold gc;rcases Sr.mp h with e | h'
  ·injection e with e1 e2
   subst e1 e2;rw[Si (by rfl)];refine tN r _ ⟨(env.cells.lookup x).getD 0,?_⟩;rw[To,TC]
  ·by_cases hk:(k==NameKind.free)=true
   ·rw[Si hk];exact iE r _ h'
   ·rw[Sv hk];exact iE r _ h'
theorem iS{env:Env}:∀{names:List (Str×NameKind)} {x:Str} {j:NameKind},
  (names.map λ(n,k)=>if(k==NameKind.free&&env.scope.kind==.function&&env.kindOf n==some .cell) then(n,NameKind.cell) else(n,k)).lookup x=some j->
  ∃k,names.lookup x=some k/\(j=k\/(k=.free/\j=.cell))
 | [],_,_,h=>by simp at h
 |(n,k)::r,x,j,h=>by
  have h':List.lookup x ((if(k==NameKind.free&&env.scope.kind==.function&&env.kindOf n==some .cell)=true then(n,NameKind.cell) else(n,k))::_)=some j:=h;rw[To];cases hx:x==n with
  | true=>
   refine⟨k,rfl,?_⟩
   by_cases hc:(k==NameKind.free&&env.scope.kind==.function&&env.kindOf n==some .cell)=true
   ·rw[Si hc,To,hx] at h';simp only[Tf,Ux] at hc;exact .inr ⟨hc.1.1,(Option.some.inj h').symm⟩
   ·rw[Sv hc,To,hx] at h';exact .inl (Option.some.inj h').symm
  | false=>
   by_cases hc:(k==NameKind.free&&env.scope.kind==.function&&env.kindOf n==some .cell)=true
   ·rw[Si hc,To,hx] at h';exact iS h'
   ·rw[Sv hc,To,hx] at h';exact iS h'
theorem iT{env:Env}:∀{names:List (Str×NameKind)} {x:Str},names.lookup x=some .free->
  (names.map λ(n,k)=>if(k==NameKind.free&&env.scope.kind==.function&&env.kindOf n==some .cell) then(n,NameKind.cell) else(n,k)).lookup x=some .cell\/
  (names.map λ(n,k)=>if(k==NameKind.free&&env.scope.kind==.function&&env.kindOf n==some .cell) then(n,NameKind.cell) else(n,k)).lookup x=some .free
 | [],_,h=>by simp at h
 |(n,k)::r,x,h=>by
  rw[Sl];show List.lookup x ((if(k==NameKind.free&&env.scope.kind==.function&&env.kindOf n==some .cell)=true then(n,NameKind.cell) else(n,k))::_)=_\/List.lookup x ((if(k==NameKind.free&&env.scope.kind==.function&&env.kindOf n==some .cell)=true then(n,NameKind.cell) else(n,k))::_)=_;rw[To] at h;cases hx:x==n with
  | true=>
   rw[hx] at h;have hk:k=.free:=Option.some.inj h
   by_cases hc:(k==NameKind.free&&env.scope.kind==.function&&env.kindOf n==some .cell)=true
   ·rw[Si hc,To,hx];exact .inl rfl
   ·rw[Sv hc,To,hx,hk];exact .inr rfl
  | false=>
   rw[hx] at h
   by_cases hc:(k==NameKind.free&&env.scope.kind==.function&&env.kindOf n==some .cell)=true
   ·rw[Si hc,To,hx];exact iT h
   ·rw[Sv hc,To,hx];exact iT h
abbrev gF(X:Cx)(N':List Str)(scope:Scope)(C:Addr)(s₃:Shared)(H₃:Hp)(fp:List Addr)(pl:List (Addr×Obj)):Cx:=
 {X with N:=N',s₀:=s₃,H₀:=H₃,env:=compEnvC scope (gc X.env scope.names []) C X.env,outer:=X.stack,ex:=fp,fn:=λ_=>false,calm:=true,pn:=X.pn++pl,xe:=λ_ _=>False}
structure bp(X:Cx)(N':List Str)(caps:List (Option Nat))(scope:Scope):Prop where
 kind:scope.kind=.function
 oE:∀y∈scope.names,y.2≠.cell
 names:∀y∈scope.names,y.2=.local->scope.names.lookup y.1=some .local
 tQ:∀y∈scope.names,y.2=.free->X.env.kindOf y.1=some .cell\/X.env.kindOf y.1=some .free
 len:caps.length=N'.length
 Rx:∀(j i:Nat)(x:Str),caps[j]?=some (some i)->N'[j]?=some x->X.N[i]?=some x/\scope.names.lookup x=some .free
 nd:N'.Nodup
noncomputable def jP(caps:List (Option Nat))(σ:St):St:=caps.map λo=>o.bind λi=>(σ[i]?).join
theorem bp.has(S:bp X N' caps scope)(ok:X.Ok):∀y∈scope.names,y.2=.free->∃c,X.env.cells.lookup y.1=some c:=λy hy e=>ok.has y.1 (S.tQ y hy e)
theorem bp.look(S:bp X N' caps scope)(ok:X.Ok)(h:(gc X.env scope.names []).lookup x=some c):X.env.cells.lookup x=some c:=
 oU scope.names [] (S.has ok) (λ_ z=>by simp at z) h
theorem Inv.block(S:bp X N' caps scope)(I:Inv X pins σ H s₃)(hc:X.calm=true)(hf:∀b∈fp,ib X pins H b)(hlt:∀b∈fp,b < s₃.heap.objs.size){h₄:Heap}{t₄:Nat}{m₄:Str->Option Value}
  (hn:h₄.Ns s₃.heap.objs.size m₄) (hk:∀b o,s₃.heap.get? b=some o->h₄.get? b=some o):
  Inv (gF X N' scope s₃.heap.objs.size s₃ H fp pins) [] (jP caps σ) H {s₃ with heap:=h₄,toks:=t₄}:=by
 have ok:=I.ok;have fresh:∀b o,s₃.heap.get? b=some o->b≠s₃.heap.objs.size:=λb o e=>SX (SJ e);have cellOk:∀x c,(gc X.env scope.names []).lookup x=some c->∃v,s₃.heap.IsCell c v:=λx c e=>I.cell x c (S.look ok e);refine⟨⟨ok.mod,?_,ok.glob,ok.blt,Sj _,?_,?_,?_,λ_=>ok.hd hc,ok.frames,.inl rfl,?_,I.bs,?_,?_,?_,I.stack,I.qD⟩,rfl,I.bare,Un.kept hk,?_,?_,I.bg.fresh (Sj _),?_,?_,I.bg.kept hk,?_⟩
 ·show(relabel scope X.env).kind=.function;exact S.kind
 ·intro x y c h1 h2;exact ok.inj x y c (S.look ok h1) (S.look ok h2)
 ·intro x hx;have hx':(relabel scope X.env).names.lookup x=some .cell\/(relabel scope X.env).names.lookup x=some .free:=hx;have key:∀j,(relabel scope X.env).names.lookup x=some j->j=.cell\/j=.free->∃c,(gc X.env scope.names []).lookup x=some c:=by
   intro j hj hjk;obtain⟨k,hk1,hk2⟩:=iS hj;have hm:=Ti hk1;have hkf:k=.free:=by
    rcases hk2 with rfl |⟨e,_⟩
    ·rcases hjk with rfl | e
     ·exact absurd rfl (S.oE _ hm)
     ·exact e
    ·exact e
   subst hkf;exact iE scope.names [] hm
  rcases hx' with h | h
  ·exact key _ h (.inl rfl)
  ·exact key _ h (.inr rfl)
 ·intro x c h _;exact absurd (show false=true from h) (by decide)
 ·intro b hb;refine⟨SX (hlt b hb),λx c h=>(hf b hb).2.2.2.2.1 x c (S.look ok h)⟩
 ·exact Sw ok.G5 I.sz
 ·intro b o e hb;rcases(hf b hb).2.2.2.1 with z | z
  ·exact ok.CM b o e z
  ·exact absurd (SV (SJ e) ok.G5) (Nat.not_lt.mpr z)
 ·intro b hb z;rcases Sr.mp (I.n6 b z) with e | e
  ·exact(hf b hb).2.1 e
  ·exact(hf b hb).2.2.1 e
 ·refine⟨m₄,hn,λj x v e1 e2 e3=>?_⟩;have e2':(caps.map λo=>o.bind λi=>(σ[i]?).join)[j]?=some (some v):=e2;rw[SK] at e2';cases hcj:caps[j]? with
  | none=>rw[hcj] at e2';cases e2'
  | some oi=>
   rw[hcj] at e2';have e2'':(oi.bind λi=>(σ[i]?).join)=some v:=Option.some.inj e2';cases oi with
   | none=>cases e2''
   | some i=>
    have hσ:(σ[i]?).join=some v:=e2'';have hσ':σ[i]?=some (some v):=by
     cases hs:σ[i]? with
     | none=>rw[hs] at hσ;cases hσ
     | some w=>rw[hs] at hσ;rw[show w=some v from hσ]
    obtain⟨hX,hfr⟩:=S.Rx j i x hcj e1;obtain⟨m,_,hl⟩:=I.loc;have hcgt:=S.tQ _ (Ti hfr) rfl;have hvis:MR X.env.scope x:=by
     rcases hcgt with z | z
     ·exact .inr (.inl z)
     ·exact .inr (.inr z)
    obtain⟨u,ru,lk⟩:=hl i x v hX hσ' hvis;refine⟨u,ru,.inr ⟨?_,?_⟩⟩
    ·exact iT hfr
    ·obtain⟨c,hcc⟩:=iE (env:=X.env) scope.names [] (Ti hfr);refine⟨c,hcc,?_⟩;rcases lk with⟨z,_⟩ |⟨_,c',hc',hcell⟩
     ·have z':X.env.kindOf x=some .local:=z;rcases hcgt with q | q
      ·rw[z'] at q;cases q
      ·rw[z'] at q;cases q
     ·have:=S.look I.ok hcc;rw[this] at hc';cases hc';obtain⟨o,ho,hd⟩:=hcell;exact⟨o,hk _ _ ho,hd⟩
 ·intro x c h;obtain⟨v,o,ho,hd⟩:=cellOk x c h;exact⟨v,o,hk _ _ ho,hd⟩
 ·intro x c h;exact I.gp x c (S.look ok h)
 ·intro p hp;have hp':p∈X.pn++pins:=by
   rcases SF.mp hp with z | z
   ·exact z
   ·cases z
  obtain⟨e,n,ne,nf,d⟩:=I.pin p hp';refine⟨hk _ _ e,n,fresh _ _ e,λz=>?_,d⟩;rcases Sr.mp (I.n6 p.1 z) with q | q
  ·exact ne q
  ·exact nf q
 ·show(caps.map _).length=N'.length;rw[R9];exact S.len
theorem Inv.qA(S:bp X N' caps scope)(I:Inv X pins σ H s₃)(hf:∀b∈fp,ib X pins H b)(J:Inv (gF X N' scope s₃.heap.objs.size s₃ H fp pins) [] τ H' s')(hs:∀b u,b≠s₃.heap.objs.size->s'.heap.get? b=some u->h''.get? b=some u):Inv X pins σ H' {s' with heap:=h''}:=by
 have hC:H' s₃.heap.objs.size=none:=J.free;have u:Un (ku X.stack) fp H H' s₃.heap h'':=by
  have b:=J.base;have ne:∀x o,s₃.heap.get? x=some o->x≠s₃.heap.objs.size:=λx o e=>SX (SJ e);refine⟨λx o e n hx hb=>hs _ _ (ne x o e) (b.keep x o e n hx hb),λx o e n hx hb=>?_,b.free,λx o e hb=>?_,b.nX,b.ng,b.nY⟩
  ·obtain⟨sl,q⟩:=b.slot x o e n hx hb;exact⟨sl,hs _ _ (ne x o e) q⟩
  ·obtain⟨o',q⟩:=b.there x o e hb;exact⟨o',hs _ _ (ne x o e) q⟩
 exact I.call' (s':={s' with heap:=h''}) (ch:=fp) J.os u (J.bg.off hC hs) J.bare λb hb=>⟨(hf b hb).2.2.2.1,(hf b hb).2.1,(hf b hb).2.2.2.2.1,(hf b hb).2.2.2.2.2⟩
def GV(X:Cx)(ifs:List Expr)(t:TT):Prop:=
 ∀(pins:List (Addr×Obj)) (s:Shared) (σ:St) (H:Hp) (Q:Bool->Hp->Prop),Inv X pins σ H s->t σ H Q->
  wpAny (model X.prog X.w) X.A (forIn ifs true λc r=>if r=true then do let ok<-isTrue c X.env (eval c X.env);pure (ForInStep.yield ok) else pure (ForInStep.yield r)) (TP X pins σ Q) X.xe s
def cz:TT:=λ_ H Q=>Q true H
theorem Ia:GV X [] cz:=λpins s σ H Q I h=>wpAny_tests_nil ⟨H,I,h⟩
theorem HZ(h:PT X c t):GV X [c] t:=λpins s σ H Q I q=>wpAny_tests_one (h pins s σ H Q I q)
def PD(J:It)(g:TG)(tc:TT)(te:TE)(l:Addr)(Q:VK)(τ0:St)(H0:Hp):Prop:=
 ∃W:Nat->Nat->St->Hp->Prop,(∃m,W 0 m τ0 H0)/\∀i m τ H2,W i m τ H2->
  (J.stop i H2/\Q (.ref l) H2)\/(J.go i H2/\∃N:St->Hp->Prop,(∀τ' H',N τ' H'->∃m',m' < m/\W (i+1) m' τ' H')/\∀x H',J.Js i H2 x H'->g x τ H' λτ2 H3=>
   tc τ2 H3 λb H4=>if b=true then te τ2 H4 λy H5=>∃xs,H5 l=some (.lst xs)/\xs.length < sizeLine/\N τ2 (upd H5 l (.lst (xs++[y]))) else N τ2 H4)
def Eb(caps:List (Option Nat))(wi:TI)(g:TG)(tc:TT)(te:TE):TE:=λσ H Q=>wi σ H λJ H1=>∀l,H1 l=none->PD J g tc te l Q (jP caps σ) (upd H1 l (.lst []))
theorem Nv(h:wpAny M A t Q (λ_ _=>False) s):wpAny M A t Q E s:=Te h (λ_ _ q=>q) λ_ _ f=>f.elim
theorem Dr(S:bp X N' caps scope)(hc:X.calm=true)(hg:∀C s₃ H₃ fp pl,PG (gF X N' scope C s₃ H₃ fp pl) tg g)(hif:∀C s₃ H₃ fp pl,GV (gF X N' scope C s₃ H₃ fp pl) ifs tc)
  (he:∀C s₃ H₃ fp pl,PE (gF X N' scope C s₃ H₃ fp pl) elt te) {pins:List (Addr×Obj)} {σ:St} {H3:Hp} {s3:Shared} {h₁:Heap} {t₁:Nat} {m₁:Str->Option Value} {it l:Addr} {fp:List Addr} {tn:Nat->Heap->Prop} {J:It}
  (I3:Inv X pins σ H3 s3) (T:Turn X.prog X.w X.K tg J fp it tn) (st3:tn 0 h₁) (hf3:∀b∈fp,ib X pins H3 b) (hlt3:∀b∈fp,b < s3.heap.objs.size) (hns₁:h₁.Ns s3.heap.objs.size m₁) (keep3:∀b o,s3.heap.get? b=some o->h₁.get? b=some o)
  {Q:VK} {RR:Value->Addr->Result->Shared->Prop} {W:Nat->Nat->St->Hp->Prop} {m0:Nat} (w0:W 0 m0 (jP caps σ) H3) (turn:∀i m τ H2,W i m τ H2->
   (J.stop i H2/\Q (.ref l) H2)\/(J.go i H2/\∃N:St->Hp->Prop,(∀τ' H',N τ' H'->∃m',m' < m/\W (i+1) m' τ' H')/\∀x H',J.Js i H2 x H'->g x τ H' λτ2 H3=>
    tc τ2 H3 λb H4=>if b=true then te τ2 H4 λy H5=>∃xs,H5 l=some (.lst xs)/\xs.length < sizeLine/\N τ2 (upd H5 l (.lst (xs++[y]))) else N τ2 H4))
  (hRR:∀(l C:Addr)(H':Hp)(s':Shared),H' C=none->C≠X.env.locals->X.s₀.heap.objs.size<=C->(∀x c,X.env.cells.lookup x=some c->c≠C)->(∀p∈X.pn++pins,p.1≠C)->(∃m,s'.heap.Ns C m)->Inv X pins σ H' s'->
   (∀h'':Heap,(∀b u,b≠C->s'.heap.get? b=some u->h''.get? b=some u)->Inv X pins σ H' {s' with heap:=h''})->Q (.ref l) H'->RR (.ref l) C (.ok .next) s'):
  codeAny (model X.prog X.w) X.A (.compStart (.ListComp elt [⟨tg,iter,ifs,0⟩] scope pos) 0 (.ref it) (.ref l) (compEnvC scope (gc X.env scope.names []) s3.heap.objs.size X.env))
   (RR (.ref l) s3.heap.objs.size) {s3 with heap:=h₁,toks:=t₁}:=by
 have J0:Inv (gF X N' scope s3.heap.objs.size s3 H3 fp pins) [] (jP caps σ) H3 {s3 with heap:=h₁,toks:=t₁}:=Inv.block S I3 hc hf3 hlt3 hns₁ keep3;have fpB:∀{H':Hp},(∀b∈fp,H' b=none)->∀b∈fp,ib (gF X N' scope s3.heap.objs.size s3 H3 fp pins) [] H' b:=λ{H'} hn b hb=>by
  obtain⟨f0,f1,f2,f3,f4,f5⟩:=hf3 b hb;refine⟨hn b hb,SX (hlt3 b hb),λz=>?_,.inl hb,λx c e=>f4 x c (S.look I3.ok e),λp hp=>?_⟩
  ·rcases Sr.mp (I3.n6 b z) with q | q
   ·exact f1 q
   ·exact f2 q
  ·rcases SF.mp hp with q | q
   ·exact f5 p q
   ·cases q
 have fin:∀{τ:St} {H':Hp} {s':Shared},Inv (gF X N' scope s3.heap.objs.size s3 H3 fp pins) [] τ H' s'->Q (.ref l) H'->RR (.ref l) s3.heap.objs.size (.ok .next) s':=λ{τ H' s'} J q=>by
  refine hRR _ _ H' s' J.free ?_ ?_ ?_ ?_ ?_ ?_ ?_ q
  ·exact(SX I3.lt).symm
  ·exact I3.sz
  ·intro x c e z;obtain⟨v,o,ho,_⟩:=I3.cell x c e;exact SX (SJ ho) z
  ·intro p hp z;obtain⟨e,_⟩:=I3.pin p hp;exact SX (SJ e) z
  ·obtain⟨m,hm,_⟩:=J.loc;exact⟨m,hm⟩
  ·have:=Inv.qA S I3 hf3 J (h'':=s'.heap) λb u _ e=>e;exact this
  ·exactλh'' hs=>Inv.qA S I3 hf3 J hs
 have loop:codeAny (model X.prog X.w) X.A (.compLoop (.ListComp elt [⟨tg,iter,ifs,0⟩] scope pos) 0 (.ref it) (.ref l) (compEnvC scope (gc X.env scope.names []) s3.heap.objs.size X.env))
   (RR (.ref l) s3.heap.objs.size) {s3 with heap:=h₁,toks:=t₁}:=by
  refine codeAny_loop rfl (λn s'=>∃i τ H',Inv (gF X N' scope s3.heap.objs.size s3 H3 fp pins) [] τ H' s'/\tn i s'.heap/\(∀b∈fp,H' b=none)/\W i n τ H') ?_ m0 ⟨0,_,_,J0,st3,λb hb=>(hf3 b hb).1,w0⟩;rintro n s4 ⟨i,τ,H4,J4,st4,fr4,w4⟩;show wpAny _ X.A ((compTurn (.ListComp elt [⟨tg,iter,ifs,0⟩] scope pos) 0 (.ref it) (.ref l) (compEnvC scope (gc X.env scope.names []) s3.heap.objs.size X.env)).onRaise (λx=>do noteFrame x (compEnvC scope (gc X.env scope.names []) s3.heap.objs.size X.env);theTreesLotGoes x)) _ _ s4;refine wpAny_noted ?_;rw[compTurn_list];rcases turn i n τ H4 w4 with⟨stop,qn⟩ |⟨go,N,hN,step⟩
  ·refine Sa (Uc (Sa (Te (T.done (gF X N' scope s3.heap.objs.size s3 H3 fp pins) rfl rfl rfl rfl i [] s4 τ H4 _ J4 (fpB fr4) st4 stop) (λr s5 h5=>?_) λ_ _ e=>e)));obtain⟨hr,J5⟩:=h5;subst hr;exact Sy (fin J5 qn)
  ·refine Sa (Uc (Sa (Te (T.item (gF X N' scope s3.heap.objs.size s3 H3 fp pins) rfl rfl rfl rfl i [] s4 τ H4 _ J4 (fpB fr4) st4 go) (λr s5 h5=>?_) λ_ _ e=>e)));obtain⟨u,hr,h5⟩:=h5;subst hr;refine Sa (Te h5 (λ_ s6 h6=>?_) λ_ _ e=>e);obtain⟨x,H6,J6,r6,y6,st6,fr6⟩:=h6;have J6':=J6.pinned (fpB fr6) (T.obj _ _ st6);refine Sa (Te (Nv (hg _ _ _ _ _ _ s6 τ H6 x u _ J6' r6 (step x H6 y6))) (λ_ s7 h7=>?_) λ_ _ e=>e);obtain⟨τ7,H7,J7,q7⟩:=h7;have again:∀{τ8:St} {H8:Hp} {s8:Shared},Inv (gF X N' scope s3.heap.objs.size s3 H3 fp pins) ([]++oB fp s6.heap) τ8 H8 s8->N τ8 H8->
     ∃m,m < n/\∃i τ' H',Inv (gF X N' scope s3.heap.objs.size s3 H3 fp pins) [] τ' H' s8/\tn i s8.heap/\(∀b∈fp,H' b=none)/\W i m τ' H':=λ{τ8 H8 s8} J8 n8=>by
    obtain⟨m',hm,w8⟩:=hN τ8 H8 n8;refine⟨m',hm,i+1,τ8,H8,J8.jl,T.keep _ _ _ st6 λb hb o e=>(J8.pin (b,o) (So _ (So _ (fh hb e)))).1,λb hb=>?_,w8⟩;obtain⟨o,e,d⟩:=T.obj _ _ st6 b hb;exact(J8.pin (b,o) (So _ (So _ (fh hb e)))).2.1
   refine Sa (Te (Nv (hif _ _ _ _ _ _ s7 τ7 H7 _ J7 q7)) (λok s8 h8=>?_) λ_ _ e=>e);obtain⟨H8,J8,q8⟩:=h8;cases ok with
   | false=>exact Sy ⟨rfl,again J8 (by simpa using q8)⟩
   | true=>
    have q8':te τ7 H8 λy H5=>∃xs,H5 l=some (.lst xs)/\xs.length < sizeLine/\N τ7 (upd H5 l (.lst (xs++[y]))):=by simpa using q8
    refine Sa (Sa (Te (Nv (he _ _ _ _ _ _ s8 τ7 H8 _ J8 q8')) (λy s9 h9=>?_) λ_ _ e=>e));obtain⟨yv,H9,J9,r9,xs,hx,hz,n9⟩:=h9;refine Sa (Te (Nv (oG (X:=gF X N' scope s3.heap.objs.size s3 H3 fp pins) _ s9 τ7 H9 (.ref l) [yv] (.ref l) [y] (λ_ H'=>N τ7 H') J9 rfl (.cons r9 .nil) ⟨_,xs,yv,rfl,rfl,hx,hz,n9⟩)) (λ_ s10 h10=>?_) λ_ _ e=>e);obtain⟨_,H10,J10,_,n10⟩:=h10;exact Sy (Sy ⟨rfl,again J10 n10⟩)
 exact codeAny_compStart_list loop (T.self X.A 0 _ _ _ st3 loop)
theorem tH(S:bp X N' caps scope)(hc:X.calm=true)(hg:∀C s₃ H₃ fp pl,PG (gF X N' scope C s₃ H₃ fp pl) tg g)(hif:∀C s₃ H₃ fp pl,GV (gF X N' scope C s₃ H₃ fp pl) ifs tc)
  (he:∀C s₃ H₃ fp pl,PE (gF X N' scope C s₃ H₃ fp pl) elt te) {pins:List (Addr×Obj)} {σ:St} {H:Hp} {s:Shared} {it:Addr} {fp:List Addr} {tn:Nat->Heap->Prop} {J:It}
  (I:Inv X pins σ H s) (T:Turn X.prog X.w X.K tg J fp it tn) (st:tn 0 s.heap) (hf:∀b∈fp,ib X pins H b) {Q:VK} {RR:Value->Addr->Result->Shared->Prop} {E:Value->Shared->Prop}
  (h:∀l,H l=none->∃W:Nat->Nat->St->Hp->Prop,(∃m,W 0 m (jP caps σ) (upd H l (.lst [])))/\∀i m τ H2,W i m τ H2->
   (J.stop i H2/\Q (.ref l) H2)\/(J.go i H2/\∃N:St->Hp->Prop,(∀τ' H',N τ' H'->∃m',m' < m/\W (i+1) m' τ' H')/\∀x H',J.Js i H2 x H'->g x τ H' λτ2 H3=>
    tc τ2 H3 λb H4=>if b=true then te τ2 H4 λy H5=>∃xs,H5 l=some (.lst xs)/\xs.length < sizeLine/\N τ2 (upd H5 l (.lst (xs++[y]))) else N τ2 H4))
  (hRR:∀(l C:Addr)(H':Hp)(s':Shared),H' C=none->C≠X.env.locals->X.s₀.heap.objs.size<=C->(∀x c,X.env.cells.lookup x=some c->c≠C)->(∀p∈X.pn++pins,p.1≠C)->(∃m,s'.heap.Ns C m)->Inv X pins σ H' s'->
   (∀h'':Heap,(∀b u,b≠C->s'.heap.get? b=some u->h''.get? b=some u)->Inv X pins σ H' {s' with heap:=h''})->Q (.ref l) H'->RR (.ref l) C (.ok .next) s'):
  wpAny (model X.prog X.w) X.A (newList []) (λacc s₃=>wpAny (model X.prog X.w) X.A (newFunctionEnv scope X.env.globals (gc X.env scope.names []) [] X.env.qual none .none (some X.env)) (λcenv s₄=>
   codeAny (model X.prog X.w) X.A (.compStart (.ListComp elt [⟨tg,iter,ifs,0⟩] scope pos) 0 (.ref it) acc {cenv with scope:=relabel scope X.env}) (RR acc cenv.locals) s₄) E s₃) E s:=by
 obtain⟨W,⟨m0,w0⟩,turn⟩:=h s.heap.objs.size I.fresh;refine TZ (Wk S.oE (by intro y hy;simp at hy) (λh₁ hns₁ hsb₁=>?_) S.kind);have I3:Inv X pins σ (upd H s.heap.objs.size (.lst [])) {s with heap:=s.heap.push {cls:=.type "list",data:=.seq ([]:List Value).toArray}}:=I.IC (t':=s.toks) (its:=[]) (ys:=[]) .nil (UK _);have hltf:∀b∈fp,b < s.heap.objs.size:=λb hb=>by
  obtain⟨o,e,_⟩:=T.obj 0 _ st b hb;exact SJ e
 have hf3:∀b∈fp,ib X pins (upd H s.heap.objs.size (.lst [])) b:=λb hb=>⟨by rw[az (SX (hltf b hb))];exact(hf b hb).1,(hf b hb).2⟩;have keep3:∀b o,(s.heap.push {cls:=.type "list",data:=.seq ([]:List Value).toArray}).get? b=some o->h₁.get? b=some o:=λb o e=>hsb₁.extBut b o (SX (SJ e)) (Ss _ e);have st3:tn 0 h₁:=T.keep 0 _ _ st λb hb o e=>keep3 b o (Ss _ e);have hlt3:∀b∈fp,b < (s.heap.push {cls:=.type "list",data:=.seq ([]:List Value).toArray}).objs.size:=λb hb=>by
  have:=hltf b hb;rw[VT];exact Xx this
 exact Dr (s3:={s with heap:=s.heap.push {cls:=.type "list",data:=.seq ([]:List Value).toArray}}) S hc hg hif he I3 T st3 hf3 hlt3 hns₁ keep3 w0 turn hRR
theorem Fg(S:bp X N' caps scope)(hc:X.calm=true)(hi:PI X tg iter wi)(hg:∀C s₃ H₃ fp pl,PG (gF X N' scope C s₃ H₃ fp pl) tg g)(hif:∀C s₃ H₃ fp pl,GV (gF X N' scope C s₃ H₃ fp pl) ifs tc)
  (he:∀C s₃ H₃ fp pl,PE (gF X N' scope C s₃ H₃ fp pl) elt te) (hs:∀x,foldedSetIterable iter X.env x=pure x:=by intro _;rfl):PE X (.ListComp elt [⟨tg,iter,ifs,0⟩] scope pos) (Eb caps wi g tc te):=by
 intro pins s σ H Q I h;rw[eval_ListComp];refine V5 (use:=none) rfl hs (i5 (S.has I.ok)) S.kind S.names (cD (hi pins s σ H _ I h) λv s1 h1=>cD h1 λitv s2 h2=>?_);obtain⟨it,fp,tn,J,H2,e,I2,T,st2,f2,hQ⟩:=h2;subst e;refine tH (RR:=λacc C=>compPost (model X.prog X.w) X.A X.xe none (EP X pins σ Q) acc C) S hc hg hif he I2 T st2 f2 hQ ?_;intro l C H' s' _ _ _ _ _ hm _ hI q;obtain⟨m,hm⟩:=hm;exact⟨m,hm,λh'' hs''=>⟨.ref l,H',hI h'' λb u hb e=>hs''.extBut b u hb e,rfl,q⟩⟩
theorem E4(hN:X.N.Nodup)(hi':X.N[i]?=some y)(hy:X.env.scope.names.lookup y=some .local)(S:bp X N' caps scope)(hc:X.calm=true)(hi:PI X tg iter wi)(hg:∀C s₃ H₃ fp pl,PG (gF X N' scope C s₃ H₃ fp pl) tg g)(hif:∀C s₃ H₃ fp pl,GV (gF X N' scope C s₃ H₃ fp pl) ifs tc)(he:∀C s₃ H₃ fp pl,PE (gF X N' scope C s₃ H₃ fp pl) elt te)(hsw:swapsWith (.ListComp elt [⟨tg,iter,ifs,0⟩] scope pos) (some (.Name y py)) spos.line X.env=pure true:=by rfl)(hs:∀x,foldedSetIterable iter X.env x=pure x:=by intro _;rfl):
  PS X (.Assign [.Name y py] (.ListComp elt [⟨tg,iter,ifs,0⟩] scope pos) spos) (Hj (Eb caps wi g tc te) (y2 i)):=by
 intro pins s σ H D I h;rw[exec_Assign_Name_used _ _ _ _ hsw];refine Sa (Uc (Sa ?_));show wpAny _ X.A (do let _<-comprehension (.ListComp elt [⟨tg,iter,ifs,0⟩] scope pos) scope X.env _ (newList []) false (eval iter X.env) (some (assign (.Name y py) X.env))) _ _ s;refine Sa (Te (V5 (use:=some (assign (.Name y py) X.env)) (Q:=λ_ s'=>SP X pins D .next s') rfl hs (i5 (S.has I.ok)) S.kind S.names
  (cD (hi pins s σ H _ I h) λv s1 h1=>cD h1 λitv s2 h2=>?_)) (λ_ s' hq=>Sy (Sy hq)) λ_ _ e=>e)
 obtain⟨it,fp,tn,J,H2,e,I2,T,st2,f2,hQ⟩:=h2;subst e;refine tH (Q:=λx H1=>y2 i x σ H1 D.nx) (RR:=λacc C=>compPost (model X.prog X.w) X.A X.xe (some (assign (.Name y py) X.env)) (λ_ s'=>SP X pins D .next s') acc C) S hc hg hif he I2 T st2 f2 hQ ?_;intro l C H' s' hC hCL hC0 hCc hCp hm hI0 hI q;obtain⟨m,hm⟩:=hm;show wpAny _ X.A (assign (.Name y py) X.env (.ref l)) _ _ s';refine wpAny_assign_Name (uO (v:=.ref l) hI0 hN hi' (.inl hy) rfl (λs5 I5 hch=>?_) (.inr hy));obtain⟨a,hsa,ha⟩:=hch;have hCa:C≠a:=by
  rcases ha with z | z
  ·rw[z];exact hCL
  ·exact(hCc _ _ z).symm
 refine⟨m,hm.sameBut hsa hCa,λh'' hs''=>?_⟩;have I6:=I5.turned (t':=s5.toks) (h':=h'') (it:=C) (λb o hb e=>hs''.extBut b o hb e) hC hCL (.inr hC0) hCc hCp;exact⟨_,H',I6,q⟩
def PH(_ j:Int):Prop:=0 < j/\j<=10^40
theorem log2_small(h:n<=10^40):n.log2 < 9000:=by
 by_cases h0:n=0
 ·rw[h0];decide
 ·refine(Nat.log2_lt h0).mpr (Ug h ?_);exact SV (show 10^40 < 2^200 by decide) (Xf (by decide) (by decide))
theorem Fx:nQ X (binaryOp .FloorDiv) (rI PH λi j=>.int (i / j)):=PV λi j _ _ _ _ _ hc q=>by
 have h1:(0:Int) < j:=hc.1;have h2:j<=10^40:=hc.2;exact floordiv_int (by lia) (by rw[Int.fdiv_eq_ediv_of_nonneg i (by lia)];exact q) (.inl (PyProof.noPylong_of_log2 (log2_small (by lia))))
mutual
inductive DM(K:FR)(H:Hp):V->PyData->Prop where
 | cq:DM K H .cq .none
 | bl (b:Bool):DM K H (.bl b) (.bool b)
 | int (i:Int):DM K H (.int i) (.int i)
 | str (x:Str):DM K H (.str x) (.str x)
 | tup {a:Addr} {xs:List V} {ds:List PyData}:kF K H a xs->tY K H xs ds->DM K H (.ref a) (.tuple ds)
 | lst {a:Addr} {xs:List V} {ds:List PyData}:gH K H a xs->tY K H xs ds->DM K H (.ref a) (.list ds)
inductive tY(K:FR)(H:Hp):List V->List PyData->Prop where
 | nil:tY K H [] []
 | cons {x:V} {xs:List V} {d:PyData} {ds:List PyData}:DM K H x d->tY K H xs ds->tY K H (x::xs) (d::ds)
end
mutual
theorem DM.reads(I:Inv X pins σ H s){x:V}{u:Value}{d:PyData}(z:DM X.K H x d)(r:RelV x u):∃as,Reads s.heap u d as:=by
 cases z with
 | cq=>cases(show _=Value.none from r);exact⟨_,.none⟩
 | bl b=>cases(show _=Value.bool b from r);exact⟨_,.bool b⟩
 | int i=>obtain⟨t,e⟩:=(show ∃t,_=Value.int i t from r);cases e;exact⟨_,.int i t⟩
 | str x=>obtain⟨t,e⟩:=(show ∃t,_=Value.str x t from r);cases e;exact⟨_,.str x t⟩
 | tup hq hl=>
  cases(show _=Value.ref _ from r);obtain⟨its,rv,⟨o,h1,h2,n,h3⟩,_⟩:=I.tuple hq;obtain⟨as,q⟩:=tY.reads I hl rv;exact⟨_,.tuple h1 h2 h3 (by simpa using q)⟩
 | lst hq hl=>
  cases(show _=Value.ref _ from r);obtain⟨its,rv,pl,_⟩:=I.list hq;obtain⟨o,h1,h2,n,h3⟩:=pl.isList;obtain⟨as,q⟩:=tY.reads I hl rv;exact⟨_,.list h1 h2 h3 (by simpa using q)⟩
theorem tY.reads(I:Inv X pins σ H s){xs:List V}{us:List Value}{ds:List PyData}(z:tY X.K H xs ds)(v:Vals xs us):∃as,ReadsAll s.heap us ds as:=by
 cases z with
 | nil=>cases v;exact⟨_,.nil⟩
 | cons h t=>
  cases v with
  | cons r q=>
   obtain⟨as,p⟩:=DM.reads I h r;obtain⟨bs,p'⟩:=tY.reads I t q;exact⟨_,.cons p p'⟩
end
def QC:V->Option Int->Option Int->Hp->VK->Prop:=λx lo hi H Q=>∃z,x=.str z/\z.length<=sizeLine/\Q (.str (Txt.slice z lo hi)) H
theorem KD:MV X QC:=by
 intro pins s σ H x v vl vu lo hi sl Q I rx hs pl pu h;obtain⟨z,rfl,hz,q⟩:=h;obtain⟨t,rfl⟩:=(show ∃t,v=Value.str z t from rx);refine⟨"str",_,F.slot_str_getitem.lookup,Wf _ _ _,?_⟩;obtain⟨o,h1,h2,h3⟩:=hs;have fin:(Txt.slice z lo hi).length<=sizeLine/\∀t' k,EP X pins σ Q (.str (Txt.slice z lo hi) t') {s with toks:=k}:=⟨Sw (Txt.slice_le z _ _) hz,λt' k=>⟨.str _,H,I.tok k,⟨t',rfl⟩,q⟩⟩;cases pl with
 | none=>
  cases pu with
  | none=>exact Vq (l:=none) (u:=none) (st:=none) ⟨o,h1,h2,h3⟩ rfl (Wh fin)
  | int j uj=>exact Vq (l:=none) (u:=some (j,uj)) (st:=none) ⟨o,h1,h2,h3⟩ rfl (Wh fin)
 | int i ui=>
  cases pu with
  | none=>exact Vq (l:=some (i,ui)) (u:=none) (st:=none) ⟨o,h1,h2,h3⟩ rfl (Wh fin)
  | int j uj=>exact Vq (l:=some (i,ui)) (u:=some (j,uj)) (st:=none) ⟨o,h1,h2,h3⟩ rfl (Wh fin)
theorem GF:fY X (.builtin "isinstance") (λxs H Q=>∃x n t b,xs=[x,.ty n]/\nE X.K H x t/\PySem.W.kitOne X.K t (.type n)=some b/\Q (.bl b) H):=by
 intro pins s σ H xs us Q I r h;obtain⟨x,n,t,b,rfl,ty,e,q⟩:=h;obtain⟨u,w',rfl,ru,rw'⟩:=vals2 r;cases(show w'=Value.type n from rw');exact C8 I ru ty e λtk=>⟨.bl b,H,I.tok tk,rfl,q⟩
noncomputable def yT(out:List (Str×NameKind))(N N':List Str)(caps:List (Option Nat))(scope:Scope):Bool:=
 decide (scope.kind=.function)&&scope.names.all (λy=>decide (y.2≠.cell))&&scope.names.all (λy=>!decide (y.2=.local)||decide (scope.names.lookup y.1=some .local))&&
 scope.names.all (λy=>!decide (y.2=.free)||decide (out.lookup y.1=some .cell)||decide (out.lookup y.1=some .free))&&decide (caps.length=N'.length)&&
 (List.range caps.length).all (λj=>match caps[j]?,N'[j]? with
  | some (some i),some x=>decide (N[i]?=some x)&&decide (scope.names.lookup x=some .free)
  | _,_=>true)&&decide N'.Nodup
theorem bx(h:yT X.env.scope.names X.N N' caps scope=true):bp X N' caps scope:=by
 unfold yT at h;simp only[Tf,TB,US,U0,XB,WR] at h;obtain⟨⟨⟨⟨⟨⟨h1,h2⟩,h3⟩,h4⟩,h5⟩,h6⟩,h7⟩:=h;refine⟨h1,h2,λy hy e=>?_,λy hy e=>?_,h5,λj i x hj hx=>?_,h7⟩
 ·rcases h3 y hy with z | z
  ·exact absurd e z
  ·exact z
 ·rcases h4 y hy with(z | z) | z
  ·exact absurd e z
  ·exact .inl z
  ·exact .inr z
 ·have hlt:j < caps.length:=(Se.mp hj).1;have:=h6 j (UR.mpr hlt);rw[hj,hx] at this;simp only[Tf,TB] at this;exact this
end L2
namespace L2
end L2
namespace L2
open PySem PySem.Spec PyProof.Rows
theorem j4:PyData.strOk x=true↔∀c∈x.cps,c < 0x110000:=by
 unfold PyData.strOk;rw[Array.all_eq_true_iff_forall_mem];simp
theorem ic(ha:PyData.strOk a=true)(hb:PyData.strOk b=true):PyData.strOk (a++b)=true:=by
 rw[j4] at*;intro c hc;have hc':c∈a.cps++b.cps:=hc;rcases Array.mem_append.mp hc' with z | z
 ·exact ha c z
 ·exact hb c z
theorem x6(l u:Option Int)(h:PyData.strOk x=true):PyData.strOk (Txt.slice x l u)=true:=by
 unfold Txt.slice
 split
 ·exact h
 ·rw[j4] at*;intro c hc;have hc':c∈(List.filterMap (x.cps[·]?) (Builtin.Str.strSliceIndices l u 1 x.length)).toArray:=hc;rw[List.mem_toArray] at hc';obtain⟨i,_,e⟩:=Uy.mp hc';exact h c (Xb e)
theorem Cs(h:PyData.strOk z=true)(hc:gG z.cps.toList i=some c):PyData.strOk (⟨#[c]⟩:Str)=true:=by
 rw[j4] at*;intro d hd;have e:d=c:=by simpa using hd
 subst e;obtain⟨j,_,hj,_⟩:=qU hc;exact h d (by have:=Sd hj;simpa using this)
end L2
namespace L2
open PySem PySem.Spec PyProof.Rows PySem.SeqAt
noncomputable def Ru:Nat->PyData->Bool
 | _,.int _=>true
 | _,.str x=>PyData.strOk x
 | n+1,.tuple xs=>xs.all (Ru n)
 | _,_=>false
noncomputable def OM(w:World):Nat->PyData->Int
 | _,.int i=>L4 w (.inl i)
 | _,.str x=>L4 w (.inr x)
 | n+1,.tuple xs=>reduceHash (Builtin.Tuple.tupleHashOf (xs.map (OM w n)))
 | _,_=>0
noncomputable def Mf(K:FR)(x:Str):Option Value:=match K.lookup mainGlobals with
 | some o=>match o.data with
  | .dict es _=>(es.toList.find? (λe=>Value.isStrOf x e.key)).map (·.val)
  | _=>none
 | none=>none
def zI(h:Heap)(x D:Addr):Prop:=∃o,h.get? x=some o/\o.cls=.ref D
def Rk(a:Addr)(us:List (Addr×V))(ps:List PyData):World->Heap->Prop:=λw h=>us.length<=sizeLine/\(a==sysModules)=false/\ps.all (Ru 8)=true/\ps.Nodup/\
 ∃ys:List (PyData×Addr×Value),Paired (λ(u:Addr×V)(y:PyData×Addr×Value)=>u.1=y.2.1/\RelV u.2 y.2.2) us ys/\ys.map (·.1)=ps/\
 ∃o es ep,h.get? a=some o/\o.ExactDict/\o.data=.dict es ep/\es.toList=ys.map λy=>⟨OM w 8 y.1,.ref y.2.1,y.2.2⟩
end L2
namespace Sm
open PySem L2
inductive D where
 | cq | bl (b:Bool) | int (i:Int) | str (x:Str) | ty (n:String)
 | tup (xs:List D) | lv (xs:List D) | ro (xs:List D) | dv (kvs:List (Key×D)) | ob (n:Nat)
inductive MO where
 | lst (xs:List D) | dct (kvs:List (Key×D)) | dcH (kvs:List (D×D)) | exc (c:Str)
abbrev MH:=List MO
mutual
noncomputable def vc:D->Option PyData
 | .cq=>some .none
 | .bl b=>some (.bool b)
 | .int i=>some (.int i)
 | .str x=>some (.str x)
 | .tup xs=>(mG xs).map .tuple
 | .lv xs=>(mG xs).map .list
 | .ro xs=>(mG xs).map .list
 | _=>none
noncomputable def mG:List D->Option (List PyData)
 | []=>some []
 | x::r=>(vc x).bind λa=>(mG r).map λb=>a::b
end
abbrev DS:=List (Option D)
abbrev Rv:Hp:=λ_=>none
structure Ad where
 ob:List Addr
 rs:List Addr
def Ad.has(ρ:Ad)(a:Addr):Prop:=a∈ρ.ob\/a∈ρ.rs
def TupAt(K:FR)(ρ:Ad)(H:Hp)(a:Addr)(vs:List V):Prop:=(Rd H a (.tup vs)/\¬ρ.has a)\/kF K Rv a vs
def MY(K:FR)(ρ:Ad)(H:Hp)(a:Addr)(vs:List V):Prop:=(Rd H a (.lst vs)/\¬ρ.has a)\/gH K Rv a vs
mutual
inductive Rep(K:FR)(ρ:Ad)(H:Hp):V->D->Prop where
 | cq:Rep K ρ H .cq .cq
 | bl (b:Bool):Rep K ρ H (.bl b) (.bl b)
 | int (i:Int):Rep K ρ H (.int i) (.int i)
 | str {x:Str} (h:PyData.strOk x=true):Rep K ρ H (.str x) (.str x)
 | ty (n:String):Rep K ρ H (.ty n) (.ty n)
 | tup {a:Addr} {vs:List V} {ds:List D}:TupAt K ρ H a vs->aG K ρ H vs ds->Rep K ρ H (.ref a) (.tup ds)
 | lv {a:Addr} {vs:List V} {ds:List D}:H a=some (.lst vs)->¬ρ.has a->aG K ρ H vs ds->Rep K ρ H (.ref a) (.lv ds)
 | ro {a:Addr} {vs:List V} {ds:List D}:MY K ρ H a vs->aG K ρ H vs ds->Rep K ρ H (.ref a) (.ro ds)
 | dv {a:Addr} {us:List (Key×V)} {kvs:List (Key×D)}:H a=some (.dK us)->¬ρ.has a->bJ K ρ H us kvs->Rep K ρ H (.ref a) (.dv kvs)
 | ob {a:Addr} {n:Nat}:ρ.ob[n]?=some a->Rep K ρ H (.ref a) (.ob n)
inductive aG(K:FR)(ρ:Ad)(H:Hp):List V->List D->Prop where
 | nil:aG K ρ H [] []
 | cons {v:V} {vs:List V} {d:D} {ds:List D}:Rep K ρ H v d->aG K ρ H vs ds->aG K ρ H (v::vs) (d::ds)
inductive bJ(K:FR)(ρ:Ad)(H:Hp):List (Key×V)->List (Key×D)->Prop where
 | nil:bJ K ρ H [] []
 | cons {k:Key} {v:V} {vs:List (Key×V)} {d:D} {ds:List (Key×D)}:Rep K ρ H v d->bJ K ρ H vs ds->bJ K ρ H ((k,v)::vs) ((k,d)::ds)
end
structure Ch(ρ:Ad)(H:Hp)(ρ':Ad)(H':Hp):Prop where
 pre:∀(n:Nat) a,ρ.ob[n]?=some a->ρ'.ob[n]?=some a
 old:∀b o,¬ρ.has b->H b=some o->¬ρ'.has b/\H' b=some o
theorem Ch.refl(ρ:Ad)(H:Hp):Ch ρ H ρ H:=⟨λ_ _ e=>e,λ_ _ n e=>⟨n,e⟩⟩
theorem Ch.trans(a:Ch ρ H ρ1 H1)(b:Ch ρ1 H1 ρ2 H2):Ch ρ H ρ2 H2:=
 ⟨λn x e=>b.pre n x (a.pre n x e),λx o n e=>let⟨n',e'⟩:=a.old x o n e;b.old x o n' e'⟩
structure cT(ρ:Ad)(H:Hp)(ρ':Ad)(H':Hp):Prop extends Ch ρ H ρ' H' where
 rs:ρ'.rs=ρ.rs
 res:∀b∈ρ.rs,H' b=H b
theorem cT.refl(ρ:Ad)(H:Hp):cT ρ H ρ H:=⟨.refl _ _,rfl,λ_ _=>rfl⟩
theorem cT.trans(a:cT ρ H ρ1 H1)(b:cT ρ1 H1 ρ2 H2):cT ρ H ρ2 H2:=
 ⟨a.toCh.trans b.toCh,b.rs.trans a.rs,λx hx=>(b.res x (by rw[a.rs];exact hx)).trans (a.res x hx)⟩
instance {ρ ρ':Ad} {H H':Hp}:CoeOut (cT ρ H ρ' H') (Ch ρ H ρ' H'):=⟨cT.toCh⟩
theorem Ch.rd(S:Ch ρ H ρ' H')(h:Rd H a u)(n:¬ρ.has a):Rd H' a u/\¬ρ'.has a:=by
 rcases h with h |⟨o,h⟩
 ·obtain⟨q,e⟩:=S.old a _ n h;exact⟨.inl e,q⟩
 ·obtain⟨q,e⟩:=S.old a _ n h;exact⟨.inr ⟨o,e⟩,q⟩
mutual
theorem Rep.mono(S:Ch ρ H ρ' H'){v:V}{d:D}(r:Rep K ρ H v d):Rep K ρ' H' v d:=by
 cases r with
 | cq=>exact .cq
 | bl b=>exact .bl b
 | int i=>exact .int i
 | str x=>exact .str x
 | ty n=>exact .ty n
 | tup h l=>exact .tup (h.elim (λ⟨a,n⟩=>.inl (S.rd a n)) .inr) (aG.mono S l)
 | lv h n l=>have ⟨n',h'⟩:=S.old _ _ n h;exact .lv h' n' (aG.mono S l)
 | ro h l=>exact .ro (h.elim (λ⟨a,n⟩=>.inl (S.rd a n)) .inr) (aG.mono S l)
 | dv h n l=>have ⟨n',h'⟩:=S.old _ _ n h;exact .dv h' n' (bJ.mono S l)
 | ob e=>exact .ob (S.pre _ _ e)
theorem aG.mono(S:Ch ρ H ρ' H'){vs:List V}{ds:List D}(r:aG K ρ H vs ds):aG K ρ' H' vs ds:=by
 cases r with
 | nil=>exact .nil
 | cons h t=>exact .cons (Rep.mono S h) (aG.mono S t)
theorem bJ.mono(S:Ch ρ H ρ' H'){vs:List (Key×V)}{ds:List (Key×D)}(r:bJ K ρ H vs ds):bJ K ρ' H' vs ds:=by
 cases r with
 | nil=>exact .nil
 | cons h t=>exact .cons (Rep.mono S h) (bJ.mono S t)
end
theorem aG.length:∀{vs:List V} {ds:List D},aG K ρ H vs ds->vs.length=ds.length:=by
 intro vs
 induction vs with
 | nil=>intro ds a;cases a;rfl
 | cons v vs ih=>intro ds a;cases a with | cons _ t=>rw[Sf,Sf,ih t]
theorem aG.got:∀{vs:List V} {ds:List D} {i:Nat} {d:D},aG K ρ H vs ds->ds[i]?=some d->∃v,vs[i]?=some v/\Rep K ρ H v d
 | _,_,_,_,.nil,e=>by simp at e
 | _,_,0,_,.cons r _,e=>by simp at e;subst e;exact⟨_,rfl,r⟩
 | _,_,i+1,d,.cons _ t,e=>by
  obtain⟨u,h1,h2⟩:=aG.got (i:=i) (d:=d) t (by simpa using e);exact⟨u,by simpa using h1,h2⟩
theorem aG.append:∀{vs ws:List V} {ds es:List D},aG K ρ H vs ds->aG K ρ H ws es->aG K ρ H (vs++ws) (ds++es):=by
 intro vs ws
 induction vs with
 | nil=>intro ds es a s;cases a;exact s
 | cons v vs ih=>intro ds es a s;cases a with | cons r t=>exact .cons r (ih t s)
theorem aG.take:∀{vs:List V} {ds:List D} (n:Nat),aG K ρ H vs ds->aG K ρ H (vs.take n) (ds.take n)
 | _,_,0,_=>.nil
 | _,_,_+1,.nil=>.nil
 | _,_,n+1,.cons r t=>.cons r (aG.take n t)
theorem aG.drop:∀{vs:List V} {ds:List D} (n:Nat),aG K ρ H vs ds->aG K ρ H (vs.drop n) (ds.drop n)
 | _,_,0,r=>r
 | _,_,_+1,.nil=>.nil
 | _,_,n+1,.cons _ t=>aG.drop n t
theorem aG.set(r:Rep K ρ H v d):∀{vs:List V} {ds:List D} (i:Nat),aG K ρ H vs ds->aG K ρ H (vs.set i v) (ds.set i d)
 | _,_,_,.nil=>.nil
 | _,_,0,.cons _ t=>.cons r t
 | _,_,i+1,.cons q t=>.cons q (aG.set r i t)
theorem aG.snoc(t:aG K ρ H vs ds)(r:Rep K ρ H v d):aG K ρ H (vs++[v]) (ds++[d]):=t.append (.cons r .nil)
theorem aG.dropLast:∀{vs:List V} {ds:List D},aG K ρ H vs ds->aG K ρ H vs.dropLast ds.dropLast:=by
 intro vs
 induction vs with
 | nil=>intro ds a;cases a;exact .nil
 | cons v vs ih=>intro ds a;cases a with | cons r t=>cases t with
  | nil=>exact .nil
  | cons q t=>exact .cons r (ih (.cons q t))
theorem aG.isEmpty(t:aG K ρ H vs ds):vs.isEmpty=ds.isEmpty:=by cases t <;> rfl
theorem TupAt.sq(h:TupAt K ρ H a vs):kF K H a vs:=by
 rcases h with⟨h,_⟩ | h
 ·exact .inl h
 ·rcases h with(h |⟨o,h⟩) | h
  ·cases h
  ·cases h
  ·exact .inr h
theorem MY.sq(h:MY K ρ H a vs):gH K H a vs:=by
 rcases h with⟨h,_⟩ | h
 ·exact .inl h
 ·rcases h with(h |⟨o,h⟩) | h
  ·cases h
  ·cases h
  ·exact .inr h
def Cb(K:FR)(ρ:Ad)(H:Hp)(a:Addr):MO->Prop
 | .lst ds=>∃vs,H a=some (.lst vs)/\aG K ρ H vs ds
 | .dct kvs=>∃us,H a=some (.dK us)/\bJ K ρ H us kvs
 | .dcH kvs=>∃us ps,H a=some (.BU (Rk a us ps))/\aG K ρ H (us.map λu=>V.ref u.1) (kvs.map (·.1))/\aG K ρ H (us.map (·.2)) (kvs.map (·.2))/\mG (kvs.map (·.1))=some ps
 | .exc c=>∃C,Mf K c=some (.ref C)/\H a=some (.BU λ_ h=>zI h a C)
structure bN(K:FR)(ρ:Ad)(h:MH)(H:Hp):Prop where
 len:ρ.ob.length=h.length
 nd:ρ.ob.Nodup
 at_:∀(n:Nat) a o,ρ.ob[n]?=some a->h[n]?=some o->Cb K ρ H a o
 t6:∀b∈ρ.rs,(∃o,H b=some o)/\b∉ρ.ob
 tb:∀P,iH K P->¬ρ.has P/\H P=some .tb
theorem bN.Kt{K:FR}{ρ ρ':Ad}{h:MH}{H H':Hp}(S:bN K ρ h H)(T:Ch ρ H ρ' H'):∀P,iH K P->¬ρ'.has P/\H' P=some .tb:=λP t=>T.old P _ (S.tb P t).1 (S.tb P t).2
theorem Cb.has(x:Cb K ρ H a o):∃u,H a=some u:=by
 cases o with
 | lst ds=>obtain⟨vs,e,_⟩:=x;exact⟨_,e⟩
 | dct ds=>obtain⟨vs,e,_⟩:=x;exact⟨_,e⟩
 | dcH ds=>obtain⟨vs,_,e,_⟩:=x;exact⟨_,e⟩
 | exc c=>obtain⟨_,_,e⟩:=x;exact⟨_,e⟩
theorem Cb.mono(x:Cb K ρ H a o)(T:Ch ρ H ρ' H')(e:H' a=H a):Cb K ρ' H' a o:=by
 cases o with
 | lst ds=>obtain⟨vs,x,r⟩:=x;exact⟨vs,e.trans x,r.mono T⟩
 | dct ds=>obtain⟨vs,x,r⟩:=x;exact⟨vs,e.trans x,r.mono T⟩
 | dcH ds=>obtain⟨us,ps,x,r,r2,p⟩:=x;exact⟨us,ps,e.trans x,r.mono T,r2.mono T,p⟩
 | exc c=>obtain⟨C,g,x⟩:=x;exact⟨C,g,e.trans x⟩
theorem bN.mem(S:bN K ρ h H)(ha:a∈ρ.ob):∃(n:Nat)(o:MO),ρ.ob[n]?=some a/\h[n]?=some o/\Cb K ρ H a o:=by
 obtain⟨n,hn,e⟩:=List.mem_iff_getElem.mp ha;have hn':n < h.length:=by rw[<-S.len];exact hn
 have e1:ρ.ob[n]?=some a:=by rw[SN hn,e]
 exact⟨n,h[n],e1,SN hn',S.at_ n a _ e1 (SN hn')⟩
theorem bN.has(S:bN K ρ h H)(ha:ρ.has a):∃u,H a=some u:=by
 rcases ha with ha | ha
 ·obtain⟨_,_,_,_,x⟩:=S.mem ha;exact x.has
 ·exact(S.t6 a ha).1
theorem bN.fresh(S:bN K ρ h H)(hp:H p=none):¬ρ.has p:=λm=>by
 obtain⟨u,e⟩:=S.has m;rw[hp] at e;cases e
theorem cT.laid(S:bN K ρ h H)(hp:H p=none):cT ρ H ρ (upd H p o):=
 ⟨⟨λ_ _ e=>e,λb u n e=>⟨n,by rw[az (aP e hp)];exact e⟩⟩,rfl,λb hb=>by
  obtain⟨u,e⟩:=(S.t6 b hb).1;rw[az (aP e hp)]⟩
theorem bN.same(S:bN K ρ h H)(T:cT ρ H ρ H')(k:∀a∈ρ.ob,H' a=H a):bN K ρ h H':=
 ⟨S.len,S.nd,λn a o e1 e2=>(S.at_ n a o e1 e2).mono T.toCh (k a (Sd e1)),λb hb=>⟨by rw[T.res b hb];exact(S.t6 b hb).1,(S.t6 b hb).2⟩,S.Kt T.toCh⟩
theorem bN.laid(S:bN K ρ h H)(hp:H p=none):bN K ρ h (upd H p o):=
 S.same (cT.laid S hp) λa ha=>by
  obtain⟨u,e⟩:=S.has (.inl ha);rw[az (aP e hp)]
abbrev Ad.more(ρ:Ad)(p:Addr):Ad:=⟨ρ.ob++[p],ρ.rs⟩
theorem cT.made(S:bN K ρ h H)(hp:H p=none):cT ρ H (ρ.more p) (upd H p o):=by
 refine⟨⟨λn a e=>?_,λb u n e=>?_⟩,rfl,(cT.laid S hp).res⟩
 ·show(ρ.ob++[p])[n]?=_;rw[Sx (Se.mp e).1];exact e
 ·refine⟨λm=>?_,by rw[az (aP e hp)];exact e⟩;rcases m with m | m
  ·rcases SF.mp m with m | m
   ·exact n (.inl m)
   ·exact aP e hp (Sz.mp m)
  ·exact n (.inr m)
theorem bN.made(S:bN K ρ h H)(hp:H p=none)(ho:Cb K (ρ.more p) (upd H p u) p o):bN K (ρ.more p) (h++[o]) (upd H p u):=by
 refine⟨by simp[S.len],?_,λn a x e1 e2=>?_,λb hb=>?_,S.Kt (cT.made S hp).toCh⟩
 ·show(ρ.ob++[p]).Nodup;rw[Wv];refine⟨S.nd,by simp,λa ha b hb z=>?_⟩;rw[Sz.mp hb] at z;exact S.fresh hp (.inl (z ▸ ha))
 ·by_cases hn:n < ρ.ob.length
  ·have e1:(ρ.ob++[p])[n]?=some a:=e1;rw[Sx hn] at e1;rw[Sx (by rw[<-S.len];exact hn)] at e2;have q:=S.at_ n a x e1 e2;obtain⟨w,ew⟩:=q.has;exact q.mono (cT.made S hp).toCh (az (aP ew hp))
  ·have l1:=(Se.mp e1).1;simp at l1;have hn':n=ρ.ob.length:=by lia
   subst hn';have e1:(ρ.ob++[p])[ρ.ob.length]?=some a:=e1;rw[SD (Sj _)] at e1;rw[SD (by rw[S.len];exact Sj _)] at e2;simp at e1;rw[S.len] at e2;simp at e2;subst e1;subst e2;exact ho
 ·obtain⟨⟨v,e⟩,n⟩:=S.t6 b hb;have z:=aP e hp;refine⟨⟨v,by rw[az z];exact e⟩,λm=>?_⟩;rcases SF.mp m with m | m
  ·exact n m
  ·exact z (Sz.mp m)
theorem cT.wrote(S:bN K ρ h H)(ha:a∈ρ.ob):cT ρ H ρ (upd H a o):=
 ⟨⟨λ_ _ e=>e,λb u n e=>⟨n,by rw[az (λ(z:b=a)=>n (.inl (by rw[z];exact ha)))];exact e⟩⟩,rfl,λb hb=>az λ(z:b=a)=>(S.t6 b hb).2 (by rw[z];exact ha)⟩
theorem bN.wrote(S:bN K ρ h H)(e:ρ.ob[n]?=some a)(ho:Cb K ρ (upd H a u) a o):bN K ρ (h.set n o) (upd H a u):=by
 have ha:=Sd e;have T:cT ρ H ρ (upd H a u):=cT.wrote S ha;refine⟨by rw[UI];exact S.len,S.nd,λm b x e1 e2=>?_,λb hb=>⟨by rw[T.res b hb];exact(S.t6 b hb).1,(S.t6 b hb).2⟩,S.Kt T.toCh⟩
 by_cases hm:n=m
 ·subst hm;have l2:n < h.length:=by rw[<-S.len];exact(Se.mp e).1
  rw[e] at e1;cases e1;rw[Th l2] at e2;cases e2;exact ho
 ·rw[Tu hm] at e2;have q:=S.at_ m b x e1 e2;have hb:b≠a:=by
   intro z;subst z;exact hm ((Xz (Se.mp e).1 S.nd).mp (e.trans e1.symm))
  exact q.mono T.toCh (az hb)
abbrev Ad.keep(ρ:Ad)(l:Addr):Ad:=⟨ρ.ob,l::ρ.rs⟩
theorem Ch.keep(hl:H l=none):Ch ρ H (ρ.keep l) (upd H l o):=by
 refine⟨λn a e=>e,λb u n e=>⟨λm=>?_,by rw[az (aP e hl)];exact e⟩⟩;rcases m with m | m
 ·exact n (.inl m)
 ·rcases Sr.mp m with m | m
  ·exact aP e hl m
  ·exact n (.inr m)
theorem bN.keep(S:bN K ρ h H)(hl:H l=none):bN K (ρ.keep l) h (upd H l o):=by
 refine⟨S.len,S.nd,λn a x e1 e2=>?_,λb hb=>?_,S.Kt (Ch.keep hl)⟩
 ·have q:=S.at_ n a x e1 e2;obtain⟨w,ew⟩:=q.has;exact q.mono (Ch.keep hl) (az (aP ew hl))
 ·rcases Sr.mp hb with rfl | hb
  ·exact⟨⟨_,aO⟩,λm=>S.fresh hl (.inl m)⟩
  ·obtain⟨⟨v,e⟩,n⟩:=S.t6 b hb;exact⟨⟨v,by rw[az (aP e hl)];exact e⟩,n⟩
theorem Ch.put(hl:l∈ρ.rs):Ch ρ H ρ (upd H l o):=⟨λn a e=>e,λb u n e=>⟨n,by rw[az (λ(z:b=l)=>n (.inr (by rw[z];exact hl)))];exact e⟩⟩
theorem bN.put(S:bN K ρ h H)(hl:l∈ρ.rs):bN K ρ h (upd H l o):=by
 refine⟨S.len,S.nd,λn a x e1 e2=>(S.at_ n a x e1 e2).mono (Ch.put hl) (az λ(z:a=l)=>(S.t6 l hl).2 (by rw[<-z];exact Sd e1)),λb hb=>⟨?_,(S.t6 b hb).2⟩,S.Kt (Ch.put hl)⟩
 by_cases z:b=l
 ·subst z;exact⟨_,aO⟩
 ·rw[az z];exact(S.t6 b hb).1
theorem Ch.free{os rs rs':List Addr}{H:Hp}(hs:∀b∈rs',b∈rs):Ch ⟨os,rs⟩ H ⟨os,rs'⟩ H:=⟨λn a e=>e,λb u n e=>⟨λm=>n (m.elim .inl λm=>.inr (hs b m)),e⟩⟩
theorem bN.free{os rs rs':List Addr}{H:Hp}(S:bN K ⟨os,rs⟩ h H)(hs:∀b∈rs',b∈rs):bN K ⟨os,rs'⟩ h H:=
 ⟨S.len,S.nd,λn a x e1 e2=>(S.at_ n a x e1 e2).mono (Ch.free hs) rfl,λb hb=>S.t6 b (hs b hb),S.Kt (Ch.free hs)⟩
structure cy(K:FR)(ρ:Ad)(H:Hp)(σ:St)(δ:DS):Prop where
 len:σ.length=δ.length
 at_:∀(i:Nat) d,δ[i]?=some (some d)->∃v,σ[i]?=some (some v)/\Rep K ρ H v d
theorem cy.mono(R:cy K ρ H σ δ)(S:Ch ρ H ρ' H'):cy K ρ' H' σ δ:=⟨R.len,λi d e=>let⟨v,a,b⟩:=R.at_ i d e;⟨v,a,b.mono S⟩⟩
theorem cy.set(R:cy K ρ H σ δ)(r:Rep K ρ H v d)(i:Nat):cy K ρ H (σ.set i (some v)) (δ.set i (some d)):=by
 refine⟨by rw[UI,UI];exact R.len,λj e he=>?_⟩
 by_cases hij:i=j
 ·subst hij;have hl:i < δ.length:=by
   have:=(Se.mp he).1;rw[UI] at this;exact this
  rw[Th hl] at he;cases he;exact⟨v,by rw[Th (by rw[R.len];exact hl)],r⟩
 ·rw[Tu hij] at he ⊢;exact R.at_ j e he
abbrev EM:=DS->MH->Option (D×MH)
abbrev TM:=DS->MH->Option (Bool×MH)
abbrev AM:=DS->MH->Option (List D×MH)
inductive Fl where
 | nx | bk | ct | rt (d:D)
abbrev SM:=DS->MH->Option (Fl×DS×MH)
abbrev GM:=D->DS->MH->Option (DS×MH)
abbrev Fn:=List D->MH->Option (D×MH)
inductive Ke(K:FR)(ρ:Ad)(H:Hp)(h':MH)(d:D)(v:V)(H':Hp):Prop where
 | mk (ρ'):cT ρ H ρ' H'->bN K ρ' h' H'->Rep K ρ' H' v d->Ke K ρ H h' d v H'
noncomputable def dy(K:FR)(ρ:Ad)(H:Hp)(h':MH)(d:D):VK:=λv H'=>Ke K ρ H h' d v H'
inductive RA(K:FR)(m:EM)(σ:L2.St)(H:Hp)(Q:VK):Prop where
 | mk (ρ δ h d h'):cy K ρ H σ δ->bN K ρ h H->(m δ h=some (d,h'))->(∀v H',dy K ρ H h' d v H'->Q v H')->RA K m σ H Q
def tM(K:FR)(m:EM):TE:=λσ H Q=>RA K m σ H Q
inductive Pl(K:FR)(m:TM)(σ:L2.St)(H:Hp)(Q:Bool->Hp->Prop):Prop where
 | mk (ρ δ h b h'):cy K ρ H σ δ->bN K ρ h H->(m δ h=some (b,h'))->(∀ρ' H',cT ρ H ρ' H'->bN K ρ' h' H'->Q b H')->Pl K m σ H Q
def DI(K:FR)(m:TM):TT:=λσ H Q=>Pl K m σ H Q
inductive Pr(K:FR)(m:AM)(σ:L2.St)(H:Hp)(Q:List V->Hp->Prop):Prop where
 | mk (ρ δ h ds h'):cy K ρ H σ δ->bN K ρ h H->(m δ h=some (ds,h'))->(∀vs ρ' H',cT ρ H ρ' H'->bN K ρ' h' H'->aG K ρ' H' vs ds->Q vs H')->Pr K m σ H Q
def Rr(K:FR)(m:AM):TA:=λσ H Q=>Pr K m σ H Q
inductive Pm(K:FR)(m:SM)(E:Ends)(σ:L2.St)(H:Hp):Prop where
 | mk (ρ δ h fl δ' h'):cy K ρ H σ δ->bN K ρ h H->(m δ h=some (fl,δ',h'))->(∀ρ' H',cT ρ H ρ' H'->bN K ρ' h' H'->
 match fl with
 | .nx=>∀σ',cy K ρ' H' σ' δ'->E.nx σ' H'
 | .bk=>∀σ',cy K ρ' H' σ' δ'->E.bk σ' H'
 | .ct=>∀σ',cy K ρ' H' σ' δ'->E.ct σ' H'
 | .rt d=>∀v,Rep K ρ' H' v d->E.rt v H')->Pm K m E σ H
def Jy(K:FR)(m:SM):TS:=λE σ H=>Pm K m E σ H
inductive Pq(K:FR)(m:GM)(v:V)(σ:L2.St)(H:Hp)(Q:L2.St->Hp->Prop):Prop where
 | mk (ρ δ h d δ' h'):cy K ρ H σ δ->bN K ρ h H->Rep K ρ H v d->(m d δ h=some (δ',h'))->(∀ρ' H' σ',cT ρ H ρ' H'->bN K ρ' h' H'->cy K ρ' H' σ' δ'->Q σ' H')->Pq K m v σ H Q
def G0(K:FR)(m:GM):TG:=λv σ H Q=>Pq K m v σ H Q
def SE(X:Cx)(e:Expr)(m:EM):Prop:=PE X e (tM X.K m)
def ST(X:Cx)(e:Expr)(m:TM):Prop:=PT X e (DI X.K m)
def SW(X:Cx)(e:Expr)(m:TM):Prop:=PW X e (DI X.K m)
def SA(X:Cx)(es:List Expr)(m:AM):Prop:=PA X es (Rr X.K m)
def SS(X:Cx)(s:Stmt)(m:SM):Prop:=PS X s (Jy X.K m)
def DF(X:Cx)(s:List Stmt)(m:SM):Prop:=xX X s (Jy X.K m)
def SG(X:Cx)(e:Expr)(m:GM):Prop:=PG X e (G0 X.K m)
theorem _root_.L2.PE.imp(h:PE X e t)(i:∀σ H Q,t' σ H Q->t σ H Q):PE X e t':=λpins s σ H Q I q=>h pins s σ H Q I (i σ H Q q)
theorem _root_.L2.PT.imp(h:PT X e t)(i:∀σ H Q,t' σ H Q->t σ H Q):PT X e t':=λpins s σ H Q I q=>h pins s σ H Q I (i σ H Q q)
theorem _root_.L2.PW.imp(h:PW X e t)(i:∀σ H Q,t' σ H Q->t σ H Q):PW X e t':=λwh pins s σ H Q I q=>h wh pins s σ H Q I (i σ H Q q)
theorem _root_.L2.PA.imp(h:PA X e t)(i:∀σ H Q,t' σ H Q->t σ H Q):PA X e t':=λpos pins s σ H Q I q=>h pos pins s σ H Q I (i σ H Q q)
theorem _root_.L2.PS.imp(h:PS X e t)(i:∀E σ H,t' E σ H->t E σ H):PS X e t':=λpins s σ H E I q=>h pins s σ H E I (i E σ H q)
theorem _root_.L2.xX.imp(h:xX X e t)(i:∀E σ H,t' E σ H->t E σ H):xX X e t':=λpins s σ H E I q=>h pins s σ H E I (i E σ H q)
theorem _root_.L2.PG.imp(h:PG X e t)(i:∀v σ H Q,t' v σ H Q->t v σ H Q):PG X e t':=λpins s σ H v u Q I r q=>h pins s σ H v u Q I r (i v σ H Q q)
theorem bw(h:o.bind f=some b):∃a,o=some a/\f a=some b:=Vi.mp h
theorem gB(h:o.map f=some b):∃a,o=some a/\f a=b:=SR.mp h
theorem zv{x:D}{α:Type}{g:Bool->Option α}{z:α}(e:(match x with | .bl c=>g c | _=>none)=some z):∃c,x=.bl c/\g c=some z:=by
 cases x <;> first | exact absurd e (by intro z;cases z) | exact⟨_,rfl,e⟩
theorem dy.here(S:bN K ρ h H)(r:Rep K ρ H v d):dy K ρ H h d v H:=⟨ρ,.refl _ _,S,r⟩
theorem dy.step(T:cT ρ H ρ1 H1)(p:dy K ρ1 H1 h' d v H'):dy K ρ H h' d v H':=let⟨ρ2,T2,S2,r2⟩:=p;⟨ρ2,T.trans T2,S2,r2⟩
theorem dy.tup(S:bN K ρ h H)(r:aG K ρ H vs ds)(hp:H p=none):dy K ρ H h (.tup ds) (.ref p) (upd H p (.tup vs)):=
 ⟨ρ,cT.laid S hp,S.laid hp,.tup (.inl ⟨.inl aO,S.fresh hp⟩) (r.mono (cT.laid S hp).toCh)⟩
theorem dy.lv(S:bN K ρ h H)(r:aG K ρ H vs ds)(hp:H p=none):dy K ρ H h (.lv ds) (.ref p) (upd H p (.lst vs)):=
 ⟨ρ,cT.laid S hp,S.laid hp,.lv aO (S.fresh hp) (r.mono (cT.laid S hp).toCh)⟩
theorem dy.dv(S:bN K ρ h H)(r:bJ K ρ H us ds)(hp:H p=none):dy K ρ H h (.dv ds) (.ref p) (upd H p (.dK us)):=
 ⟨ρ,cT.laid S hp,S.laid hp,.dv aO (S.fresh hp) (r.mono (cT.laid S hp).toCh)⟩
noncomputable def ay(i:Nat):EM:=λδ h=>(δ[i]?).join.map λd=>(d,h)
noncomputable def eK(d:D):EM:=λ_ h=>some (d,h)
noncomputable def ar(f:D->D->MH->Option (D×MH))(a b:EM):EM:=λδ h=>(a δ h).bind λp=>(b δ p.2).bind λq=>f p.1 q.1 q.2
noncomputable def t8(f:D->MH->Option (D×MH))(a:EM):EM:=λδ h=>(a δ h).bind λp=>f p.1 p.2
noncomputable def aL:AM:=λ_ h=>some ([],h)
noncomputable def ag(a:EM)(r:AM):AM:=λδ h=>(a δ h).bind λp=>(r δ p.2).bind λq=>some (p.1::q.1,q.2)
noncomputable def ax(f:Fn)(a:AM):EM:=λδ h=>(a δ h).bind λp=>f p.1 p.2
noncomputable def aJ(a:EM):TM:=λδ h=>(a δ h).bind λp=>match p.1 with
 | .bl b=>some (b,p.2)
 | _=>none
noncomputable def jm(t:TM):TM:=λδ h=>(t δ h).map λp=>(!p.1,p.2)
noncomputable def n4(a b:TM):TM:=λδ h=>(a δ h).bind λp=>if p.1 then b δ p.2 else some (false,p.2)
noncomputable def D9(a b:TM):TM:=λδ h=>(a δ h).bind λp=>if p.1 then some (true,p.2) else b δ p.2
noncomputable def zc(a b:EM):EM:=λδ h=>(a δ h).bind λp=>match p.1 with
 | .bl c=>if c then b δ p.2 else some (.bl false,p.2)
 | _=>none
noncomputable def Q0(a b:EM):EM:=λδ h=>(a δ h).bind λp=>match p.1 with
 | .bl c=>if c then some (.bl true,p.2) else b δ p.2
 | _=>none
noncomputable def aW:Fn:=λds h=>some (.tup ds,h)
inductive RD(K:FR)(f:D->D->MH->Option (D×MH))(x y:V)(H:Hp)(Q:VK):Prop where
 | mk (ρ h d e z h'):bN K ρ h H->Rep K ρ H x d->Rep K ρ H y e->(f d e h=some (z,h'))->(∀v H',dy K ρ H h' z v H'->Q v H')->RD K f x y H Q
def rS(K:FR)(f:D->D->MH->Option (D×MH)):R2:=λx y H Q=>RD K f x y H Q
def lR(X:Cx)(g:Value->Value->Sem Value)(f:D->D->MH->Option (D×MH)):Prop:=nQ X g (rS X.K f)
inductive RC(K:FR)(f:D->MH->Option (D×MH))(x:V)(H:Hp)(Q:VK):Prop where
 | mk (ρ h d z h'):bN K ρ h H->Rep K ρ H x d->(f d h=some (z,h'))->(∀v H',dy K ρ H h' z v H'->Q v H')->RC K f x H Q
def rU(K:FR)(f:D->MH->Option (D×MH)):V->Hp->VK->Prop:=λx H Q=>RC K f x H Q
inductive RG(K:FR)(f:Fn)(vs:List V)(H:Hp)(Q:VK):Prop where
 | mk (ρ h ds z h'):bN K ρ h H->aG K ρ H vs ds->(f ds h=some (z,h'))->(∀v H',dy K ρ H h' z v H'->Q v H')->RG K f vs H Q
def rF(K:FR)(f:Fn):List V->Hp->VK->Prop:=λvs H Q=>RG K f vs H Q
def g5(X:Cx)(g:Value)(f:Fn):Prop:=fY X g (rF X.K f)
section
variable {X:Cx} {a b c e:Expr} {es:List Expr} {pos:Pos} {ma mb mc:EM} {mt mu:TM} {m:AM} {f:D->D->MH->Option (D×MH)}
theorem KI(hN:X.N[i]?=some x)(hv:MR X.env.scope x)(hd:(x==("__debug__":Str))=false:=by ac_nf)(hcd:(x==("__classdict__":Str))=false:=by ac_nf):SE X (.Name x pos) (ay i):=
 (Fd hN hv hd hcd).imp λσ H Q ⟨ρ,δ,h,d,h',R,S,e,k⟩=>by
  obtain⟨d',e1,e2⟩:=gB e;cases e2;obtain⟨v,ev,r⟩:=R.at_ i _ (WW.mp e1);exact⟨v,ev,k v H (.here S r)⟩
theorem Cz(hp:PE X e (tC v))(hr:∀ρ H,Rep X.K ρ H v d):SE X e (eK d):=hp.imp λσ H Q ⟨ρ,δ,h,d',h',R,S,ee,k⟩=>by
 cases ee;exact k v H (.here S (hr _ _))
theorem aH{i j}:SE X (.Constant (.int i) j pos) (eK (.int i)):=Cz Lq λ_ _=>.int i
theorem JE{b j}:SE X (.Constant (.bool b) j pos) (eK (.bl b)):=Cz Ol λ_ _=>.bl b
theorem Er{j}:SE X (.Constant .none j pos) (eK .cq):=Cz Ff λ_ _=>.cq
theorem bc{x j}(h:PyData.strOk x=true:=by decide+kernel):SE X (.Constant (.str x) j pos) (eK (.str x)):=Cz Lk λ_ _=>.str h
theorem NS(hg:Gl X x)(hm:X.mg x=none)(hv:bootBuiltins x=some (.type n))(hn:x≠"__name__":=by decide)(hd:(x==("__debug__":Str))=false:=by ac_nf):SE X (.Name x pos) (eK (.ty n)):=
 Cz (BA (v:=.ty n) hg hm hv rfl hn hd) λ_ _=>.ty n
theorem Hw(hg:Gl X x)(hm:X.mg x=some u)(r:RelV v u)(hr:∀ρ H,Rep X.K ρ H v d)(hd:(x==("__debug__":Str))=false:=by ac_nf):SE X (.Name x pos) (eK d):=
 Cz (Bx hg hm r hd) hr
theorem Bp(h:tM X.K (ar f ma mb) σ H Q):NB (rS X.K f) (tM X.K ma) (tM X.K mb) σ H Q:=by
 obtain⟨ρ,δ,h,d,h',R,S,e,k⟩:=h;obtain⟨⟨x,h1⟩,e1,e⟩:=bw e;obtain⟨⟨y,h2⟩,e2,e3⟩:=bw e;refine⟨ρ,δ,h,x,h1,R,S,e1,λv H1 ⟨ρ1,T1,S1,r1⟩=>?_⟩;refine⟨ρ1,δ,h1,y,h2,R.mono T1,S1,e2,λu H2 ⟨ρ2,T2,S2,r2⟩=>?_⟩;exact⟨ρ2,h2,x,y,d,h',S2,r1.mono T2,r2,e3,λw H3 p=>k w H3 (p.step (T1.trans T2))⟩
theorem aX(ho:lR X (binaryOp op) f)(ha:SE X a ma)(hb:SE X b mb):SE X (.BinOp a op b pos) (ar f ma mb):=(JL ho ha hb).imp λ_ _ _=>Bp
theorem Et(ho:lR X (compareOp op) f)(ha:SE X a ma)(hb:SE X b mb)(hm:behindInMarks op b=false):SE X (.Compare a [op] [b] pos) (ar f ma mb):=(Ih ho ha hb hm).imp λ_ _ _=>Bp
theorem gh{op:CmpOp}(ho:lR X (compareOp op) f)(ha:SE X a ma)(hb:SE X b mb)(hm:behindInMarks op b=false):ST X (.Compare a [op] [b] pos) (aJ (ar f ma mb)):=
 (HK ho ha hb hm).imp λσ H Q ⟨ρ,δ,h,c,h',R,S,e,k⟩=>by
  obtain⟨⟨x,h1⟩,e1,e2⟩:=bw e;obtain⟨c',rfl,e2⟩:=zv e2;cases e2;refine Bp ⟨ρ,δ,h,.bl c,h1,R,S,e1,λv H' ⟨ρ',T,S',r⟩=>?_⟩;cases r;exact⟨c,rfl,k ρ' H' T S'⟩
theorem pe{op:UnaryOp}{f:D->MH->Option (D×MH)}(ho:Pf X (unaryOp op) (rU X.K f))(ha:SE X a ma):SE X (.UnaryOp op a pos) (t8 f ma):=(Og ho ha).imp λσ H Q ⟨ρ,δ,h,d,h',R,S,e,k⟩=>by
 obtain⟨⟨x,h1⟩,e1,e⟩:=bw e;exact⟨ρ,δ,h,x,h1,R,S,e1,λv H1 ⟨ρ1,T1,S1,r1⟩=>⟨ρ1,h1,x,d,h',S1,r1,e,λw H3 p=>k w H3 (p.step T1)⟩⟩
theorem aq:SA X [] aL:=Fo.imp λσ H Q ⟨ρ,δ,h,d,h',R,S,e,k⟩=>by
 cases e;exact k [] ρ H (.refl _ _) S .nil
theorem aa(ha:SE X e ma)(hr:SA X es m)(hs:starEach (e::es) X.env=(false,eval e X.env)::starEach es X.env:=by ac_nf):SA X (e::es) (ag ma m):=
 (wV ha hr hs).imp λσ H Q ⟨ρ,δ,h,d,h',R,S,e,k⟩=>by
  obtain⟨⟨x,h1⟩,e1,e⟩:=bw e;obtain⟨⟨ys,h2⟩,e2,e3⟩:=bw e;cases e3;refine⟨ρ,δ,h,x,h1,R,S,e1,λv H1 ⟨ρ1,T1,S1,r1⟩=>?_⟩;exact⟨ρ1,δ,h1,ys,h2,R.mono T1,S1,e2,λvs ρ2 H2 T2 S2 rs=>k _ ρ2 H2 (T1.trans T2) S2 (.cons (r1.mono T2) rs)⟩
def kG(m:AM)(n:Nat):Prop:=∀δ h ds h',m δ h=some (ds,h')->ds.length=n
theorem aA:kG aL 0:=λδ h ds h' e=>by cases e;rfl
theorem ah(hr:kG m n):kG (ag ma m) (n+1):=λδ h ds h' e=>by
 obtain⟨⟨x,h1⟩,e1,e⟩:=bw e;obtain⟨⟨ys,h2⟩,e2,e3⟩:=bw e;cases e3;rw[Sf,hr _ _ _ _ e2]
theorem bZ{x1}(h:SA X es m)(hl:kG m n)(hn:n<=sizeLine:=by decide):SE X (.Tuple es x1 pos) (ax aW m):=(Li h).imp λσ H Q ⟨ρ,δ,h,d,h',R,S,e,k⟩=>by
 obtain⟨⟨x,h1⟩,e1,e⟩:=bw e;cases e;refine⟨ρ,δ,h,x,h1,R,S,e1,λvs ρ1 H1 T1 S1 r1=>⟨by rw[r1.length,hl _ _ _ _ e1];exact hn,λp hp=>k _ _ (dy.step T1 (.tup S1 r1 hp))⟩⟩
inductive Pu(K:FR)(m:AM)(σ:L2.St)(H:Hp)(Q:VK):Prop where
 | mk (ρ δ h ds h'):cy K ρ H σ δ->bN K ρ h H->(m δ h=some (ds,h'))->(∀ρ1 H1 p vs,cT ρ H ρ1 H1->bN K ρ1 h' H1->H1 p=none->aG K ρ1 H1 vs ds->Q (.ref p) (upd H1 p (.lst vs)))->Pu K m σ H Q
def RU(K:FR)(m:AM):TE:=λσ H Q=>Pu K m σ H Q
def lM(X:Cx)(e:Expr)(m:AM):Prop:=PE X e (RU X.K m)
noncomputable def fX(m:AM):EM:=λδ h=>(m δ h).map λp=>(.lv p.1,p.2)
noncomputable def zG(m:AM):EM:=λδ h=>(m δ h).map λp=>(.ob p.2.length,p.2++[.lst p.1])
theorem dy.ob(S:bN K ρ h H)(r:aG K ρ H vs ds)(hp:H p=none):dy K ρ H (h++[.lst ds]) (.ob h.length) (.ref p) (upd H p (.lst vs)):=
 ⟨ρ.more p,cT.made S hp,S.made hp ⟨vs,aO,r.mono (cT.made S hp).toCh⟩,.ob (show(ρ.ob++[p])[h.length]?=_ by rw[<-S.len,SD (Sj _)];simp)⟩
theorem lM.lv(h:lM X e m):SE X e (fX m):=h.imp λσ H Q ⟨ρ,δ,h,d,h',R,S,e,k⟩=>by
 obtain⟨⟨ds,h1⟩,e1,e2⟩:=gB e;cases e2;exact⟨ρ,δ,h,ds,h1,R,S,e1,λρ1 H1 p vs T S1 hp r=>k _ _ (dy.step T (.lv S1 r hp))⟩
theorem lM.ob(h:lM X e m):SE X e (zG m):=h.imp λσ H Q ⟨ρ,δ,h,d,h',R,S,e,k⟩=>by
 obtain⟨⟨ds,h1⟩,e1,e2⟩:=gB e;cases e2;exact⟨ρ,δ,h,ds,h1,R,S,e1,λρ1 H1 p vs T S1 hp r=>k _ _ (dy.step T (.ob S1 r hp))⟩
theorem dO(h:SA X es m)(hl:kG m n)(hn:n<=sizeLine:=by decide):lM X (.List es pos) m:=(Lp h).imp λσ H Q ⟨ρ,δ,h,ds,h',R,S,e,k⟩=>
 ⟨ρ,δ,h,ds,h',R,S,e,λvs ρ1 H1 T1 S1 r1=>⟨by rw[r1.length,hl _ _ _ _ e];exact hn,λp hp=>k ρ1 H1 p vs T1 S1 hp r1⟩⟩
noncomputable def RY:EM:=λ_ h=>some (.dv [],h)
theorem NW:SE X (.Dict [] [] pos) RY:=Fh.imp λσ H Q ⟨ρ,δ,h,d,h',R,S,e,k⟩ p hp=>by
 cases e;exact k _ _ (.dv S .nil hp)
theorem HE{σ:St}{H:Hp}{Q:Bool->Hp->Prop}(h:DI X.K (aJ ma) σ H Q):tM X.K ma σ H λx H1=>∃c,x=.bl c/\Q c H1:=by
 obtain⟨ρ,δ,h,c,h',R,S,e,k⟩:=h;obtain⟨⟨x,h1⟩,e1,e2⟩:=bw e;obtain⟨c',rfl,e2⟩:=zv e2;cases e2;refine⟨ρ,δ,h,.bl c,h1,R,S,e1,λv H' ⟨ρ',T,S',r⟩=>?_⟩;cases r;exact⟨c,rfl,k ρ' H' T S'⟩
theorem oh(h:ST X a mt):ST X (.UnaryOp .Not a pos) (jm mt):=(Lb h).imp λσ H Q ⟨ρ,δ,h,c,h',R,S,e,k⟩=>by
 obtain⟨⟨x,h1⟩,e1,e2⟩:=gB e;cases e2;exact⟨ρ,δ,h,x,h1,R,S,e1,λρ' H' T S'=>k ρ' H' T S'⟩
theorem Bj(h:ST X a mt):SW X (.BoolOp .And [a] pos) mt:=HJ h
theorem Ec(h:ST X a mt):SW X (.BoolOp .Or [a] pos) mt:=K8 h
theorem zT{rest:List Expr}(ha:ST X a mt)(hb:SW X (.BoolOp .And (b::rest) pos) mu):SW X (.BoolOp .And (a::b::rest) pos) (n4 mt mu):=(K9 ha hb).imp λσ H Q ⟨ρ,δ,h,c,h',R,S,e,k⟩=>by
 obtain⟨⟨x,h1⟩,e1,e2⟩:=bw e;refine⟨ρ,δ,h,x,h1,R,S,e1,λρ' H' T S'=>?_⟩;cases x with
 | true=>rw[Si rfl] at e2 ⊢;exact⟨ρ',δ,h1,c,h',R.mono T,S',e2,λρ2 H2 T2 S2=>k ρ2 H2 (T.trans T2) S2⟩
 | false=>rw[Sv (by simp)] at e2 ⊢;cases e2;exact k ρ' H' T S'
theorem Ed{rest:List Expr}(ha:ST X a mt)(hb:SW X (.BoolOp .Or (b::rest) pos) mu):SW X (.BoolOp .Or (a::b::rest) pos) (D9 mt mu):=(Oe ha hb).imp λσ H Q ⟨ρ,δ,h,c,h',R,S,e,k⟩=>by
 obtain⟨⟨x,h1⟩,e1,e2⟩:=bw e;refine⟨ρ,δ,h,x,h1,R,S,e1,λρ' H' T S'=>?_⟩;cases x with
 | false=>rw[Sv (by simp)] at e2 ⊢;exact⟨ρ',δ,h1,c,h',R.mono T,S',e2,λρ2 H2 T2 S2=>k ρ2 H2 (T.trans T2) S2⟩
 | true=>rw[Si rfl] at e2 ⊢;cases e2;exact k ρ' H' T S'
theorem SW.st(h:SW X a mt):ST X a mt:=PW.pt h
theorem kZ{op}(h:SE X a ma):SE X (.BoolOp op [a] pos) ma:=Lm h
theorem om{rest:List Expr}(ha:SE X a ma)(hb:SE X (.BoolOp .And (b::rest) pos) mb):SE X (.BoolOp .And (a::b::rest) pos) (zc ma mb):=(Ls ha hb).imp λσ H Q ⟨ρ,δ,h,d,h',R,S,e,k⟩=>by
 obtain⟨⟨x,h1⟩,e1,e2⟩:=bw e;obtain⟨c,rfl,e2⟩:=zv e2;refine⟨ρ,δ,h,.bl c,h1,R,S,e1,λv H' ⟨ρ',T,S',r⟩=>?_⟩;cases r;refine⟨c,rfl,?_⟩;cases c with
 | true=>rw[Si rfl] at e2 ⊢;exact⟨ρ',δ,h1,d,h',R.mono T,S',e2,λv H2 p=>k v H2 (p.step T)⟩
 | false=>rw[Sv (by simp)] at e2 ⊢;cases e2;exact k _ _ ⟨ρ',T,S',.bl _⟩
theorem NT{rest:List Expr}(ha:SE X a ma)(hb:SE X (.BoolOp .Or (b::rest) pos) mb):SE X (.BoolOp .Or (a::b::rest) pos) (Q0 ma mb):=(Oh ha hb).imp λσ H Q ⟨ρ,δ,h,d,h',R,S,e,k⟩=>by
 obtain⟨⟨x,h1⟩,e1,e2⟩:=bw e;obtain⟨c,rfl,e2⟩:=zv e2;refine⟨ρ,δ,h,.bl c,h1,R,S,e1,λv H' ⟨ρ',T,S',r⟩=>?_⟩;cases r;refine⟨c,rfl,?_⟩;cases c with
 | false=>rw[Sv (by simp)] at e2 ⊢;exact⟨ρ',δ,h1,d,h',R.mono T,S',e2,λv H2 p=>k v H2 (p.step T)⟩
 | true=>rw[Si rfl] at e2 ⊢;cases e2;exact k _ _ ⟨ρ',T,S',.bl _⟩
noncomputable def OU(a:EM):EM:=λδ h=>(a δ h).bind λp=>match p.1 with
 | .bl c=>some (.bl (!c),p.2)
 | _=>none
theorem KL(ha:SE X a ma):SE X (.UnaryOp .Not a pos) (OU ma):=(Lo ha).imp λσ H Q ⟨ρ,δ,h,d,h',R,S,e,k⟩=>by
 obtain⟨⟨x,h1⟩,e1,e2⟩:=bw e;obtain⟨c,rfl,e2⟩:=zv e2;cases e2;refine⟨ρ,δ,h,.bl c,h1,R,S,e1,λv H' ⟨ρ',T,S',r⟩=>?_⟩;cases r;exact⟨c,rfl,k _ _ ⟨ρ',T,S',.bl _⟩⟩
noncomputable def zO(d:D)(h:MH):Option Bool:=match d with
 | .cq=>some false
 | .bl b=>some b
 | .int i=>some (i !=0)
 | .str x=>if x.length<=sizeLine then some ((x.length:Int) !=0) else none
 | .tup xs=>some (!xs.isEmpty)
 | .dv kvs=>some (!kvs.isEmpty)
 | .ob n=>match h[n]? with
  | some (.lst xs)=>some (!xs.isEmpty)
  | some (.dct kvs)=>some (!kvs.isEmpty)
  | _=>none
 | .lv xs=>some (!xs.isEmpty)
 | .ro xs=>some (!xs.isEmpty)
 | .ty _=>none
noncomputable def lT(a:EM):TM:=λδ h=>(a δ h).bind λp=>(zO p.1 p.2).map λc=>(c,p.2)
theorem bJ.isEmpty(t:bJ K ρ H us ds):us.isEmpty=ds.isEmpty:=by cases t <;> rfl
theorem Bh{K:FR}{ρ:Ad}{H:Hp}{h:MH}{v:V}{d:D}{c:Bool}(S:bN K ρ h H)(r:Rep K ρ H v d)(e:zO d h=some c):Jo K v H c:=by
 cases r with
 | cq=>cases e;exact rfl
 | bl b=>cases e;exact rfl
 | int i=>cases e;exact rfl
 | str hs=>
  unfold zO at e
  by_cases z:‹Str›.length<=sizeLine
  ·simp only[Si z] at e;cases e;exact⟨z,rfl⟩
  ·simp only[Sv z] at e;cases e
 | ty n=>exact b7 e
 | tup ht l=>cases e;exact .inr (.inl ⟨_,ht.sq,by rw[l.isEmpty]⟩)
 | lv ht n l=>cases e;exact .inl ⟨_,gH.of ht,by rw[l.isEmpty]⟩
 | ro ht l=>cases e;exact .inl ⟨_,ht.sq,by rw[l.isEmpty]⟩
 | dv ht n l=>cases e;exact .inr (.inr ⟨_,ht,by rw[l.isEmpty]⟩)
 | ob hn=>
  unfold zO at e;rename_i a n;cases q:h[n]? with
  | none=>simp only[q] at e;cases e
  | some o=>
   have x:=S.at_ n a o hn q;cases o with
   | lst ds=>simp only[q] at e;cases e;obtain⟨vs,e1,l⟩:=x;exact .inl ⟨_,gH.of e1,by rw[l.isEmpty]⟩
   | dct ds=>simp only[q] at e;cases e;obtain⟨vs,e1,l⟩:=x;exact .inr (.inr ⟨_,e1,by rw[l.isEmpty]⟩)
   | dcH ds=>simp only[q] at e;cases e
   | exc c=>simp only[q] at e;cases e
theorem wm(ha:SE X a ma)(he:∀whole,isTrue a X.env whole=(do let v<-whole;standAt a.pos;holding [v] (truthy v)):=by intro _;ac_nf):ST X a (lT ma):=(EY ha he).imp λσ H Q ⟨ρ,δ,h,c,h',R,S,e,k⟩=>by
 obtain⟨⟨x,h1⟩,e1,e2⟩:=bw e;obtain⟨c',e3,e4⟩:=gB e2;cases e4;exact⟨ρ,δ,h,x,h1,R,S,e1,λv H' ⟨ρ',T,S',r⟩=>⟨c,Bh S' r e3,k ρ' H' T S'⟩⟩
end
mutual
noncomputable def Jl:D->D->Bool
 | .cq,.cq=>true
 | .bl a,.bl b=>a==b
 | .int a,.int b=>a==b
 | .str a,.str b=>decide (a=b)
 | .ty a,.ty b=>a==b
 | .tup a,.tup b=>xN a b
 | .lv a,.lv b=>xN a b
 | .ro a,.ro b=>xN a b
 | .dv a,.dv b=>GN a b
 | .ob a,.ob b=>a==b
 | _,_=>false
noncomputable def xN:List D->List D->Bool
 | [],[]=>true
 | a::r,b::s=>Jl a b&&xN r s
 | _,_=>false
noncomputable def GN:List (Key×D)->List (Key×D)->Bool
 | [],[]=>true
 |(k,a)::r,(j,b)::s=>decide (k=j)&&Jl a b&&GN r s
 | _,_=>false
end
mutual
theorem B8:∀(a b:D),Jl a b=true->a=b
 | .cq,b,h=>by cases b <;> first | rfl |(cases h;done)
 | .bl x,b,h=>by cases b <;> first | exact congrArg _ (eq_of_beq h) |(cases h;done)
 | .int x,b,h=>by cases b <;> first | exact congrArg _ (eq_of_beq h) |(cases h;done)
 | .str x,b,h=>by cases b <;> first | exact congrArg _ (Tv h) |(cases h;done)
 | .ty x,b,h=>by cases b <;> first | exact congrArg _ (eq_of_beq h) |(cases h;done)
 | .ob x,b,h=>by cases b <;> first | exact congrArg _ (eq_of_beq h) |(cases h;done)
 | .tup x,b,h=>by cases b <;> first | exact congrArg _ (i6 _ _ h) |(cases h;done)
 | .lv x,b,h=>by cases b <;> first | exact congrArg _ (i6 _ _ h) |(cases h;done)
 | .ro x,b,h=>by cases b <;> first | exact congrArg _ (i6 _ _ h) |(cases h;done)
 | .dv x,b,h=>by cases b <;> first | exact congrArg _ (xO _ _ h) |(cases h;done)
theorem i6:∀(a b:List D),xN a b=true->a=b
 | [],b,h=>by cases b <;> first | rfl |(cases h;done)
 | x::r,b,h=>by
  cases b with
  | nil=>cases h
  | cons y s=>have h:=SU.mp h;rw[B8 _ _ h.1,i6 _ _ h.2]
theorem xO:∀(a b:List (Key×D)),GN a b=true->a=b
 | [],b,h=>by cases b <;> first | rfl |(cases h;done)
 |(k,x)::r,b,h=>by
  cases b with
  | nil=>cases h
  | cons y s=>
   obtain⟨j,y⟩:=y;have h:=SU.mp h;have g:=SU.mp h.1;rw[Tv g.1,B8 _ _ g.2,xO _ _ h.2]
end
mutual
theorem vS:∀(a:D),Jl a a=true
 | .cq=>rfl
 | .bl x=>TC x
 | .int x=>TC x
 | .str x=>Tb rfl
 | .ty x=>TC x
 | .ob x=>TC x
 | .tup x=>ft x
 | .lv x=>ft x
 | .ro x=>ft x
 | .dv x=>oV x
theorem ft:∀(a:List D),xN a a=true
 | []=>rfl
 | x::r=>SU.mpr ⟨vS x,ft r⟩
theorem oV:∀(a:List (Key×D)),GN a a=true
 | []=>rfl
 |(k,x)::r=>SU.mpr ⟨SU.mpr ⟨Tb rfl,vS x⟩,oV r⟩
end
noncomputable def GK:MO->MO->Bool
 | .lst a,.lst b=>xN a b
 | .dct a,.dct b=>GN a b
 | .dcH a,.dcH b=>xN (a.map (·.1)) (b.map (·.1))&&xN (a.map (·.2)) (b.map (·.2))
 | .exc a,.exc b=>decide (a=b)
 | _,_=>false
theorem yE:∀{a b:List (D×D)},a.map (·.1)=b.map (·.1)->a.map (·.2)=b.map (·.2)->a=b
 | [],[],_,_=>rfl
 | [],_::_,h,_=>by cases h
 | _::_,[],h,_=>by cases h
 |(x,y)::a,(u,v)::b,h,g=>by
  obtain⟨h1,h2⟩:=List.cons.inj h;obtain⟨g1,g2⟩:=List.cons.inj g;dsimp only at h1 g1;rw[h1,g1,yE h2 g2]
theorem B6(h:GK a b=true):a=b:=by
 cases a <;> cases b <;> first |(cases h;done) | skip
 ·rw[i6 _ _ h]
 ·rw[xO _ _ h]
 ·have h:=SU.mp h;rw[yE (i6 _ _ h.1) (i6 _ _ h.2)]
 ·rw[Tv h]
theorem vQ(a:MO):GK a a=true:=by
 cases a with
 | lst x=>exact ft x
 | dct x=>exact oV x
 | dcH x=>exact SU.mpr ⟨ft _,ft _⟩
 | exc c=>exact Tb rfl
noncomputable def xP:MH->MH->Bool
 | [],[]=>true
 | a::r,b::s=>GK a b&&xP r s
 | _,_=>false
theorem B7:∀{a b:MH},xP a b=true->a=b
 | [],b,h=>by cases b <;> first | rfl | simp[xP] at h
 | x::r,b,h=>by
  cases b with
  | nil=>simp[xP] at h
  | cons y s=>simp[xP] at h;rw[B6 h.1,B7 h.2]
noncomputable def cf:SM:=λδ h=>some (.nx,δ,h)
noncomputable def k6:SM:=λ_ _=>none
noncomputable def av(a b:SM):SM:=λδ h=>(a δ h).bind λr=>match r.1 with
 | .nx=>b r.2.1 r.2.2
 | _=>some r
noncomputable def aV(i:Nat)(e:EM):SM:=λδ h=>(e δ h).bind λp=>some (.nx,δ.set i (some p.1),p.2)
noncomputable def fE(e:EM)(g:GM):SM:=λδ h=>(e δ h).bind λp=>(g p.1 δ p.2).bind λq=>some (.nx,q.1,q.2)
noncomputable def gO(e:EM):SM:=λδ h=>(e δ h).bind λp=>some (.nx,δ,p.2)
noncomputable def bh(e:EM):SM:=λδ h=>(e δ h).bind λp=>some (.rt p.1,δ,p.2)
noncomputable def fz(t:TM)(a b:SM):SM:=λδ h=>(t δ h).bind λp=>if p.1 then a δ p.2 else b δ p.2
noncomputable def gN(i:Nat):GM:=λd δ h=>some (δ.set i (some d),h)
abbrev G9:=List D->DS->MH->Option (DS×MH)
noncomputable def bY:G9:=λds δ h=>match ds with
 | []=>some (δ,h)
 | _=>none
noncomputable def au(g:GM)(u:G9):G9:=λds δ h=>match ds with
 | []=>none
 | d::r=>(g d δ h).bind λp=>u r p.1 p.2
noncomputable def gT(n:Nat)(u:G9):GM:=λd δ h=>match d with
 | .tup xs=>if xs.length=n then u xs δ h else none
 | _=>none
abbrev W:=List (Nat×MO)
abbrev IM:=DS->MH->Option (List D×W×MH)
noncomputable def nC:W->MH->Bool
 | [],_=>true
 |(n,o)::r,h=>(match h[n]? with | some u=>GK u o | none=>false)&&nC r h
noncomputable def lH(ws:W)(g:GM)(b:SM):List D->SM
 | [],δ,h=>if nC ws h then some (.nx,δ,h) else none
 | x::r,δ,h=>if nC ws h then(g x δ h).bind λq=>(b q.1 q.2).bind λz=>match z.1 with
  | .nx=>lH ws g b r z.2.1 z.2.2
  | .ct=>lH ws g b r z.2.1 z.2.2
  | .bk=>some (.nx,z.2.1,z.2.2)
  | .rt d=>some (.rt d,z.2.1,z.2.2)
  else none
noncomputable def iR(i:IM)(g:GM)(b:SM):SM:=λδ h=>(i δ h).bind λp=>lH p.2.1 g b p.1 δ p.2.2
section
variable {X:Cx} {a b c e tg iter:Expr} {es:List Expr} {st:Stmt} {sts rest:List Stmt} {pos:Pos} {ma mb:EM} {mt:TM} {ms mu:SM} {m:AM} {g:GM} {gs:G9}
theorem bB:DF X [] cf:=HM.imp λE σ H ⟨ρ,δ,h,fl,δ',h',R,S,e,k⟩=>by
 cases e;exact k ρ H (.refl _ _) S σ R
theorem ig:SS X st k6:=E3.imp λE σ H ⟨ρ,δ,h,fl,δ',h',R,S,e,k⟩=>by cases e
theorem KW(hh:Jy X.K (av ms mu) E σ H):Ny (Jy X.K ms) (Jy X.K mu) E σ H:=by
 obtain⟨ρ,δ,h,fl,δ',h',R,S,e,k⟩:=hh;obtain⟨⟨f1,δ1,h1⟩,e1,e2⟩:=bw e;cases f1 with
 | nx=>exact⟨ρ,δ,h,.nx,δ1,h1,R,S,e1,λρ1 H1 T1 S1 σ' R'=>⟨ρ1,δ1,h1,fl,δ',h',R',S1,e2,λρ2 H2 T2 S2=>k ρ2 H2 (T1.trans T2) S2⟩⟩
 | bk=>cases e2;exact⟨ρ,δ,h,.bk,_,_,R,S,e1,λρ1 H1 T1 S1=>k ρ1 H1 T1 S1⟩
 | ct=>cases e2;exact⟨ρ,δ,h,.ct,_,_,R,S,e1,λρ1 H1 T1 S1=>k ρ1 H1 T1 S1⟩
 | rt d=>cases e2;exact⟨ρ,δ,h,.rt d,_,_,R,S,e1,λρ1 H1 T1 S1=>k ρ1 H1 T1 S1⟩
theorem ae(h1:SS X st ms)(h2:DF X rest mu):DF X (st::rest) (av ms mu):=(yB h1 h2).imp λ_ _ _=>KW
theorem aI(h1:SS X st ms):DF X [st] ms:=HL h1
theorem EI(hh:Jy X.K (aV i ma) E σ H):Hj (tM X.K ma) (y2 i) E σ H:=by
 obtain⟨ρ,δ,h,fl,δ',h',R,S,e,k⟩:=hh;obtain⟨⟨x,h1⟩,e1,e2⟩:=bw e;cases e2;exact⟨ρ,δ,h,x,h1,R,S,e1,λv H1 ⟨ρ1,T1,S1,r1⟩=>k ρ1 H1 T1 S1 _ ((R.mono T1).set r1 i)⟩
theorem Kz(hN:X.N.Nodup)(hi:X.N[i]?=some x)(hx:Loc X.env.scope x)(he:SE X e ma)(hs:swapsWith e (some (.Name x pos')) pos.line X.env=pure false:=by ac_nf)(hf:X.fn x=true\/X.env.scope.names.lookup x=some .local:=by first | exact .inl rfl | exact .inr rfl | assumption):SS X (.Assign [.Name x pos'] e pos) (aV i ma):=(Ag hN hi hx he hs hf).imp λ_ _ _=>EI
theorem Hq(hN:X.N.Nodup)(hi:X.N[i]?=some x)(hx:Loc X.env.scope x)(hf:X.fn x=true\/X.env.scope.names.lookup x=some .local:=by first | exact .inl rfl | exact .inr rfl | assumption):SG X (.Name x pos) (gN i):=
 (Ie hN hi hx hf).imp λv σ H Q ⟨ρ,δ,h,d,δ',h',R,S,r,e,k⟩=>by
  cases e;exact k ρ H _ (.refl _ _) S (R.set r i)
inductive JZ(K:FR)(m:G9)(vs:List V)(σ:L2.St)(H:Hp)(Q:L2.St->Hp->Prop):Prop where
 | mk (ρ δ h ds δ' h'):cy K ρ H σ δ->bN K ρ h H->aG K ρ H vs ds->(m ds δ h=some (δ',h'))->(∀ρ' H' σ',cT ρ H ρ' H'->bN K ρ' h' H'->cy K ρ' H' σ' δ'->Q σ' H')->JZ K m vs σ H Q
noncomputable def Qf(K:FR)(m:G9):MU:=λvs σ H Q=>JZ K m vs σ H Q
def P1(X:Cx)(es:List Expr)(m:G9):Prop:=Kf X es (Qf X.K m)
theorem _root_.L2.Kf.imp{X:Cx}{e:List Expr}{t t':MU}(h:Kf X e t)(i:∀v σ H Q,t' v σ H Q->t v σ H Q):Kf X e t':=λpins s σ H v u Q I r q=>h pins s σ H v u Q I r (i v σ H Q q)
theorem j7:P1 X [] bY:=Ic.imp λv σ H Q ⟨ρ,δ,h,d,δ',h',R,S,r,e,k⟩=>by
 cases r with
 | nil=>cases e;exact⟨rfl,k ρ H σ (.refl _ _) S R⟩
 | cons _ _=>cases e
theorem cE(h1:SG X e g)(h2:P1 X es gs)(hs:(assignEach (e::es) X.env).map (·.2)=assign e X.env::(assignEach es X.env).map (·.2):=by ac_nf):P1 X (e::es) (au g gs):=(Fc h1 h2 hs).imp λv σ H Q ⟨ρ,δ,h,d,δ',h',R,S,r,e,k⟩=>by
 cases r with
 | nil=>cases e
 | cons r rs=>
  obtain⟨⟨δ1,h1⟩,e1,e2⟩:=bw e;exact⟨_,_,rfl,ρ,δ,h,_,δ1,h1,R,S,r,e1,λρ1 H1 σ1 T1 S1 R1=>⟨ρ1,δ1,h1,_,δ',h',R1,S1,rs.mono T1,e2,λρ2 H2 σ2 T2 S2 R2=>k ρ2 H2 σ2 (T1.trans T2) S2 R2⟩⟩
theorem oj(hc:X.calm=true)(h:P1 X es gs)(hn:(assignEach es X.env).length=n:=by ac_nf)(hst:(assignEach es X.env).findIdx? (·.1)=none:=by ac_nf):SG X (.Tuple es k0 pos) (gT n gs):=
 (Lg hc h hn hst).imp λv σ H Q ⟨ρ,δ,h,d,δ',h',R,S,r,e,k⟩=>by
  cases r <;> first |(exact absurd e (by intro z;cases z)) | skip
  rename_i a vs ds ht l _;unfold gT at e;dsimp only at e
  by_cases z:ds.length=n
  ·rw[Si z] at e;exact⟨a,vs,rfl,ht.sq,by rw[l.length];exact z,ρ,δ,h,ds,δ',h',R,S,l,e,k⟩
  ·rw[Sv z] at e;cases e
theorem eY(he:SE X e ma)(hg:SG X tg g)(hs:swapsWithSole [tg] e pos.line X.env=pure false:=by ac_nf)(hw:swappedStores [tg] e X.env=pure none:=by ac_nf)
  (h1:(assignEach [tg] X.env).map (·.2)=[assign tg X.env]:=by ac_nf):SS X (.Assign [tg] e pos) (fE ma g):=(E5 he hg hs hw h1).imp λE σ H ⟨ρ,δ,h,fl,δ',h',R,S,e,k⟩=>by
 obtain⟨⟨x,h1⟩,e1,e2⟩:=bw e;obtain⟨⟨δ2,h2⟩,e4,e3⟩:=bw e2;cases e3;exact⟨ρ,δ,h,x,h1,R,S,e1,λv H1 ⟨ρ1,T1,S1,r1⟩=>⟨ρ1,δ,h1,x,_,_,R.mono T1,S1,r1,e4,λρ2 H2 σ2 T2 S2 R2=>k ρ2 H2 (T1.trans T2) S2 σ2 R2⟩⟩
theorem j5(he:SE X e ma)(hs:swapsWith e none pos.line X.env=pure false:=by ac_nf):SS X (.Expr e pos) (gO ma):=(HP he hs).imp λE σ H ⟨ρ,δ,h,fl,δ',h',R,S,e,k⟩=>by
 obtain⟨⟨x,h1⟩,e1,e2⟩:=bw e;cases e2;exact⟨ρ,δ,h,x,h1,R,S,e1,λv H1 ⟨ρ1,T1,S1,r1⟩=>k ρ1 H1 T1 S1 σ (R.mono T1)⟩
theorem bL(he:SE X e ma):SS X (.Return (some e) pos) (bh ma):=(Lc he).imp λE σ H ⟨ρ,δ,h,fl,δ',h',R,S,e,k⟩=>by
 obtain⟨⟨x,h1⟩,e1,e2⟩:=bw e;cases e2;exact⟨ρ,δ,h,x,h1,R,S,e1,λv H1 ⟨ρ1,T1,S1,r1⟩=>k ρ1 H1 T1 S1 v r1⟩
theorem cc(hc:ST X c mt)(ha:DF X sa ms)(hb:DF X sb mu):SS X (.If c sa sb pos) (fz mt ms mu):=(JK hc ha hb).imp λE σ H ⟨ρ,δ,h,fl,δ',h',R,S,e,k⟩=>by
 obtain⟨⟨x,h1⟩,e1,e2⟩:=bw e;refine⟨ρ,δ,h,x,h1,R,S,e1,λρ1 H1 T1 S1=>?_⟩;cases x with
 | true=>rw[Si rfl] at e2 ⊢;exact⟨ρ1,δ,h1,fl,δ',h',R.mono T1,S1,e2,λρ2 H2 T2 S2=>k ρ2 H2 (T1.trans T2) S2⟩
 | false=>rw[Sv (by simp)] at e2 ⊢;exact⟨ρ1,δ,h1,fl,δ',h',R.mono T1,S1,e2,λρ2 H2 T2 S2=>k ρ2 H2 (T1.trans T2) S2⟩
structure Nc(K:FR)(J:It)(ρ:Ad)(H:Hp)(ws:W)(xs:List D):Prop where
 run:∀ρ1 H1 h1,Ch ρ H ρ1 H1->bN K ρ1 h1 H1->nC ws h1=true->∀i:Nat,(xs.length<=i->J.stop i H1)/\∀x,xs[i]?=some x->J.go i H1/\∀v H2,J.Js i H1 v H2->cT ρ1 H1 ρ1 H2/\bN K ρ1 h1 H2/\Rep K ρ1 H2 v x
inductive Pp(K:FR)(m:IM)(σ:L2.St)(H:Hp)(R:It->Hp->Prop):Prop where
 | mk (ρ δ h xs ws h'):cy K ρ H σ δ->bN K ρ h H->(m δ h=some (xs,ws,h'))->(∀J ρ1 H1,cT ρ H ρ1 H1->bN K ρ1 h' H1->Nc K J ρ1 H1 ws xs->R J H1)->Pp K m σ H R
def M6(K:FR)(m:IM):TI:=λσ H R=>Pp K m σ H R
def SI(X:Cx)(tg iter:Expr)(m:IM):Prop:=PI X tg iter (M6 X.K m)
theorem _root_.L2.PI.imp(h:PI X tg e t)(i:∀σ H Q,t' σ H Q->t σ H Q):PI X tg e t':=λpins s σ H R I q=>h pins s σ H R I (i σ H R q)
theorem KY(hh:Jy X.K (iR mi g ms) E σ H):NH (M6 X.K mi) (G0 X.K g) (Jy X.K ms) E σ H:=by
 obtain⟨ρ,δ,h,fl,δ',h',R,S,e,k⟩:=hh;obtain⟨⟨xs,ws,h1⟩,e1,e2⟩:=bw e;refine⟨ρ,δ,h,xs,ws,h1,R,S,e1,λJ ρ1 H1 T1 S1 It=>?_⟩;refine⟨λi m σ2 H2=>∃ρ2 δ2 h2,m=xs.length-i/\i<=xs.length/\cT ρ1 H1 ρ2 H2/\cy X.K ρ2 H2 σ2 δ2/\bN X.K ρ2 h2 H2/\lH ws g ms (xs.drop i) δ2 h2=some (fl,δ',h'),⟨_,ρ1,δ,h1,rfl,UK _,.refl _ _,R.mono T1,S1,e2⟩,?_⟩;rintro i m σ2 H2 ⟨ρ2,δ2,h2,rfl,hi,T2,R2,S2,e3⟩;cases q:xs.drop i with
 | nil=>
  rw[q] at e3;unfold lH at e3
  by_cases hc:nC ws h2=true
  ·rw[Si hc] at e3;cases e3;have hl:xs.length<=i:=by have:=congrArg List.length q;rw[Uh,TY] at this;lia
   exact .inl ⟨(It.run ρ2 H2 _ T2 S2 hc i).1 hl,k ρ2 H2 (T1.trans T2) S2 σ2 R2⟩
  ·rw[Sv hc] at e3;cases e3
 | cons x r=>
  rw[q] at e3;unfold lH at e3
  by_cases hc:nC ws h2=true
  ·rw[Si hc] at e3;have hx:xs[i]?=some x:=by
    have:=congrArg (λl=>l[0]?) q
    simpa using this
   have hlt:i < xs.length:=(Se.mp hx).1;have hr:xs.drop (i+1)=r:=by
    have:=congrArg List.tail q
    simpa using this
   obtain⟨⟨δ3,h3⟩,e4,e5⟩:=bw e3;obtain⟨⟨f4,δ4,h4⟩,e6,e7⟩:=bw e5;obtain⟨hgo,hy⟩:=(It.run ρ2 H2 h2 T2 S2 hc i).2 x hx;have NN:∀ρ5 H5 σ5,cT ρ2 H2 ρ5 H5->bN X.K ρ5 h4 H5->cy X.K ρ5 H5 σ5 δ4->lH ws g ms r δ4 h4=some (fl,δ',h')->
     ∃m',m' < xs.length-i/\(∃ρ2 δ2 h2,m'=xs.length-(i+1)/\i+1<=xs.length/\cT ρ1 H1 ρ2 H5/\cy X.K ρ2 H5 σ5 δ2/\bN X.K ρ2 h2 H5/\lH ws g ms (xs.drop (i+1)) δ2 h2=some (fl,δ',h')):=
    λρ5 H5 σ5 T5 S5 R5 e8=>⟨xs.length-(i+1),by lia,ρ5,δ4,h4,rfl,hlt,T2.trans T5,R5,S5,by rw[hr];exact e8⟩
   refine .inr ⟨hgo,λσ5 H5=>∃ρ5,cT ρ2 H2 ρ5 H5/\bN X.K ρ5 h4 H5/\cy X.K ρ5 H5 σ5 δ4/\lH ws g ms r δ4 h4=some (fl,δ',h'),λσ5 H5 ⟨ρ5,T5,S5,R5,e8⟩=>NN ρ5 H5 σ5 T5 S5 R5 e8,λv H3 y3=>?_⟩;obtain⟨T3,S3,r3⟩:=hy v H3 y3;refine⟨ρ2,δ2,h2,x,δ3,h3,R2.mono T3,S3,r3,e4,λρ4 H4 σ4 T4 S4 R4=>?_⟩;refine⟨ρ4,δ3,h3,f4,δ4,h4,R4,S4,e6,λρ5 H5 T5 S5=>?_⟩;have T25:cT ρ2 H2 ρ5 H5:=T3.trans (T4.trans T5);cases f4 with
   | nx=>exactλσ' R'=>⟨ρ5,T25,S5,R',e7⟩
   | ct=>exactλσ' R'=>⟨ρ5,T25,S5,R',e7⟩
   | bk=>cases e7;exactλσ' R'=>k ρ5 H5 (T1.trans (T2.trans T25)) S5 σ' R'
   | rt d=>cases e7;exactλv r=>k ρ5 H5 (T1.trans (T2.trans T25)) S5 v r
  ·rw[Sv hc] at e3;cases e3
theorem cV(hp:PassesOwn (model X.prog X.w) X.A X.env X.xe)(hc:X.calm=true)(hi:SI X tg iter mi)(hg:SG X tg g)(hb:DF X body ms)(hs:∀x,foldedSetIterable iter X.env x=pure x:=by intro _;ac_nf):SS X (.For tg iter body [] pos) (iR mi g ms):=
 (Ld hp hc hi hg hb hs).imp λ_ _ _=>KY
end
end Sm
namespace L2
open PySem PySem.Spec PyProof.Rows
theorem Lf(hl:PE X l tl):PI X tg l (λσ H R=>tl σ H λx H1=>∃a,x=.ref a/\(((∃xs,gH X.K H1 a xs)/\R (Rj X.K a) H1)\/((∃xs,kF X.K H1 a xs)/\R (Ri X.K a) H1))):=by
 intro pins s σ H R I h;refine cD (hl pins s σ H _ I h) λv s1 ⟨x,H1,I1,r1,q1⟩=>?_;obtain⟨a,e,q1⟩:=q1;subst e;cases r1;rcases q1 with⟨⟨xs,hq⟩,q⟩ |⟨⟨xs,hq⟩,q⟩
 ·obtain⟨its,rv,p,hz⟩:=I1.list hq;refine wpAny_pyIter_list p.isList ?_;refine⟨s1.heap.objs.size,[s1.heap.objs.size],_,_,H1,rfl,I1.kept (t':=s1.toks) λb o e=>Ss _ e,Cm a _,⟨_,Tc _ rfl,rfl,rfl⟩,λb hb=>?_,q⟩;have e:b=s1.heap.objs.size:=by simpa using hb
  subst e;exact I1.F1 (Sj _) (I1.bg.fresh (Sj _))
 ·obtain⟨its,rv,p,hz⟩:=I1.tuple hq;refine VS (show s1.heap.IsTuple a its.toArray from p) ?_;refine⟨s1.heap.objs.size,[s1.heap.objs.size],_,_,H1,rfl,I1.kept (t':=s1.toks) λb o e=>Ss _ e,zM a _,⟨_,Tc _ rfl,rfl,rfl⟩,λb hb=>?_,q⟩;have e:b=s1.heap.objs.size:=by simpa using hb
  subst e;exact I1.F1 (Sj _) (I1.bg.fresh (Sj _))
end L2
namespace Sm
open PySem L2
noncomputable def dP(d:D)(h:MH):Option (List D×W):=match d with
 | .lv xs=>some (xs,[])
 | .ro xs=>some (xs,[])
 | .tup xs=>some (xs,[])
 | .ob n=>match h[n]? with
  | some (.lst xs)=>some (xs,[(n,.lst xs)])
  | _=>none
 | _=>none
noncomputable def dm(e:EM):IM:=λδ h=>(e δ h).bind λp=>(dP p.1 p.2).map λq=>(q.1,q.2,p.2)
noncomputable def qt(m:AM):IM:=λδ h=>(m δ h).bind λp=>match p.1 with
 | [.int j]=>if -(2^62)<=j/\j < 2^62 then some ((List.range j.toNat).map λ(k:Nat)=>D.int (k:Int),[],p.2) else none
 | [.int i,.int j]=>if -(2^62)<=i/\i < 2^62/\-(2^62)<=j/\j < 2^62 then some ((List.range (j-i).toNat).map λ(k:Nat)=>D.int (i+(k:Int)),[],p.2) else none
 | _=>none
theorem AD(hl:∀ρ1 H1 h1,Ch ρ H ρ1 H1->bN K ρ1 h1 H1->nC ws h1=true->∃vs,aG K ρ1 H1 vs xs/\(∀i:Nat,vs.length<=i->J.stop i H1)/\∀(i:Nat) v,vs[i]?=some v->J.go i H1/\∀u H2,J.Js i H1 u H2->H2=H1/\u=v):Nc K J ρ H ws xs:=by
 refine⟨λρ1 H1 h1 T S hc i=>?_⟩;obtain⟨vs,l,s1,s2⟩:=hl ρ1 H1 h1 T S hc;refine⟨λhi=>s1 i (by rw[l.length];exact hi),λx hx=>?_⟩;obtain⟨v,hv,r⟩:=l.got hx;obtain⟨g,y⟩:=s2 i v hv;refine⟨g,λu H2 yy=>?_⟩;obtain⟨rfl,rfl⟩:=y u H2 yy;exact⟨.refl _ _,S,r⟩
theorem L9(hl:∀ρ1 H1 h1,Ch ρ H ρ1 H1->bN K ρ1 h1 H1->nC ws h1=true->∃vs,aG K ρ1 H1 vs xs/\gH K H1 a vs):Nc K (Rj K a) ρ H ws xs:=
 AD λρ1 H1 h1 T S hc=>by
  obtain⟨vs,l,q⟩:=hl ρ1 H1 h1 T S hc;refine⟨vs,l,λi hi=>⟨vs,q,hi⟩,λi v hv=>⟨⟨vs,v,q,hv⟩,λu H2 ⟨e,y⟩=>⟨e,?_⟩⟩⟩;have:=y vs q;rw[hv] at this;exact(Option.some.inj this).symm
theorem L7(hl:∀ρ1 H1 h1,Ch ρ H ρ1 H1->bN K ρ1 h1 H1->nC ws h1=true->∃vs,aG K ρ1 H1 vs xs/\kF K H1 a vs):Nc K (Ri K a) ρ H ws xs:=
 AD λρ1 H1 h1 T S hc=>by
  obtain⟨vs,l,q⟩:=hl ρ1 H1 h1 T S hc;refine⟨vs,l,λi hi=>⟨vs,q,hi⟩,λi v hv=>⟨⟨vs,v,q,hv⟩,λu H2 ⟨e,y⟩=>⟨e,?_⟩⟩⟩;have:=y vs q;rw[hv] at this;exact(Option.some.inj this).symm
theorem Jg(hc:nC [(n,o)] h=true):h[n]?=some o:=by
 unfold nC at hc;cases q:h[n]? with
 | none=>rw[q] at hc;cases hc
 | some u=>
  rw[q] at hc;simp[nC] at hc;rw[B6 hc]
inductive SeqAt(K:FR)(H:Hp)(a:Addr)(vs:List V):Bool->Prop where
 | l:gH K H a vs->SeqAt K H a vs true
 | t:kF K H a vs->SeqAt K H a vs false
noncomputable def AF:D->Bool
 | .tup _=>false
 | _=>true
theorem rq(S:bN K ρ h H)(r:Rep K ρ H v d)(e:dP d h=some (xs,ws)):∃a,v=.ref a/\(∃vs,SeqAt K H a vs (AF d)/\aG K ρ H vs xs)/\
  ∀ρ1 H1 h1,Ch ρ H ρ1 H1->bN K ρ1 h1 H1->nC ws h1=true->∃vs,aG K ρ1 H1 vs xs/\SeqAt K H1 a vs (AF d):=by
 cases r with
 | tup ht l=>
  cases e;refine⟨_,rfl,⟨_,.t ht.sq,l⟩,λρ1 H1 h1 T S1 _=>?_⟩;cases(Rep.tup ht l).mono T with
  | tup h1 l1=>exact⟨_,l1,.t h1.sq⟩
 | lv ht n l=>
  cases e;refine⟨_,rfl,⟨_,.l (gH.of ht),l⟩,λρ1 H1 h1 T S1 _=>?_⟩;cases(Rep.lv ht n l).mono T with
  | lv h1 _ l1=>exact⟨_,l1,.l (gH.of h1)⟩
 | ro ht l=>
  cases e;refine⟨_,rfl,⟨_,.l ht.sq,l⟩,λρ1 H1 h1 T S1 _=>?_⟩;cases(Rep.ro ht l).mono T with
  | ro h1 l1=>exact⟨_,l1,.l h1.sq⟩
 | @ob a n hn=>
  unfold dP at e;dsimp only at e;cases q:h[n]? with
  | none=>rw[q] at e;cases e
  | some o=>
   rw[q] at e;cases o with
   | dct _=>exact b7 e
   | dcH _=>exact b7 e
   | exc _=>exact b7 e
   | lst ys=>
    cases e;obtain⟨vs,e1,l⟩:=S.at_ n a _ hn q;refine⟨a,rfl,⟨vs,.l (gH.of e1),l⟩,λρ1 H1 h1 T S1 hc=>?_⟩;obtain⟨us,e2,l2⟩:=S1.at_ n a _ (T.pre n a hn) (Jg hc);exact⟨us,l2,.l (gH.of e2)⟩
 | cq=>exact b7 e
 | bl b=>exact b7 e
 | int i=>exact b7 e
 | str x=>exact b7 e
 | ty x=>exact b7 e
 | dv _ _ _=>exact b7 e
section
variable {X:Cx} {a b c e tg iter:Expr} {es:List Expr} {pos:Pos} {ma mb:EM} {mt:TM} {ms mu:SM} {m:AM} {g:GM} {gs:G9}
theorem g7(h:SE X e ma):SI X tg e (dm ma):=(Lf h).imp λσ H Q ⟨ρ,δ,h,xs,ws,h',R,S,e,k⟩=>by
 obtain⟨⟨x,h1⟩,e1,e2⟩:=bw e;obtain⟨⟨ys,w⟩,e3,e4⟩:=gB e2;cases e4;refine⟨ρ,δ,h,x,h1,R,S,e1,λv H1 ⟨ρ1,T1,S1,r1⟩=>?_⟩;obtain⟨a,rfl,⟨vs,q,l⟩,st⟩:=rq S1 r1 e3;refine⟨a,rfl,?_⟩;generalize AF x=b at q st;cases q with
 | l q=>exact .inl ⟨⟨vs,q⟩,k _ ρ1 H1 T1 S1 (L9 λρ2 H2 h2 T2 S2 hc=>by obtain⟨us,l2,q2⟩:=st ρ2 H2 h2 T2 S2 hc;cases q2 with | l q2=>exact⟨us,l2,q2⟩)⟩
 | t q=>exact .inr ⟨⟨vs,q⟩,k _ ρ1 H1 T1 S1 (L7 λρ2 H2 h2 T2 S2 hc=>by obtain⟨us,l2,q2⟩:=st ρ2 H2 h2 T2 S2 hc;cases q2 with | t q2=>exact⟨us,l2,q2⟩)⟩
theorem ot:∀(ns:List Int),aG K ρ H (ns.map V.int) (ns.map D.int)
 | []=>.nil
 | _::r=>.cons (.int _) (ot r)
theorem L8(lo:Int)(n:Nat):Nc K (P2 lo n) ρ H [] ((List.range n).map λ(k:Nat)=>D.int (lo+(k:Int))):=by
 refine AD λρ1 H1 h1 T S hc=>⟨(List.range n).map λ(k:Nat)=>V.int (lo+(k:Int)),?_,λi hi=>?_,λi v hv=>?_⟩
 ·have:=ot (K:=K) (ρ:=ρ1) (H:=H1) ((List.range n).map λ(k:Nat)=>lo+(k:Int));rw[TR,TR] at this;exact this
 ·rw[R9,Tr] at hi;exact hi
 ·rw[SK] at hv;obtain⟨j,e1,e2⟩:=gB hv;obtain⟨hlt,e3⟩:=Se.mp e1;rw[Tr] at hlt;rw[List.getElem_range] at e3;subst e3;subst e2;exact⟨hlt,λu H2 ⟨p,q⟩=>⟨p,q⟩⟩
theorem CB(l:aG K ρ H vs [.int j]):vs=[.int j]:=by
 cases l with
 | cons r l=>cases l;cases r;rfl
theorem cP(hg:Gl X "range")(hm:X.mg "range"=none)(ha:SA X [a] m)(hs:starEach [a] X.env=[(false,eval a X.env)]:=by ac_nf)(hl:kG m 1):SI X tg (.Call (.Name "range" p) [a] [] pos) (qt m):=
 (CG hg hm ha hs).imp λσ H Q zz=>by
  obtain⟨ρ,δ,h,xs,ws,h',R,S,e,k⟩:=zz;obtain⟨⟨x,h1⟩,e1,e2⟩:=bw e;refine⟨ρ,δ,h,x,h1,R,S,e1,λvs ρ1 H1 T1 S1 r1=>?_⟩;obtain⟨d,rfl⟩:=UW.mp (hl _ _ _ _ e1);cases d <;> first | exact absurd e2 (by intro z;cases z) | skip
  rename_i j;dsimp only at e2
  by_cases z:-(2^62)<=j/\j < 2^62
  ·rw[Si z] at e2;cases e2;refine⟨j,CB r1,z.1,z.2,k _ ρ1 H1 T1 S1 ?_⟩;have:=L8 (K:=X.K) (ρ:=ρ1) (H:=H1) 0 j.toNat
   simpa using this
  ·rw[Sv z] at e2;cases e2
noncomputable def fK(caps:List (Option Nat))(δ:DS):DS:=caps.map λo=>o.bind λi=>(δ[i]?).join
noncomputable def cz:TM:=λ_ h=>some (true,h)
noncomputable def bV(ws:W)(g:GM)(c:TM)(e:EM):List D->DS->MH->Option (List D×MH)
 | [],_,h=>if nC ws h then some ([],h) else none
 | x::r,δ,h=>if nC ws h then(g x δ h).bind λq=>(c q.1 q.2).bind λt=>if t.1 then(e q.1 t.2).bind λy=>(bV ws g c e r q.1 y.2).map λz=>(y.1::z.1,z.2) else bV ws g c e r q.1 t.2 else none
noncomputable def cI(caps:List (Option Nat))(i:IM)(g:GM)(c:TM)(e:EM):AM:=λδ h=>(i δ h).bind λp=>(bV p.2.1 g c e p.1 (fK caps δ) p.2.2).bind λq=>if q.1.length<=sizeLine then some q else none
theorem cy.jP(R:cy K ρ H σ δ)(caps:List (Option Nat)):cy K ρ H (jP caps σ) (fK caps δ):=by
 refine⟨by simp[L2.jP,fK],λi d hd=>?_⟩;unfold fK at hd;rw[SK] at hd;obtain⟨o,e1,e2⟩:=gB hd;cases o with
 | none=>exact b7 e2
 | some j=>
  have e3:δ[j]?=some (some d):=WW.mp e2;obtain⟨v,ev,r⟩:=R.at_ j d e3;refine⟨v,?_,r⟩;unfold L2.jP;rw[SK,e1];simp[ev]
def MW(X:Cx)(ifs:List Expr)(m:TM):Prop:=GV X ifs (DI X.K m)
theorem dg:MW X [] cz:=λpins s σ H Q I hh=>by
 obtain⟨ρ,δ,h,b,h',R,S,e,k⟩:=hh;cases e;exact Ia pins s σ H Q I (k ρ H (.refl _ _) S)
theorem qG(h:ST X c mt):MW X [c] mt:=HZ h
theorem Bq(hh:tM X.K (fX (cI caps mi g mt ma)) σ H Q):Eb caps (M6 X.K mi) (G0 X.K g) (DI X.K mt) (tM X.K ma) σ H Q:=by
 obtain⟨ρ,δ,h,d,h',R,S,ee,k⟩:=hh;obtain⟨⟨out,h0⟩,ea,e0⟩:=gB ee;cases e0;obtain⟨⟨xs,ws,h1⟩,e1,eb⟩:=bw ea;obtain⟨⟨ys,h2⟩,e2,e3⟩:=bw eb;dsimp only at e2 e3
 by_cases hz:ys.length<=sizeLine
 ·rw[Si hz] at e3;cases e3;refine⟨ρ,δ,h,xs,ws,h1,R,S,e1,λJ ρ1 H1 T1 S1 It l hl=>?_⟩;have nl:¬ρ1.has l:=S1.fresh hl;have Tl:Ch ρ1 H1 (ρ1.keep l) (upd H1 l (.lst [])):=Ch.keep hl;refine⟨λi m τ2 H2=>∃(ob2:List Addr)(δ2:DS)(h2:MH)(vs:List V)(as bs:List D),m=xs.length-i/\i<=xs.length/\Ch ρ1 H1 ⟨ob2,l::ρ1.rs⟩ H2/\(∀b∈ρ1.rs,H2 b=H1 b)/\cy X.K ⟨ob2,l::ρ1.rs⟩ H2 τ2 δ2/\bN X.K ⟨ob2,l::ρ1.rs⟩ h2 H2/\
    H2 l=some (.lst vs)/\aG X.K ⟨ob2,l::ρ1.rs⟩ H2 vs as/\out=as++bs/\bV ws g mt ma (xs.drop i) δ2 h2=some (bs,h0),
   ⟨_,ρ1.ob,fK caps δ,h1,[],[],out,rfl,UK _,Tl,λb hb=>az λz=>nl (.inr (z ▸ hb)),((R.mono T1).jP caps).mono Tl,S1.keep hl,aO,.nil,rfl,e2⟩,?_⟩
  rintro i m τ2 H2 ⟨ob2,δ2,h2,vs,as,bs,rfl,hi,T2,rs2,R2,S2,hl2,l2,eo,e3⟩;have hsub:∀b∈ρ1.rs,b∈l::ρ1.rs:=λb hb=>Sq _ hb;have C2:Ch ⟨ob2,l::ρ1.rs⟩ H2 ⟨ob2,ρ1.rs⟩ H2:=Ch.free hsub;have T2':cT ρ1 H1 ⟨ob2,ρ1.rs⟩ H2:=⟨T2.trans C2,rfl,rs2⟩;have S2':bN X.K ⟨ob2,ρ1.rs⟩ h2 H2:=S2.free hsub;cases q:xs.drop i with
  | nil=>
   rw[q] at e3;unfold bV at e3
   by_cases hc:nC ws h2=true
   ·rw[Si hc] at e3;cases e3;rw[Tw] at eo;subst eo;have hle:xs.length<=i:=by have:=congrArg List.length q;rw[Uh,TY] at this;lia
    refine .inl ⟨(It.run _ H2 _ T2 S2 hc i).1 hle,k _ _ ⟨_,T1.trans T2',S2',.lv hl2 (λz=>?_) (l2.mono C2)⟩⟩;rcases z with z | z
    ·exact(S2.t6 l Sk).2 z
    ·exact nl (.inr z)
   ·rw[Sv hc] at e3;cases e3
  | cons x r=>
   rw[q] at e3;unfold bV at e3
   by_cases hc:nC ws h2=true
   ·rw[Si hc] at e3;have hx:xs[i]?=some x:=by
     have:=congrArg (λl=>l[0]?) q
     simpa using this
    have hlt:i < xs.length:=(Se.mp hx).1;have hr:xs.drop (i+1)=r:=by
     have:=congrArg List.tail q
     simpa using this
    obtain⟨⟨δ3,h3⟩,e4,e5⟩:=bw e3;obtain⟨⟨t,h4⟩,e6,e7⟩:=bw e5;dsimp only at e4 e5 e6 e7;obtain⟨hgo,hy⟩:=(It.run _ H2 h2 T2 S2 hc i).2 x hx;refine .inr ⟨hgo,λτ5 H5=>∃(ob5:List Addr)(h5:MH)(vs:List V)(as bs:List D),Ch ρ1 H1 ⟨ob5,l::ρ1.rs⟩ H5/\(∀b∈ρ1.rs,H5 b=H1 b)/\cy X.K ⟨ob5,l::ρ1.rs⟩ H5 τ5 δ3/\bN X.K ⟨ob5,l::ρ1.rs⟩ h5 H5/\
     H5 l=some (.lst vs)/\aG X.K ⟨ob5,l::ρ1.rs⟩ H5 vs as/\out=as++bs/\bV ws g mt ma r δ3 h5=some (bs,h0),?_,?_⟩
    ·rintro τ5 H5 ⟨ob5,h5,vs5,as5,bs5,T5,rs5,R5,S5,hl5,l5,eo5,e5⟩;exact⟨xs.length-(i+1),by lia,ob5,δ3,h5,vs5,as5,bs5,rfl,hlt,T5,rs5,R5,S5,hl5,l5,eo5,by rw[hr];exact e5⟩
    ·intro v H3 y3;obtain⟨T3,S3,r3⟩:=hy v H3 y3;refine⟨⟨ob2,l::ρ1.rs⟩,δ2,h2,x,δ3,h3,R2.mono T3,S3,r3,e4,λρ4 H4 τ4 T4 S4 R4=>?_⟩;refine⟨ρ4,δ3,h3,t,h4,R4,S4,e6,λρ5 H5 T5 S5=>?_⟩;have T25:cT ⟨ob2,l::ρ1.rs⟩ H2 ρ5 H5:=T3.trans (T4.trans T5);obtain⟨ob5,rs5⟩:=ρ5;have ers:rs5=l::ρ1.rs:=T25.rs;subst ers;cases t with
     | false=>
      rw[Sv (by simp)] at e7;refine Mb ?_;exact⟨ob5,h4,vs,as,bs,T2.trans T25.toCh,λb hb=>(T25.res b (hsub b hb)).trans (rs2 b hb),R4.mono T5,S5,(T25.res l Sk).trans hl2,l2.mono T25.toCh,eo,e7⟩
     | true=>
      rw[Si rfl] at e7;refine Ma ?_;obtain⟨⟨y,h6⟩,e8,e9⟩:=bw e7;obtain⟨⟨zs,h7⟩,e10,e11⟩:=gB e9;cases e11;refine⟨⟨ob5,l::ρ1.rs⟩,δ3,h4,y,h6,R4.mono T5,S5,e8,λu H6 ⟨ρ6,T6,S6,r6⟩=>?_⟩;have T26:cT ⟨ob2,l::ρ1.rs⟩ H2 ρ6 H6:=T25.trans T6;obtain⟨ob6,rs6⟩:=ρ6;have ers:rs6=l::ρ1.rs:=T26.rs;subst ers;have hl6:H6 l=some (.lst vs):=(T26.res l Sk).trans hl2;have hml:l∈(⟨ob6,l::ρ1.rs⟩:Ad).rs:=Sk;have hlen:vs.length < sizeLine:=by
       have h1:=l2.length;have h2:=congrArg List.length eo;rw[Sn,Sf] at h2
       lia
      have Cp:Ch ⟨ob6,l::ρ1.rs⟩ H6 ⟨ob6,l::ρ1.rs⟩ (upd H6 l (.lst (vs++[u]))):=Ch.put hml;refine⟨vs,hl6,hlen,ob6,h6,vs++[u],as++[y],zs,(T2.trans T26.toCh).trans Cp,λb hb=>?_,((R4.mono T5.toCh).mono T6.toCh).mono Cp,S6.put hml,aO,((l2.mono T26.toCh).snoc r6).mono Cp,by rw[eo];simp,e10⟩;rw[az (λ(z:b=l)=>nl (.inr (z ▸ hb)))];exact(T26.res b (hsub b hb)).trans (rs2 b hb)
   ·rw[Sv hc] at e3;cases e3
 ·rw[Sv hz] at e3;cases e3
end
end Sm
namespace Sm
open PySem L2 PySem.Spec PyProof.Rows
section
variable {X:Cx} {a b c e tg iter elt:Expr} {es:List Expr} {pos:Pos} {ma mb:EM} {mt:TM} {ms mu:SM} {m:AM} {g:GM} {gs:G9}
theorem gL(C:bp X N' caps scope)(hc:X.calm=true)(hi:SI X tg iter mi)(hg:∀C s₃ H₃ fp pl,SG (gF X N' scope C s₃ H₃ fp pl) tg g)(hif:∀C s₃ H₃ fp pl,MW (gF X N' scope C s₃ H₃ fp pl) ifs mt)(he:∀C s₃ H₃ fp pl,SE (gF X N' scope C s₃ H₃ fp pl) elt ma)(hs:∀x,foldedSetIterable iter X.env x=pure x:=by intro _;ac_nf):
  SE X (.ListComp elt [⟨tg,iter,ifs,0⟩] scope pos) (fX (cI caps mi g mt ma)):=(Fg (g:=G0 X.K g) (tc:=DI X.K mt) (te:=tM X.K ma) C hc hi hg hif he hs).imp λ_ _ _=>Bq
theorem iO(hN:X.N.Nodup)(hi':X.N[i]?=some y)(hy:X.env.scope.names.lookup y=some .local)(C:bp X N' caps scope)(hc:X.calm=true)(hi:SI X tg iter mi)(hg:∀C s₃ H₃ fp pl,SG (gF X N' scope C s₃ H₃ fp pl) tg g)(hif:∀C s₃ H₃ fp pl,MW (gF X N' scope C s₃ H₃ fp pl) ifs mt)(he:∀C s₃ H₃ fp pl,SE (gF X N' scope C s₃ H₃ fp pl) elt ma)(hsw:swapsWith (.ListComp elt [⟨tg,iter,ifs,0⟩] scope pos) (some (.Name y py)) spos.line X.env=pure true:=by ac_nf)(hs:∀x,foldedSetIterable iter X.env x=pure x:=by intro _;ac_nf):
  SS X (.Assign [.Name y py] (.ListComp elt [⟨tg,iter,ifs,0⟩] scope pos) spos) (aV i (fX (cI caps mi g mt ma))):=
 (E4 (g:=G0 X.K g) (tc:=DI X.K mt) (te:=tM X.K ma) hN hi' hy C hc hi hg hif he hsw hs).imp λE σ H hh=>by
  have q:=EI hh;exact Bq q
end
inductive Px(K:FR)(n:Nat)(F:Fn)(vs:List V)(H:Hp)(Q:VK):Prop where
 | mk (ρ h ds d h'):bN K ρ h H->aG K ρ H vs ds->(ds.length=n)->(F ds h=some (d,h'))->(∀v H',dy K ρ H h' d v H'->Q v H')->Px K n F vs H Q
def Cv(K:FR)(n:Nat)(F:Fn):Sp:=λvs H Q _=>Px K n F vs H Q
theorem Hy(G:eS X.prog X.w X.K X.mg X.base nU k f fd ps (Cv X.K n F))(hr:cL k X.A)(hg:Gl X x)(hm:X.mg x=some (.ref f))(hk:PySem.W.keepIn X.K (.ref f)=true)(hb:Binds X.K fd ps [])
  (ha:SA X (e::es) m) (hl:kG m n) (hdb:(x==("__debug__":Str))=false:=by ac_nf) (he:starEach (e::es) X.env=(false,eval e X.env)::starEach es X.env:=by ac_nf) (hpl:(backTo pos (starEach es X.env)).any (·.1)=false:=by ac_nf):
  SE X (.Call (.Name x p) (e::es) [] pos) (ax F m):=(Bz (E:=E0) G hr hg hm hk hb .nil Om ha hdb he hpl).imp λσ H Q ⟨ρ,δ,h,d,h',R,S,e,q⟩=>by
 obtain⟨⟨ds,h1⟩,e1,e2⟩:=bw e;refine⟨ρ,δ,h,ds,h1,R,S,e1,λvs ρ1 H1 T1 S1 r1=>?_⟩;show Cv X.K n F (vs++[]) H1 Q E0;rw[Tw];exact⟨ρ1,h1,ds,d,h',S1,r1,hl _ _ _ _ e1,e2,λv H' P=>q v H' (P.step T1)⟩
noncomputable def yj(r:Fl×DS×MH):Option (D×MH):=match r.1 with
 | .rt d=>some (d,r.2.2)
 | .nx=>some (.cq,r.2.2)
 | _=>none
noncomputable def entry(len:Nat)(ds:List D):DS:=ds.map some++List.replicate (len-ds.length) none
noncomputable def jJ(len:Nat)(body:SM):Fn:=λds h=>(body (entry len ds) h).bind yj
theorem cy.entry{K:FR}{ρ:Ad}{H:Hp}{vs:List V}{ds:List D}(N:List Str)(l:aG K ρ H vs ds):cy K ρ H (L2.start N vs) (Sm.entry N.length ds):=by
 refine⟨by simp[L2.start,Sm.entry,l.length],λi d hd=>?_⟩;unfold Sm.entry at hd;unfold L2.start
 by_cases hi:i < ds.length
 ·rw[Sx (by simpa using hi),SK] at hd;obtain⟨d',e1,e2⟩:=gB hd;cases e2;obtain⟨v,ev,r⟩:=l.got e1;refine⟨v,?_,r⟩;rw[Sx (by rw[R9,l.length];exact hi),SK,ev];rfl
 ·rw[SD (by simpa using hi),VX] at hd
  split at hd <;> cases hd
section
variable {P:Program} {w:World} {K:FR} {mg:Str->Option Value} {base:Heap} {x qual:Str} {st:Stmt} {f:Addr} {fd:FuncData} {N ps:List Str} {k:Nat}
theorem Mg(F:t9 K x qual st f fd)(Sc:aD N ps (ak st))(hb:∀(cdv:Value)(A:Around)(outer:List Env)(s:Shared)(H:Hp)(E:XK),cL k (A.deeper (envOfC qual (ak st) s.heap.objs.size f cdv))->DF (fm nU P w K mg base N qual (ak st) f cdv A outer s H E).FC (dq st) body):
  eS P w K mg base nU (k+1) f fd ps (Cv K ps.length (jJ N.length body)):=by
 refine F.ok Sc (λvs H Q E h=>?_) (λcdv A outer s H vs Q E hr h=>?_)
 ·obtain⟨ρ,h,ds,d,h',S,r,hl,_⟩:=h;rw[r.length];exact hl
 ·obtain⟨ρ,h,ds,d,h',S,r,hl,e,q⟩:=h;refine⟨_,hb cdv A outer s H E hr,?_⟩;obtain⟨⟨fl,δ1,h1⟩,e1,e2⟩:=bw e;refine⟨ρ,entry N.length ds,h,fl,δ1,h1,cy.entry N r,S,e1,λρ1 H1 T1 S1=>?_⟩;cases fl with
  | nx=>cases e2;exactλσ' R'=>q _ _ ⟨ρ1,T1,S1,.cq⟩
  | rt d=>cases e2;exactλv r=>q _ _ ⟨ρ1,T1,S1,r⟩
  | bk=>cases e2
  | ct=>cases e2
end
mutual
noncomputable def hV(n:Nat):D->Bool
 | .tup xs=>fJ n xs
 | .lv xs=>fJ n xs
 | .ro xs=>fJ n xs
 | .dv kvs=>Jf n kvs
 | .ob m=>decide (m < n)
 | _=>true
noncomputable def fJ(n:Nat):List D->Bool
 | []=>true
 | x::r=>hV n x&&fJ n r
noncomputable def Jf(n:Nat):List (Key×D)->Bool
 | []=>true
 |(_,x)::r=>hV n x&&Jf n r
end
noncomputable def zH(n:Nat):MO->Bool
 | .lst xs=>fJ n xs
 | .dct kvs=>Jf n kvs
 | .dcH kvs=>fJ n (kvs.map (·.1))&&fJ n (kvs.map (·.2))
 | .exc _=>true
abbrev Ad.cut(ρ:Ad)(n:Nat):Ad:=⟨ρ.ob.take n,ρ.rs⟩
theorem Ad.kB{ρ:Ad}{n:Nat}{a:Addr}(h:(ρ.cut n).has a):ρ.has a:=h.elim (λm=>.inl (V7 m)) .inr
mutual
theorem Rep.cut{K:FR}{ρ:Ad}{H:Hp}{n:Nat}{v:V}{d:D}(r:Rep K ρ H v d)(c:hV n d=true):Rep K (ρ.cut n) H v d:=by
 cases r with
 | cq=>exact .cq
 | bl b=>exact .bl b
 | int i=>exact .int i
 | str x=>exact .str x
 | ty n=>exact .ty n
 | tup h l=>exact .tup (h.elim (λ⟨a,n⟩=>.inl ⟨a,λm=>n (Ad.kB m)⟩) .inr) (aG.cut l c)
 | lv h n l=>exact .lv h (λm=>n (Ad.kB m)) (aG.cut l c)
 | ro h l=>exact .ro (h.elim (λ⟨a,n⟩=>.inl ⟨a,λm=>n (Ad.kB m)⟩) .inr) (aG.cut l c)
 | dv h n l=>exact .dv h (λm=>n (Ad.kB m)) (bJ.cut l c)
 | ob e=>exact .ob ((Tg (Tv c)).trans e)
theorem aG.cut{K:FR}{ρ:Ad}{H:Hp}{n:Nat}{v:List V}{d:List D}(r:aG K ρ H v d)(c:fJ n d=true):aG K (ρ.cut n) H v d:=by
 cases r with
 | nil=>exact .nil
 | cons r l=>have c:=SU.mp c;exact .cons (Rep.cut r c.1) (aG.cut l c.2)
theorem bJ.cut{K:FR}{ρ:Ad}{H:Hp}{n:Nat}{v:List (Key×V)}{d:List (Key×D)}(r:bJ K ρ H v d)(c:Jf n d=true):bJ K (ρ.cut n) H v d:=by
 cases r with
 | nil=>exact .nil
 | cons r l=>have c:=SU.mp c;exact .cons (Rep.cut r c.1) (bJ.cut l c.2)
end
mutual
theorem Rep.clean{K:FR}{ρ:Ad}{H:Hp}{v:V}{d:D}(r:Rep K ρ H v d):hV ρ.ob.length d=true:=by
 cases r with
 | tup h l=>exact aG.clean l
 | lv h n l=>exact aG.clean l
 | ro h l=>exact aG.clean l
 | dv h n l=>exact bJ.clean l
 | ob e=>exact Tb (Se.mp e).1
 | _=>rfl
theorem aG.clean{K:FR}{ρ:Ad}{H:Hp}{v:List V}{d:List D}(r:aG K ρ H v d):fJ ρ.ob.length d=true:=by
 cases r with
 | nil=>rfl
 | cons r l=>exact SU.mpr ⟨Rep.clean r,aG.clean l⟩
theorem bJ.clean{K:FR}{ρ:Ad}{H:Hp}{v:List (Key×V)}{d:List (Key×D)}(r:bJ K ρ H v d):Jf ρ.ob.length d=true:=by
 cases r with
 | nil=>rfl
 | cons r l=>exact SU.mpr ⟨Rep.clean r,bJ.clean l⟩
end
theorem Cb.cut{K:FR}{ρ:Ad}{H:Hp}{n:Nat}{a:Addr}{o:MO}(x:Cb K ρ H a o)(c:zH n o=true):Cb K (ρ.cut n) H a o:=by
 cases o with
 | lst ds=>obtain⟨vs,e,l⟩:=x;exact⟨vs,e,l.cut c⟩
 | dct ds=>obtain⟨vs,e,l⟩:=x;exact⟨vs,e,l.cut c⟩
 | dcH ds=>obtain⟨us,ps,e,l,l2,p⟩:=x;have c:=SU.mp c;exact⟨us,ps,e,l.cut c.1,l2.cut c.2,p⟩
 | exc _=>exact x
theorem Cb.clean{K:FR}{ρ:Ad}{H:Hp}{a:Addr}{o:MO}(x:Cb K ρ H a o):zH ρ.ob.length o=true:=by
 cases o with
 | lst ds=>obtain⟨vs,e,l⟩:=x;exact l.clean
 | dct ds=>obtain⟨vs,e,l⟩:=x;exact l.clean
 | dcH ds=>obtain⟨us,ps,e,l,l2,p⟩:=x;exact SU.mpr ⟨l.clean,l2.clean⟩
 | exc _=>rfl
noncomputable def zP(n:Nat)(h:MH)(d:D):D:=match d with
 | .ob m=>if m < n then .ob m else match h[m]? with
  | some (.lst xs)=>.lv xs
  | some (.dct kvs)=>.dv kvs
  | _=>.ob m
 | d=>d
noncomputable def leave(h:MH)(d:D)(h':MH):Option (D×MH):=
 if hV h.length (zP h.length h' d)&&(xP (h'.take h.length) h||(h'.take h.length).all (zH h.length)) then some (zP h.length h' d,h'.take h.length) else none
noncomputable def G3(len:Nat)(body:SM):Fn:=λds h=>((body (entry len ds) h).bind yj).bind λp=>leave h p.1 p.2
theorem dy.leave{K:FR}{ρ:Ad}{H H':Hp}{h h1 h':MH}{d d':D}{v:V}(S:bN K ρ h H)(p:dy K ρ H h1 d v H')(e:Sm.leave h d h1=some (d',h')):dy K ρ H h' d' v H':=by
 obtain⟨ρ1,T,S1,r⟩:=p;unfold Sm.leave at e
 by_cases hc:(hV h.length (zP h.length h1 d)&&(xP (h1.take h.length) h||(h1.take h.length).all (zH h.length)))=true
 ·rw[Si hc] at e;cases e;rw[Tf] at hc;obtain⟨c1,c2⟩:=hc;have hle:h.length<=h1.length:=by
   rw[<-S.len,<-S1.len];refine Uw λhlt=>?_;have e1:ρ.ob[ρ1.ob.length]?=some ρ.ob[ρ1.ob.length]:=SN hlt;have:=(Se.mp (T.pre _ _ e1)).1
   lia
  have hall:∀(m:Nat) o,m < h.length->h1[m]?=some o->zH h.length o=true:=by
   intro m o hm ho;rw[U0] at c2;rcases c2 with c2 | c2
   ·have e1:=B7 c2;have e2:h[m]?=some o:=by rw[<-e1,Tg hm];exact ho
    have hm':m < ρ.ob.length:=by rw[S.len];exact hm
    have:=(S.at_ m _ o (SN hm') e2).clean;rw[S.len] at this;exact this
   ·rw[US] at c2;exact c2 o (Sd (show(h1.take h.length)[m]?=some o by rw[Tg hm];exact ho))
  have Sc:bN K (ρ1.cut h.length) (h1.take h.length) H':=by
   refine⟨by simp[S1.len],S1.nd.sublist (Wu _ _),λn a o e1 e2=>?_,λb hb=>⟨(S1.t6 b hb).1,λm=>(S1.t6 b hb).2 (V7 m)⟩,λP t=>⟨λz=>(S1.tb P t).1 (Ad.kB z),(S1.tb P t).2⟩⟩;have hn:n < h.length:=by
    have:=(Se.mp e2).1;rw[SO] at this
    lia
   have e1:(ρ1.ob.take h.length)[n]?=some a:=e1;rw[Tg hn] at e1 e2;exact(S1.at_ n a o e1 e2).cut (hall n o hn e2)
  refine⟨ρ1.cut h.length,⟨⟨λn a e=>?_,λb o n e=>?_⟩,T.rs,T.res⟩,Sc,?_⟩
  ·have hn:n < h.length:=by rw[<-S.len];exact(Se.mp e).1
   show(ρ1.ob.take h.length)[n]?=some a;rw[Tg hn];exact T.pre n a e
  ·obtain⟨n1,e1⟩:=T.old b o n e;exact⟨λm=>n1 (Ad.kB m),e1⟩
  ·cases d with
   | ob m=>
    unfold zP at c1 ⊢;dsimp only at c1 ⊢
    by_cases hm:m < h.length
    ·rw[Si hm] at c1 ⊢;exact r.cut c1
    ·rw[Sv hm] at c1 ⊢;cases r with
     | ob hn=>
      rename_i a;have na:¬(ρ1.cut h.length).has a:=by
       intro z;rcases z with z | z
       ·obtain⟨j,hj⟩:=V8 z;have hj1:j < h.length:=by
         have:=(Se.mp hj).1;rw[SO] at this
         lia
        rw[Tg hj1] at hj;have:=(Xz (Se.mp hj).1 S1.nd).mp (hj.trans hn.symm)
        lia
       ·exact(S1.t6 a z).2 (Sd hn)
      cases q:h1[m]? with
      | none=>rw[q] at c1;exact absurd c1 (by simp[hV];lia)
      | some o=>
       have x:=S1.at_ m a o hn q;cases o with
       | lst xs=>
        rw[q] at c1;obtain⟨vs,e1,l⟩:=x;exact .lv e1 na (l.cut (by simpa [hV] using c1))
       | dct xs=>
        rw[q] at c1;obtain⟨vs,e1,l⟩:=x;exact .dv e1 na (l.cut (by simpa [hV] using c1))
       | dcH xs=>rw[q] at c1;exact absurd c1 (by simp[hV];lia)
       | exc _=>rw[q] at c1;exact absurd c1 (by simp[hV];lia)
   | _=>exact r.cut c1
 ·rw[Sv hc] at e;cases e
section
variable {P:Program} {w:World} {K:FR} {mg:Str->Option Value} {base:Heap} {x qual:Str} {st:Stmt} {f:Addr} {fd:FuncData} {N ps:List Str} {k:Nat}
theorem fG(G:eS P w K mg base nU k f fd ps (Cv K ps.length (jJ N.length body))):eS P w K mg base nU k f fd ps (Cv K ps.length (G3 N.length body)):=by
 refine G.imp λvs H Q E hh=>?_;obtain⟨ρ,h,ds,d,h',S,r,hl,e,q⟩:=hh;obtain⟨⟨d1,h1⟩,e1,e2⟩:=bw e;exact⟨ρ,h,ds,d1,h1,S,r,hl,e1,λv H' p=>q v H' (p.leave S e2)⟩
end
def spT(K:FR):Sp:=λvs H Q _=>∃(a:Addr)(ns:List Int),vs=[.ref a]/\gH K H a (ns.map V.int)/\ns.length<=63/\(∀b,iH K b->H b=some .tb)/\∀H',(∀b,iH K b->H' b=some .tb)->Q (.bl true) H'
theorem IE{P:Program}{w:World}{K:FR}{mg:Str->Option Value}{base:Heap}{k:Nat}{f:Addr}{fd:FuncData}{ps:List Str}{F:Fn}(G:eS P w K mg base nU k f fd ps (Cv K 1 F))
  (hF:∀ns:List Int,ns.length<=63->∃h',F [.ro (ns.map D.int)] []=some (.bl true,h')):eS P w K mg base nU k f fd ps (spT K):=by
 refine G.imp λvs H Q E hh=>?_;obtain⟨a,ns,rfl,ha,hl,ht,q⟩:=hh;obtain⟨h',e⟩:=hF ns hl;refine⟨⟨[],[]⟩,[],[.ro (ns.map D.int)],.bl true,h',⟨rfl,List.nodup_nil,λn a o e=>by simp at e,λb hb=>absurd hb (by simp),λP t=>⟨λz=>z.elim (λz=>absurd z (by simp)) λz=>absurd z (by simp),ht P t⟩⟩,.cons (.ro ?_ (ot ns)) .nil,rfl,e,λv H' ⟨ρ',T,S,r⟩=>?_⟩
 ·rcases ha with ha | ha
  ·exact .inl ⟨ha,λz=>z.elim (λz=>absurd z (by simp)) λz=>absurd z (by simp)⟩
  ·exact .inr (.inr ha)
 ·cases r;exact q H' λb t=>(S.tb b t).2
noncomputable def Bt(h:MH)(d:D):Option PyData:=match d with
 | .ob n=>match h[n]? with
  | some (.lst xs)=>(mG xs).map .list
  | _=>none
 | d=>vc d
mutual
theorem Rep.uu{K:FR}{ρ:Ad}{H:Hp}{v:V}{d:D}{p:PyData}(r:Rep K ρ H v d)(e:vc d=some p):DM K H v p/\p.canLay0=true:=by
 cases r with
 | cq=>cases e;exact⟨.cq,rfl⟩
 | bl b=>cases e;exact⟨.bl b,rfl⟩
 | int i=>cases e;exact⟨.int i,rfl⟩
 | str hs=>cases e;exact⟨.str _,by simpa [PyData.canLay0] using hs⟩
 | tup h l=>obtain⟨q,e1,rfl⟩:=gB e;obtain⟨a,b⟩:=aG.uu l e1;exact⟨.tup h.sq a,by simpa [PyData.canLay0] using b⟩
 | lv h n l=>obtain⟨q,e1,rfl⟩:=gB e;obtain⟨a,b⟩:=aG.uu l e1;exact⟨.lst (gH.of h) a,by simpa [PyData.canLay0] using b⟩
 | ro h l=>obtain⟨q,e1,rfl⟩:=gB e;obtain⟨a,b⟩:=aG.uu l e1;exact⟨.lst h.sq a,by simpa [PyData.canLay0] using b⟩
 | _=>exact b7 e
theorem aG.uu{K:FR}{ρ:Ad}{H:Hp}{v:List V}{d:List D}{p:List PyData}(r:aG K ρ H v d)(e:mG d=some p):tY K H v p/\PyData.canLayAll0 p=true:=by
 cases r with
 | nil=>cases e;exact⟨.nil,rfl⟩
 | cons r l=>
  obtain⟨a,e1,e2⟩:=bw e;obtain⟨b,e3,rfl⟩:=gB e2;obtain⟨a1,a2⟩:=Rep.uu r e1;obtain⟨b1,b2⟩:=aG.uu l e3;exact⟨.cons a1 b1,by simp[PyData.canLayAll0,a2,b2]⟩
end
section
variable {K:FR} {ρ:Ad} {H:Hp} {h:MH} {v:V} {d:D}
theorem mF(S:bN K ρ h H)(r:Rep K ρ H v d)(e:Bt h d=some p):DM K H v p/\p.canLay0=true:=by
 cases r with
 | @ob a n hn=>
  unfold Bt at e;dsimp only at e;cases q:h[n]? with
  | none=>rw[q] at e;cases e
  | some o=>
   rw[q] at e;cases o with
   | dct _=>exact b7 e
   | dcH _=>exact b7 e
   | exc _=>exact b7 e
   | lst xs=>
    obtain⟨vs,e1,l⟩:=S.at_ n a _ hn q;obtain⟨b,e3,e4⟩:=gB e;subst e4;obtain⟨b1,b2⟩:=l.uu e3;exact⟨.lst (gH.of e1) b1,by simpa [PyData.canLay0] using b2⟩
 | cq=>exact Rep.uu (Rep.cq (ρ:=ρ)) e
 | bl b=>exact Rep.uu (Rep.bl (ρ:=ρ) b) e
 | int i=>exact Rep.uu (Rep.int (ρ:=ρ) i) e
 | str x=>exact Rep.uu (Rep.str (ρ:=ρ) x) e
 | ty n=>exact Rep.uu (Rep.ty (ρ:=ρ) n) e
 | tup h l=>exact Rep.uu (.tup h l) e
 | lv h n l=>exact Rep.uu (.lv h n l) e
 | ro h l=>exact Rep.uu (.ro h l) e
 | dv h n l=>exact Rep.uu (.dv h n l) e
noncomputable def dR(d:D)(h:MH):Option (List D):=match d with
 | .lv xs=>some xs
 | .ob n=>match h[n]? with
  | some (.lst xs)=>some xs
  | _=>none
 | _=>none
theorem dI(S:bN K ρ h H)(r:Rep K ρ H v d)(e:dR d h=some xs):∃a vs,v=.ref a/\H a=some (.lst vs)/\aG K ρ H vs xs:=by
 cases r with
 | @ob a n hn=>
  unfold dR at e;dsimp only at e;cases q:h[n]? with
  | none=>rw[q] at e;cases e
  | some o=>
   rw[q] at e;cases o with
   | dct _=>exact b7 e
   | dcH _=>exact b7 e
   | exc _=>exact b7 e
   | lst ys=>
    cases e;obtain⟨vs,e1,l⟩:=S.at_ n a _ hn q;exact⟨a,vs,rfl,e1,l⟩
 | lv h n l=>cases e;exact⟨_,_,rfl,h,l⟩
 | _=>exact b7 e
noncomputable def eA(d:D)(h:MH):Option (List (Key×D)):=match d with
 | .dv kvs=>some kvs
 | .ob n=>match h[n]? with
  | some (.dct kvs)=>some kvs
  | _=>none
 | _=>none
theorem i0(S:bN K ρ h H)(r:Rep K ρ H v d)(e:eA d h=some xs):∃a vs,v=.ref a/\H a=some (.dK vs)/\bJ K ρ H vs xs:=by
 cases r with
 | @ob a n hn=>
  unfold eA at e;dsimp only at e;cases q:h[n]? with
  | none=>rw[q] at e;cases e
  | some o=>
   rw[q] at e;cases o with
   | lst _=>exact b7 e
   | dcH _=>exact b7 e
   | exc _=>exact b7 e
   | dct ys=>
    cases e;obtain⟨vs,e1,l⟩:=S.at_ n a _ hn q;exact⟨a,vs,rfl,e1,l⟩
 | dv h n l=>cases e;exact⟨_,_,rfl,h,l⟩
 | _=>exact b7 e
theorem lV(S:bN K ρ h H)(r:Rep K ρ H v d)(e:dP d h=some (xs,ws)):∃a vs,v=.ref a/\(gH K H a vs\/kF K H a vs)/\aG K ρ H vs xs:=by
 obtain⟨a,e1,⟨vs,q,l⟩,_⟩:=rq S r e;refine⟨a,vs,e1,?_,l⟩;generalize AF d=b at q;cases q with
 | l q=>exact .inl q
 | t q=>exact .inr q
noncomputable def xm:D->Option Key
 | .int i=>some (.inl i)
 | .str x=>some (.inr x)
 | _=>none
noncomputable def qh(kvs:List (Key×D))(k:Key):Option D:=(kvs.find? λkv=>decide (kv.1=k)).map (·.2)
noncomputable def putD(kvs:List (Key×D))(k:Key)(v:D):List (Key×D):=
 if(kvs.any λkv=>decide (kv.1=k))=true then kvs.map (λkv=>if kv.1=k then(kv.1,v) else kv) else kvs++[(k,v)]
theorem kl(r:Rep K ρ H v d)(e:xm d=some k):v=kV k:=by
 cases r with
 | int i=>cases e;rfl
 | str x=>cases e;rfl
 | _=>exact b7 e
theorem bJ.val:∀{us:List (Key×V)} {kvs:List (Key×D)} (k:Key),bJ K ρ H us kvs->(qh kvs k=none/\jh us k=none)\/∃d v,qh kvs k=some d/\jh us k=some v/\Rep K ρ H v d:=by
 intro us
 induction us with
 | nil=>intro kvs k a;cases a;exact .inl ⟨rfl,rfl⟩
 | cons u us ih=>
  intro kvs k a;cases a with | @cons j v _ d ds r l=>
  by_cases z:j=k
  ·exact .inr ⟨d,v,by simp[qh,z],by simp[jh,z],r⟩
  ·have h1:qh ((j,d)::ds) k=qh ds k:=by simp only[qh,UZ,z,decide_false]
   have h2:jh ((j,v)::us) k=jh us k:=lS z;rw[h1,h2];exact ih k l
theorem bJ.length:∀{us:List (Key×V)} {kvs:List (Key×D)},bJ K ρ H us kvs->us.length=kvs.length:=by
 intro us
 induction us with
 | nil=>intro kvs a;cases a;rfl
 | cons u us ih=>intro kvs a;cases a with | cons _ l=>rw[Sf,Sf,ih l]
theorem bJ.any(k:Key):∀{us:List (Key×V)} {kvs:List (Key×D)},bJ K ρ H us kvs->(us.any λkv=>decide (kv.1=k))=(kvs.any λkv=>decide (kv.1=k))
 | _,_,.nil=>rfl
 | _,_,.cons _ l=>by rw[U1,U1,bJ.any k l]
theorem bJ.map(r:Rep K ρ H v d):∀{us:List (Key×V)} {kvs:List (Key×D)},bJ K ρ H us kvs->bJ K ρ H (us.map λkv=>if kv.1=k then(kv.1,v) else kv) (kvs.map λkv=>if kv.1=k then(kv.1,d) else kv)
 | _,_,.nil=>.nil
 | _,_,.cons (k:=j) q l=>by
  rw[Sl,Sl]
  by_cases z:j=k
  ·rw[Si z,Si z];exact .cons r (bJ.map r l)
  ·rw[Sv z,Sv z];exact .cons q (bJ.map r l)
theorem bJ.append:∀{us vs:List (Key×V)} {ks ls:List (Key×D)},bJ K ρ H us ks->bJ K ρ H vs ls->bJ K ρ H (us++vs) (ks++ls):=by
 intro us vs
 induction us with
 | nil=>intro ks ls a t;cases a;exact t
 | cons u us ih=>intro ks ls a t;cases a with | cons r l=>exact .cons r (ih l t)
theorem bJ.put(l:bJ K ρ H us kvs)(r:Rep K ρ H v d):bJ K ρ H (putK us k v) (putD kvs k d):=by
 unfold putK putD;rw[l.any k]
 by_cases z:(kvs.any λkv=>decide (kv.1=k))=true
 ·rw[Si z,Si z];exact l.map r
 ·rw[Sv z,Sv z];exact l.append (.cons r .nil)
end
noncomputable def uI(d e:D)(h:MH):Option (D×MH):=match d,e with
 | .int i,.int j=>some (.int (i+j),h)
 | .str a,.str b=>if a.length+b.length<=sizeLine then some (.str (a++b),h) else none
 | .tup [],.tup _=>none
 | .tup (x::xs),.tup ys=>if xs.length+1+ys.length<=sizeLine then some (.tup (x::xs++ys),h) else none
 | d,e=>(dR d h).bind λxs=>(dR e h).bind λys=>if xs.length+ys.length<=sizeLine then some (.lv (xs++ys),h) else none
noncomputable def xt(d e:D)(h:MH):Option (D×MH):=match d,e with
 | .int i,.int j=>some (.int (i-j),h)
 | _,_=>none
noncomputable def mW(i j:Int):Bool:=(decide (-(2^64) < i)&&decide (i < 2^64))||(decide (-(2^64) < j)&&decide (j < 2^64))
noncomputable def Mk(d e:D)(h:MH):Option (D×MH):=match d,e with
 | .int i,.int j=>if mW i j then some (.int (i*j),h) else none
 | _,_=>none
noncomputable def sX(d e:D)(h:MH):Option (D×MH):=match d,e with
 | .int i,.int j=>if 0 < j then some (.int (i % j),h) else none
 | _,_=>none
noncomputable def xx(d e:D)(h:MH):Option (D×MH):=match d,e with
 | .int i,.int j=>if 0 < j/\j<=10^40 then some (.int (i / j),h) else none
 | _,_=>none
noncomputable def IU(d e:D)(h:MH):Option (D×MH):=match d,e with
 | .int i,.int j=>if 0<=j/\j<=1000000/\i.natAbs < 2^64 then some (.int (i^j.toNat),h) else none
 | _,_=>none
noncomputable def Gx(f:Int->Int->Bool)(d e:D)(h:MH):Option (D×MH):=match d,e with
 | .int i,.int j=>some (.bl (f i j),h)
 | _,_=>none
noncomputable def F9:=Gx λi j=>decide (i < j)
noncomputable def Gb:=Gx λi j=>decide (i<=j)
noncomputable def t7:=Gx λi j=>decide (j < i)
noncomputable def IY:=Gx λi j=>decide (j<=i)
noncomputable def JS(d e:D)(h:MH):Option Bool:=(Bt h d).bind λa=>(Bt h e).bind λb=>if a.depth<=64/\b.depth<=64 then some (PyData.eqv a b) else none
noncomputable def Rw:D->Bool
 | .cq=>true
 | _=>false
noncomputable def Ml(d e:D)(h:MH):Option (D×MH):=match e with
 | .cq=>some (.bl (Rw d),h)
 | _=>none
noncomputable def iL(d:D)(h:MH):Option (D×MH):=match d with
 | .int i=>some (.int (-i),h)
 | _=>none
noncomputable def inD(d e:D)(h:MH):Option Bool:=match eA e h with
 | some kvs=>(xm d).map λk=>(qh kvs k).isSome
 | none=>match d,e with
  | .str x,.str y=>some (!(Builtin.Str.occurrences y x 0 y.length 1).isEmpty)
  | d,e=>(dP e h).bind λp=>(Bt h d).bind λa=>(mG p.1).bind λbs=>if a.depth<=60/\PyData.depthAll bs<=60 then some (bs.any λb=>PyData.eqv b a) else none
noncomputable def M8(d e:D)(h:MH):Option (D×MH):=(inD d e h).map λc=>(.bl c,h)
noncomputable def oO(d e:D)(h:MH):Option (D×MH):=(inD d e h).map λc=>(.bl (!c),h)
noncomputable def aT(d e:D)(h:MH):Option (D×MH):=match eA d h with
 | some kvs=>(xm e).bind λk=>(qh kvs k).map λz=>(z,h)
 | none=>match d,e with
  | .str z,.int i=>if z.length<=sizeLine then(gG z.cps.toList i).map λc=>(.str ⟨#[c]⟩,h) else none
  | d,.int i=>(dP d h).bind λp=>(gG p.1 i).map λz=>(z,h)
  | _,_=>none
theorem jx{K:FR}{ρ:Ad}{H:Hp}{x:V}{i:Int}(r:Rep K ρ H x (.int i)):x=.int i:=by cases r;rfl
theorem Ab{K:FR}{ρ:Ad}{H:Hp}{x:V}{i:Str}(r:Rep K ρ H x (.str i)):x=.str i/\PyData.strOk i=true:=by cases r with | str h=>exact⟨rfl,h⟩
theorem EH{K:FR}{ρ:Ad}{H:Hp}{x:V}{ds:List D}(r:Rep K ρ H x (.tup ds)):∃a vs,x=.ref a/\TupAt K ρ H a vs/\aG K ρ H vs ds:=by cases r with | tup h l=>exact⟨_,_,rfl,h,l⟩
theorem wX(ho:nQ X g (rI C q))(hf:∀d e h z h',f d e h=some (z,h')->∃i j,d=.int i/\e=.int j/\C i j/\h'=h/\∀ρ H,Rep X.K ρ H (q i j) z):lR X g f:=by
 intro pins s σ H x y v u Q I rx ry hh;obtain⟨ρ,h,d,e,z,h',S,rd,re,ee,k⟩:=hh;obtain⟨i,j,rfl,rfl,c,rfl,rz⟩:=hf _ _ _ _ _ ee;obtain rfl:=jx rd;obtain rfl:=jx re;exact ho pins s σ H _ _ v u Q I rx ry ⟨i,j,rfl,rfl,c,k _ _ (.here S (rz _ _))⟩
theorem mR(ho:nQ X g (HG q))(hf:∀d e h z h',f d e h=some (z,h')->∃i j,d=.int i/\e=.int j/\h'=h/\∀ρ H,Rep X.K ρ H (q i j) z):lR X g f:=by
 intro pins s σ H x y v u Q I rx ry hh;obtain⟨ρ,h,d,e,z,h',S,rd,re,ee,k⟩:=hh;obtain⟨i,j,rfl,rfl,rfl,rz⟩:=hf _ _ _ _ _ ee;obtain rfl:=jx rd;obtain rfl:=jx re;exact ho pins s σ H _ _ v u Q I rx ry ⟨i,j,rfl,rfl,k _ _ (.here S (rz _ _))⟩
theorem Fs:lR X (binaryOp .Sub) xt:=mR Lz λd e h z h' ee=>by
 cases d <;> first |(exact b7 ee) | skip
 cases e <;> first |(exact b7 ee) | skip
 cases ee;exact⟨_,_,rfl,rfl,rfl,λ_ _=>.int _⟩
theorem Lv:lR X (binaryOp .Mult) Mk:=wX LC λd e h z h' ee=>by
 cases d <;> first |(exact b7 ee) | skip
 cases e <;> first |(exact b7 ee) | skip
 rename_i i j;unfold Mk at ee;dsimp only at ee
 by_cases c:mW i j=true
 ·rw[Si c] at ee;cases ee;refine⟨i,j,rfl,rfl,?_,rfl,λ_ _=>.int _⟩;unfold mW at c;simp only[U0,Tf,TB] at c;exact c
 ·rw[Sv c] at ee;cases ee
theorem sA:lR X (binaryOp .Mod) sX:=wX LD λd e h z h' ee=>by
 cases d <;> first |(exact b7 ee) | skip
 cases e <;> first |(exact b7 ee) | skip
 rename_i i j;unfold sX at ee;dsimp only at ee
 by_cases c:0 < j
 ·rw[Si c] at ee;cases ee;exact⟨i,j,rfl,rfl,c,rfl,λ_ _=>.int _⟩
 ·rw[Sv c] at ee;cases ee
theorem Am:lR X (binaryOp .FloorDiv) xx:=wX Fx λd e h z h' ee=>by
 cases d <;> first |(exact b7 ee) | skip
 cases e <;> first |(exact b7 ee) | skip
 rename_i i j;unfold xx at ee;dsimp only at ee
 by_cases c:0 < j/\j<=10^40
 ·rw[Si c] at ee;cases ee;exact⟨i,j,rfl,rfl,c,rfl,λ_ _=>.int _⟩
 ·rw[Sv c] at ee;cases ee
theorem Ft:lR X (binaryOp .Pow) IU:=wX LB λd e h z h' ee=>by
 cases d <;> first |(exact b7 ee) | skip
 cases e <;> first |(exact b7 ee) | skip
 rename_i i j;unfold IU at ee;dsimp only at ee
 by_cases c:0<=j/\j<=1000000/\i.natAbs < 2^64
 ·rw[Si c] at ee;cases ee;exact⟨i,j,rfl,rfl,c,rfl,λ_ _=>.int _⟩
 ·rw[Sv c] at ee;cases ee
theorem B1(ee:Gx f d e h=some (z,h')):∃i j,d=.int i/\e=.int j/\h'=h/\z=.bl (f i j):=by
 cases d <;> first |(exact b7 ee) | skip
 cases e <;> first |(exact b7 ee) | skip
 cases ee;exact⟨_,_,rfl,rfl,rfl,rfl⟩
theorem Fv:lR X (compareOp .Lt) F9:=mR Ot λd e h z h' ee=>by
 obtain⟨i,j,rfl,rfl,rfl,rfl⟩:=B1 ee;exact⟨i,j,rfl,rfl,rfl,λ_ _=>.bl _⟩
theorem yF:lR X (compareOp .LtE) Gb:=mR Ou λd e h z h' ee=>by
 obtain⟨i,j,rfl,rfl,rfl,rfl⟩:=B1 ee;exact⟨i,j,rfl,rfl,rfl,λ_ _=>.bl _⟩
theorem BC:lR X (compareOp .Gt) t7:=mR Ov λd e h z h' ee=>by
 obtain⟨i,j,rfl,rfl,rfl,rfl⟩:=B1 ee;exact⟨i,j,rfl,rfl,rfl,λ_ _=>.bl _⟩
theorem yG:lR X (compareOp .GtE) IY:=mR Ow λd e h z h' ee=>by
 obtain⟨i,j,rfl,rfl,rfl,rfl⟩:=B1 ee;exact⟨i,j,rfl,rfl,rfl,λ_ _=>.bl _⟩
theorem jk:Pf X (unaryOp .USub) (rU X.K iL):=by
 intro pins s σ H x v Q I rx hh;obtain⟨ρ,h,d,z,h',S,rd,ee,k⟩:=hh;cases rd <;> first |(exact b7 ee) | skip
 cases ee;exact Kp pins s σ H _ v Q I rx ⟨_,rfl,k _ _ (.here S (.int _))⟩
noncomputable def MD(d e:D)(h:MH):Option (D×MH):=(dR d h).bind λxs=>(dR e h).bind λys=>if xs.length+ys.length<=sizeLine then some (D.lv (xs++ys),h) else none
def PJ(d e:D)(h:MH)(p:D×MH):Prop:=(∃i j,d=.int i/\e=.int j)\/(∃a b,d=.str a/\e=.str b)\/(∃x xs ys,d=.tup (x::xs)/\e=.tup ys)\/MD d e h=some p
theorem xS{d e:D}{h:MH}{p:D×MH}(z:MD d e h=some p):PJ d e h p:=.inr (.inr (.inr z))
theorem Gd{d e:D}{h:MH}{p:D×MH}(ee:uI d e h=some p):PJ d e h p:=by
 cases d with
 | int i=>cases e with
  | int j=>exact .inl ⟨i,j,rfl,rfl⟩
  | _=>exact xS ee
 | str a=>cases e with
  | str b=>exact .inr (.inl ⟨a,b,rfl,rfl⟩)
  | _=>exact xS ee
 | tup xs=>cases e with
  | tup ys=>cases xs with
   | nil=>exact b7 ee
   | cons x xs=>exact .inr (.inr (.inl ⟨x,xs,ys,rfl,rfl⟩))
  | _=>cases xs <;> exact xS ee
 | _=>exact xS ee
theorem Lx:lR X (binaryOp .Add) uI:=by
 intro pins s σ H x y v u Q I rx ry hh;obtain⟨ρ,h,d,e,z,h',S,rd,re,ee,k⟩:=hh;have lists:((dR d h).bind λxs=>(dR e h).bind λys=>if xs.length+ys.length<=sizeLine then some (D.lv (xs++ys),h) else none)=some (z,h')->wpAny (model X.prog X.w) X.A (binaryOp .Add v u) (EP X pins σ Q) X.xe s:=by
  intro ee;obtain⟨xs,e1,e4⟩:=bw ee;obtain⟨ys,e2,e3⟩:=bw e4
  by_cases c:xs.length+ys.length<=sizeLine
  ·rw[Si c] at e3;cases e3;obtain⟨a,vs,rfl,ha,la⟩:=dI S rd e1;obtain⟨b,us,rfl,hb,lb⟩:=dI S re e2;exact Fz pins s σ H _ _ v u Q I rx ry ⟨a,b,vs,us,rfl,rfl,ha,hb,by rw[la.length,lb.length];exact c,λp hp=>k _ _ (.lv S (la.append lb) hp)⟩
  ·rw[Sv c] at e3;cases e3
 rcases(Gd ee:(∃i j,d=.int i/\e=.int j)\/(∃a b,d=.str a/\e=.str b)\/(∃x xs ys,d=.tup (x::xs)/\e=.tup ys)\/MD d e h=some (z,h')) with⟨i,j,rfl,rfl⟩ |⟨a,b,rfl,rfl⟩ |⟨x0,xs,ys,rfl,rfl⟩ | z
 ·cases ee;obtain rfl:=jx rd;obtain rfl:=jx re;exact LG pins s σ H _ _ v u Q I rx ry ⟨_,_,rfl,rfl,k _ _ (.here S (.int _))⟩
 ·unfold uI at ee;dsimp only at ee
  by_cases c:a.length+b.length<=sizeLine
  ·rw[Si c] at ee;cases ee;obtain⟨rfl,h1⟩:=Ab rd;obtain⟨rfl,h2⟩:=Ab re;exact An pins s σ H _ _ v u Q I rx ry ⟨a,b,rfl,rfl,c,k _ _ (.here S (.str (ic h1 h2)))⟩
  ·rw[Sv c] at ee;cases ee
 ·unfold uI at ee;dsimp only at ee
  by_cases c:xs.length+1+ys.length<=sizeLine
  ·rw[Si c] at ee;cases ee;obtain⟨a,vs,rfl,h1,l1⟩:=EH rd;obtain⟨b,us,rfl,h2,l2⟩:=EH re;refine Im pins s σ H _ _ v u Q I rx ry ⟨a,b,vs,us,rfl,rfl,h1.sq,h2.sq,?_,?_,λz=>?_,λ_ p hp=>k _ _ (.tup S (l1.append l2) hp)⟩
   ·intro z;rw[z] at l1;cases l1
   ·rw[l1.length,l2.length];exact c
   ·rw[z] at l2;cases l2;rw[Tw] at k;exact k _ _ (.here S (.tup h1 l1))
  ·rw[Sv c] at ee;cases ee
 ·exact lists z
theorem kz(h1:p.canLay0=true)(h2:p.depth<=64):SeqAt.shaped p=true:=by
 unfold PySem.SeqAt.shaped;rw[h1,Tb h2];rfl
theorem HC{K:FR}{ρ:Ad}{H:Hp}{v:V}{d:D}(r:Rep K ρ H v d):decide (v=V.cq)=Rw d:=by
 cases r <;> rfl
theorem Lw:lR X (compareOp .Is) Ml:=by
 intro pins s σ H x y v u Q I rx ry hh;obtain⟨ρ,h,d,e,z,h',S,rd,re,ee,k⟩:=hh;cases e <;> first |(exact b7 ee) | skip
 cases ee;cases re;refine LF pins s σ H _ _ v u Q I rx ry ⟨rfl,?_⟩;rw[HC rd];exact k _ _ (.here S (.bl _))
theorem vT{us:List Value}{ds:List PyData}{as:List Addr}(H:ReadsAll h us ds as)(hf:∀u d as,u∈us->Reads h u d as->d∈ds->f u=PyData.eqv d p):us.any f=ds.any λb=>PyData.eqv b p:=by
 cases H with
 | nil=>rfl
 | cons r l=>rw[U1,U1,hf _ _ _ Sk r Sk,vT l λu d as hu hr hd=>hf u d as (Sq _ hu) hr (Sq _ hd)]
open Classical in
noncomputable def BV(h:Heap)(p:PyData)(u:Value):Bool:=if q:∃d as,Reads h u d as/\d.canLay0=true then PyData.eqv q.choose p else false
theorem oQ(r:Reads h u d as)(c:d.canLay0=true):BV h p u=PyData.eqv d p:=by
 have q:∃d as,Reads h u d as/\d.canLay0=true:=⟨d,as,r,c⟩;unfold BV;rw[dif_pos q];obtain⟨as',r',c'⟩:=q.choose_spec;rw[PySem.SeqAt.Reads.unique _ _ _ _ _ c' r' r]
theorem cC:∀{ds:List PyData} {d:PyData},PyData.canLayAll0 ds=true->d∈ds->d.canLay0=true
 | x::r,d,c,m=>by
  simp only[PyData.canLayAll0,Tf] at c;rcases Sr.mp m with rfl | m
  ·exact c.1
  ·exact cC c.2 m
theorem kA:∀{ds:List PyData} {d:PyData},d∈ds->d.depth<=PyData.depthAll ds
 | x::r,d,m=>by
  simp only[PyData.depthAll];rcases Sr.mp m with rfl | m
  ·lia
  ·have:=kA m;lia
theorem j8{us:List Value}{ds:List PyData}{as:List Addr}(H:ReadsAll h us ds as)(y:Value)(hy:y∈us):∃d as,Reads h y d as/\d∈ds:=by
 cases H with
 | nil=>cases hy
 | cons r l=>
  rcases Sr.mp hy with rfl | hy
  ·exact⟨_,_,r,Sk⟩
  ·obtain⟨d,as,a1,a2⟩:=j8 l y hy;exact⟨d,as,a1,Sq _ a2⟩
theorem in_of(hu:X.A.units+64 < cLine)(I:L2.Inv X pins σ H s)(rx:L2.RelV x v)(ry:L2.RelV y u)(S:bN X.K ρ h H)(rd:Rep X.K ρ H x d)(re:Rep X.K ρ H y e){c:Bool}(ee:inD d e h=some c){Q:Bool->Shared->Prop}(hq:∀s',L2.Inv X pins σ H s'->Q c s'):
  wpAny (model X.prog X.w) X.A (compareOp .In v u) (λr s'=>∃c,r=.bool c/\Q c s') X.xe s/\wpAny (model X.prog X.w) X.A (compareOp .NotIn v u) (λr s'=>∃c,r=.bool (!c)/\Q c s') X.xe s:=by
 unfold inD at ee;cases qd:eA e h with
 | some kvs=>
  rw[qd] at ee;obtain⟨k,e1,e2⟩:=gB ee;obtain⟨a,us,rfl,ha,l⟩:=i0 S re qd;obtain rfl:u=Value.ref a:=ry;have ek:=kl rd e1;subst ek;have g:nR H a (kV k) (jh us k):=nR.k ha;have ec:(jh us k).isSome=c:=by
   rw[<-e2];rcases l.val k with⟨h1,h2⟩ |⟨d,v,h1,h2,_⟩
   ·rw[h1,h2];rfl
   ·rw[h1,h2];rfl
  refine⟨Q1 (by lia) I g rx λs' I'=>⟨c,by rw[ec],hq s' I'⟩,I9 (by lia) I g rx λs' I'=>⟨c,by rw[ec],hq s' I'⟩⟩
 | none=>
  rw[qd] at ee;dsimp only at ee;have seqs:((dP e h).bind λp=>(Bt h d).bind λa=>(mG p.1).bind λbs=>if a.depth<=60/\PyData.depthAll bs<=60 then some (bs.any λb=>PyData.eqv b a) else none)=some c->
    wpAny (model X.prog X.w) X.A (compareOp .In v u) (λr s'=>∃c,r=.bool c/\Q c s') X.xe s/\wpAny (model X.prog X.w) X.A (compareOp .NotIn v u) (λr s'=>∃c,r=.bool (!c)/\Q c s') X.xe s:=by
   intro ee;obtain⟨⟨xs,ws⟩,e1,e2⟩:=bw ee;obtain⟨p,e3,e4⟩:=bw e2;obtain⟨bs,e5,e6⟩:=bw e4
   by_cases w:p.depth<=60/\PyData.depthAll bs<=60
   ·rw[Si w] at e6;cases e6;obtain⟨a,vs,rfl,hq',l⟩:=lV S re e1;obtain rfl:u=Value.ref a:=ry;obtain⟨r1,c1⟩:=mF S rd e3;obtain⟨r2,c2⟩:=l.uu e5;obtain⟨as,ra⟩:=r1.reads I rx;have key:∀its:List Value,Vals vs its->(∀y,y∈its->PySem.SeqAt.EqAt X.A.in1 s y v (BV s.heap p y))/\its.any (BV s.heap p)=bs.any λb=>PyData.eqv b p:=by
     intro its rv;obtain⟨bs',rb⟩:=r2.reads I rv;refine⟨λy hy=>?_,vT rb λu d as _ hr hd=>oQ hr (cC c2 hd)⟩;obtain⟨d,as',hr,hd⟩:=j8 rb y hy;rw[oQ hr (cC c2 hd)];refine Vk d p _ s y v as' as hr ra (cC c2 hd) c1 ?_;have h1:=kA hd;have h2:min d.depth p.depth<=d.depth:=V2 _ _;show X.A.units+1+min d.depth p.depth < cLine;have h3:=w.2
     lia
    rcases hq' with hq' | hq'
    ·obtain⟨its,rv,pl,_⟩:=I.list hq';obtain⟨k1,k2⟩:=key its rv;have k1':∀y,y∈its.toArray->PySem.SeqAt.EqAt X.A.in1 s y v (BV s.heap p y):=λy hy=>k1 y (by simpa using hy);have k2':its.toArray.any (BV s.heap p)=bs.any λb=>PyData.eqv b p:=by rw[<-k2];simp
     exact⟨PySem.SeqAt.in_listAt _ pl.isList k1' ⟨_,rfl,by rw[k2'];exact hq s I⟩,PySem.SeqAt.notIn_listAt _ pl.isList k1' ⟨_,rfl,by rw[k2'];exact hq s I⟩⟩
    ·obtain⟨its,rv,pl,_⟩:=I.tuple hq';obtain⟨k1,k2⟩:=key its rv;have k1':∀y,y∈its.toArray->PySem.SeqAt.EqAt X.A.in1 s y v (BV s.heap p y):=λy hy=>k1 y (by simpa using hy);have k2':its.toArray.any (BV s.heap p)=bs.any λb=>PyData.eqv b p:=by rw[<-k2];simp
     exact⟨PySem.SeqAt.in_tupleAt _ pl k1' ⟨_,rfl,by rw[k2'];exact hq s I⟩,PySem.SeqAt.notIn_tupleAt _ pl k1' ⟨_,rfl,by rw[k2'];exact hq s I⟩⟩
   ·rw[Sv w] at e6;cases e6
  split at ee
  ·cases ee;cases rd;cases re;obtain⟨t,rfl⟩:=rx;obtain⟨t',rfl⟩:=ry;exact⟨in_str ⟨_,rfl,hq s I⟩,notIn_str ⟨_,rfl,hq s I⟩⟩
  ·exact seqs ee
theorem Oo(hu:X.A.units+64 < cLine):lR X (compareOp .In) M8:=by
 intro pins s σ H x y v u Q I rx ry hh;obtain⟨ρ,h,d,e,z,h',S,rd,re,ee,k⟩:=hh;obtain⟨c,e1,e2⟩:=gB ee;cases e2;refine cD (in_of hu I rx ry S rd re e1 (Q:=λc' s'=>c'=c/\L2.Inv X pins σ H s') λs' I'=>⟨rfl,I'⟩).1 λr s' ⟨c',hr,hc,I'⟩=>?_;subst hr;subst hc;exact⟨.bl _,H,I',rfl,k _ _ (.here S (.bl _))⟩
theorem Fu(hu:X.A.units+64 < cLine):lR X (compareOp .NotIn) oO:=by
 intro pins s σ H x y v u Q I rx ry hh;obtain⟨ρ,h,d,e,z,h',S,rd,re,ee,k⟩:=hh;obtain⟨c,e1,e2⟩:=gB ee;cases e2;refine cD (in_of hu I rx ry S rd re e1 (Q:=λc' s'=>c'=c/\L2.Inv X pins σ H s') λs' I'=>⟨rfl,I'⟩).2 λr s' ⟨c',hr,hc,I'⟩=>?_;subst hr;subst hc;exact⟨.bl _,H,I',rfl,k _ _ (.here S (.bl _))⟩
theorem Jn{K:FR}{ρ:Ad}{H:Hp}{vs:List V}{ds:List D}{i:Int}{d:D}(l:aG K ρ H vs ds)(e:gG ds i=some d):∃v,gG vs i=some v/\Rep K ρ H v d:=by
 unfold gG at e;obtain⟨j,e1,e2⟩:=bw e;obtain⟨v,e3,r⟩:=l.got e2;exact⟨v,by unfold gG;rw[l.length,e1];exact e3,r⟩
theorem Di{d e z:D}{h h':MH}(ee:aT d e h=some (z,h')):h'=h/\((∃kvs k,eA d h=some kvs/\xm e=some k/\qh kvs k=some z)\/(∃x i c,d=.str x/\e=.int i/\x.length<=sizeLine/\gG x.cps.toList i=some c/\z=.str ⟨#[c]⟩)\/∃i xs ws,e=.int i/\dP d h=some (xs,ws)/\gG xs i=some z):=by
 unfold aT at ee
 split at ee
 ·obtain⟨ky,e1,e2⟩:=bw ee;obtain⟨z',e3,e4⟩:=gB e2;cases e4;exact⟨rfl,.inl ⟨_,ky,‹_›,e1,e3⟩⟩
 ·split at ee
  ·split at ee
   ·obtain⟨c,e3,e4⟩:=gB ee;cases e4;exact⟨rfl,.inr (.inl ⟨_,_,c,rfl,rfl,‹_›,e3,rfl⟩)⟩
   ·cases ee
  ·obtain⟨⟨xs,ws⟩,e1,e2⟩:=bw ee;obtain⟨z',e3,e4⟩:=gB e2;cases e4;exact⟨rfl,.inr (.inr ⟨_,xs,ws,rfl,e1,e3⟩)⟩
  ·cases ee
theorem OJ(hu:X.A.units+64 < cLine):PB X (rS X.K aT):=by
 intro value slice pins s σ H x y v u Q I rx ry hh hs;obtain⟨ρ,h,d,e,z,h',S,rd,re,ee,k⟩:=hh;obtain⟨rfl,hc⟩:=Di ee;rcases hc with⟨kvs,ky,qd,e1,e3⟩ |⟨x0,i,ch,rfl,rfl,c,e3,rfl⟩ |⟨i,xs,ws,rfl,e1,e3⟩
 ·obtain⟨a,us,rfl,ha,l⟩:=i0 S rd qd;obtain rfl:v=Value.ref a:=rx;have ek:=kl re e1;subst ek;rcases l.val ky with⟨h1,h2⟩ |⟨d',w,h1,h2,r⟩
  ·rw[h1] at e3;cases e3
  ·rw[h1] at e3;cases e3;have g:nR H a (kV ky) (some w):=by rw[<-h2];exact nR.k ha
   exact tail_any (ze I g) WJ.lookup (Dq (by lia) I g ry λw' s3 I3 rw'=>⟨w,H,I3,rw',k _ _ (.here S r)⟩) hs
 ·obtain⟨rfl,hs0⟩:=Ab rd;obtain rfl:=jx re;exact L6 value slice pins s σ H _ _ v u Q I rx ry ⟨x0,i,ch,rfl,rfl,c,e3,k _ _ (.here S (.str (Cs hs0 e3)))⟩ hs
 ·obtain⟨a,vs,rfl,hq',l⟩:=lV S rd e1;obtain⟨w,e5,r⟩:=Jn l e3;obtain rfl:=jx re;rcases hq' with hq' | hq'
  ·exact IH value slice pins s σ H _ _ v u Q I rx ry ⟨a,vs,i,w,rfl,rfl,hq',e5,k _ _ (.here S r)⟩ hs
  ·exact L5 value slice pins s σ H _ _ v u Q I rx ry ⟨a,vs,i,w,rfl,rfl,hq',e5,k _ _ (.here S r)⟩ hs
theorem NV(hu:X.A.units+64 < cLine)(ha:SE X a ma)(hb:SE X b mb)(hs:nP b:=by unfold nP;intro _ _;ac_nf):SE X (.Subscript a b pos) (ar aT ma mb):=(Oi (OJ hu) ha hb hs).imp λ_ _ _=>Bp
abbrev PM:=DS->MH->Option (Option Int×MH)
noncomputable def wW:PM:=λ_ h=>some (none,h)
noncomputable def uv(e:EM):PM:=λδ h=>(e δ h).bind λp=>match p.1 with
 | .int i=>some (some i,p.2)
 | _=>none
inductive Pn(K:FR)(m:PM)(σ:L2.St)(H:Hp)(Q:Option Int->Hp->Prop):Prop where
 | mk (ρ δ h b h'):cy K ρ H σ δ->bN K ρ h H->(m δ h=some (b,h'))->(∀ρ' H',cT ρ H ρ' H'->bN K ρ' h' H'->Q b H')->Pn K m σ H Q
noncomputable def RT(K:FR)(m:PM):TO:=λσ H Q=>Pn K m σ H Q
def SP'(X:Cx)(e:Option Expr)(m:PM):Prop:=PO X e (RT X.K m)
theorem qF:SP' X none wW:=λpins s σ H Q I hh=>by
 obtain⟨ρ,δ,h,b,h',R,S,e,k⟩:=hh;cases e;exact HV pins s σ H Q I (k ρ H (.refl _ _) S)
theorem qE(he:SE X e ma):SP' X (some e) (uv ma):=λpins s σ H Q I hh=>by
 obtain⟨ρ,δ,h,b,h',R,S,e,k⟩:=hh;obtain⟨⟨x,h1⟩,e1,e2⟩:=bw e;cases x <;> first |(cases e2;done) | skip
 cases e2;refine HU he pins s σ H Q I ⟨ρ,δ,h,_,_,R,S,e1,λv H' ⟨ρ',T,S',r⟩=>?_⟩;cases r;exact⟨_,rfl,k ρ' H' T S'⟩
noncomputable def cutD(xs:List D)(lo hi:Option Int):List D:=(xs.drop (HT.cM xs.length 0 lo)).take (HT.cM xs.length xs.length hi-HT.cM xs.length 0 lo)
noncomputable def OS(d:D)(lo hi:Option Int)(h:MH):Option (D×MH):=match d with
 | .str z=>if z.length<=sizeLine then some (.str (Txt.slice z lo hi),h) else none
 | .tup xs=>if HT.cM xs.length 0 lo=0/\HT.cM xs.length xs.length hi=xs.length then none else some (.tup (cutD xs lo hi),h)
 | d=>(dP d h).map λp=>(.lv (cutD p.1 lo hi),h)
inductive Py(K:FR)(x:V)(lo hi:Option Int)(H:Hp)(Q:VK):Prop where
 | mk (ρ h d z h'):bN K ρ h H->Rep K ρ H x d->(OS d lo hi h=some (z,h'))->(∀v H',dy K ρ H h' z v H'->Q v H')->Py K x lo hi H Q
def RW(K:FR):V->Option Int->Option Int->Hp->VK->Prop:=λx lo hi H Q=>Py K x lo hi H Q
theorem aG.tE{K:FR}{ρ:Ad}{H:Hp}{vs:List V}{ds:List D}(l:aG K ρ H vs ds)(lo hi:Option Int):aG K ρ H (L2.tE vs lo hi) (cutD ds lo hi):=by
 unfold L2.tE cutD;rw[l.length];exact(l.drop _).take _
theorem JB:MV X (RW X.K):=by
 intro pins s σ H x v vl vu lo hi sl Q I rx hs pl pu hh;obtain⟨ρ,h,d,z,h',S,rd,ee,k⟩:=hh;have lists:AF d=true->((dP d h).map λp=>(D.lv (cutD p.1 lo hi),h))=some (z,h')->∃T id,typeLookup (.type T) "__getitem__"=pure (some (.builtin id))/\s.TypeIs v T/\wpAny (model X.prog X.w) X.A (getItem v (.ref sl)) (EP X pins σ Q) X.xe s:=by
  intro nt e2;obtain⟨⟨xs,ws⟩,e1,e2⟩:=gB e2;cases e2;obtain⟨a,rfl,⟨vs,q,l⟩,_⟩:=rq S rd e1;rw[nt] at q;cases q with
  | l q=>exact Hn pins s σ H _ v vl vu lo hi sl Q I rx hs pl pu ⟨a,vs,rfl,q,λp hp=>k _ _ (.lv S (l.tE lo hi) hp)⟩
 cases d with
 | str x0=>
  unfold OS at ee;dsimp only at ee
  by_cases c:x0.length<=sizeLine
  ·rw[Si c] at ee;cases ee;cases rd with | str hs0=>
   exact KD pins s σ H _ v vl vu lo hi sl Q I rx hs pl pu ⟨x0,rfl,c,k _ _ (.here S (.str (x6 _ _ hs0)))⟩
  ·rw[Sv c] at ee;cases ee
 | tup xs=>
  unfold OS at ee;dsimp only at ee
  by_cases c:HT.cM xs.length 0 lo=0/\HT.cM xs.length xs.length hi=xs.length
  ·rw[Si c] at ee;cases ee
  ·rw[Sv c] at ee;cases ee;cases rd with | tup h0 l0=>
   exact KC pins s σ H _ v vl vu lo hi sl Q I rx hs pl pu ⟨_,_,rfl,h0.sq,by rw[l0.length];exact c,λp hp=>k _ _ (.tup S (l0.tE lo hi) hp)⟩
 | _=>exact lists rfl ee
theorem Ex{x:Str}{id:String}{p pos:Pos}{e:Expr}{es:List Expr}{f:Fn}{m:AM}(hc:g5 X (.builtin id) f)(hg:Gl X x)(hm:X.mg x=none)(hv:bootBuiltins x=some (.builtin id))(ha:SA X (e::es) m)(hn:x≠"__name__":=by decide)(hdb:(x==("__debug__":Str))=false:=by ac_nf)
  (he:starEach (e::es) X.env=(false,eval e X.env)::starEach es X.env:=by ac_nf) (hpl:(backTo pos (starEach es X.env)).any (·.1)=false:=by ac_nf):SE X (.Call (.Name x p) (e::es) [] pos) (ax f m):=
 (yD hc hg hm hv ha hn hdb he hpl).imp λσ H Q ⟨ρ,δ,h,d,h',R,S,e,k⟩=>by
  obtain⟨⟨ds,h1⟩,e1,e2⟩:=bw e;exact⟨ρ,δ,h,ds,h1,R,S,e1,λvs ρ1 H1 T1 S1 r1=>⟨ρ1,h1,ds,d,h',S1,r1,e2,λv H' P=>k v H' (P.step T1)⟩⟩
theorem Ew{x:Str}{id:String}{p pos:Pos}{e:Expr}{es:List Expr}{f:Fn}{m:AM}(hc:g5 X (.type id) f)(hg:Gl X x)(hm:X.mg x=none)(hv:bootBuiltins x=some (.type id))(ha:SA X (e::es) m)(hn:x≠"__name__":=by decide)(hdb:(x==("__debug__":Str))=false:=by ac_nf)
  (he:starEach (e::es) X.env=(false,eval e X.env)::starEach es X.env:=by ac_nf) (hpl:(backTo pos (starEach es X.env)).any (·.1)=false:=by ac_nf):SE X (.Call (.Name x p) (e::es) [] pos) (ax f m):=
 (vg hc hg hm hv ha hn hdb he hpl).imp λσ H Q ⟨ρ,δ,h,d,h',R,S,e,k⟩=>by
  obtain⟨⟨ds,h1⟩,e1,e2⟩:=bw e;exact⟨ρ,δ,h,ds,h1,R,S,e1,λvs ρ1 H1 T1 S1 r1=>⟨ρ1,h1,ds,d,h',S1,r1,e2,λv H' P=>k v H' (P.step T1)⟩⟩
noncomputable def cG:Fn:=λds h=>match ds with
 | [.str z]=>if z.length<=sizeLine then some (.int z.length,h) else none
 | [d]=>match eA d h with
  | some kvs=>some (.int kvs.length,h)
  | none=>(dP d h).map λp=>(.int p.1.length,h)
 | _=>none
noncomputable def Mm:Fn:=λds h=>match ds with
 | [.int i]=>some (.int (if i < 0 then -i else i),h)
 | _=>none
noncomputable def PN(d:D)(h:MH):Option String:=match d with
 | .cq=>some "NoneType"
 | .bl _=>some "bool"
 | .int _=>some "int"
 | .str _=>some "str"
 | .tup _=>some "tuple"
 | .lv _=>some "list"
 | .dv _=>some "dict"
 | .ob n=>match h[n]? with
  | some (.lst _)=>some "list"
  | some (.dct _)=>some "dict"
  | _=>none
 | _=>none
noncomputable def Bk(t n:String):Bool:=t==n||(t=="bool"&&n=="int")
noncomputable def y8:Fn:=λds h=>match ds with
 | [d,.ty n]=>if n∈["int","str","bool","tuple","list","dict"] then(PN d h).map λt=>(.bl (Bk t n),h) else none
 | _=>none
noncomputable def fS:Fn:=λds h=>match ds with
 | [d]=>(dP d h).map λp=>(.tup p.1,h)
 | _=>none
theorem rep1{K:FR}{ρ:Ad}{H:Hp}{vs:List V}{d:D}(l:aG K ρ H vs [d]):∃v,vs=[v]/\Rep K ρ H v d:=by
 cases l with
 | cons r l=>cases l;exact⟨_,rfl,r⟩
theorem rep2{K:FR}{ρ:Ad}{H:Hp}{vs:List V}{d e:D}(l:aG K ρ H vs [d,e]):∃v u,vs=[v,u]/\Rep K ρ H v d/\Rep K ρ H u e:=by
 cases l with
 | cons r l=>cases l with
  | cons r' l=>cases l;exact⟨_,_,rfl,r,r'⟩
theorem tF:g5 X (.builtin "len") cG:=by
 intro pins s σ H xs us Q I r hh;obtain⟨ρ,h,ds,z,h',S,l,ee,k⟩:=hh
 match ds,l,ee with
 | [],_,ee=>cases ee
 | _::_::_,_,ee=>exact absurd ee (by unfold cG;split <;> simp_all)
 | [d],l,ee=>
  obtain⟨v,rfl,rd⟩:=rep1 l;have oth:(match eA d h with | some kvs=>some (D.int kvs.length,h) | none=>(dP d h).map λp=>(D.int p.1.length,h))=some (z,h')->wpAny (model X.prog X.w) X.A (call (.builtin "len") us) (EP X pins σ Q) X.xe s:=by
   intro ee;cases q:eA d h with
   | some kvs=>
    rw[q] at ee;cases ee;obtain⟨a,ws,rfl,ha,lk⟩:=i0 S rd q;refine Dv pins s σ H _ us Q I r ⟨a,ws,rfl,ha,k _ _ ?_⟩;rw[lk.length];exact .here S (.int _)
   | none=>
    rw[q] at ee;obtain⟨⟨ys,w⟩,e1,e2⟩:=gB ee;cases e2;obtain⟨a,vs,rfl,hq,l2⟩:=lV S rd e1;refine xI pins s σ H _ us Q I r ⟨a,vs,rfl,hq,k _ _ ?_⟩;rw[l2.length];exact .here S (.int _)
  cases d with
  | str x0=>
   unfold cG at ee;dsimp only at ee
   by_cases c:x0.length<=sizeLine
   ·rw[Si c] at ee;cases ee;cases rd;exact xH pins s σ H _ us Q I r ⟨x0,rfl,c,k _ _ (.here S (.int _))⟩
   ·rw[Sv c] at ee;cases ee
  | _=>exact oth ee
theorem My:g5 X (.builtin "abs") Mm:=by
 intro pins s σ H xs us Q I r hh;obtain⟨ρ,h,ds,z,h',S,l,ee,k⟩:=hh
 match ds,l,ee with
 | [],_,ee=>cases ee
 | d::_::_,_,ee=>cases d <;> exact b7 ee
 | [d],l,ee=>
  obtain⟨v,rfl,rd⟩:=rep1 l;cases rd <;> first |(exact b7 ee) | skip
  cases ee;exact GG pins s σ H _ us Q I r ⟨_,rfl,k _ _ (.here S (.int _))⟩
theorem zj:g5 X (.type "tuple") fS:=by
 intro pins s σ H xs us Q I r hh;obtain⟨ρ,h,ds,z,h',S,l,ee,k⟩:=hh
 match ds,l,ee with
 | [],_,ee=>cases ee
 | _::_::_,_,ee=>cases ee
 | [d],l,ee=>
  obtain⟨v,rfl,rd⟩:=rep1 l;obtain⟨⟨ys,w⟩,e1,e2⟩:=gB ee;cases e2;obtain⟨a,rfl,⟨vs,q,l2⟩,_⟩:=rq S rd e1;refine uJ pins s σ H _ us Q I r ⟨a,vs,rfl,?_⟩;generalize hb:AF d=b at q;cases q with
  | l q=>exact .inl ⟨q,λp hp=>k _ _ (.tup S l2 hp)⟩
  | t q=>
   refine .inr ⟨q,k _ _ ?_⟩;cases rd <;> first |(cases hb;done) | skip
   cases e1;exact .here S (.tup ‹_› ‹_›)
theorem BM{K:FR}{t n:String}(ht:t∈["NoneType","bool","int","str","tuple","list","dict"])(hn:n∈["int","str","bool","tuple","list","dict"]):PySem.W.kitOne K (.type t) (.type n)=some (Bk t n):=by
 simp only[Sr,List.mem_nil_iff,or_false] at ht hn;rcases ht with rfl | rfl | rfl | rfl | rfl | rfl | rfl <;> rcases hn with rfl | rfl | rfl | rfl | rfl | rfl <;> rfl
theorem AJ{ds:List D}{z:D}{h h':MH}(ee:y8 ds h=some (z,h')):∃d n t,ds=[d,.ty n]/\n∈["int","str","bool","tuple","list","dict"]/\PN d h=some t/\z=.bl (Bk t n)/\h'=h:=by
 unfold y8 at ee
 split at ee
 ·split at ee
  ·obtain⟨t,e1,e2⟩:=gB ee;cases e2;exact⟨_,_,t,rfl,‹_›,e1,rfl,rfl⟩
  ·cases ee
 ·cases ee
theorem Kr{K:FR}{ρ:Ad}{H:Hp}{h:MH}{v:V}{d:D}{t:String}(S:bN K ρ h H)(rd:Rep K ρ H v d)(e1:PN d h=some t):t∈["NoneType","bool","int","str","tuple","list","dict"]/\(nE K H v (.type t)\/t="tuple"/\∃a vs,v=.ref a/\kF K H a vs):=by
 cases rd with
 | cq=>cases e1;exact⟨by decide,.inl .cq⟩
 | bl b=>cases e1;exact⟨by decide,.inl (.bl b)⟩
 | int i=>cases e1;exact⟨by decide,.inl (.int i)⟩
 | str h0=>cases e1;exact⟨by decide,.inl (.str _)⟩
 | ty _=>exact b7 e1
 | ro _ _=>exact b7 e1
 | lv h0 _ _=>cases e1;exact⟨by decide,.inl (.lst h0)⟩
 | dv h0 _ _=>cases e1;exact⟨by decide,.inl (.dK h0)⟩
 | tup h0 l0=>cases e1;exact⟨by decide,.inr ⟨rfl,_,_,rfl,h0.sq⟩⟩
 | @ob a m hm=>
  unfold PN at e1;dsimp only at e1;cases q:h[m]? with
  | none=>rw[q] at e1;cases e1
  | some o=>
   rw[q] at e1;have x:=S.at_ m a o hm q;cases o with
   | lst _=>cases e1;obtain⟨vs,e3,_⟩:=x;exact⟨by decide,.inl (.lst e3)⟩
   | dct _=>cases e1;obtain⟨vs,e3,_⟩:=x;exact⟨by decide,.inl (.dK e3)⟩
   | dcH _=>exact b7 e1
   | exc _=>exact b7 e1
theorem tG:g5 X (.builtin "isinstance") y8:=by
 intro pins s σ H xs us Q I r hh;obtain⟨ρ,h,ds,z,h',S,l,ee,k⟩:=hh;obtain⟨d,n,t,rfl,hn,e1,rfl,rfl⟩:=AJ ee;obtain⟨v,u,rfl,rd,ru⟩:=rep2 l;cases ru;have fin:=k (.bl (Bk t n)) H (.here S (.bl _));obtain⟨hm,hty |⟨rfl,a,vs,rfl,hq⟩⟩:=Kr S rd e1
 ·exact GF pins s σ H _ us Q I r ⟨v,n,_,_,rfl,hty,BM hm hn,fin⟩
 ·obtain⟨u1,u2,rfl,r1,r2⟩:=Vals.two r;obtain rfl:u1=Value.ref a:=r1;obtain rfl:u2=Value.type n:=r2;obtain⟨its,_,⟨o,h1,h2,_⟩,_⟩:=I.tuple hq;exact TH Xk I.pU ⟨o,h1,h2⟩ (BM (t:="tuple") (by decide) hn) (λz=>nomatch z) λtk=>⟨.bl _,H,I.tok tk,rfl,fin⟩
noncomputable def GU(m:AM):AM:=λδ h=>(m δ h).bind λp=>match p.1 with
 | [d]=>(dP d p.2).map λq=>(q.1,p.2)
 | _=>none
theorem Hr(hg:Gl X x)(hm:X.mg x=none)(hv:bootBuiltins x=some (.type "list"))(ha:SA X [e] m)(hl:kG m 1)(hn:x≠"__name__":=by decide)(hdb:(x==("__debug__":Str))=false:=by ac_nf)(he:starEach [e] X.env=(false,eval e X.env)::starEach [] X.env:=by ac_nf)(hpl:(backTo pos (starEach [] X.env)).any (·.1)=false:=by ac_nf):lM X (.Call (.Name x p) [e] [] pos) (GU m):=
 (vg xG hg hm hv ha hn hdb he hpl).imp λσ H Q zz=>by
  obtain⟨ρ,δ,h,d,h',R,S,e,k⟩:=zz;obtain⟨⟨ds,h1⟩,e1,e2⟩:=bw e;refine⟨ρ,δ,h,ds,h1,R,S,e1,λvs ρ1 H1 T1 S1 r1=>?_⟩;obtain⟨d,rfl⟩:=UW.mp (hl _ _ _ _ e1);obtain⟨⟨ys,w⟩,e3,e4⟩:=gB e2;cases e4;obtain⟨v,rfl,rd⟩:=rep1 r1;obtain⟨a,ws,rfl,hq,l2⟩:=lV S1 rd e3;exact⟨a,ws,rfl,hq,λl hl=>k ρ1 H1 l ws T1 S1 hl l2⟩
noncomputable def uG(o i v:D)(h:MH):Option MH:=match o with
 | .ob n=>match h[n]? with
  | some (.lst xs)=>match i with
   | .int j=>(sQ xs.length j).map λp=>h.set n (.lst (xs.set p v))
   | _=>none
  | some (.dct kvs)=>(xm i).bind λk=>if kvs.length < sizeLine then some (h.set n (.dct (putD kvs k v))) else none
  | _=>none
 | _=>none
noncomputable def qu(o i:EM):GM:=λv δ h=>(o δ h).bind λp=>(i δ p.2).bind λq=>(uG p.1 q.1 v q.2).map λh'=>(δ,h')
inductive Kc(K:FR)(o i v:V)(H:Hp)(Q:Hp->Prop):Prop where
 | mk (ρ h a b c h'):bN K ρ h H->Rep K ρ H o a->Rep K ρ H i b->Rep K ρ H v c->(uG a b c h=some h')->(∀ρ' H',cT ρ H ρ' H'->bN K ρ' h' H'->Q H')->Kc K o i v H Q
def QF(K:FR):V->V->V->Hp->(Hp->Prop)->Prop:=λo i v H Q=>Kc K o i v H Q
theorem HN(hu:X.A.units+64 < cLine):MZ X (QF X.K):=by
 intro pins s σ H o i v ov iv u Q I ro ri rv hh;obtain⟨ρ,h,a,b,c,h',S,ra,rb,rc,ee,k⟩:=hh;cases ra <;> first |(exact b7 ee) | skip
 rename_i a n hn;unfold uG at ee;dsimp only at ee;cases q:h[n]? with
 | none=>rw[q] at ee;cases ee
 | some w=>
  rw[q] at ee;have x:=S.at_ n a w hn q;have ma:=Sd hn;cases w with
  | lst xs=>
   dsimp only at ee;cases rb <;> first |(exact b7 ee) | skip
   rename_i j;obtain⟨p,e1,e2⟩:=gB ee;cases e2;obtain⟨vs,e3,l⟩:=x;have T:cT ρ H ρ (upd H a (.lst (vs.set p v))):=cT.wrote S ma;exact set_list pins s σ H _ _ v ov iv u Q I ro ri rv ⟨a,vs,j,p,rfl,rfl,e3,by rw[l.length];exact e1,k ρ _ T (S.wrote hn ⟨_,aO,(l.set rc p).mono T.toCh⟩)⟩
  | dct kvs=>
   dsimp only at ee;obtain⟨ky,e1,e2⟩:=bw ee
   by_cases z:kvs.length < sizeLine
   ·rw[Si z] at e2;cases e2;obtain⟨us,e3,l⟩:=x;have ek:=kl rb e1;subst ek;obtain rfl:ov=Value.ref a:=ro;have T:cT ρ H ρ (upd H a (.dK (putK us ky v))):=cT.wrote S ma;exact Dn (by lia) I (Jr.k e3 (by rw[l.length];exact z)) ri rv λs' I'=>⟨_,I',k ρ _ T (S.wrote hn ⟨_,aO,(l.put rc).mono T.toCh⟩)⟩
   ·rw[Sv z] at e2;cases e2
  | dcH _=>exact b7 ee
  | exc _=>exact b7 ee
theorem jo (hu:X.A.units+64 < cLine) (ho:SE X o mo) (hi:SE X i mi) (ha:∀v,assign (.Subscript o i pos) X.env v=(do
   let ov<-holding [v] (eval o X.env);let iv<-holding [v,ov] (eval i X.env)
   standAt pos
   holding [v,ov,iv] (setItem ov iv v)
   release [v,ov,iv] []):=by intro _;ac_nf):SG X (.Subscript o i pos) (qu mo mi):=
 (Lh ho hi (HN hu) ha).imp λv σ H Q ⟨ρ,δ,h,d,δ',h',R,S,r,e,k⟩=>by
  obtain⟨⟨x,h1⟩,e1,e2⟩:=bw e;obtain⟨⟨y,h2⟩,e3,e4⟩:=bw e2;obtain⟨h3,e5,e6⟩:=gB e4;cases e6;exact⟨ρ,δ,h,x,h1,R,S,e1,λov H1 ⟨ρ1,T1,S1,r1⟩=>⟨ρ1,δ,h1,y,h2,R.mono T1,S1,e3,λiv H2 ⟨ρ2,T2,S2,r2⟩=>
   ⟨ρ2,h2,x,y,d,_,S2,r1.mono T2,r2,r.mono (T1.trans T2).toCh,e5,λρ3 H3 T3 S3=>k ρ3 H3 σ (T1.trans (T2.trans T3)) S3 (R.mono (T1.trans (T2.trans T3)).toCh)⟩⟩⟩
abbrev Cf:=D->List D->MH->Option (D×MH)
inductive RE(K:FR)(f:Cf)(x:V)(vs:List V)(H:Hp)(Q:VK):Prop where
 | mk (ρ h d ds z h'):bN K ρ h H->Rep K ρ H x d->aG K ρ H vs ds->(f d ds h=some (z,h'))->(∀v H',dy K ρ H h' z v H'->Q v H')->RE K f x vs H Q
def rM(K:FR)(f:Cf):V->List V->Hp->VK->Prop:=λx vs H Q=>RE K f x vs H Q
noncomputable def eM(isT:D->MH->Bool)(f:Cf)(o:EM)(m:AM):EM:=λδ h=>(o δ h).bind λp=>if isT p.1 p.2 then(m δ p.2).bind λq=>f p.1 q.1 q.2 else none
noncomputable def dA(d:D)(h:MH):Bool:=(dR d h).isSome
noncomputable def FV(d:D)(h:MH):Bool:=(eA d h).isSome
noncomputable def eJ:Cf:=λd ds h=>match d,ds with
 | .ob n,[y]=>match h[n]? with
  | some (.lst xs)=>if xs.length < sizeLine then some (.cq,h.set n (.lst (xs++[y]))) else none
  | _=>none
 | _,_=>none
noncomputable def kd:Cf:=λd ds h=>match d,ds with
 | .ob n,[y]=>match h[n]? with
  | some (.lst xs)=>(dR y h).bind λzs=>if xs.length+zs.length<=sizeLine then some (.cq,h.set n (.lst (xs++zs))) else none
  | _=>none
 | _,_=>none
noncomputable def Iy:Cf:=λd ds h=>match d,ds with
 | .ob n,[]=>match h[n]? with
  | some (.lst xs)=>(xs[xs.length-1]?).map λy=>(y,h.set n (.lst xs.dropLast))
  | _=>none
 | _,_=>none
theorem iM{K:FR}{ρ:Ad}{H:Hp}{h:MH}{v:V}{d:D}(S:bN K ρ h H)(r:Rep K ρ H v d)(e:dA d h=true):Jv K "list" v H:=by
 obtain⟨xs,e1⟩:=UM.mp e;obtain⟨a,vs,rfl,ha,_⟩:=dI S r e1;exact .inl ⟨rfl,vs,gH.of ha⟩
theorem Kq{K:FR}{ρ:Ad}{H:Hp}{h:MH}{v:V}{d:D}(S:bN K ρ h H)(r:Rep K ρ H v d)(e:FV d h=true):Jv K "dict" v H:=by
 obtain⟨xs,e1⟩:=UM.mp e;obtain⟨a,vs,rfl,ha,_⟩:=i0 S r e1;exact .inr (.inr (.inl ⟨rfl,.inl ⟨vs,ha⟩⟩))
theorem lW{T id:String}{name:Str}{o e:Expr}{es:List Expr}{apos cpos:Pos}{f:Cf}{mo:EM}{m:AM}{isT:D->MH->Bool}(hT:∀{K:FR} {ρ:Ad} {H:Hp} {h:MH} {v:V} {d:D},bN K ρ h H->Rep K ρ H v d->isT d h=true->Jv K T v H)
  (pa:PlainAttrs T) (slot:Slot T name id) (hty:typeOf (.builtin id)=pure (.type "method_descriptor")) (hm:Ce X id (rM X.K f)) (ho:SE X o mo) (ha:SA X (e::es) m)
  (hbase:attributeBase o name X.env (eval o X.env)=eval o X.env:=by ac_nf)
  (hfew:((backTo cpos (starEach (e::es) X.env)).all (λx=>!x.1)&&(backToKw cpos (keywordEach [] X.env)).all (λx=>x.1.isSome)
   &&decide ((e::es).length+([]:List Keyword).length+(if([]:List Keyword).isEmpty then 0 else 1) < 30))=true:=by ac_nf)
  (hline:(apos.endLine==cpos.line)=true:=by ac_nf) (hs:starEach (e::es) X.env=(false,eval e X.env)::starEach es X.env:=by ac_nf) (hplain:(backTo cpos (starEach es X.env)).any (·.1)=false:=by ac_nf):
  SE X (.Call (.Attribute o name apos) (e::es) [] cpos) (eM isT f mo m):=(Oj pa slot hty hm ho ha hbase hfew hline hs hplain).imp λσ H Q ⟨ρ,δ,h,d,h',R,S,e,k⟩=>by
 obtain⟨⟨x,h1⟩,e1,e2⟩:=bw e;dsimp only at e2
 by_cases c:isT x h1=true
 ·rw[Si c] at e2;obtain⟨⟨ds,h2⟩,e3,e4⟩:=bw e2;exact⟨ρ,δ,h,x,h1,R,S,e1,λv H1 ⟨ρ1,T1,S1,r1⟩=>⟨hT S1 r1 c,ρ1,δ,h1,ds,h2,R.mono T1,S1,e3,λvs ρ2 H2 T2 S2 r2=>⟨ρ2,h2,x,ds,d,h',S2,r1.mono T2,r2,e4,λw H3 p=>k w H3 (p.step (T1.trans T2))⟩⟩⟩
 ·rw[Sv c] at e2;cases e2
theorem NU{T id:String}{name:Str}{o:Expr}{apos cpos:Pos}{f:Cf}{mo:EM}{isT:D->MH->Bool}(hT:∀{K:FR} {ρ:Ad} {H:Hp} {h:MH} {v:V} {d:D},bN K ρ h H->Rep K ρ H v d->isT d h=true->Jv K T v H)
  (pa:PlainAttrs T) (slot:Slot T name id) (hty:typeOf (.builtin id)=pure (.type "method_descriptor")) (hm:Ce X id (rM X.K f)) (ho:SE X o mo)
  (hbase:attributeBase o name X.env (eval o X.env)=eval o X.env:=by ac_nf) (hline:(apos.endLine==cpos.line)=true:=by ac_nf):
  SE X (.Call (.Attribute o name apos) [] [] cpos) (eM isT f mo aL):=(Lr pa slot hty hm ho hbase hline).imp λσ H Q ⟨ρ,δ,h,d,h',R,S,e,k⟩=>by
 obtain⟨⟨x,h1⟩,e1,e2⟩:=bw e;dsimp only at e2
 by_cases c:isT x h1=true
 ·rw[Si c] at e2;exact⟨ρ,δ,h,x,h1,R,S,e1,λv H1 ⟨ρ1,T1,S1,r1⟩=>⟨hT S1 r1 c,ρ1,h1,x,[],d,h',S1,r1,.nil,e2,λw H3 p=>k w H3 (p.step T1)⟩⟩
 ·rw[Sv c] at e2;cases e2
theorem Au{K:FR}{ρ:Ad}{H:Hp}{h:MH}{n:Nat}{xs:List D}{v:V}(S:bN K ρ h H)(r:Rep K ρ H v (.ob n))(q:h[n]?=some (.lst xs)):∃a vs,v=.ref a/\ρ.ob[n]?=some a/\H a=some (.lst vs)/\aG K ρ H vs xs:=by
 cases r with
 | ob hn=>obtain⟨vs,e,l⟩:=S.at_ n _ _ hn q;exact⟨_,vs,rfl,hn,e,l⟩
theorem kc:Ce X "list.append" (rM X.K eJ):=by
 intro pins s σ H x xs v us Q I rx rs hh;obtain⟨ρ,h,d,ds,z,h',S,rd,l,ee,k⟩:=hh;cases d <;> first |(exact b7 ee) | skip
 rename_i n
 match ds,l,ee with
 | [],_,ee=>exact b7 ee
 | _::_::_,_,ee=>exact b7 ee
 | [y],l,ee=>
  unfold eJ at ee;dsimp only at ee;cases q:h[n]? with
  | none=>rw[q] at ee;cases ee
  | some w=>
   rw[q] at ee;cases w with
   | dct _=>exact b7 ee
   | dcH _=>exact b7 ee
   | exc _=>exact b7 ee
   | lst ys=>
    dsimp only at ee
    by_cases c:ys.length < sizeLine
    ·rw[Si c] at ee;cases ee;obtain⟨a,vs,rfl,hn,e1,l1⟩:=Au S rd q;obtain⟨u,rfl,ru⟩:=rep1 l;have T:cT ρ H ρ (upd H a (.lst (vs++[u]))):=cT.wrote S (Sd hn);exact oG pins s σ H _ _ v us Q I rx rs ⟨a,vs,u,rfl,rfl,e1,by rw[l1.length];exact c,k _ _ ⟨ρ,T,S.wrote hn ⟨_,aO,(l1.snoc ru).mono T.toCh⟩,.cq⟩⟩
    ·rw[Sv c] at ee;cases ee
theorem vv:Ce X "list.extend" (rM X.K kd):=by
 intro pins s σ H x xs v us Q I rx rs hh;obtain⟨ρ,h,d,ds,z,h',S,rd,l,ee,k⟩:=hh;cases d <;> first |(exact b7 ee) | skip
 rename_i n
 match ds,l,ee with
 | [],_,ee=>exact b7 ee
 | _::_::_,_,ee=>exact b7 ee
 | [y],l,ee=>
  unfold kd at ee;dsimp only at ee;cases q:h[n]? with
  | none=>rw[q] at ee;cases ee
  | some w=>
   rw[q] at ee;cases w with
   | dct _=>exact b7 ee
   | dcH _=>exact b7 ee
   | exc _=>exact b7 ee
   | lst ys=>
    dsimp only at ee;obtain⟨zs,e2,e3⟩:=bw ee
    by_cases c:ys.length+zs.length<=sizeLine
    ·rw[Si c] at e3;cases e3;obtain⟨a,vs,rfl,hn,e1,l1⟩:=Au S rd q;obtain⟨u,rfl,ru⟩:=rep1 l;obtain⟨b,ws,rfl,eb,l2⟩:=dI S ru e2;have T:cT ρ H ρ (upd H a (.lst (vs++ws))):=cT.wrote S (Sd hn);exact CN pins s σ H _ _ v us Q I rx rs ⟨a,b,vs,ws,rfl,rfl,e1,eb,by rw[l1.length,l2.length];exact c,k _ _ ⟨ρ,T,S.wrote hn ⟨_,aO,(l1.append l2).mono T.toCh⟩,.cq⟩⟩
    ·rw[Sv c] at e3;cases e3
theorem LN:Ce X "list.pop" (rM X.K Iy):=by
 intro pins s σ H x xs v us Q I rx rs hh;obtain⟨ρ,h,d,ds,z,h',S,rd,l,ee,k⟩:=hh;cases d <;> first |(exact b7 ee) | skip
 rename_i n
 match ds,l,ee with
 | _::_,_,ee=>exact b7 ee
 | [],l,ee=>
  unfold Iy at ee;dsimp only at ee;cases q:h[n]? with
  | none=>rw[q] at ee;cases ee
  | some w=>
   rw[q] at ee;cases w with
   | dct _=>exact b7 ee
   | dcH _=>exact b7 ee
   | exc _=>exact b7 ee
   | lst ys=>
    dsimp only at ee;obtain⟨y,e2,e3⟩:=gB ee;cases e3;obtain⟨a,vs,rfl,hn,e1,l1⟩:=Au S rd q;cases l;obtain⟨u,e4,r4⟩:=l1.got e2;have T:cT ρ H ρ (upd H a (.lst vs.dropLast)):=cT.wrote S (Sd hn);exact LL pins s σ H _ _ v us Q I rx rs ⟨a,vs,u,rfl,rfl,e1,by rw[l1.length];exact e4,k _ _ ⟨ρ,T,S.wrote hn ⟨_,aO,l1.dropLast.mono T.toCh⟩,r4.mono T.toCh⟩⟩
end Sm
namespace Sb
open PySem L2 PySem.Spec PyProof.Rows
open Builtin.SmallTypes (nextOf ownedTupleIsFree ownedTupleHandOut)
noncomputable def kn:Bool->String
 | true=>"list_iterator"
 | false=>"tuple_iterator"
def At(b:Bool)(h:Heap)(j l:Addr)(i:Nat):Prop:=∃o,h.get? j=some o/\o.cls=.type (kn b)/\o.data=.fields #[.ref l,.int i 0]
def Of(b:Bool)(h:Heap)(l:Addr)(items:Array Value):Prop:=match b with
 | true=>h.IsList l items
 | false=>h.IsTuple l items
theorem At.up(x:At b h j l i)(k:∀o,h.get? j=some o->h'.get? j=some o):At b h' j l i:=let⟨o,e,r⟩:=x;⟨o,k o e,r⟩
theorem At.lt(x:At b h j l i):j < h.objs.size:=let⟨_,e,_⟩:=x;SJ e
theorem Oy(hj:At b s.heap j l i)(hl:Of b s.heap l items)(hx:items[i]?=some x)(k:∀h',At b h' j l (i+1)->Heap.SameBut j s.heap h'->Q x {s with heap:=h'}):wpAny (model P w) A (nextOf (.ref j)) Q E s:=by
 cases b with
 | true=>exact wpAny_nextOf_list_item (show s.heap.IsListIter j l i from hj) (show s.heap.IsList l items from hl) hx k
 | false=>
  have hj':s.heap.IsTupleIter j l i:=hj;obtain⟨o,eo,ec,ed⟩:=hj';obtain⟨ol,el,_,nl,edl⟩:=(show s.heap.IsTuple l items from hl);unfold nextOf;refine Sa (Uu (name:=Str.ofString "__next__") (show s.TypeIs (.ref j) "tuple_iterator" from⟨o,eo,ec⟩) Vg
   (UY Vg (show s.TypeIs (.ref j) "tuple_iterator" from⟨o,eo,ec⟩) W8 ?_ (W2 _)))
  show wpAny _ _ (field (.ref j) 0 >>=_) _ _ s;refine Sa (Ui eo ed (x:=.ref l) rfl ?_);show wpAny _ _ (if(Value.ref l==Value.none)=true then _ else _) _ _ s;rw[Sv (show ¬((Value.ref l==Value.none)=true) by exact UA)];show wpAny _ _ (field (.ref j) 1 >>=_) _ _ s;refine Sa (Ui eo ed (x:=.int i 0) rfl ?_);show wpAny _ _ (seqItems? (.ref l) >>=_) _ _ s;refine Sa (VR el edl ?_);simp only[U6,hx];refine Sa (wpAny_setField eo ed (by simp) (Sy ⟨x,rfl,Sy (k _ ?_ (Heap.SameBut.update ..))⟩));exact⟨_,Vy _ eo (Obj.isFreed_of_fields (Obj.data_mapFields ed _)),(Obj.cls_mapFields ..).trans ec,by rw[Obj.data_mapFields ed];simp[rawInt]⟩
theorem Oz(hh:A.handled=none)(hj:At b s.heap j l i)(hl:Of b s.heap l items)(hx:items[i]?=none)(k:∀h' e,Heap.ExtBut j s.heap h'->(∃o,h'.get? e=some o/\o.cls=.type "StopIteration")->E (.ref e) {s with heap:=h'}):wpAny (model P w) A (nextOf (.ref j)) Q E s:=by
 cases b with
 | true=>exact wpAny_nextOf_list_end hh (show s.heap.IsListIter j l i from hj) (show s.heap.IsList l items from hl) hx k
 | false=>
  have hj':s.heap.IsTupleIter j l i:=hj;obtain⟨o,eo,ec,ed⟩:=hj';obtain⟨ol,el,_,nl,edl⟩:=(show s.heap.IsTuple l items from hl);unfold nextOf;refine Sa (Uu (name:=Str.ofString "__next__") (show s.TypeIs (.ref j) "tuple_iterator" from⟨o,eo,ec⟩) Vg
   (UY Vg (show s.TypeIs (.ref j) "tuple_iterator" from⟨o,eo,ec⟩) W8 ?_ (W2 _)))
  show wpAny _ _ (field (.ref j) 0 >>=_) _ _ s;refine Sa (Ui eo ed (x:=.ref l) rfl ?_);show wpAny _ _ (if(Value.ref l==Value.none)=true then _ else _) _ _ s;rw[Sv (show ¬((Value.ref l==Value.none)=true) by exact UA)];show wpAny _ _ (field (.ref j) 1 >>=_) _ _ s;refine Sa (Ui eo ed (x:=.int i 0) rfl ?_);show wpAny _ _ (seqItems? (.ref l) >>=_) _ _ s;refine Sa (VR el edl ?_);simp only[U6,hx];refine Sa (VD (Sa (wpAny_setField eo ed (by simp) ?_)));show wpAny _ _ (newExc (.type "StopIteration") [] >>=_) _ _ _;refine Sa ?_;simp only[newExc,newTuple];refine Sa (TZ ?_ (by size_fits));refine Sa (m:=firstArgMember _ _) (wpAny_of_eq (a:=Value.none) (by first |(simp only[firstArgMember];rfl) | rfl) ?_);refine TZ ?_ (by size_fits);simp only[raiseNew];refine Sa (wpAny_handled ?_)
  first | rw[hh] | rw[show A.in1.handled=none from hh]
  refine Sa (Sy (wpAny_throw (k _ _ (((Heap.SameBut.update ..).extBut.push _).push _) ⟨_,Tc _ rfl,rfl⟩)))
open Builtin.SmallTypes (nextOf ownedTupleIsFree ownedTupleHandOut)
variable {P:Program} {w:World} {A:Around} {E:Value->Shared->Prop} {s:Shared} {b c:Bool}
theorem Dl{e j l:Addr}{i:Nat}{items:Array Value}{x old:Value}{Q:Option Value->Shared->Prop}(hE:IsEnum s.heap e j i old)(hj:At b s.heap j l i)(hl:Of b s.heap l items)(hx:items[i]?=some x)(ne:e≠j)
  (k:∀h',IsEnumOut h' e j ((i:Int)+1) x s.heap.objs.size->At b h' j l (i+1)->h'.get? s.heap.objs.size=some {cls:=.type "tuple",data:=.seq #[.int i s.toks,x]}->h'.objs.size=s.heap.objs.size+1->
   (∀a o,a≠e->a≠j->s.heap.get? a=some o->h'.get? a=some o)->Q (some (.ref s.heap.objs.size)) {s with heap:=h',toks:=s.toks+1}):wpAny (model P w) A (pyNext (.ref e)) Q E s:=by
 have hT:s.TypeIs (.ref e) "enumerate":=⟨_,hE,rfl⟩;unfold pyNext;refine Sa (Wx (Uu (name:=Str.ofString "__next__") hT U9 (UY U9 hT F.entry_enumerate_next ?_ (Xw _))));obtain⟨hp,g,d,tk,os⟩:=s;show wpAny _ _ (field (.ref e) 2 >>=_) _ _ _;refine Sa (Ui hE rfl (x:=.ref j) rfl (Sa (Oy hj hl hx λk₁ j₁ t₁=>?_)));replace t₁:Heap.SameBut j hp k₁:=t₁;have E₁:IsEnum k₁ e j i old:=(t₁.2 e ne).trans hE;show wpAny _ _ (field (.ref e) 3 >>=_) _ _ ⟨k₁,g,d,tk,os⟩;refine Sa (Ui E₁ rfl (x:=rawInt i) rfl ?_);show wpAny _ _ (field (.ref e) 4 >>=_) _ _ ⟨k₁,g,d,tk,os⟩;refine Sa (Ui E₁ rfl (x:=.none) rfl ?_);show wpAny _ _ (mkInt i >>=_) _ _ ⟨k₁,g,d,tk,os⟩;refine Sa (wpAny_mkInt ?_);show wpAny _ _ (setField (.ref e) 3 (rawInt ((i:Int)+1)) >>=_) _ _ ⟨k₁,g,d,tk+1,os⟩;refine Sa (wpAny_setField_rec E₁ (by simp) λk₂ E₂ t₂=>?_);replace t₂:Heap.SameBut e k₁ k₂:=t₂;replace E₂:IsEnum k₂ e j ((i:Int)+1) old:=E₂;show wpAny _ _ (setField (.ref e) 4 .none >>=_) _ _ ⟨k₂,g,d,tk+1,os⟩;refine Sa (wpAny_setField_rec E₂ (by simp) λk₃ E₃ t₃=>?_);replace t₃:Heap.SameBut e k₂ k₃:=t₃;replace E₃:IsEnum k₃ e j ((i:Int)+1) old:=E₃;show wpAny _ _ (newTuple [.int i tk,x] >>=_) _ _ ⟨k₃,g,d,tk+1,os⟩;refine Sa (wpAny_newTuple ?_);have E₄:IsEnum (k₃.push {cls:=.type "tuple",data:=.seq #[.int i tk,x]}) e j ((i:Int)+1) old:=Ss _ E₃;generalize eq₄:k₃.push {cls:=.type "tuple",data:=.seq #[.int i tk,x]}=k₄ at E₄;have sz:k₃.objs.size=hp.objs.size:=by rw[t₃.1,t₂.1,t₁.1]
 have lte:e < hp.objs.size:=SJ hE;have tp:k₄.get? hp.objs.size=some {cls:=.type "tuple",data:=.seq #[.int i tk,x]}:=by rw[<-eq₄,<-sz];exact Tc _ rfl
 have sz₄:k₄.objs.size=hp.objs.size+1:=by rw[<-eq₄,VT,sz]
 have up₄:∀a o,a≠e->a≠j->hp.get? a=some o->k₄.get? a=some o:=λa o z1 z2 q=>by
  rw[<-eq₄];exact Ss _ (t₃.extBut a o z1 (t₂.extBut a o z1 (t₁.extBut a o z2 q)))
 have j₄:At b k₄ j l (i+1):=j₁.up λo q=>by rw[<-eq₄];exact Ss _ (t₃.extBut j o (Um ne) (t₂.extBut j o (Um ne) q))
 show wpAny _ _ (ownedTupleIsFree (.ref e) >>=_) _ _ ⟨k₄,g,d,tk+1,os⟩;rw[sz];clear eq₄ E₃ t₃ E₂ t₂ E₁ t₁ j₁ sz k₃ k₂ k₁;refine Sa ?_;unfold ownedTupleIsFree;refine Sa (Ui E₄ rfl (x:=.none) rfl (Sy ?_));simp only[VC];refine Sa (VD (Sa (Ui E₄ rfl (x:=old) rfl (Sa (wpAny_setField_rec E₄ (by simp) λk₅ E₅ t₅=>?_)))));replace t₅:Heap.SameBut e k₄ k₅:=t₅;replace E₅:IsEnum k₅ e j ((i:Int)+1) x:=E₅;show wpAny _ _ (ownedTupleHandOut (.ref e) (.ref hp.objs.size) >>=_) _ _ ⟨k₅,g,d,tk+1,os⟩;refine Sa ?_;unfold ownedTupleHandOut;refine Sa (wpAny_setField_rec E₅ (by simp) λk₆ E₆ t₆=>?_);replace t₆:Heap.SameBut e k₅ k₆:=t₆;replace E₆:IsEnumOut k₆ e j ((i:Int)+1) x hp.objs.size:=E₆;refine wpAny_setField_rec E₆ (by simp) λk₇ E₇ t₇=>?_;replace t₇:Heap.SameBut e k₆ k₇:=t₇;replace E₇:IsEnumOut k₇ e j ((i:Int)+1) x hp.objs.size:=E₇;have up:∀a o,a≠e->k₄.get? a=some o->k₇.get? a=some o:=λa o z q=>t₇.extBut a o z (t₆.extBut a o z (t₅.extBut a o z q));refine Sa (Wl (Sy ⟨_,rfl,Sy (k k₇ E₇ (j₄.up λo q=>up j o (Um ne) q) (up _ _ (VZ lte) tp) ?_ λa o z1 z2 q=>up a o z1 (up₄ a o z1 z2 q))⟩));rw[t₇.1,t₆.1,t₅.1,sz₄]
theorem Gh{e j l:Addr}{i:Nat}{items:Array Value}{old:Value}{Q:Option Value->Shared->Prop}(hh:A.handled=none)(hE:IsEnum s.heap e j i old)(hj:At b s.heap j l i)(hl:Of b s.heap l items)(hx:items[i]?=none)
  (k:∀h',Heap.ExtBut j s.heap h'->Q none {s with heap:=h'}):wpAny (model P w) A (pyNext (.ref e)) Q E s:=by
 have hT:s.TypeIs (.ref e) "enumerate":=⟨_,hE,rfl⟩;unfold pyNext;refine Sa (Wx (Uu (name:=Str.ofString "__next__") hT U9 (UY U9 hT F.entry_enumerate_next ?_ (Xw _))));show wpAny _ _ (field (.ref e) 2 >>=_) _ _ _;refine Sa (Ui hE rfl (x:=.ref j) rfl (Sa (Oz hh hj hl hx λh' y he' ⟨o,ho,hc⟩=>?_)));exact Sa (wpAny_isInstance (T:="StopIteration") (b:=true) ⟨o,ho,hc⟩ isSubtype_stop (Sy (k _ he')))
theorem Dk(x:Of b s.heap l items)(k:∀h',IsEnum h' (s.heap.objs.size+1) s.heap.objs.size 0 .none->At b h' s.heap.objs.size l 0->h'.objs.size=s.heap.objs.size+2->(∀a o,s.heap.get? a=some o->h'.get? a=some o)->Q (.ref (s.heap.objs.size+1)) {s with heap:=h'}):
  wpAny (model P w) A (call (.type "enumerate") [.ref l]) Q E s:=by
 cases b with
 | true=>exact call_enumerate_list (show s.heap.IsList l items from x) k
 | false=>
  have mt:PySem.Meets (Builtin.«enumerate.__new__» ⟨[.type "enumerate",.ref l],[]⟩) (λ_ R s=>s.heap.IsTuple l items/\
    R (.ok (.ret (.ref (s.heap.push {cls:=.type "tuple_iterator",data:=.fields #[.ref l,.int 0 0]}).objs.size)))
     {s with heap:=(s.heap.push {cls:=.type "tuple_iterator",data:=.fields #[.ref l,.int 0 0]}).push {cls:=.type "enumerate",data:=.fields #[.none,.bool false,.ref s.heap.objs.size,rawInt 0,.none,.none]}}):=
   .of_wp λprog w A R s h=>by
    obtain⟨hp,g,d,tk,os⟩:=s;obtain⟨hl,h⟩:=h;have sub:=sub_enumerate;have hL:Heap.IsTuple (Shared.heap ⟨hp,g,d,tk,os⟩) l items:=hl;obtain⟨o0,e0,c0,n0,d0⟩:=id hL
    wp_walk
    refine wpAny_stack_any λst=>Sy ?_
    split
    ·rename_i c _ _ _ _ _;cases(c==Value.type "enumerate")
     ·wp_walk using VS hL
      exact⟨_,rfl,h⟩
     ·wp_walk using VS hL
      exact⟨_,rfl,h⟩
    ·wp_walk using VS hL
     exact⟨_,rfl,h⟩
  refine callType_new F.called_enumerate (by decide) (F.typeCall_enumerate_1 _) (F.newCall_enumerate_1 _) (λobj=>F.args_object_init_2 obj _) F.entry_enumerate_new mt ⟨x,?_⟩;have z1:(s.heap.push {cls:=.type "tuple_iterator",data:=.fields #[.ref l,.int 0 0]}).objs.size=s.heap.objs.size+1:=VT ..;show _/\_;rw[z1];have eE:IsEnum ((s.heap.push {cls:=.type "tuple_iterator",data:=.fields #[.ref l,.int 0 0]}).push
    {cls:=.type "enumerate",data:=.fields #[.none,.bool false,.ref s.heap.objs.size,rawInt 0,.none,.none]}) (s.heap.objs.size+1) s.heap.objs.size 0 .none:=by
   have q:=Tc (s.heap.push {cls:=.type "tuple_iterator",data:=.fields #[.ref l,.int 0 0]}) (o:={cls:=.type "enumerate",data:=.fields #[.none,.bool false,.ref s.heap.objs.size,rawInt 0,.none,.none]}) rfl;rw[z1] at q;exact q
  refine⟨⟨_,eE,rfl⟩,k _ eE ⟨_,Ss _ (Tc _ rfl),rfl,rfl⟩ (by rw[VT,z1]) λa o q=>Ss _ (Ss _ q)⟩
end Sb
namespace Sb
open PySem L2 PySem.Spec PyProof.Rows
open Builtin.SmallTypes (nextOf ownedTupleIsFree ownedTupleHandOut)
section
variable {X:Cx} {pins:List (Addr×Obj)} {σ:L2.St} {H:Hp} {s:Shared} {h':Heap} {fp:List Addr}
theorem Bf(I:L2.Inv X pins σ H s)(k:∀b o,b∉fp->s.heap.get? b=some o->h'.get? b=some o)(hf:∀b∈fp,ib X pins H b):L2.Inv X pins σ H {s with heap:=h',toks:=t'}:=by
 have nit:∀b u,H b=some u->b∉fp:=λb u e z=>by rw[(hf b z).1] at e;cases e
 have nL:X.env.locals∉fp:=λz=>(hf _ z).2.1 rfl;refine I.step (g':=s.gens) (d':=s.drawn) (ch:=fp) (λb hb=>?_) (λb o _ _ hc e _=>k b o hc e) (λb o _ _ hc e _=>⟨o.slots,k b o hc e⟩) (λ_ _ _ _ n=>n)
  (λb o hc e=>⟨o,k b o hc e⟩) (λ_ _ e=>e) (λ_ _ _ e=>e) (λb ps e=>⟨#[],by rw[e];simp⟩) (λm hm=>?_) (λb u e=>?_) I.bare
 ·obtain⟨f0,f1,f2,f3,f4,f5⟩:=hf b hb;exact⟨f3,f1,f4,f5⟩
 ·obtain⟨o,es,ep,ho,r⟩:=hm;exact⟨o,es,ep,k _ o nL ho,r⟩
 ·refine(I.bg b u e).og (λc v hc q=>k c v ?_ q) (λ_ q=>q) λ_ _ q=>q;rcases hc with z | z
  ·rw[z];exact nit b u e
  ·exact nit c _ z
theorem Hh(I:L2.Inv X pins σ H s)(k:∀b o,b∉fp->s.heap.get? b=some o->h'.get? b=some o)(hf:∀b∈fp,ib X pins H b)(hlt:∀b∈fp,b < s.heap.objs.size)(ht:h'.get? s.heap.objs.size=some {cls:=.type "tuple",data:=.seq us.toArray n})(r:Vals vs us)(hz:vs.length<=sizeLine):L2.Inv X pins σ (upd H s.heap.objs.size (.tup vs)) {s with heap:=h',toks:=t'}:=by
 have nit:∀b u,H b=some u->b∉fp:=λb u e z=>by rw[(hf b z).1] at e;cases e
 have nL:X.env.locals∉fp:=λz=>(hf _ z).2.1 rfl;have hp:H s.heap.objs.size=none:=I.bg.fresh (Sj _);have np:∀b o,s.heap.get? b=some o->b≠s.heap.objs.size:=λb o e=>SX (SJ e);have nH:∀b u,H b=some u->b≠s.heap.objs.size:=λb u e=>aP e hp;refine I.step (g':=s.gens) (d':=s.drawn) (ch:=fp) (λb hb=>?_) (λb o _ _ hc e _=>k b o hc e) (λb o _ _ hc e _=>⟨o.slots,k b o hc e⟩) (λb o _ e n=>by rw[az (np b o e)];exact n)
  (λb o hc e=>⟨o,k b o hc e⟩) (λb _ e=>by rw[az (nH b _ e)];exact e) (λb _ _ e=>by rw[az (nH b _ e)];exact e) (λb ps e=>⟨#[],by rw[az (nH b _ e),e];simp⟩) (λm hm=>?_) (λb u e=>?_) I.bare
 ·obtain⟨f0,f1,f2,f3,f4,f5⟩:=hf b hb;exact⟨f3,f1,f4,f5⟩
 ·obtain⟨o,es,ep,ho,q⟩:=hm;exact⟨o,es,ep,k _ o nL ho,q⟩
 ·by_cases z:b=s.heap.objs.size
  ·subst z;rw[aO] at e;cases e;exact⟨hz,us,r,⟨_,ht,rfl,⟨n,rfl⟩,rfl⟩⟩
  ·rw[az z] at e;refine(I.bg b u e).og (λc v hc q=>k c v ?_ q) (λc q=>?_) (λc u q=>?_) λc u q=>?_
   ·rcases hc with y | y
    ·rw[y];exact nit b u e
    ·exact nit c _ y
   ·rw[az (nH _ _ q)];exact q
   ·rw[az (nH _ _ q)];exact q
   ·rw[az (nH _ _ q)];exact q
end
def G8(b:Bool)(K:FR)(H:Hp)(l:Addr)(xs:List V):Prop:=match b with
 | true=>gH K H l xs
 | false=>kF K H l xs
theorem G8.of(I:L2.Inv X pins σ H s)(q:G8 b X.K H l xs):∃its:List Value,Vals xs its/\Of b s.heap l its.toArray:=by
 cases b with
 | true=>obtain⟨its,r,p,_⟩:=I.list (show gH X.K H l xs from q);exact⟨its,r,p.isList⟩
 | false=>obtain⟨its,r,p,_⟩:=I.tuple (show kF X.K H l xs from q);exact⟨its,r,p⟩
theorem G8.inj(I:L2.Inv X pins σ H s)(q:G8 b X.K H l xs)(q':G8 b X.K H l ys):xs=ys:=by
 cases b with
 | true=>exact I.yU q q'
 | false=>exact I.uM q q'
noncomputable def RK(b:Bool)(K:FR)(l:Addr):It:=
 ⟨λi H=>∃xs x,G8 b K H l xs/\xs[i]?=some x,λi H x H'=>∃p y,H p=none/\x=.ref p/\H'=upd H p (.tup [.int (i:Int),y])/\∀xs,G8 b K H l xs->xs[i]?=some y,λi H=>∃xs,G8 b K H l xs/\xs.length<=i⟩
theorem Cn{P:Program}{w:World}{K:FR}{es:List Expr}{k0:Nat}{pos:Pos}(b:Bool)(l e j:Addr)(ne:e≠j):Turn P w K (.Tuple es k0 pos) (RK b K l) [e,j] e (λi h=>(∃old,IsEnum h e j i old)/\At b h j l i) where
 mem:=by simp
 obj:=λi h st a ha=>by
  obtain⟨⟨old,h1⟩,o,h2,_,d2⟩:=st;simp at ha;rcases ha with rfl | rfl
  ·exact⟨_,h1,λv z=>by cases z⟩
  ·exact⟨o,h2,λv z=>by rw[d2] at z;cases z⟩
 keep:=λi h h' ⟨⟨old,h1⟩,h2⟩ k=>⟨⟨old,k e (by simp) _ h1⟩,h2.up λo q=>k j (by simp) o q⟩
 item:=by
  intro X hP hw hK hc i pins s σ H E I hf st hg;subst hP hw hK;obtain⟨xs,x,hq,hx⟩:=hg;obtain⟨⟨old,h1⟩,h2⟩:=st;obtain⟨its,rv,hO⟩:=hq.of I;obtain⟨u,hu,ru⟩:=rv.get hx;have hlt:∀a∈[e,j],a < s.heap.objs.size:=λa ha=>by
   simp at ha;rcases ha with rfl | rfl
   ·exact SJ h1
   ·exact h2.lt
  refine Dl h1 h2 hO (x:=u) (by simpa using hu) ne λh' a1 a2 a3 a4 a5=>⟨_,rfl,wpAny_letOwnedTupleGo_enum a1 λh'' b1 b2=>?_⟩;have hp:H s.heap.objs.size=none:=I.bg.fresh (Sj _);have I1:=Hh (t':=s.toks+1) (vs:=[.int (i:Int),x]) (us:=[.int i s.toks,u]) (n:=0) I (λa o ha q=>a5 a o (λz=>ha (by simp[z])) (λz=>ha (by simp[z])) q) hf hlt a3 (.cons ⟨_,rfl⟩ (.cons ru .nil)) (show 2<=sizeLine by decide);have hf1:∀a∈[e,j],ib X pins (upd H s.heap.objs.size (.tup [.int (i:Int),x])) a:=λa ha=>by
   obtain⟨f0,f⟩:=hf a ha;exact⟨by rw[az (SX (hlt a ha))];exact f0,f⟩
  have I2:=Bf (t':=s.toks+1) I1 (h':=h'') (λa o ha q=>b2.extBut a o (λz=>ha (by simp[z])) q) hf1;exact⟨.ref s.heap.objs.size,_,I2,rfl,⟨_,x,hp,rfl,rfl,λys hy=>by rw[hy.inj I hq];exact hx⟩,⟨⟨_,by simpa using b1⟩,a2.up λo q=>b2.extBut j o (Um ne) q⟩,λa ha=>(hf1 a ha).1⟩
 done:=by
  intro X hP hw hK hc i pins s σ H E I hf st hg;subst hP hw hK;obtain⟨xs,hq,hx⟩:=hg;obtain⟨⟨old,h1⟩,h2⟩:=st;obtain⟨its,rv,hO⟩:=hq.of I;have hl:=rv.length;exact Gh (I.ok.hd hc) h1 h2 hO (by simp;lia) λh' eb=>⟨rfl,Bf (t':=s.toks) I (λa o ha q=>eb a o (λz=>ha (by simp[z])) q) hf⟩
 self:=λA i s Q E ⟨⟨old,h1⟩,_⟩ q=>by
  have hT:s.TypeIs (.ref e) "enumerate":=⟨_,h1,rfl⟩;refine wpAny_pyIter_slot hT F.slot_enumerate_iter (UY F.slot_enumerate_iter hT F.entry_enumerate_iter ?_ (F.args_enumerate_iter_1 _));show wpAny _ _ (ret (.ref e)) _ _ s;exact Sy ⟨_,rfl,"enumerate",_,hT,U9.lookup,q⟩
theorem DA:bootBuiltins "enumerate"=some (.type "enumerate"):=by decide+kernel
theorem Ib(hg:Gl X "enumerate")(hm:X.mg "enumerate"=none)(ha:PA X [a] ta)(hs:starEach [a] X.env=[(false,eval a X.env)]:=by ac_nf):
  PI X (.Tuple es k0 tpos) (.Call (.Name "enumerate" p) [a] [] pos) (λσ H R=>ta σ H λvs H1=>∃l b,vs=[.ref l]/\(∃xs,G8 b X.K H1 l xs)/\R (RK b X.K l) H1):=by
 intro pins s σ H R I h;refine Call_ (jO I hg hm DA (Ur (cD (ha pos pins s σ H _ I h) λus s1 ⟨vs,H1,I1,r1,q1⟩=>?_) hs rfl));obtain⟨l,b,e,⟨xs,hq⟩,q⟩:=q1;subst e;obtain⟨u,rfl,ru⟩:=Vals.one r1;obtain rfl:u=Value.ref l:=ru;obtain⟨its,rv,hO⟩:=hq.of I1;refine Dk hO λh' a1 a2 a3 a4=>?_;have I2:L2.Inv X pins σ H1 {s1 with heap:=h'}:=I1.kept (t':=s1.toks) a4;have hf:∀c∈[s1.heap.objs.size+1,s1.heap.objs.size],ib X pins H1 c:=λc hc=>by
  simp at hc;rcases hc with rfl | rfl
  ·exact I1.F1 (UL _) (I1.bg.fresh (UL _))
  ·exact I1.F1 (Sj _) (I1.bg.fresh (Sj _))
 have T:=Cn (P:=X.prog) (w:=X.w) (K:=X.K) (es:=es) (k0:=k0) (pos:=tpos) b l (s1.heap.objs.size+1) s1.heap.objs.size (Nat.succ_ne_self _);refine T.self X.A 0 {s1 with heap:=h'} _ X.xe ⟨⟨_,a1⟩,a2⟩ ?_;exact⟨_,[s1.heap.objs.size+1,s1.heap.objs.size],_,_,H1,rfl,I2,T,⟨⟨_,a1⟩,a2⟩,hf,q⟩
end Sb
namespace Sm
open PySem L2 PySem.Spec PyProof.Rows
noncomputable def iC:Nat->List D->List D
 | _,[]=>[]
 | k,x::r=>.tup [.int (k:Int),x]::iC (k+1) r
theorem oR:∀(xs:List D)(k i:Nat),(iC k xs)[i]?=(xs[i]?).map λx=>.tup [.int ((k+i:Nat):Int),x]
 | [],k,i=>by simp[iC]
 | x::r,k,0=>by simp[iC]
 | x::r,k,i+1=>by
  show(iC (k+1) r)[i]?=_;rw[oR r (k+1) i];simp only[WY];congr 1
  funext y
  rw[show k+1+i=k+(i+1) by lia]
theorem cK:∀(xs:List D)(k:Nat),(iC k xs).length=xs.length
 | [],_=>rfl
 | _::r,k=>by simp[iC,cK r (k+1)]
theorem SeqAt.PR{K:FR}{H:Hp}{a:Addr}{vs:List V}{b:Bool}(q:SeqAt K H a vs b):Sb.G8 b K H a vs:=by
 cases q with
 | l q=>exact q
 | t q=>exact q
noncomputable def pV(m:AM):IM:=λδ h=>(m δ h).bind λp=>match p.1 with
 | [d]=>(dP d p.2).map λq=>(iC 0 q.1,q.2,p.2)
 | _=>none
theorem QS{α:Type}{l:List α}(h:l.length=2):∃a b,l=[a,b]:=by
 cases l with
 | nil=>cases h
 | cons a l=>obtain⟨b,rfl⟩:=UW.mp (Nat.succ.inj h);exact⟨a,b,rfl⟩
theorem j6(hg:Gl X "enumerate")(hm:X.mg "enumerate"=none)(ha:SA X [a] m)(hl:kG m 1)(hs:starEach [a] X.env=[(false,eval a X.env)]:=by ac_nf):SI X (.Tuple es k0 tpos) (.Call (.Name "enumerate" p) [a] [] pos) (pV m):=
 (Sb.Ib hg hm ha hs).imp λσ H Q zz=>by
  obtain⟨ρ,δ,h,xs,ws,h',R,S,e,k⟩:=zz;obtain⟨⟨ds,h1⟩,e1,e2⟩:=bw e;refine⟨ρ,δ,h,ds,h1,R,S,e1,λvs ρ1 H1 T1 S1 r1=>?_⟩;obtain⟨d,rfl⟩:=UW.mp (hl _ _ _ _ e1);obtain⟨⟨ys,w⟩,e3,e4⟩:=gB e2;cases e4;obtain⟨v,rfl,rd⟩:=rep1 r1;obtain⟨a,rfl,⟨us,q,l⟩,st⟩:=rq S1 rd e3;refine⟨a,AF d,rfl,⟨us,q.PR⟩,k _ ρ1 H1 T1 S1 ⟨λρ2 H2 h2 T2 S2 hc i=>?_⟩⟩;obtain⟨ws,l2,q2⟩:=st ρ2 H2 h2 T2 S2 hc;refine⟨λhi=>⟨ws,q2.PR,by rw[l2.length];rw[cK] at hi;exact hi⟩,λx hx=>?_⟩;rw[oR] at hx;obtain⟨y,ey,hx⟩:=gB hx;subst hx;obtain⟨v,ev,rv⟩:=l2.got ey;refine⟨⟨ws,v,q2.PR,ev⟩,λu H3 ⟨p,y',hp,hu,hH,hy⟩=>?_⟩;subst hu;subst hH;have hy':y'=v:=by have:=hy ws q2.PR;rw[ev] at this;exact(Option.some.inj this).symm
  subst hy';refine⟨cT.laid S2 hp,S2.laid hp,.tup (.inl ⟨.inl aO,S2.fresh hp⟩) (.cons ?_ (.cons (rv.mono (cT.laid S2 hp).toCh) .nil))⟩;rw[Tp];exact .int _
noncomputable def xy(ls:List (Key×D)):List (Key×D)->Option Bool
 | []=>some true
 |(k,v)::r=>match qh ls k with
  | none=>some false
  | some u=>(vc v).bind λa=>(vc u).bind λb=>if a.depth<=60/\b.depth<=60 then(xy ls r).map λc=>PyData.eqv a b&&c else none
noncomputable def Gp(ks ls:List (Key×D)):Option Bool:=if ks.length=ls.length then xy ls ks else some false
noncomputable def JT(d e:D)(h:MH):Option Bool:=match eA d h,eA e h with
 | some ks,some ls=>Gp ks ls
 | _,_=>JS d e h
noncomputable def cS(d e:D)(h:MH):Option (D×MH):=(JT d e h).map λc=>(.bl c,h)
noncomputable def nj(d e:D)(h:MH):Option (D×MH):=(JT d e h).map λc=>(.bl (!c),h)
theorem IJ(hu:X.A.units+64 < cLine)(I:L2.Inv X pins σ H s)(lb:bJ X.K ρ H vs ls)(rb:KV vs kb):
  ∀{us:List (Key×V)} {ks:List (Key×D)} {ka:List (Key×Value)} {c:Bool},bJ X.K ρ H us ks->KV us ka->xy ls ks=some c->PySem.W.KeqHits X.A.in1 s kb ka c:=by
 intro us
 induction us with
 | nil=>
  intro ks ka c a ra e;cases a;cases ra;cases e;exact .nil
 | cons u0 us ih=>
  intro ks ka c a ra e;cases a with | @cons k v _ d _ r l=>
  cases ra with
  | cons ra rr=>
   rename_i p ka;obtain⟨k',y⟩:=p;obtain⟨ek,ry⟩:=ra;dsimp only at ek ry;subst ek;simp only[xy] at e;have rel:=rb.val k;rcases lb.val k with⟨h1,h2⟩ |⟨d',v',h1,h2,r'⟩
   ·rw[h1] at e;cases e;rw[h2] at rel;refine .miss ?_;cases q:valueAt kb k with
    | none=>rfl
    | some _=>rw[q] at rel;exact rel.elim
   ·rw[h1] at e;obtain⟨a,e1,e⟩:=bw e;obtain⟨b,e2,e⟩:=bw e
    by_cases z:a.depth<=60/\b.depth<=60
    ·rw[Si z] at e;obtain⟨c',e3,e4⟩:=gB e;subst e4;rw[h2] at rel;cases q:valueAt kb k with
     | none=>rw[q] at rel;exact rel.elim
     | some y'=>
      rw[q] at rel;obtain⟨r1,c1⟩:=r.uu e1;obtain⟨r2,c2⟩:=r'.uu e2;obtain⟨as,ra1⟩:=r1.reads I ry;obtain⟨bs,ra2⟩:=r2.reads I rel;refine .hit q (Vk a b _ s y y' as bs ra1 ra2 c1 c2 ?_) (ih l rr e3);have:min a.depth b.depth<=a.depth:=V2 _ _;show X.A.units+1+min a.depth b.depth < cLine
      lia
    ·rw[Sv z] at e;cases e
theorem Gg(hu:X.A.units+64 < cLine)(I:L2.Inv X pins σ H s)(rx:L2.RelV x v)(ry:L2.RelV y u)(S:bN X.K ρ h H)(rd:Rep X.K ρ H x d)(re:Rep X.K ρ H y e)(ee:JT d e h=some c):
  (∀Q:Value->Shared->Prop,Q (.bool c) s->wpAny (model X.prog X.w) X.A (compareOp .Eq v u) Q X.xe s)/\∀Q:Value->Shared->Prop,Q (.bool (!c)) s->wpAny (model X.prog X.w) X.A (compareOp .NotEq v u) Q X.xe s:=by
 have data:JS d e h=some c->(∀Q:Value->Shared->Prop,Q (.bool c) s->wpAny (model X.prog X.w) X.A (compareOp .Eq v u) Q X.xe s)/\∀Q:Value->Shared->Prop,Q (.bool (!c)) s->wpAny (model X.prog X.w) X.A (compareOp .NotEq v u) Q X.xe s:=by
  intro ee;obtain⟨a,e3,e4⟩:=bw ee;obtain⟨b,e5,e6⟩:=bw e4
  by_cases w:a.depth<=64/\b.depth<=64
  ·rw[Si w] at e6;cases e6;obtain⟨r1,c1⟩:=mF S rd e3;obtain⟨r2,c2⟩:=mF S re e5;obtain⟨as,ra⟩:=r1.reads I rx;obtain⟨bs,rb⟩:=r2.reads I ry;exact⟨λQ q=>eq_dataH ra rb (kz c1 w.1) (kz c2 w.2) hu q,λQ q=>ne_dataH ra rb (kz c1 w.1) (kz c2 w.2) hu q⟩
  ·rw[Sv w] at e6;cases e6
 unfold JT at ee;cases q1:eA d h with
 | none=>rw[q1] at ee;exact data ee
 | some ks=>
  cases q2:eA e h with
  | none=>rw[q1,q2] at ee;exact data ee
  | some ls=>
   rw[q1,q2] at ee;obtain⟨a,us,rfl,ha,la⟩:=i0 S rd q1;obtain⟨b,ws,rfl,hb,lb⟩:=i0 S re q2;obtain rfl:v=Value.ref a:=rx;obtain rfl:u=Value.ref b:=ry;obtain⟨_,na,ka,ra,da⟩:=BX I.bg ha;obtain⟨_,nb,kb,rb,db⟩:=BX I.bg hb;have l1:ka.length=ks.length:=by rw[<-la.length];exact(Paired.length ra).symm
   have l2:kb.length=ls.length:=by rw[<-lb.length];exact(Paired.length rb).symm
   dsimp only[Gp] at ee
   by_cases z:ks.length=ls.length
   ·rw[Si z] at ee;have hits:=IJ hu I lb rb la ra ee;have ez:(ka.length==kb.length&&c)=c:=by rw[l1,l2,z,TC,Bool.true_and]
    exact⟨λQ q=>PySem.W.keq_eq na nb da db (by lia) (λ_=>hits) (by rw[ez];exact q),λQ q=>PySem.W.keq_ne na nb da db (by lia) (λ_=>hits) (by rw[ez];exact q)⟩
   ·rw[Sv z] at ee;cases ee;have ez:(ka.length==kb.length&&false)=false:=Bool.and_false _;have nh:ka.length=kb.length->PySem.W.KeqHits X.A.in1 s kb ka false:=λq=>absurd (by rw[<-l1,<-l2];exact q) z;exact⟨λQ q=>PySem.W.keq_eq na nb da db (by lia) nh (by rw[ez];exact q),λQ q=>PySem.W.keq_ne na nb da db (by lia) nh (by rw[ez];exact q)⟩
theorem Fw(hu:X.A.units+64 < cLine):lR X (compareOp .Eq) cS:=by
 intro pins s σ H x y v u Q I rx ry hh;obtain⟨ρ,h,d,e,z,h',S,rd,re,ee,k⟩:=hh;obtain⟨c,e1,e2⟩:=gB ee;cases e2;exact(Gg hu I rx ry S rd re e1).1 _ ⟨.bl _,H,I,rfl,k _ _ (.here S (.bl _))⟩
theorem Al(hu:X.A.units+64 < cLine):lR X (compareOp .NotEq) nj:=by
 intro pins s σ H x y v u Q I rx ry hh;obtain⟨ρ,h,d,e,z,h',S,rd,re,ee,k⟩:=hh;obtain⟨c,e1,e2⟩:=gB ee;cases e2;exact(Gg hu I rx ry S rd re e1).2 _ ⟨.bl _,H,I,rfl,k _ _ (.here S (.bl _))⟩
noncomputable def Av(acc:List (Key×D))(ps:List (Key×D)):List (Key×D):=ps.foldl (λa p=>putD a p.1 p.2) acc
theorem bJ.merge{K:FR}{ρ:Ad}{H:Hp}:∀{kvs:List (Key×V)} {ps:List (Key×D)} {acc:List (Key×V)} {ac:List (Key×D)},bJ K ρ H acc ac->bJ K ρ H kvs ps->bJ K ρ H (gm acc kvs) (Av ac ps):=by
 intro kvs
 induction kvs with
 | nil=>intro ps acc ac a b;cases b;exact a
 | cons x kvs ih=>intro ps acc ac a b;cases b with | @cons k v _ d _ r l=>exact ih (acc:=putK acc k v) (ac:=putD ac k d) (a.put r) l
theorem B5:bootBuiltins "list"=some (.type "list"):=by decide+kernel
theorem tS:bootBuiltins "tuple"=some (.type "tuple"):=by decide+kernel
theorem Jk:bootBuiltins "bool"=some (.type "bool"):=by decide+kernel
theorem GJ:bootBuiltins "int"=some (.type "int"):=by decide+kernel
theorem xM:bootBuiltins "str"=some (.type "str"):=by decide+kernel
theorem tT:bootBuiltins "len"=some (.builtin "len"):=by decide+kernel
theorem MM:bootBuiltins "abs"=some (.builtin "abs"):=by decide+kernel
theorem dD:bootBuiltins "isinstance"=some (.builtin "isinstance"):=by decide+kernel
noncomputable def Ko(sc:Scope)(x:Str):Bool:=match sc.names.lookup x with
 | some .local=>true
 | some .cell=>true
 | some .free=>true
 | _=>false
noncomputable def IB(sc:Scope)(x:Str):Bool:=match sc.names.lookup x with
 | some .local=>true
 | some .cell=>true
 | _=>false
noncomputable def PZ(X:Cx)(x:Str):Bool:=X.fn x||(match X.env.scope.names.lookup x with
 | some .local=>true
 | _=>false)
theorem Kn(h:Ko sc x=true):MR sc x:=by
 unfold Ko at h
 split at h <;> first |(cases h;done) | skip
 ·exact .inl ‹_›
 ·exact .inr (.inl ‹_›)
 ·exact .inr (.inr ‹_›)
theorem FN(h:IB sc x=true):Loc sc x:=by
 unfold IB at h
 split at h <;> first |(cases h;done) | skip
 ·exact .inl ‹_›
 ·exact .inr ‹_›
theorem F3(h:PZ X x=true):X.fn x=true\/X.env.scope.names.lookup x=some .local:=by
 unfold PZ at h;rw[U0] at h;rcases h with h | h
 ·exact .inl h
 ·split at h
  ·exact .inr ‹_›
  ·cases h
theorem sv(i:Nat)(hN:X.N[i]?=some x:=by ac_nf)(hv:Ko X.env.scope x=true:=by ac_nf)(hd:(x==("__debug__":Str))=false:=by ac_nf)(hcd:(x==("__classdict__":Str))=false:=by ac_nf):SE X (.Name x pos) (ay i):=KI hN (Kn hv) hd hcd
theorem sset(i:Nat)(hN:X.N.Nodup)(he:SE X e ma)(hi:X.N[i]?=some x:=by ac_nf)(hx:IB X.env.scope x=true:=by ac_nf)(hs:swapsWith e (some (.Name x pos')) pos.line X.env=pure false:=by ac_nf)(hf:PZ X x=true:=by ac_nf):SS X (.Assign [.Name x pos'] e pos) (aV i ma):=Kz hN hi (FN hx) he hs (F3 hf)
theorem sgn(i:Nat)(hN:X.N.Nodup)(hi:X.N[i]?=some x:=by ac_nf)(hx:IB X.env.scope x=true:=by ac_nf)(hf:PZ X x=true:=by ac_nf):SG X (.Name x pos) (gN i):=Hq hN hi (FN hx) (F3 hf)
noncomputable def ue(i j:Nat)(m:AM):SM:=λδ h=>(m δ h).bind λp=>match p.1 with
 | [a,b]=>some (.nx,(δ.set i (some a)).set j (some b),p.2)
 | _=>none
theorem x9(i j:Nat){kt k2 pt2}(hN:X.N.Nodup)(hl:kG m 2)(hc:X.calm=true)(hij:i≠j)(P:PS X (.Assign [.Tuple [.Name x px,.Name y py] kt pt] (.Tuple [a,b] k2 pt2) pos) (NA i j (Rr X.K m))):
  SS X (.Assign [.Tuple [.Name x px,.Name y py] kt pt] (.Tuple [a,b] k2 pt2) pos) (ue i j m):=P.imp λE σ H zz=>by
 obtain⟨ρ,δ,h,fl,δ',h',R,S,e,k⟩:=zz;obtain⟨⟨ds,h1⟩,e1,e2⟩:=bw e;refine⟨ρ,δ,h,ds,h1,R,S,e1,λvs ρ1 H1 T1 S1 r1=>?_⟩;obtain⟨d,d',rfl⟩:=QS (hl _ _ _ _ e1);cases e2;obtain⟨v,u,rfl,rd,rd'⟩:=rep2 r1;exact⟨v,u,rfl,k ρ1 H1 T1 S1 _ (((R.mono T1.toCh).set rd i).set rd' j)⟩
structure Df(P:Program)(w:World)(K:FR)(mg:Str->Option Value)(base:Heap)(nm:Str)(k:Nat)(ps:List Str)(n:Nat)(F:Fn):Prop where
 ex:∃(f:Addr)(fd:FuncData),eS P w K mg base nU k f fd ps (Cv K n F)/\PySem.W.keepIn K (.ref f)=true/\Binds K fd ps []/\mg nm=some (.ref f)
theorem NY(d:Df X.prog X.w X.K X.mg X.base nm k ps n F)(hr:cL k' X.A)(hk:k<=k')(ha:SA X (e::es) m)(hl:kG m n)(hg:Gl X nm:=by unfold Gl;ac_nf)(hdb:(nm==("__debug__":Str))=false:=by ac_nf)(he:starEach (e::es) X.env=(false,eval e X.env)::starEach es X.env:=by ac_nf)(hpl:(backTo pos (starEach es X.env)).any (·.1)=false:=by ac_nf):SE X (.Call (.Name nm p) (e::es) [] pos) (ax F m):=by
 obtain⟨f,fd,G,kf,bf,mf⟩:=d.ex;exact Hy G (hr.mono hk) hg mf kf bf ha hl hdb he hpl
theorem gS{P:Program}{w:World}{K:FR}{mg:Str->Option Value}{base:Heap}{k n:Nat}{f:Addr}{fd:FuncData}{ps:List Str}:eS P w K mg base nU k f fd ps (Cv K n λ_ _=>none):=
 ⟨λvs H Q E hh=>(by obtain⟨_,_,_,_,_,_,_,_,e,_⟩:=hh;cases e),λA outer s H args us vs Q E _ _ _ _ hh=>(by obtain⟨_,_,_,_,_,_,_,_,e,_⟩:=hh;cases e)⟩
end Sm
namespace L2
open PySem PySem.Spec PyProof.Rows
abbrev TK:=St->Hp->(St->Hp->Prop)->Prop
def PM(B:Cx)(act:Sem Unit)(t:TK):Prop:=
 ∀(pins:List (Addr×Obj)) (s:Shared) (τ:St) (H:Hp) (N:St->Hp->Prop),Inv B pins τ H s->t τ H N->wpAny (model B.prog B.w) B.A act (λ_ s'=>∃τ' H',Inv B pins τ' H' s'/\N τ' H') B.xe s
def t4(J:It)(g:TG)(tc:TT)(tm:TK)(N:St->Hp->Prop)(τ0:St)(H0:Hp):Prop:=
 ∃W:Nat->Nat->St->Hp->Prop,(∃m,W 0 m τ0 H0)/\∀i m τ H2,W i m τ H2->
  (J.stop i H2/\N τ H2)\/(J.go i H2/\∃N':St->Hp->Prop,(∀τ' H',N' τ' H'->∃m',m' < m/\W (i+1) m' τ' H')/\∀x H',J.Js i H2 x H'->g x τ H' λτ2 H3=>
   tc τ2 H3 λb H4=>if b=true then tm τ2 H4 N' else N' τ2 H4)
noncomputable def iN(e:Expr)(d:Nat)(tg:Expr)(ifs:List Expr)(act:Sem Unit)(p:Pos)(it acc:Value)(env:Env):Sem Fin:=do
 standAt p
 match<-pyNext it with
 | none=>pure (.done .next)
 | some v=>
  letOwnedTupleGo tg it v
  assign tg env v
  let mut ok:=true
  for c in ifs do
   if ok then ok<-isTrue c env (eval c env)
  if ok then act
  again (.compLoop e d it acc env)
noncomputable def mV(e:Expr)(d:Nat)(iter:Expr)(acc:Value)(env:Env):Sem Unit:=do
 let x<-eval iter env
 standAt iter.pos
 let x<-foldedSetIterable iter env x;let _<-runOwn (.compStart e d (<-holding [x] (pyIter x)) acc env) env
noncomputable def nu(elt:Expr)(acc:Value)(env:Env):Sem Unit:=do let _<-call (.builtin "list.append") [acc,<-eval elt env]
theorem wc(elt t1 i1 t2 i2:Expr)(f1 f2:List Expr)(sc:Scope)(pos:Pos)(it acc:Value)(env:Env):
  compTurn (.ListComp elt [⟨t1,i1,f1,0⟩,⟨t2,i2,f2,0⟩] sc pos) 0 it acc env=iN (.ListComp elt [⟨t1,i1,f1,0⟩,⟨t2,i2,f2,0⟩] sc pos) 0 t1 f1 (mV (.ListComp elt [⟨t1,i1,f1,0⟩,⟨t2,i2,f2,0⟩] sc pos) 1 i2 acc env) i1.pos it acc env:=by
 refine Eq.trans (b:=(do
   standAt i1.pos
   match<-pyNext it with
   | none=>pure (.done .next)
   | some v=>
    letOwnedTupleGo t1 it v
    assign t1 env v
    let mut ok:=true
    for c in f1 do
     if ok then ok<-isTrue c env (eval c env)
    if ok then
     let x<-eval i2 env
     standAt i2.pos
     let x<-foldedSetIterable i2 env x;let _<-runOwn (.compStart (.ListComp elt [⟨t1,i1,f1,0⟩,⟨t2,i2,f2,0⟩] sc pos) 1 (<-holding [x] (pyIter x)) acc env) env
    again (.compLoop (.ListComp elt [⟨t1,i1,f1,0⟩,⟨t2,i2,f2,0⟩] sc pos) 0 it acc env):Sem Fin)) rfl ?_
 unfold iN mV;simp only[bind_assoc,pure_bind]
theorem wb(elt t1 i1 t2 i2:Expr)(f1 f2:List Expr)(sc:Scope)(pos:Pos)(it acc:Value)(env:Env):
  compTurn (.ListComp elt [⟨t1,i1,f1,0⟩,⟨t2,i2,f2,0⟩] sc pos) 1 it acc env=iN (.ListComp elt [⟨t1,i1,f1,0⟩,⟨t2,i2,f2,0⟩] sc pos) 1 t2 f2 (nu elt acc env) i2.pos it acc env:=by rfl
structure Plain(e:Expr):Prop where
 loop:∀(P:Program)(w:World)(d:Nat)(it acc:Value)(env:Env),(model P w).den (.compLoop e d it acc env)=(compTurn e d it acc env).onRaise (λx=>do noteFrame x env;theTreesLotGoes x)
 start:∀(P:Program)(w:World)(d:Nat)(it acc:Value)(env:Env),(model P w).den (.compStart e d it acc env)=(compStart e d it acc env).onRaise (λx=>do noteFrame x env;standAt theWindowsPlace)
 ul:∀(A:Around)(d:Nat)(it acc:Value)(env:Env),A.under (.compLoop e d it acc env)=A
 us:∀(A:Around)(d:Nat)(it acc:Value)(env:Env),A.under (.compStart e d it acc env)=A
theorem se(elt:Expr)(gs:List Comprehension)(sc:Scope)(pos:Pos):Plain (.ListComp elt gs sc pos):=⟨λ_ _ _ _ _ _=>rfl,λ_ _ _ _ _ _=>rfl,λ_ _ _ _ _=>rfl,λ_ _ _ _ _=>rfl⟩
theorem JX(hk:Plain e)(ht:compTurn e d (.ref it) acc B.env=iN e d tg ifs act p (.ref it) acc B.env)(hc:B.calm=true)(hx:B.xe=λ_ _=>False)(hg:PG B tg g)(hif:GV B ifs tc)(hm:PM B act tm)(I:Inv B pins τ H s)(T:Turn B.prog B.w B.K tg J fp it tn)(st:tn 0 s.heap)(hf:∀b∈fp,ib B pins H b)(hw:t4 J g tc tm N τ H):
  codeAny (model B.prog B.w) B.A (.compLoop e d (.ref it) acc B.env) (λr s'=>r=.ok .next/\∃τ' H',Inv B pins τ' H' s'/\N τ' H') s:=by
 obtain⟨W,⟨m0,w0⟩,turn⟩:=hw;have stat:∀{H':Hp},(∀b∈fp,H' b=none)->∀b∈fp,ib B pins H' b:=λhn b hb=>⟨hn b hb,(hf b hb).2⟩;have up:∀{α:Type} {t:Sem α} {Q:α->Shared->Prop} {E:Value->Shared->Prop} {s:Shared},wpAny (model B.prog B.w) B.A t Q B.xe s->wpAny (model B.prog B.w) B.A t Q E s:=λh=>Nv (hx ▸ h);refine codeAny_loop rfl (λn s'=>∃i τ' H',Inv B pins τ' H' s'/\tn i s'.heap/\(∀b∈fp,H' b=none)/\W i n τ' H') ?_ m0 ⟨0,_,_,I,st,λb hb=>(hf b hb).1,w0⟩;rintro n s4 ⟨i,τ4,H4,J4,st4,fr4,w4⟩;rw[hk.ul,hk.loop];refine wpAny_noted ?_;rw[ht];unfold iN;rcases turn i n τ4 H4 w4 with⟨stop,qn⟩ |⟨go,N',hN,step⟩
 ·refine Sa (Uc (Sa (Te (T.done B rfl rfl rfl hc i pins s4 τ4 H4 _ J4 (stat fr4) st4 stop) (λr s5 h5=>?_) λ_ _ e=>e)));obtain⟨hr,J5⟩:=h5;subst hr;exact Sy ⟨rfl,_,_,J5,qn⟩
 ·refine Sa (Uc (Sa (Te (T.item B rfl rfl rfl hc i pins s4 τ4 H4 _ J4 (stat fr4) st4 go) (λr s5 h5=>?_) λ_ _ e=>e)));obtain⟨u,hr,h5⟩:=h5;subst hr;refine Sa (Te h5 (λ_ s6 h6=>?_) λ_ _ e=>e);obtain⟨x,H6,J6,r6,y6,st6,fr6⟩:=h6;have J6':=J6.pinned (stat fr6) (T.obj _ _ st6);refine Sa (Te (up (hg _ s6 τ4 H6 x u _ J6' r6 (step x H6 y6))) (λ_ s7 h7=>?_) λ_ _ e=>e);obtain⟨τ7,H7,J7,q7⟩:=h7;have again:∀{τ8:St} {H8:Hp} {s8:Shared},Inv B (pins++oB fp s6.heap) τ8 H8 s8->N' τ8 H8->
    ∃m,m < n/\∃i τ' H',Inv B pins τ' H' s8/\tn i s8.heap/\(∀b∈fp,H' b=none)/\W i m τ' H':=λ{τ8 H8 s8} J8 n8=>by
   obtain⟨m',hm,w8⟩:=hN τ8 H8 n8;refine⟨m',hm,i+1,τ8,H8,J8.jl,T.keep _ _ _ st6 λb hb o e=>(J8.pin (b,o) (So _ (So _ (fh hb e)))).1,λb hb=>?_,w8⟩;obtain⟨o,e,d⟩:=T.obj _ _ st6 b hb;exact(J8.pin (b,o) (So _ (So _ (fh hb e)))).2.1
  refine Sa (Te (up (hif _ s7 τ7 H7 _ J7 q7)) (λok s8 h8=>?_) λ_ _ e=>e);obtain⟨H8,J8,q8⟩:=h8;cases ok with
  | false=>exact Sy ⟨rfl,again J8 (by simpa using q8)⟩
  | true=>
   have q8':tm τ7 H8 N':=by simpa using q8
   refine Sa (Te (up (hm _ s8 τ7 H8 _ J8 q8')) (λ_ s9 h9=>?_) λ_ _ e=>e);obtain⟨τ9,H9,J9,n9⟩:=h9;exact Sy ⟨rfl,again J9 n9⟩
theorem Gr{env:Env}{it acc:Value}{iter:Expr}{prog:Program}{w:World}{A:Around}{s:Shared}{R:Result->Shared->Prop}(hk:Plain e)(hcl:(clausesOf e)[d]?=some ⟨tg,iter,ifs,0⟩)
  (h0:codeAny (model prog w) A (.compLoop e d it acc env) R s)
  (h:wpAny (model prog w) A (pyIter it) (λit' s'=>codeAny (model prog w) A (.compLoop e d it' acc env) R s') (notedBy (model prog w) A env λx s'=>R (.error x) s') s):
  codeAny (model prog w) A (.compStart e d it acc env) R s:=by
 refine codeAny_of_tree ?_;rw[hk.us,hk.start];refine wpAny_notedAt ?_;unfold compStart;rw[hcl];show wpAny _ _ (ask >>=_) _ _ s;refine Sa (wpAny_askSetting (wpAny_ite ?_))
 split
 ·first
   | exact Sa (Sy (Sy (And.intro rfl h0)))
   | exact Sy (And.intro rfl h0)
 ·first
   | exact Sa (VD (Sa (Uc (Sa (Te h (λit' s' h'=>Sy (And.intro rfl h')) λ_ _ x=>x)))))
   |(refine Sa (VD ?_);show wpAny _ _ (standAt iter.pos >>=_) _ _ s;exact Sa (Uc (Sa (Te h (λit' s' h'=>Sy (And.intro rfl h')) λ_ _ x=>x))))
def NG(wi:TI)(g:TG)(tc:TT)(tm:TK):TK:=λτ H N=>wi τ H λJ H1=>t4 J g tc tm N τ H1
theorem HW(hk:Plain e)(hcl:(clausesOf e)[d]?=some ⟨tg,iter,ifs,0⟩)(ht:∀it:Addr,compTurn e d (.ref it) acc B.env=iN e d tg ifs act p (.ref it) acc B.env)(hc:B.calm=true)(hx:B.xe=λ_ _=>False)(hi:PI B tg iter wi)(hg:PG B tg g)(hif:GV B ifs tc)(hm:PM B act tm)(hs:∀x,foldedSetIterable iter B.env x=pure x:=by intro _;rfl):PM B (mV e d iter acc B.env) (NG wi g tc tm):=by
 intro pins s τ H N I h;unfold mV;refine Sa (cD (hi pins s τ H _ I h) λv s1 h1=>?_);refine Sa (Uc (Sa (wpAny_of_eq (hs v) (Sa (Uq (cD h1 λitv s2 h2=>?_))))));obtain⟨it,fp,tn,J,H2,e,I2,T,st2,f2,hQ⟩:=h2;subst e;have lp:=JX hk (ht it) hc hx hg hif hm I2 T st2 f2 hQ;refine Sa (wpAny_runOwn (Vv (Gr hk hcl lp (T.self B.A 0 _ _ _ st2 lp)) λr s' hr=>?_));obtain⟨rfl,q⟩:=hr;exact Sy q
def M1(X:Cx)(na:Sem Value)(o:Addr->HO):Prop:=∀(pins:List (Addr×Obj)) (s:Shared) (σ:St) (H:Hp) (Q:Value->Shared->Prop) (E:Value->Shared->Prop),Inv X pins σ H s->
 (∀(obj:Obj)(t':Nat),Inv X pins σ (upd H s.heap.objs.size (o s.heap.objs.size)) {s with heap:=s.heap.push obj,toks:=t'}->Q (.ref s.heap.objs.size) {s with heap:=s.heap.push obj,toks:=t'})->wpAny (model X.prog X.w) X.A na Q E s
def wk(caps:List (Option Nat))(wi:TI)(o:Addr->HO)(g:TG)(tc:TT)(tm:Addr->TK):TE:=λσ H Q=>wi σ H λJ H1=>∀l,H1 l=none->t4 J g tc (tm l) (λ_ H'=>Q (.ref l) H') (jP caps σ) (upd H1 l (o l))
section
variable {X:Cx} {N':List Str} {caps:List (Option Nat)} {scope:Scope} {e tg iter:Expr} {ifs:List Expr} {p:Pos} {wi:TI} {g:TG} {tc:TT} {tm:Addr->TK} {o:Addr->HO} {na:Sem Value} {act:Addr->Env->Sem Unit}
theorem MC(S:bp X N' caps scope)(hc:X.calm=true)(hk:Plain e)(hcl:(clausesOf e)[0]?=some ⟨tg,iter,ifs,0⟩)(ht:∀(it l:Addr)(env:Env),compTurn e 0 (.ref it) (.ref l) env=iN e 0 tg ifs (act l env) p (.ref it) (.ref l) env)
  (hA:M1 X na o) (hg:∀C s₃ H₃ fp pl,PG (gF X N' scope C s₃ H₃ fp pl) tg g) (hif:∀C s₃ H₃ fp pl,GV (gF X N' scope C s₃ H₃ fp pl) ifs tc)
  (hm:∀C s₃ H₃ fp pl l,PM (gF X N' scope C s₃ H₃ fp pl) (act l (gF X N' scope C s₃ H₃ fp pl).env) (tm l)) {pins:List (Addr×Obj)} {σ:St} {H:Hp} {s:Shared} {it:Addr} {fp:List Addr} {tn:Nat->Heap->Prop} {J:It}
  (I:Inv X pins σ H s) (T:Turn X.prog X.w X.K tg J fp it tn) (st:tn 0 s.heap) (hf:∀b∈fp,ib X pins H b) {Q:VK} {RR:Value->Addr->Result->Shared->Prop} {E:Value->Shared->Prop}
  (h:∀l,H l=none->t4 J g tc (tm l) (λ_ H'=>Q (.ref l) H') (jP caps σ) (upd H l (o l)))
  (hRR:∀(l C:Addr)(H':Hp)(s':Shared),H' C=none->C≠X.env.locals->X.s₀.heap.objs.size<=C->(∀x c,X.env.cells.lookup x=some c->c≠C)->(∀p∈X.pn++pins,p.1≠C)->(∃m,s'.heap.Ns C m)->Inv X pins σ H' s'->
   (∀h'':Heap,(∀b u,b≠C->s'.heap.get? b=some u->h''.get? b=some u)->Inv X pins σ H' {s' with heap:=h''})->Q (.ref l) H'->RR (.ref l) C (.ok .next) s'):
  wpAny (model X.prog X.w) X.A na (λacc s₃=>wpAny (model X.prog X.w) X.A (newFunctionEnv scope X.env.globals (gc X.env scope.names []) [] X.env.qual none .none (some X.env)) (λcenv s₄=>
   codeAny (model X.prog X.w) X.A (.compStart e 0 (.ref it) acc {cenv with scope:=relabel scope X.env}) (RR acc cenv.locals) s₄) E s₃) E s:=by
 have hw:=h s.heap.objs.size I.fresh;refine hA pins s σ H _ _ I λobj t' I3=>Wk S.oE (by intro y hy;simp at hy) (λh₁ hns₁ hsb₁=>?_) S.kind;have hltf:∀b∈fp,b < s.heap.objs.size:=λb hb=>by
  obtain⟨o,e,_⟩:=T.obj 0 _ st b hb;exact SJ e
 have hf3:∀b∈fp,ib X pins (upd H s.heap.objs.size (o s.heap.objs.size)) b:=λb hb=>⟨by rw[az (SX (hltf b hb))];exact(hf b hb).1,(hf b hb).2⟩;have keep3:∀b u,(s.heap.push obj).get? b=some u->h₁.get? b=some u:=λb u e=>hsb₁.extBut b u (SX (SJ e)) (Ss _ e);have st3:tn 0 h₁:=T.keep 0 _ _ st λb hb o e=>keep3 b o (Ss _ e);have hlt3:∀b∈fp,b < (s.heap.push obj).objs.size:=λb hb=>by
  have:=hltf b hb;rw[VT];exact Xx this
 have J0:=Inv.block S I3 hc hf3 hlt3 hns₁ keep3 (t₄:=t');have fpB:∀b∈fp,ib (gF X N' scope (s.heap.push obj).objs.size {s with heap:=s.heap.push obj,toks:=t'} (upd H s.heap.objs.size (o s.heap.objs.size)) fp pins) [] (upd H s.heap.objs.size (o s.heap.objs.size)) b:=λb hb=>by
  obtain⟨f0,f1,f2,f3,f4,f5⟩:=hf3 b hb;refine⟨f0,SX (hlt3 b hb),λz=>?_,.inl hb,λx c e=>f4 x c (S.look I3.ok e),λp hp=>?_⟩
  ·rcases Sr.mp (I3.n6 b z) with q | q
   ·exact f1 q
   ·exact f2 q
  ·rcases SF.mp hp with q | q
   ·exact f5 p q
   ·cases q
 have lp:=JX hk (ht it s.heap.objs.size _) rfl rfl (hg _ _ _ _ _) (hif _ _ _ _ _) (hm _ _ _ _ _ s.heap.objs.size) J0 T st3 fpB hw;refine Vv (Gr hk hcl lp (T.self X.A 0 _ _ _ st3 lp)) λr s' hr=>?_;obtain⟨rfl,τ,H',J,q⟩:=hr;refine hRR _ _ H' s' J.free ?_ ?_ ?_ ?_ ?_ ?_ ?_ q
 ·exact(SX I3.lt).symm
 ·exact I3.sz
 ·intro x c e z;obtain⟨v,o,ho,_⟩:=I3.cell x c e;exact SX (SJ ho) z
 ·intro p hp z;obtain⟨e,_⟩:=I3.pin p hp;exact SX (SJ e) z
 ·obtain⟨m,hm,_⟩:=J.loc;exact⟨m,hm⟩
 ·have:=Inv.qA S I3 hf3 J (h'':=s'.heap) λb u _ e=>e;exact this
 ·exactλh'' hs=>Inv.qA S I3 hf3 J hs
theorem Fi(S:bp X N' caps scope)(hc:X.calm=true)(hk:Plain e)(hcl:clausesOf e=⟨tg,iter,ifs,0⟩::gs)(ht:∀(it l:Addr)(env:Env),compTurn e 0 (.ref it) (.ref l) env=iN e 0 tg ifs (act l env) p (.ref it) (.ref l) env)(hA:M1 X na o)(hi:PI X tg iter wi)(hg:∀C s₃ H₃ fp pl,PG (gF X N' scope C s₃ H₃ fp pl) tg g)(hif:∀C s₃ H₃ fp pl,GV (gF X N' scope C s₃ H₃ fp pl) ifs tc)(hm:∀C s₃ H₃ fp pl l,PM (gF X N' scope C s₃ H₃ fp pl) (act l (gF X N' scope C s₃ H₃ fp pl).env) (tm l))(he:eval e X.env=comprehension e scope X.env p0 na false (eval iter X.env))(hs:∀x,foldedSetIterable iter X.env x=pure x:=by intro _;rfl):PE X e (wk caps wi o g tc tm):=by
 intro pins s σ H Q I h;rw[he];refine V5 (use:=none) hcl hs (i5 (S.has I.ok)) S.kind S.names (cD (hi pins s σ H _ I h) λv s1 h1=>cD h1 λitv s2 h2=>?_);obtain⟨it,fp,tn,J,H2,e,I2,T,st2,f2,hQ⟩:=h2;subst e;refine MC (RR:=λacc C=>compPost (model X.prog X.w) X.A X.xe none (EP X pins σ Q) acc C) S hc hk (by rw[hcl];rfl) ht hA hg hif hm I2 T st2 f2 hQ ?_;intro l C H' s' _ _ _ _ _ hm _ hI q;obtain⟨m,hm⟩:=hm;exact⟨m,hm,λh'' hs''=>⟨.ref l,H',hI h'' λb u hb e=>hs''.extBut b u hb e,rfl,q⟩⟩
end
end L2
namespace Sm
open PySem L2 PySem.Spec PyProof.Rows
structure Ac(α:Type)where
 at_:FR->Ad->Hp->Addr->α->Prop
 mono:∀{K:FR} {ρ ρ':Ad} {H H':Hp} {l:Addr} {a:α},at_ K ρ H l a->Ch ρ H ρ' H'->H' l=H l->at_ K ρ' H' l a
abbrev MK(α:Type):=DS->MH->α->Option (DS×MH×α)
noncomputable def gu{α:Type}(ws:W)(g:GM)(c:TM)(m:MK α):List D->MK α
 | [],δ,h,a=>if nC ws h then some (δ,h,a) else none
 | x::r,δ,h,a=>if nC ws h then(g x δ h).bind λq=>(c q.1 q.2).bind λt=>if t.1 then(m q.1 t.2 a).bind λz=>gu ws g c m r z.1 z.2.1 z.2.2 else gu ws g c m r q.1 t.2 a else none
structure nO(l:Addr)(ρ:Ad)(H:Hp)(ρ':Ad)(H':Hp):Prop where
 ch:Ch ρ H ρ' H'
 rs:ρ'.rs=ρ.rs
 res:∀b∈ρ.rs,b≠l->H' b=H b
theorem nO.refl:nO l ρ H ρ H:=⟨.refl _ _,rfl,λ_ _ _=>rfl⟩
theorem nO.trans(a:nO l ρ H ρ1 H1)(b:nO l ρ1 H1 ρ2 H2):nO l ρ H ρ2 H2:=⟨a.ch.trans b.ch,b.rs.trans a.rs,λx hx n=>(b.res x (a.rs ▸ hx) n).trans (a.res x hx n)⟩
theorem cT.P9(a:cT ρ H ρ1 H1):nO l ρ H ρ1 H1:=⟨a.toCh,a.rs,λb hb _=>a.res b hb⟩
inductive Po{α:Type}(K:FR)(A:Ac α)(l:Addr)(m:MK α)(τ:L2.St)(H:Hp)(N:L2.St->Hp->Prop):Prop where
 | mk (ρ δ h a δ' h' a'):cy K ρ H τ δ->bN K ρ h H->l∈ρ.rs->A.at_ K ρ H l a->(m δ h a=some (δ',h',a'))->(∀ρ' H' τ',nO l ρ H ρ' H'->bN K ρ' h' H'->cy K ρ' H' τ' δ'->A.at_ K ρ' H' l a'->N τ' H')->Po K A l m τ H N
def M5{α:Type}(K:FR)(A:Ac α)(l:Addr)(m:MK α):TK:=λτ H N=>Po K A l m τ H N
section
variable {α:Type} {K:FR} {A:Ac α} {l:Addr} {g:GM} {mt:TM} {m:MK α}
theorem Br(It:Nc K J ρ H ws xs)(T1:Ch ρ H ρ1 H1)(R:cy K ρ1 H1 τ δ)(S:bN K ρ1 h H1)(hl:l∈ρ1.rs)(hA:A.at_ K ρ1 H1 l a)(e:gu ws g mt m xs δ h a=some (δ',h',a'))(k:∀ρ2 H2 τ2,nO l ρ1 H1 ρ2 H2->bN K ρ2 h' H2->cy K ρ2 H2 τ2 δ'->A.at_ K ρ2 H2 l a'->N τ2 H2):t4 J (G0 K g) (DI K mt) (M5 K A l m) N τ H1:=by
 refine⟨λi n τ2 H2=>∃(ρ2:Ad)(δ2:DS)(h2:MH)(a2:α),n=xs.length-i/\i<=xs.length/\nO l ρ1 H1 ρ2 H2/\cy K ρ2 H2 τ2 δ2/\bN K ρ2 h2 H2/\A.at_ K ρ2 H2 l a2/\gu ws g mt m (xs.drop i) δ2 h2 a2=some (δ',h',a'),
  ⟨_,ρ1,δ,h,a,rfl,UK _,.refl,R,S,hA,e⟩,?_⟩
 rintro i n τ2 H2 ⟨ρ2,δ2,h2,a2,rfl,hi,T2,R2,S2,hA2,e3⟩;have hl2:l∈ρ2.rs:=by rw[T2.rs];exact hl
 cases q:xs.drop i with
 | nil=>
  rw[q] at e3;unfold gu at e3
  by_cases hc:nC ws h2=true
  ·rw[Si hc] at e3;cases e3;have hle:xs.length<=i:=by have:=congrArg List.length q;rw[Uh,TY] at this;lia
   exact .inl ⟨(It.run _ H2 _ (T1.trans T2.ch) S2 hc i).1 hle,k _ _ _ T2 S2 R2 hA2⟩
  ·rw[Sv hc] at e3;cases e3
 | cons x r=>
  rw[q] at e3;unfold gu at e3
  by_cases hc:nC ws h2=true
  ·rw[Si hc] at e3;have hx:xs[i]?=some x:=by
    have:=congrArg (λl=>l[0]?) q
    simpa using this
   have hlt:i < xs.length:=(Se.mp hx).1;have hr:xs.drop (i+1)=r:=by
    have:=congrArg List.tail q
    simpa using this
   obtain⟨⟨δ3,h3⟩,e4,e5⟩:=bw e3;obtain⟨⟨t,h4⟩,e6,e7⟩:=bw e5;dsimp only at e4 e5 e6 e7;obtain⟨hgo,hy⟩:=(It.run _ H2 h2 (T1.trans T2.ch) S2 hc i).2 x hx;refine .inr ⟨hgo,λτ5 H5=>∃(ρ5:Ad)(δ5:DS)(h5:MH)(a5:α),nO l ρ1 H1 ρ5 H5/\cy K ρ5 H5 τ5 δ5/\bN K ρ5 h5 H5/\A.at_ K ρ5 H5 l a5/\gu ws g mt m r δ5 h5 a5=some (δ',h',a'),?_,?_⟩
   ·rintro τ5 H5 ⟨ρ5,δ5,h5,a5,T5,R5,S5,A5,e5⟩;exact⟨xs.length-(i+1),by lia,ρ5,δ5,h5,a5,rfl,hlt,T5,R5,S5,A5,by rw[hr];exact e5⟩
   ·intro v H3 y3;obtain⟨T3,S3,r3⟩:=hy v H3 y3;refine⟨ρ2,δ2,h2,x,δ3,h3,R2.mono T3.toCh,S3,r3,e4,λρ4 H4 τ4 T4 S4 R4=>?_⟩;refine⟨ρ4,δ3,h3,t,h4,R4,S4,e6,λρ5 H5 T5 S5=>?_⟩;have T25:cT ρ2 H2 ρ5 H5:=T3.trans (T4.trans T5);have A5:A.at_ K ρ5 H5 l a2:=A.mono hA2 T25.toCh (T25.res l hl2);cases t with
    | false=>
     rw[Sv (by simp)] at e7;exact Mb ⟨ρ5,δ3,h4,a2,T2.trans T25.P9,R4.mono T5.toCh,S5,A5,e7⟩
    | true=>
     rw[Si rfl] at e7;obtain⟨⟨δ6,h6,a6⟩,e8,e9⟩:=bw e7;refine Ma ⟨ρ5,δ3,h4,a2,δ6,h6,a6,R4.mono T5.toCh,S5,by rw[T25.rs];exact hl2,A5,e8,λρ7 H7 τ7 T7 S7 R7 A7=>?_⟩;exact⟨ρ7,δ6,h6,a6,(T2.trans T25.P9).trans T7,R7,S7,A7,e9⟩
  ·rw[Sv hc] at e3;cases e3
theorem EJ(h0:∀ρ H l,A.at_ K ρ (upd H l (o l)) l a0)(hh:∃ρ δ h xs ws h1 δ' h' a',cy K ρ H σ δ/\bN K ρ h H/\mi δ h=some (xs,ws,h1)/\gu ws g mt m xs (fK caps δ) h1 a0=some (δ',h',a')/\∀l ρ' H',cT ρ H ρ' H'->bN K ρ' h' H'->¬ρ'.has l->A.at_ K ρ' H' l a'->Q (.ref l) H'):
  wk caps (M6 K mi) o (G0 K g) (DI K mt) (λl=>M5 K A l m) σ H Q:=by
 obtain⟨ρ,δ,h,xs,ws,h1,δ',h',a',R,S,e1,e2,k⟩:=hh;refine⟨ρ,δ,h,xs,ws,h1,R,S,e1,λJ ρ1 H1 T1 S1 It l hl=>?_⟩;have nl:¬ρ1.has l:=S1.fresh hl;have Tl:Ch ρ1 H1 (ρ1.keep l) (upd H1 l (o l)):=Ch.keep hl;refine Br It Tl (((R.mono T1.toCh).jP caps).mono Tl) (S1.keep hl) (Sk) (h0 _ _ _) e2 λρ2 H2 τ2 T2 S2 R2 A2=>?_;obtain⟨ob2,rs2⟩:=ρ2;have ers:rs2=l::ρ1.rs:=T2.rs;subst ers;have hsub:∀b∈ρ1.rs,b∈l::ρ1.rs:=λb hb=>Sq _ hb;have C2:Ch ⟨ob2,l::ρ1.rs⟩ H2 ⟨ob2,ρ1.rs⟩ H2:=Ch.free hsub;have hne:∀b∈ρ1.rs,b≠l:=λb hb z=>nl (.inr (z ▸ hb));have T2':cT ρ1 H1 ⟨ob2,ρ1.rs⟩ H2:=⟨(Tl.trans T2.ch).trans C2,rfl,λb hb=>(T2.res b (hsub b hb) (hne b hb)).trans (az (hne b hb))⟩;refine k l _ H2 (T1.trans T2') (S2.free hsub) (λz=>?_) (A.mono A2 C2 rfl);rcases z with z | z
 ·exact(S2.t6 l Sk).2 z
 ·exact nl (.inr z)
end
def Rf{α:Type}(X:Cx)(act:Addr->Env->Sem Unit)(A:Ac α)(m:MK α):Prop:=∀l,L2.PM X (act l X.env) (M5 X.K A l m)
theorem _root_.L2.PM.imp(h:L2.PM X a t)(i:∀σ H Q,t' σ H Q->t σ H Q):L2.PM X a t':=λpins s σ H Q I q=>h pins s σ H Q I (i σ H Q q)
noncomputable def pP{α:Type}(i:IM)(g:GM)(c:TM)(m:MK α):MK α:=λδ h a=>(i δ h).bind λp=>gu p.2.1 g c m p.1 δ p.2.2 a
section
variable {α:Type} {X:Cx} {A:Ac α} {g:GM} {mt:TM} {m:MK α} {mi:IM} {e tg iter:Expr} {ifs:List Expr} {d:Nat} {p:Pos} {act:Addr->Env->Sem Unit}
theorem Hl(hk:Plain e)(hcl:(clausesOf e)[d]?=some ⟨tg,iter,ifs,0⟩)(ht:∀(it l:Addr)(env:Env),compTurn e d (.ref it) (.ref l) env=iN e d tg ifs (act l env) p (.ref it) (.ref l) env)(hc:X.calm=true)(hx:X.xe=λ_ _=>False)
  (hi:SI X tg iter mi) (hg:SG X tg g) (hif:MW X ifs mt) (hm:Rf X act A m) (hs:∀x,foldedSetIterable iter X.env x=pure x:=by intro _;ac_nf):Rf X (λl env=>mV e d iter (.ref l) env) A (pP mi g mt m):=λl=>
 (HW hk hcl (λit=>ht it l X.env) hc hx hi hg hif (hm l) hs).imp λσ H Q ⟨ρ,δ,h,a,δ',h',a',R,S,hl,hA,ee,k⟩=>by
  obtain⟨⟨xs,ws,h1⟩,e1,e2⟩:=bw ee;exact⟨ρ,δ,h,xs,ws,h1,R,S,e1,λJ ρ1 H1 T1 S1 It=>Br It (.refl _ _) (R.mono T1.toCh) S1 (by rw[T1.rs];exact hl) (A.mono hA T1.toCh (T1.res l hl)) e2 λρ2 H2 τ2 T2 S2 R2 A2=>k ρ2 H2 τ2 (T1.P9.trans T2) S2 R2 A2⟩
end
end Sm
namespace L2
open PySem PySem.Spec PyProof.Rows
section
variable {P:Program} {w:World} {A:Around} {E:Value->Shared->Prop} {s:Shared} {a:Addr} {ks:List Str}
end
noncomputable def DJ(a b:Str):Bool:=!ltCps b.cps.toList a.cps.toList
theorem iY:DJ a b=true↔strKind.kle a.cps.toList b.cps.toList:=by
 unfold DJ KeyOrd.kle;rw[ltCps_eq];simp
theorem vA(a b c:Str)(h1:DJ a b=true)(h2:DJ b c=true):DJ a c=true:=iY.mpr (KeyOrd.kle_trans (iY.mp h1) (iY.mp h2))
theorem C5(a b:Str):(DJ a b||DJ b a)=true:=by
 rw[U0]
 by_cases z:strKind.klt b.cps.toList a.cps.toList
 ·exact .inr (iY.mpr (KeyOrd.kle_of_klt z))
 ·exact .inl (iY.mpr (KeyOrd.kle_of_not_klt z))
theorem FO(a b:Str)(h1:DJ a b=true)(h2:DJ b a=true):a=b:=by
 have:=KeyOrd.kle_antisymm (iY.mp h1) (iY.mp h2);cases a;cases b;congr 1;exact Array.toList_inj.mp this
noncomputable def jb(ks:List Str):List Str:=ks.mergeSort DJ
theorem eZ(ks:List Str):(jb ks).Perm ks:=Xg _ _
theorem wt(ks:List Str):(jb ks).Pairwise λa b=>DJ a b=true:=WX vA C5 ks
theorem vd:∀(l:List Str)(p:Str),risingS p l=true->(p::l).Pairwise λa b=>DJ a b=true
 | [],p,_=>by simp
 | x::r,p,h=>by
  have h':(!ltCps x.cps.toList p.cps.toList&&risingS x r)=true:=h;rw[Tf] at h';have ih:=vd r x h'.2;refine Xm.mpr ⟨λy hy=>?_,ih⟩;rcases Sr.mp hy with rfl | hy
  ·exact h'.1
  ·exact vA _ _ _ h'.1 ((Xm.mp ih).1 y hy)
theorem El(hp:ss.Perm ks)(h:sortedS ss=true):ss=jb ks:=by
 refine WQ (λa b _ _=>FO a b) ?_ (wt ks) (hp.trans (eZ ks).symm)
 match ss,h with
 | [],_=>exact .nil
 | x::r,h=>exact vd r x h
theorem CI:M1 X (newList []) (λ_=>.lst []):=λpins s σ H Q E I h=>TZ (h _ _ (I.IC (t':=s.toks) (its:=[]) (ys:=[]) .nil (UK _)))
def Kw(te:TE)(l:Addr):TK:=λτ H N=>te τ H λy H5=>∃xs,H5 l=some (.lst xs)/\xs.length < sizeLine/\N τ (upd H5 l (.lst (xs++[y])))
theorem HX(he:PE B elt te):PM B (nu elt (.ref l) B.env) (Kw te l):=λpins s τ H N I h=>by
 unfold nu;refine Sa (cD (he pins s τ H _ I h) λy s9 h9=>?_);obtain⟨yv,H9,J9,r9,xs,hx,hz,n9⟩:=h9;refine Sa (Te (oG (X:=B) _ s9 τ H9 (.ref l) [yv] (.ref l) [y] (λ_ H'=>N τ H') J9 rfl (.cons r9 .nil) ⟨_,xs,yv,rfl,rfl,hx,hz,n9⟩) (λ_ s10 h10=>?_) λ_ _ e=>e);obtain⟨_,H10,J10,_,n10⟩:=h10;exact Sy ⟨_,_,J10,n10⟩
end L2
namespace Sm
open PySem L2 PySem.Spec PyProof.Rows
noncomputable def P0:Ac (List D) where
 at_:=λK ρ H l a=>∃vs,H l=some (.lst vs)/\aG K ρ H vs a
 mono:=λ⟨vs,e,r⟩ T q=>⟨vs,q.trans e,r.mono T⟩
noncomputable def mL(e:EM):MK (List D):=λδ h a=>(e δ h).bind λp=>if a.length < sizeLine then some (δ,p.2,a++[p.1]) else none
theorem nO.put{K:FR}(T:cT ρ H ρ1 H1)(hl:l∈ρ.rs):nO l ρ H ρ1 (upd H1 l o):=by
 have hl1:l∈ρ1.rs:=by rw[T.rs];exact hl
 exact⟨T.toCh.trans (Ch.put hl1),T.rs,λb hb n=>(az n).trans (T.res b hb)⟩
theorem Hm(he:SE X elt me):Rf X (λl env=>nu elt (.ref l) env) P0 (mL me):=λl=>(HX he).imp λτ H N ⟨ρ,δ,h,a,δ',h',a',R,S,hl,⟨vs,hv,rl⟩,e,kk⟩=>by
 obtain⟨⟨y,h1⟩,e1,e2⟩:=bw e;dsimp only at e2
 by_cases hz:a.length < sizeLine
 ·rw[Si hz] at e2;cases e2;refine⟨ρ,δ,h,y,_,R,S,e1,λu H1 ⟨ρ1,T1,S1,r1⟩=>⟨vs,(T1.res l hl).trans hv,by rw[rl.length];exact hz,?_⟩⟩;have hl1:l∈ρ1.rs:=by rw[T1.rs];exact hl
  have Cp:Ch ρ1 H1 ρ1 (upd H1 l (.lst (vs++[u]))):=Ch.put hl1;exact kk ρ1 _ τ (nO.put (K:=X.K) T1 hl) (S1.put hl1) ((R.mono T1.toCh).mono Cp) ⟨_,aO,((rl.mono T1.toCh).snoc r1).mono Cp⟩
 ·rw[Sv hz] at e2;cases e2
theorem bJ.len{K:FR}{ρ:Ad}{H:Hp}:∀{us:List (Key×V)} {ks:List (Key×D)},bJ K ρ H us ks->us.length=ks.length
 | _,_,.nil=>rfl
 | _,_,.cons _ r=>by rw[Sf,Sf,r.len]
end Sm
namespace L2
open PySem PySem.Spec PyProof.Rows
theorem Cj{us:List Value}{ss:List Str}(a:StrsAre us ss):Vals (ss.map V.str) us:=by
 induction a with
 | nil=>exact .nil
 | cons x t r ih=>exact .cons ⟨t,rfl⟩ ih
end L2
namespace Sm
open PySem L2 PySem.Spec PyProof.Rows
noncomputable def Mr{α:Type}(caps:List (Option Nat))(i:IM)(g:GM)(c:TM)(m:MK α)(a0:α)(out:α->D):EM:=λδ h=>(i δ h).bind λp=>(gu p.2.1 g c m p.1 (fK caps δ) p.2.2 a0).map λq=>(out q.2.2,q.2.1)
section
variable {α:Type} {K:FR} {A:Ac α} {g:GM} {mt:TM} {m:MK α}
theorem KZ(h0:∀ρ H l,A.at_ K ρ (upd H l (o l)) l a0)(hout:∀ρ H l a,A.at_ K ρ H l a->¬ρ.has l->Rep K ρ H (.ref l) (out a))(hh:tM K (Mr caps mi g mt m a0 out) σ H Q):wk caps (M6 K mi) o (G0 K g) (DI K mt) (λl=>M5 K A l m) σ H Q:=by
 obtain⟨ρ,δ,h,d,h',R,S,ee,k⟩:=hh;obtain⟨⟨xs,ws,h1⟩,e1,e2⟩:=bw ee;obtain⟨⟨δ',h2,a'⟩,e3,e4⟩:=gB e2;cases e4;exact EJ h0 ⟨ρ,δ,h,xs,ws,h1,δ',_,a',R,S,e1,e3,λl ρ' H' T S' n at'=>k _ _ ⟨ρ',T,S',hout _ _ _ _ at' n⟩⟩
theorem NZ{caps:List (Option Nat)}{mi:IM}{m:MK (List D)}{σ:L2.St}{H:Hp}{Q:VK}(hh:tM K (Mr caps mi g mt m [] .lv) σ H Q):wk caps (M6 K mi) (λ_=>.lst []) (G0 K g) (DI K mt) (λl=>M5 K P0 l m) σ H Q:=
 KZ (A:=P0) (o:=λ_=>.lst []) (a0:=[]) (out:=.lv) (λρ H l=>show ∃us,_ from⟨[],aO,.nil⟩) (λρ H l a h n=>by obtain⟨us,e,r⟩:=h;exact .lv e n r) hh
end
section
variable {X:Cx} {k v tg iter elt tg2 iter2:Expr} {pos:Pos} {mk mv me:EM} {mt mt2:TM} {g g2:GM} {N':List Str} {caps:List (Option Nat)} {scope:Scope} {ifs ifs2:List Expr} {mi mi2:IM}
theorem Cy(C:bp X N' caps scope)(hc:X.calm=true)(hi:SI X tg iter mi)(hg:∀C s₃ H₃ fp pl,SG (gF X N' scope C s₃ H₃ fp pl) tg g)(hif:∀C s₃ H₃ fp pl,MW (gF X N' scope C s₃ H₃ fp pl) ifs mt)
  (hi2:∀C s₃ H₃ fp pl,SI (gF X N' scope C s₃ H₃ fp pl) tg2 iter2 mi2) (hg2:∀C s₃ H₃ fp pl,SG (gF X N' scope C s₃ H₃ fp pl) tg2 g2) (hif2:∀C s₃ H₃ fp pl,MW (gF X N' scope C s₃ H₃ fp pl) ifs2 mt2)
  (he:∀C s₃ H₃ fp pl,SE (gF X N' scope C s₃ H₃ fp pl) elt me) (hs:∀x,foldedSetIterable iter X.env x=pure x:=by intro _;ac_nf) (hs2:∀env x,foldedSetIterable iter2 env x=pure x:=by intro _ _;ac_nf):
  SE X (.ListComp elt [⟨tg,iter,ifs,0⟩,⟨tg2,iter2,ifs2,0⟩] scope pos) (Mr caps mi g mt (pP mi2 g2 mt2 (mL me)) [] .lv):=
 (Fi (g:=G0 X.K g) (tc:=DI X.K mt) (tm:=λl=>M5 X.K P0 l (pP mi2 g2 mt2 (mL me))) C hc (se ..) rfl (λit l env=>wc ..) CI hi hg hif
  (λC s₃ H₃ fp pl l=>Hl (X:=gF X N' scope C s₃ H₃ fp pl) (se ..) rfl (λit l env=>wb ..) rfl rfl (hi2 C s₃ H₃ fp pl) (hg2 C s₃ H₃ fp pl) (hif2 C s₃ H₃ fp pl) (Hm (he C s₃ H₃ fp pl)) (hs2 _) l) rfl hs).imp λ_ _ _=>
  NZ
theorem oq{K:FR}{ρ:Ad}{H:Hp}:∀(ss:List Str),(∀k∈ss,PyData.strOk k=true)->aG K ρ H (ss.map V.str) (ss.map D.str)
 | [],_=>.nil
 | x::r,h=>.cons (.str (h x Sk)) (oq r λk hk=>h k (Sq _ hk))
end
end Sm
namespace L2
open PySem PySem.Spec PyProof.Rows
section
variable {X:Cx} {e st:Expr} {te ts:TE} {pos p2:Pos}
end
end L2
namespace Sm
open PySem L2 PySem.Spec PyProof.Rows
section
variable {X:Cx} {e st a b c:Expr} {ma ms mb mc:EM} {pos p2:Pos}
abbrev Kd:=DS->MH->Option (List (Key×D)×MH)
noncomputable def Ik:Kd:=λ_ h=>some ([],h)
noncomputable def eU(k v:EM)(r:Kd):Kd:=λδ h=>(k δ h).bind λp=>(v δ p.2).bind λq=>(xm p.1).bind λkk=>(r δ q.2).map λz=>((kk,q.1)::z.1,z.2)
inductive Pk(K:FR)(m:Kd)(σ:L2.St)(H:Hp)(Q:List (V×V)->Hp->Prop):Prop where
 | mk (ρ δ h kvs h'):cy K ρ H σ δ->bN K ρ h H->(m δ h=some (kvs,h'))->(∀us ρ' H',cT ρ H ρ' H'->bN K ρ' h' H'->bJ K ρ' H' us kvs->Q (us.map λkv=>(kV kv.1,kv.2)) H')->Pk K m σ H Q
def RS(K:FR)(m:Kd):L2.St->Hp->(List (V×V)->Hp->Prop)->Prop:=λσ H Q=>Pk K m σ H Q
def SP(X:Cx)(pos:Pos)(keys:List (Option Expr))(vals:List Expr)(m:Kd):Prop:=∃trs,M0 X pos keys vals trs/\∀σ H Q,RS X.K m σ H Q->wj trs σ H Q
theorem Ei:SP X pos [] [] Ik:=⟨[],HS,λσ H Q ⟨ρ,δ,h,kvs,h',R,S,e,k⟩=>by
 cases e;exact k [] ρ H (.refl _ _) S .nil⟩
theorem eG(hk:SE X kx mk)(hv:SE X vx mv)(hr:SP X pos ks vs m):SP X pos (some kx::ks) (vx::vs) (eU mk mv m):=by
 obtain⟨trs,h1,h2⟩:=hr;refine⟨_,E8 hk hv h1,λσ H Q ⟨ρ,δ,h,kvs,h',R,S,ee,k⟩=>?_⟩;obtain⟨⟨x,ha⟩,e1,e2⟩:=bw ee;obtain⟨⟨y,hb⟩,e3,e4⟩:=bw e2;obtain⟨kk,e5,e6⟩:=bw e4;obtain⟨⟨zs,hz⟩,e7,e8⟩:=gB e6;cases e8;refine⟨ρ,δ,h,x,ha,R,S,e1,λv H1 ⟨ρ1,T1,S1,r1⟩=>⟨ρ1,δ,ha,y,hb,R.mono T1.toCh,S1,e3,λu H2 ⟨ρ2,T2,S2,r2⟩=>?_⟩⟩;refine h2 σ H2 _ ⟨ρ2,δ,hb,zs,_,(R.mono T1.toCh).mono T2.toCh,S2,e7,λus ρ3 H3 T3 S3 r3=>?_⟩;have ek:=kl r1 e5;subst ek;exact k ((kk,u)::us) ρ3 H3 ((T1.trans T2).trans T3) S3 (.cons (r2.mono T3.toCh) r3)
noncomputable def JU(m:Kd):EM:=λδ h=>(m δ h).bind λp=>if p.1.length<=15 then some (.dv (Av [] p.1),p.2) else none
theorem Hx(h:SP X pos keys vals m)(hall:keys.all (·.isSome)=true)(hl:keys.length=vals.length)(h0:keys≠[])(hp:∀trs,M0 X pos keys vals trs->PE X (.Dict keys vals pos) (Ea trs)):SE X (.Dict keys vals pos) (JU m):=by
 obtain⟨trs,h1,h2⟩:=h;refine(hp trs h1).imp λσ H Q ⟨ρ,δ,h,d,h',R,S,ee,k⟩ p hpn=>?_;obtain⟨⟨kvs,ha⟩,e1,e2⟩:=bw ee;dsimp only at e2
 by_cases z:kvs.length<=15
 ·rw[Si z] at e2;cases e2;have Tl:Ch ρ H (ρ.keep p) (upd H p (.dK [])):=Ch.keep hpn;have nl:¬ρ.has p:=S.fresh hpn;refine h2 σ _ _ ⟨ρ.keep p,δ,h,kvs,_,R.mono Tl,S.keep hpn,e1,λus ρ2 H2 T2 S2 r2=>?_⟩;have hp2:H2 p=some (.dK []):=(T2.res p Sk).trans aO;refine⟨hp2,us,rfl,by rw[r2.len];exact z,?_⟩;obtain⟨ob2,rs2⟩:=ρ2;have ers:rs2=p::ρ.rs:=T2.rs;subst ers;have hml:p∈(⟨ob2,p::ρ.rs⟩:Ad).rs:=Sk;have hsub:∀b∈ρ.rs,b∈p::ρ.rs:=λb hb=>Sq _ hb;have hne:∀b∈ρ.rs,b≠p:=λb hb z=>nl (.inr (z ▸ hb));have Cp:Ch ⟨ob2,p::ρ.rs⟩ H2 ⟨ob2,p::ρ.rs⟩ (upd H2 p (.dK (gm [] us))):=Ch.put hml;have C2:Ch ⟨ob2,p::ρ.rs⟩ (upd H2 p (.dK (gm [] us))) ⟨ob2,ρ.rs⟩ (upd H2 p (.dK (gm [] us))):=Ch.free hsub;refine k _ _ ⟨⟨ob2,ρ.rs⟩,⟨((Tl.trans T2.toCh).trans Cp).trans C2,rfl,λb hb=>?_⟩,(S2.put hml).free hsub,.dv aO (λz=>?_) ((bJ.merge .nil r2).mono (Cp.trans C2))⟩
  ·show upd H2 p _ b=H b;rw[az (hne b hb),T2.res b (hsub b hb)];exact az (hne b hb)
  ·rcases z with z | z
   ·exact(S2.t6 p Sk).2 z
   ·exact nl (.inr z)
 ·rw[Sv z] at e2;cases e2
end
end Sm
namespace L2
open PySem PySem.Spec PyProof.Rows
open HT in
theorem Co{t sl:Addr}{items:Array Value}{vl vu:Value}{lo hi:Option Int}{Q:Value->Shared->Prop}(ht:IsTup s.heap t items)(hs:s.heap.IsSliceOf sl vl vu .none)(pl:IsPart vl lo)(pu:IsPart vu hi)
  (hw:cM items.size 0 lo=0/\cM items.size items.size hi=items.size) (h:Q (.ref t) s):wpAny (model prog w) A (getItem (.ref t) (.ref sl)) Q E s:=by
 obtain⟨os,hos,hcs,sV⟩:=id hs;have hTs:s.TypeIs (.ref sl) "slice":=⟨os,hos,hcs⟩;unfold getItem
 try with_reducible refine Uq ?_
 first | refine Sa (Sy ?_) | skip
 refine Sa (wpAny_sequenceKey ht.typeIs (by decide) ?_);refine Sa (Uu (name:=Str.ofString "__getitem__") ht.typeIs TF (UY TF ht.typeIs entry_tuple_getitem ?_ (args_tuple_getitem _ _)));show wpAny _ _ (Builtin.Tuple.tupleItemsOf (.ref t) >>=_) _ _ s;refine Sa (tupleItemsOf_ ht (Sa (wpAny_typeOf hTs ?_)));rw[Si (by decide)];refine Sa (ij hs pl pu ?_);show wpAny _ _ (if(((cM items.size 0 lo:Nat):Int)==0&&(1:Int)==1&&(cM items.size items.size hi-cM items.size 0 lo)==items.size)=true then _ else _) _ _ s;rw[Si (by rw[hw.1,hw.2];simp)];unfold Builtin.Tuple.tupleIsExact;simp only[bind_assoc,pure_bind];refine Sa (wpAny_typeOf ht.typeIs ?_);rw[Si (by decide)]
 first
  | exact Sa (VD (Sy ⟨_,rfl,Sy h⟩))
  | exact Sa (VD (Sa (Sy (Sy ⟨_,rfl,Sy h⟩))))
def QA(K:FR):V->Option Int->Option Int->Hp->VK->Prop:=λx lo hi H Q=>∃a xs,x=.ref a/\kF K H a xs/\(HT.cM xs.length 0 lo=0/\HT.cM xs.length xs.length hi=xs.length)/\Q (.ref a) H
theorem Em:MV X (QA X.K):=by
 intro pins s σ H x v vl vu lo hi sl Q I rx hs pl pu h;obtain⟨a,xs,rfl,hx,hw,q⟩:=h;cases rx;obtain⟨its,r,ht,hz⟩:=I.tuple hx;have hlen:its.toArray.size=xs.length:=by rw[SH];exact r.length.symm
 exact⟨"tuple",_,TF.lookup,ht.typeIs,Co ht hs pl pu (by rw[hlen];exact hw) ⟨.ref a,H,I,rfl,q⟩⟩
end L2
namespace Sm
open PySem L2 PySem.Spec PyProof.Rows
section
variable {X:Cx}
noncomputable def fT(d:D)(lo hi:Option Int)(h:MH):Option (D×MH):=match d with
 | .tup xs=>if HT.cM xs.length 0 lo=0/\HT.cM xs.length xs.length hi=xs.length then some (.tup xs,h) else some (.tup (cutD xs lo hi),h)
 | d=>OS d lo hi h
noncomputable def iD(a:EM)(l u:PM):EM:=λδ h=>(a δ h).bind λp=>(l δ p.2).bind λq=>(u δ q.2).bind λr=>fT p.1 q.1 r.1 r.2
inductive Kb(K:FR)(x:V)(lo hi:Option Int)(H:Hp)(Q:VK):Prop where
 | mk (ρ h d z h'):bN K ρ h H->Rep K ρ H x d->(fT d lo hi h=some (z,h'))->(∀v H',dy K ρ H h' z v H'->Q v H')->Kb K x lo hi H Q
def QE(K:FR):V->Option Int->Option Int->Hp->VK->Prop:=λx lo hi H Q=>Kb K x lo hi H Q
theorem Ky:MV X (QE X.K):=by
 intro pins s σ H x v vl vu lo hi sl Q I rx hs pl pu hh;obtain⟨ρ,h,d,z,h',S,rd,ee,k⟩:=hh;cases d with
 | tup xs=>
  unfold fT at ee;dsimp only at ee
  by_cases c:HT.cM xs.length 0 lo=0/\HT.cM xs.length xs.length hi=xs.length
  ·rw[Si c] at ee;cases ee;have rd0:=rd;cases rd with | tup h0 l0=>
   exact Em pins s σ H _ v vl vu lo hi sl Q I rx hs pl pu ⟨_,_,rfl,h0.sq,by rw[l0.length];exact c,k _ _ (.here S rd0)⟩
  ·rw[Sv c] at ee;exact JB pins s σ H x v vl vu lo hi sl Q I rx hs pl pu ⟨ρ,h,_,z,h',S,rd,by unfold OS;dsimp only;rw[Sv c];exact ee,k⟩
 | _=>exact JB pins s σ H x v vl vu lo hi sl Q I rx hs pl pu ⟨ρ,h,_,z,h',S,rd,ee,k⟩
theorem wz{a:Expr}{lo hi:Option Expr}{pos p2:Pos}{ma:EM}{ml mu:PM}(ha:SE X a ma)(hl:SP' X lo ml)(hu:SP' X hi mu):SE X (.Subscript a (.Slice lo hi none p2) pos) (iD ma ml mu):=
 (Fe Ky ha hl hu).imp λσ H Q ⟨ρ,δ,h,d,h',R,S,e,k⟩=>by
  obtain⟨⟨x,h1⟩,e1,e2⟩:=bw e;obtain⟨⟨l,h2⟩,e3,e4⟩:=bw e2;obtain⟨⟨u,h3⟩,e5,e6⟩:=bw e4;exact⟨ρ,δ,h,x,h1,R,S,e1,λv H1 ⟨ρ1,T1,S1,r1⟩=>⟨ρ1,δ,h1,l,h2,R.mono T1.toCh,S1,e3,λρ2 H2 T2 S2=>⟨ρ2,δ,h2,u,h3,(R.mono T1.toCh).mono T2.toCh,S2,e5,λρ3 H3 T3 S3=>
   ⟨ρ3,h3,x,d,h',S3,r1.mono (T2.trans T3).toCh,e6,λw H4 p=>k w H4 (p.step (T1.trans (T2.trans T3)))⟩⟩⟩⟩
noncomputable def oP:Fn:=λds h=>match ds with
 | [.bl b]=>some (.int (if b then 1 else 0),h)
 | _=>none
theorem Mx:g5 X (.type "int") oP:=by
 intro pins s σ H xs us Q I r hh;obtain⟨ρ,h,ds,z,h',S,l,ee,k⟩:=hh
 match ds,l,ee with
 | [],_,ee=>exact b7 ee
 | _::_::_,_,ee=>exact absurd ee (by unfold oP;split <;> simp_all)
 | [d],l,ee=>
  obtain⟨v,rfl,rd⟩:=rep1 l;cases rd <;> first |(exact b7 ee) | skip
  cases ee;obtain⟨u,rfl,ru⟩:=Vals.one r;cases ru;exact call_int_bool ⟨.int _,H,I.kept (t':=s.toks+1) (h':=s.heap) λ_ _ e=>e,⟨_,rfl⟩,k _ _ (.here S (.int _))⟩
noncomputable def iB(d e:D)(h:MH):Option (D×MH):=match d,e with
 | .str x,.int n=>if x.length<=1000/\0<=n/\n<=1000/\PyData.strOk (Txt.mul x n)=true then some (.str (Txt.mul x n),h) else none
 | d,e=>Mk d e h
theorem gQ:lR X (binaryOp .Mult) iB:=by
 intro pins s σ H x y v u Q I rx ry hh;obtain⟨ρ,h,d,e,z,h',S,rd,re,ee,k⟩:=hh;unfold iB at ee
 split at ee
 ·rename_i x0 n
  by_cases c:x0.length<=1000/\0<=n/\n<=1000/\PyData.strOk (Txt.mul x0 n)=true
  ·rw[Si c] at ee;cases ee;cases rd;cases re;obtain⟨t1,rfl⟩:=rx;obtain⟨t2,rfl⟩:=ry;obtain⟨c1,c2,c3,c4⟩:=c;refine SB.mul ⟨?_,λ_ _=>?_,λ_ _=>?_⟩ λt' k'=>⟨.str _,H,I.kept (t':=k') (h':=s.heap) λ_ _ e=>e,⟨t',rfl⟩,k _ _ (.here S (.str c4))⟩
   ·rw[Tt (by lia),Tt (by lia)];rfl
   ·have h1:(9007199254740991:Int)<=(2^63-1) / n:=by
     refine Int.le_ediv_of_mul_le (by lia) ?_;have:9007199254740991*n<=9007199254740991*1000:=Int.mul_le_mul_of_nonneg_left c3 (by decide)
     lia
    lia
   ·have h1:x0.length*n.toNat<=1000*1000:=Nat.mul_le_mul c1 (by lia);refine Tt ?_;have:=Ve
    lia
  ·rw[Sv c] at ee;cases ee
 ·exact Lv pins s σ H x y v u Q I rx ry ⟨ρ,h,_,_,z,h',S,rd,re,ee,k⟩
noncomputable def gq(f f':D->D->MH->Option (D×MH))(ma mb mc:EM):EM:=λδ h=>(ma δ h).bind λp=>(mb δ p.2).bind λq=>(f p.1 q.1 q.2).bind λr=>match r.1 with
 | .bl true=>(mc δ r.2).bind λu=>f' q.1 u.1 u.2
 | .bl false=>some (.bl false,r.2)
 | _=>none
theorem yp(hh:tM X.K (gq f f' ma mb mc) σ H Q):zS (rS X.K f) (rS X.K f') (tM X.K ma) (tM X.K mb) (tM X.K mc) σ H Q:=by
 obtain⟨ρ,δ,h,d,h',R,S,ee,k⟩:=hh;obtain⟨⟨x,h1⟩,e1,e2⟩:=bw ee;obtain⟨⟨y,h2⟩,e3,e4⟩:=bw e2;obtain⟨⟨z,h3⟩,e5,e6⟩:=bw e4;dsimp only at e3 e5 e6;refine⟨ρ,δ,h,x,h1,R,S,e1,λv H1 ⟨ρ1,T1,S1,r1⟩=>⟨ρ1,δ,h1,y,h2,R.mono T1.toCh,S1,e3,λu H2 ⟨ρ2,T2,S2,r2⟩=>⟨ρ2,h2,x,y,z,h3,S2,r1.mono T2.toCh,r2,e5,λw H3 ⟨ρ3,T3,S3,r3⟩=>?_⟩⟩⟩;cases z with
 | bl b=>
  cases r3;refine⟨b,rfl,?_⟩;cases b with
  | false=>
   cases e6;exact Mb (k _ _ (dy.step (T1.trans (T2.trans T3)) (.here S3 (.bl false))))
  | true=>
   obtain⟨⟨u',h4⟩,e7,e8⟩:=bw e6;have T:=T1.trans (T2.trans T3);exact Ma ⟨ρ3,δ,h3,u',h4,R.mono T.toCh,S3,e7,λv' H4 ⟨ρ4,T4,S4,r4⟩=>⟨ρ4,h4,y,u',d,h',S4,r2.mono (T3.trans T4).toCh,r4,e8,λw' H5 P=>k w' H5 (P.step (T.trans T4))⟩⟩
 | _=>exact b7 e6
theorem Eu(ho:lR X (compareOp op) f)(ho':lR X (compareOp op') f')(ha:SE X a ma)(hb:SE X b mb)(hc:SE X c mc)(hm:lastMarks [op,op'] [b,c]=false:=by with_unfolding_all rfl):
  SE X (.Compare a [op,op'] [b,c] pos) (gq f f' ma mb mc):=(Fj ho ho' ha hb hc hm).imp λ_ _ _=>yp
theorem x8(ho:lR X (compareOp op) f)(ho':lR X (compareOp op') f')(ha:SE X a ma)(hb:SE X b mb)(hc:SE X c mc)(hm:lastMarks [op,op'] [b,c]=false:=by with_unfolding_all rfl):
  ST X (.Compare a [op,op'] [b,c] pos) (aJ (gq f f' ma mb mc)):=(EZ ho ho' ha hb hc hm).imp λσ H Q h=>yp (HE h)
end
end Sm
namespace L2
open PySem PySem.Spec PyProof.Rows
section
variable {X:Cx} {e st:Expr} {te ts:TE} {pos p2:Pos}
end
end L2
namespace Sm
open PySem L2 PySem.Spec PyProof.Rows
section
variable {X:Cx} {e st:Expr} {ma ms:EM} {pos p2:Pos}
end
end Sm
namespace L2
open PySem PySem.Spec PyProof.Rows
open HT in
theorem GC{t b:Addr}{vs ws:List Value}{Q:Value->Shared->Prop}(ht:IsTup s.heap t vs.toArray)(hb:IsTup s.heap b ws.toArray)(hv:vs=[])(h:Q (.ref b) s):wpAny (model prog w) A (binaryOp .Add (.ref t) (.ref b)) Q E s:=by
 obtain⟨⟨cls,dd,data,sl⟩,ho,hc,n,hd⟩:=id ht;obtain⟨⟨cls2,dd2,data2,sl2⟩,ho2,hc2,n2,hd2⟩:=id hb;simp only at hc hd hc2 hd2;subst hc hd hc2 hd2;exact concat_meets ⟨_,ho,rfl⟩ ⟨_,ho2,rfl⟩ WM Xj VY VW (VM _ _)
   (tuple_addW0 t b vs.toArray ws.toArray n n2 dd dd2 sl sl2 (by simp[hv])) ⟨ho,ho2,h⟩
theorem Fy:nQ X (binaryOp .Add) (λx y H Q=>∃a b ys,x=.ref a/\y=.ref b/\kF X.K H a []/\kF X.K H b ys/\Q (.ref b) H):=by
 intro pins s σ H x y v u Q I rx ry h;obtain⟨a,b,ys,rfl,rfl,ha,hb,q⟩:=h;cases rx;cases ry;obtain⟨its,r1,p1,_⟩:=I.tuple ha;obtain⟨its2,r2,p2,_⟩:=I.tuple hb;exact GC p1 p2 (r1.qK.mpr rfl) ⟨.ref b,H,I,rfl,q⟩
end L2
namespace Sm
open PySem L2 PySem.Spec PyProof.Rows
noncomputable def aw(d e:D)(h:MH):Option (D×MH):=match d,e with
 | .tup [],.tup ys=>some (.tup ys,h)
 | d,e=>uI d e h
theorem aY:lR X (binaryOp .Add) aw:=by
 intro pins s σ H x y v u Q I rx ry hh;obtain⟨ρ,h,d,e,z,h',S,rd,re,ee,k⟩:=hh;unfold aw at ee
 split at ee
 ·cases ee;have re0:=re;cases rd with | tup h1 l1=>cases re with | tup h2 l2=>
  cases l1;exact Fy pins s σ H _ _ v u Q I rx ry ⟨_,_,_,rfl,rfl,h1.sq,h2.sq,k _ _ (.here S re0)⟩
 ·exact Lx pins s σ H _ _ v u Q I rx ry ⟨ρ,h,_,_,z,h',S,rd,re,ee,k⟩
noncomputable def F8:Fn:=λds h=>match ds with
 | [.int i,.int j]=>some (.int (if j < i then j else i),h)
 | _=>none
noncomputable def sY:Fn:=λds h=>match ds with
 | [.int i,.int j]=>some (.int (if j > i then j else i),h)
 | _=>none
theorem Mw(hc:X.calm=true):g5 X (.builtin "min") F8:=by
 intro pins s σ H xs us Q I r hh;obtain⟨ρ,h,ds,z,h',S,l,ee,k⟩:=hh
 match ds,l,ee with
 | [],_,ee=>exact b7 ee
 | [_],_,ee=>exact absurd ee (by unfold F8;split <;> simp_all)
 | _::_::_::_,_,ee=>exact absurd ee (by unfold F8;split <;> simp_all)
 | [d,e],l,ee=>
  obtain⟨v,w,rfl,rd,re⟩:=rep2 l;cases rd <;> first |(exact b7 ee) | skip
  cases re <;> first |(exact b7 ee) | skip
  cases ee;exact Dt hc pins s σ H _ us Q I r ⟨_,_,rfl,k _ _ (.here S (.int _))⟩
theorem Gv(hc:X.calm=true):g5 X (.builtin "max") sY:=by
 intro pins s σ H xs us Q I r hh;obtain⟨ρ,h,ds,z,h',S,l,ee,k⟩:=hh
 match ds,l,ee with
 | [],_,ee=>exact b7 ee
 | [_],_,ee=>exact absurd ee (by unfold sY;split <;> simp_all)
 | _::_::_::_,_,ee=>exact absurd ee (by unfold sY;split <;> simp_all)
 | [d,e],l,ee=>
  obtain⟨v,w,rfl,rd,re⟩:=rep2 l;cases rd <;> first |(exact b7 ee) | skip
  cases re <;> first |(exact b7 ee) | skip
  cases ee;exact Du hc pins s σ H _ us Q I r ⟨_,_,rfl,k _ _ (.here S (.int _))⟩
noncomputable def LP:Cf:=λd ds h=>(eA d h).bind λkvs=>match ds with
 | [k]=>(xm k).map λkey=>((qh kvs key).getD .cq,h)
 | [k,x]=>(xm k).map λkey=>((qh kvs key).getD x,h)
 | _=>none
theorem LO(hu:X.A.units+1 < cLine):Ce X "dict.get" (rM X.K LP):=by
 intro pins s σ H x xs v us Q I rx rs hh;obtain⟨ρ,h,d,ds,z,h',S,rd,l,ee,k⟩:=hh;obtain⟨kvs,e1,e2⟩:=bw ee;obtain⟨a,ws,rfl,ha,lk⟩:=i0 S rd e1;obtain rfl:v=Value.ref a:=rx
 match ds,l,e2 with
 | [],_,e2=>exact b7 e2
 | [y],l,e2=>
  obtain⟨key,e3,e4⟩:=gB e2;cases e4;obtain⟨yv,rfl,ry⟩:=rep1 l;obtain⟨u,rfl,ru⟩:=Vals.one rs;have hy:=kl ry e3;subst hy;refine Mu hu I (nR.k ha) ru λw' s' I' r'=>⟨_,H,I',r',k _ _ ?_⟩;rcases lk.val key with⟨q1,q2⟩ |⟨d',v',q1,q2,q3⟩
  ·rw[q1,q2];exact .here S .cq
  ·rw[q1,q2];exact .here S q3
 | [y,x0],l,e2=>
  obtain⟨key,e3,e4⟩:=gB e2;cases e4;obtain⟨yv,xv,rfl,ry,rx0⟩:=rep2 l;obtain⟨u,u2,rfl,ru,ru2⟩:=Vals.two rs;have hy:=kl ry e3;subst hy;refine Mt hu I (nR.k ha) ru ru2 λw' s' I' r'=>⟨_,H,I',r',k _ _ ?_⟩;rcases lk.val key with⟨q1,q2⟩ |⟨d',v',q1,q2,q3⟩
  ·rw[q1,q2];exact .here S rx0
  ·rw[q1,q2];exact .here S q3
 | _::_::_::_,_,e2=>exact absurd e2 (by simp)
noncomputable def Mq(a b:EM):EM:=λδ h=>(a δ h).bind λp=>(zO p.1 p.2).bind λc=>if c=true then some p else b δ p.2
end Sm
namespace L2
open PySem PySem.Spec PyProof.Rows
section
variable {X:Cx} {a b:Expr} {rest:List Expr} {pos:Pos} {ta tb:TE}
theorem Ll(ha:PE X a ta)(hb:PE X (.BoolOp .Or (b::rest) pos) tb):PE X (.BoolOp .Or (a::b::rest) pos) (λσ H Q=>ta σ H λx H1=>∃c,Jo X.K x H1 c/\if c=true then Q x H1 else tb σ H1 Q):=by
 intro pins s σ H Q I h;refine BoolOp_or (cD (ha pins s σ H _ I h) λv s1 ⟨x,H1,I1,r1,c,ht,q1⟩=>?_);refine cD (D6 pins s1 σ H1 x v (λc H2=>if c=true then Q x H2 else tb σ H2 Q) I1 r1 ⟨c,ht,q1⟩) λc' s2 ⟨H2,I2,q2⟩=>?_;cases c' with
 | false=>exact hb pins s2 σ H2 Q I2 q2
 | true=>exact⟨x,H2,I2,r1,q2⟩
end
end L2
namespace Sm
open PySem L2 PySem.Spec PyProof.Rows
section
variable {X:Cx} {a b:Expr} {pos:Pos} {ma mb:EM}
theorem KJ{rest:List Expr}(ha:SE X a ma)(hb:SE X (.BoolOp .Or (b::rest) pos) mb):SE X (.BoolOp .Or (a::b::rest) pos) (Mq ma mb):=(Ll ha hb).imp λσ H Q ⟨ρ,δ,h,d,h',R,S,e,k⟩=>by
 obtain⟨⟨x,h1⟩,e1,e2⟩:=bw e;obtain⟨c,e3,e4⟩:=bw e2;refine⟨ρ,δ,h,x,h1,R,S,e1,λv H' ⟨ρ',T,S',r⟩=>⟨c,Bh S' r e3,?_⟩⟩;cases c with
 | false=>rw[Sv (by simp)] at e4 ⊢;exact⟨ρ',δ,h1,d,h',R.mono T,S',e4,λv H2 p=>k v H2 (p.step T)⟩
 | true=>rw[Si rfl] at e4 ⊢;cases e4;exact k _ _ ⟨ρ',T,S',r⟩
end
end Sm
namespace L2
open PySem PySem.Spec PyProof.Rows
end L2
namespace Sm
open PySem L2 PySem.Spec PyProof.Rows
theorem ML:bootBuiltins "min"=some (.builtin "min"):=by decide+kernel
theorem GI:bootBuiltins "max"=some (.builtin "max"):=by decide+kernel
section
variable {X:Cx} {g:GM} {mt:TM} {ma:EM}
end
end Sm
namespace L2
open PySem PySem.Spec PyProof.Rows
theorem qX:∀{ns:List Int} {us:List Value},Vals (ns.map V.int) us->∃xs:List (Int×Tok),us=xs.map (λp=>Value.int p.1 p.2)/\xs.map (·.1)=ns
 | [],_,.nil=>⟨[],rfl,rfl⟩
 | n::r,_,.cons q l=>by
  obtain⟨t,rfl⟩:=q;obtain⟨xs,rfl,e⟩:=qX l;exact⟨(n,t)::xs,rfl,by rw[Sl,e]⟩
theorem jZ:∀{ss:List Str} {us:List Value},Vals (ss.map V.str) us->StrsAre us ss
 | [],_,.nil=>.nil
 | x::r,_,.cons q l=>by obtain⟨t,rfl⟩:=q;exact .cons x t (jZ l)
theorem AV:fY X (.builtin "sorted") (λxs H Q=>∃a ss,xs=[.ref a]/\gH X.K H a (ss.map V.str)/\ss.length < 64/\∀l,H l=none->Q (.ref l) (upd H l (.lst ((jb ss).map V.str)))):=by
 intro pins s σ H xs us Q I r h;obtain⟨a,ss,rfl,ha,h64,q⟩:=h;obtain⟨u,rfl,ru⟩:=vals1 r;cases ru;obtain⟨its,rv,p,hz⟩:=I.list ha;have hS:=jZ rv;have hlen:its.length=ss.length:=by have:=rv.length;rw[R9] at this;exact this.symm
 refine sorted_strs p.isList hS (by lia) λout ss' h1 h2 h3=>?_;have:=El h2 h3;subst this;have hl:s.heap.objs.size<=s.heap.objs.size+1:=UL _;obtain⟨e,ho⟩:=sortedAll_at s.heap its out;have hz':((jb ss).map V.str).length<=sizeLine:=by rw[R9,(eZ ss).length_eq,Ve];lia
 refine⟨.ref (s.heap.objs.size+1),_,I.laid (t':=s.toks) (o:=.lst ((jb ss).map V.str)) (λb o q=>sortedAll_old q) hl ⟨hz',out.toList,e,Cj h1,?_⟩,rfl,q _ (I.bg.fresh hl)⟩;rw[ho]
end L2
namespace Sm
open PySem L2 PySem.Spec PyProof.Rows
noncomputable def m8:List D->Option (List Int)
 | []=>some []
 | .int i::r=>(m8 r).map λis=>i::is
 | _=>none
theorem sS:∀{xs:List D} {ns:List Int},m8 xs=some ns->xs=ns.map D.int
 | [],_,e=>by cases e;rfl
 | d::r,ns,e=>by
  cases d <;> first |(exact b7 e) | skip
  obtain⟨is,e1,e2⟩:=gB (show(m8 r).map _=some ns from e);cases e2;rw[sS e1];rfl
theorem oM:∀(ns:List Int),m8 (ns.map D.int)=some ns
 | []=>rfl
 | n::r=>by show(m8 (r.map D.int)).map _=_;rw[oM r];rfl
theorem rQ{K:FR}{ρ:Ad}{H:Hp}:∀{vs:List V} {ns:List Int},aG K ρ H vs (ns.map D.int)->vs=ns.map V.int:=by
 intro vs ns
 induction ns generalizing vs with
 | nil=>intro a;cases a;rfl
 | cons n r ih=>intro a;cases a with | cons q l=>cases q;rw[ih l];rfl
noncomputable def oZ:List D->Option (List Str)
 | []=>some []
 | .str i::r=>(oZ r).map λis=>i::is
 | _=>none
theorem rf:∀{xs:List D} {ns:List Str},oZ xs=some ns->xs=ns.map D.str
 | [],_,e=>by cases e;rfl
 | d::r,ns,e=>by
  cases d <;> first |(exact b7 e) | skip
  obtain⟨is,e1,e2⟩:=gB (show(oZ r).map _=some ns from e);cases e2;rw[rf e1];rfl
theorem n5:∀(ns:List Str),oZ (ns.map D.str)=some ns
 | []=>rfl
 | n::r=>by show(oZ (r.map D.str)).map _=_;rw[n5 r];rfl
theorem k9{K:FR}{ρ:Ad}{H:Hp}:∀{vs:List V} {ns:List Str},aG K ρ H vs (ns.map D.str)->vs=ns.map V.str/\∀k∈ns,PyData.strOk k=true
 | _,[],.nil=>⟨rfl,λ_ h=>(nomatch h)⟩
 | _,n::r,.cons q l=>by
  cases q with
  | str h=>
   obtain⟨e,f⟩:=k9 l;refine⟨by rw[e];rfl,λk hk=>?_⟩;rcases Sr.mp hk with rfl | hk
   ·exact h
   ·exact f k hk
noncomputable def F6:Fn:=λds h=>match ds with
 | [d]=>(dR d h).bind λxs=>(oZ xs).bind λns=>if ns.length < 64 then some (.lv ((jb ns).map D.str),h) else none
 | _=>none
theorem Gs:g5 X (.builtin "sorted") F6:=by
 intro pins s σ H xs us Q I r hh;obtain⟨ρ,h,ds,z,h',S,l,ee,k⟩:=hh
 match ds,l,ee with
 | [],_,ee=>exact b7 ee
 | _::_::_,_,ee=>exact b7 ee
 | [d],l,ee=>
  obtain⟨v,rfl,rd⟩:=rep1 l;obtain⟨ys,e1,e2⟩:=bw ee;obtain⟨ns,e3,e4⟩:=bw e2
  by_cases c:ns.length < 64
  ·rw[Si c] at e4;cases e4;obtain⟨a,vs,rfl,ha,la⟩:=dI S rd e1;have:=rf e3;subst this;obtain⟨e5,f⟩:=k9 la;subst e5;refine AV pins s σ H _ us Q I r ⟨a,ns,rfl,gH.of ha,c,λl hl=>k _ _ (.lv S (oq _ λx hx=>f x ((eZ ns).mem_iff.mp hx)) hl)⟩
  ·rw[Sv c] at e4;cases e4
section
variable {α:Type} {K:FR} {A:Ac α} {l:Addr} {g:GM} {mt:TM} {m:MK α}
mutual
theorem Rep.calm(hs:∀a,ρ'.has a->ρ.has a){v:V}{d:D}(r:Rep K ρ H v d)(c:hV 0 d=true):Rep K ρ' H v d:=by
 cases r with
 | cq=>exact .cq
 | bl b=>exact .bl b
 | int i=>exact .int i
 | str h=>exact .str h
 | ty n=>exact .ty n
 | tup h l=>exact .tup (h.elim (λ⟨a,n⟩=>.inl ⟨a,λz=>n (hs _ z)⟩) .inr) (aG.calm hs l c)
 | lv h n l=>exact .lv h (λz=>n (hs _ z)) (aG.calm hs l c)
 | ro h l=>exact .ro (h.elim (λ⟨a,n⟩=>.inl ⟨a,λz=>n (hs _ z)⟩) .inr) (aG.calm hs l c)
 | dv h n l=>exact .dv h (λz=>n (hs _ z)) (bJ.calm hs l c)
 | ob e=>simp[hV] at c
theorem aG.calm(hs:∀a,ρ'.has a->ρ.has a){vs:List V}{ds:List D}(r:aG K ρ H vs ds)(c:fJ 0 ds=true):aG K ρ' H vs ds:=by
 cases r with
 | nil=>exact .nil
 | cons r l=>have c:=SU.mp c;exact .cons (Rep.calm hs r c.1) (aG.calm hs l c.2)
theorem bJ.calm(hs:∀a,ρ'.has a->ρ.has a){vs:List (Key×V)}{ds:List (Key×D)}(r:bJ K ρ H vs ds)(c:Jf 0 ds=true):bJ K ρ' H vs ds:=by
 cases r with
 | nil=>exact .nil
 | cons r l=>have c:=SU.mp c;exact .cons (Rep.calm hs r c.1) (bJ.calm hs l c.2)
end
end
section
variable {X:Cx} {k v tg iter:Expr} {pos:Pos} {mk mv:EM} {mt:TM} {g:GM} {N':List Str} {caps:List (Option Nat)} {scope:Scope} {ifs:List Expr} {mi:IM}
end
theorem vL:bootBuiltins "sorted"=some (.builtin "sorted"):=by decide+kernel
end Sm
namespace L2
open PySem PySem.Spec PyProof.Rows
end L2
namespace Sm
open PySem L2 PySem.Spec PyProof.Rows
end Sm
namespace L2
open PySem PySem.Spec PyProof.Rows
end L2
namespace Sm
open PySem L2 PySem.Spec PyProof.Rows
noncomputable def Mj(d e:D)(h:MH):Option (D×MH):=match d,e with
 | .tup xs,.tup []=>some (.bl (!xs.isEmpty),h)
 | _,_=>none
theorem yk{K:FR}{ρ:Ad}{H:Hp}:∀{vs:List V} {ds:List D},aG K ρ H vs ds->vs.length=ds.length
 | _,_,.nil=>rfl
 | _,_,.cons _ l=>by rw[Sf,Sf,yk l]
theorem Mo(hu:X.A.units+64 < cLine)(I:L2.Inv X pins σ H s)(rx:L2.RelV x v)(ry:L2.RelV y u)(rd:Rep X.K ρ H x (.tup xs))(re:Rep X.K ρ H y (.tup [])):
  (∀Q:Value->Shared->Prop,Q (.bool xs.isEmpty) s->wpAny (model X.prog X.w) X.A (compareOp .Eq v u) Q X.xe s)/\∀Q:Value->Shared->Prop,Q (.bool (!xs.isEmpty)) s->wpAny (model X.prog X.w) X.A (compareOp .NotEq v u) Q X.xe s:=by
 cases rd with
 | @tup a vs _ h0 l0=>
  cases re with
  | @tup b ws _ h1 l1=>
   cases rx;cases ry;obtain⟨its,rv,p,_⟩:=I.tuple h0.sq;obtain⟨jts,rw',q,_⟩:=I.tuple h1.sq;have n1:its.length=xs.length:=by rw[<-yk l0];exact rv.length.symm
   have n2:jts=[]:=by
    cases l1;exact Vj.mp (by have:=rw'.length;simpa using this.symm)
   subst n2;have hb:((List.range (min its.toArray.size ([]:List Value).toArray.size)).all (λ_=>true)&&its.toArray.size==([]:List Value).toArray.size)=xs.isEmpty:=by
    cases xs with
    | nil=>
     have:=Vj.mp n1;subst this;rfl
    | cons x r=>
     rw[SH,n1];simp
   have hlt:X.A.units < cLine:=by lia
   refine⟨λQ z=>PySem.SeqAt.eq_tupleAt (e:=λ_=>true) p q hlt (λj _ h2=>absurd h2 (by simp)) (by rw[hb];exact z),λQ z=>PySem.SeqAt.RcNeAt.tuples (e:=λ_=>true) p q hlt (λj _ h2=>absurd h2 (by simp)) _ _ _ Q (by rw[hb];exact z)⟩
theorem Lu(hu:X.A.units+64 < cLine):lR X (compareOp .NotEq) Mj:=by
 intro pins s σ H x y v u Q I rx ry hh;obtain⟨ρ,h,d,e,z,h',S,rd,re,ee,k⟩:=hh;unfold Mj at ee
 split at ee
 ·cases ee;exact(Mo hu I rx ry rd re).2 _ ⟨.bl _,H,I,rfl,k _ _ (.here S (.bl _))⟩
 ·cases ee
end Sm
namespace Hd
open PySem PySem.W PySem.Spec PyProof.Rows L2 Sm
noncomputable def lF:Obj->Bool
 |⟨.none,none,.fields vs,sl⟩=>vs.isEmpty&&sl.isEmpty
 | _=>false
noncomputable def yY(o:Obj):Bool:=!lF o
theorem we(h:lF o=true):o={cls:=.none,data:=.fields #[]}:=by
 unfold lF at h
 split at h
 ·rw[Tf] at h;have e1:=XD.mp h.1;have e2:=XD.mp h.2;subst e1;subst e2;rfl
 ·cases h
theorem gW(h:∀vs,o.data≠.fields vs):yY o=true:=by
 unfold yY;cases q:lF o with
 | false=>rfl
 | true=>exact absurd (by rw[we q]) (h #[])
theorem F5{o:Obj}{vs:Array Value}{i:Nat}{x:Value}(e:o.data=.fields vs)(h:vs[i]?=some x):yY o=true:=by
 unfold yY;cases q:lF o with
 | false=>rfl
 | true=>rw[we q] at e;cases e;simp at h
noncomputable def FU(h:Heap)(a:Addr):Option (Addr×Obj):=match h.get? a with
 | some o=>if yY o then some (a,o) else none
 | none=>none
noncomputable def uF(h:Heap):Frag:=(List.range h.objs.size).filterMap (FU h)
noncomputable def qO(h:Heap)(c:Addr):Option Value:=match h.get? c with
 | some ⟨.type "code",_,.fields vs,_⟩=>match (vs[11]?:Option Value) with
  | some (.ref P)=>match h.get? P with
   | some o=>if lF o then some (.ref P) else none
   | none=>none
  | _=>none
 | _=>none
noncomputable def zQ(h:Heap):List Value:=(List.range h.objs.size).filterMap (qO h)
noncomputable def aE(h:Heap):Frag:=if((uF h).lookup mainGlobals).isSome=true then uF h++[(mainGlobals,{cls:=.none,data:=.fields (zQ h).toArray})] else uF h
theorem km{h:Heap}{a:Addr}:(aE h).lookup a=(uF h).lookup a:=by
 unfold aE
 split
 ·rename_i hs;rw[List.lookup_append];cases q:(uF h).lookup a with
  | some o=>rfl
  | none=>
   rw[Option.none_or];rw[To];cases r:a==mainGlobals with
   | false=>rfl
   | true=>rw[Ux.mp r] at q;rw[q] at hs;cases hs
 ·rfl
theorem kh(h:Heap)(a:Addr):∀l:List Addr,(l.filterMap (FU h)).lookup a=if a∈l then(FU h a).map (·.2) else none
 | []=>rfl
 | b::r=>by
  have ih:=kh h a r
  by_cases hb:a=b
  ·subst hb;rw[Si Sk];rw[Ua];cases e:FU h a with
   | none=>
    dsimp only;rw[ih,e]
    split <;> rfl
   | some p=>
    have hp:p.1=a:=by
     unfold FU at e
     split at e
     ·split at e
      ·cases e;rfl
      ·cases e
     ·cases e
    obtain⟨p1,p2⟩:=p;dsimp only at hp;subst hp;simp
  ·have hm:(a∈b::r)↔a∈r:=by simp[hb]
   rw[Ua];cases e:FU h b with
   | none=>dsimp only;rw[ih];simp only[hm]
   | some p=>
    have hp:p.1=b:=by
     unfold FU at e
     split at e
     ·split at e
      ·cases e;rfl
      ·cases e
     ·cases e
    obtain⟨p1,p2⟩:=p;dsimp only at hp;subst hp;have hab:(a==p1)=false:=by simpa using hb
    rw[To,hab];dsimp only;rw[ih];simp only[hm]
theorem bG(e:h.get? a=some o)(f:yY o=true):(aE h).lookup a=some o:=by
 rw[km];unfold uF;rw[kh,Si]
 ·unfold FU;rw[e];dsimp only;rw[Si f];rfl
 ·rw[UR];exact SJ e
theorem IG(h:Heap):(aE h).In h:=λa o e=>by
 rw[km] at e;unfold uF at e;rw[kh] at e
 split at e
 ·unfold FU at e;cases g:h.get? a with
  | none=>rw[g] at e;cases e
  | some o'=>
   rw[g] at e;dsimp only at e
   split at e
   ·cases e;rfl
   ·cases e
 ·cases e
theorem AR(e:qO h c=some v):∃P,v=.ref P/\isCodeTable h P/\h.get? P=some {cls:=.none,data:=.fields #[]}:=by
 unfold qO at e
 split at e
 ·rename_i vs sl hc
  split at e
  ·rename_i P h11
   split at e
   ·rename_i o hP
    split at e
    ·rename_i ht;cases e;exact⟨P,rfl,⟨c,_,_,hc,rfl,rfl,h11⟩,by rw[hP,we ht]⟩
    ·cases e
   ·cases e
  ·cases e
 ·cases e
theorem Ku(g:h.Ns mainGlobals mg)(t:iH (aE h) b):isCodeTable h b/\h.get? b=some {cls:=.none,data:=.fields #[]}/\(aE h).lookup b=none:=by
 obtain⟨vs,m,hv⟩:=t;have key:.ref b∈zQ h:=by
  have nf:∀vs:Array Value,(mainGlobals,({cls:=.none,data:=.fields vs}:Obj))∉uF h:=λvs m=>by
   obtain⟨a,_,e⟩:=Uy.mp m;unfold FU at e
   split at e
   ·rename_i o ho
    split at e
    ·cases e;obtain⟨o',es,ep,g1,g2,_⟩:=g;rw[g1] at ho;cases ho;cases g2
    ·cases e
   ·cases e
  unfold aE at m
  split at m
  ·rcases SF.mp m with m | m
   ·exact absurd m (nf vs)
   ·have e:=Sz.mp m;cases e
    simpa using hv
  ·exact absurd m (nf vs)
 obtain⟨c,_,e⟩:=Uy.mp key;obtain⟨P,e1,e2,e3⟩:=AR e;cases e1;refine⟨e2,e3,?_⟩;rw[km];unfold uF;rw[kh]
 split
 ·unfold FU;rw[e3];rfl
 ·rfl
noncomputable def posOf(s:Stmt):Pos:=match s with
 | .FunctionDef _ _ _ _ _ _ _ _ _ p=>p
 | _=>⟨0,0,0,0⟩
noncomputable def mE(n:Str)(s:Stmt):DefRec:=⟨n,nv s,dq s,ak s,posOf s⟩
theorem Jc(r:h.CodeRec cd q):codeIn (aE h) cd q=true:=by
 obtain⟨c,o,vs,t,rfl,g,d,e⟩:=r;have f:yY o=true:=F5 d e;unfold codeIn;dsimp only;rw[bG g f];obtain⟨oc,od,dt,sl⟩:=o;dsimp only at d;subst d;dsimp only;obtain⟨l⟩:=vs;cases l with
 | nil=>cases e
 | cons x l=>cases l with
  | nil=>cases e
  | cons y r=>cases y <;> first |(cases e;simp;done) |(cases e;done)
theorem BS{q:Program}{loose:List Str}{mean:ExcName->Option Value}{mg mb:Str->Option Value}{h:Heap}(T:Top q loose mean mg mb h){n:Str}{st:Stmt}(e:(recsOf q).find? (λe=>e.name==n)=some (mE n st)):
  ∃f fd,mg n=some (.ref f)/\t9 (aE h) n n st f fd:=by
 have hm:mE n st∈recsOf q:=WL e;obtain⟨a,o,pm,code,doc,m,g,d,c⟩:=T.fn _ hm;have f:yY o=true:=gW λvs z=>by rw[d] at z;cases z
 have lk:=bG g f;have kp:keepIn (aE h) (.ref a)=true:=by
  unfold keepIn;dsimp only;rw[lk];obtain⟨oc,od,dt,sl⟩:=o;dsimp only at d;subst d;rfl
 obtain⟨oc,od,dt,sl⟩:=o;dsimp only at d;subst d;exact⟨a,_,m,⟨oc,od,.none,doc,pm,_,code,_,sl,rfl,lk,Jc c⟩,kp⟩
theorem _root_.L2.t9.one{K:Frag}{x qual:Str}{st:Stmt}{f:Addr}{fd:FuncData}{p:Str}(F:t9 K x qual st f fd)
  (h:∀(kV doc pm:Value)(an:Option Addr)(cdv ct:Value)(u:Value),bindArgs (PySem.W.fnOf x qual (nv st) (dq st) (ak st) .none kV doc pm an cdv ct) ⟨[u],[]⟩=pure [(p,u)]) (s:Shared) (u:Value):BindsTo s fd ⟨[u],[]⟩ [(p,u)]:=by
 obtain⟨oc,od,kV,doc,pm,an,cdv,ct,osl,rfl,lk,hcd⟩:=F.ex;exact .of_eq (h kV doc pm an cdv ct u)
theorem Me{l:OpenLaw}{q:Program}{loose:List Str}{XP:(Str->Option Value)->Heap->Prop}{YP:World->Heap->Prop}{d:DefRec}{k:Nat}(hn:l.most=some 63)(hdf:d.params.defaults=[])(hr:cL k callerA)
  (F:∀(w:World)(s₀:Shared)(mg mb:Str->Option Value)(h:Heap),Ground q loose [] XP w s₀ mg mb h->YP w h->∃(fa:Addr)(fd:FuncData),mg d.name=some (.ref fa)/\(∀(s:Shared)(u:Value),BindsTo s fd ⟨[u],[]⟩ [("_law_script",u)])/\
   ∀base:Heap,(aE h).In base->base.Ns mainGlobals mg->eS l.prog w (aE h) mg base nU k fa fd ["_law_script"] (spT (aE h))):
  WalkO q loose XP YP l.row.toRowW d [] (λf vs=>PySem.call f vs):=by
 refine Att.zy hn hdf λw s₀ s₁ mg mb fa o pm cd doc a vs ns G Y ho hd hcd hmg hobj hints hlen hg=>?_;obtain⟨fa',fd,e,hb,hF⟩:=F w s₀ mg mb _ G Y;rw[e] at hmg;cases hmg;exact FP (IG _) G.T.g G.T.b G.T.builtins G.T.nolimit hg hobj hints (Sw hlen (by decide)) hr hF hb (λ_=>Ku G.T.g) (λH hS ht=>⟨a,ns,rfl,hS,hlen,ht,λ_ t=>⟨rfl,t⟩⟩) λ_ _ _ z=>z
noncomputable def freeOk(q:Program)(loose xs:List Str):Bool:=xs.all λx=>!startupNames.contains x&&!(looseW q loose).contains x&&!((recsOf q).map (·.name)).contains x&&!((litsOf q).map (·.1)).contains x&&!((clssOf q (looseW q loose)).map (·.name)).contains x
theorem cU(T:Top q (looseW q loose) mean mg mb h)(e:freeOk q loose xs=true)(hx:x∈xs):mg x=none:=by
 have:=US.mp e x hx;simp only[Tf,XB,List.contains_eq_mem,WR] at this;exact T.free x this.1.1.1.1 this.1.1.1.2 this.1.1.2 this.1.2 this.2
end Hd
namespace Sm
open PySem L2
noncomputable def OH(f:Expr->Option D):List Expr->Option (List D)
 | []=>some []
 | e::es=>(f e).bind λd=>(OH f es).bind λds=>some (d::ds)
noncomputable def kD:Nat->Expr->Option D
 | 0,_=>none
 | n+1,e=>match e with
  | .Constant .none _ _=>some .cq
  | .Constant (.bool b) _ _=>some (.bl b)
  | .Constant (.int i) _ _=>some (.int i)
  | .Constant (.str x) _ _=>if PyData.strOk x then some (.str x) else none
  | .UnaryOp .USub (.Constant (.int i) _ _) _=>some (.int (-i))
  | .Tuple es _ _=>(OH (kD n) es).bind λds=>if ds.length<=1000 then some (.tup ds) else none
  | .List es _=>(OH (kD n) es).bind λds=>if ds.length<=1000 then some (.lv ds) else none
  | .Dict [] [] _=>some (.dv [])
  | _=>none
noncomputable def aK(ds:List D):AM:=λ_ h=>some (ds,h)
theorem Pd(ds:List D):kG (aK ds) ds.length:=λδ h xs h' e=>by cases e;rfl
section
variable {X:Cx}
theorem Eg(h:kD n e=some d)(es:List Expr):starEach (e::es) X.env=(false,eval e X.env)::starEach es X.env:=by
 cases n with
 | zero=>exact b7 h
 | succ n=>cases e <;> first | rfl |(exfalso;exact(nomatch h))
theorem wF(hf:∀{e:Expr} {d:D},f e=some d->SE X e (eK d))(hs:∀{e:Expr} {d:D},f e=some d->∀es:List Expr,starEach (e::es) X.env=(false,eval e X.env)::starEach es X.env):
  ∀{es:List Expr} {ds:List D},OH f es=some ds->SA X es (aK ds)
 | [],ds,h=>by cases h;exact aq
 | e::es,ds,h=>by
  unfold OH at h;obtain⟨d,e1,h⟩:=bw h;obtain⟨r,e2,h⟩:=bw h;cases h;exact(aa (hf e1) (wF hf hs e2) (hs e1 es):SA X _ (ag (eK d) (aK r)))
theorem dh:∀(n:Nat) {e:Expr} {d:D},kD n e=some d->SE X e (eK d)
 | 0,_,_,h=>by cases h
 | n+1,e,d,h=>by
  cases e <;> first |(exact b7 h) | skip
  case Constant c _ _=>
   cases c <;> first |(exact b7 h) | skip
   case none=>cases h;exact Er
   case bool=>cases h;exact JE
   case int=>cases h;exact aH
   case str x=>
    have h:(if PyData.strOk x then some (D.str x) else none)=some d:=h
    by_cases hs:PyData.strOk x=true
    ·rw[Si hs] at h;cases h;exact bc hs
    ·rw[Sv hs] at h;cases h
  case UnaryOp o e _=>
   cases o <;> first |(exact b7 h) | skip
   cases e <;> first |(exact b7 h) | skip
   rename_i c _ _;cases c <;> first |(exact b7 h) | skip
   cases h;exact(pe jk aH:SE X _ (t8 iL (eK _)))
  case Tuple es _ _=>
   obtain⟨ds,e1,e2⟩:=bw h
   by_cases hl:ds.length<=1000
   ·rw[Si hl] at e2;cases e2;exact(bZ (wF (dh n) Eg e1) (Pd ds) (Sw hl (by decide)):SE X _ (ax aW (aK ds)))
   ·rw[Sv hl] at e2;cases e2
  case List es _=>
   obtain⟨ds,e1,e2⟩:=bw h
   by_cases hl:ds.length<=1000
   ·rw[Si hl] at e2;cases e2;exact(lM.lv (dO (wF (dh n) Eg e1) (Pd ds) (Sw hl (by decide))):SE X _ (fX (aK ds)))
   ·rw[Sv hl] at e2;cases e2
  case Dict ks vs _=>
   cases ks <;> first |(exact b7 h) | skip
   cases vs <;> first |(exact b7 h) | skip
   cases h;exact NW
end
end Sm
namespace L2
open PySem PySem.Spec PyProof.Rows
noncomputable def kH(ns:List Int):List Int:=ns.mergeSort λa b=>decide (a<=b)
theorem iP(ns:List Int):(kH ns).Perm ns:=Xg _ _
theorem wq(ns:List Int):(kH ns).Pairwise (·<=·):=by
 have:=WX (le:=λa b:Int=>decide (a<=b)) (λa b c h1 h2=>by simp at h1 h2 ⊢;lia) (λa b=>by simp;lia) ns;exact this.imp λh=>by simpa using h
theorem Ek(hp:ss.Perm ns)(h:ss.Pairwise (·<=·)):ss=kH ns:=
 WQ (λa b _ _ h1 h2=>Int.le_antisymm h1 h2) h (wq ns) (hp.trans (iP ns).symm)
theorem AW:fY X (.builtin "sorted") (λxs H Q=>∃a ss,xs=[.ref a]/\gH X.K H a (ss.map V.int)/\ss.length < 64/\∀l,H l=none->Q (.ref l) (upd H l (.lst ((kH ss).map V.int)))):=by
 intro pins s σ H xs us Q I r h;obtain⟨a,ss,rfl,ha,h64,q⟩:=h;obtain⟨u,rfl,ru⟩:=vals1 r;cases ru;obtain⟨its,rv,p,hz⟩:=I.list ha;have hS:=intsAre_of rv;have hlen:its.length=ss.length:=by have:=rv.length;rw[R9] at this;exact this.symm
 refine sorted_ints p.isList hS (by lia) λout ss' h1 h2 h3=>?_;have:=Ek h2 h3;subst this;have hl:s.heap.objs.size<=s.heap.objs.size+1:=UL _;obtain⟨e,ho⟩:=sortedAll_at s.heap its out;have hz':((kH ss).map V.int).length<=sizeLine:=by rw[R9,(iP ss).length_eq,Ve];lia
 refine⟨.ref (s.heap.objs.size+1),_,I.laid (t':=s.toks) (o:=.lst ((kH ss).map V.int)) (λb o q=>sortedAll_old q) hl ⟨hz',out.toList,e,nW h1,?_⟩,rfl,q _ (I.bg.fresh hl)⟩;rw[ho]
end L2
namespace Sm
open PySem L2 PySem.Spec PyProof.Rows
noncomputable def F7:Fn:=λds h=>match ds with
 | [d]=>(dR d h).bind λxs=>(m8 xs).bind λns=>if ns.length < 64 then some (.lv ((kH ns).map D.int),h) else none
 | _=>none
theorem repL_ints'{K:FR}{ρ:Ad}{H:Hp}:∀(ns:List Int),aG K ρ H (ns.map V.int) (ns.map D.int)
 | []=>.nil
 | n::r=>.cons (.int n) (repL_ints' r)
theorem Gu:g5 X (.builtin "sorted") F7:=by
 intro pins s σ H xs us Q I r hh;obtain⟨ρ,h,ds,z,h',S,l,ee,k⟩:=hh
 match ds,l,ee with
 | [],_,ee=>exact b7 ee
 | _::_::_,_,ee=>exact b7 ee
 | [d],l,ee=>
  obtain⟨v,rfl,rd⟩:=rep1 l;obtain⟨ys,e1,e2⟩:=bw ee;obtain⟨ns,e3,e4⟩:=bw e2
  by_cases c:ns.length < 64
  ·rw[Si c] at e4;cases e4;obtain⟨a,vs,rfl,ha,la⟩:=dI S rd e1;have:=sS e3;subst this;have:=rQ la;subst this;exact AW pins s σ H _ us Q I r ⟨a,ns,rfl,gH.of ha,c,λl hl=>k _ _ (.lv S (repL_ints' _) hl)⟩
  ·rw[Sv c] at e4;cases e4
noncomputable def AL(m:Kd):EM:=λδ h=>(m δ h).bind λp=>if p.1.length<=15 then some (.ob p.2.length,p.2++[.dct (Av [] p.1)]) else none
theorem Es(h:SP X pos keys vals m)(hall:keys.all (·.isSome)=true)(hl:keys.length=vals.length)(h0:keys≠[])(hp:∀trs,M0 X pos keys vals trs->PE X (.Dict keys vals pos) (Ea trs)):SE X (.Dict keys vals pos) (AL m):=by
 obtain⟨trs,h1,h2⟩:=h;refine(hp trs h1).imp λσ H Q ⟨ρ,δ,h,d,h',R,S,ee,k⟩ p hpn=>?_;obtain⟨⟨kvs,ha⟩,e1,e2⟩:=bw ee;dsimp only at e2
 by_cases z:kvs.length<=15
 ·rw[Si z] at e2;cases e2;have Tl:Ch ρ H (ρ.keep p) (upd H p (.dK [])):=Ch.keep hpn;have nl:¬ρ.has p:=S.fresh hpn;refine h2 σ _ _ ⟨ρ.keep p,δ,h,kvs,_,R.mono Tl,S.keep hpn,e1,λus ρ2 H2 T2 S2 r2=>?_⟩;have hp2:H2 p=some (.dK []):=(T2.res p Sk).trans aO;refine⟨hp2,us,rfl,by rw[r2.len];exact z,?_⟩;obtain⟨ob2,rs2⟩:=ρ2;have ers:rs2=p::ρ.rs:=T2.rs;subst ers;have hml:p∈(⟨ob2,p::ρ.rs⟩:Ad).rs:=Sk;have npo:p∉ob2:=(S2.t6 p hml).2;have hne:∀b∈ρ.rs,b≠p:=λb hb z=>nl (.inr (z ▸ hb));generalize hH3:upd H2 p (.dK (gm [] us))=H3;have at3:∀b,b≠p->H3 b=H2 b:=λb hb=>by rw[<-hH3,az hb]
  have C23:Ch ⟨ob2,p::ρ.rs⟩ H2 ⟨ob2++[p],ρ.rs⟩ H3:=by
   refine⟨λn a e=>?_,λb o nb eb=>⟨λz=>?_,?_⟩⟩
   ·show(ob2++[p])[n]?=_;rw[Sx (Se.mp e).1];exact e
   ·rcases z with z | z
    ·rcases SF.mp z with z | z
     ·exact nb (.inl z)
     ·exact nb (.inr (by rw[Sz.mp z];exact Sk))
    ·exact nb (.inr (Sq _ z))
   ·rw[at3 b (λz=>nb (.inr (by rw[z];exact Sk)))];exact eb
  refine k _ _ ⟨⟨ob2++[p],ρ.rs⟩,⟨(Tl.trans T2.toCh).trans C23,rfl,λb hb=>?_⟩,?_,.ob (by show(ob2++[p])[ha.length]?=_;rw[<-S2.len];simp)⟩
  ·rw[at3 b (hne b hb),T2.res b (Sq _ hb)];exact az (hne b hb)
  ·refine⟨by show(ob2++[p]).length=_;simp;exact S2.len,?_,λn a x e1 e2=>?_,λb hb=>?_,S.Kt ((Tl.trans T2.toCh).trans C23)⟩
   ·show(ob2++[p]).Nodup;rw[Wv];exact⟨S2.nd,by simp,λa ha b hb z=>npo (by rw[<-Sz.mp hb,<-z];exact ha)⟩
   ·have e1:(ob2++[p])[n]?=some a:=e1;have hlen:ob2.length=ha.length:=S2.len
    by_cases hn:n < ob2.length
    ·rw[Sx hn] at e1;rw[Sx (by lia)] at e2;exact(S2.at_ n a x e1 e2).mono C23 (at3 a λz=>npo (z ▸ Sd e1))
    ·have l1:=(Se.mp e1).1;simp at l1;have hn':n=ob2.length:=by lia
     subst hn';rw[SD (Sj _)] at e1;rw[SD (by lia),hlen] at e2;simp at e1 e2;subst e1;subst e2;exact⟨gm [] us,by rw[<-hH3];exact aO,(bJ.merge .nil r2).mono C23⟩
   ·obtain⟨⟨o,eo⟩,nb⟩:=S2.t6 b (Sq _ hb);refine⟨⟨o,by rw[at3 b (hne b hb)];exact eo⟩,λz=>?_⟩;rcases SF.mp z with z | z
    ·exact nb z
    ·exact hne b hb (Sz.mp z)
 ·rw[Sv z] at e2;cases e2
noncomputable def uH(d e:D)(h:MH):Option (D×MH):=match e with
 | .int n=>(dR d h).bind λxs=>if 0<=n/\n<=1000/\xs.length<=1000 then some (.lv (List.replicate n.toNat xs).flatten,h) else none
 | _=>none
theorem aG.rep{K:FR}{ρ:Ad}{H:Hp}{vs:List V}{ds:List D}(h:aG K ρ H vs ds):∀k:Nat,aG K ρ H (List.replicate k vs).flatten (List.replicate k ds).flatten
 | 0=>.nil
 | k+1=>by
  rw[TU,TU,Uo,Uo];exact h.append (aG.rep h k)
theorem su:lR X (binaryOp .Mult) uH:=by
 intro pins s σ H x y v u Q I rx ry hh;obtain⟨ρ,h,d,e,z,h',S,rd,re,ee,k⟩:=hh;cases e <;> first |(exact b7 ee) | skip
 rename_i n;obtain⟨xs,e1,e2⟩:=bw (show(dR d h).bind _=_ from ee)
 by_cases c:0<=n/\n<=1000/\xs.length<=1000
 ·rw[Si c] at e2;cases e2;obtain⟨a,vs,rfl,ha,la⟩:=dI S rd e1;cases re;have hb:xs.length*n.toNat<=1000*1000:=Nat.mul_le_mul c.2.2 (by lia);exact LA pins s σ H _ _ v u Q I rx ry ⟨a,n,vs,rfl,rfl,ha,by lia,by lia,by rw[la.length,show sizeLine=16777216 from rfl];lia,λl hl=>k _ _ (.lv S (la.rep _) hl)⟩
 ·rw[Sv c] at e2;cases e2
end Sm
namespace L2
open PySem PySem.Spec PyProof.Rows
theorem uL:∀(us:List Value)(o:Nat),(∀(j:Nat) v,us[j]?=some v->∃t,v=.int ((o:Int)+j) t)->Vals ((List.range' o us.length).map λ(k:Nat)=>V.int k) us
 | [],_,_=>.nil
 | u::r,o,h=>by
  rw[Sf,List.range'_succ,Sl];obtain⟨t,e⟩:=h 0 u rfl;refine .cons ⟨t,by rw[e];simp⟩ (uL r (o+1) λj v hv=>?_);obtain⟨t,e⟩:=h (j+1) v (by simpa using hv);exact⟨t,by rw[e];congr 1;lia⟩
theorem CH(hc:X.calm=true)(hg1:Gl X "list")(hm1:X.mg "list"=none)(hg2:Gl X "range")(hm2:X.mg "range"=none)(hv:bootBuiltins "list"=some (.type "list"))(ha:PA X [a] ta)(hs:starEach [a] X.env=[(false,eval a X.env)]):
  PE X (.Call (.Name "list" p) [.Call (.Name "range" p2) [a] [] pos2] [] pos) (λσ H Q=>ta σ H λvs H1=>∃j:Int,vs=[.int j]/\0<=j/\j<=1000/\∀l,H1 l=none->Q (.ref l) (upd H1 l (.lst ((List.range j.toNat).map λ(k:Nat)=>V.int k)))):=by
 intro pins s σ H Q I h;refine Ul (jO I hg1 hm1 hv ?_);refine Ur ?_ rfl rfl;show wpAny _ _ (spliced ((false,eval (.Call (.Name "range" p2) [a] [] pos2) X.env)::backTo pos (starEach [] X.env))) _ _ s;refine WA ?_;refine Ul (jO I hg2 hm2 boot_range (Ur (cD (ha pos2 pins s σ H _ I h) λus s1 ⟨vs,H1,I1,r1,q1⟩=>?_) hs rfl));obtain⟨j,e,j0,j1,q⟩:=q1;subst e;cases r1 with
 | cons r rr=>
  cases rr;obtain⟨t,rfl⟩:=r;refine call_range_1 ?_;have I2:Inv X pins σ H1 {s1 with heap:=s1.heap.push {cls:=.type "range",data:=.fields #[.int 0 s1.toks,.int j t,.int 1 (s1.toks+1)]},toks:=s1.toks+1+1}:=I1.kept λb o e=>Ss _ e;refine WH ?_;refine call_list_range (n:=j.toNat) (I1.ok.hd hc) (IsRange.new ..) (small_one (by lia) (by lia) (by lia) (by lia)) (by rw[rangeSize_one];split <;> lia) (by lia) λh' tk acc' c' hk hS' hacc=>?_;have hlen:acc'.toList.length=j.toNat:=by rw[Vd];exact hacc.1
  have hv:Vals ((List.range j.toNat).map λ(k:Nat)=>V.int k) acc'.toList:=by
   have:=uL acc'.toList 0 λi v hv=>by
    obtain⟨t,e⟩:=hacc.2 i v (by simpa using hv);exact⟨t,by rw[e];congr 1;simp⟩
   rw[hlen] at this;rw[List.range_eq_range'];exact this
  refine⟨.ref _,_,I2.laid (t':=tk) (o:=.lst ((List.range j.toNat).map λ(k:Nat)=>V.int k)) hk (Sj _) ⟨by rw[R9,Tr,Ve];lia,acc'.toList,c',hv,?_⟩,rfl,q _ (I2.bg.fresh (Sj _))⟩;rw[hS']
end L2
namespace Sm
open PySem L2 PySem.Spec PyProof.Rows
noncomputable def MQ(m:AM):AM:=λδ h=>(m δ h).bind λp=>match p.1 with
 | [.int j]=>if 0<=j/\j<=1000 then some ((List.range j.toNat).map λ(k:Nat)=>D.int k,p.2) else none
 | _=>none
theorem rP{K:FR}{ρ:Ad}{H:Hp}:∀l:List Nat,aG K ρ H (l.map λ(k:Nat)=>V.int k) (l.map λ(k:Nat)=>D.int k)
 | []=>.nil
 | n::r=>.cons (.int n) (rP r)
theorem Cw(hc:X.calm=true)(hg1:Gl X "list")(hm1:X.mg "list"=none)(hg2:Gl X "range")(hm2:X.mg "range"=none)(hv:bootBuiltins "list"=some (.type "list"))(ha:SA X [a] m)(hs:starEach [a] X.env=[(false,eval a X.env)]:=by ac_nf):
  lM X (.Call (.Name "list" p) [.Call (.Name "range" p2) [a] [] pos2] [] pos) (MQ m):=(CH hc hg1 hm1 hg2 hm2 hv ha hs).imp λσ H Q ⟨ρ,δ,h,ds,h',R,S,e,k⟩=>by
 obtain⟨⟨xs,h1⟩,e1,e2⟩:=bw e;dsimp only at e2
 split at e2
 ·rename_i j
  split at e2
  ·rename_i c;cases e2;refine⟨ρ,δ,h,_,_,R,S,e1,λvs ρ1 H1 T1 S1 r1=>?_⟩;obtain⟨v,rfl,rd⟩:=rep1 r1;cases rd;exact⟨j,rfl,c.1,c.2,λl hl=>k ρ1 H1 l _ T1 S1 hl (rP _)⟩
  ·cases e2
 ·cases e2
noncomputable def DD(ma mb:EM):AM:=λδ h=>(ma δ h).bind λp=>(mb δ p.2).bind λq=>(dR p.1 q.2).bind λxs=>(dR q.1 q.2).bind λys=>if xs.length+ys.length<=sizeLine then some (xs++ys,q.2) else none
theorem wy(ha:SE X a ma)(hb:SE X b mb):lM X (.BinOp a .Add b pos) (DD ma mb):=(JL Fz ha hb).imp λσ H Q ⟨ρ,δ,h,ds,h',R,S,e,k⟩=>by
 obtain⟨⟨x,h1⟩,e1,e2⟩:=bw e;obtain⟨⟨y,h2⟩,e3,e4⟩:=bw e2;obtain⟨xs,e5,e6⟩:=bw e4;obtain⟨ys,e7,e8⟩:=bw e6;dsimp only at e3 e5 e7
 split at e8
 ·rename_i c;cases e8;refine⟨ρ,δ,h,x,h1,R,S,e1,λv H1 ⟨ρ1,T1,S1,r1⟩=>⟨ρ1,δ,h1,y,h2,R.mono T1.toCh,S1,e3,λu H2 ⟨ρ2,T2,S2,r2⟩=>?_⟩⟩;obtain⟨a,vs,rfl,hA,lA⟩:=dI S2 (r1.mono T2.toCh) e5;obtain⟨b,us,rfl,hB,lB⟩:=dI S2 r2 e7;exact⟨a,b,vs,us,rfl,rfl,hA,hB,by rw[lA.length,lB.length];exact c,λp hp=>k ρ2 H2 p (vs++us) (T1.trans T2) S2 hp (lA.append lB)⟩
 ·cases e8
end Sm
namespace Sm
open PySem L2
theorem r8:∀cs:List Int,mG (cs.map D.int)=some (cs.map PyData.int)
 | []=>rfl
 | c::r=>by simp only[Sl,mG,vc,r8 r,Td,Tj]
theorem lI:∀cs:List Int,PyData.depthAll (cs.map PyData.int)=0
 | []=>rfl
 | c::r=>by simp only[Sl,PyData.depthAll,lI r,PyData.depth];rfl
theorem vE{h:MH}{c:Nat}{cs:List Int}(hc:h[c]?=some (.lst (cs.map D.int))):nj (.ob c) (.lv []) h=some (.bl (!cs.isEmpty),h):=by
 simp only[nj,JT,eA,hc,JS,Bt,r8,vc,mG,Tj,Td,PyData.depth,lI];cases cs <;> rfl
theorem hU(hn:h[n]?=some (.lst xs))(e:gG xs i=some d):aT (.ob n) (.int i) h=some (d,h):=by
 simp only[aT,eA,hn,dP,Td,e,Tj]
theorem xw(hn:h[n]?=some (.lst xs)):cG [.ob n] h=some (.int xs.length,h):=by
 simp only[cG,eA,hn,dP,Tj]
theorem ni(hn:h[n]?=some (.lst xs))(e:sQ xs.length i=some p):uG (.ob n) (.int i) d h=some (h.set n (.lst (xs.set p d))):=by
 simp only[uG,hn,e,Tj]
theorem GS(cs:List Int)(i:Int)(h0:0<=i)(h1:i < cs.length):∃z,gG (cs.map D.int) i=some (.int z):=by
 have hlt:i.toNat < cs.length:=by lia
 refine⟨cs[i.toNat]'hlt,?_⟩;have e:((i.toNat:Nat):Int)=i:=VA h0;have q:gG (cs.map D.int) ((i.toNat:Nat):Int)=some (D.int (cs[i.toNat]'hlt)):=qT (by rw[SK,SN hlt];rfl);rw[e] at q;exact q
theorem GQ(h0:0<=i)(h1:i < xs.length):∃v,gG xs i=some v/\v∈xs:=by
 have hlt:i.toNat < xs.length:=by lia
 have e:((i.toNat:Nat):Int)=i:=VA h0;have q:gG xs ((i.toNat:Nat):Int)=some (xs[i.toNat]'hlt):=qT (SN hlt);rw[e] at q;exact⟨_,q,List.getElem_mem hlt⟩
end Sm
namespace Sm
open PySem
def Rn{α:Type}(o:Option α)(Q:α->Prop):Prop:=∃a,o=some a/\Q a
theorem rv(e:o=some a)(q:Q a):Rn o Q:=⟨a,e,q⟩
theorem Rn.imp(r:Rn o Q)(f:∀a,Q a->Q' a):Rn o Q':=let⟨a,e,q⟩:=r;⟨a,e,f a q⟩
theorem ba(r:Rn o λa=>Rn (f a) Q):Rn (o.bind f) Q:=by
 obtain⟨a,e,b,e2,q⟩:=r;exact⟨b,by rw[e];exact e2,q⟩
theorem EE(r:Rn o λa=>Q (f a)):Rn (o.map f) Q:=by
 obtain⟨a,e,q⟩:=r;exact⟨f a,by rw[e];rfl,q⟩
theorem gj(e:δ[i]?=some (some d))(q:Q (d,h)):Rn (ay i δ h) Q:=⟨(d,h),by unfold ay;rw[e];rfl,q⟩
theorem JI(q:Q (d,h)):Rn (eK d δ h) Q:=⟨_,rfl,q⟩
theorem rZ(r:Rn (a δ h) λp=>Rn (b δ p.2) λq=>Rn (f p.1 q.1 q.2) Q):Rn (ar f a b δ h) Q:=ba (r.imp λ_ r=>ba r)
theorem Qx(r:Rn (a δ h) λp=>Rn (f p.1 p.2) Q):Rn (t8 f a δ h) Q:=ba r
theorem jz(q:Q ([],h)):Rn (aL δ h) Q:=⟨_,rfl,q⟩
theorem cJ(r:Rn (a δ h) λp=>Rn (m δ p.2) λq=>Q (p.1::q.1,q.2)):Rn (ag a m δ h) Q:=ba (r.imp λ_ r=>ba (r.imp λ_ q=>⟨_,rfl,q⟩))
theorem HF(r:Rn (m δ h) λp=>Rn (f p.1 p.2) Q):Rn (ax f m δ h) Q:=ba r
theorem oz(r:Rn (a δ h) λp=>∃c,p.1=.bl c/\Q (c,p.2)):Rn (aJ a δ h) Q:=ba (r.imp λp ⟨c,e,q⟩=>⟨(c,p.2),by rw[e],q⟩)
theorem EO(r:Rn (a δ h) λp=>∃c,zO p.1 p.2=some c/\Q (c,p.2)):Rn (lT a δ h) Q:=ba (r.imp λp ⟨c,e,q⟩=>⟨(c,p.2),by rw[e];rfl,q⟩)
theorem wM(r:Rn (t δ h) λp=>Q (!p.1,p.2)):Rn (Sm.jm t δ h) Q:=EE r
theorem K1(r:Rn (a δ h) λp=>(p.1=true->Rn (b δ p.2) Q)/\(p.1=false->Q (false,p.2))):Rn (Sm.n4 a b δ h) Q:=ba (r.imp λp ⟨q1,q2⟩=>by
 obtain⟨c,h⟩:=p;cases c with
 | true=>exact q1 rfl
 | false=>exact⟨_,rfl,q2 rfl⟩)
theorem JH(r:Rn (a δ h) λp=>(p.1=true->Q (true,p.2))/\(p.1=false->Rn (b δ p.2) Q)):Rn (Sm.D9 a b δ h) Q:=ba (r.imp λp ⟨q1,q2⟩=>by
 obtain⟨c,h⟩:=p;cases c with
 | true=>exact⟨_,rfl,q1 rfl⟩
 | false=>exact q2 rfl)
theorem Ob(r:Rn (a δ h) λp=>∃c,p.1=.bl c/\(c=true->Rn (b δ p.2) Q)/\(c=false->Q (.bl false,p.2))):Rn (zc a b δ h) Q:=ba (r.imp λp ⟨c,e,q1,q2⟩=>by
 rw[e];cases c with
 | true=>exact q1 rfl
 | false=>exact⟨_,rfl,q2 rfl⟩)
theorem Qy(r:Rn (a δ h) λp=>∃c,p.1=.bl c/\(c=true->Q (.bl true,p.2))/\(c=false->Rn (b δ p.2) Q)):Rn (Q0 a b δ h) Q:=ba (r.imp λp ⟨c,e,q1,q2⟩=>by
 rw[e];cases c with
 | true=>exact⟨_,rfl,q1 rfl⟩
 | false=>exact q2 rfl)
theorem yt(r:Rn (m δ h) λp=>Q (.lv p.1,p.2)):Rn (fX m δ h) Q:=EE r
theorem Qz(r:Rn (m δ h) λp=>Q (.ob p.2.length,p.2++[.lst p.1])):Rn (zG m δ h) Q:=EE r
theorem K3(r:Rn (m δ h) λp=>∃d xs ws,p.1=[d]/\dP d p.2=some (xs,ws)/\Q (xs,p.2)):Rn (GU m δ h) Q:=ba (r.imp λp ⟨d,xs,ws,e,e2,q⟩=>⟨(xs,p.2),by rw[e];dsimp only;rw[e2];rfl,q⟩)
theorem N3(q:Q (none,h)):Rn (wW δ h) Q:=⟨_,rfl,q⟩
theorem N4(r:Rn (a δ h) λp=>∃i,p.1=.int i/\Q (some i,p.2)):Rn (uv a δ h) Q:=ba (r.imp λp zz=>by obtain⟨c,e,q⟩:=zz;exact⟨_,by rw[e],q⟩)
abbrev SQ:=Fl×DS×MH->Prop
theorem K2(q:Q (.nx,δ,h)):Rn (cf δ h) Q:=⟨_,rfl,q⟩
def Bi(b:SM)(Q:SQ):SQ:=λr=>match r.1 with
 | .nx=>Rn (b r.2.1 r.2.2) Q
 | _=>Q r
theorem eT(r:Rn (a δ h) (Bi b Q)):Rn (av a b δ h) Q:=ba (r.imp λp q=>by
 obtain⟨f,δ',h'⟩:=p;cases f with
 | nx=>exact q
 | bk=>exact⟨_,rfl,q⟩
 | ct=>exact⟨_,rfl,q⟩
 | rt d=>exact⟨_,rfl,q⟩)
theorem Bu(r:Rn (e δ h) λp=>Q (.nx,δ.set i (some p.1),p.2)):Rn (aV i e δ h) Q:=ba (r.imp λ_ q=>⟨_,rfl,q⟩)
theorem ET(r:Rn (e δ h) λp=>Rn (g p.1 δ p.2) λq=>Q (.nx,q.1,q.2)):Rn (fE e g δ h) Q:=ba (r.imp λ_ r=>ba (r.imp λ_ q=>⟨_,rfl,q⟩))
theorem ES(r:Rn (e δ h) λp=>Q (.nx,δ,p.2)):Rn (gO e δ h) Q:=ba (r.imp λ_ q=>⟨_,rfl,q⟩)
theorem yr(r:Rn (e δ h) λp=>Q (.rt p.1,δ,p.2)):Rn (bh e δ h) Q:=ba (r.imp λ_ q=>⟨_,rfl,q⟩)
theorem rY(r:Rn (t δ h) λp=>(p.1=true->Rn (a δ p.2) Q)/\(p.1=false->Rn (b δ p.2) Q)):Rn (fz t a b δ h) Q:=ba (r.imp λp ⟨q1,q2⟩=>by
 obtain⟨c,h⟩:=p;cases c with
 | true=>exact q1 rfl
 | false=>exact q2 rfl)
theorem N5(r:Rn (m δ h) λp=>∃a b,p.1=[a,b]/\Q (.nx,(δ.set i (some a)).set j (some b),p.2)):Rn (ue i j m δ h) Q:=ba (r.imp λp zz=>by obtain⟨a,b,e,q⟩:=zz;exact⟨_,by rw[e],q⟩)
theorem CC(q:Q (δ.set i (some d),h)):Rn (gN i d δ h) Q:=⟨_,rfl,q⟩
theorem K5(r:Rn (o δ h) λp=>Rn (i δ p.2) λq=>Rn (uG p.1 q.1 v q.2) λh'=>Q (δ,h')):Rn (Sm.qu o i v δ h) Q:=ba (r.imp λ_ r=>ba (r.imp λ_ r=>EE r))
theorem K4(hn:xs.length=n)(r:Rn (u xs δ h) Q):Rn (gT n u (.tup xs) δ h) Q:=by
 unfold gT;dsimp only;rw[Si hn];exact r
theorem iu(r:Rn (g d δ h) λp=>Rn (u xs p.1 p.2) Q):Rn (au g u (d::xs) δ h) Q:=ba r
theorem wO(q:Q (δ,h)):Rn (bY [] δ h) Q:=⟨_,rfl,q⟩
def HB(Q:D×MH->Prop):SQ:=λr=>match r.1 with
 | .rt d=>Q (d,r.2.2)
 | .nx=>Q (.cq,r.2.2)
 | _=>False
theorem QM(q:Q (d,h)):HB Q (.rt d,δ,h):=q
theorem QN(q:Q (.cq,h)):HB Q (.nx,δ,h):=q
theorem q9(r:Rn (b δ h) Q):Bi b Q (.nx,δ,h):=r
theorem Qa(q:Q (.rt d,δ,h)):Bi b Q (.rt d,δ,h):=q
def JP(I:DS->MH->Prop)(Q:SQ):SQ:=λz=>match z.1 with
 | .nx=>I z.2.1 z.2.2
 | .ct=>I z.2.1 z.2.2
 | .bk=>Q (.nx,z.2.1,z.2.2)
 | .rt d=>Q (.rt d,z.2.1,z.2.2)
theorem QT(q:I δ h):JP I Q (.nx,δ,h):=q
theorem bU(r:Rn (b (entry len ds) h) (HB Q)):Rn (jJ len b ds h) Q:=ba (r.imp λp q=>by
 obtain⟨f,δ',h'⟩:=p;cases f with
 | nx=>exact⟨_,rfl,q⟩
 | rt d=>exact⟨_,rfl,q⟩
 | bk=>exact q.elim
 | ct=>exact q.elim)
theorem Oa(r:Rn (i δ h) λp=>Rn (lH p.2.1 g b p.1 δ p.2.2) Q):Rn (iR i g b δ h) Q:=ba r
theorem cZ:∀{xs:List D} {δ:DS} {h:MH} (I:Nat->DS->MH->Prop),I 0 δ h->(∀i δ h,i<=xs.length->I i δ h->nC ws h=true)->
  (∀i x δ h,xs[i]?=some x->I i δ h->Rn (g x δ h) λq=>Rn (b q.1 q.2) (JP (I (i+1)) Q))->(∀δ h,I xs.length δ h->Q (.nx,δ,h))->Rn (lH ws g b xs δ h) Q
 | [],δ,h,I,h0,hc,_,hq=>by
  unfold lH;rw[Si (hc 0 δ h (Sj _) h0)];exact⟨_,rfl,hq δ h h0⟩
 | x::xs,δ,h,I,h0,hc,ht,hq=>by
  unfold lH;rw[Si (hc 0 δ h (UK _) h0)];obtain⟨q,e1,z,e2,hz⟩:=ht 0 x δ h rfl h0;rw[e1];show Rn ((b q.1 q.2).bind _) Q;rw[e2];obtain⟨f,δ',h'⟩:=z;have next:I 1 δ' h'->Rn (lH ws g b xs δ' h') Q:=λhi=>cZ (λi=>I (i+1)) hi (λi δ h hl=>hc (i+1) δ h (Vt hl)) (λi x δ h hx=>ht (i+1) x δ h (by simpa using hx)) hq
  cases f with
  | nx=>exact next hz
  | ct=>exact next hz
  | bk=>exact⟨_,rfl,hz⟩
  | rt d=>exact⟨_,rfl,hz⟩
theorem fP(r:Rn (e δ h) λp=>∃xs ws,dP p.1 p.2=some (xs,ws)/\Q (xs,ws,p.2)):Rn (dm e δ h) Q:=ba (r.imp λp ⟨xs,ws,e,q⟩=>⟨(xs,ws,p.2),by rw[e];rfl,q⟩)
theorem g8(r:Rn (m δ h) λp=>∃j:Int,p.1=[.int j]/\-(2^62)<=j/\j < 2^62/\Q ((List.range j.toNat).map λ(k:Nat)=>D.int (k:Int),[],p.2)):Rn (qt m δ h) Q:=ba (r.imp λp ⟨j,e,h1,h2,q⟩=>by
 rw[e];dsimp only;rw[Si ⟨h1,h2⟩];exact⟨_,rfl,q⟩)
theorem j9(r:Rn (m δ h) λp=>∃d xs ws,p.1=[d]/\dP d p.2=some (xs,ws)/\Q (iC 0 xs,ws,p.2)):Rn (pV m δ h) Q:=
 ba (r.imp λp zz=>by obtain⟨d,xs,ws,e1,e2,q⟩:=zz;exact⟨_,by rw[e1];dsimp only;rw[e2];rfl,q⟩)
theorem K6(r:Rn (i δ h) λp=>Rn (bV p.2.1 g c e p.1 (fK caps δ) p.2.2) λq=>q.1.length<=sizeLine/\Q q):Rn (cI caps i g c e δ h) Q:=
 ba (r.imp λp r=>ba (r.imp λq ⟨hz,hq⟩=>⟨q,by rw[Si hz],hq⟩))
theorem wQ(hc:nC ws h=true)(f:D->Option D)(J:DS->Prop):∀{xs:List D} {δ:DS},J δ->
  (∀x∈xs,∀δ,J δ->Rn (g x δ h) λq=>q.2=h/\Rn (c q.1 h) λt=>t.2=h/\J q.1/\(t.1=true->∃y,f x=some y/\Rn (e q.1 h) λp=>p=(y,h))/\(t.1=false->f x=none))->
  bV ws g c e xs δ h=some (xs.filterMap f,h)
 | [],δ,_,_=>by unfold bV;rw[Si hc];rfl
 | x::xs,δ,hJ,ht=>by
  unfold bV;rw[Si hc];obtain⟨⟨δ1,h1⟩,e1,rfl,⟨t,h2⟩,e2,rfl,J1,q1,q2⟩:=ht x Sk δ hJ;rw[e1];dsimp only[Option.bind_some] at e2 q1 q2 ⊢;rw[e2];dsimp only[Option.bind_some];have ih:=wQ hc f J J1 (xs:=xs) λy hy=>ht y (Sq _ hy);cases t with
  | true=>
   obtain⟨y,ef,p,ep,rfl⟩:=q1 rfl;rw[Si rfl,ep];dsimp only[Option.bind_some];rw[ih,Ua,ef];rfl
  | false=>
   rw[Sv (by simp),ih,Ua,q2 rfl]
end Sm
namespace Sm
theorem K0(q:Q (d,h))(e:δ[i]?=some (some d):=by with_unfolding_all rfl):Rn (ay i δ h) Q:=gj e q
theorem N9(r:Rn (u xs δ h) Q)(hn:xs.length=n:=by with_unfolding_all rfl):Rn (gT n u (.tup xs) δ h) Q:=K4 hn r
end Sm
namespace Sm
open PySem L2
theorem Af(hh:Rn (a δ h) λp=>Rn (l δ p.2) λq=>Rn (u δ q.2) λr=>Rn (fT p.1 q.1 r.1 r.2) Q):Rn (iD a l u δ h) Q:=ba (hh.imp λ_ x=>ba (x.imp λ_ y=>ba y))
theorem yu(hh:Rn (ma δ h) λp=>Rn (mb δ p.2) λq=>Rn (f p.1 q.1 q.2) λr=>∃b,r.1=.bl b/\if b=true then Rn (mc δ r.2) λu=>Rn (f' q.1 u.1 u.2) Q else Q (.bl false,r.2)):Rn (gq f f' ma mb mc δ h) Q:=
 ba (hh.imp λp x=>ba (x.imp λq y=>ba (y.imp λr ⟨b,e,k⟩=>by
  rw[e];cases b with
  | true=>rw[Si rfl] at k;exact ba k
  | false=>rw[Sv (by simp)] at k;exact⟨_,rfl,k⟩)))
theorem Nj(q:Q (.tup ds,h)):Rn (aW ds h) Q:=⟨_,rfl,q⟩
theorem Nm(q:Q (.int (-a),h)):Rn (iL (.int a) h) Q:=⟨_,rfl,q⟩
theorem w_add(q:Q (.int (a+b),h)):Rn (aw (.int a) (.int b) h) Q:=⟨_,rfl,q⟩
theorem w_sub(q:Q (.int (a-b),h)):Rn (xt (.int a) (.int b) h) Q:=⟨_,rfl,q⟩
theorem w_lt(q:Q (.bl (decide (a < b)),h)):Rn (F9 (.int a) (.int b) h) Q:=⟨_,rfl,q⟩
theorem P5(q:Q (.bl (decide (b < a)),h)):Rn (t7 (.int a) (.int b) h) Q:=⟨_,rfl,q⟩
theorem P6(q:Q (.bl (decide (b<=a)),h)):Rn (IY (.int a) (.int b) h) Q:=⟨_,rfl,q⟩
theorem Nu(q:Q (.bl (a==b),h)):Rn (cS (.int a) (.int b) h) Q:=⟨_,rfl,q⟩
theorem Nt(q:Q (.bl (x==y),h)):Rn (cS (.str x) (.str y) h) Q:=⟨_,rfl,q⟩
theorem Nr(q:Q (d,h)):Rn (aT (.tup (d::r)) (.int 0) h) Q:=⟨_,by
 show((gG (d::r) 0).map λz=>(z,h))=_;have:gG (d::r) 0=some d:=by unfold gG;rw[show sQ (d::r).length 0=some 0 by unfold sQ;simp;try lia];rfl
 rw[this];rfl,q⟩
theorem Nq(q:Q (e,h)):Rn (aT (.tup (d::e::r)) (.int 1) h) Q:=⟨_,by
 show((gG (d::e::r) 1).map λz=>(z,h))=_;have:gG (d::e::r) 1=some e:=by unfold gG;rw[show sQ (d::e::r).length 1=some 1 by unfold sQ;simp;try lia];rfl
 rw[this];rfl,q⟩
theorem Np(q:Q (f,h)):Rn (aT (.tup (d::e::f::r)) (.int 2) h) Q:=⟨_,by
 show((gG (d::e::f::r) 2).map λz=>(z,h))=_;have:gG (d::e::f::r) 2=some f:=by unfold gG;rw[show sQ (d::e::f::r).length 2=some 2 by unfold sQ;simp;try lia];rfl
 rw[this];rfl,q⟩
theorem Kk(q:Q (.int r.length,h)):Rn (cG [.tup r] h) Q:=⟨_,rfl,q⟩
theorem Kl(q:Q (.int r.length,h)):Rn (cG [.lv r] h) Q:=⟨_,rfl,q⟩
inductive t5{α β:Type}(R:α->β->Prop):List α->List β->Prop where
 | nil:t5 R [] []
 | cons {x y xs ys}:R x y->t5 R xs ys->t5 R (x::xs) (y::ys)
theorem t5.length{xs:List α}{ys:List β}(a:t5 R xs ys):ys.length=xs.length:=by
 induction a with
 | nil=>rfl
 | cons _ t ih=>rw[Sf,Sf,ih]
theorem t5.right{xs:List α}{ys:List β}(a:t5 R xs ys):∀y∈ys,∃x∈xs,R x y:=by
 induction a with
 | nil=>exactλ_ h=>(nomatch h)
 | cons r t ih=>
  intro y h;rcases Sr.mp h with rfl | h
  ·exact⟨_,Sk,r⟩
  ·obtain⟨x,hx,r⟩:=ih y h;exact⟨x,Sq _ hx,r⟩
theorem qJ(R:D->D->Prop):∀{xs:List D} {δ:DS} {h:MH} (J:Nat->DS->MH->Prop),J 0 δ h->(∀i δ h,i<=xs.length->J i δ h->nC ws h=true)->
  (∀i x δ h,xs[i]?=some x->J i δ h->Rn (g x δ h) λq=>Rn (e q.1 q.2) λy=>R x y.1/\J (i+1) q.1 y.2)->Rn (bV ws g cz e xs δ h) λp=>t5 R xs p.1/\∃δ',J xs.length δ' p.2
 | [],δ,h,J,hJ,hc,_=>by
  unfold bV;rw[Si (hc 0 δ h (Sj _) hJ)];exact⟨_,rfl,.nil,δ,hJ⟩
 | x::xs,δ,h,J,hJ,hc,ht=>by
  unfold bV;rw[Si (hc 0 δ h (UK _) hJ)];obtain⟨⟨δ1,h1⟩,e1,⟨y,h2⟩,e2,r,J1⟩:=ht 0 x δ h rfl hJ;dsimp only at e2 r J1;obtain⟨⟨ys,h3⟩,e3,a,δ',J2⟩:=qJ R (xs:=xs) (λi=>J (i+1)) J1 (λi δ h hl=>hc (i+1) δ h (Vt hl)) λi y δ h hy=>ht (i+1) y δ h (by simpa using hy);refine⟨(y::ys,h3),?_,.cons r a,δ',J2⟩;rw[e1];dsimp only[Option.bind_some];show((some (true,h1)).bind _)=_;dsimp only[Option.bind_some];rw[Si rfl,e2];dsimp only[Option.bind_some];rw[e3];rfl
theorem qI(R:D->D->Prop):∀{xs:List D} {δ:DS} {h:MH} (J:Nat->DS->MH->Prop),J 0 δ h->(∀i δ h,i<=xs.length->J i δ h->nC ws h=true)->
  (∀i x δ h,xs[i]?=some x->J i δ h->Rn (g x δ h) λq=>Rn (c q.1 q.2) λt=>(t.1=true->Rn (e q.1 t.2) λy=>R x y.1/\J (i+1) q.1 y.2)/\(t.1=false->J (i+1) q.1 t.2))->Rn (bV ws g c e xs δ h) λp=>p.1.length<=xs.length/\(∀y∈p.1,∃x∈xs,R x y)/\∃δ',J xs.length δ' p.2
 | [],δ,h,J,hJ,hc,_=>by
  unfold bV;rw[Si (hc 0 δ h (Sj _) hJ)];exact⟨_,rfl,Sj _,λ_ z=>(nomatch z),δ,hJ⟩
 | x::xs,δ,h,J,hJ,hc,ht=>by
  unfold bV;rw[Si (hc 0 δ h (UK _) hJ)];obtain⟨⟨δ1,h1⟩,e1,⟨t,h2⟩,e2,q1,q2⟩:=ht 0 x δ h rfl hJ;dsimp only at e2 q1 q2;rw[e1];dsimp only[Option.bind_some];rw[e2];dsimp only[Option.bind_some];have next:=λ{δ':DS} {h':MH} (J1:J 1 δ' h')=>qI R (xs:=xs) (λi=>J (i+1)) J1 (λi δ h hl=>hc (i+1) δ h (Vt hl)) λi y δ h hy=>ht (i+1) y δ h (by simpa using hy)
  cases t with
  | true=>
   obtain⟨⟨y,h3⟩,e3,r,J1⟩:=q1 rfl;dsimp only at r J1;obtain⟨⟨ys,h4⟩,e4,l,a,δ',J2⟩:=next J1
   refine⟨(y::ys,h4),?_,Vt l,λz hz=>?_,δ',J2⟩
   ·rw[Si rfl,e3];dsimp only[Option.bind_some];rw[e4];rfl
   ·rcases Sr.mp hz with rfl | hz
    ·exact⟨x,Sk,r⟩
    ·obtain⟨u,hu,r⟩:=a z hz;exact⟨u,Sq _ hu,r⟩
  | false=>
   obtain⟨⟨ys,h4⟩,e4,l,a,δ',J2⟩:=next (q2 rfl)
   refine⟨(ys,h4),?_,Wq l,λz hz=>?_,δ',J2⟩
   ·rw[Sv (by decide),e4]
   ·obtain⟨u,hu,r⟩:=a z hz;exact⟨u,Sq _ hu,r⟩
theorem OZ(r:Rn (e δ h) λp=>Rn (b (δ.set i (some p.1)) p.2) Q):Rn (av (aV i e) b δ h) Q:=eT (Bu (r.imp λ_ q=>q9 q))
theorem O6(r:Rn (e δ h) λp=>Rn (g p.1 δ p.2) λq=>Rn (b q.1 q.2) Q):Rn (av (fE e g) b δ h) Q:=eT (ET (r.imp λ_ q=>q.imp λ_ q=>q9 q))
theorem MI(r:Rn (e δ h) λp=>Rn (b δ p.2) Q):Rn (av (gO e) b δ h) Q:=eT (ES (r.imp λ_ q=>q9 q))
theorem RZ(r:Rn (m δ h) λq=>Q (d::q.1,q.2))(e:δ[i]?=some (some d):=by with_unfolding_all rfl):Rn (ag (ay i) m δ h) Q:=cJ (gj e r)
theorem R3(r:Rn (m δ h) λq=>Q (d::q.1,q.2)):Rn (ag (eK d) m δ h) Q:=cJ (JI r)
theorem Q8(r:Rn (f [d] h) Q)(e:δ[i]?=some (some d):=by with_unfolding_all rfl):Rn (ax f (ag (ay i) aL) δ h) Q:=HF (cJ (gj e (jz r)))
theorem Q7(r:Rn (f [d,d'] h) Q)(e:δ[i]?=some (some d):=by with_unfolding_all rfl)(e':δ[j]?=some (some d'):=by with_unfolding_all rfl):Rn (ax f (ag (ay i) (ag (ay j) aL)) δ h) Q:=HF (cJ (gj e (cJ (gj e' (jz r)))))
theorem Q6(r:Rn (f [d,d',d''] h) Q)(e:δ[i]?=some (some d):=by with_unfolding_all rfl)(e':δ[j]?=some (some d'):=by with_unfolding_all rfl)(e'':δ[k]?=some (some d''):=by with_unfolding_all rfl):Rn (ax f (ag (ay i) (ag (ay j) (ag (ay k) aL))) δ h) Q:=HF (cJ (gj e (cJ (gj e' (cJ (gj e'' (jz r)))))))
theorem O3(r:Rn (f d c h) Q)(e:δ[i]?=some (some d):=by with_unfolding_all rfl):Rn (ar f (ay i) (eK c) δ h) Q:=rZ (gj e (JI r))
theorem O0(r:Rn (f d d' h) Q)(e:δ[i]?=some (some d):=by with_unfolding_all rfl)(e':δ[j]?=some (some d'):=by with_unfolding_all rfl):Rn (ar f (ay i) (ay j) δ h) Q:=rZ (gj e (gj e' r))
theorem Q4(r:Rn (b δ h) λq=>Rn (f d q.1 q.2) Q)(e:δ[i]?=some (some d):=by with_unfolding_all rfl):Rn (ar f (ay i) b δ h) Q:=rZ (gj e r)
theorem Q5(r:Rn (a δ h) λq=>Rn (f q.1 c q.2) Q):Rn (ar f a (eK c) δ h) Q:=rZ (r.imp λ_ r=>JI r)
theorem O5(q:Q ((δ.set i (some a)).set j (some b),h)):Rn (gT 2 (au (gN i) (au (gN j) bY)) (.tup [a,b]) δ h) Q:=K4 rfl (iu (CC (iu (CC (wO q)))))
theorem O4(q:Q (((δ.set i (some a)).set j (some b)).set k (some c),h)):Rn (gT 3 (au (gN i) (au (gN j) (au (gN k) bY))) (.tup [a,b,c]) δ h) Q:=K4 rfl (iu (CC (iu (CC (iu (CC (wO q)))))))
theorem ME(q:Q (.rt d,δ,h))(e:δ[i]?=some (some d):=by with_unfolding_all rfl):Rn (bh (ay i) δ h) Q:=yr (gj e q)
theorem MF(q:Q (.rt d,δ,h)):Rn (bh (eK d) δ h) Q:=yr (JI q)
end Sm
namespace L2
open PySem PySem.Spec PyProof.Rows
abbrev QR:Hp:=λ_=>none
structure Tab(P:Program)(w:World)(K:FR)(mg:Str->Option Value)(nm:Str)(tb:List (Str×List Int)):Prop where
 ex:∃(a:Addr)(o:Obj)(es:Array DictEntry)(ep:Nat)(kvs:List (Str×Value)),mg nm=some (.ref a)/\K.lookup a=some o/\o.ExactDict/\o.data=.dict es ep/\(a==sysModules)=false/\KeysOf (strKind P w) es/\Pairs (strKind P w) es.toList kvs/\(kvs.map (·.1)).Nodup/\
  Sm.t5 (λ(x:Str×List Int)(y:Str×Value)=>x.1=y.1/\∃(t:Addr)(u:Obj)(its:Array Value)(n:Nat),y.2=.ref t/\K.lookup t=some u/\u.cls=.type "tuple"/\u.dict=none/\u.data=.seq its n/\its.size<=sizeLine/\IntsAre its.toList x.2) tb kvs
theorem Cr{K:FR}:∀{tb:List (Str×List Int)} {kvs:List (Str×Value)},Sm.t5 (λ(x:Str×List Int)(y:Str×Value)=>x.1=y.1/\∃(t:Addr)(u:Obj)(its:Array Value)(n:Nat),y.2=.ref t/\K.lookup t=some u/\u.cls=.type "tuple"/\u.dict=none/\u.data=.seq its n/\its.size<=sizeLine/\IntsAre its.toList x.2) tb kvs->∀x:Str,
  (∀is,tb.lookup x=some is->∃t,valueAt kvs x=some (.ref t)/\∀H,kF K H t (is.map V.int))/\(valueAt kvs x).isSome=(tb.lookup x).isSome:=by
 intro tb kvs h
 induction h with
 | nil=>exactλx=>⟨λis e=>(nomatch e),rfl⟩
 | @cons p q tb kvs r l ih=>
  intro x;obtain⟨a,is0⟩:=p;obtain⟨b,v⟩:=q;obtain⟨e0,t,u,its,n,e1,h1,h2,h3,h4,h5,h6⟩:=r;dsimp only at e0 e1 h6;subst e0;subst e1
  by_cases hx:x=a
  ·subst hx;have hv:valueAt ((x,Value.ref t)::kvs) x=some (.ref t):=by unfold valueAt;simp
   have hl:((x,is0)::tb).lookup x=some is0:=by simp
   refine⟨λis e=>?_,by rw[hv,hl];rfl⟩;rw[hl] at e;cases e;exact⟨t,hv,λH=>.inr ⟨u,its,n,h1,h2,h4,h5,nW h6,h3⟩⟩
  ·have hv:valueAt ((a,Value.ref t)::kvs) x=valueAt kvs x:=by
    unfold valueAt;rw[List.find?_cons_of_neg (by simpa using λz=>hx z.symm)]
   have hl:((a,is0)::tb).lookup x=tb.lookup x:=by
    rw[To,show(x==a)=false by simpa using hx]
   rw[hv,hl];exact ih x
theorem Tab.dict(T:Tab X.prog X.w X.K X.mg nm tb)(I:Inv X pins σ H s):∃(a:Addr)(kvs:List (Str×Value)),X.mg nm=some (.ref a)/\(a==sysModules)=false/\s.heap.DictOf (strKind X.prog X.w) a kvs/\∀x:Str,
  (∀is,tb.lookup x=some is->∃t,valueAt kvs x=some (.ref t)/\∀H,kF X.K H t (is.map V.int))/\(valueAt kvs x).isSome=(tb.lookup x).isSome:=by
 obtain⟨a,o,es,ep,kvs,h1,h2,h3,h4,h5,h6,h7,h8,h9⟩:=T.ex;exact⟨a,kvs,h1,h5,⟨o,es,ep,I.pU a o h2,h3,h4,h6,h7,h8⟩,Cr h9⟩
theorem Lj(T:Tab X.prog X.w X.K X.mg nm tb)(hg:Gl X nm)(hi:PE X i ti)(hs:Jp i)(hd:(nm==("__debug__":Str))=false):
  PE X (.Subscript (.Name nm p) i pos) (λσ H Q=>ti σ H λy H1=>∃x is,y=.str x/\tb.lookup x=some is/\∀t,kF X.K QR t (is.map V.int)->Q (.ref t) H1):=by
 intro pins s σ H Q I h;obtain⟨a,kvs,hm,hsm,dd,hv⟩:=T.dict I;refine Hk WJ.lookup hs (kj I hg hm (cD (hi pins s σ H _ I h) λiv s2 ⟨y,H2,I2,ry,x,is,ey,l,q⟩=>?_) hd);subst ey;obtain⟨t,rfl⟩:=ry;obtain⟨a',kvs',hm',hsm',dd',hv'⟩:=T.dict I2;rw[hm] at hm';cases hm';obtain⟨u,e,sq⟩:=(hv' x).1 is l;exact⟨dd'.typeIs,wpAny_getItem_of (by show Value.isStrOf x (.str x t)=true;unfold Value.isStrOf;simp) dd'.mapOf e ⟨.ref u,H2,I2.tok _,rfl,q u (sq _)⟩⟩
end L2
namespace Sm
open PySem L2 PySem.Spec PyProof.Rows
noncomputable def IT(tb:List (Str×List Int))(d:D)(h:MH):Option (D×MH):=match d with
 | .str x=>(tb.lookup x).map λis=>(.tup (is.map D.int),h)
 | _=>none
theorem Ep(T:Tab X.prog X.w X.K X.mg nm tb)(hi:SE X i mi)(hg:Gl X nm:=by unfold Gl;ac_nf)(hs:Jp i:=by unfold Jp;intro _ _;ac_nf)(hd:(nm==("__debug__":Str))=false:=by ac_nf):SE X (.Subscript (.Name nm p) i pos) (t8 (IT tb) mi):=
 (Lj T hg hi hs hd).imp λσ H Q ⟨ρ,δ,h,d,h',R,S,e,k⟩=>by
  obtain⟨⟨x,h1⟩,e1,e2⟩:=bw e;dsimp only at e2;refine⟨ρ,δ,h,x,h1,R,S,e1,λv H1 ⟨ρ1,T1,S1,r1⟩=>?_⟩;unfold IT at e2
  split at e2
  ·rename_i y;obtain⟨is,e3,e4⟩:=gB e2;cases e4;cases r1;exact⟨_,is,rfl,e3,λt sq=>k _ _ ⟨ρ1,T1,S1,.tup (.inr sq) (repL_ints' is)⟩⟩
  ·cases e2
end Sm
namespace Hd
open PySem PySem.W PySem.Spec PyProof.Rows L2 Sm
abbrev Sub(h h':Heap):Prop:=∀b o,h.get? b=some o->h'.get? b=some o
theorem Aa(k:Sub h h')(x:rowAt h e=some r):rowAt h' e=some r:=by
 unfold rowAt at x ⊢
 split at x
 ·split at x
  ·split at x
   ·rename_i u hu;rw[k _ _ hu];exact x
   ·cases x
  ·cases x
 ·cases x
theorem pC(k:Sub h h'):∀{es:List DictEntry} {r:List (Str×Int×List Int)},k7 h es=some r->k7 h' es=some r
 | [],_,x=>x
 | e::es,r,x=>by
  unfold k7 at x ⊢;obtain⟨y,e1,x⟩:=Vi.mp x;obtain⟨ys,e2,x⟩:=SR.mp x;rw[Aa k e1,pC k e2];exact congrArg some x
theorem zR(k:Sub h h')(x:tabAt h nm=some r):tabAt h' nm=some r:=by
 have hg:∀v,h.nsMap mainGlobals nm=some v->h'.nsMap mainGlobals nm=some v:=λv e=>by
  unfold Heap.nsMap at e ⊢
  split at e
  ·rename_i o ho;rw[k _ _ ho];exact e
  ·cases e
 unfold tabAt at x ⊢
 split at x
 ·rename_i a ha;rw[hg _ ha];dsimp only
  split at x
  ·cases x
  ·rename_i hs;rw[Sv hs]
   split at x
   ·rename_i o ho;rw[k _ _ ho];dsimp only
    split at x
    ·rename_i hc;rw[Si hc]
     split at x
     ·exact pC k x
     ·cases x
    ·cases x
   ·cases x
 ·cases x
theorem yZ:∀{vs:List Value} {is:List Int},BP vs=some is->IntsAre vs is
 | [],_,e=>by cases e;exact .nil
 | v::r,is,e=>by
  cases v <;> first |(exact b7 e) | skip
  obtain⟨js,e1,e2⟩:=SR.mp (show(BP r).map _=some is from e);subst e2;exact .cons _ _ (yZ e1)
theorem zq(h:B2 v t=true):v=.type t:=by
 unfold B2 at h
 split at h
 ·rw[Tv h]
 ·cases h
theorem rN:∀{es:List DictEntry} {tb:List (Str×List Int)},k7 h es=some (tb.map λx=>(x.1,hashStr w x.1,x.2))->
  ∃kvs:List (Str×Value),(∀e∈es,∃k,(PySem.strKind P w).is k e.key=true/\e.hash=(PySem.strKind P w).hash k)/\Pairs (PySem.strKind P w) es kvs/\kvs.map (·.1)=tb.map (·.1)/\
   t5 (λ(x:Str×List Int)(y:Str×Value)=>x.1=y.1/\∃(t:Addr)(u:Obj)(its:Array Value)(n:Nat),y.2=.ref t/\(aE h).lookup t=some u/\u.cls=.type "tuple"/\u.dict=none/\u.data=.seq its n/\its.size<=sizeLine/\IntsAre its.toList x.2) tb kvs
 | [],tb,x=>by
  have hz:tb=[]:=by
   have:=Option.some.inj x;exact List.map_eq_nil_iff.mp this.symm
  subst hz;exact⟨[],λ_ z=>(nomatch z),.nil,rfl,.nil⟩
 | e::es,tb,x=>by
  unfold k7 at x;obtain⟨y,e1,x⟩:=Vi.mp x;obtain⟨ys,e2,x⟩:=SR.mp x;cases tb with
  | nil=>cases x
  | cons q tb=>
   rw[Sl] at x;obtain⟨rfl,rfl⟩:=List.cons.inj x;obtain⟨kvs,h1,h2,h3,h4⟩:=rN (P:=P) e2;unfold rowAt at e1
   split at e1
   ·rename_i x0 tk hk
    split at e1
    ·rename_i t hv
     split at e1
     ·rename_i u hu
      split at e1
      ·rename_i hc;rw[Tf] at hc
       split at e1
       ·rename_i its n hd
        split at e1
        ·rename_i hs;obtain⟨is,e3,e4⟩:=SR.mp e1;have e5:x0=q.1:=congrArg (·.1) e4;have e6:e.hash=hashStr w q.1:=congrArg (·.2.1) e4;have e7:is=q.2:=congrArg (·.2.2) e4;have hki:(PySem.strKind P w).is q.1 e.key=true:=by rw[hk,e5];show Value.isStrOf q.1 (.str q.1 tk)=true;unfold Value.isStrOf;simp
         refine⟨(q.1,.ref t)::kvs,λe' he'=>?_,.cons hki hv h2,by rw[Sl,Sl,h3],.cons ⟨rfl,t,u,its,n,rfl,bG hu (gW λvs z=>by rw[hd] at z;cases z),zq hc.1,by simpa using hc.2,hd,Sw hs (by decide),by rw[<-e7];exact yZ e3⟩ h4⟩;rcases Sr.mp he' with rfl | he'
         ·exact⟨q.1,hki,e6⟩
         ·exact h1 e' he'
        ·cases e1
       ·cases e1
      ·cases e1
     ·cases e1
    ·cases e1
   ·cases e1
theorem tab_of(x:tabAt h nm=some (tb.map λx=>(x.1,hashStr w x.1,x.2)))(g:h.Ns mainGlobals mg)(nd:(tb.map (·.1)).Nodup):Tab P w (aE h) mg nm tb:=by
 unfold tabAt at x
 split at x
 ·rename_i a ha
  split at x
  ·cases x
  ·rename_i hs
   split at x
   ·rename_i o ho
    split at x
    ·rename_i hc;rw[Tf,Tf] at hc
     split at x
     ·rename_i es ep hd;obtain⟨kvs,h1,h2,h3,h4⟩:=rN (P:=P) x;have hm:mg nm=some (.ref a):=by
       obtain⟨o',es',ep',g1,g2,_,g3⟩:=g;rw[<-g3 nm,<-ha];unfold Heap.nsMap;rw[g1];dsimp only;rw[g2]
      exact⟨a,o,es,ep,kvs,hm,bG ho (gW λvs z=>by rw[hd] at z;cases z),⟨zq hc.1.1,by simpa using hc.1.2,Tv hc.2⟩,hd,by simpa using hs,λe he=>h1 e (U8.mpr he),h2,by rw[h3];exact nd,h4⟩
     ·cases x
    ·cases x
   ·cases x
 ·cases x
end Hd
namespace L2
open PySem PySem.Spec PyProof.Rows
end L2
namespace Sm
open PySem L2 PySem.Spec PyProof.Rows
end Sm
namespace Sb
open PySem L2 PySem.Spec PyProof.Rows
open Builtin.SmallTypes (nextOf ownedTupleIsFree ownedTupleHandOut)
end Sb
namespace PySem
end PySem
namespace L2
open PySem PySem.Spec PyProof.Rows
end L2
namespace L2
open PySem PySem.Spec PyProof.Rows Sb
end L2
namespace Sm
open PySem L2 PySem.Spec PyProof.Rows Sb
end Sm
namespace Sb
open PySem L2 PySem.Spec PyProof.Rows
variable {P:Program} {w:World} {A:Around} {E:Value->Shared->Prop} {s:Shared} {b c:Bool}
end Sb
namespace Sb
open PySem L2 PySem.Spec PyProof.Rows
variable {P:Program} {w:World} {A:Around} {E:Value->Shared->Prop} {s:Shared} {b c:Bool}
end Sb
namespace L2
open PySem PySem.Spec PyProof.Rows Sb
end L2
namespace Sm
open PySem L2 PySem.Spec PyProof.Rows Sb
end Sm
namespace PySem
end PySem
namespace L2
open PySem PySem.Spec PyProof.Rows
end L2
namespace Sm
open PySem L2 PySem.Spec PyProof.Rows
end Sm
namespace L2
open PySem PySem.Spec PyProof.Rows
end L2
namespace L2
open PySem PySem.Spec PyProof.Rows PySem.SeqAt
end L2
namespace Sm
open PySem L2 PySem.Spec PyProof.Rows
def PC(mg:Str->Option Value)(x:Str)(d:D):Prop:=∃(v:V)(u:Value),mg x=some u/\RelV v u/\∀K ρ H,Rep K ρ H v d
theorem jq(C:PC X.mg x d)(hg:Gl X x)(hd:(x==("__debug__":Str))=false:=by ac_nf):SE X (.Name x pos) (eK d):=by
 obtain⟨v,u,h1,h2,h3⟩:=C;exact Hw hg h1 h2 (λρ H=>h3 X.K ρ H) hd
end Sm
namespace Hd
open PySem PySem.W PySem.Spec PyProof.Rows L2 Sm
theorem xB(T:Top q loose mean mg mb h)(e:valOf q x=some (.int i)):PC mg x (.int i):=by
 obtain⟨v,h1,h2⟩:=T.const x _ e;have:=h2 h;cases this with
 | int _ t=>exact⟨.int i,_,h1,⟨t,rfl⟩,λ_ _ _=>.int i⟩
end Hd
namespace L2
open PySem PySem.Spec PyProof.Rows
end L2
namespace Sm
open PySem L2 PySem.Spec PyProof.Rows
end Sm
namespace L2
open PySem PySem.Spec PyProof.Rows
end L2
namespace Sm
open PySem L2 PySem.Spec PyProof.Rows
end Sm
namespace L2
open PySem PySem.Spec PyProof.Rows
end L2
namespace Sm
open PySem L2
end Sm
namespace Sm
open PySem L2 PySem.Spec PyProof.Rows
end Sm
namespace L2
open PySem PySem.Spec PyProof.Rows
end L2
namespace Sm
open PySem L2 PySem.Spec PyProof.Rows
theorem fN(d:Df X.prog X.w X.K X.mg X.base nm k ps n F)(hr:cL k' X.A)(ha:SA X (e::es) m)(hk:k<=k':=by decide)(hl:kG m n:=by repeat(first | exact aA | refine ah ?_))(hg:Gl X nm:=by unfold Gl;ac_nf)(hdb:(nm==("__debug__":Str))=false:=by ac_nf)(he:starEach (e::es) X.env=(false,eval e X.env)::starEach es X.env:=by ac_nf)(hpl:(backTo pos (starEach es X.env)).any (·.1)=false:=by ac_nf):SE X (.Call (.Name nm p) (e::es) [] pos) (ax F m):=NY d hr hk ha hl hg hdb he hpl
theorem zE{x:Str}{id:String}{p pos:Pos}{e:Expr}{es:List Expr}{f:Fn}{m:AM}(hc:g5 X (.builtin id) f)(hm:X.mg x=none)(hv:bootBuiltins x=some (.builtin id))(ha:SA X (e::es) m)(hg:Gl X x:=by unfold Gl;ac_nf)(hn:x≠"__name__":=by decide)(hdb:(x==("__debug__":Str))=false:=by ac_nf)
  (he:starEach (e::es) X.env=(false,eval e X.env)::starEach es X.env:=by ac_nf) (hpl:(backTo pos (starEach es X.env)).any (·.1)=false:=by ac_nf):SE X (.Call (.Name x p) (e::es) [] pos) (ax f m):=Ex hc hg hm hv ha hn hdb he hpl
theorem NX{x:Str}{id:String}{p pos:Pos}{e:Expr}{es:List Expr}{f:Fn}{m:AM}(hc:g5 X (.type id) f)(hm:X.mg x=none)(hv:bootBuiltins x=some (.type id))(ha:SA X (e::es) m)(hg:Gl X x:=by unfold Gl;ac_nf)(hn:x≠"__name__":=by decide)(hdb:(x==("__debug__":Str))=false:=by ac_nf)
  (he:starEach (e::es) X.env=(false,eval e X.env)::starEach es X.env:=by ac_nf) (hpl:(backTo pos (starEach es X.env)).any (·.1)=false:=by ac_nf):SE X (.Call (.Name x p) (e::es) [] pos) (ax f m):=Ew hc hg hm hv ha hn hdb he hpl
theorem NL(hm:X.mg x=none)(hv:bootBuiltins x=some (.type n))(hg:Gl X x:=by unfold Gl;ac_nf)(hn:x≠"__name__":=by decide)(hd:(x==("__debug__":Str))=false:=by ac_nf):SE X (.Name x pos) (eK (.ty n)):=NS hg hm hv hn hd
theorem six(hr:cL k X.A)(ha:SE X a ma)(hb:SE X b mb)(hs:nP b:=by unfold nP;intro _ _;ac_nf):SE X (.Subscript a b pos) (ar aT ma mb):=NV hr.units ha hb hs
end Sm
namespace Hd
open PySem PySem.W PySem.Spec PyProof.Rows L2 Sm
theorem u0{P:List Value->Prop}(h:P [])(us:List Value)(hl:us.length=0):P us:=by cases us with | nil=>exact h | cons _ _=>cases hl
theorem u1{P:List Value->Prop}(h:∀a,P [a])(us:List Value)(hl:us.length=1):P us:=by
 cases us with
 | nil=>cases hl
 | cons a r=>exact u0 (P:=λr=>P (a::r)) (h a) r (Nat.succ.inj hl)
theorem u2{P:List Value->Prop}(h:∀a b,P [a,b])(us:List Value)(hl:us.length=2):P us:=by
 cases us with
 | nil=>cases hl
 | cons a r=>exact u1 (P:=λr=>P (a::r)) (h a) r (Nat.succ.inj hl)
theorem u3{P:List Value->Prop}(h:∀a b c,P [a,b,c])(us:List Value)(hl:us.length=3):P us:=by
 cases us with
 | nil=>cases hl
 | cons a r=>exact u2 (P:=λr=>P (a::r)) (h a) r (Nat.succ.inj hl)
theorem u4{P:List Value->Prop}(h:∀a b c d,P [a,b,c,d])(us:List Value)(hl:us.length=4):P us:=by
 cases us with
 | nil=>cases hl
 | cons a r=>exact u3 (P:=λr=>P (a::r)) (h a) r (Nat.succ.inj hl)
theorem u5{P:List Value->Prop}(h:∀a b c d e,P [a,b,c,d,e])(us:List Value)(hl:us.length=5):P us:=by
 cases us with
 | nil=>cases hl
 | cons a r=>exact u4 (P:=λr=>P (a::r)) (h a) r (Nat.succ.inj hl)
theorem u6{P:List Value->Prop}(h:∀a b c d e f,P [a,b,c,d,e,f])(us:List Value)(hl:us.length=6):P us:=by
 cases us with
 | nil=>cases hl
 | cons a r=>exact u5 (P:=λr=>P (a::r)) (h a) r (Nat.succ.inj hl)
theorem u7{P:List Value->Prop}(h:∀a b c d e f g,P [a,b,c,d,e,f,g])(us:List Value)(hl:us.length=7):P us:=by
 cases us with
 | nil=>cases hl
 | cons a r=>exact u6 (P:=λr=>P (a::r)) (h a) r (Nat.succ.inj hl)
theorem OB{q:Program}{loose:List Str}{mean:ExcName->Option Value}{mg mb:Str->Option Value}{h base:Heap}{P:Program}{w:World}(T:Top q loose mean mg mb h){n:Str}{st:Stmt}(e:(recsOf q).find? (λe=>e.name==n)=some (mE n st)){ps:List Str}{k N:Nat}{F:Fn}
  (hb:∀{f:Addr} {fd:FuncData},t9 (aE h) n n st f fd->Binds (aE h) fd ps []) (ok:∀{f:Addr} {fd:FuncData},t9 (aE h) n n st f fd->keepIn (aE h) (.ref f)=true->Binds (aE h) fd ps []->mg n=some (.ref f)->eS P w (aE h) mg base nU k f fd ps (Cv (aE h) N F)):Df P w (aE h) mg base n k ps N F:=by
 obtain⟨f,fd,m,G⟩:=BS T e;exact⟨f,fd,ok G G.kp (hb G) m,G.kp,hb G,m⟩
end Hd
namespace L2
open PySem PySem.Spec PyProof.Rows Builtin.Str
theorem Iv{X:Cx}:Ce X "str.join" (λx vs H Q=>∃p a ss,x=.str p/\vs=[.ref a]/\(gH X.K H a (ss.map V.str)\/kF X.K H a (ss.map V.str))/\(ss.map (·.length)).sum+ss.length*p.length<=16777216/\Q (.str (Txt.join p ss)) H):=by
 intro pins s σ H x xs v us Q I rx rs h;obtain⟨p,a,ss,rfl,rfl,ha,hz,q⟩:=h;obtain⟨t,rfl⟩:=rx;obtain⟨u,rfl,ru⟩:=vals1 rs;cases ru;rcases ha with ha | ha
 ·obtain⟨its,rv,p,_⟩:=I.list ha;exact join_list p.isList (by simpa using jZ rv) hz λt' k=>⟨.str _,H,I.kept (t':=k) λ_ _ e=>e,⟨t',rfl⟩,q⟩
 ·obtain⟨its,rv,p,_⟩:=I.tuple ha;exact join_tuple p (by simpa using jZ rv) hz λt' k=>⟨.str _,H,I.kept (t':=k) λ_ _ e=>e,⟨t',rfl⟩,q⟩
theorem qW:∀(l:List (Str×Tok)),Vals ((l.map (·.1)).map V.str) (strValues l)
 | []=>.nil
 |(x,t)::r=>.cons ⟨t,rfl⟩ (qW r)
theorem Eh{prog:Program}{w:World}{A:Around}{E:Value->Shared->Prop}{s:Shared}{x y:Str}{t u:Tok}{Q:Value->Shared->Prop}(hy:(y.length==0)=false)
  (hq:∀l k,l.map (·.1)=Txt.split x y->Q (.ref s.heap.objs.size) {s with toks:=k,heap:=s.heap.push {cls:=.type "list",data:=.seq (strValues l).toArray}})
  (hsz:x.length<=sizeLine) (hsz2:(partsBetween x (occurrences x y 0 x.length (x.length+1)) y.length).length<=sizeLine):
  wpAny (model prog w) A (call (.builtin "str.split") [.str x t,.str y u]) Q E s:=by
 cases h1:(decide (x.length < y.length)||decide (strKind x < strKind y))
 ·cases hf:(occurrences x y 0 x.length (x.length+1)).isEmpty
  ·refine Vf VU (Wf _ _ _) WG (Wz _ _) (meets_str_split_sep x y t u h1 hy hf hsz hsz2) ?_;show wants Q E _ {s with toks:=_,heap:=s.heap.push {cls:=.type "list",data:=.seq (strsFrom s.toks (partsBetween x (occurrences x y 0 x.length (x.length+1)) y.length)).toArray}};rw[strsFrom_eq];exact hq (numbered s.toks _) _ ((numbered_texts _ _).trans ((Sv (Wc h1)).trans (Sv (Wc hf))).symm)
  ·exact Vf VU (Wf _ _ _) WG (Wz _ _) (meets_str_split_not_found x y t u h1 hy hf)
    (hq [(x,t)] _ ((Sv (Wc h1)).trans (Si hf)).symm)
 ·exact Vf VU (Wf _ _ _) WG (Wz _ _) (meets_str_split_cannot_occur x y t u h1)
   (hq [(x,t)] _ (Si h1).symm)
theorem FF{X:Cx}:Ce X "str.split" (λx vs H Q=>∃p y,x=.str p/\vs=[.str y]/\(y.length==0)=false/\p.length<=sizeLine/\(Txt.split p y).length<=sizeLine/\(partsBetween p (occurrences p y 0 p.length (p.length+1)) y.length).length<=sizeLine/\∀l,H l=none->Q (.ref l) (upd H l (.lst ((Txt.split p y).map V.str)))):=by
 intro pins s σ H x xs v us Q I rx rs h;obtain⟨p,y,rfl,rfl,hy,hz,hz1,hz2,q⟩:=h;obtain⟨t,rfl⟩:=rx;obtain⟨u,rfl,ru⟩:=vals1 rs;obtain⟨t',rfl⟩:=ru;refine Eh hy (λl k e=>?_) hz hz2;rw[<-e] at q hz1;exact⟨.ref s.heap.objs.size,_,I.laid (t':=k) (o:=.lst ((l.map (·.1)).map V.str)) (λb ob q=>Ss _ q) (Sj _)
  ⟨by rw[R9];exact hz1,strValues l,_,qW l,Tc _ rfl⟩,rfl,q _ (I.bg.fresh (Sj _))⟩
end L2
namespace L2
open PySem PySem.Spec PyProof.Rows
end L2
namespace Sm
open PySem L2 PySem.Spec PyProof.Rows Builtin.Str
theorem ic{x y:Str}(hx:PyData.strOk x=true)(hy:PyData.strOk y=true):PyData.strOk (x++y)=true:=by
 unfold PyData.strOk at*;show(x.cps++y.cps).all _=true;rw[Array.all_append,hx,hy];rfl
noncomputable def isStr(d:D)(_:MH):Bool:=match d with
 | .str _=>true
 | _=>false
theorem ty_str{K:FR}{ρ:Ad}{H:Hp}{h:MH}{v:V}{d:D}(S:bN K ρ h H)(r:Rep K ρ H v d)(e:isStr d h=true):Jv K "str" v H:=by
 cases r <;> first |(cases e;done) | exact rfl
noncomputable def pQ:Cf:=λd ds h=>match d,ds with
 | .str x,[y]=>(dP y h).bind λp=>(oZ p.1).bind λns=>if(ns.map (·.length)).sum+ns.length*x.length<=16777216 then some (.str (Str.join x ns),h) else none
 | _,_=>none
theorem kY{x:Str}(hx:PyData.strOk x=true):∀ns:List Str,(∀y∈ns,PyData.strOk y=true)->PyData.strOk (Str.join x ns)=true
 | [],_=>by ac_nf
 | [y],h=>h y (.head _)
 | y::z::r,h=>ic (ic (h y (.head _)) hx) (kY hx (z::r) λa ha=>h a (.tail _ ha))
theorem qL{X:Cx}:Ce X "str.join" (rM X.K pQ):=by
 intro pins s σ H x xs v us Q I rx rs hh;obtain⟨ρ,h,d,ds,z,h',S,rd,l,ee,k⟩:=hh;cases rd <;> first |(exact b7 ee) | skip
 rename_i p hp
 match ds,l,ee with
 | [],_,ee=>cases ee
 | _::_::_,_,ee=>cases ee
 | [y],l,ee=>
  obtain⟨⟨ys,w⟩,e1,e2⟩:=bw ee;obtain⟨ns,e3,e4⟩:=bw e2
  by_cases c:(ns.map (·.length)).sum+ns.length*p.length<=16777216
  ·rw[Si c] at e4;cases e4;obtain⟨v1,rfl,ry⟩:=rep1 l;obtain⟨a,vs,rfl,hq,l2⟩:=lV S ry e1;have:=rf e3;dsimp only at this;subst this;obtain⟨e5,f⟩:=k9 l2;subst e5;refine Iv pins s σ H _ _ v us Q I rx rs ⟨p,a,ns,rfl,rfl,hq,c,?_⟩;rw[show Txt.join p ns=Str.join p ns from StrLaws.glued_eq_join p ns];exact k _ _ (.here S (.str (kY hp ns f)))
  ·rw[Sv c] at e4;cases e4
noncomputable def sG:Cf:=λd ds h=>match d,ds with
 | .str x,[.str y]=>if(y.length==0)=false/\x.length<=sizeLine/\(Txt.split x y).length<=sizeLine/\(partsBetween x (occurrences x y 0 x.length (x.length+1)) y.length).length<=sizeLine/\(Txt.split x y).all PyData.strOk=true then some (.lv ((Txt.split x y).map D.str),h) else none
 | _,_=>none
theorem FI{X:Cx}:Ce X "str.split" (rM X.K sG):=by
 intro pins s σ H x xs v us Q I rx rs hh;obtain⟨ρ,h,d,ds,z,h',S,rd,l,ee,k⟩:=hh;cases rd <;> first |(exact b7 ee) | skip
 rename_i p hp
 match ds,l,ee with
 | [],_,ee=>cases ee
 | y::_::_,_,ee=>cases y <;> exact b7 ee
 | [y],l,ee=>
  obtain⟨v1,rfl,ry⟩:=rep1 l;cases ry <;> first |(exact b7 ee) | skip
  rename_i q hq _;unfold sG at ee;dsimp only at ee
  split at ee
  ·rename_i c;cases ee;exact FF pins s σ H _ _ v us Q I rx rs ⟨p,q,rfl,rfl,c.1,c.2.1,c.2.2.1,c.2.2.2.1,λl hl=>k _ _ (.lv S (oq _ λx hx=>US.mp c.2.2.2.2 x hx) hl)⟩
  ·cases ee
theorem uN(i:Int):PyData.strOk (Str.ofString (toString i))=true:=by
 unfold PyData.strOk;rw[Xs];intro c hc;refine Tb (Nat.lt_of_not_le λh=>?_);exact int_text_free' c ⟨by lia,.inr (by lia)⟩ i (U8.mpr hc)
noncomputable def y4:Fn:=λds h=>match ds with
 | [.int i]=>if i.natAbs.log2 < 1920 then some (.str (toString i),h) else none
 | _=>none
theorem BY{X:Cx}:g5 X (.type "str") y4:=by
 intro pins s σ H xs us Q I r hh;obtain⟨ρ,h,ds,z,h',S,l,ee,k⟩:=hh
 match ds,l,ee with
 | [],_,ee=>cases ee
 | d::_::_,_,ee=>cases d <;> exact b7 ee
 | [d],l,ee=>
  obtain⟨v,rfl,rd⟩:=rep1 l;cases rd <;> first |(exact b7 ee) | skip
  unfold y4 at ee;dsimp only at ee
  split at ee
  ·rename_i c;cases ee;refine xF pins s σ H _ us Q I r ⟨_,rfl,c,k _ _ (.here S (.str ?_))⟩;exact uN _
  ·cases ee
end Sm
namespace L2
open PySem PySem.Spec PyProof.Rows
section
variable {X:Cx}
end
end L2
namespace Sm
open PySem L2 PySem.Spec PyProof.Rows
section
variable {X:Cx}
end
theorem Dc{h:Heap}{f:Value->Bool}{p:PyData}:∀{us:List Value} {ds:List PyData} {as:List Addr},ReadsAll h us ds as->(∀u d as,u∈us->Reads h u d as->d∈ds->f u=PyData.eqv d p)->us.findIdx? f=ds.findIdx? λb=>PyData.eqv b p:=by
 intro us
 induction us with
 | nil=>intro ds as r _;cases r;rfl
 | cons v us ih=>
  intro ds as r hf;cases r with | cons r l=>
  rw[Xo,Xo,hf _ _ _ Sk r Sk,ih l λu d as hu hr hd=>hf u d as (Sq _ hu) hr (Sq _ hd)]
noncomputable def BI:Cf:=λd ds h=>match ds with
 | [x]=>(dR d h).bind λys=>(Bt h x).bind λp=>(mG ys).bind λbs=>if p.depth<=60/\PyData.depthAll bs<=60 then(bs.findIdx? λb=>PyData.eqv b p).map λj:Nat=>(D.int (Int.ofNat j),h) else none
 | _=>none
theorem CT{X:Cx}(hu:X.A.units+64 < cLine):Ce X "list.index" (rM X.K BI):=by
 intro pins s σ H x xs v us Q I rx rs hh;obtain⟨ρ,h,d,ds,z,h',S,rd,l,ee,k⟩:=hh
 match ds,l,ee with
 | [],_,ee=>exact b7 ee
 | _::_::_,_,ee=>exact b7 ee
 | [y],l,ee=>
  obtain⟨ys,e1,e2⟩:=bw ee;obtain⟨p,e3,e4⟩:=bw e2;obtain⟨bs,e5,e6⟩:=bw e4
  by_cases w:p.depth<=60/\PyData.depthAll bs<=60
  ·rw[Si w] at e6;obtain⟨j,e7,e8⟩:=gB e6;cases e8;obtain⟨a,vs,rfl,ha,l1⟩:=dI S rd e1;obtain rfl:v=Value.ref a:=rx;obtain⟨yv,rfl,ry⟩:=rep1 l;obtain⟨u,rfl,ru⟩:=Vals.one rs;obtain⟨r1,c1⟩:=mF S ry e3;obtain⟨r2,c2⟩:=l1.uu e5;obtain⟨as,ra⟩:=r1.reads I ru;obtain⟨its,rv,pl,hz⟩:=I.list (.inl (.inl ha));obtain⟨bs',rb⟩:=r2.reads I rv;have hj:=(Dc (f:=BV s.heap p) rb λu d as _ hr hd=>oQ hr (cC c2 hd)).trans e7;obtain⟨j1,j2,j3⟩:=List.findIdx?_eq_some_iff_getElem.mp hj;have key:∀y,y∈its.toArray->PySem.SeqAt.EqAt X.A.in1 s y u (BV s.heap p y):=by
    intro y hy;obtain⟨d,as',hr,hd⟩:=j8 rb y (by simpa using hy);rw[oQ hr (cC c2 hd)];refine Vk d p _ s y u as' as hr ra (cC c2 hd) c1 ?_;have h1:=kA hd;have h2:min d.depth p.depth<=d.depth:=V2 _ _;show X.A.units+1+min d.depth p.depth < cLine;have h3:=w.2
    lia
   obtain⟨o,n,g,o1,o2,o3⟩:=pl;obtain⟨oc,od,oda,os⟩:=o;dsimp only at o1 o2 o3;subst o1 o2 o3;have hz2:=rv.length;rw[Ve] at hz;refine Vf WS ⟨_,g,rfl⟩ PySem.F.entry_list_index (PySem.F.args_list_index_2 _ _)
    (PySem.SeqAt.list_indexAt a its.toArray n none os u (BV s.heap p) j (by simpa using j1) (by lia) (by simpa using j2) (λm hm hlt=>by simpa using j3 m hlt)) ⟨g,key,?_⟩
   exact⟨.int _,H,I.kept (t':=s.toks+1) λ_ _ e=>e,⟨_,rfl⟩,k _ _ (.here S (.int _))⟩
  ·rw[Sv w] at e6;cases e6
end Sm
namespace L2
open PySem PySem.Spec PyProof.Rows
end L2
namespace Sm
open PySem L2 PySem.Spec PyProof.Rows
end Sm
namespace L2
open PySem PySem.Spec PyProof.Rows
section
variable {P:Program} {w:World} {A:Around} {E:Value->Shared->Prop} {s:Shared} {a:Addr} {es:Array (Int×Value)}
end
end L2
namespace L2
open PySem PySem.Spec PyProof.Rows PySem.SeqAt
end L2
namespace L2
open PySem PySem.Spec PyProof.Rows
section
variable {P:Program} {w:World} {A:Around} {E:Value->Shared->Prop} {s:Shared} {a:Addr} {ks:List Int}
end
end L2
namespace Sm
open PySem L2 PySem.Spec PyProof.Rows
end Sm
namespace L2
open PySem PySem.Spec PyProof.Rows
end L2
namespace Sm
open PySem L2 PySem.Spec PyProof.Rows
end Sm
namespace L2
open PySem PySem.Spec PyProof.Rows PySem.SeqAt
section
variable {P:Program} {w:World} {E:Value->Shared->Prop}
end
noncomputable local instance:DecidableEq PyData:=λa b=>Classical.propDecidable _
end L2
namespace L2
open PySem PySem.Spec PyProof.Rows PySem.W
section
variable {ks:List PKey} {i j:Nat}
end
section
variable {P:Program} {w:World} {A:Around} {E:Value->Shared->Prop} {s:Shared}
end
end L2
namespace L2
open PySem PySem.Spec PyProof.Rows PySem.W PySem.SeqAt
section
variable {P:Program} {w:World} {A:Around} {E:Value->Shared->Prop} {s:Shared} {a:Addr}
end
end L2
namespace Sm
open PySem L2 PySem.Spec PyProof.Rows
end Sm
namespace L2
open PySem PySem.Spec PyProof.Rows
end L2
namespace Sm
open PySem L2 PySem.Spec PyProof.Rows
end Sm
namespace L2
open PySem PySem.Spec PyProof.Rows PySem.SeqAt
end L2
namespace Sm
open PySem L2 PySem.Spec PyProof.Rows
end Sm
namespace Sm
open PySem L2 PySem.Spec PyProof.Rows PySem.SeqAt
noncomputable local instance:DecidableEq PyData:=λa b=>Classical.propDecidable _
section
variable {K:FR} {ρ ρ':Ad} {H H':Hp}
end
section
variable {X:Cx}
end
end Sm
namespace Sm
open PySem L2 PySem.Spec PyProof.Rows
abbrev v0:EM:=ay 0
abbrev v1:EM:=ay 1
abbrev v2:EM:=ay 2
abbrev v3:EM:=ay 3
abbrev v4:EM:=ay 4
abbrev v5:EM:=ay 5
abbrev v6:EM:=ay 6
abbrev v7:EM:=ay 7
abbrev v8:EM:=ay 8
abbrev v9:EM:=ay 9
abbrev v10:EM:=ay 10
abbrev v11:EM:=ay 11
abbrev P8:EM:=ay 12
abbrev P7:EM:=ay 13
abbrev Rq:EM:=ay 14
abbrev ki(i:Int):EM:=eK (.int i)
abbrev ks(x:Str):EM:=eK (.str x)
abbrev a1(x:EM):AM:=ag x aL
abbrev a2(x y:EM):AM:=ag x (ag y aL)
abbrev a3(x y z:EM):AM:=ag x (ag y (ag z aL))
abbrev a4(x y z u:EM):AM:=ag x (ag y (ag z (ag u aL)))
section
variable {P:Program} {w:World} {K:FR} {mg:Str->Option Value} {base:Heap} {x qual:Str} {st:Stmt} {f:Addr} {fd:FuncData} {N ps:List Str} {k:Nat}
theorem aQ(F:t9 K x qual st f fd)(Sc:aD N ps (ak st))(hb:∀(cdv:Value)(A:Around)(outer:List Env)(s:Shared)(H:Hp)(E:XK),cL k (A.deeper (envOfC qual (ak st) s.heap.objs.size f cdv))->N.Nodup->DF (fm nU P w K mg base N qual (ak st) f cdv A outer s H E).FC (dq st) body):
  eS P w K mg base nU (k+1) f fd ps (Cv K ps.length (jJ N.length body)):=Mg F Sc λc A o s H E hr=>hb c A o s H E hr Sc.nd
end
theorem NO{op:CmpOp}(ho:lR X (compareOp op) f)(ha:SE X a ma)(hb:SE X b mb)(hm:behindInMarks op b=false:=by first | exact fg _ | ac_nf):ST X (.Compare a [op] [b] pos) (aJ (ar f ma mb)):=gh ho ha hb hm
theorem NR{op:CmpOp}(ho:lR X (compareOp op) f)(ha:SE X a ma)(hb:SE X b mb)(hm:behindInMarks op b=false:=by first | exact fg _ | ac_nf):SE X (.Compare a [op] [b] pos) (ar f ma mb):=Et ho ha hb hm
theorem Qp{x1}(h:SA X es aL):SE X (.Tuple es x1 pos) (ax aW aL):=bZ h aA
theorem Qo{x1}(h:SA X es (ag m0 aL)):SE X (.Tuple es x1 pos) (ax aW (ag m0 aL)):=bZ h (ah aA)
theorem Qm{x1}(h:SA X es (ag m0 (ag m1 aL))):SE X (.Tuple es x1 pos) (ax aW (ag m0 (ag m1 aL))):=bZ h (ah (ah aA))
theorem Ql{x1}(h:SA X es (ag m0 (ag m1 (ag m2 aL)))):SE X (.Tuple es x1 pos) (ax aW (ag m0 (ag m1 (ag m2 aL)))):=bZ h (ah (ah (ah aA)))
theorem Qk{x1}(h:SA X es (ag m0 (ag m1 (ag m2 (ag m3 aL))))):SE X (.Tuple es x1 pos) (ax aW (ag m0 (ag m1 (ag m2 (ag m3 aL))))):=bZ h (ah (ah (ah (ah aA))))
theorem Qj{x1}(h:SA X es (ag m0 (ag m1 (ag m2 (ag m3 (ag m4 (ag m5 aL))))))):SE X (.Tuple es x1 pos) (ax aW (ag m0 (ag m1 (ag m2 (ag m3 (ag m4 (ag m5 aL))))))):=bZ h (ah (ah (ah (ah (ah (ah aA))))))
theorem Qu(h:SA X es aL):lM X (.List es pos) aL:=dO h aA
theorem Qt(h:SA X es (ag m0 aL)):lM X (.List es pos) (ag m0 aL):=dO h (ah aA)
theorem Qs(h:SA X es (ag m0 (ag m1 aL))):lM X (.List es pos) (ag m0 (ag m1 aL)):=dO h (ah (ah aA))
theorem Qr(h:SA X es (ag m0 (ag m1 (ag m2 (ag m3 (ag m4 (ag m5 (ag m6 (ag m7 aL))))))))):lM X (.List es pos) (ag m0 (ag m1 (ag m2 (ag m3 (ag m4 (ag m5 (ag m6 (ag m7 aL)))))))):=dO h (ah (ah (ah (ah (ah (ah (ah (ah aA))))))))
end Sm
namespace Hd
open PySem PySem.W PySem.Spec PyProof.Rows L2 Sm
theorem bq{q:Program}{loose:List Str}{mean:ExcName->Option Value}{mg mb:Str->Option Value}{h base:Heap}{P:Program}{w:World}(T:Top q loose mean mg mb h){n:Str}{st:Stmt}(e:(recsOf q).find? (λe=>e.name==n)=some (mE n st)){ps:List Str}{k N:Nat}{F:Fn}
  (ok:∀{f:Addr} {fd:FuncData},t9 (aE h) n n st f fd->keepIn (aE h) (.ref f)=true->Binds (aE h) fd ps []->mg n=some (.ref f)->eS P w (aE h) mg base nU k f fd ps (Cv (aE h) N F)) (hb:∀{f:Addr} {fd:FuncData},t9 (aE h) n n st f fd->Binds (aE h) fd ps []:=by walk_at "b"):Df P w (aE h) mg base n k ps N F:=OB T e hb ok
end Hd
namespace L2
open PySem PySem.Spec PyProof.Rows
section
variable {P:Program} {w:World} {A:Around} {E:Value->Shared->Prop} {s:Shared} {d J:Addr} {o:Obj} {es:Array DictEntry} {ep:Nat}
end
end L2
namespace Sm
open PySem L2 PySem.Spec PyProof.Rows PySem.SeqAt
end Sm
namespace Sb
open PySem L2 PySem.Spec PyProof.Rows
open Builtin.SmallTypes (nextOf ownedTupleIsFree ownedTupleHandOut)
section
variable {P:Program} {w:World} {A:Around} {E:Value->Shared->Prop} {s:Shared} {b c:Bool}
end
section
variable {P:Program} {w:World} {A:Around} {E:Value->Shared->Prop} {s:Shared}
end
end Sb
namespace Sm
open PySem L2 PySem.Spec PyProof.Rows
end Sm
namespace L2
open PySem PySem.Spec PyProof.Rows
end L2
namespace Sm
open PySem L2 PySem.Spec PyProof.Rows
mutual
noncomputable def JJ:D->Bool
 | .cq=>true
 | .bl _=>true
 | .int _=>true
 | .str _=>true
 | .tup xs=>EV xs
 | _=>false
noncomputable def EV:List D->Bool
 | []=>true
 | x::r=>JJ x&&EV r
end
section
variable {K:FR} {ρ ρ':Ad} {H H':Hp} (hh:∀b vs,Rd H b (.tup vs)->¬ρ.has b->Rd H' b (.tup vs)/\¬ρ'.has b)
include hh
mutual
theorem EG{v:V}{d:D}(r:Rep K ρ H v d)(f:JJ d=true):Rep K ρ' H' v d:=by
 cases r with
 | cq=>exact .cq
 | bl b=>exact .bl b
 | int i=>exact .int i
 | str h=>exact .str h
 | tup h l=>exact .tup (h.elim (λ⟨a,n⟩=>.inl (hh _ _ a n)) .inr) (uZ l f)
 | _=>cases f
theorem uZ{vs:List V}{ds:List D}(r:aG K ρ H vs ds)(f:EV ds=true):aG K ρ' H' vs ds:=by
 cases r with
 | nil=>exact .nil
 | cons h t=>
  have f:=SU.mp f;exact .cons (EG h f.1) (uZ t f.2)
end
end
end Sm
namespace L2
open PySem PySem.Spec PyProof.Rows
def Rz(h:Heap)(x T:Addr)(C:Value):Prop:=
 ∃oe vs oT ts,h.get? x=some oe/\oe.cls=C/\oe.data=.fields vs/\vs[1]?=some (.ref T)/\T≠x/\h.get? T=some oT/\oT.data=.fields ts/\ts[3]?=some .none
noncomputable def iK(P:Program)(w:World):Cg:=λouter H s E e s'=>∃x T C H',e=.ref x/\s.heap.get? x=none/\s.heap.get? T=none/\H' x=none/\H' T=none/\Rz s'.heap x T C/\s'.os=s.os/\AllBare s'.gens/\
 Un (ku outer) [] H H' s.heap s'.heap/\jT P w H' s'.heap/\E C none H'
theorem bS.ex(x:bS P w H h a o):∃u,h.get? a=some u:=by
 cases o with
 | lst xs=>obtain⟨_,_,_,_,e⟩:=x;exact⟨_,e⟩
 | tup xs=>obtain⟨_,_,_,o,e,_⟩:=x;exact⟨_,e⟩
 | dK kvs=>obtain⟨_,_,_,_,o,_,_,e,_⟩:=x;exact⟨_,e⟩
 | dT kvs=>obtain⟨_,_,_,_,o,_,_,e,_⟩:=x;exact⟨_,e⟩
 | set S n=>obtain⟨o,_,_,_,e,_⟩:=x;exact⟨_,e⟩
 | ins C dx fs=>obtain⟨_,_,_,e,_⟩:=x;exact⟨_,e⟩
 | own y=>exact x
 | xd fs=>obtain⟨_,⟨_,_,_,e,_⟩,_⟩:=x;exact⟨_,e⟩
 | zF lo hi=>obtain⟨_,_,_,e⟩:=x;exact⟨_,e⟩
 | lQ ob u=>exact⟨_,x.1⟩
 | Jw ps=>exact⟨_,x⟩
 | met f y=>exact⟨_,x⟩
 | ext φ=>exact x.2.1
 | BU φ=>exact x.2.1
 | tb=>obtain⟨_,e,_⟩:=x;exact⟨_,e⟩
theorem qN{h base base':Heap}:∀{l:List Env},h.FunFrames base l->(∀b∈ku l,base'.get? b=none)->h.FunFrames base' l
 | [],_,_=>trivial
 | env::r,⟨hk,⟨L,o,hf,hn,ho,hd⟩,hr⟩,k=>by
  have k':∀b,b=L\/b∈ku r->base'.get? b=none:=λb hb=>k b (by unfold ku;rw[Ua,hf];exact Sr.mpr hb);exact⟨hk,⟨L,o,hf,k' L (.inl rfl),ho,hd⟩,qN hr λb hb=>k' b (.inr hb)⟩
abbrev Mv(CX:Cg)(P:Program)(w:World)(K:FR)(mg:Str->Option Value)(base:Heap)(N:List Str)(qual:Str)(scope:Scope)(fn:Str->Bool)(cl:List (Str×Addr))(f:Addr)(cd:Value)(A:Around)(outer:List Env)(s:Shared)(H:Hp)(E:XK):Cx where
 prog:=P
 w:=w
 K:=K
 mg:=mg
 base:=base
 A:=A.deeper (PySem.W.envX qual scope s.heap.objs.size f cd cl)
 N:=N
 s₀:=s
 H₀:=H
 env:=PySem.W.envX qual scope s.heap.objs.size f cd cl
 outer:=outer
 stack:=PySem.W.envX qual scope s.heap.objs.size f cd cl::outer
 ex:=[]
 calm:=true
 fn:=fn
 pn:=[]
 xe:=λe s'=>wpAny (model P w) (A.deeper (PySem.W.envX qual scope s.heap.objs.size f cd cl)) (leaving (PySem.W.envX qual scope s.heap.objs.size f cd cl) e) (λ_ s''=>CX outer H s E e s'') (λe' s''=>CX outer H s E e' s'') s'
section
variable {CX:Cg} {P:Program} {w:World} {K:FR} {mg:Str->Option Value} {base:Heap} {N:List Str} {qual:Str} {scope:Scope} {fn:Str->Bool} {cl:List (Str×Addr)} {f:Addr} {cd:Value} {A:Around} {outer:List Env} {s₀:Shared} {H₀:Hp} {E:XK} {pins:List (Addr×Obj)} {σ:St} {H:Hp} {s:Shared} {x T:Addr} {C:Value}
theorem yX(J:Inv (Mv (iK P w) P w K mg base N qual scope fn cl f cd A outer s₀ H₀ E) pins σ H s)(hx0:s₀.heap.get? x=none)(hHx:H x=none)(hT:∀b,b∈(x::ts)->H b=none/\s₀.heap.get? b=none){h':Heap}
  (hl:Heap.Left (PySem.W.hideAll s.heap ((x::ts)++ku (PySem.W.envX qual scope s₀.heap.objs.size f cd cl::outer))) (PySem.W.envX qual scope s₀.heap.objs.size f cd cl::outer) x C s.heap h') (e:E C none H):iK P w outer H₀ s₀ E (.ref x) {s with heap:=h'}:=by
 obtain⟨st,ff,⟨oe,vs,T,oT,tr,he,hc,hd,h1,hbT,hTx,hgT,hdT,h3⟩,sl⟩:=hl;have keep:∀b o,s.heap.get? b=some o->b∉(x::ts)->b∉ku (PySem.W.envX qual scope s₀.heap.objs.size f cd cl::outer)->h'.get? b=some o:=λb o eb n1 n2=>
  st b o (Vx _ eb λz=>(SF.mp z).elim n1 n2)
 have fr:∀b∈ku (PySem.W.envX qual scope s₀.heap.objs.size f cd cl::outer),H b=none:=J.qD;have fo:∀b o,s₀.heap.get? b=some o->b∉ku outer->b∉ku (PySem.W.envX qual scope s₀.heap.objs.size f cd cl::outer):=λb o eb n z=>by
  rcases Sr.mp (show b∈s₀.heap.objs.size::ku outer from z) with z | z
  ·rw[z] at eb;exact absurd (SJ eb) (Uv _)
  ·exact n z
 have hTT:H T=none/\s₀.heap.get? T=none:=by
  by_cases z:T∈x::ts
  ·exact hT T z
  ·by_cases z2:T∈ku (PySem.W.envX qual scope s₀.heap.objs.size f cd cl::outer)
   ·obtain⟨_,o,eo,hn⟩:=ff.mem z2;rw[hgT] at eo;cases eo;exact absurd hdT (hn _)
   ·have hn:s.heap.get? T=none:=by
     cases q:s.heap.get? T with
     | none=>rfl
     | some o=>rw[Vx _ q λy=>(SF.mp y).elim z z2] at hbT;cases hbT
    refine⟨?_,?_⟩
    ·cases q:H T with
     | none=>rfl
     | some u=>obtain⟨o,eo⟩:=(J.bg T u q).ex;rw[hn] at eo;cases eo
    ·cases q:s₀.heap.get? T with
     | none=>rfl
     | some o=>obtain⟨o',eo⟩:=J.base.there T o q (λy=>(nomatch y));rw[hn] at eo;cases eo
 have sx:∀b o,s₀.heap.get? b=some o->b∉x::ts:=λb o eb z=>by rw[(hT b z).2] at eb;cases eb
 refine⟨x,T,C,H,rfl,hx0,hTT.2,hHx,hTT.1,⟨oe,vs,oT,tr,he,hc,hd,h1,hTx,hgT,hdT,h3⟩,J.os,J.bare,⟨λb o eb n hb _=>?_,λb o eb n hb _=>?_,λb o eb n _=>J.base.free b o eb n (λy=>(nomatch y)),λb o eb _=>?_,J.base.nX,J.base.ng,J.base.nY⟩,?_,e⟩
 ·exact keep b o (J.base.keep b o eb n hb (λy=>(nomatch y))) (sx b o eb) (fo b o eb hb)
 ·obtain⟨sl1,e1⟩:=J.base.slot b o eb n hb (λy=>(nomatch y));obtain⟨_,o',eo,hn⟩:=J.stack.mem (Sq _ hb);rw[e1] at eo;cases eo;obtain⟨sl2,e2⟩:=sl b _ e1 hn;exact⟨sl2,e2⟩
 ·obtain⟨o1,e1⟩:=J.base.there b o eb (λy=>(nomatch y))
  by_cases z:b∈ku (PySem.W.envX qual scope s₀.heap.objs.size f cd cl::outer)
  ·obtain⟨_,o',eo,hn⟩:=J.stack.mem z;obtain⟨sl2,e2⟩:=sl b _ eo hn;exact⟨_,e2⟩
  ·exact⟨_,keep b _ e1 (sx b o eb) z⟩
 ·have nt:∀b u,H b=some u->b∉x::ts/\b∉ku (PySem.W.envX qual scope s₀.heap.objs.size f cd cl::outer):=λb u eb=>⟨λz=>(by rw[(hT b z).1] at eb;cases eb),λz=>(by rw[fr b z] at eb;cases eb)⟩;intro b u eb;refine(J.bg b u eb).og (λc v hc q=>?_) (λ_ q=>q) λ_ _ q=>q;have:∃u,H c=some u:=by
   rcases hc with rfl | hc
   ·exact⟨u,eb⟩
   ·exact⟨_,hc⟩
  obtain⟨u',eu⟩:=this;exact keep c v q (nt c u' eu).1 (nt c u' eu).2
theorem Ci(J:Inv (Mv (iK P w) P w K mg base N qual scope fn cl f cd A outer s₀ H₀ E) pins σ H s)(hx0:s₀.heap.get? x=none)(hHx:H x=none){oe:Obj}{vs:Array Value}(he:s.heap.get? x=some oe)(hd:oe.data=.fields vs)(h1:vs[1]?=some .none)(e:E oe.cls none H):
  (Mv (iK P w) P w K mg base N qual scope fn cl f cd A outer s₀ H₀ E).xe (.ref x) s:=by
 refine wpAny_leaving_first (base:=PySem.W.hideAll s.heap ([x]++ku (PySem.W.envX qual scope s₀.heap.objs.size f cd cl::outer))) J.ok.frames (qN J.stack λb hb=>Uk _ (So _ hb)) rfl he (λb o eb=>VE _ eb) (Uk _ (S8 _ Sk)) hd h1 λh' hl=>?_;refine yX (ts:=[]) J hx0 hHx (λb hb=>?_) hl e;rw[Sz.mp hb];exact⟨hHx,hx0⟩
theorem DP(J:Inv (Mv (iK P w) P w K mg base N qual scope fn cl f cd A outer s₀ H₀ E) pins σ H s)(hx0:s₀.heap.get? x=none)(hT0:s₀.heap.get? T=none)(hHx:H x=none)(hHT:H T=none)(hX:Rz s.heap x T C)(e:E C none H):
  (Mv (iK P w) P w K mg base N qual scope fn cl f cd A outer s₀ H₀ E).xe (.ref x) s:=by
 obtain⟨oe,vs,oT,tr,he,hc,hd,h1,hTx,hgT,hdT,h3⟩:=hX;refine wpAny_leaving_next (cls:=C) (base:=PySem.W.hideAll s.heap ([x,T]++ku (PySem.W.envX qual scope s₀.heap.objs.size f cd cl::outer))) J.ok.frames (qN J.stack λb hb=>Uk _ (So _ hb)) rfl ⟨oe,vs,T,oT,tr,he,hc,hd,h1,Uk _ (S8 _ (Sq _ Sk)),hTx,hgT,hdT,h3⟩ (λb o eb=>VE _ eb) (Uk _ (S8 _ Sk)) λh' hl=>?_;refine yX (ts:=[T]) J hx0 hHx (λb hb=>?_) hl e;rcases Sr.mp hb with rfl | hb
 ·exact⟨hHx,hx0⟩
 ·rw[Sz.mp hb];exact⟨hHT,hT0⟩
theorem BB:Passes (iK P w) (Mv (iK P w) P w K mg base N qual scope fn cl f cd A outer s₀ H₀ E) E:=λpins σ H s e s' I h=>by
 obtain⟨x,T,C,H',rfl,nx,nT,hx,hT,X,os,bare,un,bg,q⟩:=h;have J:Inv (Mv (iK P w) P w K mg base N qual scope fn cl f cd A outer s₀ H₀ E) pins σ H' s':=I.call' os un bg bare λb z=>(nomatch z);have old:∀b,s.heap.get? b=none->s₀.heap.get? b=none:=λb hb=>by
  cases q:s₀.heap.get? b with
  | none=>rfl
  | some o=>obtain⟨o',eo⟩:=I.base.there b o q (λy=>(nomatch y));rw[hb] at eo;cases eo
 exact DP J (old x nx) (old T nT) hx hT X q
end
section
variable {P:Program} {w:World} {K:FR} {mg:Str->Option Value} {base:Heap} {N:List Str} {qual:Str} {scope:Scope} {f:Addr} {cd:Value} {A:Around} {outer:List Env} {s₀:Shared} {H₀:Hp} {E:XK} {pins:List (Addr×Obj)} {σ:St} {H:Hp} {s:Shared} {x T:Addr} {C:Value}
theorem DQ(J:Inv (fm (iK P w) P w K mg base N qual scope f cd A outer s₀ H₀ E) pins σ H s)(hx0:s₀.heap.get? x=none)(hHx:H x=none){oe:Obj}{vs:Array Value}(he:s.heap.get? x=some oe)(hd:oe.data=.fields vs)(h1:vs[1]?=some .none)(e:E oe.cls none H):
  (fm (iK P w) P w K mg base N qual scope f cd A outer s₀ H₀ E).xe (.ref x) s:=Ci (fn:=λ_=>true) (cl:=cellsFrom (s₀.heap.objs.size+1) scope.names []) J hx0 hHx he hd h1 e
theorem Ij:Passes (iK P w) (fm (iK P w) P w K mg base N qual scope f cd A outer s₀ H₀ E) E:=BB (fn:=λ_=>true) (cl:=cellsFrom (s₀.heap.objs.size+1) scope.names [])
end
structure DE(mg:Str->Option Value)(base:Heap)(nm:Str)(C:Addr):Prop where
 own:OwnCls nm C [.type "ValueError",.type "Exception",.type "BaseException",.type "object"] "ValueError.__new__" mg base
section
variable {P:Program} {w:World} {K:FR} {mg:Str->Option Value} {base:Heap} {N:List Str} {qual:Str} {scope:Scope} {f:Addr} {cd:Value} {A:Around} {outer:List Env} {s₀:Shared} {H₀:Hp} {E:XK}
theorem E2{nm:Str}{C:Addr}{a:Expr}{np cpos pos:Pos}{ta:TA}(O:DE mg base nm C)(hg:Gl (fm (iK P w) P w K mg base N qual scope f cd A outer s₀ H₀ E) nm)(ha:PA (fm (iK P w) P w K mg base N qual scope f cd A outer s₀ H₀ E) [a] ta)
  (he:starEach [a] (envOfC qual scope s₀.heap.objs.size f cd)=[(false,eval a (envOfC qual scope s₀.heap.objs.size f cd))]) (hdb:(nm==("__debug__":Str))=false):
  PS (fm (iK P w) P w K mg base N qual scope f cd A outer s₀ H₀ E) (.Raise (some (.Call (.Name nm np) [a] [] cpos)) none pos) (λ_ σ H=>ta σ H λvs H1=>vs.length<=sizeLine/\E (.ref C) none H1):=by
 intro pins s σ H D I h;obtain⟨tl,Nn,nm',q,bs,hdct,sn,sub,ab,col,dd,k0,k1,k2,k3,k5,mN,hC,hN,hni,T⟩:=O.own.obj;refine wpAny_Raise_call_subU (C:=C) (nm:=nm') (q:=q) (N:=Nn) (bs:=bs) (bm:=tl) (hdct:=hdct) (sn:=sn) (sub:=sub) (ab:=ab) (col:=col) (dd:=dd) (k0:=k0) (k1:=k1) (k2:=k2) (k3:=k3) (k5:=k5)
  VF (by decide) VF (mN:=mN) (T.hasType VF.hasBase) (I.ok.hd rfl) (by
   show(backTo cpos (starEach [a] (envOfC qual scope s₀.heap.objs.size f cd))).any (·.1)=false;rw[he];rfl) hni (kj I hg O.own.bound ⟨rfl,?_⟩ hdb)
 show wpAny _ _ (evalArgs (.ref C) true (backTo cpos (starEach [a] (envOfC qual scope s₀.heap.objs.size f cd))) []) _ _ s;have hh:=ha cpos pins s σ H _ I h;have hh:wpAny _ _ (spliced (backTo cpos (starEach [a] (envOfC qual scope s₀.heap.objs.size f cd)))) _ _ s:=hh;rw[he] at hh ⊢;refine Calls.evalArgs_plain (Te hh (λus s2 hq=>?_) λ_ _ y=>y);obtain⟨vs,H1,I1,r1,hl,q1⟩:=hq;refine⟨rfl,by rw[<-r1.length];exact hl,I1.bk _ _ hC,hN.keeps I1.bk,T.keeps I1.bk,λh' e hm=>?_⟩;have I2:Inv (fm (iK P w) P w K mg base N qual scope f cd A outer s₀ H₀ E) pins σ H1 {s2 with heap:=h'}:=I1.kept (t':=s2.toks) hm.keeps;obtain⟨t,ht,_,_⟩:=hm.there;refine DQ I2 ?_ ?_ ht rfl rfl q1
 ·cases q:s₀.heap.get? e with
  | none=>rfl
  | some o=>obtain⟨o',eo⟩:=I1.base.there e o q (λy=>(nomatch y));rw[hm.new] at eo;cases eo
 ·cases q:H1 e with
  | none=>rfl
  | some u=>obtain⟨o,eo⟩:=(I1.bg e u q).ex;rw[hm.new] at eo;cases eo
end
end L2
namespace Sm
open PySem L2 PySem.Spec PyProof.Rows
abbrev XM:=DS->MH->Option (Str×MH)
abbrev Xn:=List D->MH->Option (Str×MH)
def Pe(K:FR)(mg:Str->Option Value)(E:XK)(ρ:Ad)(H:Hp)(c:Str)(h':MH):Prop:=∀C ρ' H',mg c=some C->cT ρ H ρ' H'->bN K ρ' h' H'->E C none H'
theorem Pe.step{K:FR}{mg:Str->Option Value}{E:XK}{ρ ρ1:Ad}{H H1:Hp}{c:Str}{h':MH}(k:Pe K mg E ρ H c h')(T:cT ρ H ρ1 H1):Pe K mg E ρ1 H1 c h':=λC ρ' H' m T' S=>k C ρ' H' m (T.trans T') S
inductive Ph(K:FR)(mg:Str->Option Value)(E:XK)(x:XM)(σ:L2.St)(H:Hp):Prop where
 | mk (ρ δ h c h'):cy K ρ H σ δ->bN K ρ h H->x δ h=some (c,h')->Pe K mg E ρ H c h'->Ph K mg E x σ H
def XE(X:Cx)(E:XK)(e:Expr)(x:XM):Prop:=PE X e λσ H _=>Ph X.K X.mg E x σ H
def XS(X:Cx)(E:XK)(s:Stmt)(x:XM):Prop:=PS X s λ_ σ H=>Ph X.K X.mg E x σ H
def G6(X:Cx)(E:XK)(s:List Stmt)(x:XM):Prop:=xX X s λ_ σ H=>Ph X.K X.mg E x σ H
noncomputable def Ni:XM:=λ_ _=>none
noncomputable def He(a b:XM):XM:=λδ h=>match a δ h with
 | some r=>some r
 | none=>b δ h
noncomputable def Hf(t:TM)(a b:XM):XM:=λδ h=>(t δ h).bind λp=>if p.1 then a δ p.2 else b δ p.2
noncomputable def vZ(a:SM)(b:XM):XM:=λδ h=>(a δ h).bind λr=>match r.1 with
 | .nx=>b r.2.1 r.2.2
 | _=>none
noncomputable def Kj(f:Xn)(a:AM):XM:=λδ h=>(a δ h).bind λp=>f p.1 p.2
noncomputable def kX(c:Str)(a:AM):XM:=λδ h=>(a δ h).map λp=>(c,p.2)
noncomputable def OE(len:Nat)(body:XM):Xn:=λds h=>body (entry len ds) h
inductive Pw(K:FR)(mg:Str->Option Value)(n:Nat)(F:Xn)(vs:List V)(H:Hp)(E:XK):Prop where
 | mk (ρ h ds c h'):bN K ρ h H->aG K ρ H vs ds->ds.length=n->F ds h=some (c,h')->Pe K mg E ρ H c h'->Pw K mg n F vs H E
def NP(K:FR)(mg:Str->Option Value)(n:Nat)(F:Xn):Sp:=λvs H _ E=>Pw K mg n F vs H E
section
variable {X:Cx} {E:XK} {a b c e tg iter elt:Expr} {es:List Expr} {st:Stmt} {sa sb sts:List Stmt} {pos:Pos} {ma mb:EM} {mt:TM} {ms mu:SM} {m:AM} {x y:XM}
theorem vY:G6 X E sts Ni:=λ_ _ _ _ _ _ h=>by obtain⟨_,_,_,_,_,_,_,z,_⟩:=h;cases z
theorem zJ(ha:G6 X E sts x)(hb:G6 X E sts y):G6 X E sts (He x y):=λpins s σ H D I ⟨ρ,δ,h,c,h',R,S,z,k⟩=>by
 unfold He at z;cases q:x δ h with
 | none=>rw[q] at z;exact hb pins s σ H D I ⟨ρ,δ,h,c,h',R,S,z,k⟩
 | some r=>rw[q] at z;cases z;exact ha pins s σ H D I ⟨ρ,δ,h,c,h',R,S,q,k⟩
theorem eB(h1:XS X E st x):G6 X E (st::sts) x:=λpins s σ H D I h=>
 UE (cD (h1 pins s σ H {nx:=λ_ _=>False,rt:=λ_ _=>False,bk:=λ_ _=>False,ct:=λ_ _=>False} I h) λf s1 q=>by
  cases f with
  | next=>obtain⟨_,_,_,q⟩:=q;exact q.elim
  | ret v=>obtain⟨_,_,_,_,_,q⟩:=q;exact q.elim
  | brk=>obtain⟨_,_,_,q⟩:=q;exact q.elim
  | cont=>obtain⟨_,_,_,q⟩:=q;exact q.elim)
theorem jj(h1:SS X st ms)(h2:G6 X E sts x):G6 X E (st::sts) (vZ ms x):=(yB h1 h2).imp λD σ H ⟨ρ,δ,h,c,h',R,S,z,k⟩=>by
 obtain⟨⟨fl,δ1,h1⟩,e1,e2⟩:=bw z;refine⟨ρ,δ,h,fl,δ1,h1,R,S,e1,λρ1 H1 T1 S1=>?_⟩;cases fl with
 | nx=>exactλσ' R'=>⟨ρ1,δ1,h1,c,h',R',S1,e2,k.step T1⟩
 | bk=>cases e2
 | ct=>cases e2
 | rt d=>cases e2
theorem Bd(hc:ST X c mt)(ha:G6 X E sa x)(hb:G6 X E sb y):XS X E (.If c sa sb pos) (Hf mt x y):=(JK hc ha hb).imp λD σ H ⟨ρ,δ,h,c,h',R,S,z,k⟩=>by
 obtain⟨⟨b,h1⟩,e1,e2⟩:=bw z;refine⟨ρ,δ,h,b,h1,R,S,e1,λρ1 H1 T1 S1=>?_⟩;cases b with
 | true=>rw[Si rfl] at e2 ⊢;exact⟨ρ1,δ,h1,c,h',R.mono T1.toCh,S1,e2,k.step T1⟩
 | false=>rw[Sv (by simp)] at e2 ⊢;exact⟨ρ1,δ,h1,c,h',R.mono T1.toCh,S1,e2,k.step T1⟩
theorem Kg(he:XE X E e x)(hs:swapsWithSole [tg] e pos.line X.env=pure false:=by ac_nf)(hw:swappedStores [tg] e X.env=pure none:=by ac_nf)(h1:(assignEach [tg] X.env).map (·.2)=[assign tg X.env]:=by ac_nf)
  (hg:PG X tg g):XS X E (.Assign [tg] e pos) x:=E5 he hg hs hw h1
theorem Ha(G:eS X.prog X.w X.K X.mg X.base (iK X.prog X.w) k f fd ps (NP X.K X.mg n F))(hp:Passes (iK X.prog X.w) X E)(hr:cL k X.A)(hg:Gl X nm)(hm:X.mg nm=some (.ref f))(hk:PySem.W.keepIn X.K (.ref f)=true)(hb:Binds X.K fd ps [])
  (ha:SA X (e::es) m) (hl:kG m n) (hdb:(nm==("__debug__":Str))=false:=by ac_nf) (he:starEach (e::es) X.env=(false,eval e X.env)::starEach es X.env:=by ac_nf) (hpl:(backTo pos (starEach es X.env)).any (·.1)=false:=by ac_nf):
  XE X E (.Call (.Name nm p) (e::es) [] pos) (Kj F m):=(Bz (E:=E) G hr hg hm hk hb .nil hp ha hdb he hpl).imp λσ H Q ⟨ρ,δ,h,c,h',R,S,z,q⟩=>by
 obtain⟨⟨ds,h1⟩,e1,e2⟩:=bw z;refine⟨ρ,δ,h,ds,h1,R,S,e1,λvs ρ1 H1 T1 S1 r1=>?_⟩;show NP X.K X.mg n F (vs++[]) H1 Q E;rw[Tw];exact⟨ρ1,h1,ds,c,h',S1,r1,hl _ _ _ _ e1,e2,q.step T1⟩
end
section
variable {P:Program} {w:World} {K:FR} {mg:Str->Option Value} {base:Heap} {N:List Str} {qual:Str} {scope:Scope} {f:Addr} {cd:Value} {A:Around} {outer:List Env} {s₀:Shared} {H₀:Hp} {E:XK}
theorem DO{nm:Str}{C:Addr}{a:Expr}{np cpos pos:Pos}{ma:EM}(O:DE mg base nm C)(hg:Gl (fm (iK P w) P w K mg base N qual scope f cd A outer s₀ H₀ E) nm)(ha:SE (fm (iK P w) P w K mg base N qual scope f cd A outer s₀ H₀ E) a ma)
  (he:starEach [a] (envOfC qual scope s₀.heap.objs.size f cd)=[(false,eval a (envOfC qual scope s₀.heap.objs.size f cd))]:=by ac_nf) (hdb:(nm==("__debug__":Str))=false:=by ac_nf):
  XS (fm (iK P w) P w K mg base N qual scope f cd A outer s₀ H₀ E) E (.Raise (some (.Call (.Name nm np) [a] [] cpos)) none pos) (kX nm (ag ma aL)):=
 (E2 O hg (aa ha aq he) he hdb).imp λD σ H ⟨ρ,δ,h,c,h',R,S,z,k⟩=>by
  obtain⟨⟨ds,h1⟩,e1,e2⟩:=SR.mp z;cases e2;refine⟨ρ,δ,h,ds,h1,R,S,e1,λvs ρ1 H1 T1 S1 r1=>⟨?_,k _ ρ1 H1 O.own.bound T1 S1⟩⟩;rw[r1.length];obtain⟨⟨d,h2⟩,f1,f2⟩:=bw e1;cases f2;exact(by decide:1<=sizeLine)
end
section
variable {P:Program} {w:World} {K:FR} {mg:Str->Option Value} {base:Heap} {x qual:Str} {st:Stmt} {f:Addr} {fd:FuncData} {N ps:List Str} {k:Nat} {body:XM}
theorem OR(F:t9 K x qual st f fd)(Sc:aD N ps (ak st))(hb:∀(cdv:Value)(A:Around)(outer:List Env)(s:Shared)(H:Hp)(E:XK),cL k (A.deeper (envOfC qual (ak st) s.heap.objs.size f cdv))->N.Nodup->G6 (fm (iK P w) P w K mg base N qual (ak st) f cdv A outer s H E) E (dq st) body):
  eS P w K mg base (iK P w) (k+1) f fd ps (NP K mg ps.length (OE N.length body)):=by
 obtain⟨oc,od,kV,doc,pm,an,cdv,ct,osl,rfl,lk,hcd⟩:=F.ex;refine F2 lk hcd Sc (λvs H Q E h=>?_) λA outer s H vs Q E hr h=>?_
 ·obtain⟨ρ,h,ds,c,h',S,r,hl,_⟩:=h;rw[r.length];exact hl
 ·obtain⟨ρ,h,ds,c,h',S,r,hl,e,q⟩:=h;exact⟨_,hb cdv A outer s H E hr Sc.nd,ρ,entry N.length ds,h,c,h',cy.entry N r,S,e,q⟩
end
end Sm
namespace L2
open PySem PySem.Spec PyProof.Rows PySem.F
def zA(h:Heap)(C:Addr)(bm:List Value):Prop:=∃nm q N bs hdct sn sub ab col dd k0 k1 k2 k3 k5 newId,h.get? C=some (excClassObj nm q C N bs bm hdct sn sub ab col dd k0 k1 k2 k3 k5 newId)
section
variable {M:Model} {A:Around} {E:Value->Shared->Prop}
theorem Nf{h:Heap}{g:Array GenState}{d:Drawn}{t:Nat}{os:OsState}{e C D:Addr}{oe:Obj}{bm bmC:List Value}{Q:Bool->Shared->Prop}
  (hD:zA h D bm) (hC:zA h C bmC) (he:h.get? e=some oe) (hcls:oe.cls=.ref D) (hbase:bmC.contains (.type "BaseException")=true) {b:Bool} (hb:(Value.ref D::bm).contains (.ref C)=b)
  (hq:Q b ⟨h,g,d,t,os⟩):wpAny M A (excMatches (.ref e) (.ref C)) Q E ⟨h,g,d,t,os⟩:=by
 obtain⟨_,_,_,_,_,_,_,_,_,_,_,_,_,_,_,_,hD⟩:=hD;obtain⟨_,_,_,_,_,_,_,_,_,_,_,_,_,_,_,_,hC⟩:=hC;have hcB:(Value.ref C::bmC).contains (.type "BaseException")=true:=by rw[List.contains_cons,hbase,Bool.or_true]
 have f:=tc_notTuple;unfold excMatches
 repeat(first |(with_reducible refine WD he ?_;rw[hcls]) | with_reducible refine WD hC ?_ | with_reducible refine WD hD ?_ |(with_reducible refine wpAny_isSubtype_exc hC ?_;rw[hcB]) |(with_reducible refine wpAny_isSubtype_exc hD ?_;rw[hb]) | wp_step)
 cases b with
 | true=>repeat(first | exact hq | wp_step)
 | false=>repeat(first | exact hq | wp_step)
end
end L2
namespace L2
open PySem PySem.Spec PySem.W PySem.Calls PyProof.Rows Builtin Builtin.ObjectAttr Builtin.Getset_descriptor
section
variable {prog:Program} {w:World} {A:Around} {E:Value->Shared->Prop} {s:Shared} {K:Frag} {x D:Addr}
structure XQ(K:Frag)(D:Addr):Prop where
 ga:findIn K (.ref D) "__getattribute__"=some (some (.builtin "BaseException.__getattribute__"))
 gr:findIn K (.ref D) "__getattr__"=some none
 cl:findIn K (.ref D) "__class__"=some (some (.builtin "object.__class__"))
 ob:mroIn K D (.type "object")=some true
 be:mroIn K D (.type "BaseException")=some true
theorem zI.type{M:Model}{h:Heap}(I:zI h x D):Looks M h (typeOf (.ref x)) (.ref D):=by
 obtain⟨o,h1,h2⟩:=I;exact h2 ▸ (Looks.ld h1).andThen .now
theorem Kh{R:Result->Shared->Prop}{tp:Value}(X:K.In s.heap)(I:zI s.heap x D)(hm:mroIn K D (.type "object")=some true)(h:R (.ok (.ret (.ref D))) s):
  codeAny (model prog w) A (.call (.builtin "getset_descriptor.__get__") ⟨[.builtin "object.__class__",.ref x,tp],[]⟩) R s:=by
 obtain⟨hh,g,dr,t,os⟩:=s;have L0:=I.type (M:=model prog w);have L1:=looks_mroIn (M:=model prog w) X hm;refine codeAny_call_builtin KF.slot_gs.plain KF.entry_gs (KF.slot_gs.check _ _ _ _ _ _ _ _ KF.type_class (KF.args_gs _ _ _) ?_);unfold Builtin.«getset_descriptor.__get__» descrGet;rw[dga_obj];refine Sa (Sy ?_);unfold descrGetter descrCheckInstance descrNameAndClass isInstance;simp only[KF.owner_class]
 repeat lk
 refine⟨Code.quiet_builtin _ (by decide+kernel),Wi KF.entry_class ?_⟩;unfold Builtin.«object.__class__» shownTypeOf
 repeat lk
 exact h
theorem DR{tk:Tok}{Q:Fin->Shared->Prop}(C:XQ K D)(X:K.In s.heap)(I:zI s.heap x D)(hq:Q (.done (.ret (.ref D))) s):
  wpAny (model prog w) A (Builtin.«object.__getattribute__» ⟨[.ref x,.str "__class__" tk],[]⟩) Q E s:=by
 obtain⟨h,g,d,t,os⟩:=s;have L0:=I.type (M:=model prog w);have L1:=looks_findIn (M:=model prog w) X C.cl;unfold Builtin.«object.__getattribute__»
 repeat(any_goals (first | assumption | lk | wp_step))
 show wpAny _ _ (run (.call (.builtin "getset_descriptor.__get__") ⟨[.builtin "object.__class__",.ref x,.ref D],[]⟩) none) _ _ _;refine wpAny_run (Kh X I C.ob ?_);exact Sy (Sy hq)
theorem DU{M:Model}{nameV:Value}{Q:Unit->Shared->Prop}(C:XQ K D)(X:K.In s.heap)(I:zI s.heap x D)(hq:Q () s):wpAny M A (checkBuiltinCall "BaseException.__getattribute__" ⟨[.ref x,nameV],[]⟩) Q E s:=by
 obtain⟨h,g,d,t,os⟩:=s;have hk:builtinKind "BaseException.__getattribute__"=some .slot:=by decide+kernel
 have hsplit:splitId "BaseException.__getattribute__"=some ("BaseException","__getattribute__"):=by decide+kernel
 have ha:=F.args_bexc_ga (.ref x) nameV;have L0:=I.type (M:=M);have L1:=looks_mroIn (M:=M) X C.be;simp only[checkBuiltinCall,hk,hsplit];refine Sa ?_
 ·unfold isInstance
  repeat(first | lk | wp_step)
  exact hq
theorem Nh{tk:Tok}{fill expr:Bool}{Q:Value->Shared->Prop}(C:XQ K D)(X:K.In s.heap)(I:zI s.heap x D)(hq:Q (.ref D) s):
  wpAny (model prog w) A (getAttrBy (.ref x) (.str "__class__" tk) fill expr) Q E s:=by
 obtain⟨h,g,d,t,os⟩:=s;have hx0:(expr&&onTheHeap (Value.builtin "BaseException.__getattribute__"))=false:=by cases expr <;> rfl
 have hx2:(Value.builtin "BaseException.__getattribute__"==Value.builtin "object.__getattribute__")=false:=by decide+kernel
 have hx1:(onTheHeap (Value.ref D)&&Value.builtin "BaseException.__getattribute__"==Value.builtin "object.__getattribute__")=false:=by rw[hx2];rfl
 have f3:=F.excAttr_ValueError.ga.bind (.ref x);have L0:=I.type (M:=model prog w);have L1:=looks_findIn (M:=model prog w) X C.ga;have L2:=looks_findIn (M:=model prog w) X C.gr;unfold getAttrBy
 repeat(any_goals (first | assumption | lk | wp_step))
 show wpAny _ _ (Sem.attempt (holding _ (callGetattribute (.ref x) (.str "__class__" tk) (.builtin "BaseException.__getattribute__") expr))) _ _ _;refine Wx (Uq ?_);unfold callGetattribute
 repeat(any_goals (first | assumption | lk | wp_step))
 show wpAny _ _ (run (.call (.builtin "BaseException.__getattribute__") ⟨[.ref x,.str "__class__" tk],[]⟩) none) _ _ _;refine wpAny_run (codeAny_call_builtin F.attrBase_ValueError.ga.plain F.entry_bexc_ga (DU C X I (DR C X I ?_)));exact Sy (handed_on rfl hq)
theorem DT{Q:Option Value->Shared->Prop}(C:XQ K D)(X:K.In s.heap)(I:zI s.heap x D)(h:Q (some (.ref D)) {s with toks:=s.toks+1}):wpAny (model prog w) A (getAttr? (.ref x) "__class__") Q E s:=by
 obtain⟨hh,g,d,t,os⟩:=s;unfold getAttr? getAttrBy?;refine Sa (wpAny_mkText (Sa (Wx (Nh (s:=⟨hh,g,d,t+1,os⟩) C X I ?_))));exact Sy h
end
theorem FT{K:Frag}{x D:Addr}(C:XQ K D)(hdct:(clsIn K D).isSome=true):KitX K (.ref x) (.ref D) (λh=>zI h x D) where
 ty:=λ_ _ _ I=>I.type
 it:=λ_ _ X _=>by
  obtain⟨cdD,hcD⟩:=UM.mp hdct;unfold clsIn at hcD
  split at hcD
  ·rename_i c' d' cd' sl' ho;intro A' Q' E' s' k q;unfold isType loadHead;exact Sa (wpAny_loadPart (k _ _ (X _ _ ho)) (Sy q))
  ·cases hcD
 ne:=λh tp dd its n sl X htp=>by
  obtain⟨cdD,hcD⟩:=UM.mp hdct;refine Bool.eq_false_iff.mpr λq=>?_;have e:D=tp:=Value.ref.inj (Ux.mp q);subst e;unfold clsIn at hcD
  split at hcD
  ·rename_i c' d' cd' sl' ho;have z:=(X _ _ ho).symm.trans htp;cases z
  ·cases hcD
 ca:=λX I k=>DT C X I k
theorem AE{prog:Program}{w:World}{A:Around}{E:Value->Shared->Prop}{s:Shared}{Q:Value->Shared->Prop}{K:Frag}{x D:Addr}{c:Value}{b:Bool}(C:XQ K D)(hdct:(clsIn K D).isSome=true)(X:K.In s.heap)(I:zI s.heap x D)(e:kitOne K (.ref D) c=some b)
  (h:∀tk,Q (.bool b) {s with toks:=tk}):wpAny (model prog w) A (call (.builtin "isinstance") [.ref x,c]) Q E s:=TH (FT C hdct) X I e (λz=>nomatch z) h
end L2
namespace L2
open PySem PySem.Spec PyProof.Rows
section
variable {X:Cx} {pins:List (Addr×Obj)} {σ:St} {H:Hp} {s s':Shared} {E:XK} {e:Value} {L:Addr} {rest:List Env}
theorem tQ(I:Inv X pins σ H s)(hs:X.stack=X.env::rest)(hf:X.env.frame=some L)(h:iK X.prog X.w X.stack H s E e s'):
  ∃x C H',e=.ref x/\E C none H'/\∀{M:Model} {B:Around} {F:Value->Shared->Prop} {Q:Unit->Shared->Prop},B.frames=some X.stack->
   (∀s3,Inv X pins σ H' s3->(∃o vs,s3.heap.get? x=some o/\o.cls=C/\o.data=.fields vs)->H' x=none->s.heap.get? x=none->
    (∀{M':Model} {B':Around} {F':Value->Shared->Prop} {Q':Unit->Shared->Prop},(∀s4,Inv X pins σ H' s4->(∃o vs,s4.heap.get? x=some o/\o.cls=C/\o.data=.fields vs)->Q' () s4)->wpAny M' B' (setFlight (.ref x) none) Q' F' s3)->Q () s3)->
   wpAny M B (noteFrame (.ref x) X.env) (λ_ s2=>wpAny M B (setFlight (.ref x) none) Q F s2) F s':=by
 obtain⟨x,T,C,H',rfl,nx,nT,hx,hT,⟨oe,vs,oT,tr,he,hc,hd,h1,hTx,hgT,hdT,h3⟩,os,bare,un,bg,q⟩:=h;have J:Inv X pins σ H' s':=I.call' os un bg bare λb z=>(nomatch z);refine⟨x,C,H',rfl,q,λ{M B F Q} hfr k=>?_⟩;have h0:vs[0]?=some (vs[0]'(Wo (by decide) (VI.mp h1).1)):=Array.getElem?_eq_getElem _;have hide:∀b,b∈[x,T]++ku X.stack->(PySem.W.hideAll s'.heap ([x,T]++ku X.stack)).get? b=none:=λb hb=>Uk _ hb;have FL:Heap.FlyingW (PySem.W.hideAll s'.heap ([x,T]++ku X.stack)) (X.env::rest) x C (vs[0]'(Wo (by decide) (VI.mp h1).1)) s'.heap:=
  ⟨λb o eb=>VE _ eb,hide x (S8 _ Sk),hs ▸ qN J.stack (λb hb=>hide b (So _ hb)),oe,vs,T,oT,tr,he,⟨hc,h0⟩,hd,h1,hide T (S8 _ (Sq _ Sk)),hTx,hgT,hdT,h3⟩
 have fr:∀b∈ku X.stack,H' b=none:=J.qD;have sx:∀b o,s.heap.get? b=some o->b≠x/\b≠T:=λb o eb=>⟨λz=>(by rw[z,nx] at eb;cases eb),λz=>(by rw[z,nT] at eb;cases eb)⟩;have fin:∀h3',Heap.FlyingW (PySem.W.hideAll s'.heap ([x,T]++ku X.stack)) (X.env::rest) x C (vs[0]'(Wo (by decide) (VI.mp h1).1)) h3'->s'.heap.UpToSlots h3'->
   Inv X pins σ H' {s' with heap:=h3'}/\∃o vs,h3'.get? x=some o/\o.cls=C/\o.data=.fields vs:=λh3' fl U=>by
  obtain⟨st,_,ff,tr⟩:=fl;have keep:∀b o,s'.heap.get? b=some o->b≠x->b≠T->b∉ku X.stack->h3'.get? b=some o:=λb o eb n1 n2 n3=>st b o (Vx _ eb λz=>by
   rcases SF.mp z with z | z
   ·rcases Sr.mp z with z | z
    ·exact n1 z
    ·exact n2 (Sz.mp z)
   ·exact n3 z)
  refine⟨I.call' (ch:=[]) os ⟨λb o eb n hb hx'=>keep b o (un.keep b o eb n hb hx') (sx b o eb).1 (sx b o eb).2 hb,λb o eb n hb hx'=>?_,un.free,λb o eb hx'=>?_,un.nX,un.ng,un.nY⟩ (λb u eb=>?_) bare λb z=>(nomatch z),?_⟩
  ·obtain⟨sl1,e1⟩:=un.slot b o eb n hb hx';obtain⟨_,o',eo,hn⟩:=J.stack.mem hb;rw[e1] at eo;cases eo;obtain⟨sl2,e2⟩:=U b _ e1 hn;exact⟨sl2,e2⟩
  ·obtain⟨o1,e1⟩:=un.there b o eb hx'
   by_cases z:b∈ku X.stack
   ·obtain⟨_,o',eo,hn⟩:=J.stack.mem z;obtain⟨sl2,e2⟩:=U b _ eo hn;exact⟨_,e2⟩
   ·exact⟨_,keep b _ e1 (sx b o eb).1 (sx b o eb).2 z⟩
  ·refine(bg b u eb).og (λc v hc' q'=>?_) (λ_ q'=>q') λ_ _ q'=>q';have:∃u,H' c=some u:=by
    rcases hc' with rfl | hc'
    ·exact⟨u,eb⟩
    ·exact⟨_,hc'⟩
   obtain⟨u',eu⟩:=this;exact keep c v q' (λz=>by rw[z,hx] at eu;cases eu) (λz=>by rw[z,hT] at eu;cases eu) λz=>by rw[fr c z] at eu;cases eu
  ·obtain⟨oe',vs',_,_,_,he',hc',hd',_⟩:=tr;exact⟨oe',vs',he',hc'.1,hd'⟩
 refine wpAny_looks_onW (hs ▸ hfr) hf FL λh2 hh u1=>wpAny_landsW hh λh3' fl u2=>?_;obtain⟨J3,x3⟩:=fin h3' fl (u1.trans u2);refine k _ J3 x3 hx nx λ{M' B' F' Q'} k'=>?_;obtain⟨st,fb,ff,tr⟩:=id fl;refine wpAny_setFlight_noneW (s:={s' with heap:=h3'}) st ff tr λh4' k1 k2 k3 k4=>?_;obtain⟨J4,x4⟩:=fin h4' ⟨k1,fb,k2,k3⟩ ((u1.trans u2).trans λb o hb hn=>⟨o.slots,k4 b o hb hn⟩);exact k' _ J4 x4
end
end L2
namespace L2
open PySem PySem.Spec PySem.Calls PyProof.Rows
section
variable {prog:Program} {w:World} {A:Around} {E:Value->Shared->Prop} {s:Shared} {env:Env}
theorem De{e C D:Addr}{bm bmC:List Value}{t:Expr}{n:Str}{b₀:Stmt}{suite:List Stmt}{pos:Pos}{rest:List ExceptHandler}{Q:Flow->Shared->Prop}(hbase:bmC.contains (.type "BaseException")=true)(hb:(Value.ref D::bm).contains (.ref C)=true)
  (h:wpAny (model prog w) (A.mark (some (.ref e))) (eval t env) (λc s₁=>c=.ref C/\zA s₁.heap D bm/\zA s₁.heap C bmC/\(∃oe,s₁.heap.get? e=some oe/\oe.cls=.ref D)/\
   wpAny (model prog w) (A.mark (some (.ref e))) (setFlight (.ref e) none) (λ_ s₂=>
     wpAny (model prog w) (A.mark (some (.ref e))) (storeName env n (.ref e)) (λ_ s₃=>
      wpAny (model prog w) (A.mark (some (.ref e))) (execs (b₀::suite) env)
       (λf s₄=>wpAny (model prog w) A (do bindName env n .none;unbindBehindTheSuite env n pos) (λ_ s₅=>Q f s₅) E s₄)
       (AsSuiteRaised (model prog w) (A.mark (some (.ref e))) env n pos (notedBy (model prog w) (A.mark (some (.ref e))) env (cameBackBy (model prog w) A env E))) s₃) (notedBy (model prog w) (A.mark (some (.ref e))) env (cameBackBy (model prog w) A env E)) s₂) (notedBy (model prog w) (A.mark (some (.ref e))) env (cameBackBy (model prog w) A env E)) s₁) (notedBy (model prog w) (A.mark (some (.ref e))) env (cameBackBy (model prog w) A env E)) s):
  wpAny (model prog w) A (handleBy (.ref e) env (.ExceptHandler (some t) (some n) (b₀::suite) pos::rest)) Q E s:=by
 refine wpAny_handleBy_cons (codeAny_handlers_test (Te h (λc s₁ h₁=>?_) λ_ _ y=>y)) (by intro q;cases q);obtain⟨rfl,OD,OC,⟨oe,he,hcls⟩,hk⟩:=h₁;obtain⟨hh,g,d,tk,os⟩:=s₁;exact Nf OD OC he hcls hbase hb (codeAny_handlers_suite_as hk)
end
abbrev Cx.G4(X:Cx)(v:Value)(E:Value->Shared->Prop):Cx:={X with A:=X.A.mark (some v),calm:=false,xe:=E}
section
variable {X:Cx} {v:Value} {E:Value->Shared->Prop} {pins:List (Addr×Obj)} {σ:St} {H:Hp} {s:Shared}
theorem Cx.Ok.G4(ok:X.Ok):(X.G4 v E).Ok:=
 ⟨ok.mod,ok.kind,ok.glob,ok.blt,ok.above,ok.inj,ok.has,ok.Na,(λz=>nomatch z),ok.frames,ok.NM,ok.QZ,ok.bs,ok.G5,ok.CM,ok.Ge,ok.oN,ok.JQ⟩
theorem Inv.G4(I:Inv X pins σ H s):Inv (X.G4 v E) pins σ H s:=⟨I.ok.G4,I.os,I.bare,I.base,I.loc,I.cell,I.free,I.gp,I.pin,I.bg,I.len⟩
theorem Inv.QO(I:Inv X pins σ H s){s':Shared}{σ':St}{H':Hp}(J:Inv (X.G4 v E) pins σ' H' s'):Inv X pins σ' H' s':=⟨I.ok,J.os,J.bare,J.base,J.loc,J.cell,J.free,J.gp,J.pin,J.bg,J.len⟩
end
section
variable {X:Cx} {pins:List (Addr×Obj)} {σ:St} {H:Hp} {s:Shared}
theorem Ck{M:Model}{A:Around}{E:Value->Shared->Prop}{i:Nat}{x:Str}{v:V}{Q:Unit->Shared->Prop}(I:Inv X pins σ H s)(hN:X.N.Nodup)(hi:X.N[i]?=some x)(hk:X.env.scope.names.lookup x=some .local)(hv:σ[i]?=some (some v))
  (h:∀s',Inv X pins (σ.set i none) H s'->Q () s'):wpAny M A (unbindName X.env x) Q E s:=by
 obtain⟨m,hn,hl⟩:=id I.loc;have hcls:(X.env.scope.kind==.class||(X.env.scope.kind==.module&&X.env.locals !=X.env.globals))=false:=by rw[I.ok.kind];rfl
 have hiσ:i < σ.length:=by rw[I.len];exact(Se.mp hi).1
 have Gw:=I.Gw;have tracked:∀{a:Addr} {h':Heap},(∃o,s.heap.get? a=some o/\H a=none)->Heap.SameBut a s.heap h'->jT X.prog X.w H h':=λ{a h'} ha hs b ob e=>by
  obtain⟨_,_,hfree⟩:=ha;refine(I.bg b ob e).og (λc w' hc q=>(hs.2 c ?_).trans q) (λ_ q=>q) λ_ _ q=>q;rintro rfl;rcases hc with rfl | hc
  ·rw[hfree] at e;cases e
  ·rw[hfree] at hc;cases hc
 obtain⟨u0,_,q0⟩:=hl i x v hi hv (.inl hk);have hm:m x=some u0:=by
  rcases q0 with⟨_,e⟩ |⟨k,_⟩
  ·exact e
  ·have hk':X.env.kindOf x=some .local:=hk;rw[hk'] at k;rcases k with k | k <;> cases k
 refine wpAny_unbindName_local (m:=m) hk hn hm hcls λh' u' hn' hs=>?_;obtain⟨oL,_,_,hoL,_⟩:=id hn;refine h _ ⟨I.ok,I.os,I.bare,⟨λb o e n hb hx=>?_,λb o e n hb hx=>?_,I.base.free,λb o e hx=>?_,I.base.nX,I.base.ng,I.base.nY⟩,⟨_,hn',λj y v' e1 e2 e3=>?_⟩,λy c e=>?_,I.free,I.gp,λp hp=>?_,tracked ⟨oL,hoL,I.free⟩ hs,by simpa using I.len⟩
 ·exact(hs.2 b (SX (SV (SJ e) I.ok.above))).trans (I.base.keep b o e n hb hx)
 ·obtain⟨sl,e1⟩:=I.base.slot b o e n hb hx;exact⟨sl,(hs.2 b (SX (SV (SJ e) I.ok.above))).trans e1⟩
 ·obtain⟨o',e1⟩:=I.base.there b o e hx;exact⟨o',(hs.2 b (SX (SV (SJ e) I.ok.above))).trans e1⟩
 ·by_cases hj:j=i
  ·subst hj;rw[Th hiσ] at e2;cases e2
  ·rw[Tu (Um hj)] at e2;obtain⟨u',r',q⟩:=hl j y v' e1 e2 e3;refine⟨u',r',?_⟩;rcases q with⟨k,e⟩ |⟨k,c,e,z⟩
   ·refine .inl ⟨k,?_⟩;have:y≠x:=λe=>hj (sF hN e1 (e ▸ hi));simp[this,e]
   ·exact .inr ⟨k,c,e,z.sameBut hs (Gw y c e)⟩
 ·obtain⟨w',z⟩:=I.cell y c e;exact⟨w',z.sameBut hs (Gw y c e)⟩
 ·obtain⟨e,n,ne,nf,d⟩:=I.pin p hp;exact⟨(hs.2 p.1 ne).trans e,n,ne,nf,d⟩
end
end L2
namespace L2
open PySem PySem.Spec PySem.W PySem.Calls PyProof.Rows
structure DH(K:Frag)(mg:Str->Option Value)(cd:Value)(P:Addr):Prop where
 hd:∃c o vs file tf flags tg inF text tt,cd=.ref c/\K.lookup c=some o/\o.cls=.type "code"/\o.data=.fields vs/\vs[11]?=some (.ref P)/\vs.getD 11 .none=.ref P/\vs.getD 18 .none=.str file tf/\
  vs.getD 7 .none=.int flags tg/\vs.getD 9 .none=.bool inF/\vs.getD 10 .none=.int text tt/\c≠P
 tab:iH K P
 bm:∃bm ob,mg "__builtins__"=some (.ref bm)/\bm≠builtinsNs/\K.lookup bm=some ob/\ob.cls=.type "module"/\ob.dict=some builtinsNs/\ob.data=.plain
theorem AY{pos:Pos}{x c:Value}{a b:Int}:∀(l:List Value),TriplesOk l->codeAmong pos (l++[rawInt a,rawInt b,c])=some x->codeAmong pos l=some x\/x=c:=by
 intro l
 fun_induction TriplesOk l with
 | case1=>
  intro _ h;right;simp only[TN,codeAmong,rawInt] at h
  split at h
  ·exact(Option.some.inj h).symm
  ·cases h
 | case2 a' t b' u y rest ih=>
  intro ht h;simp only[Ta,codeAmong] at h ⊢
  split at h
  ·left;rename_i hc;rw[Si hc];exact h
  ·rename_i hc;rw[Sv hc];exact ih ht h
 | case3 l h1 h2=>exactλh=>h.elim
section
variable {X:Cx} {pins:List (Addr×Obj)} {σ:St} {H:Hp} {s:Shared} {P:Addr} {params:Arguments} {body:Expr} {scope:Scope} {pos:Pos} {cl:List (Str×Addr)} {Q:Value->Shared->Prop} {E:Value->Shared->Prop}
structure RJ(K:Frag)(mg:Str->Option Value)(P:Addr)(params:Arguments)(body:Expr)(scope:Scope)(cl:List (Str×Addr))(H:Hp)(f:Addr):Prop where
 ex:∃qn c' ctv oc vs q t,H f=some (.lQ (kla_obj "<lambda>" qn params body scope cl ((mg "__name__").getD .none) c' ctv) (.own f))/\H c'=some (.lQ oc (.own P))/\oc.data=.fields vs/\vs[1]?=some (.str q t)
theorem LW(I:Inv X pins σ H s)(L:DH X.K X.mg X.env.code P)(tP:H P=some .tb)(hd:defaultsOf params X.env=([],[]))(hcl:closureFor scope X.env=pure cl)
  (h:∀s' H' f,Inv X pins σ H' s'->(∀b o,H b=some o->H' b=some o)->(∀b,s.heap.objs.size<=b\/H' b=H b)->s.heap.objs.size<=f->RJ X.K X.mg P params body scope cl H' f->Q (.ref f) s'):
  wpAny (model X.prog X.w) X.A (eval (.Lambda params body scope pos) X.env) Q E s:=by
 obtain⟨c,oc,vsc,file,tf,flags,tg,inF,text,tt,ec,hc,c1,c2,c3,c4,c5,c6,c7,c8,c9⟩:=L.hd;have C:CodeHd s.heap c P:=⟨oc,vsc,file,tf,flags,tg,inF,text,tt,I.pU _ _ hc,c1,c2,c3,c4,c5,c6,c7,c8,c9⟩;obtain⟨ps,hP,ht,hcodes⟩:=(show bS X.prog X.w H s.heap P .tb from I.bg P _ tP);have hg:s.heap.Ns mainGlobals X.mg:=I.mod.glob.keeps I.bk;obtain⟨bm,ob,b1,b2,b3,b4,b5,b6⟩:=L.bm;have hbm:=I.pU _ _ b3;have hgP:mainGlobals≠P:=λq=>by
  obtain⟨o,es,ep,e,hd,_⟩:=hg;rw[q,hP] at e;cases e;cases hd
 have hbP:bm≠P:=λq=>by rw[q,hP] at hbm;cases hbm;cases b4
 have hbG:bm≠mainGlobals:=λq=>by
  obtain⟨o,es,ep,e,hd,_⟩:=hg;rw[<-q,hbm] at e;cases e;rw[hd] at b6;cases b6
 have hB:s.heap.BuiltinsAt X.mg P:=⟨bm,ob,b1,b2,hbG,hbP,hbm,b4,b5,b6⟩;refine kla_eval hd ?_;have old:∀b o,H b=some o->b < s.heap.objs.size:=λb o e=>I.bg.lt e;cases hf:codeAmong pos ps.toList with
 | some cv=>
  obtain⟨c',oc',vs',q',t',rfl,e1,e2,e3⟩:=hcodes pos cv hf;refine kla_makeFunctionHit (mg:=X.mg) hcl I.ok.glob hg ec C hP ht hf hB λctv h' tk hk hsz=>?_;have hn:H h'.objs.size=none:=I.bg.fresh hsz;refine h _ (upd H h'.objs.size (.lQ (kla_obj "<lambda>" (X.env.qual++"<lambda>") params body scope cl ((X.mg "__name__").getD .none) c' ctv) (.own h'.objs.size))) _ (I.laid (t':=tk) (λb o e=>Ss _ (hk b o e)) hsz ?_) (λb o e=>by rw[az (aP e hn)];exact e) (λb=>?_) hsz ⟨_,c',ctv,oc',vs',q',t',aO,by rw[az (aP e1 hn)];exact e1,e2,e3⟩
  ·exact⟨Tc _ rfl,_,Tc _ rfl⟩
  ·by_cases hb:b=h'.objs.size
   ·exact .inl (hb ▸ hsz)
   ·exact .inr (az hb)
 | none=>
  refine kla_makeFunction (mg:=X.mg) hcl I.ok.glob hg ec C hP ht hf hgP hB λc' ctv h' tk hx hge hlt hrec htb=>?_;obtain⟨c₂,oc',vs',t',e2,hoc,hd',hv⟩:=hrec;cases e2;have hPs:P < s.heap.objs.size:=SJ hP;have hszf:s.heap.objs.size<=h'.objs.size:=Sw hge (UU hlt);have n1:H c'=none:=I.bg.fresh hge;have n2:H h'.objs.size=none:=I.bg.fresh hszf;have nf:c'≠h'.objs.size:=SX hlt;generalize hfo:kla_obj "<lambda>" (X.env.qual++"<lambda>") params body scope cl ((X.mg "__name__").getD .none) c' ctv=fo;have hfr:fo.isFreed=false:=by rw[<-hfo];rfl
  have nn:∀{b o},H b=some o->upd (upd H c' (.lQ oc' (.own P))) h'.objs.size (.lQ fo (.own h'.objs.size)) b=some o:=λ{b o} e=>by
   rw[az (aP e n2),az (aP e n1)];exact e
  have nb:∀{b},b < s.heap.objs.size->upd (upd H c' (.lQ oc' (.own P))) h'.objs.size (.lQ fo (.own h'.objs.size)) b=H b:=λ{b} e=>by
   rw[az (SX (SV e hszf)),az (SX (SV e hge))]
  have kp:∀b o,b≠P->s.heap.get? b=some o->(h'.push fo).get? b=some o:=λb o hb e=>Ss _ (hx b o hb e);have I':Inv X pins σ (upd (upd H c' (.lQ oc' (.own P))) h'.objs.size (.lQ fo (.own h'.objs.size))) {s with heap:=h'.push fo,toks:=tk}:=by
   refine I.step (g':=s.gens) (d':=s.drawn) (t':=tk) (ch:=[]) (λ_ z=>nomatch z) (λb o _ _ _ e n=>kp b o (λz=>by rw[z,tP] at n;cases n) e) (λb o _ _ _ e n=>⟨o.slots,kp b o (λz=>by rw[z,tP] at n;cases n) e⟩)
    (λb o _ e n=>by rw[nb (SJ e)];exact n) (λb o _ e=>?_) (λb xs e=>nn e) (λb o u e=>nn e) (λb qs e=>⟨#[],by rw[nn e];simp⟩) (λm hm=>?_) (λb u e=>?_) I.bare
   ·by_cases hb:b=P
    ·exact⟨_,Ss _ (hb ▸ htb)⟩
    ·exact⟨o,kp b o hb e⟩
   ·obtain⟨o,es,ep,ho,r⟩:=hm;exact⟨o,es,ep,kp _ o (λz=>by have:=I.free;rw[z,tP] at this;cases this) ho,r⟩
   ·by_cases h1:b=h'.objs.size
    ·subst h1;rw[aO] at e;cases e;exact⟨Tc _ hfr,_,Tc _ hfr⟩
    ·rw[az h1] at e
     by_cases h2:b=c'
     ·subst h2;rw[aO] at e;cases e;exact⟨Ss _ hoc,_,Ss _ hoc⟩
     ·rw[az h2] at e
      by_cases h3:b=P
      ·subst h3;rw[tP] at e;cases e;refine⟨_,Ss _ htb,?_,λpos' x ex=>?_⟩
       ·rw[show(ps++#[rawInt pos.line,rawInt pos.col,Value.ref c']).toList=ps.toList++[rawInt pos.line,rawInt pos.col,.ref c'] by simp];exact TriplesOk_snoc _ _ _ _ ht
       ·rw[show(ps++#[rawInt pos.line,rawInt pos.col,Value.ref c']).toList=ps.toList++[rawInt pos.line,rawInt pos.col,.ref c'] by simp] at ex;rcases AY _ ht ex with z | z
        ·obtain⟨c₃,o₃,v₃,q₃,t₃,f1,f2,f3⟩:=hcodes pos' x z;exact⟨c₃,o₃,v₃,q₃,t₃,f1,nn f2,f3⟩
        ·exact⟨c',oc',vs',_,t',z,by rw[az nf,aO],hd',hv⟩
      ·refine(I.bg b u e).og (λc v hc' q=>?_) (λ_ q=>nn q) (λ_ _ q=>nn q) λ_ _ q=>nn q;refine kp c v ?_ q;rcases hc' with rfl | hc'
       ·exact h3
       ·intro z;rw[z,tP] at hc';cases hc'
  refine h _ _ _ I' (λb o e=>nn e) (λb=>?_) hszf ⟨_,c',ctv,oc',vs',_,t',by rw[hfo];exact aO,by rw[az nf,aO],hd',hv⟩
  by_cases hb:b < s.heap.objs.size
  ·exact .inr (nb hb)
  ·exact .inl (Uw hb)
end
abbrev Ja(CX:Cg)(P:Program)(w:World)(K:FR)(mg:Str->Option Value)(base:Heap)(N:List Str)(qual:Str)(scope:Scope)(cl:List (Str×Addr))(f:Addr)(cd:Value)(A:Around)(outer:List Env)(s:Shared)(H:Hp)(E:XK):Cx where
 prog:=P
 w:=w
 K:=K
 mg:=mg
 base:=base
 A:=A.deeper (envX qual scope s.heap.objs.size f cd cl)
 N:=N
 s₀:=s
 H₀:=H
 env:=envX qual scope s.heap.objs.size f cd cl
 outer:=outer
 stack:=envX qual scope s.heap.objs.size f cd cl::outer
 ex:=[]
 calm:=true
 fn:=λ_=>false
 pn:=[]
 xe:=λe s'=>wpAny (model P w) (A.deeper (envX qual scope s.heap.objs.size f cd cl)) (leaving (envX qual scope s.heap.objs.size f cd cl) e) (λ_ s''=>CX outer H s E e s'') (λe' s''=>CX outer H s E e' s'') s'
structure PF(H:Hp)(h:Heap)(N:List Str)(scope:Scope)(cl:List (Str×Addr))(σ:St):Prop where
 inj:∀x y c,cl.lookup x=some c->cl.lookup y=some c->x=y
 has:∀x,scope.names.lookup x=some .free->∃c,cl.lookup x=some c
 cell:∀x c,cl.lookup x=some c->H c=none/\∃v,h.IsCell c v
 val:∀(j:Nat) x v,N[j]?=some x->σ[j]?=some (some v)->∃u c,RelV v u/\scope.names.lookup x=some .free/\cl.lookup x=some c/\h.IsCell c (some u)
 len:σ.length=N.length
theorem PF.keep(C:PF H h N scope cl σ)(k:∀b o,H b=none->h.get? b=some o->(∃sl,h'.get? b=some {o with slots:=sl})/\H' b=none):PF H' h' N scope cl σ:=
 ⟨C.inj,C.has,λx c e=>by
  obtain⟨n,v,o,ho,hd⟩:=C.cell x c e;obtain⟨⟨sl,a⟩,b⟩:=k c o n ho;exact⟨b,v,_,a,hd⟩,λj x v e1 e2=>by
  obtain⟨u,c,r,f,l,o,ho,hd⟩:=C.val j x v e1 e2;obtain⟨⟨sl,a⟩,b⟩:=k c o (C.cell x c l).1 ho;exact⟨u,c,r,f,l,_,a,hd⟩,C.len⟩
structure tZ(N:List Str)(sc:Scope):Prop where
 kind:sc.kind=.function
 co:sc.isCoroutine=false
 gen:sc.isGenerator=false
 oE:∀y∈sc.names,y.2≠.cell
section
variable {CX:Cg} {P:Program} {w:World} {K:FR} {mg:Str->Option Value} {base:Heap} {N:List Str} {scope:Scope} {f Pt:Addr} {A:Around} {outer:List Env} {s:Shared} {H:Hp} {E:XK} {Q:VK} {params:Arguments} {body:Expr} {cl:List (Str×Addr)} {σ:St} {t:TE}
theorem FQ(S:tZ N scope)(hp:∀fd:FuncData,fd.params=params->fd.defaults=.none->fd.kwdefaults=.none->bindArgs fd ⟨[],[]⟩=pure [])(e0:GZ P w K mg base A outer s H)(hr:A.handled=none)(hdep:A.depth < recursionLimit)(F:RJ K mg Pt params body scope cl H f)(C:PF H s.heap N scope cl σ)
  (hb:∀q cd,PE (Ja CX P w K mg base N q scope cl f cd A outer s H E) body t) (ht:t σ H Q):
  codeAny (model P w) A (.call (.ref f) ⟨[],[]⟩) (CR CX outer P w H s Q E) s:=by
 obtain⟨qn,c',ctv,oc,vs,q,tk,h1,h2,h3,h4⟩:=F.ex;obtain⟨ho,_⟩:=(show bS P w H s.heap f _ from e0.bg f _ h1);obtain⟨hoc,_⟩:=(show bS P w H s.heap c' _ from e0.bg c' _ h2);have lim:s.heap.NoLimit:=e0.mod.nolimit.keeps λb o e=>(e0.bs b o e).1;refine codeAny_of_tree ?_;show wpAny _ A.in1 (callAny (.ref f) ⟨[],[]⟩) _ _ s;simp only[callAny];refine Sa (wpAny_load ho ?_);simp only[callFunction,S.co,S.gen];refine Sa (m:=field (.ref c') 1) (Ui hoc h3 h4 (Sa (Sy ?_)));rw[hp _ rfl rfl rfl];refine Sa (Sy ?_);refine Sa (Wk S.oE (λx hx=>nomatch hx) (λh₁ hns hsb=>?_) S.kind);have hk₁:∀b o,s.heap.get? b=some o->h₁.get? b=some o:=λb o e=>hsb.extBut b o (SX (SJ e)) (Ss _ e);refine Sa (wpAny_enterFrame (lim.keeps hk₁) hdep (Sy (And.intro rfl ?_)));show codeAny _ A (.expr body (envX q scope s.heap.objs.size f (.ref c') cl)) _ _;have noA:∀b:Addr,b∉(Ja CX P w K mg base N q scope cl f (.ref c') A outer s H E).ex:=λb z=>absurd (show b∈([]:List Addr) from z) (by simp);have I:Inv (Ja CX P w K mg base N q scope cl f (.ref c') A outer s H E) [] σ H {s with heap:=h₁,toks:=s.toks+([]:List (Str×Value)).length}:=by
  refine⟨⟨e0.mod,S.kind,rfl,rfl,Sj _,C.inj,λx hx=>?_,λy c h _=>absurd (show false=true from h) (by decide),λ_=>hr,Around.frames_deeper e0.frames,.inr ⟨rfl,rfl⟩,λb z=>absurd z (noA b),e0.bs,e0.G5,λb _ _=>noA b,λb z=>absurd z (noA b),e0.oN,e0.JQ⟩,
   rfl,e0.bare,Un.kept hk₁,⟨_,hns,λj x v e1 e2 e3=>?_⟩,λx c e=>?_,e0.bg.fresh (Sj _),λx c e=>(C.cell x c e).1,λp hp=>absurd (show p∈([]:List (Addr×Obj)) from hp) (by simp),e0.bg.kept hk₁,C.len⟩
  ·have hx:scope.names.lookup x=some .cell\/scope.names.lookup x=some .free:=hx;rcases hx with z | z
   ·exact absurd rfl (S.oE _ (Ti z))
   ·exact C.has x z
  ·obtain⟨u,c,r,fr,l,o,ho',hd⟩:=C.val j x v e1 e2;exact⟨u,r,.inr ⟨.inr fr,c,l,o,hk₁ _ _ ho',hd⟩⟩
  ·obtain⟨_,v,o,ho',hd⟩:=C.cell x c e;exact⟨v,o,hk₁ _ _ ho',hd⟩
 refine kla_codeExpr (Te (hb q (.ref c') [] _ σ H Q I ht) (λu s' hs=>?_) λe s' hs=>hs);obtain⟨v,H',J,rv,qv⟩:=hs;exact⟨v,H',J.os,J.bare,J.base,J.bg,rv,qv⟩
end
section
variable {X:Cx} {pins:List (Addr×Obj)} {σ:St} {H:Hp} {s:Shared}
theorem Inv.Nw{a:Addr}{u:HO}(I:Inv X pins σ H s)(n:H a=none)(h0:X.s₀.heap.get? a=none)(hd:∃o vs,s.heap.get? a=some o/\o.data=.fields vs)(hp:∀p∈X.pn++pins,p.1≠a)(new:bS X.prog X.w (upd H a u) s.heap a u):
  Inv X pins σ (upd H a u) s:=by
 obtain⟨oa,va,ha,hda⟩:=hd;have old:∀b o,X.s₀.heap.get? b=some o->b≠a:=λb o e z=>by rw[z,h0] at e;cases e
 have nn:∀{b o},H b=some o->upd H a u b=some o:=λ{b o} e=>by rw[az (aP e n)];exact e
 refine⟨I.ok,I.os,I.bare,⟨I.base.keep,I.base.slot,λb o e m hx=>?_,I.base.there,λb xs e=>nn (I.base.nX b xs e),λb o u e=>nn (I.base.ng b o u e),λb ps e=>?_⟩,I.loc,I.cell,?_,λx c e=>?_,λp hq=>?_,λb v e=>?_,I.len⟩
 ·rw[az (old b o e)];exact I.base.free b o e m hx
 ·obtain⟨more,e1⟩:=I.base.nY b ps e;exact⟨more,nn e1⟩
 ·obtain⟨m,⟨o,es,ep,ho,hdl,_⟩,_⟩:=I.loc;rw[az (λz=>by rw[z,ha] at ho;cases ho;rw[hda] at hdl;cases hdl)];exact I.free
 ·obtain⟨v,o,ho,hdc⟩:=I.cell x c e;rw[az (λz=>by rw[z,ha] at ho;cases ho;rw[hda] at hdc;cases hdc)];exact I.gp x c e
 ·obtain⟨e,m,r⟩:=I.pin p hq;exact⟨e,by rw[az (hp p hq)];exact m,r⟩
 ·by_cases z:b=a
  ·subst z;rw[aO] at e;cases e;exact new
  ·rw[az z] at e;exact(I.bg b v e).og (λ_ _ _ q=>q) (λ_ q=>nn q) (λ_ _ q=>nn q) λ_ _ q=>nn q
theorem Mn{cn:Str}{f:Addr}{p1 p2:Pos}{i:Nat}{ho:Obj}{fd:FuncData}{Q:Value->Shared->Prop}{E:Value->Shared->Prop}(I:Inv X pins σ H s)(hN:X.N[i]?=some cn)(hv:MR X.env.scope cn)(hσ:σ[i]?=some (some (.ref f)))(hf:s.heap.get? f=some ho)(hd:ho.data=.func fd)
  (h:wpAny (model X.prog X.w) X.A (call (.ref f) []) Q E s) (hdb:(cn==("__debug__":Str))=false) (hcd:(cn==("__classdict__":Str))=false):
  wpAny (model X.prog X.w) X.A (eval (.Call (.Name cn p1) [] [] p2) X.env) Q E s:=by
 refine Ul ?_;obtain⟨m,hn,hl⟩:=I.loc;obtain⟨u,r,l⟩:=hl i cn _ hN hσ hv;obtain rfl:u=Value.ref f:=r;have fin:wpAny (model X.prog X.w) X.A (callWith p2 (.ref f) [] (backTo p2 (starEach [] X.env)) (backToKw p2 (keywordEach [] X.env))) Q E s:=by
  refine callWith_of (P:=λh=>∃o,h.get? f=some o/\o.data=.func fd) rfl (λh ⟨o,e1,e2⟩=>⟨.frame,.inl rfl,(Looks.ld (part:=none) e1).andThen ?_⟩) (evalArgs_nil3 ⟨⟨ho,hf,hd⟩,h⟩);rw[e2];exact .now
 rcases l with⟨hk,hm⟩ |⟨hk,c,hc,hcell⟩
 ·exact We (wpAny_loadName_local I.ok.kind hk hn hm fin) hdb
 ·rcases hk with hk | hk
  ·exact We (wpAny_loadName_cell I.ok.kind hk hc hcell fin) hdb
  ·exact We (wpAny_loadName_free I.ok.kind hk hc hcell fin hcd) hdb
end
section
variable {X:Cx} {pins:List (Addr×Obj)} {σ:St} {H:Hp} {s:Shared}
theorem D5{L:Addr}{rest:List Env}{cau en:Str}{CS:Addr}{p4 p5 p6 p7 p8 p9:Pos}{body:List Stmt}{Qn:Hp->Prop}{E1:XK}{Q:Flow->Shared->Prop}{E:Value->Shared->Prop}
  (I:Inv X pins σ H s) (hs:X.stack=X.env::rest) (hf:X.env.frame=some L) (hNd:X.N.Nodup) (h1:X.N[1]?=some cau) (h2:X.N[2]?=some en) (l1:X.env.scope.names.lookup cau=some .local) (l2:X.env.scope.names.lookup en=some .local)
  (hg:Gl X "StuckError") (hm:X.mg "StuckError"=some (.ref CS)) (hsw:swapsWith (.Name en p6) (some (.Name cau p5)) p7.line X.env=pure false) (hd:(en==("__debug__":Str))=false) (hcd:(en==("__classdict__":Str))=false)
  (hcall:wpAny (model X.prog X.w) X.A (execs body X.env) (λf s'=>f=.next/\∃H',Inv X pins σ H' s'/\Qn H') (λe s'=>iK X.prog X.w X.stack H s E1 e s') s)
  (hE:∀C H',E1 C none H'->∃D bm bmC,C=.ref D/\(∀h,X.K.In h->zA h D bm/\zA h CS bmC)/\bmC.contains (.type "BaseException")=true/\(Value.ref D::bm).contains (.ref CS)=true)
  (hz:∀b,s.heap.get? b=none->X.s₀.heap.get? b=none)
  (k1:∀s' H',Inv X pins σ H' s'->Qn H'->Q .next s')
  (k2:∀s' H' x D,Inv X pins ((((σ.set 2 (some (.ref x))).set 1 (some (.ref x))).set 2 (some .cq)).set 2 none) (upd H' x (.BU λ_ h=>zI h x D)) s'->E1 (.ref D) none H'->H' x=none->Q .next s'):
  wpAny (model X.prog X.w) X.A (exec (.Try body [.ExceptHandler (some (.Name "StuckError" p4)) (some en) [.Assign [.Name cau p5] (.Name en p6) p7] p8] [] [] p9) X.env) Q E s:=by
 refine wpAny_Try_except (Te hcall (λf s' hq=>?_) λe s' hx=>?_)
 ·obtain⟨rfl,H',I',q⟩:=hq;exact Vp (k1 _ _ I' q)
 ·obtain⟨x,C,H',rfl,e1,kk⟩:=tQ I hs hf hx;refine kk I.ok.frames λs3 I3 fx nx n0 fl2=>?_;obtain⟨D,bm,bmC,rfl,ho,hb1,hb2⟩:=hE _ _ e1;obtain⟨o,vs,e3,e4,e5⟩:=fx;refine De hb1 hb2 ?_;refine kj (X:=X.G4 (.ref x) E) I3.G4 hg hm ?_;refine⟨rfl,(ho _ I3.pU).1,(ho _ I3.pU).2,⟨o,e3,e4⟩,fl2 λs4 I4 ⟨o4,vs4,f3,f4,f5⟩=>?_⟩;have I4':Inv X pins σ (upd H' x (.BU λ_ h=>zI h x D)) s4:=I4.Nw nx (hz x n0) ⟨o4,vs4,f3,f5⟩ (λp hp z=>by
   obtain⟨e,_⟩:=I.pin p hp;rw[z,n0] at e;cases e) ⟨⟨o4,f3,f4⟩,⟨o4,f3⟩,λh1 h2 ⟨o,a,b⟩ k=>⟨o,k o a,b⟩⟩
  have hl2:2 < σ.length:=by rw[I.len];exact(Se.mp h2).1
  refine ie (v:=.ref x) I4' hNd h2 (.inl l2) rfl (λs5 I5=>?_) (.inr l2);refine UE (cD (Ag (X:=X.G4 (.ref x) (AsSuiteRaised (model X.prog X.w) (X.A.mark (some (.ref x))) X.env en p8 (notedBy (model X.prog X.w) (X.A.mark (some (.ref x))) X.env (cameBackBy (model X.prog X.w) X.A X.env E)))) (i:=1) hNd h1 (.inl l1) (Fd (i:=2) h2 (.inl l2) hd hcd) hsw (.inr l1) pins s5 _ _
   {nx:=λσ' H2=>σ'=(σ.set 2 (some (.ref x))).set 1 (some (.ref x))/\H2=upd H' x (.BU λ_ h=>zI h x D),rt:=λ_ _=>False,bk:=λ_ _=>False,ct:=λ_ _=>False} I5.G4 ⟨.ref x,by rw[Th hl2],rfl,rfl⟩) λf s6 q=>?_)
  cases f with
  | ret v=>obtain⟨_,_,_,_,_,q⟩:=q;exact q.elim
  | brk=>obtain⟨_,_,_,q⟩:=q;exact q.elim
  | cont=>obtain⟨_,_,_,q⟩:=q;exact q.elim
  | next=>
   obtain⟨σ6,H6,I6,rfl,rfl⟩:=q;have I6:=I4.QO I6;refine Vp ?_;refine Sa (Xd (ie (v:=.cq) I6 hNd h2 (.inl l2) rfl (λs7 I7=>?_) (.inr l2)));unfold unbindBehindTheSuite;refine wpAny_onRaise (Ck (v:=.cq) I7 hNd h2 l2 (by rw[Th];simpa using hl2) λs8 I8=>?_);exact k2 _ _ x D I8 e1 nx
end
section
variable {X:Cx} {pins:List (Addr×Obj)} {σ:St} {H:Hp} {s:Shared} {N':List Str} {caps:List (Option Nat)} {scope:Scope}
theorem Inv.cells(S:bp X N' caps scope)(I:Inv X pins σ H s):PF H s.heap N' scope (gc X.env scope.names []) (jP caps σ):=by
 refine⟨λx y c h1 h2=>I.ok.inj x y c (S.look I.ok h1) (S.look I.ok h2),λx h=>iE (env:=X.env) scope.names [] (Ti h),λx c e=>⟨I.gp x c (S.look I.ok e),I.cell x c (S.look I.ok e)⟩,λj x v e1 e2=>?_,by
  show(caps.map _).length=N'.length;rw[R9];exact S.len⟩
 have e2':(caps.map λo=>o.bind λi=>(σ[i]?).join)[j]?=some (some v):=e2;rw[SK] at e2';cases hcj:caps[j]? with
 | none=>rw[hcj] at e2';cases e2'
 | some oi=>
  rw[hcj] at e2';have e2'':(oi.bind λi=>(σ[i]?).join)=some v:=Option.some.inj e2';cases oi with
  | none=>cases e2''
  | some i=>
   have hσ:(σ[i]?).join=some v:=e2'';have hσ':σ[i]?=some (some v):=by
    cases hs:σ[i]? with
    | none=>rw[hs] at hσ;cases hσ
    | some w=>rw[hs] at hσ;rw[show w=some v from hσ]
   obtain⟨hX,hfr⟩:=S.Rx j i x hcj e1;obtain⟨m,_,hl⟩:=I.loc;have hcgt:=S.tQ _ (Ti hfr) rfl;have hvis:MR X.env.scope x:=by
    rcases hcgt with z | z
    ·exact .inr (.inl z)
    ·exact .inr (.inr z)
   obtain⟨u,ru,lk⟩:=hl i x v hX hσ' hvis;obtain⟨c,hcc⟩:=iE (env:=X.env) scope.names [] (Ti hfr);refine⟨u,c,ru,hfr,hcc,?_⟩;rcases lk with⟨z,_⟩ |⟨_,c',hc',hcell⟩
   ·have z':X.env.kindOf x=some .local:=z;rcases hcgt with q | q
    ·rw[z'] at q;cases q
    ·rw[z'] at q;cases q
   ·have:=S.look I.ok hcc;rw[this] at hc';cases hc';exact hcell
end
abbrev xW(X:Cx)(ns:List Str)(fn:Str)(st:Stmt)(fr:Addr)(cdv:Value)(s1:Shared)(H1:Hp):Cx:=fm nU X.prog X.w X.K X.mg X.base ns fn (ak st) fr cdv X.A X.stack s1 H1 λ_ _ _=>False
end L2
namespace Sm
open PySem L2 PySem.Spec PySem.W PySem.Calls PyProof.Rows
noncomputable def D8(mt:SM)(c:Str)(h:MH):Option (D×MH):=((mt [none,some (.ob h.length),none,none] (h++[.exc c])).bind yj).bind λp=>leave h p.1 p.2
noncomputable def Nx(mt:SM)(h:MH):Option (D×MH):=((mt [none,some .cq,none,none] h).bind yj).bind λp=>leave h p.1 p.2
noncomputable def fI(cls:List Str)(caps:List (Option Nat))(mt:SM)(x:XM)(m:EM):EM:=λδ h=>match x (fK caps δ) h with
 | some (c,h')=>if c∈cls then D8 mt c h' else none
 | none=>(m (fK caps δ) h).bind λp=>Nx mt p.2
structure XC(K:Frag)(mg:Str->Option Value)(CS:Addr)(c:Str):Prop where
 ex:∃D bm bmC,mg c=some (.ref D)/\Mf K c=some (.ref D)/\(∀h,K.In h->zA h D bm/\zA h CS bmC)/\bmC.contains (.type "BaseException")=true/\(Value.ref D::bm).contains (.ref CS)=true
section
variable {X:Cx} {fn cn cau en mk:Str} {fr CS Pt:Addr} {fd:FuncData} {st:Stmt} {tail:List Stmt} {mt:SM} {k:Nat} {x:XM} {m:EM} {Nl:List Str} {caps:List (Option Nat)} {scope:Scope} {params:Arguments} {body:Expr} {cls:List Str}
 {pa pb' pc p1 p2 p3 p4 p5 p6 p7 p8 p9 pn lpos pos:Pos} {j:Nat}
theorem z3(F:t9 X.K fn fn st fr fd)(Sc:aD [cn,cau,en,mk] [cn] (ak st))(hmf:X.mg fn=some (.ref fr))(hkf:keepIn X.K (.ref fr)=true)
  (hbind:∀(s:Shared)(u:Value),BindsTo s fd ⟨[u],[]⟩ [(cn,u)])
  (hbody:dq st=.Assign [.Name cau pa] (.Constant .none j pb') pc::.Try [.Expr (.Call (.Name cn p1) [] [] p2) p3] [.ExceptHandler (some (.Name "StuckError" p4)) (some en) [.Assign [.Name cau p5] (.Name en p6) p7] p8] [] [] p9::tail)
  (l0:(ak st).names.lookup cn=some .local) (l1:(ak st).names.lookup cau=some .local) (l2:(ak st).names.lookup en=some .local) (lg:(ak st).names.lookup ("StuckError":Str)=some .globalImplicit)
  (hms:X.mg "StuckError"=some (.ref CS)) (hC:∀c∈cls,XC X.K X.mg CS c)
  (n0:(cn==("__debug__":Str))=false) (n0':(cn==("__classdict__":Str))=false) (n2:(en==("__debug__":Str))=false) (n2':(en==("__classdict__":Str))=false)
  (sw1:∀env,swapsWith (.Constant .none j pb') (some (.Name cau pa)) pc.line env=pure false) (sw2:∀env,swapsWith (.Name en p6) (some (.Name cau p5)) p7.line env=pure false) (sw3:∀env,swapsWith (.Call (.Name cn p1) [] [] p2) none p3.line env=pure false)
  (htail:∀(cdv:Value)(A:Around)(outer:List Env)(s:Shared)(H:Hp)(E:XK),cL (k+1) (A.deeper (envOfC fn (ak st) s.heap.objs.size fr cdv))->DF (fm nU X.prog X.w X.K X.mg X.base [cn,cau,en,mk] fn (ak st) fr cdv A outer s H E).FC tail mt)
  (hr:cL (k+2) X.A) (L:DH X.K X.mg X.env.code Pt) (hd:defaultsOf params X.env=([],[])) (hp:∀fd:FuncData,fd.params=params->fd.defaults=.none->fd.kwdefaults=.none->bindArgs fd ⟨[],[]⟩=pure []) (LS:tZ Nl scope) (C:bp X Nl caps scope)
  (hx:∀(q:Str)(cd:Value)(f:Addr)(cl:List (Str×Addr)) (A:Around) (outer:List Env) (s:Shared) (H:Hp) (E:XK),cL k (A.deeper (envX q scope s.heap.objs.size f cd cl))->XE (Ja (iK X.prog X.w) X.prog X.w X.K X.mg X.base Nl q scope cl f cd A outer s H E) E body x)
  (hm:∀(q:Str)(cd:Value)(f:Addr)(cl:List (Str×Addr)) (A:Around) (outer:List Env) (s:Shared) (H:Hp) (E:XK),cL k (A.deeper (envX q scope s.heap.objs.size f cd cl))->SE (Ja (iK X.prog X.w) X.prog X.w X.K X.mg X.base Nl q scope cl f cd A outer s H E) body m)
  (hg:Gl X fn) (hdb:(fn==("__debug__":Str))=false) (hst:starEach [.Lambda params body scope lpos] X.env=[(false,eval (.Lambda params body scope lpos) X.env)]):
  SE X (.Call (.Name fn pn) [.Lambda params body scope lpos] [] pos) (fI cls caps mt x m):=by
 intro pins s σ H Q I ⟨ρ,δ,h,d,h',R,S,ee,kq⟩;refine Ul (kj I hg hmf ?_ hdb);refine Xl (h₀:=X.base) (rest:=[]) I.ok.mod.PY hkf ?_ hst (by rfl);rw[hst];show wpAny _ _ (spliced ((false,eval (.Lambda params body scope lpos) X.env)::backTo pos [])) _ _ s;have tP:H Pt=some .tb:=(S.tb Pt L.tab).2;refine WA (LW I L tP hd (i5 (C.has I.ok)) λs1 H1 f I1 hext hnew hfs Fl=>WH ⟨I1.pU,?_⟩);have T1:cT ρ H ρ H1:=⟨⟨λ_ _ e=>e,λb o n e=>⟨n,hext b o e⟩⟩,rfl,λb hb=>by
  obtain⟨u,e⟩:=(S.t6 b hb).1;rw[e,hext b u e]⟩
 have S1:bN X.K ρ h H1:=S.same T1 λa ha=>by
  obtain⟨u,e⟩:=S.has (.inl ha);rw[e,hext a u e]
 have R1:cy X.K ρ H1 (jP caps σ) (fK caps δ):=(R.mono T1.toCh).jP caps;have Cl1:=I1.cells C;have e0:=I1.Mp;obtain⟨oc,od,kV,doc,pm,an,cdv,ct,osl,rfl,lk,hcd⟩:=F.ex;have KX:X.K.In s1.heap:=I1.pU;have lim:s1.heap.NoLimit:=I1.nolimit;have hkind:∀y∈[(cn,Value.ref f)],(ak st).names.lookup y.1=some .local\/((ak st).names.lookup y.1=some .cell/\((cellsFrom (s1.heap.objs.size+1) (ak st).names []).lookup y.1).isSome=true):=λy hy=>by
  rw[Sz.mp hy];exact .inl l0
 show wpAny _ _ (call (.ref fr) [.ref f]) _ _ s1;refine wpAny_call (Vv (R:=CR nU X.stack X.prog X.w H1 s1 Q (λ_ _ _=>False)) (codeAny_call_function hr.depth (KX _ _ lk) rfl Sc.co Sc.gen rfl (codeRec_of KX hcd) (hbind _ _ _ _ _ _ ?_)) λr s' hq=>?_);rotate_left
 ·cases r with
  | error e=>exact False.elim hq
  | ok fl=>
   cases fl with
   | ret u=>exact I1.after hq
   | next=>exact False.elim hq
   | brk=>exact False.elim hq
   | cont=>exact False.elim hq
 refine Xc Sc.kind hkind λenv he s2 z=>?_;subst he;refine⟨lim.keeps z.toInCall.keep,codeAny_func ?_⟩;have Ir:Inv (xW X [cn,cau,en,mk] fn st fr cdv s1 H1) [] (start [cn,cau,en,mk] [.ref f]) H1 s2:=vD (us:=[.ref f]) (vs:=[.ref f]) Sc hr.hd e0 rfl (.cons rfl .nil) z;have hr1:cL (k+1) (xW X [cn,cau,en,mk] fn st fr cdv s1 H1).A:=hr.deeper _;rw[hbody];refine UE (Te (Ag (X:=xW X [cn,cau,en,mk] fn st fr cdv s1 H1) (i:=1) Sc.nd rfl (.inl l1) Ff (sw1 _) (.inl rfl) [] s2 _ H1
  {nx:=λσ' H2=>σ'=[some (.ref f),some .cq,none,none]/\H2=H1,rt:=λ_ _=>False,bk:=λ_ _=>False,ct:=λ_ _=>False} Ir ⟨rfl,rfl⟩) (λfl s3 q=>?_) λe s' hq=>hq)
 cases fl with
 | ret v=>obtain⟨_,_,_,_,_,q⟩:=q;exact q.elim
 | brk=>obtain⟨_,_,_,q⟩:=q;exact q.elim
 | cont=>obtain⟨_,_,_,q⟩:=q;exact q.elim
 | next=>
 obtain⟨σ3,H3,I3,rfl,rfl⟩:=q;have fin:∀{s':Shared} {σ':L2.St} {H':Hp} {v:V} {u:Value},Inv (xW X [cn,cau,en,mk] fn st fr cdv s1 H3) [] σ' H' s'->RelV v u->Q v H'->CE X.stack X.prog X.w H3 s1 Q u s':=
  λ{s' σ' H' v u} J rv q=>⟨v,H',J.os,J.bare,J.base,J.bg,rv,q⟩
 have tl:∀{s4:Shared} {σ4:L2.St} {H4:Hp} {ρ4:Ad} {δ4:DS} {h4:MH} {d4:D} {h5:MH},Inv (xW X [cn,cau,en,mk] fn st fr cdv s1 H3) [] σ4 H4 s4->cy X.K ρ4 H4 σ4 δ4->bN X.K ρ4 h4 H4->(mt δ4 h4).bind yj=some (d4,h5)->(∀v H',dy X.K ρ4 H4 h5 d4 v H'->Q v H')->
   wpAny (model X.prog X.w) (xW X [cn,cau,en,mk] fn st fr cdv s1 H3).A (execs tail (xW X [cn,cau,en,mk] fn st fr cdv s1 H3).env) (λfl s'=>CR nU X.stack X.prog X.w H3 s1 Q (λ_ _ _=>False) (.ok (.ret (match fl with | .ret v=>v | _=>.none))) s') (xW X [cn,cau,en,mk] fn st fr cdv s1 H3).xe s4:=λ{s4 σ4 H4 ρ4 δ4 h4 d4 h5} I4 R4 S4 e4 k4=>by
  obtain⟨⟨fl,δ5,h6⟩,e5,e6⟩:=bw e4;refine Te (htail cdv X.A X.stack s1 H3 (λ_ _ _=>False) hr1 [] s4 σ4 H4 {nx:=λ_ H'=>Q .cq H',rt:=Q} (I4.qV _) ⟨ρ4,δ4,h4,fl,δ5,h6,R4,S4,e5,λρ6 H6 T6 S6=>?_⟩) (λf' s' hs=>?_) λe s' hq=>hq.elim
  ·cases fl with
   | nx=>cases e6;exactλσ' R'=>k4 _ _ ⟨ρ6,T6,S6,.cq⟩
   | rt d=>cases e6;exactλv r=>k4 _ _ ⟨ρ6,T6,S6,r⟩
   | bk=>cases e6
   | ct=>cases e6
  ·cases f' with
   | ret u=>obtain⟨v,σ',H',J,rv,q⟩:=hs;exact fin J.g6 rv q
   | next=>obtain⟨σ',H',J,q⟩:=hs;exact fin (v:=V.cq) (u:=Value.none) J.g6 rfl q
   | brk=>obtain⟨_,_,_,q⟩:=hs;exact False.elim q
   | cont=>obtain⟨_,_,_,q⟩:=hs;exact False.elim q
 have run:∀{t:TE} {Qn:VK} {E1:XK},(∀q cd,PE (Ja (iK X.prog X.w) X.prog X.w X.K X.mg X.base Nl q scope (gc X.env scope.names []) f cd (xW X [cn,cau,en,mk] fn st fr cdv s1 H3).A (xW X [cn,cau,en,mk] fn st fr cdv s1 H3).stack s3 H3 E1) body t)->t (jP caps σ) H3 Qn->
   wpAny (model X.prog X.w) (xW X [cn,cau,en,mk] fn st fr cdv s1 H3).A (execs [.Expr (.Call (.Name cn p1) [] [] p2) p3] (xW X [cn,cau,en,mk] fn st fr cdv s1 H3).env) (λf' s'=>f'=.next/\∃H',Inv (xW X [cn,cau,en,mk] fn st fr cdv s1 H3) [] [some (.ref f),some .cq,none,none] H' s'/\∃v,Qn v H') (λe s'=>iK X.prog X.w (xW X [cn,cau,en,mk] fn st fr cdv s1 H3).stack H3 s3 E1 e s') s3:=λ{t Qn E1} hb ht=>by
  obtain⟨qn,c',ctv',oc',vs',q',tk',f1,f2,f3,f4⟩:=Fl.ex;obtain⟨hof,_⟩:=(show bS X.prog X.w H3 s3.heap f _ from I3.bg f _ f1);refine UE (wpAny_Expr_any (Mn (X:=(xW X [cn,cau,en,mk] fn st fr cdv s1 H3)) (i:=0) I3 rfl (.inl l0) rfl hof rfl (wpAny_call (Vv (FQ LS hp I3.Mp hr1.hd hr1.depth Fl (Cl1.keep λb o n e=>⟨I3.base.any e n (λz=>nomatch z),n⟩) hb ht) λr s' hq=>?_)) n0 n0') I3.quiet (sw3 _));cases r with
  | error e=>exact hq
  | ok fl=>
   cases fl with
   | ret u=>
    obtain⟨v,H',I',_,q⟩:=I3.after hq;exact Vp ⟨rfl,H',I',v,q⟩
   | next=>exact False.elim hq
   | brk=>exact False.elim hq
   | cont=>exact False.elim hq
 have hz:∀b,s3.heap.get? b=none->s1.heap.get? b=none:=λb hb=>by
  cases q:s1.heap.get? b with
  | none=>rfl
  | some o=>obtain⟨o',e⟩:=I3.base.there b o q (λz=>nomatch z);rw[hb] at e;cases e
 have hrl:∀(q:Str)(cd:Value),cL k ((xW X [cn,cau,en,mk] fn st fr cdv s1 H3).A.deeper (envX q scope s3.heap.objs.size f cd (gc X.env scope.names []))):=λq cd=>hr1.deeper _;unfold fI at ee;cases hq:x (fK caps δ) h with
 | some p=>
  obtain⟨c,h1⟩:=p;rw[hq] at ee;dsimp only at ee
  by_cases hc:c∈cls
  ·rw[Si hc] at ee;obtain⟨⟨d4,h5⟩,e4,e6⟩:=bw ee;obtain⟨D,bm,bmC,mD,gD,hob,hb1,hb2⟩:=(hC c hc).ex;refine UE (D5 (X:=(xW X [cn,cau,en,mk] fn st fr cdv s1 H3)) (rest:=X.stack) (L:=s1.heap.objs.size) (E1:=λC _ H'=>∃ρ',X.mg c=some C/\cT ρ H3 ρ' H'/\bN X.K ρ' h1 H') (Qn:=λH'=>∃v:V,(λ_ _=>False:VK) v H') I3 rfl rfl Sc.nd rfl rfl l1 l2 lg hms (sw2 _) n2 n2'
    (run (t:=λσ H _=>Ph X.K X.mg (λC _ H'=>∃ρ',X.mg c=some C/\cT ρ H3 ρ' H'/\bN X.K ρ' h1 H') x σ H) (Qn:=λ_ _=>False) (E1:=(λC _ H'=>∃ρ',X.mg c=some C/\cT ρ H3 ρ' H'/\bN X.K ρ' h1 H')) (λq cd=>hx q cd f _ _ _ s3 H3 _ (hrl q cd)) ⟨ρ,_,h,c,h1,R1,S1,hq,λC ρ' H' m T S=>⟨ρ',m,T,S⟩⟩) (λC H' hh=>?_) hz (λs4 H4 _ hh=>?_) λs4 H4 y D4 I4 hh hn=>?_)
   ·obtain⟨ρ',m,_⟩:=hh;rw[mD] at m;cases m;exact⟨D,bm,bmC,rfl,hob,hb1,hb2⟩
   ·obtain⟨_,q⟩:=hh;exact q.elim
   ·obtain⟨ρ',m,T,S4⟩:=hh;rw[mD] at m;cases m;have S5:bN X.K (ρ'.more y) (h1++[.exc c]) (upd H4 y (.BU λ_ h=>zI h y D)):=S4.made hn ⟨D,gD,aO⟩;refine Te (tl I4 (ρ4:=ρ'.more y) (δ4:=[none,some (.ob h1.length),none,none]) ⟨rfl,λi d hd=>?_⟩ S5 e4 λv H' pp=>?_) (λ_ _ q=>q) λ_ _ q=>q
    ·match i,hd with
     | 0,hd=>cases hd
     | 1,hd=>cases hd;exact⟨.ref y,rfl,.ob (by show(ρ'.ob++[y])[h1.length]?=_;rw[<-S4.len];simp)⟩
     | 2,hd=>cases hd
     | 3,hd=>cases hd
     | _+4,hd=>cases hd
    ·obtain⟨ρ6,T6,S6,r6⟩:=pp;have p2:dy X.K ρ' H4 h5 d4 v H':=⟨ρ6,(cT.made S4 hn).trans T6,S6,r6⟩;obtain⟨ρ7,T7,S7,r7⟩:=p2.leave S4 e6;exact kq v H' ⟨ρ7,(T1.trans T).trans T7,S7,r7⟩
  ·rw[Sv hc] at ee;cases ee
 | none=>
  rw[hq] at ee;dsimp only at ee;obtain⟨⟨d1,h1⟩,e1,e2⟩:=bw ee;obtain⟨⟨d4,h5⟩,e4,e6⟩:=bw e2;refine UE (D5 (X:=(xW X [cn,cau,en,mk] fn st fr cdv s1 H3)) (rest:=X.stack) (L:=s1.heap.objs.size) (E1:=λ_ _ _=>False) (Qn:=λH'=>∃v:V,dy X.K ρ H3 h1 d1 v H') I3 rfl rfl Sc.nd rfl rfl l1 l2 lg hms (sw2 _) n2 n2'
    (run (t:=tM X.K m) (Qn:=dy X.K ρ H3 h1 d1) (E1:=λ_ _ _=>False) (λq cd=>hm q cd f _ _ _ s3 H3 _ (hrl q cd)) ⟨ρ,_,h,d1,h1,R1,S1,e1,λv H' p=>p⟩) (λC H' hh=>hh.elim) hz (λs4 H4 I4 hh=>?_) λs4 H4 y D4 I4 hh hn=>hh.elim)
  obtain⟨v0,ρ',T,S4,r0⟩:=hh;refine Te (tl I4 (ρ4:=ρ') (δ4:=[none,some .cq,none,none]) ⟨rfl,λi d hd=>?_⟩ S4 e4 λv H' pp=>?_) (λ_ _ q=>q) λ_ _ q=>q
  ·match i,hd with
   | 0,hd=>cases hd
   | 1,hd=>cases hd;exact⟨.cq,rfl,.cq⟩
   | 2,hd=>cases hd
   | 3,hd=>cases hd
   | _+4,hd=>cases hd
  ·obtain⟨ρ7,T7,S7,r7⟩:=dy.leave S4 pp e6;exact kq v H' ⟨ρ7,(T1.trans T).trans T7,S7,r7⟩
end
structure EX(K:Frag)(mg:Str->Option Value)(tb:List (Str×List Str))(ns:List Str):Prop where
 own:∀c as,tb.lookup c=some as->∃D,mg c=some (.ref D)/\Mf K c=some (.ref D)/\XQ K D/\(clsIn K D).isSome=true/\(∀n∈ns,∃N,mg n=some (.ref N)/\kitOne K (.ref D) (.ref N)=some (decide (n∈as)))/\kitOne K (.ref D) (.type "ValueError")=some true
noncomputable def oS(tb:List (Str×List Str))(n:Str)(m:EM):EM:=λδ h=>(m δ h).bind λp=>match p.1 with
 | .ob k=>match p.2[k]? with
  | some (.exc c)=>(tb.lookup c).map λas=>(.bl (decide (n∈as)),p.2)
  | _=>none
 | _=>none
section
variable {X:Cx} {a b:Expr} {m:EM} {tb:List (Str×List Str)} {ns:List Str} {n:Str} {pn pb pos:Pos}
theorem Mc{ρ:Ad}{H:Hp}{h:MH}{k:Nat}{c:Str}{v:V}(S:bN X.K ρ h H)(r:Rep X.K ρ H v (.ob k))(e:h[k]?=some (.exc c)):∃x C,v=.ref x/\Mf X.K c=some (.ref C)/\H x=some (.BU λ_ h=>zI h x C):=by
 cases r with
 | ob er=>
  obtain⟨C,g,x⟩:=S.at_ _ _ _ er e;exact⟨_,C,rfl,g,x⟩
theorem GD:fY X (.builtin "isinstance") (λvs H Q=>∃x D cv b,vs=[.ref x,cv]/\H x=some (.BU λ_ h=>zI h x D)/\XQ X.K D/\(clsIn X.K D).isSome=true/\(∀u,RelV cv u->kitOne X.K (.ref D) u=some b)/\Q (.bl b) H):=by
 intro pins s σ H vs us Q I r ⟨x,D,cv,b,e,hx,xq,hcl,hk,q⟩;subst e;obtain⟨u1,u2,rfl,r1,r2⟩:=Vals.two r;obtain rfl:u1=Value.ref x:=r1;obtain⟨⟨o,f1,f2⟩,_,_⟩:=(show bS X.prog X.w H s.heap x _ from I.bg x _ hx);exact AE xq hcl I.pU ⟨o,f1,f2⟩ (hk u2 r2) λtk=>⟨.bl _,H,I.tok tk,rfl,q⟩
theorem uP{cv:V}(ha:SE X a m)(hb:PE X b (tC cv))(hk:∀c as,tb.lookup c=some as->∃D,Mf X.K c=some (.ref D)/\XQ X.K D/\(clsIn X.K D).isSome=true/\∀u,RelV cv u->kitOne X.K (.ref D) u=some (decide (n∈as)))
  (hg:Gl X "isinstance") (hm:X.mg "isinstance"=none) (he:starEach [a,b] X.env=(false,eval a X.env)::starEach [b] X.env) (he2:starEach [b] X.env=[(false,eval b X.env)]) (hpl:(backTo pos (starEach [b] X.env)).any (·.1)=false):
  SE X (.Call (.Name "isinstance" pn) [a,b] [] pos) (oS tb n m):=
 (yD (GD (X:=X)) hg hm boot_isinstance (wV ha (wV hb Fo he2) he) (by decide) (by decide) he hpl).imp λσ H Q ⟨ρ,δ,h,d,h',R,S,ee,kq⟩=>by
  obtain⟨⟨d1,h1⟩,e1,e2⟩:=bw ee;cases d1 with
  | ob k=>
   dsimp only at e2;cases hq:h1[k]? with
   | none=>rw[hq] at e2;cases e2
   | some o=>
    rw[hq] at e2;cases o with
    | exc c=>
     obtain⟨as,e3,e4⟩:=gB e2;cases e4;obtain⟨D,gD,xq,hcl,hkit⟩:=hk c as e3;refine⟨ρ,δ,h,.ob k,_,R,S,e1,λv H1 ⟨ρ1,T1,S1,rv⟩=>?_⟩;obtain⟨x,C,rfl,gC,hx⟩:=Mc S1 rv hq;rw[gD] at gC;cases gC;exact⟨x,D,cv,_,rfl,hx,xq,hcl,hkit,kq _ _ ⟨ρ1,T1,S1,.bl _⟩⟩
    | _=>cases e2
  | _=>cases e2
theorem KN(E:EX X.K X.mg tb ns)(ha:SE X a m)(h0:∃c as,tb.lookup c=some as)(hn:n∈ns)(hgn:Gl X n)(hg:Gl X "isinstance")(hm:X.mg "isinstance"=none)(hd:(n==("__debug__":Str))=false)(he:starEach [a,.Name n pb] X.env=(false,eval a X.env)::starEach [.Name n pb] X.env)(he2:starEach [.Name n pb] X.env=[(false,eval (.Name n pb) X.env)])
  (hpl:(backTo pos (starEach [.Name n pb] X.env)).any (·.1)=false):SE X (.Call (.Name "isinstance" pn) [a,.Name n pb] [] pos) (oS tb n m):=by
 obtain⟨c0,as0,e0⟩:=h0;obtain⟨_,_,_,_,_,h5,_⟩:=E.own c0 as0 e0;obtain⟨N,mN,_⟩:=h5 n hn;refine uP (cv:=.ref N) ha (Bx hgn mN rfl hd) (λc as e=>?_) hg hm he he2 hpl;obtain⟨D,mD,gD,xq,hcl,h5,_⟩:=E.own c as e;obtain⟨N',mN',hk⟩:=h5 n hn;rw[mN] at mN';cases mN';exact⟨D,gD,xq,hcl,λu ru=>by cases(show u=Value.ref N from ru);exact hk⟩
theorem Hv(E:EX X.K X.mg tb ns)(ha:SE X a m)(hv:∀c as,tb.lookup c=some as->decide (("ValueError":Str)∈as)=true)(hgn:Gl X "ValueError")(hmn:X.mg "ValueError"=none)(hg:Gl X "isinstance")(hm:X.mg "isinstance"=none)
  (he:starEach [a,.Name "ValueError" pb] X.env=(false,eval a X.env)::starEach [.Name "ValueError" pb] X.env) (he2:starEach [.Name "ValueError" pb] X.env=[(false,eval (.Name "ValueError" pb) X.env)])
  (hpl:(backTo pos (starEach [.Name "ValueError" pb] X.env)).any (·.1)=false):SE X (.Call (.Name "isinstance" pn) [a,.Name "ValueError" pb] [] pos) (oS tb "ValueError" m):=by
 refine uP (cv:=.ty "ValueError") ha (BA hgn hmn (u:=.type "ValueError") (by ac_nf) rfl) (λc as e=>?_) hg hm he he2 hpl;obtain⟨D,mD,gD,xq,hcl,_,h6⟩:=E.own c as e;exact⟨D,gD,xq,hcl,λu ru=>by cases(show u=Value.type "ValueError" from ru);rw[hv c as e];exact h6⟩
end
noncomputable def BJ:Cf:=λd ds h=>match ds with
 | [x]=>(dR d h).bind λys=>(Bt h x).bind λp=>(mG ys).bind λbs=>if p.depth<=60/\PyData.depthAll bs<=60 then some (D.int (Int.ofNat (bs.countP λb=>PyData.eqv b p)),h) else none
 | _=>none
theorem Ds{h:Heap}{f:Value->Bool}{p:PyData}:∀{us:List Value} {ds:List PyData} {as:List Addr},ReadsAll h us ds as->(∀u d as,u∈us->Reads h u d as->d∈ds->f u=PyData.eqv d p)->us.countP f=ds.countP λb=>PyData.eqv b p:=by
 intro us
 induction us with
 | nil=>intro ds as r _;cases r;rfl
 | cons v us ih=>
  intro ds as r hf;cases r with | cons r l=>
  rw[List.countP_cons,List.countP_cons,hf _ _ _ Sk r Sk,ih l λu d as hu hr hd=>hf u d as (Sq _ hu) hr (Sq _ hd)]
theorem CU{X:Cx}(hu:X.A.units+64 < cLine):Ce X "list.count" (rM X.K BJ):=by
 intro pins s σ H x xs v us Q I rx rs hh;obtain⟨ρ,h,d,ds,z,h',S,rd,l,ee,k⟩:=hh
 match ds,l,ee with
 | [],_,ee=>exact b7 ee
 | _::_::_,_,ee=>exact b7 ee
 | [y],l,ee=>
  obtain⟨ys,e1,e2⟩:=bw ee;obtain⟨p,e3,e4⟩:=bw e2;obtain⟨bs,e5,e6⟩:=bw e4
  by_cases w:p.depth<=60/\PyData.depthAll bs<=60
  ·rw[Si w] at e6;cases e6;obtain⟨a,vs,rfl,ha,l1⟩:=dI S rd e1;obtain rfl:v=Value.ref a:=rx;obtain⟨yv,rfl,ry⟩:=rep1 l;obtain⟨u,rfl,ru⟩:=Vals.one rs;obtain⟨r1,c1⟩:=mF S ry e3;obtain⟨r2,c2⟩:=l1.uu e5;obtain⟨as,ra⟩:=r1.reads I ru;obtain⟨its,rv,pl,hz⟩:=I.list (.inl (.inl ha));obtain⟨bs',rb⟩:=r2.reads I rv;have hj:=Ds (f:=BV s.heap p) rb λu d as _ hr hd=>oQ hr (cC c2 hd);have key:∀y,y∈its.toArray->PySem.SeqAt.EqAt X.A.in1 s y u (BV s.heap p y):=by
    intro y hy;obtain⟨d,as',hr,hd⟩:=j8 rb y (by simpa using hy);rw[oQ hr (cC c2 hd)];refine Vk d p _ s y u as' as hr ra (cC c2 hd) c1 ?_;have h1:=kA hd;have h2:min d.depth p.depth<=d.depth:=V2 _ _;show X.A.units+1+min d.depth p.depth < cLine;have h3:=w.2
    lia
   obtain⟨o,n,g,o1,o2,o3⟩:=pl;obtain⟨oc,od,oda,os⟩:=o;dsimp only at o1 o2 o3;subst o1 o2 o3;refine Vf WT ⟨_,g,rfl⟩ PySem.F.entry_list_count (PySem.F.args_list_count_2 _ _)
    (PySem.SeqAt.list_countAt a its.toArray n none os u (BV s.heap p)) ⟨g,key,?_⟩
   exact⟨.int _,H,I.kept (t':=s.toks+1) λ_ _ e=>e,⟨s.toks,by rw[<-hj];rfl⟩,k _ _ (.here S (.int _))⟩
  ·rw[Sv w] at e6;cases e6
end Sm
namespace Hd
open PySem PySem.W PySem.Spec PyProof.Rows L2 Sm
section
variable {h:Heap}
theorem LJ{ns:Addr}{name:Str}{r:Option Value}(e:vp h ns name=some r):nsIn (aE h) ns name=some r:=by
 unfold vp at e;unfold nsIn
 split at e
 ·rename_i c d es n sl ho;rw[bG ho (gW λvs z=>by cases z)];exact e
 ·cases e
theorem Il{v:Value}{name:Str}{r:Option Value}(e:jG h name v=some r):ownIn (aE h) name v=some r:=by
 cases v with
 | ref a=>
  unfold jG at e;unfold ownIn;dsimp only at e ⊢
  split at e
  ·rename_i c d cd sl ho;rw[bG ho (gW λvs z=>by cases z)];exact LJ e
  ·cases e
 | _=>exact e
theorem vU{name:Str}{r:Option Value}:∀{vs:List Value},cH h name vs=some r->alongIn (aE h) name vs=some r
 | [],e=>e
 | c::vs,e=>by
  unfold cH at e;unfold alongIn;cases q:jG h name c with
  | none=>rw[q] at e;cases e
  | some w=>
   rw[q] at e;rw[Il q];cases w with
   | some v=>exact e
   | none=>exact vU (vs:=vs) e
theorem qQ{c:Str}{C:Addr}{cd:ClassData}(e:clsAt h c=some (C,cd)):h.nsMap mainGlobals c=some (.ref C)/\∃d sl,(aE h).lookup C=some ⟨.type "type",d,.cls cd,sl⟩:=by
 unfold clsAt at e
 split at e
 ·rename_i C' hg
  split at e
  ·rename_i d cd' sl ho;cases e;exact⟨hg,d,sl,bG ho (gW λvs z=>by cases z)⟩
  ·cases e
 ·cases e
theorem OP{mg:Str->Option Value}{c:Str}{v:Value}(g:h.Ns mainGlobals mg)(e:mg c=some v):Mf (aE h) c=some v:=by
 obtain⟨o,es,ep,ho,hd,sk,hm⟩:=g;unfold Mf;rw[bG ho (gW λvs z=>by rw[hd] at z;cases z)];dsimp only;rw[hd];dsimp only;rw[<-hm c] at e;unfold nsFind findBy at e;rw[<-Xq] at e;rw[show(λe:DictEntry=>e.key.isStr c)=λe=>Value.isStrOf c e.key from funext λx=>by cases x.key <;> rfl] at e;exact e
theorem xh{o:Obj}(hd:∀vs,o.data≠.fields vs){a:Addr}{base:Heap}(X:(aE h).In base)(e:h.get? a=some o):base.get? a=some o:=X _ _ (bG e (gW hd))
theorem BG{base:Heap}(X:(aE h).In base){N:Addr}{m:Str->Option Value}(x:h.Ns N m):base.Ns N m:=by
 obtain⟨o,es,ep,ho,hd,r⟩:=x;exact⟨o,es,ep,xh (λvs z=>by rw[hd] at z;cases z) X ho,hd,r⟩
theorem Cq{base:Heap}(X:(aE h).In base){bmB tl:List Value}(T:OwnTail h bmB tl):OwnTail base bmB tl:=by
 induction T with
 | base=>exact .base
 | own hA hN hni _ ih=>exact .own (xh (λvs z=>by cases z) X hA) (BG X hN) hni ih
abbrev D2:List Value:=[.type "ValueError",.type "Exception",.type "BaseException",.type "object"]
section
variable {q:Program} {loose:List Str} {mean:ExcName->Option Value} {mg mb:Str->Option Value} {c:Str}
theorem Be{base:Heap}(T:Top q loose mean mg mb h)(hs:specOf q c=some ("ValueError.__new__",D2))(X:(aE h).In base):∃C,DE mg base c C:=by
 obtain⟨C,O,_⟩:=T.ownAt hs;have O:=O.own;obtain⟨bm,N,nm,q',bs,hdct,sn,sub,ab,col,dd,k0,k1,k2,k3,k5,mN,hC,hN,hni,T'⟩:=O.obj;exact⟨C,⟨O.bound,bm,N,nm,q',bs,hdct,sn,sub,ab,col,dd,k0,k1,k2,k3,k5,mN,xh (λvs z=>by cases z) X hC,BG X hN,hni,Cq X T'⟩⟩
theorem wG{cs ns:List Str}{tab:List (Option (List (Option Bool)))}(Y:qw h cs ns=tab){i:Nat}(hi:cs[i]?=some c){r:List (Option Bool)}(hr:tab[i]?=some (some r)):kT h ns c=some r:=by
 subst Y;unfold qw at hr;rw[SK,hi] at hr;exact Option.some.inj hr
theorem tq{ns:List Str}{r:List (Option Bool)}(e:kT h ns c=some r):∃C cd,clsAt h c=some (C,cd)/\cH h "__getattribute__" cd.mro=some (some (.builtin "BaseException.__getattribute__"))/\cH h "__getattr__" cd.mro=some none/\cH h "__class__" cd.mro=some (some (.builtin "object.__class__"))/\
  cd.mro.contains (.type "object")=true/\cd.mro.contains (.type "BaseException")=true/\cd.mro.contains (.type "ValueError")=true/\cd.mro.contains (.ref C)=true/\r=ns.map (isAt h cd):=by
 unfold kT at e;obtain⟨⟨C,cd⟩,e1,e2⟩:=Vi.mp e;dsimp only at e2
 split at e2
 ·rename_i hh;simp only[Tf] at hh;cases e2;exact⟨C,cd,e1,Ux.mp hh.1.1.1.1.1.1,Ux.mp hh.1.1.1.1.1.2,Ux.mp hh.1.1.1.1.2,hh.1.1.1.2,hh.1.1.2,hh.1.2,hh.2,rfl⟩
 ·cases e2
theorem BH{C:Addr}{cd:ClassData}{d:Option Addr}{sl:Array (Option Value)}(lk:(aE h).lookup C=some ⟨.type "type",d,.cls cd,sl⟩){v:Value}{b:Bool}(e:cd.mro.contains v=b)(hn:cd.mro.contains (.type "object")=true):mroIn (aE h) C v=some b:=by
 have hc:clsIn (aE h) C=some cd:=by unfold clsIn;rw[lk]
 unfold mroIn;rw[hc];show(if cd.mro.isEmpty then none else some (cd.mro.contains v))=some b;rw[Sv (λz=>by rw[List.isEmpty_iff.mp z] at hn;cases hn),e]
theorem mg_of{mg:Str->Option Value}{n:Str}{v:Value}(g:h.Ns mainGlobals mg)(e:h.nsMap mainGlobals n=some v):mg n=some v:=by
 obtain⟨o,es,ep,g1,g2,_,g3⟩:=g;rw[<-g3 n,<-e];unfold Heap.nsMap;rw[g1];dsimp only;rw[g2]
theorem OT{tb:List (Str×List Str)}{ns:List Str}(T:Top q loose mean mg mb h)(Y:qw h (tb.map (·.1)) ns=tb.map λp=>some (ns.map λn=>some (decide (n∈p.2)))):EX (aE h) mg tb ns:=by
 refine⟨λc as e=>?_⟩;obtain⟨i,hi⟩:=V8 (Ti e);have hr:=wG (c:=c) Y (i:=i) (by rw[SK,hi];rfl) (r:=ns.map λn=>some (decide (n∈as))) (by rw[SK,hi];rfl);obtain⟨D,cd,hc,a1,a2,a3,b1,b2,b3,b4,hn⟩:=tq hr;obtain⟨g,d,sl,lk⟩:=qQ hc;have mD:=mg_of T.g g;have hcl:clsIn (aE h) D=some cd:=by unfold clsIn;rw[lk]
 have fi:∀{nm:Str} {r:Option Value},cH h nm cd.mro=some r->findIn (aE h) (.ref D) nm=some r:=λ{nm r} e=>by
  unfold findIn;dsimp only;rw[lk];exact vU e
 refine⟨D,mD,OP T.g mD,⟨fi a1,fi a2,fi a3,BH lk b1 b1,BH lk b2 b1⟩,by rw[hcl];rfl,λn hnn=>?_,?_⟩
 ·have hx:=Xy.mp hn n hnn;obtain⟨⟨N,cdN⟩,e1,e2⟩:=SR.mp hx.symm;obtain⟨gN,dN,slN,lkN⟩:=qQ e1;refine⟨N,mg_of T.g gN,?_⟩;dsimp only at e2;unfold kitOne
  by_cases z:N=D
  ·subst z;rw[Si (by simp),<-e2,b4]
  ·rw[Sv (by simpa using λy=>z y.symm)];unfold kitCls;dsimp only;rw[Si (by
    have:clsIn (aE h) N=some cdN:=by unfold clsIn;rw[lkN]
    have t2:typeIn (aE h) (.ref N)=some (.type "type"):=by unfold typeIn;dsimp only;rw[lkN];rfl
    rw[this,t2];rfl)]
   rw[<-e2];exact BH lk rfl b1
 ·unfold kitOne;rw[Sv (by simp)];unfold kitCls;dsimp only;rw[Si (by decide+kernel)];exact BH lk b3 b1
theorem Ng{tb:List (Str×List Str)}{ns:List Str}{i1 i2:String}{CS:Addr}(T:Top q loose mean mg mb h)(Y:qw h (tb.map (·.1)) ns=tb.map λp=>some (ns.map λn=>some (decide (n∈p.2))))(mS:mg "StuckError"=some (.ref CS))(hS:specOf q "StuckError"=some (i2,D2))(hn:("StuckError":Str)∈ns)
  (hs:specOf q c=some (i1,D2)) (he:∃as,tb.lookup c=some as/\("StuckError":Str)∈as):XC (aE h) mg CS c:=by
 obtain⟨as,e,hm⟩:=he;obtain⟨i,hi⟩:=V8 (Ti e);have hr:=wG (c:=c) Y (i:=i) (by rw[SK,hi];rfl) (r:=ns.map λn=>some (decide (n∈as))) (by rw[SK,hi];rfl);obtain⟨D,cd,hc,_,_,_,_,b2,_,_,hnn⟩:=tq hr;obtain⟨g,d,sl,lk⟩:=qQ hc;have mD:=mg_of T.g g;have hx:=Xy.mp hnn _ hn;obtain⟨⟨N,cdN⟩,e1,e2⟩:=SR.mp hx.symm;obtain⟨gN,_⟩:=qQ e1;have mN:=mg_of T.g gN;rw[mS] at mN;cases mN;obtain⟨C1,O1,_⟩:=T.ownAt hs;obtain⟨C2,O2,_⟩:=T.ownAt hS;have z1:=O1.bound;rw[mD] at z1;cases z1;have z2:=O2.bound;rw[mS] at z2;cases z2;obtain⟨bm1,N1,nm1,q1,bs1,hd1,sn1,sb1,ab1,col1,dd1,k10,k11,k12,k13,k15,mN1,hC1,_,_,T1⟩:=O1.obj;obtain⟨bm2,N2,nm2,q2,bs2,hd2,sn2,sb2,ab2,col2,dd2,k20,k21,k22,k23,k25,mN2,hC2,_,_,T2⟩:=O2.obj;have l1:=bG hC1 (gW λvs z=>by cases z);have l2:=bG hC2 (gW λvs z=>by cases z);rw[lk] at l1;refine⟨D,bm1,bm2,mD,OP T.g mD,λh' X=>⟨⟨_,_,_,_,_,_,_,_,_,_,_,_,_,_,_,_,X _ _ (bG hC1 (gW λvs z=>by cases z))⟩,⟨_,_,_,_,_,_,_,_,_,_,_,_,_,_,_,_,X _ _ l2⟩⟩,T2.tail.hasType (by decide),?_⟩;have ec:cd.mro=.ref D::bm1:=by injection l1 with l1;injection l1 with _ _ l1 _;injection l1 with l1;rw[l1]
 rw[<-ec];dsimp only at e2;rw[e2];exact Tb hm
theorem IF{n:Str}{st:Stmt}{f:Addr}{fd:FuncData}(T:Top q loose mean mg mb h)(e:(recsOf q).find? (λe=>e.name==n)=some (mE n st))(F:t9 (aE h) n n st f fd)(m:mg n=some (.ref f)):∃P,DH (aE h) mg fd.code P:=by
 obtain⟨a,o,fd',c,P,m',ho,hd,hcd,hi,ht⟩:=T.tab _ (WL e);have m':mg n=some (.ref a):=m';rw[m] at m';cases m';obtain⟨oc,od,kV,doc,pm,an,cdv,ct,osl,rfl,lk,_⟩:=F.ex;have lk2:=bG ho (gW λvs z=>by rw[hd] at z;cases z);rw[lk] at lk2;cases lk2;cases hd;obtain⟨oC,vs,file,tf,flags,tg,inF,text,tt,op,f1,f2,f3,f4,f5,f6,f7,_,_,_,f11⟩:=hi;obtain⟨⟨oC',vs',g1,g2,g3,g4⟩,hP⟩:=ht;rw[f1] at g1;cases g1;rw[f2] at g3;cases g3;obtain⟨bm,ob,b1,b2,b3,b4,b5,b6⟩:=T.bmain;refine⟨P,⟨c,oC,vs,file,tf,flags,tg,inF,text,tt,hcd,bG f1 (F5 f2 g4),g2,f2,g4,f3,f4,f5,f6,f7,f11⟩,?_,⟨bm,ob,b1,b2,bG b3 (gW λvs z=>by rw[b6] at z;cases z),b4,b5,b6⟩⟩;have hin:.ref P∈zQ h:=by
  refine Uy.mpr ⟨c,UR.mpr (SJ f1),?_⟩;obtain⟨k0,k1,k2,k3⟩:=oC;dsimp only at g2 f2;subst g2 f2;simp[qO,f1,g4,hP,lF]
 unfold aE;have hs:((uF h).lookup mainGlobals).isSome=true:=by
  obtain⟨o,es,ep,g1,g2,_⟩:=T.g;rw[<-km,bG g1 (gW λvs z=>by rw[g2] at z;cases z)];rfl
 rw[Si hs];exact⟨_,So _ (Sz.mpr rfl),by simpa using hin⟩
end
end
section
variable {h h':Heap}
theorem FA(k:Sub h h'){n:Str}{v:Value}(e:h.nsMap mainGlobals n=some v):h'.nsMap mainGlobals n=some v:=by
 unfold Heap.nsMap at e ⊢
 split at e
 ·rename_i o ho;rw[k _ _ ho];exact e
 ·cases e
theorem zp(k:Sub h h'){c:Str}{p:Addr×ClassData}(e:clsAt h c=some p):clsAt h' c=some p:=by
 unfold clsAt at e ⊢
 split at e
 ·rename_i C' hg;rw[FA k hg];dsimp only
  split at e
  ·rename_i d cd' sl ho;rw[k _ _ ho];exact e
  ·cases e
 ·cases e
theorem CK(k:Sub h h'){ns:Addr}{name:Str}{r:Option Value}(e:vp h ns name=some r):vp h' ns name=some r:=by
 unfold vp at e ⊢
 split at e
 ·rename_i c d es n sl ho;rw[k _ _ ho];exact e
 ·cases e
theorem Fq(k:Sub h h'){v:Value}{name:Str}{r:Option Value}(e:jG h name v=some r):jG h' name v=some r:=by
 cases v with
 | ref a=>
  unfold jG at e ⊢;dsimp only at e ⊢
  split at e
  ·rename_i c d cd sl ho;rw[k _ _ ho];exact CK k e
  ·cases e
 | _=>exact e
theorem i7(k:Sub h h'){name:Str}{r:Option Value}:∀{vs:List Value},cH h name vs=some r->cH h' name vs=some r
 | [],e=>e
 | c::vs,e=>by
  unfold cH at e ⊢;cases q:jG h name c with
  | none=>rw[q] at e;cases e
  | some w=>
   rw[q] at e;rw[Fq k q];cases w with
   | some v=>exact e
   | none=>exact i7 k (vs:=vs) e
theorem ED(k:Sub h h'){ns:List Str}{c:Str}{bs:List Bool}(e:kT h ns c=some (bs.map some)):kT h' ns c=some (bs.map some):=by
 obtain⟨C,cd,hc,a1,a2,a3,b1,b2,b3,b4,hn⟩:=tq e;unfold kT;rw[zp k hc];show(if _ then some (ns.map (isAt h' cd)) else none)=_;rw[Si (by rw[i7 k a1,i7 k a2,i7 k a3,b1,b2,b3,b4];rfl)];congr 1;rw[hn];refine Xh λn hnn=>?_;have:∃b,isAt h cd n=some b:=by
  have:isAt h cd n∈bs.map some:=by rw[hn];exact UN hnn
  obtain⟨b,_,e⟩:=Tq.mp this;exact⟨b,e.symm⟩
 obtain⟨b,eb⟩:=this;unfold isAt at eb ⊢;obtain⟨p,e1,e2⟩:=SR.mp eb;rw[e1,zp k e1]
abbrev za(tb:List (Str×List Str))(ns:List Str):List (Option (List (Option Bool))):=tb.map λp=>some (ns.map λn=>some (decide (n∈p.2)))
theorem vG(k:Sub h h'){ns:List Str}:∀{tb:List (Str×List Str)},qw h (tb.map (·.1)) ns=za tb ns->qw h' (tb.map (·.1)) ns=za tb ns
 | [],_=>rfl
 | p::tb,e=>by
  obtain⟨e1,e2⟩:=List.cons.inj (show kT h ns p.1::qw h (tb.map (·.1)) ns=some (ns.map λn=>some (decide (n∈p.2)))::za tb ns from e);have e1:kT h ns p.1=some ((ns.map λn=>decide (n∈p.2)).map some):=by rw[e1,TR];rfl
  show kT h' ns p.1::qw h' (tb.map (·.1)) ns=_;rw[vG k e2,ED k e1,TR];rfl
end
structure Dx(P:Program)(w:World)(K:FR)(mg:Str->Option Value)(base:Heap)(nm:Str)(k:Nat)(ps:List Str)(n:Nat)(F:Xn):Prop where
 ex:∃(f:Addr)(fd:FuncData),eS P w K mg base (iK P w) k f fd ps (NP K mg n F)/\PySem.W.keepIn K (.ref f)=true/\Binds K fd ps []/\mg nm=some (.ref f)
theorem JN{q:Program}{loose:List Str}{mean:ExcName->Option Value}{mg mb:Str->Option Value}{h base:Heap}{P:Program}{w:World}{n:Str}{st:Stmt}{k N:Nat}{ps:List Str}{F:Xn}(T:Top q loose mean mg mb h)(e:(recsOf q).find? (λe=>e.name==n)=some (mE n st))
  (ok:∀{f:Addr} {fd:FuncData},t9 (aE h) n n st f fd->eS P w (aE h) mg base (iK P w) k f fd ps (NP (aE h) mg N F)) (hb:∀{f:Addr} {fd:FuncData},t9 (aE h) n n st f fd->Binds (aE h) fd ps []:=by walk_at "b"):Dx P w (aE h) mg base n k ps N F:=by
 obtain⟨f,fd,m,Fn⟩:=BS T e;exact⟨f,fd,ok Fn,Fn.kp,hb Fn,m⟩
end Hd
namespace Sm
open PySem L2 PySem.Spec PySem.W PySem.Calls PyProof.Rows
section
variable {X:Cx} {E:XK} {e:Expr} {es:List Expr} {m:AM} {nm:Str} {k k' n:Nat} {ps:List Str} {F:Xn} {p pos:Pos}
theorem Rp(d:Hd.Dx X.prog X.w X.K X.mg X.base nm k ps n F)(hr:cL k' X.A)(hp:Passes (iK X.prog X.w) X E)(ha:SA X (e::es) m)(hk:k<=k':=by decide)(hl:kG m n:=by repeat(first | exact aA | refine ah ?_))(hg:Gl X nm:=by unfold Gl;ac_nf)(hdb:(nm==("__debug__":Str))=false:=by ac_nf)(he:starEach (e::es) X.env=(false,eval e X.env)::starEach es X.env:=by ac_nf)(hpl:(backTo pos (starEach es X.env)).any (·.1)=false:=by ac_nf):
  XE X E (.Call (.Name nm p) (e::es) [] pos) (Kj F m):=by
 obtain⟨f,fd,G,kf,bf,mf⟩:=d.ex;exact Ha G hp (hr.mono hk) hg mf kf bf ha hl hdb he hpl
end
theorem P4{X:Cx}{E:XK}{e tg:Expr}{pos:Pos}{x:XM}{g:GM}(he:XE X E e x)(hg:SG X tg g)(hs:swapsWithSole [tg] e pos.line X.env=pure false:=by ac_nf)(hw:swappedStores [tg] e X.env=pure none:=by ac_nf)(h1:(assignEach [tg] X.env).map (·.2)=[assign tg X.env]:=by ac_nf):XS X E (.Assign [tg] e pos) x:=Kg he hs hw h1 hg
section
variable {P:Program} {w:World} {K:FR} {mg:Str->Option Value} {base:Heap} {N:List Str} {qual:Str} {scope:Scope} {f:Addr} {cd:Value} {A:Around} {outer:List Env} {s₀:Shared} {H₀:Hp} {E:XK} {cl:List (Str×Addr)}
theorem Ii:Passes (iK P w) (Ja (iK P w) P w K mg base N qual scope cl f cd A outer s₀ H₀ E) E:=BB (fn:=λ_=>false) (cl:=cl)
theorem PL{nm:Str}{a:Expr}{np cpos pos:Pos}{ma:EM}(O:∃C,DE mg base nm C)(ha:SE (fm (iK P w) P w K mg base N qual scope f cd A outer s₀ H₀ E) a ma)(hg:Gl (fm (iK P w) P w K mg base N qual scope f cd A outer s₀ H₀ E) nm:=by unfold Gl;ac_nf)
  (he:starEach [a] (envOfC qual scope s₀.heap.objs.size f cd)=[(false,eval a (envOfC qual scope s₀.heap.objs.size f cd))]:=by ac_nf) (hdb:(nm==("__debug__":Str))=false:=by ac_nf):
  XS (fm (iK P w) P w K mg base N qual scope f cd A outer s₀ H₀ E) E (.Raise (some (.Call (.Name nm np) [a] [] cpos)) none pos) (kX nm (ag ma aL)):=by
 obtain⟨C,O⟩:=O;exact DO O hg ha he hdb
end
section
variable {P:Program} {w:World} {K:FR} {mg:Str->Option Value} {base:Heap} {x qual:Str} {st:Stmt} {f:Addr} {fd:FuncData} {N ps:List Str} {k:Nat} {body:SM}
theorem IS(F:t9 K x qual st f fd)(hL:∃Pt,DH K mg fd.code Pt)(Sc:aD N ps (ak st))(hb:∀(cdv:Value)(A:Around)(outer:List Env)(s:Shared)(H:Hp)(E:XK),(∃Pt,DH K mg cdv Pt)->cL k (A.deeper (envOfC qual (ak st) s.heap.objs.size f cdv))->DF (fm nU P w K mg base N qual (ak st) f cdv A outer s H E).FC (dq st) body):
  eS P w K mg base nU (k+1) f fd ps (Cv K ps.length (jJ N.length body)):=by
 obtain⟨oc,od,kV,doc,pm,an,cdv,ct,osl,rfl,lk,hcd⟩:=F.ex;refine F2 lk hcd Sc (λvs H Q E h=>?_) λA outer s H vs Q E hr h=>?_
 ·obtain⟨ρ,h,ds,d,h',S,r,hl,_⟩:=h;rw[r.length];exact hl
 ·obtain⟨ρ,h,ds,d,h',S,r,hl,e,q⟩:=h;refine⟨_,xX.FC (hb cdv A outer s H E hL hr),?_⟩;obtain⟨⟨fl,δ1,h1⟩,e1,e2⟩:=bw e;refine⟨ρ,entry N.length ds,h,fl,δ1,h1,cy.entry N r,S,e1,λρ1 H1 T1 S1=>?_⟩;cases fl with
  | nx=>cases e2;exactλσ' R'=>q _ _ ⟨ρ1,T1,S1,.cq⟩
  | rt d=>cases e2;exactλv r=>q _ _ ⟨ρ1,T1,S1,r⟩
  | bk=>cases e2
  | ct=>cases e2
end
structure RB(P:Program)(w:World)(K:Frag)(mg:Str->Option Value)(base:Heap)(fn:Str)(mt:SM)(cls:List Str):Prop where
 ex:∃(fr CS:Addr)(fd:FuncData)(st:Stmt)(cn cau en mk:Str)(tail:List Stmt)(pa pb' pc p1 p2 p3 p4 p5 p6 p7 p8 p9:Pos)(j:Nat),t9 K fn fn st fr fd/\aD [cn,cau,en,mk] [cn] (ak st)/\mg fn=some (.ref fr)/\keepIn K (.ref fr)=true/\
  (∀(s:Shared)(u:Value),BindsTo s fd ⟨[u],[]⟩ [(cn,u)])/\
  (dq st=.Assign [.Name cau pa] (.Constant .none j pb') pc::.Try [.Expr (.Call (.Name cn p1) [] [] p2) p3] [.ExceptHandler (some (.Name "StuckError" p4)) (some en) [.Assign [.Name cau p5] (.Name en p6) p7] p8] [] [] p9::tail)/\
  ((ak st).names.lookup cn=some .local/\(ak st).names.lookup cau=some .local/\(ak st).names.lookup en=some .local/\(ak st).names.lookup ("StuckError":Str)=some .globalImplicit)/\
  (mg "StuckError"=some (.ref CS)/\∀c∈cls,XC K mg CS c)/\
  ((cn==("__debug__":Str))=false/\(cn==("__classdict__":Str))=false/\(en==("__debug__":Str))=false/\(en==("__classdict__":Str))=false)/\
  ((∀env,swapsWith (.Constant .none j pb') (some (.Name cau pa)) pc.line env=pure false)/\(∀env,swapsWith (.Name en p6) (some (.Name cau p5)) p7.line env=pure false)/\(∀env,swapsWith (.Call (.Name cn p1) [] [] p2) none p3.line env=pure false))/\
  (∀(k:Nat)(cdv:Value)(A:Around)(outer:List Env)(s:Shared)(H:Hp)(E:XK),cL k (A.deeper (envOfC fn (ak st) s.heap.objs.size fr cdv))->DF (fm nU P w K mg base [cn,cau,en,mk] fn (ak st) fr cdv A outer s H E).FC tail mt)
theorem O8(fd:FuncData)(h:fd.params={posonlyargs:=[],args:=[],vararg:=none,kwonlyargs:=[],kw_defaults:=[],kwarg:=none,defaults:=[]})(h2:fd.defaults=.none)(h3:fd.kwdefaults=.none):bindArgs fd ⟨[],[]⟩=pure []:=by
 cases fd;dsimp only at h h2 h3;subst h h2 h3;rfl
theorem Qq{X:Cx}{fn:Str}{mt:SM}{k k':Nat}{x:XM}{m:EM}{Nl:List Str}{caps:List (Option Nat)}{scope:Scope}{params:Arguments}{body:Expr}{cls:List Str}{pn lpos pos:Pos}{cdv:Value}(R:RB X.prog X.w X.K X.mg X.base fn mt cls)(hL:∃Pt,DH X.K X.mg cdv Pt)
  (hr:cL k' X.A) (hk:k+2<=k') (C:bp X Nl caps scope)
  (hx:∀(q:Str)(cd:Value)(f:Addr)(cl:List (Str×Addr)) (A:Around) (outer:List Env) (s:Shared) (H:Hp) (E:XK),cL k (A.deeper (envX q scope s.heap.objs.size f cd cl))->XE (Ja (iK X.prog X.w) X.prog X.w X.K X.mg X.base Nl q scope cl f cd A outer s H E) E body x)
  (hm:∀(q:Str)(cd:Value)(f:Addr)(cl:List (Str×Addr)) (A:Around) (outer:List Env) (s:Shared) (H:Hp) (E:XK),cL k (A.deeper (envX q scope s.heap.objs.size f cd cl))->SE (Ja (iK X.prog X.w) X.prog X.w X.K X.mg X.base Nl q scope cl f cd A outer s H E) body m)
  (hcd:X.env.code=cdv:=by ac_nf) (hd:defaultsOf params X.env=([],[]):=by ac_nf) (hp:∀fd:FuncData,fd.params=params->fd.defaults=.none->fd.kwdefaults=.none->bindArgs fd ⟨[],[]⟩=pure []:=by exact O8)
  (LS:tZ Nl scope:=by exact⟨rfl,rfl,rfl,by decide+kernel⟩) (hg:Gl X fn:=by unfold Gl;ac_nf) (hdb:(fn==("__debug__":Str))=false:=by ac_nf) (hst:starEach [.Lambda params body scope lpos] X.env=[(false,eval (.Lambda params body scope lpos) X.env)]:=by ac_nf):
  SE X (.Call (.Name fn pn) [.Lambda params body scope lpos] [] pos) (fI cls caps mt x m):=by
 obtain⟨fr,CS,fd,st,cn,cau,en,mk,tail,pa,pb',pc,p1,p2,p3,p4,p5,p6,p7,p8,p9,j,F,Sc,hmf,hkf,hb,hbody,⟨l0,l1,l2,lg⟩,⟨hms,hC⟩,⟨n0,n0',n2,n2'⟩,⟨s1,s2,s3⟩,ht⟩:=R.ex;obtain⟨Pt,L⟩:=hL;rw[<-hcd] at L;exact z3 F Sc hmf hkf hb hbody l0 l1 l2 lg hms hC n0 n0' n2 n2' s1 s2 s3 (λcdv A outer s H E hr=>ht _ cdv A outer s H E hr) (hr.mono hk) L hd hp LS C hx hm hg hdb hst
section
variable {X:Cx} {a:Expr} {m:EM} {tb:List (Str×List Str)} {ns:List Str} {n:Str} {pn pb pos:Pos}
theorem Eo(E:EX X.K X.mg tb ns)(hm:X.mg "isinstance"=none)(ha:SE X a m)(h0:tb.isEmpty=false:=by ac_nf)(hn:n∈ns:=by decide+kernel)(hgn:Gl X n:=by unfold Gl;ac_nf)(hg:Gl X "isinstance":=by unfold Gl;ac_nf)(hd:(n==("__debug__":Str))=false:=by ac_nf)
  (he:starEach [a,.Name n pb] X.env=(false,eval a X.env)::starEach [.Name n pb] X.env:=by ac_nf) (he2:starEach [.Name n pb] X.env=[(false,eval (.Name n pb) X.env)]:=by ac_nf) (hpl:(backTo pos (starEach [.Name n pb] X.env)).any (·.1)=false:=by ac_nf):SE X (.Call (.Name "isinstance" pn) [a,.Name n pb] [] pos) (oS tb n m):=
 KN E ha (by cases tb with | nil=>cases h0 | cons p r=>obtain⟨c0,a0⟩:=p;exact⟨c0,a0,by simp[To]⟩) hn hgn hg hm hd he he2 hpl
theorem NQ(E:EX X.K X.mg tb ns)(hm:X.mg "isinstance"=none)(hmn:X.mg "ValueError"=none)(ha:SE X a m)(hv:∀c as,tb.lookup c=some as->decide (("ValueError":Str)∈as)=true)(hgn:Gl X "ValueError":=by unfold Gl;ac_nf)(hg:Gl X "isinstance":=by unfold Gl;ac_nf)
  (he:starEach [a,.Name "ValueError" pb] X.env=(false,eval a X.env)::starEach [.Name "ValueError" pb] X.env:=by ac_nf) (he2:starEach [.Name "ValueError" pb] X.env=[(false,eval (.Name "ValueError" pb) X.env)]:=by ac_nf) (hpl:(backTo pos (starEach [.Name "ValueError" pb] X.env)).any (·.1)=false:=by ac_nf):
  SE X (.Call (.Name "isinstance" pn) [a,.Name "ValueError" pb] [] pos) (oS tb "ValueError" m):=Hv E ha hv hgn hmn hg hm he he2 hpl
theorem RO(h:tb.all (λp=>decide (("ValueError":Str)∈p.2))=true):∀c as,tb.lookup c=some as->decide (("ValueError":Str)∈as)=true:=λc as e=>US.mp h _ (Ti e)
end
end Sm
namespace Hd
open PySem PySem.W PySem.Spec PyProof.Rows L2 Sm
theorem Qw{q:Program}{loose:List Str}{mean:ExcName->Option Value}{mg mb:Str->Option Value}{h:Heap}{tb:List (Str×List Str)}{ns cls:List Str}(T:Top q loose mean mg mb h)(Y:qw h (tb.map (·.1)) ns=za tb ns)(hS:specOf q "StuckError"=some ("ValueError.__new__",D2))(hn:("StuckError":Str)∈ns)
  (hc:∀c∈cls,specOf q c=some ("ValueError.__new__",D2)/\∃as,tb.lookup c=some as/\("StuckError":Str)∈as):∃CS,mg "StuckError"=some (.ref CS)/\∀c∈cls,XC (aE h) mg CS c:=by
 obtain⟨CS,O,_⟩:=T.ownAt hS;exact⟨CS,O.bound,λc hcm=>Ng T Y O.bound hS hn (hc c hcm).1 (hc c hcm).2⟩
end Hd
namespace Sb
open PySem L2 PySem.Spec PyProof.Rows
open Sem (wp)
section
variable {prog:Program} {w:World} {A:Around} {R:Result->Shared->Prop} {I:Addr} {fp wr:List Addr} {n:Nat} {P:Nat->Value->Prop} {St:Nat->Heap->Prop} {kw:List (Str×Value)}
theorem CO(W:Walks prog w A.in1 I fp wr n P St)(bt:Nat->Nat->Bool)(hcmp:CmpOf prog w A.in1 .Gt P bt)(S:Addr)(hSf:S∉fp):
  ∀(k j:Nat)(s:Shared)(vb:Value)(c:Nat),n-(j+1)=k->j+1<=n->St (j+1) s.heap->P (argBest bt j) vb->
  s.heap.get? S=some {cls:=.type "list",dict:=none,data:=.seq #[vb,vb] c,slots:=#[]}->
  (∀v h' tk,P (argBest bt (n-1)) v->(∀b o,b∉wr->b≠S->s.heap.get? b=some o->h'.get? b=some o)->R (.ok (.ret v)) {s with heap:=h',toks:=tk})->
  codeAny (model prog w) A (.builtin "max.loop" ⟨[.ref I,.none,.ref S],kw⟩) R s:=by
 have hSw:S∉wr:=λh=>hSf (W.sub _ h);have hname:(toString "max"++toString ".loop":String)="max.loop":=by decide
 intro k
 induction k with
 | zero=>
  intro j s vb c hk hj hst hPb hS hR;have hin:j+1=n:=by lia
  refine Wi WO ?_;rw[Wm UO _];show wpAny _ A.in1 (seqItems? (.ref S) >>=_) _ _ s;refine Sa (VR hS rfl ?_);show wpAny _ A.in1 (tryCatch (pyNext (.ref I)) _ >>=_) _ _ s;refine Sa (VQ (W.done s _ _ (hin ▸ hst) λh' tk hk'=>?_));have hS':=hk' S _ hSw hS;show wpAny _ A.in1 (updateSeq S (λ_=>#[]) >>=_) _ _ _;refine Sa ?_;refine WZ hS' rfl (Sa (Wl (Sy ?_)));refine hR vb _ tk (by rw[<-hin];exact hPb) λb o hbw hbS e=>(Ue _ _ (Um hbS)).trans (hk' b o hbw e)
 | succ k ih=>
  intro j s vb c hk hj hst hPb hS hR;have hlt:j+1 < n:=by lia
  refine Wi WO ?_;rw[Wm UO _];show wpAny _ A.in1 (seqItems? (.ref S) >>=_) _ _ s;refine Sa (VR hS rfl ?_);show wpAny _ A.in1 (tryCatch (pyNext (.ref I)) _ >>=_) _ _ s;refine Sa (VQ (W.item (j+1) s _ _ hlt hst λv h' tk hP hst' hk'=>?_));have hS':=hk' S _ hSw hS;show wpAny _ A.in1 (tryCatch (holding [v,v] (richCompare .Gt v vb >>=_)) _ >>=_) _ _ _;refine Sa (VQ (Uq (Sa (hcmp (j+1) (argBest bt j) v vb _ _ _ hP hPb ?_))));refine Sa (Uq (Ud ?_));refine Sa (Wl (Sy ?_));cases hb:bt (j+1) (argBest bt j) with
  | true=>
   simp only[VC];refine Sa ?_;refine WZ hS' rfl (Sa (Wl ?_));rw[hname];refine Sy ⟨Wy UO _,ih (j+1) _ v _ (by lia) hlt (W.frame _ _ _ hst' λb hbf o e=>?_) (by simp only[argBest,hb,VC];exact hP) (Vy _ hS' rfl)
    λv' h'' tk'' hP' hk''=>?_⟩
   ·exact(Ue _ _ (λh:S=b=>hSf (by rw[h];exact hbf))).trans e
   ·exact hR v' h'' tk'' hP' λb o hbw hbS e=>hk'' b o hbw hbS ((Ue _ _ (Um hbS)).trans (hk' b o hbw e))
  | false=>
   simp only[Xp,Wj];refine Sa (Wl ?_);rw[hname];refine Sy ⟨Wy UO _,ih (j+1) _ vb c (by lia) hlt hst' (by simp only[argBest,hb,Xp,Wj];exact hPb) hS' λv' h'' tk'' hP' hk''=>?_⟩;exact hR v' h'' tk'' hP' λb o hbw hbS e=>hk'' b o hbw hbS (hk' b o hbw e)
theorem Aw(W:Walks prog w A.in1 I fp wr n P St)(bt:Nat->Nat->Bool)(hcmp:CmpOf prog w A.in1 .Gt P bt)(S:Addr)(hSf:S∉fp){s:Shared}{c:Nat}{dv:Value}{dk:Str}(hst:St 0 s.heap)
  (hS:s.heap.get? S=some {cls:=.type "list",dict:=none,data:=.seq #[] c,slots:=#[]})
  (hR:∀v h' tk,(0 < n->P (argBest bt (n-1)) v)->(n=0->v=dv)->(∀b o,b∉wr->b≠S->s.heap.get? b=some o->h'.get? b=some o)->R (.ok (.ret v)) {s with heap:=h',toks:=tk}):
  codeAny (model prog w) A (.builtin "max.loop" ⟨[.ref I,.none,.ref S],[(dk,dv)]⟩) R s:=by
 have hSw:S∉wr:=λh=>hSf (W.sub _ h);have hname:(toString "max"++toString ".loop":String)="max.loop":=by decide
 refine Wi WO ?_;rw[Wm UO _];show wpAny _ A.in1 (seqItems? (.ref S) >>=_) _ _ s;refine Sa (VR hS rfl ?_);show wpAny _ A.in1 (tryCatch (pyNext (.ref I)) _ >>=_) _ _ s
 by_cases hn:0 < n
 ·refine Sa (VQ (W.item 0 s _ _ hn hst λv h' tk hP hst' hk'=>?_));have hS':=hk' S _ hSw hS;show wpAny _ A.in1 (updateSeq S (λ_=>#[v,v]) >>=_) _ _ _;refine Sa ?_;refine WZ hS' rfl ?_;rw[hname];refine Sy ⟨Wy UO _,CO W bt hcmp S hSf _ 0 _ v _ rfl hn (W.frame _ _ _ hst' λb hbf o e=>?_) hP (Vy _ hS' rfl) λv' h'' tk'' hP' hk''=>?_⟩
  ·exact(Ue _ _ (λh:S=b=>hSf (by rw[h];exact hbf))).trans e
  ·exact hR v' h'' tk'' (λ_=>hP') (λz=>absurd z (by lia)) λb o hbw hbS e=>hk'' b o hbw hbS ((Ue _ _ (Um hbS)).trans (hk' b o hbw e))
 ·obtain rfl:n=0:=by lia
  refine Sa (VQ (W.done s _ _ hst λh' tk hk'=>?_));show wpAny _ A.in1 (rule _ >>=_) _ _ _;refine Sa (VD (Sy ?_));exact hR dv h' tk (λz=>absurd z (Uv _)) (λ_=>rfl) λb o hbw hbS e=>hk' b o hbw e
end
theorem pZ(val:Nat->Int):∀k,val (argBest (λi j=>decide (val i > val j)) k)=((List.range k).map λi=>val (i+1)).foldl max (val 0)
 | 0=>rfl
 | k+1=>by
  rw[List.range_succ,Su,List.foldl_append,<-pZ val k];show val (if decide (val (k+1) > val (argBest _ k))=true then k+1 else argBest _ k)=max (val (argBest _ k)) (val (k+1))
  by_cases z:val (k+1) > val (argBest (λi j=>decide (val i > val j)) k)
  ·rw[Si (Tb z)];lia
  ·rw[Sv (by simpa using z)];lia
noncomputable def xj(d:Int):List Int->Int
 | []=>d
 | n::r=>r.foldl max n
section
variable {prog:Program} {w:World} {A:Around} {E:Value->Shared->Prop} {s:Shared} {l:Addr} {xs:Array (Int×Tok)}
theorem DB(a v:Value):argsOk "max" ⟨[a],[(Str.ofString "default",v)]⟩:=by unfold argsOk;ac_nf
theorem CP{dv:Value}{Q:Value->Shared->Prop}(hh:A.handled=none)(hl:s.heap.IsList l (intItems xs))
  (h:∀v h' tk,(0 < xs.size->(intItems xs)[argBest (λi j=>decide (numAt xs i > numAt xs j)) (xs.size-1)]?=some v)->(xs.size=0->v=dv)->(∀b o,s.heap.get? b=some o->h'.get? b=some o)->Q v {s with heap:=h',toks:=tk}):
  wpAny (model prog w) A (call (.builtin "max") [.ref l] [(Str.ofString "default",dv)]) Q E s:=by
 have hname:(toString "max"++toString ".loop":String)="max.loop":=by decide
 refine kmk_tree PySem.F.kind_max PySem.F.plain_max PySem.F.entry_max (DB _ _) ?_;show wpAny _ A.in1 (Builtin.Builtins.bindParams "max" ["key","default"] 0 ⟨[],[(Str.ofString "default",dv)]⟩ >>=_) _ _ s;refine Sa (wpAny_of_eq (show Builtin.Builtins.bindParams "max" ["key","default"] 0 ⟨[],[(Str.ofString "default",dv)]⟩=pure [none,some dv] from rfl) ?_);refine Sa (Sy ?_);refine Sa (iter_intList hl λs₂ e st hfp hlI=>?_);subst e;refine Sa (TZ ?_);have W:=Walks.list (prog:=prog) (w:=w) (A:=A.in1) hh s.heap.objs.size l hlI (intItems xs);have hSf:(s.heap.push {cls:=.type "list_iterator",data:=.fields #[.ref l,.int 0 0]}).objs.size∉[s.heap.objs.size,l]:=λhm=>Uv _ (hfp _ hm);rw[hname];have hsz:(intItems xs).size=xs.size:=by simp[intItems]
 refine Sy ⟨Wy UO _,Aw W _ (CmpOf.ints_gt (numAt xs) (λ_ _=>intItems_at)) _ hSf (W.frame _ _ _ st λb _ o e=>Ss _ e) (Tc _ rfl) λv h' tk h1 h2 hk=>?_⟩;refine h v h' tk (λz=>by simpa [intItems] using h1 (by simpa [intItems] using z)) (λz=>h2 (by simpa [intItems] using z)) (old_kept λb o hb e=>hk b o hb (SX (SJ e)) (Ss _ e))
end
theorem Ji{M:Model}{A:Around}{E:Value->Shared->Prop}{s:Shared}{pos:Pos}{T:String}{first:List Value}{args:List (Bool×Sem Value)}{kws:List (Option Str×Sem Value)}{Q:Value->Shared->Prop}(hpl:(args.any (·.1)||kws.any (·.1.isNone))=false)
  (h:wpAny M A (evalArgs (.builtin T) true args kws) (λa s1=>wpAny M A (call (.builtin T) (first++a.pos) a.kw) Q E s1) E s):wpAny M A (callWith pos (.builtin T) first args kws) Q E s:=by
 unfold callWith;refine Sa (Uq (Te h (λa s1 h1=>Sa (Uc ?_)) λ_ _ x=>x));simp only[hpl];refine Sa (Sy ?_);exact Sa (Te h1 (λr s2 hr=>Sa (Uq (wpAny_point (Sy hr)))) λ_ _ x=>x)
theorem FH{ns:List Int}{d:Int}(hn:0 < ns.length)(val:Nat->Int)(hv:∀i n,ns[i]?=some n->val i=n):val (argBest (λi j=>decide (val i > val j)) (ns.length-1))=xj d ns:=by
 cases ns with
 | nil=>exact absurd hn (Uv _)
 | cons n r=>
  rw[pZ val];show _=r.foldl max n;rw[hv 0 n rfl];congr 1;refine Ww λi=>?_;rw[SK,Sf,Nat.add_sub_cancel]
  by_cases z:i < r.length
  ·rw[Xi z,SN z];exact congrArg some (hv (i+1) _ (SN z))
  ·rw[Tx (by rw[Tr];lia),Tx (by lia)];rfl
section
variable {X:Cx}
theorem Ig{tk:TE}{a kx:Expr}{p pos kp:Pos}{ta:TA}(hc:X.calm=true)(hg:Gl X "max")(hm:X.mg "max"=none)(ha:PA X [a] ta)(hk:PE X kx tk)(hs:starEach [a] X.env=[(false,eval a X.env)]:=by ac_nf):
  PE X (.Call (.Name "max" p) [a] [⟨some "default",kx,kp⟩] pos) (λσ H Q=>ta σ H λvs H1=>tk σ H1 λd H2=>∃l ns i,vs=[.ref l]/\gH X.K H2 l (ns.map V.int)/\d=.int i/\Q (.int (xj i ns)) H2):=by
 intro pins s σ H Q I h;refine Ul (jO I hg hm boot_max ?_);refine Ji (by rw[hs];rfl) (PyProof.Rows.evalArgs_kw2 rfl (cD (ha pos pins s σ H _ I h) λus s1 ⟨vs,H1,I1,r1,q1⟩=>cD (HY hk Le pos pins s1 σ H1 (λzs H2=>match zs with | [d]=>∃l ns i,vs=[.ref l]/\gH X.K H2 l (ns.map V.int)/\d=.int i/\Q (.int (xj i ns)) H2 | _=>False) I1 q1) λws s2 ⟨zs,H2,I2,rz,q2⟩=>?_) hs)
 ·match zs,q2,rz with
  | [d],⟨l,ns,i,e2,hq,e3,q⟩,rz=>
  subst e2 e3;obtain⟨u,rfl,ru⟩:=Vals.one r1;obtain rfl:u=Value.ref l:=ru;obtain⟨v,rfl,rv0⟩:=Vals.one rz;obtain⟨t0,rfl⟩:∃t0,v=Value.int i t0:=rv0;obtain⟨its,rv,p,hz⟩:=I2.list hq;obtain⟨ps,rfl,e⟩:=qX rv;have hlen:ps.length=ns.length:=by rw[<-e,R9]
  have hnum:∀(i:Nat) n,ns[i]?=some n->numAt ps.toArray i=n:=λi n hi=>by
   unfold numAt;rw[<-e,SK] at hi;rw[List.getElem?_toArray,hi];rfl
  have hI:s2.heap.IsList l (intItems ps.toArray):=by
   have:intItems ps.toArray=(ps.map λp=>Value.int p.1 p.2).toArray:=by unfold intItems;simp
   rw[this];exact p.isList
  refine CP (xs:=ps.toArray) (I2.ok.hd hc) hI λv h' tk h1 h2 k=>⟨.int (xj i ns),H2,I2.kept (t':=tk) k,?_,q⟩
  by_cases z:0 < ns.length
  ·obtain⟨t1,ht⟩:=intItems_at (h1 (by simpa [hlen] using z));refine⟨t1,ht.trans ?_⟩;rw[show ps.toArray.size=ns.length by simpa using hlen,FH (d:=i) z _ hnum]
  ·have hn:ns=[]:=Vj.mp (by lia);subst hn;exact⟨t0,h2 (by simpa using hlen)⟩
end
end Sb
namespace Sm
open PySem L2 PySem.Spec PyProof.Rows
noncomputable def JR(d e:D)(h:MH):Option (D×MH):=(dR d h).bind λxs=>match e with
 | .int i=>(m8 xs).map λns=>(.int (Sb.xj i ns),h)
 | _=>none
noncomputable def Gk(m:AM)(mk:EM):EM:=λδ h=>(m δ h).bind λp=>match p.1 with
 | [d]=>(mk δ p.2).bind λq=>JR d q.1 q.2
 | _=>none
theorem Hu{X:Cx}{a kx:Expr}{p pos kp:Pos}{m:AM}{mk:EM}(hc:X.calm=true)(hg:Gl X "max")(hm:X.mg "max"=none)(ha:SA X [a] m)(hl:kG m 1)(hk:SE X kx mk)(hs:starEach [a] X.env=[(false,eval a X.env)]:=by ac_nf):SE X (.Call (.Name "max" p) [a] [⟨some "default",kx,kp⟩] pos) (Gk m mk):=
 (Sb.Ig hc hg hm ha hk hs).imp λσ H Q ⟨ρ,δ,h,d0,h',R,S,e,k⟩=>by
  obtain⟨⟨ds,h1⟩,e1,e2⟩:=bw e;refine⟨ρ,δ,h,ds,h1,R,S,e1,λvs ρ1 H1 T1 S1 r1=>?_⟩
  match ds,hl _ _ _ _ e1,e2,r1 with
  | [d],_,e2,r1=>
   obtain⟨⟨e',h2⟩,e3,e4⟩:=bw e2;obtain⟨v,rfl,rd⟩:=rep1 r1;refine⟨ρ1,δ,h1,e',h2,R.mono T1.toCh,S1,e3,λu H2 ⟨ρ2,T2,S2,r2⟩=>?_⟩;obtain⟨xs,e5,e6⟩:=bw e4;cases r2 <;> first |(exact b7 e6) | skip
   obtain⟨ns,e7,e8⟩:=gB e6;cases e8;obtain⟨a,vs,rfl,ha,la⟩:=dI S2 (rd.mono T2.toCh) e5;have:=sS e7;subst this;have:=rQ la;subst this;exact⟨a,ns,_,rfl,gH.of ha,rfl,k _ _ (dy.step (T1.trans T2) (.here S2 (.int _)))⟩
end Sm
namespace L2
open PySem PySem.Spec PyProof.Rows Builtin.Str
end L2
namespace Sm
open PySem L2 PySem.Spec PyProof.Rows
end Sm
namespace Pg
open PySem Sm L2
abbrev Term:=Str×Int
abbrev Lock:=Str×Term
inductive Row where
 | say (w:Str)
 | call (d:Str) (ts:List Term)
 | within (l:Lock) (b:List Row)
 | all (ls:List Lock) (b:List Row)
 | ask (l:Lock) (b e:List Row)
 | lK (s t:Term) (a b c:List Row)
 | either (a b:List Row)
 | again (a:List Row)
noncomputable def bo(t:Term):D:=.tup [.str t.1,.int t.2]
noncomputable def aF(l:Lock):D:=.tup [.str l.1,bo l.2]
mutual
noncomputable def aB:Row->D
 | .say w=>.tup [.str "say",.str w]
 | .call d ts=>.tup [.str "call",.str d,.tup (ts.map bo)]
 | .within l b=>.tup [.str "within",aF l,.tup (cx b)]
 | .all ls b=>.tup [.str "all",.tup (ls.map aF),.tup (cx b)]
 | .ask l b e=>.tup [.str "ask",aF l,.tup (cx b),.tup (cx e)]
 | .lK s t a b c=>.tup [.str "by",bo s,bo t,.tup (cx a),.tup (cx b),.tup (cx c)]
 | .either a b=>.tup [.str "either",.tup (cx a),.tup (cx b)]
 | .again a=>.tup [.str "again",.tup (cx a)]
noncomputable def cx:List Row->List D
 | []=>[]
 | r::rs=>aB r::cx rs
end
theorem bu:∀l:List Row,cx l=l.map aB
 | []=>by simp[cx]
 | r::rs=>by simp[cx,bu rs]
mutual
noncomputable def cnt:Row->Nat
 | .say _=>1
 | .call _ _=>1
 | .within _ b=>1+ao b
 | .all _ b=>1+ao b
 | .ask _ b e=>1+ao b+ao e
 | .lK _ _ a b c=>1+ao a+ao b+ao c
 | .either a b=>1+ao a+ao b
 | .again a=>1+ao a
noncomputable def ao:List Row->Nat
 | []=>0
 | r::rs=>cnt r+ao rs
end
theorem nB:∀a b:List Row,ao (a++b)=ao a+ao b
 | [],b=>by simp[ao]
 | r::a,b=>by simp[ao,nB a b];lia
theorem nA:∀a:List Row,a.length<=ao a
 | []=>by simp
 | r::a=>by
  have:=nA a;have:1<=cnt r:=by cases r <;> simp[cnt] <;> lia
  simp[ao];lia
structure Wd where
 names:List Str
 ai:List Str
 params:List (List Str)
def cw(ps:List Str)(t:Term):Prop:=(t.1=Str.ofString ""\/t.1∈ps)/\-99<=t.2/\t.2<=99
def fR(W:Wd)(ps:List Str)(l:Lock):Prop:=l.1∈W.names/\cw ps l.2
mutual
def bO(W:Wd)(ps:List Str):Nat->Row->Prop
 | _,.say w=>w∈W.names++W.ai
 | _,.call d ts=>(∃(j:Nat)(qs:List Str),W.ai[j]?=some d/\W.params[j]?=some qs/\ts.length=qs.length)/\∀t∈ts,cw ps t
 | n,.within l b=>fR W ps l/\n < 5/\b.length<=12/\bW W ps (n+1) b
 | n,.all ls b=>(2<=ls.length/\ls.length<=4/\ls.Nodup/\∀l∈ls,fR W ps l)/\n < 5/\b.length<=12/\bW W ps (n+1) b
 | n,.ask l b e=>fR W ps l/\n < 5/\b.length<=12/\e.length<=12/\bW W ps (n+1) b/\bW W ps (n+1) e
 | n,.lK s t a b c=>cw ps s/\cw ps t/\n < 5/\a.length<=12/\b.length<=12/\c.length<=12/\bW W ps (n+1) a/\bW W ps (n+1) b/\bW W ps (n+1) c
 | n,.either a b=>n < 5/\a.length<=12/\b.length<=12/\bW W ps (n+1) a/\bW W ps (n+1) b
 | n,.again a=>n < 5/\a.length<=12/\bW W ps (n+1) a
def bW(W:Wd)(ps:List Str):Nat->List Row->Prop
 | _,[]=>True
 | n,r::rs=>bO W ps n r/\bW W ps n rs
end
theorem vo{W:Wd}{ps:List Str}{n:Nat}:∀{a b:List Row},bW W ps n a->bW W ps n b->bW W ps n (a++b)
 | [],b,_,h=>h
 | r::a,b,h,h'=>by
  unfold bW at h;show bW W ps n (r::(a++b));unfold bW;exact⟨h.1,vo h.2 h'⟩
theorem vn{W:Wd}{ps:List Str}{n:Nat}:∀{a:List Row},bW W ps n a->∀r∈a,bO W ps n r
 | [],_,_,z=>by cases z
 | r::a,h,x,hx=>by
  unfold bW at h;rcases Sr.mp hx with rfl | hx
  ·exact h.1
  ·exact vn h.2 x hx
end Pg
set_option hygiene false in
local macro_rules | `(tactic| ac_rfl) => do {let t <- (("|Sm.sv _|Sm.aH|Sm.aq|Sm.aa ? ?|Sm.ae ? ?|Sm.aI ?|Sm.bL ?|Sm.sset _ @ ?|Sm.cc ? ? ?|Sm.bB|Sm.six hr ? ?|Sm.fN @ hr ?|Sm.bc|Sm.Er|Sm.JE|Sm.Qm ?|Sm.Qo ?|Sm.Ql ?|Sm.Qp ?|Sm.Qk ?|Sm.stp5 ?|Sm.Qj ?|Sm.NO ? ? ?|Sm.aX ? ? ?|Sm.aY|Sm.Fw hr.units|Sm.Al hr.units|Sm.Fv|Sm.BC|Sm.yF|Sm.yG|Sm.Lw|Sm.os_notN|Sm.Oo hr.units|Sm.Fu hr.units|Sm.Fs|Sm.sA|Sm.pe Sm.jk ?|Sm.wz ? ? ?|Sm.qF|Sm.qE ?|Sm.eY ? ?|Sm.oj rfl ?|Sm.cE ? ?|Sm.j7|Sm.sgn _ @|Sm.zE Sm.tF B.zx Sm.tT ?|Sm.NX Sm.zj B.xQ Sm.tS ?|Sm.wm ?|Sm.oh ?|Sm.se_if ? ? ?|Sm.j5 ?|Sm.lW Sm.iM PySem.F.plainAttrs_list PySem.F.slot_list_append PySem.F.type_list_append Sm.kc ? ?|Sm.NU Sm.iM PySem.F.plainAttrs_list PySem.F.slot_list_pop PySem.F.type_list_pop Sm.LN ?|Sm.lM.lv ?|Sm.lM.ob ?|Sm.Qu ?|Sm.Qt ?|Sm.Qs ?|Sm.sfl3 ?|Sm.sfl4 ?|Sm.sfl5 ?|Sm.sfl6 ?|Sm.sfl7 ?|Sm.Qr ?|Sm.zT ? ?|Sm.Ed ? ?|Sm.Bj ?|Sm.Ec ?|Sm.cV PassesOwn.never rfl ? ? ?|Sm.g7 ?|Sm.ss_brk|Sm.zE Sm.Gv~rfl B.GO Sm.GI ?|Sm.zE Sm.Mw~rfl B.O9 Sm.ML ?|Sm.NX Sm.Mx B.JY Sm.GJ ?|Sm.zE Sm.My B.Pa Sm.MM ?|Sm.NR ? ? ?|Sm.SW.st ?".splitOn "|").drop 1).toArray.mapM (λl => do {let x <- (l.splitOn " ").toArray.mapM (λz => if z == "?" then `(?_) else if z == "_" then `(_) else if z == "@" then `(‹_›) else(let y := (z.splitOn "~").toArray.map (λw => (Lean.mkIdent w.toName : Lean.TSyntax `term));pure (Lean.Syntax.mkApp y[0]! (y.extract 1 y.size))));`(Lean.Parser.Tactic.tacticSeq| refine $(Lean.Syntax.mkApp x[0]! (x.extract 1 x.size)) <;> ac_rfl)});`(tactic| with_reducible first $[| $t]*)}
local macro_rules | `(tactic| walk_at "v") => `(tactic|(conv => arg 2;whnf))
local macro_rules | `(tactic| walk_at "u") => `(tactic|(walk_at "v";ac_rfl))
namespace Mi
open PySem L2 Sm PySem.Spec PyProof.Rows
local macro_rules | `(tactic| walk_at "b") => `(tactic| first | exactλF => F.binds λ_ _ _ _ _ _ => Hd.u1 (λ_ => rfl) | exactλF => F.binds λ_ _ _ _ _ _ => Hd.u2 (λ_ _ => rfl) | exactλF => F.binds λ_ _ _ _ _ _ => Hd.u3 (λ_ _ _ => rfl) | exactλF => F.binds λ_ _ _ _ _ _ => Hd.u4 (λ_ _ _ _ => rfl) | exactλF => F.binds λ_ _ _ _ _ _ => Hd.u5 (λ_ _ _ _ _ => rfl) | exactλF => F.binds λ_ _ _ _ _ _ => Hd.u6 (λ_ _ _ _ _ _ => rfl) | exactλF => F.binds λ_ _ _ _ _ _ => Hd.u7 (λ_ _ _ _ _ _ _ => rfl))
structure Bs(P:Program)(w:World)(K:FR)(mg:Str->Option Value):Prop where
 xR:mg "ValueError"=none
 Pa:mg "abs"=none
 MP:mg "bool"=none
 eg:mg "enumerate"=none
 JY:mg "int"=none
 bF:mg "isinstance"=none
 zx:mg "len"=none
 GP:mg "list"=none
 GO:mg "max"=none
 O9:mg "min"=none
 eO:mg "range"=none
 zw:mg "sorted"=none
 Ca:mg "str"=none
 xQ:mg "tuple"=none
 jX:PC mg "MOST_DEEP" (.int (5))
 jW:PC mg "MOST_ROWS" (.int (60))
 kW:PC mg "MOST_FIGURE" (.int (99))
 zC:Tab P w K mg "SHAPES" eX
 Nd:EX K mg gz qq
 S_:∃CS,mg "StuckError"=some (.ref CS)/\∀c∈tJ,XC K mg CS c
abbrev Rc(x:Str)(s:Stmt):Prop:=(recsOf view).find? (λe=>e.name==x)=some (Hd.mE x s)
abbrev mq:Stmt:=top 27
abbrev mQ:List Str:=["_law_script"]
theorem ud:aD ["_law_script"] mQ (ak mq):=by walk_at "s"
theorem rX:Rc "_law_drawn" mq:=by ac_nf
noncomputable def gg:Fn:=jJ 1
  (bh (zG (a3 (ki 0) (zG (GU (a1 (iD v0 wW (uv (ki 63)))))) (ki 0))))
abbrev pz:Stmt:=top 28
abbrev pK:List Str:=["_law_state"]
theorem iQ:aD ["_law_state","_law_cells","_law_tour","_law_cell","_law_mixed"] pK (ak pz):=by walk_at "s"
theorem uo:Rc "_law_load" pz:=by ac_nf
noncomputable def jU:Fn:=jJ 5
  (av (aV 1 (ar aT v0 (ki 1)))
  (av (aV 2 (ar aT v0 (ki 2)))
  (av (fE (ar aw v2 (ki 1)) (qu v0 (ki 2)))
  (av (aV 3 (ki 0))
  (av (fz (aJ (ar nj v1 (fX aL))) (aV 3 (ar aT v1 (ar sX v2 (ax cG (a1 v1))))) cf)
  (fz (n4 (aJ (ar F9 v2 (ax cG (a1 v1)))) (aJ (ar IY (ax Mm (a1 v3)) (ar IU (ki 10) (ki 18))))) (fE (ax Mm (a1 v3)) (qu v0 (ki 0))) (av (aV 4 (ar sX (ar iB (ar aw (ar aw (ar sX v3 (ki 2305843009213693951)) (ar iB (ar iB (ki 7919) v2) v2)) (ki 11)) (ki 48271)) (ki 2305843009213693951)))
  (av (aV 4 (ar sX (ar iB v4 v4) (ki 2305843009213693921)))
  (fE (ar aw (ar sX (ar aw (ar aw (ar iB v4 (ki 69621)) v2) (ki 104729)) (ki 2305843009213693951)) (ar IU (ki 10) (ki 9))) (qu v0 (ki 0)))))))))))
abbrev pq:Stmt:=top 29
abbrev pI:List Str:=["_law_state","_law_many"]
theorem wC:aD ["_law_state","_law_many","_law_found"] pI (ak pq):=by walk_at "s"
theorem uh:Rc "_law_next" pq:=by ac_nf
noncomputable def aR:Fn:=jJ 3
  (av (fz (aJ (ar F9 (ar aT v0 (ki 0)) v1)) (gO (ax jU (a1 v0))) cf)
  (av (aV 2 (ar sX (ar aT v0 (ki 0)) v1))
  (av (fE (ar xx (ar aT v0 (ki 0)) v1) (qu v0 (ki 0)))
  (bh v2))))
abbrev uU:Stmt:=top 30
abbrev vm:List Str:=["_law_state","_law_some"]
theorem z9:aD ["_law_state","_law_some"] vm (ak uU):=by walk_at "s"
theorem yo:Rc "_law_of" uU:=by ac_nf
noncomputable def aN:Fn:=jJ 2
  (bh (ar aT v1 (ax aR (a2 v0 (ax cG (a1 v1))))))
abbrev mh:Stmt:=top 31
abbrev mK:List Str:=["_law_state","_law_many"]
theorem kI:aD ["_law_state","_law_many","_law_letters","_law_stem","_law_k","_law_at","_law_first","_law_stride"] mK (ak mh):=by walk_at "s"
theorem rT:Rc "_law_words" mh:=by ac_nf
noncomputable def eP:Fn:=jJ 8
  (av (aV 2 (ks "abcdefghijklmnopqrstuvwxyz"))
  (av (aV 3 (ks ""))
  (av (iR (qt (a1 (ax aN (a2 v0 (eK (.lv [.int 0,.int 1,.int 1,.int 2,.int 3,.int 6])))))) (gN 4) (aV 3 (ar aw v3 (ar aT v2 (ax aR (a2 v0 (ki 26)))))))
  (av (aV 5 (ax aR (a2 v0 (ar aw (ax cG (a1 v3)) (ki 1)))))
  (av (aV 6 (ax aR (a2 v0 (ki 26))))
  (av (aV 7 (ax aN (a2 v0 (eK (.lv [.int 1,.int 3,.int 5,.int 7,.int 9,.int 11])))))
  (bh (fX (cI [none,some 5,some 6,some 2,some 3,some 7] (qt (a1 v1)) (gN 0) cz (ar aw (ar aw (iD v4 wW (uv v1)) (ar aT v3 (ar sX (ar aw v2 (ar iB v5 v0)) (ki 26)))) (iD v4 (uv v1) wW)))))))))))
abbrev md:Stmt:=top 32
abbrev mJ:List Str:=["_law_state","_law_most","_law_odd"]
theorem cQ:aD ["_law_state","_law_most","_law_odd","_law_names","_law_deeds","_law_params","_law_many","_law_floors"] mJ (ak md):=by walk_at "s"
theorem rR:Rc "_law_world" md:=by ac_nf
noncomputable def ja:Fn:=jJ 8
  (av (aV 3 (ax eP (a2 v0 (ax aN (a2 v0 (eK (.lv [.int 1,.int 2,.int 2,.int 3,.int 4,.int 6])))))))
  (av (aV 4 (ax eP (a2 v0 (ax aN (a2 v0 (eK (.lv [.int 1,.int 1,.int 2,.int 2,.int 3,.int 4,.int 6])))))))
  (av (aV 5 (ax eP (a2 v0 (ki 3))))
  (av (aV 6 (fX (cI [none,some 0] (dm v4) (gN 0) cz (ax aN (a2 v1 (eK (.lv [.int 0,.int 1,.int 1,.int 2,.int 2,.int 3])))))))
  (av (aV 7 (ax F7 (a1 (fX (cI [none,some 3,some 0] (dm v4) (gN 0) cz (ax aR (a2 v2 (ax cG (a1 v1)))))))))
  (av (aV 5 (fX (cI [none,some 5] (dm v6) (gN 0) cz (iD v1 wW (uv v0)))))
  (bh (AL (eU (ks "names") v3 (eU (ks "deeds") v4 (eU (ks "params") v5 (eU (ks "floors") v7 (eU (ks "left") v1 (eU (ks "odd") v2 Ik))))))))))))))
abbrev kN:Stmt:=top 33
abbrev kQ:List Str:=["_law_state","_law_world_here"]
theorem rB:aD ["_law_state","_law_world_here"] kQ (ak kN):=by walk_at "s"
theorem qk:Rc "_law_is_odd" kN:=by ac_nf
noncomputable def dG:Fn:=jJ 2
  (bh (zc (ar t7 (ar aT v1 (ks "odd")) (ki 0)) (ar cS (ax aR (a2 v0 (ar aT v1 (ks "odd")))) (ki 0))))
abbrev pj:Stmt:=top 34
abbrev pH:List Str:=["_law_state","_law_params"]
theorem wB:aD ["_law_state","_law_params","_law_far"] pH (ak pj):=by walk_at "s"
theorem ug:Rc "_law_term" pj:=by ac_nf
noncomputable def ck:Fn:=jJ 3
  (av (aV 2 (ar xt (ax aR (a2 v0 (ki 81))) (ki 40)))
  (av (fz (n4 (aJ (ar t7 (ax cG (a1 v1)) (ki 0))) (aJ (ar t7 (ax aR (a2 v0 (ki 5))) (ki 0)))) (bh (ax aW (a2 (ax aN (a2 v0 v1)) (ax aN (a2 v0 (fX (ag (ki 0) (ag (ki 0) (ag (ki 0) (ag (ki 0) (ag (ki 1) (a4 (ki 1) (t8 iL (ki 1)) (ki 2) v2)))))))))))) cf)
  (bh (ax aW (a2 (ks "") (ax aN (a2 v0 (fX (ag (ki 0) (ag (ki 0) (ag (ki 1) (ag (ki 1) (a4 (ki 2) (ki 3) (t8 iL (ki 1)) v2)))))))))))))
abbrev pB:Stmt:=top 36
abbrev pM:List Str:=["_law_state","_law_world_here","_law_deed","_law_top"]
theorem f9:aD ["_law_state","_law_world_here","_law_deed","_law_top","_law_some","_law_other","_law_terms"] pM (ak pB):=by walk_at "s"
theorem ur:Rc "_law_call" pB:=by ac_nf
noncomputable def g0:Fn:=jJ 7
  (av (aV 4 (fX (cI [none,some 2,some 3,some 1] (qt (a1 (ax cG (a1 (ar aT v1 (ks "deeds")))))) (gN 0) (n4 (aJ (ar t7 (ar aT (ar aT v3 (ks "floors")) v0) v2)) (aJ (ar IY v0 v1))) v0)))
  (av (fz (lT (ax dG (a2 v0 v1))) (aV 4 (fX (MQ (a1 (ax cG (a1 (ar aT v1 (ks "deeds")))))))) cf)
  (av (fz (aJ (ar cS v4 (fX aL))) (bh (ax aW (a2 (ks "say") (ar aT (ar aT v1 (ks "deeds")) v2)))) cf)
  (av (aV 5 (ax aN (a2 v0 v4)))
  (av (aV 6 (fX (cI [none,some 2,some 0,some 1] (dm (ar aT (ar aT v1 (ks "params")) v5)) (gN 0) cz (ax ck (a2 v2 (ar aT (ar aT v3 (ks "params")) v1))))))
  (bh (ax aW (a3 (ks "call") (ar aT (ar aT v1 (ks "deeds")) v5) (ax fS (a1 v6))))))))))
abbrev pv:Stmt:=top 35
abbrev pJ:List Str:=["_law_state","_law_world_here","_law_deed","_law_top","_law_held"]
theorem lZ:aD ["_law_state","_law_world_here","_law_deed","_law_top","_law_held","_law_low","_law_at","_law_name","_law_same","_law_word","_law_more"] pJ (ak pv):=by walk_at "s"
theorem um:Rc "_law_lock" pv:=by ac_nf
noncomputable def fM:Fn:=jJ 11
  (av (aV 5 (ax sY (a2 v3 (ar aT (ar aT v1 (ks "floors")) v2))))
  (av (fz (aJ (ar cS v5 (ax cG (a1 (ar aT v1 (ks "names")))))) (bh (ax aW (a2 (eK .cq) (eK .cq)))) cf)
  (av (aV 6 (ar aw v5 (ax aR (a2 v0 (ar xt (ax cG (a1 (ar aT v1 (ks "names")))) v5)))))
  (av (fz (lT (ax dG (a2 v0 v1))) (aV 6 (ax aR (a2 v0 (ax cG (a1 (ar aT v1 (ks "names"))))))) cf)
  (av (aV 7 (ar aT (ar aT v1 (ks "names")) v6))
  (av (aV 8 (fX (cI [none,some 7] (dm v4) (gN 0) (aJ (ar cS (ar aT v0 (ki 0)) v1)) (ar aT v0 (ki 1)))))
  (av (fz (n4 (aJ (ar nj v8 (fX aL))) (jm (lT (ax dG (a2 v0 v1))))) (av (fE (ar aT v8 (t8 iL (ki 1))) (gT 2 (au (gN 9) (au (gN 10) bY))))
  (bh (ax aW (a2 v6 (ax aW (a2 v7 (ax aW (a2 v9 (ax F8 (a2 (ki 99) (ar aw (ar aw v10 (ki 1)) (ax aR (a2 v0 (ki 2)))))))))))))) cf)
  (bh (ax aW (a2 v6 (ax aW (a2 v7 (ax ck (a2 v0 (ar aT (ar aT v1 (ks "params")) v2)))))))))))))))
abbrev rK:Stmt:=top 40
abbrev lx:List Str:=["_law_state","_law_world_here","_law_deed","_law_deep","_law_top","_law_held","_law_most"]
theorem yh:aD ["_law_state","_law_world_here","_law_deed","_law_deep","_law_top","_law_held","_law_most","_law_rows","_law_k"] lx (ak rK):=by walk_at "s"
theorem mC:Rc "_law_lot" rK:=by ac_nf
abbrev rH:Stmt:=top 39
abbrev lu:List Str:=["_law_state","_law_world_here","_law_deed","_law_deep","_law_top","_law_held"]
theorem cW:aD ["_law_state","_law_world_here","_law_deed","_law_deep","_law_top","_law_held","_law_way","_law_one","_law_other","_law_lots","_law_sort"] lu (ak rH):=by walk_at "s"
theorem mB:Rc "_law_row" rH:=by ac_nf
abbrev kM:Stmt:=top 38
abbrev g9:List Str:=["_law_state","_law_world_here","_law_deed","_law_deep","_law_top","_law_held","_law_way"]
theorem cX:aD ["_law_state","_law_world_here","_law_deed","_law_deep","_law_top","_law_held","_law_way","_law_at","_law_lock_here","_law_some","_law_high","_law_turn","_law_low","_law_other","_law_lot_here"] g9 (ak kM):=by walk_at "s"
theorem jf:Rc "_law_locked" kM:=by ac_nf
abbrev je:Stmt:=top 37
abbrev fQ:List Str:=["_law_state","_law_world_here","_law_deed","_law_deep","_law_top","_law_held"]
theorem di:aD ["_law_state","_law_world_here","_law_deed","_law_deep","_law_top","_law_held","_law_low","_law_name","_law_one","_law_other","_law_lots","_law_first","_law_second","_law_inner"] fQ (ak je):=by walk_at "s"
theorem gP:Rc "_law_two_ways" je:=by ac_nf
mutual
noncomputable def bQ:Nat->Fn
 | 0=>λ_ _=>none
 | n+1=>G3 9
  (av (aV 7 (zG aL))
  (av (iR (qt (a1 (ax aR (a2 v0 (ar aw (ax aN (a2 v0 (ar aw (ar uH (fX (a1 v6)) (ki 15)) (fX (a1 (ki 12)))))) (ki 1)))))) (gN 8) (fz (aJ (ar t7 (ar aT v1 (ks "left")) (ki 0))) (av (fE (ar xt (ar aT v1 (ks "left")) (ki 1)) (qu v1 (ks "left")))
  (gO (eM dA eJ v7 (a1 (ax (gx n) (ag v0 (ag v1 (a4 v2 v3 v4 v5)))))))) cf))
  (bh (ax fS (a1 v7)))))
noncomputable def gx:Nat->Fn
 | 0=>λ_ _=>none
 | n+1=>jJ 11
  (av (aV 6 (ax aR (a2 v0 (ki 16))))
  (av (fz (D9 (aJ (ar F9 v6 (ki 2))) (n4 (aJ (ar cS v3 (ki 5))) (aJ (ar F9 v6 (ki 11))))) (bh (ax aW (a2 (ks "say") (ax aN (a2 v0 (ar aw (ar aT v1 (ks "names")) (ar aT v1 (ks "deeds")))))))) cf)
  (av (fz (D9 (aJ (ar t7 v6 (ki 12))) (aJ (ar cS v3 (ki 5)))) (bh (ax g0 (a4 v0 v1 v2 v4))) cf)
  (av (fz (n4 (aJ (ar cS v6 (ki 12))) (n4 (aJ (ar F9 v3 (ki 3))) (aJ (ar t7 (ar aT v1 (ks "left")) (ki 5))))) (bh (ax (cO n) (ag v0 (ag v1 (a4 v2 v3 v4 v5))))) cf)
  (av (fz (D9 (aJ (ar cS v6 (ki 11))) (aJ (ar cS v6 (ki 12)))) (av (ue 7 8 (a2 (ax ck (a2 v0 (ar aT (ar aT v1 (ks "params")) v2))) (ax ck (a2 v0 (ar aT (ar aT v1 (ks "params")) v2)))))
  (av (aV 9 (fX (cI [none,some 2,some 3,some 5,some 0,some 4,some 1] (qt (a1 (ki 3))) (gN 0) cz (ax (bQ n) (ag v4 (ag v6 (ag v1 (a4 (ar aw v2 (ki 1)) v5 v3 (ki 2)))))))))
  (bh (ar aw (ax aW (a3 (ks "by") v7 v8)) (ax fS (a1 v9)))))) cf)
  (av (fz (aJ (ar cS v6 (ki 10))) (av (aV 9 (fX (cI [none,some 2,some 3,some 5,some 0,some 4,some 1] (qt (a1 (ki 2))) (gN 0) cz (ax (bQ n) (ag v4 (ag v6 (ag v1 (a4 (ar aw v2 (ki 1)) v5 v3 (ki 2)))))))))
  (bh (ar aw (ax aW (a1 (ks "either"))) (ax fS (a1 v9))))) cf)
  (av (fz (aJ (ar cS v6 (ki 9))) (bh (ax aW (a2 (ks "again") (ax (bQ n) (ag v0 (ag v1 (ag v2 (a4 (ar aw v3 (ki 1)) v4 v5 (ki 2))))))))) cf)
  (av (aV 10 (ax aN (a2 v0 (eK (.lv [.str "within",.str "within",.str "within",.str "within",.str "ask",.str "all"])))))
  (bh (ax (dE n) (ag v0 (ag v1 (ag v2 (a4 v3 v4 v5 v10))))))))))))))
noncomputable def dE:Nat->Fn
 | 0=>λ_ _=>none
 | n+1=>G3 15
  (av (fE (ax fM (ag v0 (a4 v1 v2 v4 v5))) (gT 2 (au (gN 7) (au (gN 8) bY))))
  (av (fz (aJ (ar Ml v7 (eK .cq))) (bh (ax aW (a2 (ks "say") (ar aT (ar aT v1 (ks "deeds")) v2)))) cf)
  (av (fz (aJ (ar cS v6 (ks "all"))) (av (ue 9 10 (a2 (zG (a1 v8)) v7))
  (av (iR (qt (a1 (ax aN (a2 v0 (eK (.lv [.int 1,.int 1,.int 2,.int 3])))))) (gN 11) (av (fE (ax fM (ag v0 (a4 v1 v2 v4 v5))) (gT 2 (au (gN 12) (au (gN 13) bY))))
  (av (aV 10 (ax sY (a2 v10 P8)))
  (aV 9 (zG (DD v9 (ar uH (fX (a1 P7)) (ax oP (a1 (ar oO P7 v9))))))))))
  (av (fz (aJ (ar cS (ax cG (a1 v9)) (ki 1))) (gO (eM dA eJ v9 (a1 (ax aW (a2 (ar aT v8 (ki 0)) (ax aW (a2 (ar aT (ar aT v8 (ki 1)) (ki 0)) (ar xt (ar aw (ar aT (ar aT v8 (ki 1)) (ki 1)) (ki 1)) (ar iB (ki 2) (ax oP (a1 (ar t7 (ar aT (ar aT v8 (ki 1)) (ki 1)) (ki 90))))))))))))) cf)
  (av (aV 10 (ar aw v10 (ax oP (a1 (ar cS (ar aT v1 (ks "odd")) (ki 0))))))
  (bh (ax aW (a3 (ks "all") (ax fS (a1 v9)) (ax (bQ n) (ag v0 (ag v1 (ag v2 (a4 (ar aw v3 (ki 1)) (ax sY (a2 v4 v10)) (ar aw v5 v9) (ki 3))))))))))))) cf)
  (av (aV 14 (ax (bQ n) (ag v0 (ag v1 (ag v2 (a4 (ar aw v3 (ki 1)) (ax sY (a2 v4 v7)) (ar aw v5 (fX (a1 v8))) (ki 3)))))))
  (av (fz (aJ (ar cS v6 (ks "ask"))) (bh (ax aW (a4 (ks "ask") v8 Rq (ax (bQ n) (ag v0 (ag v1 (ag v2 (a4 (ar aw v3 (ki 1)) v4 v5 (ki 2))))))))) cf)
  (bh (ax aW (a3 (ks "within") v8 Rq))))))))
noncomputable def cO:Nat->Fn
 | 0=>λ_ _=>none
 | n+1=>G3 14
  (av (aV 6 (ax sY (a2 v4 (ar aT (ar aT v1 (ks "floors")) v2))))
  (av (fz (aJ (ar cS v6 (ax cG (a1 (ar aT v1 (ks "names")))))) (bh (ax aW (a2 (ks "say") (ar aT (ar aT v1 (ks "deeds")) v2)))) cf)
  (av (fz (aJ (ar nj (fX (cI [none,some 6,some 1] (dm v5) (gN 0) (aJ (ar cS (ar aT v0 (ki 0)) (ar aT (ar aT v2 (ks "names")) v1))) v0)) (fX aL))) (bh (ax aW (a2 (ks "say") (ar aT (ar aT v1 (ks "deeds")) v2)))) cf)
  (av (aV 7 (ar aT (ar aT v1 (ks "names")) v6))
  (av (fE (ar xt (ar aT v1 (ks "left")) (ki 5)) (qu v1 (ks "left")))
  (av (ue 8 9 (a2 (ax ck (a2 v0 (ar aT (ar aT v1 (ks "params")) v2))) (ax ck (a2 v0 (ar aT (ar aT v1 (ks "params")) v2)))))
  (av (aV 10 (zG aL))
  (av (iR (dm (fX (a2 (ax aW (a2 v8 v9)) (ax aW (a2 v9 v8))))) (gT 2 (au (gN 11) (au (gN 12) bY))) (av (aV 13 (ax (bQ n) (ag v0 (ag v1 (ag v2 (a4 (ar aw v3 (ki 3)) v6 (ar aw v5 (fX (a2 (ax aW (a2 v7 v11)) (ax aW (a2 v7 P8))))) (ki 2)))))))
  (gO (eM dA eJ v10 (a1 (ax aW (a1 (ax aW (a3 (ks "within") (ax aW (a2 v7 v11)) (ax aW (a1 (ax aW (a3 (ks "within") (ax aW (a2 v7 P8)) P7)))))))))))))
  (bh (ax aW (ag (ks "by") (ag v8 (a4 v9 (ar aT v10 (ki 0)) (ax aW (a1 (ax aW (a3 (ks "within") (ax aW (a2 v7 v8)) (ax aW aL))))) (ar aT v10 (ki 1)))))))))))))))
end
abbrev jv:Stmt:=top 41
abbrev jE:List Str:=["_law_state","_law_most","_law_odd"]
theorem jd:aD ["_law_state","_law_most","_law_odd","_law_world_here","_law_deeds","_law_k","_law_deed","_law_rows"] jE (ak jv):=by walk_at "s"
theorem ox:Rc "_law_program" jv:=by ac_nf
noncomputable def gy:Fn:=G3 8
  (av (aV 3 (ax ja (a3 v0 v1 v2)))
  (av (aV 4 (zG aL))
  (av (iR (pV (a1 (ar aT v3 (ks "deeds")))) (gT 2 (au (gN 5) (au (gN 6) bY))) (av (aV 7 (ax (bQ 20) (ag v0 (ag v3 (ag v5 (a4 (ki 1) (t8 iL (ki 1)) (fX aL) (ax aN (a2 v0 (eK (.lv [.int 1,.int 2,.int 3,.int 4,.int 12]))))))))))
  (gO (eM dA eJ v4 (a1 (ax aW (a3 v6 (ax fS (a1 (ar aT (ar aT v3 (ks "params")) v5))) v7)))))))
  (bh (ax aW (a2 (ax fS (a1 (ax F6 (a1 (ar aT v3 (ks "names")))))) (ax fS (a1 v4))))))))
abbrev rL:Stmt:=top 42
abbrev sr:List Str:=["_law_state"]
theorem yi:aD ["_law_state"] sr (ak rL):=by walk_at "s"
theorem wL:Rc "_law_any" rL:=by ac_nf
noncomputable def lP:Fn:=jJ 1
  (bh (ax gy (a3 v0 (ax aN (a2 v0 (eK (.lv [.int 4,.int 8,.int 12,.int 20,.int 40,.int 60])))) (ax aN (a2 v0 (eK (.lv [.int 0,.int 2,.int 5,.int 9])))))))
abbrev ik:Stmt:=top 43
abbrev ix:List Str:=["_law_term_here"]
theorem lX:aD ["_law_term_here","_law_word","_law_more"] ix (ak ik):=by walk_at "s"
theorem lh:Rc "_law_term_text" ik:=by ac_nf
noncomputable def bz:Fn:=jJ 3
  (av (fE v0 (gT 2 (au (gN 1) (au (gN 2) bY))))
  (av (fz (D9 (aJ (ar cS v1 (ks ""))) (aJ (ar cS v2 (ki 0)))) (bh (Mq v1 (ax y4 (a1 v2)))) cf)
  (bh (ar aw (ar aw v1 (ar iB (ks "+") (ax oP (a1 (ar t7 v2 (ki 0)))))) (ax y4 (a1 v2))))))
abbrev ip:Stmt:=top 44
abbrev iy:List Str:=["_law_lock_here"]
theorem lY:aD ["_law_lock_here"] iy (ak ip):=by walk_at "s"
theorem lj:Rc "_law_lock_text" ip:=by ac_nf
noncomputable def bR:Fn:=jJ 1
  (bh (ar aw (ar aw (ar aT v0 (ki 0)) (ks ":")) (ax bz (a1 (ar aT v0 (ki 1))))))
abbrev pA:Stmt:=top 45
abbrev pL:List Str:=["_law_row_here"]
theorem wD:aD ["_law_row_here"] pL (ak pA):=by walk_at "s"
theorem uq:Rc "_law_head" pA:=by ac_nf
noncomputable def jV:Fn:=jJ 1
  (av (fz (aJ (ar cS (ar aT v0 (ki 0)) (ks "say"))) (bh (ar aw (ks "say ") (ar aT v0 (ki 1)))) cf)
  (av (fz (aJ (ar cS (ar aT v0 (ki 0)) (ks "call"))) (bh (eM isStr pQ (ks " ") (a1 (ar aw (fX (a2 (ks "call") (ar aT v0 (ki 1)))) (fX (cI [none] (dm (ar aT v0 (ki 2))) (gN 0) cz (ax bz (a1 v0)))))))) cf)
  (av (fz (aJ (ar cS (ar aT v0 (ki 0)) (ks "all"))) (bh (eM isStr pQ (ks " ") (a1 (ar aw (fX (a1 (ks "all"))) (fX (cI [none] (dm (ar aT v0 (ki 1))) (gN 0) cz (ax bR (a1 v0)))))))) cf)
  (av (fz (aJ (ar M8 (ar aT v0 (ki 0)) (ax aW (a2 (ks "within") (ks "ask"))))) (bh (ar aw (ar aw (ar aT v0 (ki 0)) (ks " ")) (ax bR (a1 (ar aT v0 (ki 1)))))) cf)
  (av (fz (aJ (ar cS (ar aT v0 (ki 0)) (ks "by"))) (bh (ar aw (ar aw (ar aw (ks "by ") (ax bz (a1 (ar aT v0 (ki 1))))) (ks " ")) (ax bz (a1 (ar aT v0 (ki 2)))))) cf)
  (bh (ar aT v0 (ki 0))))))))
abbrev il:Stmt:=top 46
abbrev fe:List Str:=["_law_lot_here","_law_first"]
theorem bE:aD ["_law_lot_here","_law_first","_law_found","_law_number","_law_row_here","_law_mine","_law_first_lot","_law_lots","_law_place","_law_inner","_law_lines_here"] fe (ak il):=by walk_at "s"
theorem gi:Rc "_law_lot_lines" il:=by ac_nf
noncomputable def bA:Nat->Fn
 | 0=>λ_ _=>none
 | n+1=>jJ 11
  (av (ue 2 3 (a2 (zG aL) v1))
  (av (iR (dm v0) (gN 4) (av (aV 5 v3)
  (av (gO (eM dA eJ v2 (a1 (ax aW (a2 v5 (ax jV (a1 v4)))))))
  (av (aV 3 (ar aw v3 (ki 1)))
  (av (aV 6 (eM FV LP (JU (eU (ks "say") (ki 2) (eU (ks "call") (ki 3) (eU (ks "by") (ki 3) (eU (ks "either") (ki 1) (eU (ks "again") (ki 1) Ik)))))) (a2 (ar aT v4 (ki 0)) (ki 2))))
  (av (aV 7 (iD v4 (uv v6) wW))
  (av (iR (pV (a1 v7)) (gT 2 (au (gN 8) (au (gN 9) bY))) (av (aV 2 (zG (DD v2 (ar uH (fX (a1 (ax aW (a2 v5 (ks "or"))))) (ax oP (a1 (ar t7 v8 (ki 0))))))))
  (av (fE (ax (bA n) (a2 v9 v3)) (gT 2 (au (gN 10) (au (gN 3) bY))))
  (aV 2 (zG (DD v2 v10))))))
  (aV 2 (zG (DD v2 (ar uH (fX (a1 (ax aW (a2 v5 (ks "end"))))) (ax oP (a1 (ar t7 (ax cG (a1 v7)) (ki 0)))))))))))))))
  (bh (ax aW (a2 v2 v3)))))
abbrev mn:Stmt:=top 47
abbrev mP:List Str:=["_law_program_here"]
theorem fw:aD ["_law_program_here","_law_found","_law_number","_law_deed","_law_params","_law_rows","_law_lines_here"] mP (ak mn):=by walk_at "s"
theorem rW:Rc "_law_lines" mn:=by ac_nf
noncomputable def gf:Fn:=G3 7
  (av (ue 1 2 (a2 (fX (a1 (ax aW (a2 (t8 iL (ki 1)) (eM isStr pQ (ks " ") (a1 (ar aw (ax aW (a1 (ks "locks"))) (ar aT v0 (ki 0))))))))) (ki 0)))
  (av (iR (dm (ar aT v0 (ki 1))) (gT 3 (au (gN 3) (au (gN 4) (au (gN 5) bY)))) (av (fE (ax (bA 8) (a2 v5 v2)) (gT 2 (au (gN 6) (au (gN 2) bY))))
  (aV 1 (ar aw (ar aw (ar aw v1 (fX (a1 (ax aW (a2 (t8 iL (ki 1)) (eM isStr pQ (ks " ") (a1 (ar aw (ax aW (a2 (ks "deed") v3)) v4)))))))) v6) (fX (a1 (ax aW (a2 (t8 iL (ki 1)) (ks "end")))))))))
  (bh v1)))
abbrev mj:Stmt:=top 48
abbrev mM:List Str:=["_law_lines_here"]
theorem uc:aD ["_law_lines_here"] mM (ak mj):=by walk_at "s"
theorem rV:Rc "_law_texts" mj:=by ac_nf
noncomputable def gd:Fn:=jJ 1
  (bh (fX (cI [none,none] (dm v0) (gT 2 (au (gN 0) (au (gN 1) bY))) cz v1)))
abbrev rJ:Stmt:=top 51
abbrev so:List Str:=["_law_lines_here","_law_number","_law_lock_here"]
theorem dZ:aD ["_law_lines_here","_law_number","_law_lock_here","_law_places","_law_first","_law_last","_law_before","_law_behind"] so (ak rJ):=by walk_at "s"
theorem wK:Rc "_law_put" rJ:=by ac_nf
noncomputable def lO:Fn:=jJ 8
  (av (aV 3 (fX (cI [none,none,some 1] (pV (a1 v0)) (gT 2 (au (gN 0) (au (gN 1) bY))) (aJ (ar cS (ar aT v1 (ki 0)) v2)) v0)))
  (av (ue 4 5 (a2 (ar aT v3 (ki 0)) (ar aT v3 (t8 iL (ki 1)))))
  (av (ue 6 7 (a2 (ar aw (iD v0 wW (uv v4)) (fX (a1 (ax aW (a2 (t8 iL (ki 2)) (ar aw (ks "within ") (ax bR (a1 v2)))))))) (ar aw (fX (a1 (ax aW (a2 (t8 iL (ki 2)) (ks "end"))))) (iD v0 (uv (ar aw v5 (ki 1))) wW))))
  (bh (ar aw (ar aw v6 (iD v0 (uv v4) (uv (ar aw v5 (ki 1))))) v7)))))
abbrev jw:Stmt:=top 49
abbrev jF:List Str:=["_law_texts_here"]
theorem dH:aD ["_law_texts_here","_law_counts","_law_most","_law_deep","_law_rows","_law_text","_law_word"] jF (ak jw):=by walk_at "s"
theorem oy:Rc "_law_measure" jw:=by ac_nf
noncomputable def eR:Fn:=G3 7
  (av (fE (ax aW (a4 (zG aL) (ki 0) (ki 0) (ki 0))) (gT 4 (au (gN 1) (au (gN 2) (au (gN 3) (au (gN 4) bY))))))
  (av (iR (dm (iD v0 (uv (ki 1)) wW)) (gN 5) (av (aV 6 (ar aT (eM isStr sG v5 (a1 (ks " "))) (ki 0)))
  (fz (aJ (ar cS v5 (ks "or"))) (fE (ki 0) (qu v1 (t8 iL (ki 1)))) (fz (aJ (ar cS v5 (ks "end"))) (gO (eM dA Iy v1 aL)) (av (fz (aJ (ar nj v1 (fX aL))) (av (fE (ar aw (ar aT v1 (t8 iL (ki 1))) (ki 1)) (qu v1 (t8 iL (ki 1))))
  (ue 4 2 (a2 (ar aw v4 (ki 1)) (ax sY (a2 v2 (ar aT v1 (t8 iL (ki 1)))))))) cf)
  (fz (aJ (ar oO v6 (ax aW (a2 (ks "say") (ks "call"))))) (av (gO (eM dA eJ v1 (a1 (ki 0))))
  (aV 3 (ax sY (a2 v3 (ax cG (a1 v1)))))) cf))))))
  (bh (ax aW (a3 v2 v3 v4)))))
abbrev uQ:Stmt:=top 17
abbrev vh:List Str:=["row"]
theorem z5:aD ["row"] vh (ak uQ):=by walk_at "s"
theorem yl:Rc "lots_of" uQ:=by ac_nf
noncomputable def cR:Fn:=jJ 1
  (bh (iD v0 (uv (ar aT (t8 (IT eX) (ar aT v0 (ki 0))) (ki 0))) wW))
abbrev rD:Stmt:=top 18
abbrev lq:List Str:=["lot","ahead"]
theorem yf:aD ["lot","ahead","found","number","row","path","at","inner"] lq (ak rD):=by walk_at "s"
theorem my:Rc "paths_in" rD:=by ac_nf
noncomputable def dU:Nat->Fn
 | 0=>λ_ _=>none
 | n+1=>G3 8
  (av (aV 2 (zG aL))
  (av (iR (pV (a1 v0)) (gT 2 (au (gN 3) (au (gN 4) bY))) (av (aV 5 (ar aw v1 (ax aW (a1 v3))))
  (av (gO (eM dA eJ v2 (a1 (ax aW (a2 v5 v4)))))
  (iR (pV (a1 (ax cR (a1 v4)))) (gT 2 (au (gN 6) (au (gN 7) bY))) (gO (eM dA kd v2 (a1 (ax (dU n) (a2 v7 (ar aw v5 (ax aW (a1 v6))))))))))))
  (bh v2)))
abbrev ph:Stmt:=top 19
abbrev pG:List Str:=["program"]
theorem wA:aD ["program","found","deed","name","params","rows"] pG (ak ph):=by walk_at "s"
theorem uf:Rc "places_of" ph:=by ac_nf
noncomputable def cj:Fn:=G3 6
  (av (aV 1 (zG aL))
  (av (iR (pV (a1 (ar aT v0 (ki 1)))) (gT 2 (au (gN 2) (au (gT 3 (au (gN 3) (au (gN 4) (au (gN 5) bY)))) bY))) (gO (eM dA kd v1 (a1 (fX (cI [none,none,some 2] (dm (ax (dU 8) (a2 v5 (ax aW aL)))) (gT 2 (au (gN 0) (au (gN 1) bY))) cz (ax aW (a3 v2 v0 v1))))))))
  (bh v1)))
abbrev rC:Stmt:=top 21
abbrev ll:List Str:=["program","number"]
theorem jr:aD ["program","number","places"] ll (ak rC):=by walk_at "s"
theorem mx:Rc "place_of" rC:=by ac_nf
noncomputable def gw:Fn:=jJ 3
  (av (aV 2 (ax cj (a1 v0)))
  (av (fz (jm (aJ (gq Gb F9 (ki 0) v1 (ax cG (a1 v2))))) k6 cf)
  (bh (ar aT v2 v1))))
abbrev uT:Stmt:=top 24
abbrev oD:List Str:=["lot","deep"]
theorem z8:aD ["lot","deep"] oD (ak uT):=by walk_at "s"
theorem pD:Rc "deepest" uT:=by ac_nf
noncomputable def bI:Nat->Fn
 | 0=>λ_ _=>none
 | n+1=>jJ 2
  (bh (Gk (a1 (Mr [none,none,some 1] (dm v0) (gN 0) cz (pP (dm (ax cR (a1 v0))) (gN 1) cz (mL (ax (bI n) (a2 v1 (ar aw v2 (ki 1)))))) [] .lv)) v1))
abbrev kK:Stmt:=top 10
abbrev kP:List Str:=["thing","many"]
theorem rA:aD ["thing","many"] kP (ak kK):=by walk_at "s"
theorem qj:Rc "is_tuple_of" kK:=by ac_nf
noncomputable def fD:Fn:=jJ 2
  (bh (zc (ax y8 (a2 v0 (eK (.ty "tuple")))) (ar cS (ax cG (a1 v0)) v1)))
abbrev rG:Stmt:=top 9
abbrev sj:List Str:=["thing"]
theorem yg:aD ["thing"] sj (ak rG):=by walk_at "s"
theorem wJ:Rc "is_whole" rG:=by ac_nf
noncomputable def lN:Fn:=jJ 1
  (bh (zc (ax y8 (a2 v0 (eK (.ty "int")))) (OU (ax y8 (a2 v0 (eK (.ty "bool")))))))
abbrev uR:Stmt:=top 11
abbrev vi:List Str:=["thing","params"]
theorem z6:aD ["thing","params","word","figure"] vi (ak uR):=by walk_at "s"
theorem ym:Rc "is_term" uR:=by ac_nf
noncomputable def kC:Fn:=jJ 4
  (av (fz (jm (lT (ax fD (a2 v0 (ki 2))))) (bh (eK (.bl false))) cf)
  (av (fE v0 (gT 2 (au (gN 2) (au (gN 3) bY))))
  (av (fz (D9 (jm (lT (ax y8 (a2 v2 (eK (.ty "str")))))) (jm (lT (ax lN (a1 v3))))) (bh (eK (.bl false))) cf)
  (bh (zc (Q0 (ar cS v2 (ks "")) (ar M8 v2 v1)) (gq Gb Gb (t8 iL (ki 99)) v3 (ki 99)))))))
abbrev uS:Stmt:=top 12
abbrev vj:List Str:=["thing","names","params"]
theorem z7:aD ["thing","names","params","name","term"] vj (ak uS):=by walk_at "s"
theorem yn:Rc "is_lock" uS:=by ac_nf
noncomputable def iJ:Fn:=jJ 5
  (av (fz (jm (lT (ax fD (a2 v0 (ki 2))))) (bh (eK (.bl false))) cf)
  (av (fE v0 (gT 2 (au (gN 3) (au (gN 4) bY))))
  (bh (zc (ax y8 (a2 v3 (eK (.ty "str")))) (zc (ar M8 v3 v1) (ax kC (a2 v4 v2)))))))
abbrev rE:Stmt:=top 22
abbrev lr:List Str:=["lot","path","some"]
theorem jt:aD ["lot","path","some","at","row","place"] lr (ak rE):=by walk_at "s"
theorem mz:Rc "lot_with" rE:=by ac_nf
noncomputable def dW:Nat->Fn
 | 0=>λ_ _=>none
 | n+1=>jJ 6
  (av (aV 3 (ar aT v1 (ki 0)))
  (av (fz (aJ (ar t7 (ax cG (a1 v1)) (ki 1))) (av (aV 4 (ar aT v0 v3))
  (av (aV 5 (ar aw (ar aT (t8 (IT eX) (ar aT v4 (ki 0))) (ki 0)) (ar aT v1 (ki 1))))
  (aV 2 (ax aW (a1 (ar aw (ar aw (iD v4 wW (uv v5)) (ax aW (a1 (ax (dW n) (a3 (ar aT v4 v5) (iD v1 (uv (ki 2)) wW) v2))))) (iD v4 (uv (ar aw v5 (ki 1))) wW))))))) cf)
  (bh (ar aw (ar aw (iD v0 wW (uv v3)) v2) (iD v0 (uv (ar aw v3 (ki 1))) wW)))))
abbrev ju:Stmt:=top 23
abbrev jD:List Str:=["program","deed","path","some"]
theorem qi:aD ["program","deed","path","some","names","deeds","name","params","rows"] jD (ak ju):=by walk_at "s"
theorem ou:Rc "program_with" ju:=by ac_nf
noncomputable def gv:Fn:=jJ 9
  (av (fE v0 (gT 2 (au (gN 4) (au (gN 5) bY))))
  (av (fE (ar aT v5 v1) (gT 3 (au (gN 6) (au (gN 7) (au (gN 8) bY)))))
  (bh (ax aW (a2 v4 (ar aw (ar aw (iD v5 wW (uv v1)) (ax aW (a1 (ax aW (a3 v6 v7 (ax (dW 6) (a3 v8 v2 v3))))))) (iD v5 (uv (ar aw v1 (ki 1))) wW)))))))
abbrev pf:Stmt:=top 25
abbrev jC:List Str:=["program","number","lock"]
theorem bT:aD ["program","number","lock","deed","path","row","deep"] jC (ak pf):=by walk_at "s"
theorem kO:Rc "with_lock" pf:=by ac_nf
noncomputable def gZ:Fn:=jJ 7
  (av (fE (ax gw (a2 v0 v1)) (gT 3 (au (gN 3) (au (gN 4) (au (gN 5) bY)))))
  (av (aV 6 (ar aw (ar xx (ax cG (a1 v4)) (ki 2)) (ki 1)))
  (av (fz (aJ (ar t7 (ax (bI 8) (a2 (ax aW (a1 v5)) (ar aw v6 (ki 1)))) (ki 5))) k6 cf)
  (av (fz (aJ (ar IY (ax cG (a1 (ax cj (a1 v0)))) (ki 60))) k6 cf)
  (av (fz (jm (lT (ax iJ (a3 v2 (ar aT v0 (ki 0)) (ar aT (ar aT (ar aT v0 (ki 1)) v3) (ki 1)))))) k6 cf)
  (bh (ax gv (a4 v0 v3 v4 (ax aW (a1 (ax aW (a3 (ks "within") v2 (ax aW (a1 v5))))))))))))))
abbrev mm:Stmt:=top 52
abbrev mO:List Str:=["_law_program_here","_law_lines_here","_law_number","_law_lock_here"]
theorem kJ:aD ["_law_program_here","_law_lines_here","_law_number","_law_lock_here","_law_due","_law_most","_law_deep","_law_rows","_law_turn"] mO (ak mm):=by walk_at "s"
theorem jy:Rc "_law_right" mm:=by ac_nf
abbrev l9:Stmt:=top 53
abbrev JM:List Str:=["_law_script"]
theorem Ey:aD ["_law_script","_law_state","_law_turn","_law_program_here","_law_lines_here","_law_params","_law_deed","_law_some","_law_rows","_law_number","_law_term_here"] JM (ak l9):=by walk_at "s"
theorem HD:Rc "law" l9:=by ac_nf
abbrev cF:Stmt:=top 50
abbrev sm:List Str:=["_law_call_here"]
theorem fO:aD ["_law_call_here","_law_caught","e","_law_marks"] sm (ak cF):=by walk_at "s"
theorem ow:Rc "_law_refused" cF:=by ac_nf
noncomputable def uK:SM:=
 (av (fz (D9 (aJ (ar Ml (ay 1) (eK .cq))) (jm (lT (oS gz "ValueError" (ay 1))))) (bh (eK (.str ""))) cf)
  (av (aV 3 (fX (ag (oS gz "NoRow" (ay 1)) (ag (oS gz "NoLock" (ay 1)) (ag (oS gz "NoText" (ay 1)) aL)))))
  (av (aV 3 (ar aw (ay 3) (fX (ag (oS gz "NoLine" (ay 1)) (ag (oS gz "NoStep" (ay 1)) aL)))))
  (av (fz (aJ (ar nj (eM dA BJ (ay 3) (ag (eK (.bl true)) aL)) (eK (.int 1)))) (bh (eK (.str "two"))) cf)
  (bh (ar aT (eK (.lv [.str "NoRow",.str "NoLock",.str "NoText",.str "NoLine",.str "NoStep"])) (eM dA BI (ay 3) (ag (eK (.bl true)) aL))))))))
noncomputable def i8:Xn:=OE 3
  (vZ (aV 2 (ax cj (ag (ay 0) aL)))
  (Hf (jm (aJ (gq Gb F9 (eK (.int 0)) (ay 1) (ax cG (ag (ay 2) aL))))) (kX "NoRow" (ag (eK (.str "there is no row of this number")) aL)) Ni))
noncomputable def eh:Xn:=OE 7
  (He (Kj i8 (ag (ay 0) (ag (ay 1) aL))) (vZ (fE (ax gw (ag (ay 0) (ag (ay 1) aL))) (gT 3 (au (gN 3) (au (gN 4) (au (gN 5) bY)))))
  (vZ (aV 6 (ar aw (ar xx (ax cG (ag (ay 4) aL)) (eK (.int 2))) (eK (.int 1))))
  (He (Hf (aJ (ar t7 (ax (bI 8) (ag (ax aW (ag (ay 5) aL)) (ag (ar aw (ay 6) (eK (.int 1))) aL))) (eK (.int 5)))) (kX "NoRow" (ag (eK (.str "a lot would stand too deep")) aL)) Ni) (vZ (fz (aJ (ar t7 (ax (bI 8) (ag (ax aW (ag (ay 5) aL)) (ag (ar aw (ay 6) (eK (.int 1))) aL))) (eK (.int 5)))) k6 cf)
  (He (Hf (aJ (ar IY (ax cG (ag (ax cj (ag (ay 0) aL)) aL)) (eK (.int 60)))) (kX "NoRow" (ag (eK (.str "there would be too many rows")) aL)) Ni) (vZ (fz (aJ (ar IY (ax cG (ag (ax cj (ag (ay 0) aL)) aL)) (eK (.int 60)))) k6 cf)
  (Hf (jm (lT (ax iJ (ag (ay 2) (ag (ar aT (ay 0) (eK (.int 0))) (ag (ar aT (ar aT (ar aT (ay 0) (eK (.int 1))) (ay 3)) (eK (.int 1))) aL)))))) (kX "NoLock" (ag (eK (.str "this is no lock of the program's names and the deed's params")) aL)) Ni))))))))
noncomputable def eQ:Fn:=jJ 9
  (av (aV 4 (ax gd (a1 (ax lO (a3 v1 v2 v3)))))
  (av (fE (ax eR (a1 v4)) (gT 3 (au (gN 5) (au (gN 6) (au (gN 7) bY)))))
  (av (fz (D9 (aJ (ar t7 v6 (ki 5))) (aJ (ar t7 v7 (ki 60)))) (bh (ar cS (fI tJ [some 3,some 2,some 0] uK (Kj eh (a3 v2 v1 v0)) (ax gZ (a3 v2 v1 v0))) (ks "NoRow"))) cf)
  (av (iR (qt (a1 (ki 2))) (gN 8) (fz (aJ (ar nj (ax gd (a1 (ax gf (a1 (ax gZ (a3 v0 v2 v3)))))) v4)) (bh (eK (.bl false))) cf))
  (bh (eK (.bl true)))))))
noncomputable def zD:Fn:=jJ 11
  (av (aV 1 (ax gg (a1 v0)))
  (av (iR (qt (a1 (ki 2))) (gN 2) (av (aV 3 (ax lP (a1 v1)))
  (av (aV 4 (ax gf (a1 v3)))
  (av (aV 5 (fX aL))
  (av (iR (dm (ar aT v3 (ki 1))) (gT 3 (au (gN 6) (au (gN 7) (au (gN 8) bY)))) (aV 5 (ar aw v5 (ar uH (fX (a1 v7)) (ar aT (ax (bA 8) (a2 v8 (ki 0))) (ki 1))))))
  (iR (qt (a1 (ax cG (a1 v5)))) (gN 9) (av (aV 10 (ax aW (a2 (ks "") (ar xt (ax aR (a2 v1 (ki 199))) (ki 99)))))
  (av (fz (n4 (aJ (ar Mj (ar aT v5 v9) (ax aW aL))) (aJ (ar t7 (ax aR (a2 v1 (ki 3))) (ki 0)))) (aV 10 (ax aW (a2 (ax aN (a2 v1 (ar aT v5 v9))) (ar xt (ax aR (a2 v1 (ki 199))) (ki 99))))) cf)
  (fz (jm (lT (ax eQ (a4 v3 v4 v9 (ax aW (a2 (ax aN (a2 v1 (ar aT v3 (ki 0)))) v10)))))) (bh (eK (.bl false))) cf)))))))))
  (bh (eK (.bl true)))))
structure Cc where
 l:PySem.W.OpenLaw
 w:World
 h:Heap
 mg:Str->Option Value
 base:Heap
section
variable (c:Cc)
abbrev nM:Prop:=Df c.l.prog c.w (Hd.aE c.h) c.mg c.base "_law_drawn" 1 mQ 1 gg
abbrev qc:Prop:=Df c.l.prog c.w (Hd.aE c.h) c.mg c.base "_law_load" 1 pK 1 jU
abbrev cB:Prop:=Df c.l.prog c.w (Hd.aE c.h) c.mg c.base "_law_next" 2 pI 2 aR
abbrev dw:Prop:=Df c.l.prog c.w (Hd.aE c.h) c.mg c.base "_law_of" 3 vm 2 aN
abbrev nG:Prop:=Df c.l.prog c.w (Hd.aE c.h) c.mg c.base "_law_words" 4 mK 2 eP
abbrev nF:Prop:=Df c.l.prog c.w (Hd.aE c.h) c.mg c.base "_law_world" 5 mJ 3 ja
abbrev ia:Prop:=Df c.l.prog c.w (Hd.aE c.h) c.mg c.base "_law_is_odd" 3 kQ 2 dG
abbrev gY:Prop:=Df c.l.prog c.w (Hd.aE c.h) c.mg c.base "_law_term" 4 pH 2 ck
abbrev qf:Prop:=Df c.l.prog c.w (Hd.aE c.h) c.mg c.base "_law_call" 5 pM 4 g0
abbrev qb:Prop:=Df c.l.prog c.w (Hd.aE c.h) c.mg c.base "_law_lock" 5 pJ 5 fM
abbrev Bc:Prop:=Df c.l.prog c.w (Hd.aE c.h) c.mg c.base "_law_lot" 26 lx 7 (bQ 20)
abbrev MT:Prop:=Df c.l.prog c.w (Hd.aE c.h) c.mg c.base "_law_row" 26 lu 6 (gx 20)
abbrev G7:Prop:=Df c.l.prog c.w (Hd.aE c.h) c.mg c.base "_law_locked" 26 g9 7 (dE 20)
abbrev DL:Prop:=Df c.l.prog c.w (Hd.aE c.h) c.mg c.base "_law_two_ways" 26 fQ 6 (cO 20)
abbrev jR:Prop:=Df c.l.prog c.w (Hd.aE c.h) c.mg c.base "_law_program" 27 jE 3 gy
abbrev tX:Prop:=Df c.l.prog c.w (Hd.aE c.h) c.mg c.base "_law_any" 28 sr 1 lP
abbrev fu:Prop:=Df c.l.prog c.w (Hd.aE c.h) c.mg c.base "_law_term_text" 1 ix 1 bz
abbrev fv:Prop:=Df c.l.prog c.w (Hd.aE c.h) c.mg c.base "_law_lock_text" 2 iy 1 bR
abbrev qe:Prop:=Df c.l.prog c.w (Hd.aE c.h) c.mg c.base "_law_head" 3 pL 1 jV
abbrev iI:Prop:=Df c.l.prog c.w (Hd.aE c.h) c.mg c.base "_law_lot_lines" 12 fe 2 (bA 8)
abbrev i9:Prop:=Df c.l.prog c.w (Hd.aE c.h) c.mg c.base "_law_lines" 13 mP 1 gf
abbrev nJ:Prop:=Df c.l.prog c.w (Hd.aE c.h) c.mg c.base "_law_texts" 1 mM 1 gd
abbrev tW:Prop:=Df c.l.prog c.w (Hd.aE c.h) c.mg c.base "_law_put" 3 so 3 lO
abbrev jS:Prop:=Df c.l.prog c.w (Hd.aE c.h) c.mg c.base "_law_measure" 1 jF 1 eR
abbrev oW:Prop:=Df c.l.prog c.w (Hd.aE c.h) c.mg c.base "lots_of" 1 vh 1 cR
abbrev Ba:Prop:=Df c.l.prog c.w (Hd.aE c.h) c.mg c.base "paths_in" 10 lq 2 (dU 8)
abbrev fL:Prop:=Df c.l.prog c.w (Hd.aE c.h) c.mg c.base "places_of" 11 pG 1 cj
abbrev lL:Prop:=Df c.l.prog c.w (Hd.aE c.h) c.mg c.base "place_of" 12 ll 2 gw
abbrev vX:Prop:=Df c.l.prog c.w (Hd.aE c.h) c.mg c.base "deepest" 10 oD 2 (bI 8)
abbrev hW:Prop:=Df c.l.prog c.w (Hd.aE c.h) c.mg c.base "is_tuple_of" 1 kP 2 fD
abbrev tV:Prop:=Df c.l.prog c.w (Hd.aE c.h) c.mg c.base "is_whole" 1 sj 1 lN
abbrev vW:Prop:=Df c.l.prog c.w (Hd.aE c.h) c.mg c.base "is_term" 2 vi 2 kC
abbrev oX:Prop:=Df c.l.prog c.w (Hd.aE c.h) c.mg c.base "is_lock" 3 vj 3 iJ
abbrev Bb:Prop:=Df c.l.prog c.w (Hd.aE c.h) c.mg c.base "lot_with" 7 lr 3 (dW 6)
abbrev jQ:Prop:=Df c.l.prog c.w (Hd.aE c.h) c.mg c.base "program_with" 8 jD 4 gv
abbrev qa:Prop:=Df c.l.prog c.w (Hd.aE c.h) c.mg c.base "with_lock" 13 jC 3 gZ
abbrev nK:Prop:=Df c.l.prog c.w (Hd.aE c.h) c.mg c.base "_law_right" 16 mO 4 eQ
abbrev RH:Prop:=RB c.l.prog c.w (Hd.aE c.h) c.mg c.base "_law_refused" uK tJ
abbrev qg:Prop:=Hd.Dx c.l.prog c.w (Hd.aE c.h) c.mg c.base "place_of" 12 ll 2 i8
abbrev nN:Prop:=Hd.Dx c.l.prog c.w (Hd.aE c.h) c.mg c.base "with_lock" 13 jC 3 eh
structure Xr:Prop where
 xT:∃C,DE c.mg c.base "NoRow" C
 GW:∃C,DE c.mg c.base "NoLock" C
end
section
variable {c:Cc} {mb:Str->Option Value} {mean:ExcName->Option Value} (T:Top view (PySem.W.looseW view (["SHAPES"]:List Str)) mean c.mg mb c.h) (B:Bs c.l.prog c.w (Hd.aE c.h) c.mg)
include T B
theorem uD:nM c:=Hd.bq T rX λF _ _ _=>
 (aQ F ud λ_ _ _ _ _ _ hr _=>by walk_at "v";with_reducible exact(aI (bL (lM.ob (dO (aa aH (aa (lM.ob (Hr (by unfold Gl;ac_nf) B.GP B5 (by ac_rfl) (ah aA))) (by ac_rfl))) (ah (ah (ah aA))))))))
theorem xc:qc c:=Hd.bq T uo λF _ _ _=>
 (aQ F iQ λ_ _ _ _ _ _ hr _=>by walk_at "v";with_reducible exact(ae (by ac_rfl)
   (ae (by ac_rfl)
   (ae (eY (by ac_rfl) (jo hr.units (sv 0) aH))
   (ae (by ac_rfl)
   (ae (by ac_rfl)
   (aI (cc (SW.st (zT (by ac_rfl) (Bj (gh yG (by ac_rfl) (aX Ft aH aH) (fg _))))) (aI (eY (by ac_rfl) (jo hr.units (sv 0) aH))) (ae (sset 4 iQ.nd (aX sA (aX gQ (aX aY (aX aY (by ac_rfl) (aX gQ (aX gQ aH (sv 2)) (sv 2))) aH) aH) aH))
   (ae (sset 4 iQ.nd (aX sA (aX gQ (sv 4) (sv 4)) aH))
   (aI (eY (aX aY (aX sA (aX aY (aX aY (aX gQ (sv 4) aH) (sv 2)) aH) aH) (aX Ft aH aH)) (jo hr.units (sv 0) aH)))))))))))))
theorem xa(d13:qc c):cB c:=Hd.bq T uh λF _ _ _=>
 (aQ F wC λ_ _ _ _ _ _ hr _=>by walk_at "v";with_reducible exact(ae (by ac_rfl)
   (ae (by ac_rfl)
   (ae (eY (aX Am (by ac_rfl) (sv 1)) (jo hr.units (sv 0) aH))
   (by ac_rfl)))))
theorem Ar(d14:cB c):dw c:=Hd.bq T yo λF _ _ _=>
 (aQ F z9 λ_ _ _ _ _ _ hr _=>by walk_at "u")
theorem uz(d15:dw c)(d14:cB c):nG c:=Hd.bq T rT λF _ _ _=>
 (aQ F kI λ_ _ _ _ _ _ hr _=>by walk_at "v";with_reducible exact(ae (by ac_rfl)
   (ae (by ac_rfl)
   (ae (cV Tz rfl (cP (by unfold Gl;ac_nf) B.eO (aa (fN d15 hr (aa (sv 0) (aa (dh 9 (by ac_nf)) aq))) aq) (hl:=(ah aA))) (by ac_rfl) (by ac_rfl))
   (ae (by ac_rfl)
   (ae (by ac_rfl)
   (ae (sset 7 kI.nd (fN d15 hr (aa (sv 0) (aa (dh 9 (by ac_nf)) aq))))
   (aI (bL (gL (N':=["_law_k","_law_at","_law_first","_law_letters","_law_stem","_law_stride"]) (caps:=[none,some 5,some 6,some 2,some 3,some 7]) (bx (by ac_nf)) rfl (cP (by unfold Gl;ac_nf) B.eO (by ac_rfl) (hl:=(ah aA))) (λ_ _ _ _ _=>(sgn 0 (by show(["_law_k","_law_at","_law_first","_law_letters","_law_stem","_law_stride"]:List Str).Nodup;decide+kernel))) (λ_ _ _ _ _=>dg) (λ_ _ _ _ _=>(aX aY (aX aY (by ac_rfl) (six hr (sv 3) (aX sA (aX aY (sv 2) (aX gQ (sv 5) (sv 0))) aH))) (by ac_rfl)))))))))))))
theorem uy(d16:nG c)(d15:dw c)(d14:cB c):nF c:=Hd.bq T rR λF _ _ _=>
 (aQ F cQ λ_ _ _ _ _ _ hr _=>by walk_at "v";with_reducible exact(ae (sset 3 cQ.nd (fN d16 hr (aa (sv 0) (aa (fN d15 hr (aa (sv 0) (aa (dh 9 (by ac_nf)) aq))) aq))))
   (ae (sset 4 cQ.nd (fN d16 hr (aa (sv 0) (aa (fN d15 hr (aa (sv 0) (aa (dh 9 (by ac_nf)) aq))) aq))))
   (ae (by ac_rfl)
   (ae (iO (i:=6) cQ.nd (by ac_nf) (by ac_nf) (N':=["_law_deed","_law_state"]) (caps:=[none,some 0]) (bx (by ac_nf)) rfl (g7 (sv 4)) (λ_ _ _ _ _=>(sgn 0 (by show(["_law_deed","_law_state"]:List Str).Nodup;decide+kernel))) (λ_ _ _ _ _=>dg) (λ_ _ _ _ _=>(fN d15 hr (aa (sv 1) (aa (dh 9 (by ac_nf)) aq)))))
   (ae (sset 7 cQ.nd (zE Gu B.zw vL (aa (gL (N':=["_law_deed","_law_names","_law_state"]) (caps:=[none,some 3,some 0]) (bx (by ac_nf)) rfl (g7 (sv 4)) (λ_ _ _ _ _=>(sgn 0 (by show(["_law_deed","_law_names","_law_state"]:List Str).Nodup;decide+kernel))) (λ_ _ _ _ _=>dg) (λ_ _ _ _ _=>(by ac_rfl))) aq)))
   (ae (sset 5 cQ.nd (gL (N':=["_law_k","_law_params"]) (caps:=[none,some 5]) (bx (by ac_nf)) rfl (g7 (sv 6)) (λ_ _ _ _ _=>(sgn 0 (by show(["_law_k","_law_params"]:List Str).Nodup;decide+kernel))) (λ_ _ _ _ _=>dg) (λ_ _ _ _ _=>(by ac_rfl))))
   (aI (bL (Es (eG bc (sv 3) (eG bc (sv 4) (eG bc (sv 5) (eG bc (sv 7) (eG bc (sv 1) (eG bc (sv 2) Ei)))))) (by ac_nf) (by ac_nf) (by simp) λtrs h=>By h (by ac_nf) (by ac_nf) (by simp) (by decide)))))))))))
theorem sE(d14:cB c):ia c:=Hd.bq T qk λF _ _ _=>
 (aQ F rB λ_ _ _ _ _ _ hr _=>by walk_at "v";with_reducible exact(aI (bL (om (by ac_rfl) (kZ (by ac_rfl))))))
theorem w9(d14:cB c)(d15:dw c):gY c:=Hd.bq T ug λF _ _ _=>
 (aQ F wB λ_ _ _ _ _ _ hr _=>by walk_at "v";with_reducible exact(ae (by ac_rfl)
   (ae (cc (by ac_rfl) (aI (bL (bZ (aa (by ac_rfl) (aa (fN d15 hr (aa (sv 0) (aa (lM.lv (dO (by ac_rfl) (ah (ah (ah (ah (ah (ah (ah (ah (ah aA))))))))))) aq))) aq)) (ah (ah aA))))) bB)
   (by ac_rfl))))
theorem xg(d18:ia c)(d15:dw c)(d19:gY c):qf c:=Hd.bq T ur λF _ _ _=>
 (aQ F f9 λ_ _ _ _ _ _ hr _=>by walk_at "v";with_reducible exact(ae (iO (i:=4) f9.nd (by ac_nf) (by ac_nf) (N':=["_law_k","_law_deed","_law_top","_law_world_here"]) (caps:=[none,some 2,some 3,some 1]) (bx (by ac_nf)) rfl (cP (by unfold Gl;ac_nf) B.eO (by ac_rfl) (hl:=(ah aA))) (λ_ _ _ _ _=>(sgn 0 (by show(["_law_k","_law_deed","_law_top","_law_world_here"]:List Str).Nodup;decide+kernel))) (λ_ _ _ _ _=>(qG (by ac_rfl))) (λ_ _ _ _ _=>(sv 0)))
   (ae (cc (by ac_rfl) (aI (sset 4 f9.nd (lM.lv (Cw rfl (by unfold Gl;ac_nf) B.GP (by unfold Gl;ac_nf) B.eO B5 (by ac_rfl))))) bB)
   (ae (by ac_rfl)
   (ae (by ac_rfl)
   (ae (iO (i:=6) f9.nd (by ac_nf) (by ac_nf) (N':=["_law_one","_law_deed","_law_state","_law_world_here"]) (caps:=[none,some 2,some 0,some 1]) (bx (by ac_nf)) rfl (by ac_rfl) (λ_ _ _ _ _=>(sgn 0 (by show(["_law_one","_law_deed","_law_state","_law_world_here"]:List Str).Nodup;decide+kernel))) (λ_ _ _ _ _=>dg) (λ_ _ _ _ _=>(by ac_rfl)))
   (by ac_rfl)))))))
theorem xb(d14:cB c)(d18:ia c)(d19:gY c):qb c:=Hd.bq T um λF _ _ _=>
 (aQ F lZ λ_ _ _ _ _ _ hr _=>by walk_at "v";with_reducible exact(ae (by ac_rfl)
   (ae (by ac_rfl)
   (ae (by ac_rfl)
   (ae (by ac_rfl)
   (ae (by ac_rfl)
   (ae (iO (i:=8) lZ.nd (by ac_nf) (by ac_nf) (N':=["_law_lock_here","_law_name"]) (caps:=[none,some 7]) (bx (by ac_nf)) rfl (g7 (sv 4)) (λ_ _ _ _ _=>(sgn 0 (by show(["_law_lock_here","_law_name"]:List Str).Nodup;decide+kernel))) (λ_ _ _ _ _=>(qG (by ac_rfl))) (λ_ _ _ _ _=>(by ac_rfl)))
   (by ac_rfl))))))))
theorem BE(d14:cB c)(d15:dw c)(d21:qf c)(d19:gY c)(d20:qb c):∀n,Df c.l.prog c.w (Hd.aE c.h) c.mg c.base "_law_lot" (6+n) lx 7 (bQ n)/\Df c.l.prog c.w (Hd.aE c.h) c.mg c.base "_law_row" (6+n) lu 6 (gx n)/\Df c.l.prog c.w (Hd.aE c.h) c.mg c.base "_law_locked" (6+n) g9 7 (dE n)/\Df c.l.prog c.w (Hd.aE c.h) c.mg c.base "_law_two_ways" (6+n) fQ 6 (cO n)
 | 0=>⟨Hd.bq T mC λ_ _ _ _=>gS,Hd.bq T mB λ_ _ _ _=>gS,Hd.bq T jf λ_ _ _ _=>gS,Hd.bq T gP λ_ _ _ _=>gS⟩
 | n+1=>by
  obtain⟨d25,d24,d23,d22⟩:=BE d14 d15 d21 d19 d20 n;refine⟨?_,?_,?_,?_⟩
  ·exact Hd.bq T mC λF _ _ _=>fG (aQ F yh λ_ _ _ _ _ _ hr _=>by walk_at "v";with_reducible exact(ae (by ac_rfl)
   (ae (cV Tz rfl (cP (by unfold Gl;ac_nf) B.eO (aa (fN d14 hr (aa (sv 0) (aa (aX aY (fN d15 hr (aa (sv 0) (aa (aX aY (aX su (by ac_rfl) aH) (by ac_rfl)) aq)) (Sw (by decide) (S9 _ _))) aH) aq)) (Sw (by decide) (S9 _ _))) aq) (hl:=(ah aA))) (by ac_rfl) (aI (cc (by ac_rfl) (ae (eY (by ac_rfl) (jo hr.units (sv 1) bc))
   (aI (j5 (lW (isT:=dA) iM T8 Vl VL kc (sv 7) (aa (fN d24 hr (by ac_rfl) (Sj _)) aq))))) bB)))
   (by ac_rfl))))
  ·exact Hd.bq T mB λF _ _ _=>(aQ F cW λ_ _ _ _ _ _ hr _=>by walk_at "v";with_reducible exact(ae (sset 6 cW.nd (fN d14 hr (by ac_rfl) (Sw (by decide) (S9 _ _))))
   (ae (cc (by ac_rfl) (aI (bL (bZ (aa bc (aa (fN d15 hr (by ac_rfl) (Sw (by decide) (S9 _ _))) aq)) (ah (ah aA))))) bB)
   (ae (cc (by ac_rfl) (aI (bL (fN d21 hr (by ac_rfl) (Sw (by decide) (S9 _ _))))) bB)
   (ae (cc (by ac_rfl) (aI (bL (fN d22 hr (by ac_rfl) (Sj _)))) bB)
   (ae (cc (by ac_rfl) (ae (x9 7 8 cW.nd (ah (ah aA)) rfl (by decide) (by with_unfolding_all exact(jA rfl cW.nd rfl rfl (by decide) rfl rfl (aa (fN d19 hr (aa (sv 0) (aa (six hr (six hr (sv 1) bc) (sv 2)) aq)) (Sw (by decide) (S9 _ _))) (aa (fN d19 hr (aa (sv 0) (aa (six hr (six hr (sv 1) bc) (sv 2)) aq)) (Sw (by decide) (S9 _ _))) aq)) rfl)))
   (ae (iO (i:=9) cW.nd (by ac_nf) (by ac_nf) (N':=["_law_k","_law_deed","_law_deep","_law_held","_law_state","_law_top","_law_world_here"]) (caps:=[none,some 2,some 3,some 5,some 0,some 4,some 1]) (bx (by ac_nf)) rfl (cP (by unfold Gl;ac_nf) B.eO (by ac_rfl) (hl:=(ah aA))) (λ_ _ _ _ _=>(sgn 0 (by show(["_law_k","_law_deed","_law_deep","_law_held","_law_state","_law_top","_law_world_here"]:List Str).Nodup;decide+kernel))) (λ_ _ _ _ _=>dg) (λ_ _ _ _ _=>(fN d25 hr (by ac_rfl) (Sj _))))
   (by ac_rfl))) bB)
   (ae (cc (by ac_rfl) (ae (iO (i:=9) cW.nd (by ac_nf) (by ac_nf) (N':=["_law_k","_law_deed","_law_deep","_law_held","_law_state","_law_top","_law_world_here"]) (caps:=[none,some 2,some 3,some 5,some 0,some 4,some 1]) (bx (by ac_nf)) rfl (cP (by unfold Gl;ac_nf) B.eO (by ac_rfl) (hl:=(ah aA))) (λ_ _ _ _ _=>(sgn 0 (by show(["_law_k","_law_deed","_law_deep","_law_held","_law_state","_law_top","_law_world_here"]:List Str).Nodup;decide+kernel))) (λ_ _ _ _ _=>dg) (λ_ _ _ _ _=>(fN d25 hr (by ac_rfl) (Sj _))))
   (by ac_rfl)) bB)
   (ae (cc (by ac_rfl) (aI (bL (bZ (aa bc (aa (fN d25 hr (by ac_rfl) (Sj _)) aq)) (ah (ah aA))))) bB)
   (ae (sset 10 cW.nd (fN d15 hr (aa (sv 0) (aa (dh 9 (by ac_nf)) aq)) (Sw (by decide) (S9 _ _))))
   (aI (bL (fN d23 hr (by ac_rfl) (Sj _)))))))))))))
  ·exact Hd.bq T jf λF _ _ _=>fG (aQ F cX λ_ _ _ _ _ _ hr _=>by walk_at "v";with_reducible exact(ae (eY (fN d20 hr (by ac_rfl) (Sw (by decide) (S9 _ _))) (by ac_rfl))
   (ae (by ac_rfl)
   (ae (cc (by ac_rfl) (ae (x9 9 10 cX.nd (ah (ah aA)) rfl (by decide) (by with_unfolding_all exact(jA rfl cX.nd rfl rfl (by decide) rfl rfl (aa (lM.ob (dO (aa (sv 8) aq) (ah aA))) (aa (sv 7) aq)) rfl)))
   (ae (cV Tz rfl (cP (by unfold Gl;ac_nf) B.eO (aa (fN d15 hr (aa (sv 0) (aa (dh 9 (by ac_nf)) aq)) (Sw (by decide) (S9 _ _))) aq) (hl:=(ah aA))) (by ac_rfl) (ae (eY (fN d20 hr (by ac_rfl) (Sw (by decide) (S9 _ _))) (by ac_rfl))
   (ae (by ac_rfl)
   (aI (sset 9 cX.nd (lM.ob (wy (sv 9) (aX su (by ac_rfl) (by ac_rfl)))))))))
   (ae (cc (by ac_rfl) (aI (j5 (lW (isT:=dA) iM T8 Vl VL kc (sv 9) (aa (bZ (aa (by ac_rfl) (aa (bZ (aa (by ac_rfl) (aa (aX Fs (by ac_rfl) (aX gQ aH (by ac_rfl))) aq)) (ah (ah aA))) aq)) (ah (ah aA))) aq)))) bB)
   (ae (by ac_rfl)
   (aI (bL (bZ (aa bc (aa (by ac_rfl) (aa (fN d25 hr (by ac_rfl) (Sj _)) aq))) (ah (ah (ah aA)))))))))) bB)
   (ae (sset 14 cX.nd (fN d25 hr (by ac_rfl) (Sj _)))
   (ae (cc (by ac_rfl) (aI (bL (bZ (aa bc (aa (sv 8) (aa (sv 14) (aa (fN d25 hr (by ac_rfl) (Sj _)) aq)))) (ah (ah (ah (ah aA))))))) bB)
   (by ac_rfl)))))))
  ·exact Hd.bq T gP λF _ _ _=>fG (aQ F di λ_ _ _ _ _ _ hr _=>by walk_at "v";with_reducible exact(ae (by ac_rfl)
   (ae (by ac_rfl)
   (ae (cc (gh (Al hr.units) (gL (N':=["_law_lock_here","_law_low","_law_world_here"]) (caps:=[none,some 6,some 1]) (bx (by ac_nf)) rfl (g7 (sv 5)) (λ_ _ _ _ _=>(sgn 0 (by show(["_law_lock_here","_law_low","_law_world_here"]:List Str).Nodup;decide+kernel))) (λ_ _ _ _ _=>(qG (by ac_rfl))) (λ_ _ _ _ _=>(sv 0))) (by ac_rfl) (fg _)) (by ac_rfl) bB)
   (ae (by ac_rfl)
   (ae (eY (by ac_rfl) (jo hr.units (sv 1) bc))
   (ae (x9 8 9 di.nd (ah (ah aA)) rfl (by decide) (by with_unfolding_all exact(jA rfl di.nd rfl rfl (by decide) rfl rfl (aa (fN d19 hr (aa (sv 0) (aa (six hr (six hr (sv 1) bc) (sv 2)) aq)) (Sw (by decide) (S9 _ _))) (aa (fN d19 hr (aa (sv 0) (aa (six hr (six hr (sv 1) bc) (sv 2)) aq)) (Sw (by decide) (S9 _ _))) aq)) rfl)))
   (ae (by ac_rfl)
   (ae (cV Tz rfl (by ac_rfl) (by ac_rfl) (ae (sset 13 di.nd (fN d25 hr (by ac_rfl) (Sj _)))
   (by ac_rfl)))
   (by ac_rfl))))))))))
theorem qo(d17:nF c)(d25:Bc c)(d15:dw c):jR c:=Hd.bq T ox λF _ _ _=>
 fG (aQ F jd λ_ _ _ _ _ _ hr _=>by walk_at "v";with_reducible exact(ae (by ac_rfl)
   (ae (by ac_rfl)
   (ae (cV Tz rfl (j6 (by unfold Gl;ac_nf) B.eg (by ac_rfl) (ah aA)) (by ac_rfl) (ae (sset 7 jd.nd (fN d25 hr (aa (sv 0) (aa (sv 3) (aa (sv 5) (aa aH (aa (by ac_rfl) (aa (by ac_rfl) (aa (fN d15 hr (aa (sv 0) (aa (dh 9 (by ac_nf)) aq))) aq)))))))))
   (by ac_rfl)))
   (aI (bL (bZ (aa (NX zj B.xQ tS (aa (zE Gs B.zw vL (by ac_rfl)) aq)) (by ac_rfl)) (ah (ah aA)))))))))
theorem yK(d26:jR c)(d15:dw c):tX c:=Hd.bq T wL λF _ _ _=>
 (aQ F yi λ_ _ _ _ _ _ hr _=>by walk_at "v";with_reducible exact(aI (bL (fN d26 hr (aa (sv 0) (aa (fN d15 hr (aa (sv 0) (aa (dh 9 (by ac_nf)) aq))) (aa (fN d15 hr (aa (sv 0) (aa (dh 9 (by ac_nf)) aq))) aq)))))))
theorem mT:fu c:=Hd.bq T lh λF _ _ _=>
 (aQ F lX λ_ _ _ _ _ _ hr _=>by walk_at "v";with_reducible exact(ae (by ac_rfl)
   (ae (cc (by ac_rfl) (aI (bL (KJ (sv 1) (kZ (NX BY B.Ca xM (by ac_rfl)))))) bB)
   (aI (bL (aX aY (aX aY (sv 1) (aX gQ bc (by ac_rfl))) (NX BY B.Ca xM (by ac_rfl))))))))
theorem mU(d28:fu c):fv c:=Hd.bq T lj λF _ _ _=>
 (aQ F lY λ_ _ _ _ _ _ hr _=>by walk_at "u")
theorem xf(d28:fu c)(d29:fv c):qe c:=Hd.bq T uq λF _ _ _=>
 (aQ F wD λ_ _ _ _ _ _ hr _=>by walk_at "v";with_reducible exact(ae (by ac_rfl)
   (ae (cc (by ac_rfl) (aI (bL (lW (isT:=isStr) ty_str UT Vs Vr qL bc (aa (aX aY (by ac_rfl) (gL (N':=["_law_term_here"]) (caps:=[none]) (bx (by ac_nf)) rfl (by ac_rfl) (λ_ _ _ _ _=>(sgn 0 (by show(["_law_term_here"]:List Str).Nodup;decide+kernel))) (λ_ _ _ _ _=>dg) (λ_ _ _ _ _=>(by ac_rfl)))) aq)))) bB)
   (ae (cc (by ac_rfl) (aI (bL (lW (isT:=isStr) ty_str UT Vs Vr qL bc (aa (aX aY (by ac_rfl) (gL (N':=["_law_lock_here"]) (caps:=[none]) (bx (by ac_nf)) rfl (by ac_rfl) (λ_ _ _ _ _=>(sgn 0 (by show(["_law_lock_here"]:List Str).Nodup;decide+kernel))) (λ_ _ _ _ _=>dg) (λ_ _ _ _ _=>(by ac_rfl)))) aq)))) bB)
   (by ac_rfl)))))
theorem gR(d30:qe c):∀n,Df c.l.prog c.w (Hd.aE c.h) c.mg c.base "_law_lot_lines" (4+n) fe 2 (bA n)
 | 0=>Hd.bq T gi λ_ _ _ _=>gS
 | n+1=>by
  have d31:=gR d30 n;exact Hd.bq T gi λF _ _ _=>(aQ F bE λ_ _ _ _ _ _ hr _=>by walk_at "v";with_reducible exact(ae (x9 2 3 bE.nd (ah (ah aA)) rfl (by decide) (by with_unfolding_all exact(jA rfl bE.nd rfl rfl (by decide) rfl rfl (aa (lM.ob (dO aq aA)) (aa (sv 1) aq)) rfl)))
   (ae (cV Tz rfl (g7 (sv 0)) (by ac_rfl) (ae (by ac_rfl)
   (ae (j5 (lW (isT:=dA) iM T8 Vl VL kc (sv 2) (aa (bZ (aa (sv 5) (aa (fN d30 hr (by ac_rfl) (Sw (by decide) (S9 _ _))) aq)) (ah (ah aA))) aq)))
   (ae (by ac_rfl)
   (ae (sset 6 bE.nd (lW (isT:=FV) Kq PySem.F.plainAttrs_dict U2 PySem.F.type_dict_get (LO (OL hr)) (Hx (eG bc aH (eG bc aH (eG bc aH (eG bc aH (eG bc aH Ei))))) (by ac_nf) (by ac_nf) (by simp) λtrs h=>By h (by ac_nf) (by ac_nf) (by simp) (by decide)) (by ac_rfl)))
   (ae (by ac_rfl)
   (ae (cV Tz rfl (j6 (by unfold Gl;ac_nf) B.eg (by ac_rfl) (ah aA)) (by ac_rfl) (ae (sset 2 bE.nd (lM.ob (wy (sv 2) (aX su (by ac_rfl) (by ac_rfl)))))
   (ae (eY (fN d31 hr (by ac_rfl) (Sj _)) (by ac_rfl))
   (aI (sset 2 bE.nd (lM.ob (wy (sv 2) (sv 10))))))))
   (aI (sset 2 bE.nd (lM.ob (wy (sv 2) (aX su (by ac_rfl) (by ac_rfl)))))))))))))
   (by ac_rfl))))
theorem uC(d31:iI c):i9 c:=Hd.bq T rW λF _ _ _=>
 fG (aQ F fw λ_ _ _ _ _ _ hr _=>by walk_at "v";with_reducible exact(ae (x9 1 2 fw.nd (ah (ah aA)) rfl (by decide) (by with_unfolding_all exact(jA rfl fw.nd rfl rfl (by decide) rfl rfl (aa (lM.lv (dO (aa (bZ (aa (pe jk aH) (aa (lW (isT:=isStr) ty_str UT Vs Vr qL bc (aa (aX aY (bZ (aa bc aq) (ah aA)) (six hr (sv 0) aH)) aq)) aq)) (ah (ah aA))) aq) (ah aA))) (aa aH aq)) rfl)))
   (ae (cV Tz rfl (by ac_rfl) (by ac_rfl) (ae (by ac_rfl)
   (aI (sset 1 fw.nd (aX aY (aX aY (aX aY (sv 1) (lM.lv (dO (aa (bZ (aa (by ac_rfl) (aa (lW (isT:=isStr) ty_str UT Vs Vr qL bc (by ac_rfl)) aq)) (ah (ah aA))) aq) (ah aA)))) (sv 6)) (by ac_rfl))))))
   (by ac_rfl))))
theorem uA:nJ c:=Hd.bq T rV λF _ _ _=>
 (aQ F uc λ_ _ _ _ _ _ hr _=>by walk_at "v";with_reducible exact(aI (bL (gL (N':=["_law_number","_law_text"]) (caps:=[none,none]) (bx (by ac_nf)) rfl (g7 (sv 0)) (λ_ _ _ _ _=>(oj rfl (cE (sgn 0 (by show(["_law_number","_law_text"]:List Str).Nodup;decide+kernel)) (cE (sgn 1 (by show(["_law_number","_law_text"]:List Str).Nodup;decide+kernel)) j7)))) (λ_ _ _ _ _=>dg) (λ_ _ _ _ _=>(sv 1))))))
theorem yJ(d29:fv c):tW c:=Hd.bq T wK λF _ _ _=>
 (aQ F dZ λ_ _ _ _ _ _ hr _=>by walk_at "v";with_reducible exact(ae (iO (i:=3) dZ.nd (by ac_nf) (by ac_nf) (N':=["_law_k","_law_line","_law_number"]) (caps:=[none,none,some 1]) (bx (by ac_nf)) rfl (j6 (by unfold Gl;ac_nf) B.eg (by ac_rfl) (ah aA)) (λ_ _ _ _ _=>(oj rfl (cE (sgn 0 (by show(["_law_k","_law_line","_law_number"]:List Str).Nodup;decide+kernel)) (cE (sgn 1 (by show(["_law_k","_law_line","_law_number"]:List Str).Nodup;decide+kernel)) j7)))) (λ_ _ _ _ _=>(qG (by ac_rfl))) (λ_ _ _ _ _=>(sv 0)))
   (ae (x9 4 5 dZ.nd (ah (ah aA)) rfl (by decide) (by with_unfolding_all exact(jA rfl dZ.nd rfl rfl (by decide) rfl rfl (aa (six hr (sv 3) aH) (aa (six hr (sv 3) (pe jk aH)) aq)) rfl)))
   (ae (x9 6 7 dZ.nd (ah (ah aA)) rfl (by decide) (by with_unfolding_all exact(jA rfl dZ.nd rfl rfl (by decide) rfl rfl (aa (aX aY (wz (sv 0) qF (qE (sv 4))) (lM.lv (dO (aa (bZ (aa (pe jk aH) (aa (aX aY bc (fN d29 hr (aa (sv 2) aq))) aq)) (ah (ah aA))) aq) (ah aA)))) (aa (aX aY (lM.lv (dO (aa (bZ (aa (pe jk aH) (aa bc aq)) (ah (ah aA))) aq) (ah aA))) (wz (sv 0) (qE (aX aY (sv 5) aH)) qF)) aq)) rfl)))
   (by ac_rfl)))))
theorem qp:jS c:=Hd.bq T oy λF _ _ _=>
 fG (aQ F dH λ_ _ _ _ _ _ hr _=>by walk_at "v";with_reducible exact(ae (by ac_rfl)
   (ae (cV Tz rfl (by ac_rfl) (by ac_rfl) (ae (sset 6 dH.nd (six hr (lW (isT:=isStr) ty_str UT VU PySem.F.type_str_split FI (sv 5) (by ac_rfl)) aH))
   (aI (cc (by ac_rfl) (aI (eY aH (jo hr.units (sv 1) (by ac_rfl)))) (aI (cc (by ac_rfl) (by ac_rfl) (ae (cc (by ac_rfl) (ae (eY (by ac_rfl) (jo hr.units (sv 1) (by ac_rfl)))
   (aI (x9 4 2 dH.nd (ah (ah aA)) rfl (by decide) (by with_unfolding_all exact(jA rfl dH.nd rfl rfl (by decide) rfl rfl (aa (aX aY (sv 4) aH) (aa (zE (Gv rfl) B.GO GI (aa (sv 2) (aa (six hr (sv 1) (pe jk aH)) aq))) aq)) rfl))))) bB)
   (by ac_rfl))))))))
   (by ac_rfl))))
theorem Ao:oW c:=Hd.bq T yl λF _ _ _=>
 (aQ F z5 λ_ _ _ _ _ _ hr _=>by walk_at "v";with_reducible exact(aI (bL (wz (sv 0) (qE (six hr (Ep B.zC (by ac_rfl)) aH)) qF))))
theorem pN(d4:oW c):∀n,Df c.l.prog c.w (Hd.aE c.h) c.mg c.base "paths_in" (2+n) lq 2 (dU n)
 | 0=>Hd.bq T my λ_ _ _ _=>gS
 | n+1=>by
  have d5:=pN d4 n;exact Hd.bq T my λF _ _ _=>fG (aQ F yf λ_ _ _ _ _ _ hr _=>by walk_at "v";with_reducible exact(ae (by ac_rfl)
   (ae (cV Tz rfl (j6 (by unfold Gl;ac_nf) B.eg (by ac_rfl) (ah aA)) (by ac_rfl) (ae (by ac_rfl)
   (ae (by ac_rfl)
   (aI (cV Tz rfl (j6 (by unfold Gl;ac_nf) B.eg (aa (fN d4 hr (by ac_rfl) (Sw (by decide) (S9 _ _))) aq) (ah aA)) (by ac_rfl) (aI (j5 (lW (isT:=dA) iM T8 V6 WN vv (sv 2) (aa (fN d5 hr (by ac_rfl) (Sj _)) aq)))))))))
   (by ac_rfl))))
theorem w5(d5:Ba c):fL c:=Hd.bq T uf λF _ _ _=>
 fG (aQ F wA λ_ _ _ _ _ _ hr _=>by walk_at "v";with_reducible exact(ae (by ac_rfl)
   (ae (cV Tz rfl (j6 (by unfold Gl;ac_nf) B.eg (by ac_rfl) (ah aA)) (by ac_rfl) (aI (j5 (lW (isT:=dA) iM T8 V6 WN vv (sv 1) (aa (gL (N':=["path","row","deed"]) (caps:=[none,none,some 2]) (bx (by ac_nf)) rfl (by ac_rfl) (λ_ _ _ _ _=>(oj rfl (cE (sgn 0 (by show(["path","row","deed"]:List Str).Nodup;decide+kernel)) (cE (sgn 1 (by show(["path","row","deed"]:List Str).Nodup;decide+kernel)) j7)))) (λ_ _ _ _ _=>dg) (λ_ _ _ _ _=>(by ac_rfl))) aq)))))
   (by ac_rfl))))
theorem yH(d6:fL c):lL c:=Hd.bq T mx λF _ _ _=>
 (aQ F jr λ_ _ _ _ _ _ hr _=>by walk_at "v";with_reducible exact(ae (by ac_rfl)
   (ae (cc (oh (x8 yF Fv aH (sv 1) (by ac_rfl))) (aI ig) bB)
   (by ac_rfl))))
theorem sD(d4:oW c):∀n,Df c.l.prog c.w (Hd.aE c.h) c.mg c.base "deepest" (2+n) oD 2 (bI n)
 | 0=>Hd.bq T pD λ_ _ _ _=>gS
 | n+1=>by
  have d10:=sD d4 n;exact Hd.bq T pD λF _ _ _=>(aQ F z8 λ_ _ _ _ _ _ hr _=>by walk_at "v";with_reducible exact(aI (bL (Hu rfl (by unfold Gl;ac_nf) B.GO (aa (Cy (N':=["row","inner","deep"]) (caps:=[none,none,some 1]) (bx (by ac_nf)) rfl (g7 (sv 0)) (λ_ _ _ _ _=>(sgn 0 (by show(["row","inner","deep"]:List Str).Nodup;decide+kernel))) (λ_ _ _ _ _=>dg) (λ_ _ _ _ _=>(g7 (fN d4 hr (by ac_rfl) (Sw (by decide) (S9 _ _))))) (λ_ _ _ _ _=>(sgn 1 (by show(["row","inner","deep"]:List Str).Nodup;decide+kernel))) (λ_ _ _ _ _=>dg) (λ_ _ _ _ _=>(fN d10 hr (by ac_rfl) (Sj _)))) aq) (ah aA) (sv 1)))))
theorem sC:hW c:=Hd.bq T qj λF _ _ _=>
 (aQ F rA λ_ _ _ _ _ _ hr _=>by walk_at "v";with_reducible exact(aI (bL (om (zE tG B.bF dD (aa (sv 0) (aa (NL B.xQ tS) aq))) (kZ (by ac_rfl))))))
theorem yI:tV c:=Hd.bq T wJ λF _ _ _=>
 (aQ F yg λ_ _ _ _ _ _ hr _=>by walk_at "v";with_reducible exact(aI (bL (om (zE tG B.bF dD (aa (sv 0) (aa (NL B.JY GJ) aq))) (kZ (KL (zE tG B.bF dD (aa (sv 0) (aa (NL B.MP Jk) aq)))))))))
theorem Ap(d1:hW c)(d0:tV c):vW c:=Hd.bq T ym λF _ _ _=>
 (aQ F z6 λ_ _ _ _ _ _ hr _=>by walk_at "v";with_reducible exact(ae (by ac_rfl)
   (ae (by ac_rfl)
   (ae (cc (SW.st (Ed (oh (wm (zE tG B.bF dD (aa (sv 2) (aa (NL B.Ca xM) aq))))) (by ac_rfl))) (by ac_rfl) bB)
   (aI (bL (om (NT (by ac_rfl) (kZ (by ac_rfl))) (kZ (Eu yF yF (pe jk (jq B.kW (by unfold Gl;ac_nf))) (sv 3) (jq B.kW (by unfold Gl;ac_nf)))))))))))
theorem Aq(d1:hW c)(d2:vW c):oX c:=Hd.bq T yn λF _ _ _=>
 (aQ F z7 λ_ _ _ _ _ _ hr _=>by walk_at "v";with_reducible exact(ae (by ac_rfl)
   (ae (by ac_rfl)
   (aI (bL (om (zE tG B.bF dD (aa (sv 3) (aa (NL B.Ca xM) aq))) (om (by ac_rfl) (kZ (by ac_rfl)))))))))
theorem pO:∀n,Df c.l.prog c.w (Hd.aE c.h) c.mg c.base "lot_with" (1+n) lr 3 (dW n)
 | 0=>Hd.bq T mz λ_ _ _ _=>gS
 | n+1=>by
  have d8:=pO  n;exact Hd.bq T mz λF _ _ _=>(aQ F jt λ_ _ _ _ _ _ hr _=>by walk_at "v";with_reducible exact(ae (by ac_rfl)
   (ae (cc (by ac_rfl) (ae (by ac_rfl)
   (ae (sset 5 jt.nd (aX aY (six hr (Ep B.zC (by ac_rfl)) aH) (by ac_rfl)))
   (aI (sset 2 jt.nd (bZ (aa (aX aY (aX aY (by ac_rfl) (bZ (aa (fN d8 hr (by ac_rfl) (Sj _)) aq) (ah aA))) (by ac_rfl)) aq) (ah aA)))))) bB)
   (by ac_rfl))))
theorem qm(d8:Bb c):jQ c:=Hd.bq T ou λF _ _ _=>
 (aQ F qi λ_ _ _ _ _ _ hr _=>by walk_at "u")
theorem wZ(d7:lL c)(d10:vX c)(d6:fL c)(d3:oX c)(d9:jQ c):qa c:=Hd.bq T kO λF _ _ _=>
 (aQ F bT λ_ _ _ _ _ _ hr _=>by walk_at "v";with_reducible exact(ae (by ac_rfl)
   (ae (sset 6 bT.nd (aX aY (aX Am (by ac_rfl) aH) aH))
   (ae (cc (gh BC (by ac_rfl) (jq B.jX (by unfold Gl;ac_nf)) (fg _)) (aI ig) bB)
   (ae (cc (gh yG (by ac_rfl) (jq B.jW (by unfold Gl;ac_nf)) (fg _)) (aI ig) bB)
   (ae (cc (by ac_rfl) (aI ig) bB)
   (by ac_rfl)))))))
theorem LH:RH c:=by
 obtain⟨f,fd,m,F⟩:=Hd.BS T ow;obtain⟨CS,h1,h2⟩:=B.S_;have hb:∃(tail:List Stmt)(pa pb pc p1 p2 p3 p4 p5 p6 p7 p8 p9:Pos)(j:Nat),dq cF=.Assign [.Name "_law_caught" pa] (.Constant .none j pb) pc::.Try [.Expr (.Call (.Name "_law_call_here" p1) [] [] p2) p3] [.ExceptHandler (some (.Name "StuckError" p4)) (some "e") [.Assign [.Name "_law_caught" p5] (.Name "e" p6) p7] p8] [] [] p9::tail/\∀(k:Nat)(cdv:Value)(A:Around)(outer:List Env)(s:Shared)(H:Hp)(E:XK),cL k (A.deeper (envOfC "_law_refused" (ak cF) s.heap.objs.size f cdv))->DF (fm nU c.l.prog c.w (Hd.aE c.h) c.mg c.base ["_law_call_here","_law_caught","e","_law_marks"] "_law_refused" (ak cF) f cdv A outer s H E).FC tail uK:=by
  refine⟨_,_,_,_,_,_,_,_,_,_,_,_,_,_,by(conv=>lhs;whnf),λk cdv A outer s H E hr=>?_⟩;unfold uK;(conv=>arg 2;whnf);with_reducible exact(ae (cc (SW.st (Ed (by ac_rfl) (Ec (oh (wm (NQ (tb:=gz) (ns:=qq) B.Nd B.bF B.xR (sv 1) (RO (by decide+kernel)))))))) (by ac_rfl) bB)
   (ae (sset 3 fO.nd (lM.lv (dO (aa (Eo (tb:=gz) (ns:=qq) B.Nd B.bF (sv 1)) (aa (Eo (tb:=gz) (ns:=qq) B.Nd B.bF (sv 1)) (aa (Eo (tb:=gz) (ns:=qq) B.Nd B.bF (sv 1)) aq))) (ah (ah (ah aA))))))
   (ae (sset 3 fO.nd (aX aY (sv 3) (lM.lv (dO (aa (Eo (tb:=gz) (ns:=qq) B.Nd B.bF (sv 1)) (aa (Eo (tb:=gz) (ns:=qq) B.Nd B.bF (sv 1)) aq)) (ah (ah aA))))))
   (ae (cc (gh (Al hr.units) (lW (isT:=dA) iM T8 WT PySem.F.type_list_count (CU hr.units) (sv 3) (by ac_rfl)) aH (fg _)) (by ac_rfl) bB)
   (aI (bL (six hr (dh 9 (by ac_nf)) (lW (isT:=dA) iM T8 WS PySem.F.type_list_index (CT hr.units) (sv 3) (by ac_rfl)))))))))
 obtain⟨tail,pa,pb,pc,p1,p2,p3,p4,p5,p6,p7,p8,p9,j,e,ht⟩:=hb;exact⟨f,CS,fd,cF,"_law_call_here","_law_caught","e","_law_marks",tail,pa,pb,pc,p1,p2,p3,p4,p5,p6,p7,p8,p9,j,F,fO,m,F.kp,F.one (λ_ _ _ _ _ _ _=>rfl),e,⟨by ac_nf,by ac_nf,by ac_nf,by ac_nf⟩,⟨h1,h2⟩,⟨by ac_nf,by ac_nf,by ac_nf,by ac_nf⟩,⟨λ_=>by ac_nf,λ_=>by ac_nf,λ_=>by ac_nf⟩,ht⟩
theorem wY(R:Xr c)(d6:fL c):qg c:=Hd.JN T mx λF=>
 OR F jr λcdv A outer s H E hr _=>by(conv=>arg 3;whnf);with_reducible exact(jj (sset 2 jr.nd (fN d6 hr (aa (sv 0) aq)))
   (eB (Bd (oh (x8 yF Fv aH (sv 1) (zE tF B.zx tT (aa (sv 2) aq)))) (eB (PL R.xT bc)) vY)))
theorem ux(R:Xr c)(d3:oX c)(d6:fL c)(d10:vX c)(d7:lL c)(x7:qg c):nN c:=Hd.JN T kO λF=>
 OR F bT λcdv A outer s H E hr _=>by(conv=>arg 3;whnf);with_reducible exact(zJ (eB (P4 (g:=(gT 3 (au (gN 3) (au (gN 4) (au (gN 5) bY))))) (Rp x7 hr Ij (aa (sv 0) (aa (sv 1) aq))) (oj rfl (cE (sgn 3 bT.nd) (cE (sgn 4 bT.nd) (cE (sgn 5 bT.nd) j7)))))) (jj (eY (fN d7 hr (aa (sv 0) (aa (sv 1) aq))) (oj rfl (cE (sgn 3 bT.nd) (cE (sgn 4 bT.nd) (cE (sgn 5 bT.nd) j7)))))
   (jj (sset 6 bT.nd (aX aY (aX Am (zE tF B.zx tT (aa (sv 4) aq)) aH) aH))
   (zJ (eB (Bd (gh BC (fN d10 hr (aa (bZ (aa (sv 5) aq) (ah aA)) (aa (aX aY (sv 6) aH) aq))) (jq B.jX (by unfold Gl;ac_nf)) (fg _)) (eB (PL R.xT bc)) vY)) (jj (cc (gh BC (fN d10 hr (aa (bZ (aa (sv 5) aq) (ah aA)) (aa (aX aY (sv 6) aH) aq))) (jq B.jX (by unfold Gl;ac_nf)) (fg _)) (aI ig) bB)
   (zJ (eB (Bd (gh yG (zE tF B.zx tT (aa (fN d6 hr (aa (sv 0) aq)) aq)) (jq B.jW (by unfold Gl;ac_nf)) (fg _)) (eB (PL R.xT bc)) vY)) (jj (cc (gh yG (zE tF B.zx tT (aa (fN d6 hr (aa (sv 0) aq)) aq)) (jq B.jW (by unfold Gl;ac_nf)) (fg _)) (aI ig) bB)
   (eB (Bd (oh (wm (fN d3 hr (aa (sv 2) (aa (six hr (sv 0) aH) (aa (six hr (six hr (six hr (sv 0) aH) (sv 3)) aH) aq)))))) (eB (PL R.GW bc)) vY)))))))))
theorem uB(RF:RH c)(d33:nJ c)(d36:tW c)(d34:jS c)(d11:qa c)(d32:i9 c)(x11:nN c):nK c:=Hd.bq T jy λF _ _ m=>
 (IS F (Hd.IF T jy F m) kJ λcdv A outer s H E hL hr=>by have:=kJ.nd;(conv=>arg 2;whnf);with_reducible exact(ae (by ac_rfl)
   (ae (by ac_rfl)
   (ae (cc (by ac_rfl) (aI (bL (Et (Fw hr.units) (Qq (k:=13) (Nl:=["_law_lock_here","_law_number","_law_program_here"]) (caps:=[some 3,some 2,some 0]) RF hL hr (by decide) (bx (by ac_nf)) (λ_ _ _ _ _ _ _ _ _ hr=>(Rp x11 hr Ii (by ac_rfl))) (λ_ _ _ _ _ _ _ _ _ hr=>(by ac_rfl))) bc (fg _)))) bB)
   (ae (cV Tz rfl (cP (by unfold Gl;ac_nf) B.eO (by ac_rfl) (hl:=(ah aA))) (by ac_rfl) (by ac_rfl))
   (by ac_rfl))))))
theorem LI(F:t9 (Hd.aE c.h) "law" "law" l9 f fd)(d12:nM c)(d27:tX c)(d32:i9 c)(d31:iI c)(d14:cB c)(d15:dw c)(d37:nK c):eS c.l.prog c.w (Hd.aE c.h) c.mg c.base nU 29 f fd JM (Cv (Hd.aE c.h) 1 zD):=
 (aQ F Ey λ_ _ _ _ _ _ hr _=>by walk_at "v";with_reducible exact(ae (by ac_rfl)
   (ae (cV Tz rfl (cP (by unfold Gl;ac_nf) B.eO (by ac_rfl) (hl:=(ah aA))) (by ac_rfl) (ae (by ac_rfl)
   (ae (by ac_rfl)
   (ae (by ac_rfl)
   (ae (cV Tz rfl (by ac_rfl) (by ac_rfl) (aI (sset 5 Ey.nd (aX aY (sv 5) (aX su (by ac_rfl) (by ac_rfl))))))
   (aI (cV Tz rfl (cP (by unfold Gl;ac_nf) B.eO (by ac_rfl) (hl:=(ah aA))) (by ac_rfl) (ae (by ac_rfl)
   (ae (cc (SW.st (zT (gh (Lu hr.units) (by ac_rfl) (by ac_rfl) (fg _)) (by ac_rfl))) (by ac_rfl) bB)
   (by ac_rfl))))))))))
   (by ac_rfl))))
theorem Pc(R:Xr c)(m:c.mg "law"=some (.ref f))(F:t9 (Hd.aE c.h) "law" "law" l9 f fd)(hF:∀ns:List Int,ns.length<=63->∃h',zD [.ro (ns.map D.int)] []=some (.bl true,h')):eS c.l.prog c.w (Hd.aE c.h) c.mg c.base nU 29 f fd ["_law_script"] (spT (Hd.aE c.h)):=by
 have d12:=uD T B;have d13:=xc T B;have d14:=xa T B d13;have d15:=Ar T B d14;have d16:=uz T B d15 d14;have d17:=uy T B d16 d15 d14;have d18:=sE T B d14;have d19:=w9 T B d14 d15;have d21:=xg T B d18 d15 d19;have d20:=xb T B d14 d18 d19;obtain⟨d25,d24,d23,d22⟩:=BE T B d14 d15 d21 d19 d20 20;have d26:=qo T B d17 d25 d15;have d27:=yK T B d26 d15;have d28:=mT T B;have d29:=mU T B d28;have d30:=xf T B d28 d29;have d31:=gR T B d30 8;have d32:=uC T B d31;have d33:=uA T B;have d36:=yJ T B d29;have d34:=qp T B;have d4:=Ao T B;have d5:=pN T B d4 8;have d6:=w5 T B d5;have d7:=yH T B d6;have d10:=sD T B d4 8;have d1:=sC T B;have d0:=yI T B;have d2:=Ap T B d1 d0;have d3:=Aq T B d1 d2;have d8:=pO T B  6;have d9:=qm T B d8;have d11:=wZ T B d7 d10 d6 d3 d9;have RF:=LH T B;have x7:=wY T B R d6;have x11:=ux T B R d3 d6 d10 d7 x7;have d37:=uB T B RF d33 d36 d34 d11 d32 x11;exact IE (LI T B F d12 d27 d32 d31 d14 d15 d37) hF
end
theorem gV:Hd.freeOk view (["SHAPES"]:List Str) ["ValueError","abs","bool","enumerate","int","isinstance","len","list","max","min","range","sorted","str","tuple"]=true:=by decide+kernel
theorem all_mk{l:PySem.W.OpenLaw}{w:World}{h:Heap}{mg mb:Str->Option Value}{mean:ExcName->Option Value}(T:Top view (PySem.W.looseW view (["SHAPES"]:List Str)) mean mg mb h)
  (Y_SHAPES:Hd.tabAt h "SHAPES"=some (eX.map λx=>(x.1,hashStr w x.1,x.2)))
  (Y_x:Hd.qw h (gz.map (·.1)) qq=Hd.za gz qq)
  (hF:∀ns:List Int,ns.length<=63->∃h',zD [.ro (ns.map D.int)] []=some (.bl true,h')):
  ∃(fa:Addr)(fd:FuncData),mg "law"=some (.ref fa)/\(∀(s:Shared)(v:Value),BindsTo s fd ⟨[v],[]⟩ [("_law_script",v)])/\∀base:Heap,(Hd.aE h).In base->base.Ns mainGlobals mg->eS l.prog w (Hd.aE h) mg base nU 29 fa fd ["_law_script"] (spT (Hd.aE h)):=by
 have B:Bs l.prog w (Hd.aE h) mg:=⟨Hd.cU T gV (Sd (i:=0) rfl),Hd.cU T gV (Sd (i:=1) rfl),Hd.cU T gV (Sd (i:=2) rfl),Hd.cU T gV (Sd (i:=3) rfl),Hd.cU T gV (Sd (i:=4) rfl),Hd.cU T gV (Sd (i:=5) rfl),Hd.cU T gV (Sd (i:=6) rfl),Hd.cU T gV (Sd (i:=7) rfl),Hd.cU T gV (Sd (i:=8) rfl),Hd.cU T gV (Sd (i:=9) rfl),Hd.cU T gV (Sd (i:=10) rfl),Hd.cU T gV (Sd (i:=11) rfl),Hd.cU T gV (Sd (i:=12) rfl),Hd.cU T gV (Sd (i:=13) rfl),Hd.xB T (by ac_nf),Hd.xB T (by ac_nf),Hd.xB T (by ac_nf),Hd.tab_of Y_SHAPES T.g (by decide+kernel),Hd.OT T Y_x,Hd.Qw T Y_x (by ac_nf) (by decide+kernel) (V9.mpr ⟨⟨by ac_nf,_,rfl,by decide+kernel⟩,V9.mpr ⟨⟨by ac_nf,_,rfl,by decide+kernel⟩,List.forall_mem_nil _⟩⟩)⟩;obtain⟨f,fd,m,F⟩:=Hd.BS T HD;exact⟨f,fd,m,F.one λ_ _ _ _ _ _ _=>rfl,λbase KB _=>Pc (c:=⟨l,w,h,mg,base⟩) T B ⟨Hd.Be T (by ac_nf) KB,Hd.Be T (by ac_nf) KB⟩ m F hF⟩
end Mi
local macro_rules | `(tactic| walk_at $s:str) => let k := s.getString.front;let a := "|Sm.OZ|Sm.O6|Sm.MI|Sm.O3|Sm.O0|Sm.Q5|Sm.Q4|Sm.Q8|Sm.Q7|Sm.Q6|Sm.RZ|Sm.R3|Sm.O5|Sm.O4|Sm.ME|Sm.MF|Sm.eT|Sm.q9|Sm.Bu|Sm.ET|Sm.ES|Sm.yr|Sm.rY|Sm.K2|Sm.N5|Sm.r_sbrk|Sm.r_scont|Sm.rZ|Sm.Qx|Sm.JI|Sm.HF|Sm.cJ|Sm.jz|Sm.r_if|Sm.yt|Sm.Qz|Sm.r_dv|Sm.r_do|Sm.oz|Sm.EO|Sm.wM|Sm.K1|Sm.JH|Sm.Ob|Sm.Qy|Sm.r_not|Sm.r_sl|Sm.N3|Sm.N4|Sm.CC|Sm.K5|Sm.iu|Sm.wO|Sm.Oa|Sm.K6|Sm.QM|Sm.QN|Sm.Qa|Sm.t_bk|Sm.t_ct|Sm.QT|Sm.l_ct|Sm.l_bk|Sm.l_rt|Sm.K0|Sm.N9";if k != 'o' && k != 'g' && k != 'r' then Lean.Macro.throwUnsupported else do {let t <- (((if k == 'r' then a ++ "|Sm.Nj|Sm.Nm|Sm.w_add|Sm.w_sub|Sm.w_lt|Sm.w_le|Sm.P5|Sm.P6|Sm.Nu|Sm.w_neI|Sm.Nt|Sm.w_neS|Sm.Nr|Sm.Nq|Sm.Np|Sm.Kk|Sm.Kl|Sm.Af" else a).splitOn "|").drop 1).toArray.mapM (λn => `(Lean.Parser.Tactic.tacticSeq| refine $(Lean.mkIdent n.toName) ?_));if k == 'o' then `(tactic| with_reducible first $[| $t]*) else `(tactic|((repeat with_reducible first $[| $t]*);(try dsimp only)))}
namespace Mi
open PySem Sm
theorem k8(hb:0 < b)(q:Q (.int (a % b),h)):Rn (sX (.int a) (.int b) h) Q:=⟨_,by unfold sX;dsimp only;rw[Si hb],q⟩
theorem KS(hb:0 < b)(hb2:b<=10^40)(q:Q (.int (a / b),h)):Rn (xx (.int a) (.int b) h) Q:=⟨_,by unfold xx;dsimp only;rw[Si ⟨hb,hb2⟩],q⟩
theorem oo(hb:mW a b=true)(q:Q (.int (a*b),h)):Rn (iB (.int a) (.int b) h) Q:=⟨_,by show(if mW a b then _ else _)=_;rw[Si hb],q⟩
theorem mul_r(h1:-(2^64) < b)(h2:b < 2^64):mW a b=true:=by unfold mW;simp only[U0,Tf,TB];exact .inr ⟨h1,h2⟩
theorem FE(h1:-(2^64) < a)(h2:a < 2^64):mW a b=true:=by unfold mW;simp only[U0,Tf,TB];exact .inl ⟨h1,h2⟩
theorem CZ{h:MH}{s c:Nat}{cs:List Int}{n t:Int}(hs:h[s]?=some (.lst [.int n,.ob c,.int t]))(hc:h[c]?=some (.lst (cs.map D.int)))(ne:c≠s)(t0:0<=t)(tB:t < 2^60):
  Rn (jU [.ob s] h) λp=>∃n',0<=n'/\p=(.cq,h.set s (.lst [.int n',.ob c,.int (t+1)])):=by
 have hl:s < h.length:=(Se.mp hs).1;generalize hH:h.set s (.lst [.int n,.ob c,.int (t+1)])=H;have Hs:H[s]?=some (.lst [.int n,.ob c,.int (t+1)]):=by rw[<-hH];exact Th hl
 have Hc:H[c]?=some (.lst (cs.map D.int)):=by rw[<-hH,Tu (Um ne)];exact hc
 have set0:∀v:Int,uG (.ob s) (.int 0) (.int v) H=some (h.set s (.lst [.int v,.ob c,.int (t+1)])):=λv=>by
  rw[ni (p:=0) Hs rfl,<-hH,List.set_set];rfl
 have e3:uG (.ob s) (.int 2) (.int (t+1)) h=some H:=by rw[ni (p:=2) hs rfl,<-hH];rfl
 have e4:cG [.ob c] H=some (.int cs.length,H):=by rw[xw Hc,R9]
 refine bU ?_;walk_at "g";refine rv (hU hs rfl) ?_;walk_at "g";refine rv (hU hs rfl) ?_;walk_at "g";refine rv rfl ?_;walk_at "g";refine rv e3 ?_;walk_at "g";refine rv (vE Hc) ⟨_,rfl,λhne=>?pos,λhne=>?neg⟩
 case' pos=>
  have hpos:0 < cs.length:=by cases cs with | nil=>simp at hne | cons _ _=>simp
  walk_at "g";refine rv e4 (k8 (by lia) ?_);obtain⟨z,hz⟩:=GS cs (t % (cs.length:Int)) (Ub _ (by lia)) (Uz _ (by lia));refine rv (hU Hc hz) ?_
 all_goals
  walk_at "g";refine rv e4 (rv rfl ⟨_,rfl,?_⟩);refine(λmix=>⟨λc1=>?thenA,λ_=>⟨λz=>(nomatch z),λ_=>mix⟩⟩) ?thenB
  case thenA=>
   walk_at "g";refine rv rfl ?_;walk_at "g";refine rv rfl (rv rfl ⟨_,rfl,λc2=>?_,λ_=>mix⟩);walk_at "g";refine rv rfl ?_;walk_at "g";refine rv (set0 _) ?_;walk_at "g";exact⟨_,by split <;> lia,rfl⟩
  case thenB=>
   walk_at "g";refine k8 (by decide) ?_;walk_at "g";refine oo (FE (by decide) (by decide)) ?_;walk_at "g";refine oo (mul_r (by lia) (by lia)) (rv rfl ?_);walk_at "g";refine rv rfl ?_;walk_at "g";refine oo (mul_r (by decide) (by decide)) ?_;walk_at "g";refine k8 (by decide) ?_;walk_at "g";refine oo (FE (Int.lt_of_lt_of_le (by decide) (Ub _ (by decide))) (Int.lt_trans (Uz _ (by decide)) (by decide))) ?_;walk_at "g";refine k8 (by decide) ?_;walk_at "g";refine oo (mul_r (by decide) (by decide)) ?_;walk_at "g";refine rv rfl ?_;walk_at "g";refine rv rfl ?_;walk_at "g";refine k8 (by decide) ?_;walk_at "g";refine rv rfl (rv rfl ?_);walk_at "g";refine rv (set0 _) ?_;walk_at "g";exact⟨_,Int.add_nonneg (Ub _ (by decide)) (by decide),rfl⟩
structure St(s c:Nat)(cs:List Int)(R:Nat)(h:MH):Prop where
 st:∃n t:Int,h[s]?=some (.lst [.int n,.ob c,.int t])/\0<=n/\0<=t/\t+R<=2^60
 ce:h[c]?=some (.lst (cs.map D.int))
 ne:c≠s
def ua(s:Nat)(h h':MH):Prop:=h'.length=h.length/\∀k,k≠s->h'[k]?=h[k]?
theorem ua.refl(s:Nat)(h:MH):ua s h h:=⟨rfl,λ_ _=>rfl⟩
theorem ua.trans(a:ua s h h1)(b:ua s h1 h2):ua s h h2:=⟨b.1.trans a.1,λk n=>(b.2 k n).trans (a.2 k n)⟩
theorem ua.set:ua s h (h.set s o):=⟨UI,λk n=>Tu (Um n)⟩
section
variable {s c R:Nat} {cs:List Int} {h:MH}
theorem St.le(S:St s c cs R h)(hB:R'<=R):St s c cs R' h:=by
 obtain⟨n,t,e,a,b,d⟩:=S.st;exact⟨⟨n,t,e,a,b,by lia⟩,S.ce,S.ne⟩
theorem St.dn(k:Nat)(S:St s c cs (R+k) h):St s c cs R h:=S.le (S9 _ _)
theorem St.set{R':Nat}{n t:Int}(S:St s c cs R h)(h1:0<=n)(h2:0<=t)(h3:t+R'<=2^60):St s c cs R' (h.set s (.lst [.int n,.ob c,.int t])):=by
 obtain⟨n0,t0,e,_⟩:=S.st;exact⟨⟨n,t,Th (Se.mp e).1,h1,h2,h3⟩,by rw[Tu (Um S.ne)];exact S.ce,S.ne⟩
theorem St.more(S:St s c cs R h)(g:MH):St s c cs R (h++g):=by
 obtain⟨n,t,e,r⟩:=S.st;exact⟨⟨n,t,by rw[Sx (Se.mp e).1];exact e,r⟩,by rw[Sx (Se.mp S.ce).1];exact S.ce,S.ne⟩
theorem St.off(S:St s c cs R h)(h1:k≠s)(h2:k≠c):St s c cs R (h.set k o):=by
 obtain⟨n,t,e,r⟩:=S.st;exact⟨⟨n,t,by rw[Tu h1];exact e,r⟩,by rw[Tu h2];exact S.ce,S.ne⟩
theorem St.lt(S:St s c cs R h):s < h.length/\c < h.length:=by
 obtain⟨n,t,e,r⟩:=S.st;exact⟨(Se.mp e).1,(Se.mp S.ce).1⟩
structure Sb(s c:Nat)(cs:List Int)(h0:MH)(R:Nat)(h:MH):Prop where
 S:St s c cs R h
 b:ua s h0 h
theorem St.sb(S:St s c cs R h):Sb s c cs h R h:=⟨S,ua.refl _ _⟩
theorem Sb.dn(k:Nat)(A:Sb s c cs h0 (R+k) h):Sb s c cs h0 R h:=⟨A.S.dn k,A.b⟩
theorem Sb.le(A:Sb s c cs h0 R h)(hR:R'<=R):Sb s c cs h0 R' h:=⟨A.S.le hR,A.b⟩
theorem Sb.at_(A:Sb s c cs h0 R h)(e:h0[k]?=some o)(n:k≠s):h[k]?=some o:=(A.b.2 k n).trans e
variable {h0:MH}
theorem dS{m:Int}{Q:D×MH->Prop}(A:Sb s c cs h0 (R+1) h)(m0:0 < m)(m1:m<=10^40)(k:∀(r:Int)(h1:MH),0<=r->r < m->Sb s c cs h0 R h1->Q (.int r,h1)):Rn (aR [.ob s,.int m] h) Q:=by
 have S:=A.S;obtain⟨n,t,hs,n0,t0,tB⟩:=S.st;refine bU ?_;walk_at "g";refine rv (hU hs rfl) ?_;walk_at "g";refine rv rfl ⟨_,rfl,λ_=>?pos,λ_=>?neg⟩
 case' pos=>
  walk_at "g";obtain⟨p,ep,n',n0',rfl⟩:=CZ hs S.ce S.ne t0 (by lia);refine rv ep ?_;have S1:St s c cs R (h.set s (.lst [.int n',.ob c,.int (t+1)])):=S.set n0' (by lia) (by lia);have b1:ua s h (h.set s (.lst [.int n',.ob c,.int (t+1)])):=ua.set
 case' neg=>
  have S1:St s c cs R h:=S.dn 1;have b1:ua s h h:=ua.refl s h
 all_goals
  generalize h.set s (MO.lst [D.int _,D.ob c,D.int (t+1)])=h1 at*;obtain⟨n2,t2,hs2,n02,t02,tB2⟩:=S1.st;walk_at "g";refine rv (hU hs2 rfl) ?_;walk_at "g";refine k8 m0 ?_;walk_at "g";refine rv (hU hs2 rfl) ?_;walk_at "g";refine KS m0 m1 ?_;walk_at "g";refine rv (ni (p:=0) hs2 rfl) ?_;walk_at "g";exact k _ _ (Ub _ (by lia)) (Uz _ m0) ⟨S1.set (Int.ediv_nonneg n02 (by lia)) t02 tB2,A.b.trans (b1.trans ua.set)⟩
theorem Dz(A:Sb s c cs h0 (R+1) h)(hd:d=.lv xs\/d=.tup xs)(l0:0 < xs.length)(l1:xs.length<=1000000)(k:∀(x:D)(h1:MH),x∈xs->Sb s c cs h0 R h1->Q (x,h1)):Rn (aN [.ob s,d] h) Q:=by
 refine bU ?_;walk_at "g";have e1:cG [d] h=some (.int xs.length,h):=by rcases hd with rfl | rfl <;> rfl
 refine rv e1 ?_;walk_at "g";refine dS A (by lia) (by lia) λr h' r0 r1 A1=>?_;obtain⟨v,e3,hv⟩:=GQ r0 r1;have e4:aT d (.int r) h'=some (v,h'):=by rcases hd with rfl | rfl <;> simp only[aT,eA,dP,Td,e3,Tj]
 refine rv e4 ?_;walk_at "g";exact k v h' hv A1
theorem kU{is:List Int}{Q:D×MH->Prop}(P:Int->Prop)(hP:∀i∈is,P i)(A:Sb s c cs h0 (R+1) h)(k:∀(i:Int)(h1:MH),P i->i∈is->Sb s c cs h0 R h1->Q (.int i,h1))(l0:0 < is.length:=by simp)(l1:is.length<=1000:=by simp):Rn (aN [.ob s,.lv (is.map D.int)] h) Q:=
 Dz A (.inl rfl) (by rw[R9];exact l0) (by rw[R9];lia) λx h1 hx A1=>by
  obtain⟨i,hi,rfl⟩:=Tq.mp hx;exact k i h1 (hP i hi) hi A1
end
theorem AN(ns:List Int)(hn:ns.length<=63)(R:Nat)(hR:R<=2^60):∃cs:List Int,gg [.ro (ns.map D.int)] []=some (.ob 1,[.lst (cs.map D.int),.lst [.int 0,.ob 0,.int 0]])/\St 1 0 cs R [.lst (cs.map D.int),.lst [.int 0,.ob 0,.int 0]]:=by
 refine⟨(ns.drop (HT.cM ns.length 0 none)).take (HT.cM ns.length ns.length (some 63)-HT.cM ns.length 0 none),?_,⟨⟨0,0,rfl,by decide,by decide,by lia⟩,rfl,by decide⟩⟩;have e:Rn (gg [.ro (ns.map D.int)] []) λp=>p=(.ob 1,[.lst (((ns.drop (HT.cM ns.length 0 none)).take (HT.cM ns.length ns.length (some 63)-HT.cM ns.length 0 none)).map D.int),.lst [.int 0,.ob 0,.int 0]]):=by
  refine bU ?_;walk_at "g";refine K3 ?_;walk_at "g";refine⟨_,rfl,rv rfl ?_⟩;walk_at "g";refine⟨_,_,_,rfl,rfl,?_⟩;walk_at "g";simp only[cutD,R9,VN,Vu,TY,TN,Ta,Sf]
 obtain⟨p,ep,rfl⟩:=e;exact ep
end Mi
namespace Mi
open PySem Sm L2
theorem bH(hl:a.length+b.length<=10000):aw (.str a) (.str b) h=some (.str (a++b),h):=by
 show(if a.length+b.length<=sizeLine then some (D.str (a++b),h) else none)=_;rw[Si (by rw[show sizeLine=16777216 from rfl];lia)]
theorem Ga(hl:a.length<=10000):cG [.str a] h=some (.int a.length,h):=by
 show(if a.length<=sizeLine then some (D.int a.length,h) else none)=_;rw[Si (by rw[show sizeLine=16777216 from rfl];lia)]
theorem y7(hl:a.length<=10000):fT (.str a) lo hi h=some (.str (Txt.slice a lo hi),h):=by
 show(if a.length<=sizeLine then some (D.str (Txt.slice a lo hi),h) else none)=_;rw[Si (by rw[show sizeLine=16777216 from rfl];lia)]
noncomputable def tO(z:Str)(i:Int):Str:=match gG z.cps.toList i with
 | some c=>⟨#[c]⟩
 | none=>""
theorem IW(hl:z.length<=10000)(h0:0<=i)(h1:i < z.cps.toList.length):(tO z i).length=1/\aT (.str z) (.int i) h=some (.str (tO z i),h):=by
 obtain⟨v,e,_⟩:=GQ (xs:=z.cps.toList) h0 h1;have e1:tO z i=⟨#[v]⟩:=by unfold tO;rw[e]
 rw[e1];refine⟨rfl,?_⟩;show(if z.length<=sizeLine then(gG z.cps.toList i).map λc=>(D.str ⟨#[c]⟩,h) else none)=_;rw[Si (by rw[show sizeLine=16777216 from rfl];lia),e];rfl
noncomputable def fB:Str:="abcdefghijklmnopqrstuvwxyz"
theorem lD(h0:0<=i)(h1:i < 26):(tO fB i).length=1/\aT (.str "abcdefghijklmnopqrstuvwxyz") (.int i) h=some (.str (tO fB i),h):=
 IW (z:=fB) (by decide) h0 (by rw[show(fB.cps.toList.length:Int)=26 by decide];exact h1)
def low(w:Str):Prop:=∀c∈w.cps,97<=c/\c<=122
theorem IA:low "":=λc hc=>absurd (show c∈(#[]:Array Nat) from hc) (by simp)
theorem xk(ha:low a)(hb:low b):low (a++b):=by
 intro c hc;have hc':c∈a.cps++b.cps:=hc;rcases Array.mem_append.mp hc' with z | z
 ·exact ha c z
 ·exact hb c z
theorem vw(l u:Option Int)(h:low x):low (Txt.slice x l u):=by
 unfold Txt.slice
 split
 ·exact h
 ·intro c hc;have hc':c∈(List.filterMap (x.cps[·]?) (Builtin.Str.strSliceIndices l u 1 x.length)).toArray:=hc;rw[List.mem_toArray] at hc';obtain⟨i,_,e⟩:=Uy.mp hc';exact h c (Xb e)
theorem LV(h:low w):PyData.strOk w=true:=j4.mpr λc hc=>by have:=(h c hc).2;exact Ug this (by decide)
theorem AB:fB.cps.toList=(List.range 26).map (97+·):=by decide+kernel
theorem xE(h0:0<=i)(h1:i < 26):tO fB i=⟨#[97+i.toNat]⟩:=by
 obtain⟨n,rfl⟩:=Up h0;have:gG fB.cps.toList (n:Int)=some (97+n):=by
  rw[AB];exact qT (by rw[SK,Xi (by exact V1.mp h1)];rfl)
 unfold tO;rw[this];rfl
theorem zt(h0:0<=i)(h1:i < 26):low (tO fB i):=by
 rw[xE h0 h1];intro c hc;have:c=97+i.toNat:=by simpa using hc
 lia
theorem yd(h0:0<=j):(Txt.slice x none (some j)).length<=j.toNat:=by
 have key:(Builtin.Str.strSliceIndices none (some j) 1 x.length).length<=j.toNat:=by
  unfold Builtin.Str.strSliceIndices sliceRange;simp only[show(1:Int) > 0 by decide,VC,R9,Tr]
  (split <;> (try split) <;> (try split) <;> (try simp only[W7]) <;> lia)
 unfold Txt.slice
 split
 ·next z=>simp at z;have:x.cps.size=x.length:=rfl;lia
 ·show(List.filterMap _ (Builtin.Str.strSliceIndices none (some j) 1 x.length)).toArray.size<=_;rw[SH];exact Sw (VO _ _) key
theorem yc(h0:0<=j):(Txt.slice x (some j) none).length<=x.length-j.toNat:=by
 have key:(Builtin.Str.strSliceIndices (some j) none 1 x.length).length<=x.length-j.toNat:=by
  unfold Builtin.Str.strSliceIndices sliceRange;simp only[show(1:Int) > 0 by decide,VC,R9,Tr]
  (split <;> (try split) <;> (try split) <;> (try simp only[W7]) <;> lia)
 unfold Txt.slice
 split
 ·next z=>simp at z;have:x.cps.size=x.length:=rfl;lia
 ·show(List.filterMap _ (Builtin.Str.strSliceIndices (some j) none 1 x.length)).toArray.size<=_;rw[SH];exact Sw (VO _ _) key
theorem AX{a b x y:Str}(e:a++x++b=a++y++b):x=y:=by
 have e1:(a.cps++x.cps)++b.cps=(a.cps++y.cps)++b.cps:=congrArg Str.cps e;have e2:=congrArg Array.toList e1;simp only[VB] at e2;have e3:=List.append_cancel_left (List.append_cancel_right e2);cases x;cases y;exact congrArg Str.mk (Array.toList_inj.mp e3)
noncomputable def wordAt(stem:Str)(at_ first stride:Int)(k:Int):Str:=Txt.slice stem none (some at_)++tO fB ((first+stride*k) % 26)++Txt.slice stem (some at_) none
theorem DW{stem:Str}{at_ first stride:Int}{k j:Nat}(hs:stride∈[1,3,5,7,9,11])(hk:k < 6)(hj:j < 6)(e:wordAt stem at_ first stride k=wordAt stem at_ first stride j):k=j:=by
 have e1:=AX (show Txt.slice stem none (some at_)++_++Txt.slice stem (some at_) none=Txt.slice stem none (some at_)++_++_ from e);rw[xE (Ub _ (by decide)) (Uz _ (by decide)),xE (Ub _ (by decide)) (Uz _ (by decide))] at e1;have e2:97+((first+stride*k) % 26).toNat=97+((first+stride*j) % 26).toNat:=by injection e1 with e1;injection e1 with e1;injection e1
 have e3:(first+stride*k) % 26=(first+stride*j) % 26:=by
  have a1:=Ub (first+stride*k) (show(26:Int)≠0 by decide);have a2:=Ub (first+stride*j) (show(26:Int)≠0 by decide);rw[<-VA a1,<-VA a2,Nat.add_left_cancel e2]
 have e4:=Int.emod_eq_emod_iff_emod_sub_eq_zero.mp e3;rw[show first+stride*(k:Int)-(first+stride*(j:Int))=stride*((k:Int)-(j:Int)) by rw[Int.mul_sub,Int.add_sub_add_left]] at e4;exact(by decide:∀s∈([1,3,5,7,9,11]:List Int),∀k:Nat,k < 6->∀j:Nat,j < 6->(s*((k:Int)-(j:Int))) % 26=0->k=j) stride hs k hk j hj e4
theorem xJ{h:MH}{s c R:Nat}{cs:List Int}{m:Int}{h0:MH}{Q:D×MH->Prop}(A:Sb s c cs h0 (R+20) h)(m0:0<=m)(m1:m<=6)
  (kk:∀(ws:List Str)(h1:MH),ws.length=m.toNat->(∀w∈ws,1<=w.length/\w.length<=7/\low w)->ws.Nodup->Sb s c cs h0 R h1->Q (.lv (ws.map D.str),h1)):Rn (eP [.ob s,.int m] h) Q:=by
 refine bU ?_;walk_at "g";refine g8 ?_;walk_at "g";refine kU (is:=[0,1,1,2,3,6]) (λi=>0<=i/\i<=6) (by decide) A λk h1 hk _ A1=>?_;walk_at "g";refine⟨k,rfl,by exact Uj (by decide) hk.1,by exact UX hk.2 (by decide),?_⟩;refine cZ (λi δ h'=>∃stem d4,δ=[some (.ob s),some (.int m),some (.str "abcdefghijklmnopqrstuvwxyz"),some (.str stem),d4,none,none,none]/\stem.length<=i/\low stem/\Sb s c cs h0 (R+19-i) h')
  ⟨"",_,rfl,Sj _,IA,A1⟩ (λ_ _ _ _ _=>rfl) ?_ ?_
 ·rintro i x δ h2 hx ⟨stem,d4,rfl,hst,bg,A2⟩;have hi:i < k.toNat:=by
   have:=(Se.mp hx).1
   simpa using this
  rw[show R+19-i=R+19-(i+1)+1 by lia] at A2;walk_at "g";refine dS A2 (by decide) (by decide) λr h3 r0 r1 A3=>?_;walk_at "g";obtain⟨hc,e4⟩:=lD (h:=h3) r0 r1;refine rv e4 ?_;walk_at "g";refine rv (bH (by lia)) ?_;walk_at "g";exact⟨stem++tO fB r,_,rfl,by rw[Tn];lia,xk bg (zt r0 r1),A3⟩
 ·rintro δ h2 ⟨stem,d4,rfl,hst,bg,A2⟩;rw[R9,Tr] at hst A2;have A2:Sb s c cs h0 (R+3) h2:=A2.le (by lia);walk_at "g";refine rv (Ga (by lia)) ?_;walk_at "g";refine rv (a:=(.int ((stem.length:Int)+1),h2)) rfl ?_;walk_at "g";refine dS A2 (by simp) (by lia) λat_ h3 a0 a1 A3=>?_
  walk_at "g";refine dS A3 (by decide) (by decide) λfirst h4 f0 f1 A4=>?_
  walk_at "g";refine kU (is:=[1,3,5,7,9,11]) (λi=>0<=i/\i<=11) (by decide) A4 λstride h5 ht tm A5=>?_;obtain⟨t0,t1⟩:=ht;walk_at "g";refine g8 ?_;walk_at "g";refine⟨m,rfl,by exact Uj (by decide) m0,by exact UX m1 (by decide),?_⟩;have hw:∀k:Int,1<=(wordAt stem at_ first stride k).length/\(wordAt stem at_ first stride k).length<=7/\low (wordAt stem at_ first stride k):=by
   intro k;have c0:=Ub (first+stride*k) (show(26:Int)≠0 by decide);have c1:=Uz (first+stride*k) (show(0:Int) < 26 by decide);obtain⟨hc,e⟩:=lD (i:=(first+stride*k) % 26) (h:=[]) c0 c1;have s1:=yd (x:=stem) a0;have s2:=yc (x:=stem) a0;have s3:low (wordAt stem at_ first stride k):=xk (xk (vw _ _ bg) (zt c0 c1)) (vw _ _ bg);refine(λ(z:_/\_)=>⟨z.1,z.2,s3⟩) ?_;unfold wordAt;rw[Tn,Tn]
   lia
  refine rv (wQ rfl (λx=>match x with | .int k=>some (.str (wordAt stem at_ first stride k)) | _=>none) (λδ=>∃d0,δ=[d0,some (.int at_),some (.int first),some (.str "abcdefghijklmnopqrstuvwxyz"),some (.str stem),some (.int stride)]) ⟨_,rfl⟩ ?_) ⟨?_,?_⟩
  ·rintro x hx δ ⟨d0,rfl⟩;obtain⟨k,hk,rfl⟩:=Tq.mp hx;refine rv rfl ⟨rfl,rv rfl ⟨rfl,⟨_,rfl⟩,λ_=>⟨_,rfl,?_⟩,λz=>(nomatch z)⟩⟩;refine rZ (rZ (Af ?_));walk_at "g";refine⟨_,rfl,rv (y7 (a:=stem) (by lia)) ?_⟩;walk_at "g";refine oo (FE (by exact Uj (by decide) t0) (by exact UX t1 (by decide))) ?_;refine rv (a:=(.int (first+stride*(k:Int)),h5)) rfl ?_;walk_at "g";refine k8 (by decide) ?_;obtain⟨hc,e⟩:=lD (i:=(first+stride*(k:Int)) % 26) (h:=h5) (Ub _ (by decide)) (Uz _ (by decide));have s1:=Txt.slice_le stem none (some at_);have s2:=Txt.slice_le stem (some at_) none;refine rv e (rv (bH (by lia)) ?_);refine Af ?_;walk_at "g";refine⟨_,rfl,?_⟩;walk_at "g";refine rv (y7 (a:=stem) (by lia)) (rv (bH (by rw[Tn];lia)) ?_);rfl
  ·rw[VH];exact Sw (VO _ _) (by rw[Tr,show sizeLine=16777216 from rfl];lia)
  ·walk_at "g";rw[show List.filterMap (λx=>match x with | D.int k=>some (D.str (wordAt stem at_ first stride k)) | _=>none) ((List.range m.toNat).map λ(k:Nat)=>D.int k)=((List.range m.toNat).map λ(k:Nat)=>wordAt stem at_ first stride (k:Int)).map D.str by
    rw[VH,TR];exact congrFun (Xa (f:=D.str∘λ(k:Nat)=>wordAt stem at_ first stride (k:Int))) _]
   refine kk _ h5 (by simp) (λw hw'=>?_) ?_ A5
   ·obtain⟨k,_,rfl⟩:=Tq.mp hw';exact hw k
   ·rw[List.nodup_iff_pairwise_ne,List.pairwise_map];refine(List.nodup_range (n:=m.toNat)).imp_of_mem λ{a b} ha hb hab e=>hab ?_;have:=UR.mp ha;have:=UR.mp hb;exact DW tm (by lia) (by lia) e
theorem ua.app{s:Nat}{hb h2:MH}{o:MO}(b:ua s (hb++[o]) h2)(hs:s < hb.length):∃hb',h2=hb'++[o]/\ua s hb hb':=by
 have hl:h2.length=hb.length+1:=by rw[b.1];simp
 refine⟨h2.take hb.length,?_,by rw[SO];lia,λk hk=>?_⟩
 ·refine Ww λk=>?_
  by_cases z:k < hb.length
  ·rw[Sx (by rw[SO];lia),Tg z]
  ·by_cases z2:k=hb.length
   ·subst z2;rw[b.2 _ (by exact VZ hs),SD (Sj _),SD (by rw[SO];lia),SO];rw[show min hb.length h2.length=hb.length by lia]
   ·rw[Tx (by lia),Tx (by rw[Sn,SO];simp;lia)]
 ·by_cases z:k < hb.length
  ·rw[Tg z,b.2 k hk,Sx z]
  ·rw[Tx (by rw[SO];lia),Tx (by exact Uw z)]
theorem St.cut{s c:Nat}{cs:List Int}{B:Nat}{hb g:MH}(S:Mi.St s c cs B (hb++g))(h1:s < hb.length)(h2:c < hb.length):Mi.St s c cs B hb:=by
 obtain⟨n,t,e,r⟩:=S.st;have e2:=S.ce;rw[Sx h1] at e;rw[Sx h2] at e2;exact⟨⟨n,t,e,r⟩,e2,S.ne⟩
def Cl(h:MH):Prop:=∀o∈h,zH h.length o=true
theorem B4(n:Nat):∀js:List Int,fJ n (js.map D.int)=true
 | []=>rfl
 | j::r=>by rw[Sl];show(hV n (.int _)&&fJ n _)=true;rw[B4 n r];rfl
theorem Cl.but{s c:Nat}{cs:List Int}{B:Nat}{h h':MH}(C:Cl h)(S:Mi.St s c cs B h')(b:ua s h h'):Cl h':=by
 intro o ho;obtain⟨k,hk⟩:=UB.mp ho
 by_cases z:k=s
 ·subst z;obtain⟨n,t,e,_⟩:=S.st;rw[e] at hk;cases hk;show(true&&(decide (c < h'.length)&&(true&&true)))=true;rw[Tb S.lt.2];rfl
 ·rw[b.2 k z] at hk;rw[b.1];exact C o (Sd hk)
theorem sN{h hb g:MH}{d:D}(hl:hb.length=h.length)(C:Cl hb)(h1:∀n,d≠.ob n)(h2:hV h.length d=true):leave h d (hb++g)=some (d,hb):=by
 have h3:zP h.length (hb++g) d=d:=by
  cases d with
  | ob n=>exact absurd rfl (h1 n)
  | _=>rfl
 unfold leave;rw[h3,<-hl,Vw (Sj _),TQ,hl,h2];have:(hb.all (zH h.length))=true:=by
  rw[US];intro o ho;rw[<-hl];exact C o ho
 rw[this,Bool.or_true];rfl
theorem Q3{n:Nat}{o:MO}{h:MH}(e:h[n]?=some o):nC [(n,o)] h=true:=by
 unfold nC;rw[e];dsimp only;rw[vQ];rfl
theorem Cl.add{h:MH}(C:Cl h){o:MO}(ho:zH (h.length+1) o=true)(up:∀o∈h,zH h.length o=true->zH (h.length+1) o=true):Cl (h++[o]):=by
 intro x hx;rw[Sn,UC];rcases SF.mp hx with z | z
 ·exact up x z (C x z)
 ·rw[Sz.mp z];exact ho
mutual
theorem GA{n m:Nat}(hm:n<=m):∀d:D,hV n d=true->hV m d=true
 | .cq,_=>rfl
 | .bl _,_=>rfl
 | .int _,_=>rfl
 | .str _,_=>rfl
 | .ty _,_=>rfl
 | .ob k,h=>by simp only[hV,TB] at h ⊢;exact Sw h hm
 | .tup xs,h=>by simp only[hV] at h ⊢;exact lJ hm xs h
 | .lv xs,h=>by simp only[hV] at h ⊢;exact lJ hm xs h
 | .ro xs,h=>by simp only[hV] at h ⊢;exact lJ hm xs h
 | .dv xs,h=>by simp only[hV] at h ⊢;exact AU hm xs h
theorem lJ{n m:Nat}(hm:n<=m):∀d:List D,fJ n d=true->fJ m d=true
 | [],_=>rfl
 | x::r,h=>by
  simp only[fJ,Tf] at h ⊢;exact⟨GA hm x h.1,lJ hm r h.2⟩
theorem AU{n m:Nat}(hm:n<=m):∀d:List (Key×D),Jf n d=true->Jf m d=true
 | [],_=>rfl
 |(_,x)::r,h=>by
  simp only[Jf,Tf] at h ⊢;exact⟨GA hm x h.1,AU hm r h.2⟩
end
theorem MA{n m:Nat}(hm:n<=m)(o:MO)(h:zH n o=true):zH m o=true:=by
 cases o with
 | lst xs=>exact lJ hm xs h
 | dct xs=>exact AU hm xs h
 | dcH xs=>have h:=SU.mp h;exact SU.mpr ⟨lJ hm _ h.1,lJ hm _ h.2⟩
 | exc _=>rfl
theorem Cl.snoc{h:MH}(C:Cl h){o:MO}(ho:zH (h.length+1) o=true):Cl (h++[o]):=C.add ho λx _ z=>MA (UL _) x z
theorem Cl.set{h:MH}(C:Cl h){n:Nat}{o:MO}(ho:zH h.length o=true):Cl (h.set n o):=by
 intro x hx;rw[UI];rcases WK hx with z | z
 ·exact C x z
 ·rw[z];exact ho
theorem MB{n:Nat}:∀{xs:List D},(∀x∈xs,hV n x=true)->fJ n xs=true
 | [],_=>rfl
 | x::r,h=>by
  show(hV n x&&fJ n r)=true;rw[h x Sk,MB λy hy=>h y (Sq _ hy)];rfl
end Mi
namespace Sm
open PySem L2
theorem cg{α:Type}{o:Option α}{a:α}(r:Rn o λp=>p=a):o=some a:=let⟨_,e,q⟩:=r;by rw[e,q]
theorem td(hl:xs.length+ys.length<=10000):aw (.tup xs) (.tup ys) h=some (.tup (xs++ys),h):=by
 cases xs with
 | nil=>rfl
 | cons x xs=>
  show(if xs.length+1+ys.length<=sizeLine then some (D.tup (x::xs++ys),h) else none)=_;rw[Si (by rw[show sizeLine=16777216 from rfl];rw[Sf] at hl;exact Sw hl (by decide))]
theorem GB{ea eb ec:EM}{δ:DS}{h:MH}{a n b:Int}(ha:ea δ h=some (.int a,h))(hn:eb δ h=some (.int n,h))(hb:ec δ h=some (.int b,h)):gq Gb Gb ea eb ec δ h=some (.bl (decide (a<=n)&&decide (n<=b)),h):=by
 refine cg (yu (rv ha (rv hn (rv rfl ⟨_,rfl,?_⟩))))
 by_cases c:a<=n
 ·rw[Si (Tb c),Tb c];exact rv hb (rv rfl rfl)
 ·rw[Sv (by simpa using c),Tt c];rfl
end Sm
namespace Mi
open PySem Sm L2 Pg
noncomputable def nS(W:Wd)(fl:List Int)(left odd:Int):MO:=.dct [(.inr (Str.ofString "names"),.lv (W.names.map D.str)),(.inr (Str.ofString "deeds"),.lv (W.ai.map D.str)),(.inr (Str.ofString "params"),.lv (W.params.map λps=>.lv (ps.map D.str))),(.inr (Str.ofString "floors"),.lv (fl.map D.int)),(.inr (Str.ofString "left"),.int left),(.inr (Str.ofString "odd"),.int odd)]
structure qy(W:Wd)(fl:List Int)(odd:Int):Prop where
 n1:1<=W.names.length
 n2:W.names.length<=6
 d1:1<=W.ai.length
 d2:W.ai.length<=6
 pl:W.params.length=W.ai.length
 p3:∀ps∈W.params,ps.length<=3
 QY:fl.length=W.ai.length
 f0:∀f∈fl,0<=f/\f < W.names.length
 o0:0<=odd
 o1:odd<=1000
 sn:∀w∈W.names,1<=w.length/\w.length<=7/\low w
 sd:∀w∈W.ai,1<=w.length/\w.length<=7/\low w
 sp:∀ps∈W.params,∀w∈ps,1<=w.length/\w.length<=7/\low w
 nn:W.names.Nodup
 nd:W.ai.Nodup
 np:∀ps∈W.params,ps.Nodup
section
variable {h:MH} {wd:Nat} {W:Wd} {fl:List Int} {left odd:Int}
theorem eC(hw:h[wd]?=some (nS W fl left odd)):aT (.ob wd) (.str (Str.ofString "names")) h=some (.lv (W.names.map D.str),h):=by simp only[aT,eA,hw,nS];rfl
theorem eF(hw:h[wd]?=some (nS W fl left odd)):aT (.ob wd) (.str (Str.ofString "deeds")) h=some (.lv (W.ai.map D.str),h):=by simp only[aT,eA,hw,nS];rfl
theorem df(hw:h[wd]?=some (nS W fl left odd)):aT (.ob wd) (.str (Str.ofString "params")) h=some (.lv (W.params.map λps=>.lv (ps.map D.str)),h):=by simp only[aT,eA,hw,nS];rfl
theorem nV(hw:h[wd]?=some (nS W fl left odd)):aT (.ob wd) (.str (Str.ofString "floors")) h=some (.lv (fl.map D.int),h):=by simp only[aT,eA,hw,nS];rfl
theorem qz(hw:h[wd]?=some (nS W fl left odd)):aT (.ob wd) (.str (Str.ofString "left")) h=some (.int left,h):=by simp only[aT,eA,hw,nS];rfl
theorem zL(hw:h[wd]?=some (nS W fl left odd)):aT (.ob wd) (.str (Str.ofString "odd")) h=some (.int odd,h):=by simp only[aT,eA,hw,nS];rfl
theorem DZ(hw:h[wd]?=some (nS W fl left odd))(v:Int):uG (.ob wd) (.str (Str.ofString "left")) (.int v) h=some (h.set wd (nS W fl v odd)):=by
 have h1:(6:Nat) < sizeLine:=by decide
 simp only[uG,hw,nS,xm,Td,Sf,TY];rw[Si h1];rfl
end
section
variable {h h0:MH} {s c wd R:Nat} {cs:List Int} {W:Wd} {fl:List Int} {left odd:Int} {Q:D×MH->Prop}
theorem GH(A:Sb s c cs h0 (R+1) h)(hw:h[wd]?=some (nS W fl left odd))(ok:qy W fl odd)(k:∀(b:Bool)(h1:MH),Sb s c cs h0 R h1->Q (.bl b,h1)):Rn (dG [.ob s,.ob wd] h) Q:=by
 refine bU ?_;nofun;refine rv (zL hw) ?_;nofun;refine⟨_,rfl,λz=>?_,λz=>?_⟩
 ·nofun;refine rv (zL hw) ?_;nofun;refine dS A (Tv z) (by have:=ok.o1;exact Uj this (by decide)) λm h1 _ _ A1=>?_;nofun;exact k _ _ A1
 ·nofun;exact k _ _ (A.dn 1)
theorem xK{ps:List Str}(A:Sb s c cs h0 (R+4) h)(hp:ps.length<=3)(k:∀(t:Term)(h1:MH),cw ps t->t.2<=40->Sb s c cs h0 R h1->Q (bo t,h1)):Rn (ck [.ob s,.lv (ps.map D.str)] h) Q:=by
 refine bU ?_;nofun;refine dS A (by decide) (by decide) λm h1 m0 m1 A1=>?_;nofun;have plain:∀{h2:MH} {P:D×MH->Prop},Sb s c cs h0 (R+1) h2->(∀(i:Int)(h3:MH),-40<=i/\i<=40->Sb s c cs h0 R h3->P (.int i,h3))->Rn (aN [.ob s,.lv [.int 0,.int 0,.int 1,.int 1,.int 2,.int 3,.int (-1),.int (m-40)]] h2) P:=λA2 kk=>
  kU (is:=[0,0,1,1,2,3,-1,m-40]) (λi=>-40<=i/\i<=40) (by intro x hx;simp at hx;lia) A2 λi h3 hi _ A3=>kk i h3 hi A3
 refine⟨_,rfl,λz=>?_,λz=>⟨λz=>(nomatch z),λ_=>?_⟩⟩
 ·have z:0 < ps.length:=by simpa using z
  nofun;refine dS A1 (by decide) (by decide) λm2 h2 _ _ A2=>?_;nofun;refine⟨_,rfl,λ_=>?_,λ_=>?_⟩
  ·nofun;refine Dz A2 (.inl rfl) (by simpa using z) (by simp;lia) λd3 h3 hd3 A3=>?_;obtain⟨w,hw,rfl⟩:=Tq.mp hd3;nofun;refine kU (is:=[0,0,0,0,1,1,-1,2,m-40]) (λi=>-40<=i/\i<=40) (by intro x hx;simp at hx;lia) A3 λi h4 hi _ A4=>?_;nofun;exact k (w,i) h4 ⟨.inr hw,by dsimp only;exact Uj (by decide) hi.1,by dsimp only;exact Uj hi.2 (by decide)⟩ hi.2 A4
  ·nofun;refine plain (A2.dn 1) λi h3 hi A3=>?_;nofun;exact k (Str.ofString "",i) h3 ⟨.inl rfl,by dsimp only;exact Uj (by decide) hi.1,by dsimp only;exact Uj hi.2 (by decide)⟩ hi.2 A3
 ·nofun;refine plain (A1.dn 2) λi h3 hi A3=>?_;nofun;exact k (Str.ofString "",i) h3 ⟨.inl rfl,by dsimp only;exact Uj (by decide) hi.1,by dsimp only;exact Uj hi.2 (by decide)⟩ hi.2 A3
end
theorem b8{α:Type}{xs:List α}{f:α->D}{h:MH}{j:Nat}{x:α}(e:xs[j]?=some x):aT (.lv (xs.map f)) (.int j) h=some (f x,h):=by
 have hj:j < xs.length:=by
  rcases Nat.lt_or_ge j xs.length with z | z
  ·exact z
  ·rw[Tx z] at e;cases e
 show((gG (xs.map f) j).map λz=>(z,h))=_;have:gG (xs.map f) j=some (f x):=by
  unfold gG;rw[show sQ (xs.map f).length j=some j by unfold sQ;simp;exact hj];show(xs.map f)[j]?=_;rw[SK,e];rfl
 rw[this];rfl
theorem iZ(i j:Int)(h:MH):sY [.int i,.int j] h=some (.int (max i j),h):=by
 show some (D.int (if j > i then j else i),h)=_;rw[show(if j > i then j else i)=max i j by split <;> lia]
theorem IV(i j:Int)(h:MH):F8 [.int i,.int j] h=some (.int (min i j),h):=by
 show some (D.int (if j < i then j else i),h)=_;rw[show(if j < i then j else i)=min i j by split <;> lia]
theorem BQ{α:Type}{o:Option Bool}{x y:Option α}{X Y:α->Prop}(r:∃c,o=some c/\(c=true->Rn x Y)/\(c=false->Rn y Y))(f:∀p,Y p->X p):∃c,o=some c/\(c=true->Rn x X)/\(c=false->Rn y X):=
 let⟨c,e,a,b⟩:=r
 ⟨c,e,λz=>(a z).imp f,λz=>(b z).imp f⟩
noncomputable def qZ(t:Term):PyData:=.tuple [.str t.1,.int t.2]
theorem u9:∀ts:List Term,mG (ts.map bo)=some (ts.map qZ)
 | []=>rfl
 | c::r=>by simp only[Sl,mG,u9 r,bo,vc,Td,Tj];rfl
theorem pX:∀ts:List Term,PyData.depthAll (ts.map qZ)<=1
 | []=>by simp[PyData.depthAll]
 | c::r=>by
  have:=pX r;simp only[Sl,PyData.depthAll,qZ,PyData.depth]
  lia
theorem AH(ts:List Term)(h:MH):nj (.lv (ts.map bo)) (.lv []) h=some (.bl (!ts.isEmpty),h):=by
 have:=pX ts;simp only[nj,JT,eA,JS,Bt,u9,vc,mG,Tj,Td];rw[Si ⟨show PyData.depthAll _+1<=64 by exact Ug this (by decide),by decide⟩];cases ts <;> rfl
section
variable {h h0:MH} {s c wd R:Nat} {cs:List Int} {W:Wd} {fl:List Int} {left odd:Int} {Q:D×MH->Prop}
theorem MG{ps:List Str}{j:Nat}{top:Int}{held:List Lock}(A:Sb s c cs h0 (R+10) h)(hw0:h0[wd]?=some (nS W fl left odd))(hne:wd≠s)(ok:qy W fl odd)(hp:W.params[j]?=some ps)(hj:j < W.ai.length)(ht:top<=W.names.length)(hh:∀l∈held,fR W ps l)(hl:held.length<=1000)
  (k1:∀(k:Int)(l:Lock)(h1:MH),max top (fl[j]?.getD 0) < W.names.length->0<=k->k < W.names.length->fR W ps l->Sb s c cs h0 R h1->Q (.tup [.int k,aF l],h1))
  (k2:∀(h1:MH),max top (fl[j]?.getD 0)=W.names.length->Sb s c cs h0 R h1->Q (.tup [.cq,.cq],h1)):Rn (fM [.ob s,.ob wd,.int j,.int top,.lv (held.map aF)] h) Q:=by
 have hw:=A.at_ hw0 hne;obtain⟨f,hf⟩:∃f,fl[j]?=some f:=⟨_,SN (by rw[ok.QY];exact hj)⟩;have hfm:=ok.f0 f (Sd hf);have n2:=ok.n2;rw[hf] at k1 k2;dsimp only[Option.getD_some] at k1 k2;refine bU ?_;nofun;refine rv (nV hw) ?_;nofun;refine rv (b8 hf) ?_;nofun;refine rv (iZ top f h) ?_;have lo0:0<=max top f:=by lia
 have lo1:max top f<=W.names.length:=by lia
 generalize max top f=lo at lo0 lo1 k1 k2 ⊢;nofun;refine rv (eC hw) ?_;nofun;refine⟨_,rfl,λz=>?_,λz=>?_⟩
 ·have z:lo=W.names.length:=by simpa using z
  nofun;exact k2 h z (A.dn 10)
 have z:lo≠W.names.length:=by simpa using z
 have z0:lo < W.names.length:=by lia
 have k1:=λk l h1=>k1 k l h1 z0;clear k2;nofun;refine rv (eC hw) ?_;nofun;simp only[R9];refine dS A (by lia) (by lia) λm h1 m0 m1 A1=>?_;nofun;refine GH A1 (A1.at_ hw0 hne) ok λb h2 A2=>?_;nofun;refine BQ (Y:=λr=>∃(k:Int)(h3:MH),r=(Fl.nx,[some (.ob s),some (.ob wd),some (.int j),some (.int top),some (.lv (held.map aF)),some (.int lo),some (.int k),none,none,none,none],h3)/\0<=k/\k < W.names.length/\Sb s c cs h0 (R+7) h3) ?_ ?_
 ·refine⟨b,rfl,λ_=>?_,λ_=>?_⟩
  ·nofun;refine rv (eC (A2.at_ hw0 hne)) ?_;nofun;simp only[R9];refine dS A2 (by exact UX hfm.1 hfm.2) (by lia) λk h3 k0 k1 A3=>?_;exact⟨k,h3,rfl,k0,k1,A3⟩
  ·nofun;exact⟨lo+m,h2,rfl,by lia,by lia,A2.dn 1⟩
 rintro _ ⟨k,h3,rfl,k0,kL,A3⟩;have hw3:=A3.at_ hw0 hne;have k1:=λl h1=>k1 k l h1 k0 kL;obtain⟨kn,rfl⟩:=Up k0;obtain⟨nm,hnm⟩:∃f,W.names[kn]?=some f:=⟨_,SN (by exact V1.mp kL)⟩;show Rn _ _;nofun;refine rv (eC hw3) ?_;nofun;refine rv (b8 hnm) ?_;nofun;refine fP ?_;nofun;refine⟨_,_,rfl,?_⟩;obtain⟨⟨ys,h4⟩,e4,hyl,hym,δ4,hh4,_⟩:=qI (ws:=[]) (g:=gN 0) (c:=aJ (ar cS (ar aT (ay 0) (eK (D.int 0))) (ay 1))) (e:=ar aT (ay 0) (eK (D.int 1))) (λx y=>∃l∈held,x=aF l/\y=bo l.2)
  (xs:=held.map aF) (δ:=[none,some (.str nm)]) (h:=h3) (λj δ h'=>h'=h3/\∃d0,δ=[d0,some (.str nm)]) ⟨rfl,_,rfl⟩ (λ_ _ _ _ _=>rfl) (by
   rintro i x δ h' hx ⟨rfl,d0,rfl⟩;obtain⟨l,hl,rfl⟩:=Tq.mp (Sd hx);nofun;refine rv (a:=(.str l.1,_)) rfl ?_;nofun;refine⟨_,rfl,λ_=>?_,λ_=>⟨rfl,_,rfl⟩⟩;nofun;exact rv (a:=(bo l.2,_)) rfl ⟨⟨l,hl,rfl,rfl⟩,rfl,_,rfl⟩)
 dsimp only at hh4;subst hh4;refine rv e4 ⟨Sw hyl (by rw[R9,show sizeLine=16777216 from rfl];exact Sw hl (by decide)),?_⟩;obtain⟨ts,rfl,htm⟩:∃ts:List Term,ys=ts.map bo/\∀t∈ts,cw ps t:=by
  clear e4 hyl
  induction ys with
  | nil=>exact⟨[],rfl,λ_ z=>(nomatch z)⟩
  | cons y r ih=>
   obtain⟨js,rfl,h1⟩:=ih λz hz=>hym z (Sq _ hz);obtain⟨x,hx,l,hl,rfl,rfl⟩:=hym y Sk;exact⟨l.2::js,rfl,V9.mpr ⟨(hh l hl).2,h1⟩⟩
 nofun;have pl:=ok.p3 ps (Sd hp);refine rv (AH ts _) ⟨_,rfl,λz=>?_,λz=>⟨λz=>(nomatch z),λ_=>?_⟩⟩
 ·nofun;refine GH A3 hw3 ok λb' h5 A5=>⟨_,rfl,λ_=>?_,λ_=>?_⟩
  ·have hts:ts≠[]:=by rintro rfl;cases z
   obtain⟨us,last,rfl⟩:∃us last,ts=us++[last]:=⟨ts.dropLast,ts.getLast hts,(List.dropLast_concat_getLast hts).symm⟩;have hlast:=htm last (by simp);nofun;refine rv (a:=(bo last,_)) (by
    show((gG ((us++[last]).map bo) (-1)).map λz=>(z,h5))=_;rw[Su];show((gG (us.map bo++[bo last]) (-1)).map λz=>(z,h5))=_;rw[GR];rfl) ?_
   nofun;refine rv (a:=_) rfl ?_;nofun;refine dS A5 (by decide) (by decide) λm6 h6 m60 m61 A6=>?_;nofun;refine rv (IV _ _ _) ?_;nofun;exact k1 (nm,(last.1,min 99 (last.2+1+m6))) h6 ⟨Sd hnm,hlast.1,by dsimp only;have:=hlast.2;lia,by dsimp only;lia⟩ (A6.dn 5)
  ·nofun;refine rv (df (A5.at_ hw0 hne)) ?_;nofun;refine rv (b8 hp) ?_;nofun;refine xK (A5.dn 2) pl λt h6 tk _ A6=>?_;nofun;exact k1 (nm,t) h6 ⟨Sd hnm,tk⟩ A6
 ·nofun;refine rv (df hw3) ?_;nofun;refine rv (b8 hp) ?_;nofun;refine xK (A3.dn 3) pl λt h6 tk _ A6=>?_;nofun;exact k1 (nm,t) h6 ⟨Sd hnm,tk⟩ A6
end
theorem y9(cs:List Int)(h:MH):cS (.lv (cs.map D.int)) (.lv []) h=some (.bl cs.isEmpty,h):=by
 simp only[cS,JT,eA,JS,Bt,r8,vc,mG,Tj,Td,PyData.depth,lI];cases cs <;> rfl
theorem K7(r:Rn (m δ h) λp=>∃j:Int,p.1=[.int j]/\0<=j/\j<=1000/\Q ((List.range j.toNat).map λ(k:Nat)=>D.int (k:Int),p.2)):Rn (MQ m δ h) Q:=ba (r.imp λp ⟨j,e,h1,h2,q⟩=>by
 rw[e];dsimp only;rw[Si ⟨h1,h2⟩];exact⟨_,rfl,q⟩)
section
variable {h h0:MH} {s c wd R:Nat} {cs:List Int} {W:Wd} {fl:List Int} {left odd:Int} {Q:D×MH->Prop}
theorem MJ{top:Int}(A:Sb s c cs h0 (R+14) h)(hw0:h0[wd]?=some (nS W fl left odd))(hne:wd≠s)(ok:qy W fl odd)(hp:W.params[j]?=some ps)(hj:j < W.ai.length)
  (kk:∀(r:Row)(h1:MH),(∀n,bO W ps n r)->cnt r=1->Sb s c cs h0 R h1->Q (aB r,h1)):Rn (g0 [.ob s,.ob wd,.int j,.int top] h) Q:=by
 have hw:=A.at_ hw0 hne;have d2:=ok.d2;have pl:=ok.p3 ps (Sd hp);obtain⟨dj,hdj⟩:∃f,W.ai[j]?=some f:=⟨_,SN hj⟩;refine bU ?_;nofun;refine g8 ?_;nofun;refine rv (eF hw) ?_;nofun;refine⟨(W.ai.map D.str).length,rfl,by rw[R9];simp,by rw[R9];lia,?_⟩;rw[R9,U6];obtain⟨⟨ys,h1⟩,e1,hyl,hym,δ1,hh1,_⟩:=qI (ws:=[]) (g:=gN 0) (c:=n4 (aJ (ar t7 (ar aT (ar aT (ay 3) (eK (.str "floors"))) (ay 0)) (ay 2))) (aJ (ar IY (ay 0) (ay 1)))) (e:=ay 0) (λx y=>y=x)
  (xs:=(List.range W.ai.length).map λ(k:Nat)=>D.int (k:Int)) (δ:=[none,some (.int j),some (.int top),some (.ob wd)]) (h:=h) (λi δ h'=>h'=h/\∃d0,δ=[d0,some (.int j),some (.int top),some (.ob wd)]) ⟨rfl,_,rfl⟩ (λ_ _ _ _ _=>rfl) (by
   rintro i x δ h' hx ⟨rfl,d0,rfl⟩;rw[SK] at hx;obtain⟨k,hk,hk2⟩:=SR.mp hx;subst hk2;have hkl:k < fl.length:=by rw[ok.QY];exact UR.mp (Sd hk)
   obtain⟨f,hf⟩:∃f,fl[k]?=some f:=⟨_,SN hkl⟩;nofun;refine rv (nV hw) ?_;nofun;refine rv (b8 hf) ?_;nofun;refine⟨_,rfl,λ_=>?_,λ_=>⟨λz=>(nomatch z),λ_=>⟨rfl,_,rfl⟩⟩⟩;nofun;refine⟨_,rfl,λ_=>?_,λ_=>⟨rfl,_,rfl⟩⟩;nofun;exact⟨rfl,rfl,_,rfl⟩)
 dsimp only at hh1;subst hh1;refine rv e1 ⟨Sw hyl (by rw[R9,Tr,show sizeLine=16777216 from rfl];exact Sw d2 (by decide)),?_⟩;have hint:∀zs:List D,(∀y∈zs,∃x,x∈(List.range W.ai.length).map (λ(k:Nat)=>D.int (k:Int))/\y=x)->∃js:List Int,zs=js.map D.int/\∀k∈js,0<=k/\k < W.ai.length:=by
  intro zs hz
  induction zs with
  | nil=>exact⟨[],rfl,λ_ z=>(nomatch z)⟩
  | cons y r ih=>
   obtain⟨js,rfl,q⟩:=ih λz hz'=>hz z (Sq _ hz');obtain⟨x,hx,rfl⟩:=hz y Sk;obtain⟨k,hk,rfl⟩:=Tq.mp hx;exact⟨k::js,rfl,λi hi=>by
    rcases Sr.mp hi with rfl | hi
    ·have:=UR.mp hk;clear ih;lia
    ·exact q i hi⟩
 have hyn:ys.length<=6:=by
  have h9:ys.length<=_:=hyl;rw[R9,Tr] at h9;exact Sw h9 d2
 obtain⟨js,rfl,hjs⟩:=hint ys hym;rw[R9] at hyn;nofun;refine GH A hw ok λb h2 A2=>?_;have hw2:=A2.at_ hw0 hne;nofun;refine BQ (Y:=λr=>∃(ks:List Int),r=(Fl.nx,[some (.ob s),some (.ob wd),some (.int j),some (.int top),some (.lv (ks.map D.int)),none,none],h2)/\ks.length<=6/\∀k∈ks,0<=k/\k < W.ai.length) ?_ ?_
 ·refine⟨b,rfl,λ_=>?_,λ_=>?_⟩
  ·nofun;refine K7 ?_;nofun;refine rv (eF hw2) ?_;nofun;refine⟨(W.ai.map D.str).length,rfl,by rw[R9];simp,by rw[R9];lia,?_⟩;rw[R9,U6];obtain⟨ks,hk1,hk2⟩:=hint _ λy hy=>⟨y,hy,rfl⟩;refine⟨ks,?_,?_,hk2⟩
   ·show _=_;rw[<-hk1];rfl
   ·have:=congrArg List.length hk1;rw[R9,R9,Tr] at this
    lia
  ·nofun;exact⟨js,rfl,hyn,hjs⟩
 rintro _ ⟨ks,rfl,kn,hks⟩;show Rn _ _;nofun;refine rv (y9 ks _) ⟨_,rfl,λz=>?_,λz=>?_⟩
 ·nofun;refine rv (eF hw2) ?_;nofun;refine rv (b8 hdj) ?_;nofun;have:=kk (.say dj) h2 (λn=>by unfold bO;exact So _ (Sd hdj)) (by rw[cnt]) (A2.dn 13);rw[aB] at this;exact this
 have z0:0 < ks.length:=by cases ks with | nil=>cases z | cons _ _=>simp
 nofun;refine Dz A2 (.inl rfl) (by simpa using z0) (by simp;lia) λd3 h3 hd3 A3=>?_;have hw3:=A3.at_ hw0 hne;obtain⟨k,hk,rfl⟩:=Tq.mp hd3;obtain⟨k0,k1⟩:=hks k hk;obtain⟨kn',rfl⟩:=Up k0;have hkl:kn' < W.ai.length:=by exact V1.mp k1
 obtain⟨dk,hdk⟩:∃f,W.ai[kn']?=some f:=⟨_,SN hkl⟩;obtain⟨qs,hqs⟩:∃f,W.params[kn']?=some f:=⟨_,SN (by rw[ok.pl];exact hkl)⟩;have ql:=ok.p3 qs (Sd hqs);nofun;refine fP ?_;nofun;refine rv (df hw3) ?_;nofun;refine rv (b8 hqs) ?_;refine⟨_,_,rfl,?_⟩;obtain⟨⟨zs,h4⟩,e4,hzs,δ4,_,A4⟩:=qJ (ws:=[]) (g:=gN 0) (e:=ax ck (ag (ay 2) (ag (ar aT (ar aT (ay 3) (eK (.str "params"))) (ay 1)) aL))) (λ_ y=>∃t:Term,y=bo t/\cw ps t)
  (xs:=qs.map D.str) (δ:=[none,some (.int j),some (.ob s),some (.ob wd)]) (h:=h3) (λi δ h'=>(∃d0,δ=[d0,some (.int j),some (.ob s),some (.ob wd)])/\Sb s c cs h0 (R+4*(3-i)) h') ⟨⟨_,rfl⟩,A3⟩ (λ_ _ _ _ _=>rfl) (by
   rintro i x δ h' hx ⟨⟨d0,rfl⟩,Ai⟩;have hi:i < 3:=by
    have:=(Se.mp hx).1;rw[R9] at this
    lia
   rw[show R+4*(3-i)=R+4*(3-(i+1))+4 by clear Ai;lia] at Ai;have hwi:=Ai.at_ hw0 hne;nofun;refine rv (df hwi) ?_;nofun;refine rv (b8 hp) ?_;nofun;exact xK Ai pl λt h6 tk _ A6=>⟨⟨t,rfl,tk⟩,⟨_,rfl⟩,A6⟩)
 obtain⟨ts,rfl,htm⟩:∃ts:List Term,zs=ts.map bo/\∀t∈ts,cw ps t:=by
  have hr:=hzs.right;clear e4 hzs A4;dsimp only at hr
  induction zs with
  | nil=>exact⟨[],rfl,λ_ z=>(nomatch z)⟩
  | cons y r ih=>
   obtain⟨js,rfl,h1⟩:=ih λz hz=>hr z (Sq _ hz);obtain⟨x,hx,t,rfl,tk⟩:=hr y Sk;exact⟨t::js,rfl,λj hj=>by
    rcases Sr.mp hj with rfl | hj
    ·exact tk
    ·exact h1 j hj⟩
 have hzl:=hzs.length;dsimp only at hzl;rw[R9,R9] at hzl;refine rv e4 ⟨by dsimp only;rw[R9,show sizeLine=16777216 from rfl];lia,?_⟩;have A4:Sb s c cs h0 R h4:=A4.le (S9 _ _);have hw4:=A4.at_ hw0 hne;nofun;refine rv (eF hw4) ?_;nofun;refine rv (b8 hdk) ?_;nofun;refine rv (a:=(.tup (ts.map bo),_)) rfl ?_;nofun;have:=kk (.call dk ts) h4 (λn=>by unfold bO;exact⟨⟨kn',qs,hdk,hqs,hzl⟩,htm⟩) (by rw[cnt]) A4;rw[aB] at this;exact this
end
def gI(s wd:Nat)(h h':MH):Prop:=h'.length=h.length/\∀k,k≠s->k≠wd->h'[k]?=h[k]?
theorem gI.refl(s wd:Nat)(h:MH):gI s wd h h:=⟨rfl,λ_ _ _=>rfl⟩
theorem gI.trans(a:gI s wd h h1)(b:gI s wd h1 h2):gI s wd h h2:=⟨b.1.trans a.1,λk n m=>(b.2 k n m).trans (a.2 k n m)⟩
theorem ua.two(a:ua s h h1):gI s wd h h1:=⟨a.1,λk n _=>a.2 k n⟩
theorem gI.set:gI s wd h (h.set wd o):=⟨UI,λk _ n=>Tu (Um n)⟩
theorem gI.Q9(b:gI s wd (hb++g) h2)(hs:s < hb.length)(hw:wd < hb.length):∃hb',h2=hb'++g/\gI s wd hb hb':=by
 have hl:h2.length=hb.length+g.length:=by rw[b.1];simp
 refine⟨h2.take hb.length,?_,by rw[SO];lia,λk hk hk'=>?_⟩
 ·refine Ww λk=>?_
  by_cases z:k < hb.length
  ·rw[Sx (by rw[SO];lia),Tg z]
  ·rw[b.2 _ (by lia) (by lia),SD (by exact Uw z),SD (by rw[SO];lia),SO];rw[show min hb.length h2.length=hb.length by lia]
 ·by_cases z:k < hb.length
  ·rw[Tg z,b.2 k hk hk',Sx z]
  ·rw[Tx (by rw[SO];lia),Tx (by exact Uw z)]
theorem iF(n:Nat):∀js:List Str,fJ n (js.map D.str)=true
 | []=>rfl
 | j::r=>by rw[Sl];show(hV n (.str _)&&fJ n _)=true;rw[iF n r];rfl
theorem vK(n:Nat):∀js:List (List Str),fJ n (js.map λps=>.lv (ps.map D.str))=true
 | []=>rfl
 | j::r=>by rw[Sl];show(fJ n (j.map D.str)&&fJ n _)=true;rw[iF n j,vK n r];rfl
theorem AS(n:Nat)(W:Wd)(fl:List Int)(l odd:Int):zH n (nS W fl l odd)=true:=by
 show(fJ n _&&(fJ n _&&(fJ n _&&(fJ n _&&(true&&(true&&true))))))=true;rw[iF,iF,vK,B4];rfl
structure En where
 s:Nat
 c:Nat
 wd:Nat
 cs:List Int
 W:Wd
 fl:List Int
 odd:Int
 ok:qy W fl odd
 ne:wd≠s
 nc:wd≠c
structure Wb(E:En)(h0:MH)(R l:Nat)(h:MH):Prop where
 S:St E.s E.c E.cs R h
 w:h[E.wd]?=some (nS E.W E.fl l E.odd)
 C:Cl h
 b:gI E.s E.wd h0 h
section
variable {E:En} {h0 h h1 h' g:MH} {R R' l l' k:Nat} {Q:D×MH->Prop}
theorem Wb.lt(A:Wb E h0 R l h):E.s < h.length/\E.c < h.length/\E.wd < h.length:=⟨A.S.lt.1,A.S.lt.2,(Se.mp A.w).1⟩
theorem Wb.by(A:Wb E h0 R l h)(B:Sb E.s E.c E.cs h R' h1):Wb E h0 R' l h1:=⟨B.S,(B.b.2 _ E.ne).trans A.w,A.C.but B.S B.b,A.b.trans B.b.two⟩
theorem Wb.le(A:Wb E h0 R l h)(hR:R'<=R):Wb E h0 R' l h:=⟨A.S.le hR,A.w,A.C,A.b⟩
theorem Wb.here(A:Wb E h0 R l h):Wb E h R l h:=⟨A.S,A.w,A.C,gI.refl _ _ _⟩
theorem Wb.tr(A:Wb E h1 R l h)(b:gI E.s E.wd h0 h1):Wb E h0 R l h:=⟨A.S,A.w,A.C,b.trans A.b⟩
theorem Wb.set(A:Wb E h0 R l h)(v:Nat):Wb E h0 R v (h.set E.wd (nS E.W E.fl v E.odd)):=
 ⟨A.S.off E.ne E.nc,Th A.lt.2.2,A.C.set (AS _ _ _ _ _),A.b.trans gI.set⟩
theorem Wb.push(A:Wb E h0 R l h)(ho:zH (h.length+1) o=true):Wb E (h++[o]) R l (h++[o]):=⟨A.S.more _,by rw[Sx A.lt.2.2];exact A.w,A.C.snoc ho,gI.refl _ _ _⟩
theorem Mz(C:Cl h)(S:St E.s E.c E.cs R h')(w:h'[E.wd]?=some (nS E.W E.fl l E.odd))(b:gI E.s E.wd h h'):Cl h':=by
 intro o ho;obtain⟨k,hk⟩:=UB.mp ho
 by_cases z:k=E.s
 ·subst z;obtain⟨n,t,e,_⟩:=S.st;rw[e] at hk;cases hk;show(true&&(decide (E.c < h'.length)&&(true&&true)))=true;rw[Tb S.lt.2];rfl
 ·by_cases z2:k=E.wd
  ·subst z2;rw[w] at hk;cases hk;exact AS _ _ _ _ _
  ·rw[b.2 k z z2] at hk;rw[b.1];exact C o (Sd hk)
theorem Wb.pop(A0:Wb E h0 R0 l0 h)(A:Wb E (h++g) R l h'):∃hb,h'=hb++g/\hb.length=h.length/\Wb E h0 R l hb:=by
 obtain⟨h1,h2,h3⟩:=A0.lt;obtain⟨hb,rfl,b⟩:=A.b.Q9 h1 h3;have e:=b.1;have S:=A.S.cut (by lia) (by lia);have w:=A.w;rw[Sx (by lia)] at w;exact⟨hb,rfl,e,S,w,Mz A0.C S w b,A0.b.trans b⟩
theorem w_next(A:Wb E h0 (R+1) l h)(m0:0 < m)(m1:m<=10^40)(k:∀(r:Int)(h1:MH),0<=r->r < m->Wb E h0 R l h1->Q (.int r,h1)):Rn (aR [.ob E.s,.int m] h) Q:=
 dS A.S.sb m0 m1 λr h1 r0 r1 S1=>k r h1 r0 r1 (A.by S1)
theorem Nk(A:Wb E h0 (R+1) l h)(hd:d=.lv xs\/d=.tup xs)(l0:0 < xs.length)(l1:xs.length<=1000000)(k:∀(x:D)(h1:MH),x∈xs->Wb E h0 R l h1->Q (x,h1)):Rn (aN [.ob E.s,d] h) Q:=
 Dz A.S.sb hd l0 l1 λx h1 hx S1=>k x h1 hx (A.by S1)
theorem D0{is:List Int}(P:Int->Prop)(hP:∀i∈is,P i)(A:Wb E h0 (R+1) l h)(k:∀(i:Int)(h1:MH),P i->Wb E h0 R l h1->Q (.int i,h1))(l0:0 < is.length:=by simp)(l1:is.length<=1000:=by simp):Rn (aN [.ob E.s,.lv (is.map D.int)] h) Q:=
 kU P hP A.S.sb (λi h1 hi _ S1=>k i h1 hi (A.by S1)) l0 l1
theorem wa(A:Wb E h0 (R+4) l h)(hp:ps.length<=3)(k:∀(t:Term)(h1:MH),cw ps t->Wb E h0 R l h1->Q (bo t,h1)):Rn (ck [.ob E.s,.lv (ps.map D.str)] h) Q:=
 xK A.S.sb hp λt h1 ht _ S1=>k t h1 ht (A.by S1)
structure Cd(W:Wd)(j:Nat)(ps:List Str)(d:Nat)(top:Int)(held:List Lock):Prop where
 hp:W.params[j]?=some ps
 hj:j < W.ai.length
 d1:1<=d
 ht:top<=W.names.length
 hh:∀x∈held,fR W ps x
 hl:held.length<=4*d
variable {j d f:Nat} {ps:List Str} {top:Int} {held:List Lock}
theorem Cd.more{W:Wd}{n:Nat}{top':Int}{ls:List Lock}(G:Cd W j ps d top held)(ht:top'<=W.names.length)(hl:ls.length<=4*n)(ho:∀x∈ls,fR W ps x):Cd W j ps (d+n) top' (held++ls):=
 ⟨G.hp,G.hj,Sw G.d1 (S9 _ _),ht,λx hx=>(SF.mp hx).elim (G.hh x) (ho x),by have:=G.hl;rw[Sn];lia⟩
theorem Cd.deep{W:Wd}(G:Cd W j ps d top held):Cd W j ps (d+1) top held:=⟨G.hp,G.hj,Wq G.d1,G.ht,G.hh,by have:=G.hl;lia⟩
theorem Cd.pl(G:Cd E.W j ps d top held):ps.length<=3:=E.ok.p3 ps (Sd G.hp)
theorem D1(A:Wb E h0 (R+10) l h)(G:Cd E.W j ps d top held)(hd:d<=5)(k1:∀(k:Int)(x:Lock)(h1:MH),max top (E.fl[j]?.getD 0) < E.W.names.length->0<=k->k < E.W.names.length->fR E.W ps x->Wb E h0 R l h1->Q (.tup [.int k,aF x],h1))
  (k2:∀(h1:MH),max top (E.fl[j]?.getD 0)=E.W.names.length->Wb E h0 R l h1->Q (.tup [.cq,.cq],h1)):Rn (fM [.ob E.s,.ob E.wd,.int j,.int top,.lv (held.map aF)] h) Q:=
 MG A.S.sb A.w E.ne E.ok G.hp G.hj G.ht G.hh (by have:=G.hl;lia) (λk x h1 a b c e S1=>k1 k x h1 a b c e (A.by S1)) λh1 a S1=>k2 h1 a (A.by S1)
theorem Km(A:Wb E h0 (R+14) l h)(G:Cd E.W j ps d top held)(k:∀(r:Row)(h1:MH),(∀n,bO E.W ps n r)->cnt r=1->Wb E h0 R l h1->Q (aB r,h1)):Rn (g0 [.ob E.s,.ob E.wd,.int j,.int top] h) Q:=
 MJ A.S.sb A.w E.ne E.ok G.hp G.hj λr h1 a b S1=>k r h1 a b (A.by S1)
abbrev GY(E:En)(h0:MH)(R l:Nat)(ps:List Str)(d:Nat)(Q:D×MH->Prop):Prop:=∀(r:Row)(l':Nat)(h':MH),bO E.W ps d r->l'+cnt r=l+1->Wb E h0 (R+100*l') l' h'->Q (aB r,h')
abbrev Rh(E:En)(h0:MH)(R l:Nat)(ps:List Str)(d:Nat)(Q:D×MH->Prop):Prop:=∀(t:List Row)(l':Nat)(h':MH),bW E.W ps d t->t.length<=12->l'+ao t=l->Wb E h0 (R+100*l') l' h'->Q (.tup (cx t),h')
def DG(E:En)(f:Nat):Prop:=∀{h0 h:MH} {R l j:Nat} {ps:List Str} {d:Nat} {top:Int} {held:List Lock} {most:Int} {Q:D×MH->Prop},Wb E h0 (R+100*l+4) l h->Cd E.W j ps d top held->d<=5->3*(5-d)+2<=f->1<=most->most<=12->Rh E h0 R l ps d Q->
 Rn (bQ f [.ob E.s,.ob E.wd,.int j,.int d,.int top,.lv (held.map aF),.int most] h) Q
def MX(E:En)(f:Nat):Prop:=∀{h0 h:MH} {R l j:Nat} {ps:List Str} {d:Nat} {top:Int} {held:List Lock} {Q:D×MH->Prop},Wb E h0 (R+100*l+100) l h->Cd E.W j ps d top held->d<=5->3*(5-d)+1<=f->GY E h0 R l ps d Q->
 Rn (gx f [.ob E.s,.ob E.wd,.int j,.int d,.int top,.lv (held.map aF)] h) Q
def GX(E:En)(f:Nat):Prop:=∀{h0 h:MH} {R l j:Nat} {ps:List Str} {d:Nat} {top:Int} {held:List Lock} {way:Str} {Q:D×MH->Prop},Wb E h0 (R+100*l+95) l h->Cd E.W j ps d top held->d < 5->3*(5-d)<=f->way∈[Str.ofString "within",Str.ofString "ask",Str.ofString "all"]->GY E h0 R l ps d Q->
 Rn (dE f [.ob E.s,.ob E.wd,.int j,.int d,.int top,.lv (held.map aF),.str way] h) Q
def MS(E:En)(f:Nat):Prop:=∀{h0 h:MH} {R l j:Nat} {ps:List Str} {d:Nat} {top:Int} {held:List Lock} {Q:D×MH->Prop},Wb E h0 (R+100*l+95) l h->Cd E.W j ps d top held->d < 3->5 < l->3*(5-d)<=f->GY E h0 R l ps d Q->
 Rn (cO f [.ob E.s,.ob E.wd,.int j,.int d,.int top,.lv (held.map aF)] h) Q
end
theorem pE(r:Rn (b (entry len ds) h) (HB λp=>Rn (leave h p.1 p.2) Q)):Rn (G3 len b ds h) Q:=by
 obtain⟨p,e,q⟩:=bU r;obtain⟨z,e2,k⟩:=q;refine⟨z,?_,k⟩;have e:((b (entry len ds) h).bind yj)=some p:=e;show((b (entry len ds) h).bind yj).bind _=_;rw[e];exact e2
theorem kE{isT:D->MH->Bool}{f:Cf}{o:EM}{m:AM}{δ:DS}{h:MH}{Q:D×MH->Prop}(r:Rn (o δ h) λp=>isT p.1 p.2=true/\Rn (m δ p.2) λq=>Rn (f p.1 q.1 q.2) Q):Rn (eM isT f o m δ h) Q:=
 ba (r.imp λp ⟨e,r⟩=>by rw[Si e];exact ba r)
theorem dB(e:h[n]?=some (.lst xs)):dA (.ob n) h=true:=by unfold dA dR;dsimp only;rw[e];rfl
theorem dQ(e:h[n]?=some (.lst xs))(hl:xs.length < sizeLine):eJ (.ob n) [y] h=some (.cq,h.set n (.lst (xs++[y]))):=by unfold eJ;dsimp only;rw[e];dsimp only;rw[Si hl]
theorem xC(n:Nat)(t:Term):hV n (bo t)=true:=rfl
theorem qR(n:Nat)(t:Lock):hV n (aF t)=true:=rfl
theorem fq(n:Nat)(f:α->D)(hf:∀x,hV n (f x)=true):∀xs:List α,fJ n (xs.map f)=true
 | []=>rfl
 | x::r=>by rw[Sl];show(hV n (f x)&&fJ n _)=true;rw[hf x,fq n f hf r];rfl
mutual
theorem tK(n:Nat):∀r:Row,hV n (aB r)=true
 | .say w=>by rw[aB];rfl
 | .call d ts=>by rw[aB];show(true&&(true&&(fJ n _&&true)))=true;rw[fq n _ (xC n)];rfl
 | .within l b=>by rw[aB];show(true&&(hV n (aF l)&&(fJ n _&&true)))=true;rw[qR,eN n b];rfl
 | .all ls b=>by rw[aB];show(true&&(fJ n _&&(fJ n _&&true)))=true;rw[fq n _ (qR n),eN n b];rfl
 | .ask l b e=>by rw[aB];show(true&&(hV n (aF l)&&(fJ n _&&(fJ n _&&true))))=true;rw[qR,eN n b,eN n e];rfl
 | .lK s t a b c=>by rw[aB];show(true&&(hV n (bo s)&&(hV n (bo t)&&(fJ n _&&(fJ n _&&(fJ n _&&true))))))=true;rw[xC,xC,eN n a,eN n b,eN n c];rfl
 | .either a b=>by rw[aB];show(true&&(fJ n _&&(fJ n _&&true)))=true;rw[eN n a,eN n b];rfl
 | .again a=>by rw[aB];show(true&&(fJ n _&&true))=true;rw[eN n a];rfl
theorem eN(n:Nat):∀r:List Row,fJ n (cx r)=true
 | []=>by rw[cx];rfl
 | r::rs=>by rw[cx];show(hV n _&&fJ n _)=true;rw[tK n r,eN n rs];rfl
end
theorem lG(e:H.length=n):(H++[a])[n]?=some a:=by rw[<-e];simp
theorem zZ(e:H.length=n):(H++[a]).set n b=H++[b]:=by rw[<-e];simp
section
variable {E:En} {f:Nat}
theorem AA(hr:MX E f):DG E (f+1):=by
 intro h0 h R l j ps d top held most Q A G d5 hf m0 m1 k;unfold bQ;refine pE ?_;nofun;refine g8 ?_;nofun;refine rv (a:=(.lv (List.replicate 15 (D.int most)),_)) rfl ?_;nofun;refine rv (a:=(.lv ((List.replicate 15 most++[12]).map D.int),_)) rfl ?_;nofun;refine D0 (λi=>1<=i/\i<=12) (by intro x hx;simp at hx;lia) (A.push (o:=.lst []) rfl) λi h2 hi A2=>?_;nofun;refine w_next (m:=i+1) A2 (by lia) (by exact UX hi.2 (by decide)) λm h3 n0 n1 A3=>?_;nofun;refine⟨m,rfl,by exact Uj (by decide) n0,by lia,?_⟩;obtain⟨hb,rfl,hbl,A3⟩:=A.pop A3;refine cZ (λi δ h'=>∃(t:List Row)(l':Nat)(d8:Option D)(hb:MH),δ=[some (.ob E.s),some (.ob E.wd),some (.int j),some (.int d),some (.int top),some (.lv (held.map aF)),some (.int most),some (.ob h.length),d8]/\h'=hb++[.lst (cx t)]/\hb.length=h.length/\bW E.W ps d t/\t.length<=i/\l'+ao t=l/\Wb E h0 (R+100*l'+2) l' hb)
  ⟨[],l,_,hb,rfl,by rw[cx],hbl,by unfold bW;trivial,Sj _,by simp[ao],A3⟩ (λ_ _ _ _ _=>rfl) ?_ ?_
 ·rintro q x δ h' hx ⟨t,l',d8,hb,rfl,rfl,hbl,okl,hll,hc,A4⟩;have hq:q < 12:=by
   have:=(Se.mp hx).1;simp at this
   lia
  have A5:=A4.push (o:=.lst (cx t)) (eN _ t);nofun;refine rv (qz A5.w) ?_;nofun;refine⟨_,rfl,λz=>?_,λz=>?_⟩
  ·obtain⟨l1,rfl⟩:∃n,l'=n+1:=⟨l'-1,by have:=Tv z;lia⟩;nofun;refine rv (qz A5.w) ?_;nofun;refine rv (DZ A5.w _) ?_;rw[show((l1+1:Nat):Int)-1=(l1:Int) by simp];have A6:=A5.set l1;nofun;refine kE ?_;nofun;refine⟨dB (xs:=cx t) (by rw[Tu (by have:=A4.lt;lia)];exact lG hbl),?_⟩;nofun;refine hr (R:=R+2) (A6.le (by lia)) G d5 (by exact Vn hf) λr l6 h6 okr cr A7=>?_;obtain⟨hb6,rfl,hbl6,A8⟩:=A4.pop A7;nofun;have hl6:=hbl6.trans hbl;refine rv (dQ (lG hl6) (by rw[bu,R9,show sizeLine=16777216 from rfl];lia)) ?_;rw[zZ hl6];nofun;have hcn:ao (t++[r])=ao t+cnt r:=by rw[nB];simp[ao]
   exact⟨t++[r],l6,_,hb6,rfl,by rw[bu,bu,Su];rfl,hl6,vo okl (by unfold bW;exact⟨okr,by unfold bW;trivial⟩),by simp;exact hll,by lia,A8.le (by lia)⟩
  ·nofun;exact⟨t,l',_,hb,rfl,rfl,hbl,okl,by exact Wq hll,hc,A4⟩
 ·rintro δ h' ⟨t,l',d8,hb,rfl,rfl,hbl,okl,hll,hc,A4⟩;rw[R9,Tr] at hll;nofun;refine rv (a:=(.tup (cx t),hb++[.lst (cx t)])) (by simp only[fS,dP,lG hbl,Tj]) ?_;nofun;exact rv (sN hbl A4.C (λn z=>(nomatch z)) (eN _ t)) (k t l' hb okl (by lia) hc (A4.le (by lia)))
end
theorem Bv:∀{xs:List D} {δ:DS} {h:MH} (J:List D->DS->MH->Prop),J [] δ h->(∀ys δ h,J ys δ h->nC ws h=true)->
  (∀x ys δ h,x∈xs->ys.length < xs.length->J ys δ h->Rn (g x δ h) λq=>Rn (e q.1 q.2) λy=>J (ys++[y.1]) q.1 y.2)->Rn (bV ws g cz e xs δ h) λp=>p.1.length=xs.length/\∃δ',J p.1 δ' p.2
 | [],δ,h,J,hJ,hc,_=>by
  unfold bV;rw[Si (hc [] δ h hJ)];exact⟨_,rfl,rfl,δ,hJ⟩
 | x::xs,δ,h,J,hJ,hc,ht=>by
  unfold bV;rw[Si (hc [] δ h hJ)];obtain⟨⟨δ1,h1⟩,e1,⟨y,h2⟩,e2,J1⟩:=ht x [] δ h Sk (Nat.succ_pos _) hJ;obtain⟨⟨ys,h3⟩,e3,a,δ',J2⟩:=Bv (ws:=ws) (g:=g) (e:=e) (xs:=xs) (λys=>J (y::ys)) J1 (λys δ h=>hc (y::ys) δ h) λx ys δ h hx hl=>ht x (y::ys) δ h (Sq _ hx) (Nat.succ_lt_succ hl);refine⟨(y::ys,h3),?_,congrArg Nat.succ a,δ',J2⟩;rw[e1];dsimp only[Option.bind_some];show((some (true,h1)).bind _)=_;dsimp only[Option.bind_some] at e2 e3 ⊢;rw[Si rfl,e2];dsimp only[Option.bind_some];rw[e3];rfl
theorem tj(f:α->D)(xs ys:List α)(h:MH)(hl:xs.length+ys.length<=1000):aw (.lv (xs.map f)) (.lv (ys.map f)) h=some (.lv ((xs++ys).map f),h):=by
 rw[Su];simp only[aw,uI,dR,Td,R9];rw[Si (by rw[show sizeLine=16777216 from rfl];exact Sw hl (by decide))]
theorem N8(P:Prop)[Decidable P](e:Rn (t δ h) λp=>p=(decide P,h))(q1:P->Rn (x δ h) Q)(q2:¬P->Rn (y δ h) Q):Rn (fz t x y δ h) Q:=by
 refine rY (e.imp ?_);rintro _ rfl;exact⟨λz=>q1 (Tv z),λz=>q2 (Vh z)⟩
theorem fA(P:Prop)[Decidable P](e:Rn (t δ h) λp=>p=(decide P,h))(q1:P->Rn (x δ h) (Bi b Q))(q2:¬P->Rn (b δ h) Q):Rn (av (fz t x cf) b δ h) Q:=
 eT (N8 P e q1 λz=>⟨_,rfl,q2 z⟩)
theorem dT [Decidable P](p:P)(h:MH):(true,h)=(decide P,h):=by rw[Tb p]
theorem dF [Decidable P](p:¬P)(h:MH):(false,h)=(decide P,h):=by rw[Tt p]
section
variable {E:En} {f:Nat}
theorem vy{n:Nat}(hlot:DG E f){h0 h:MH}{R l j:Nat}{ps:List Str}{d:Nat}{top:Int}{held:List Lock}{Q:List D×MH->Prop}
  (A:Wb E h0 (R+100*l+12) l h) (hn:n<=3) (G:Cd E.W j ps d top held) (d5:d < 5) (hf:3*(5-d)<=f) (k:∀(lots:List (List Row)) (l':Nat) (h':MH),lots.length=n->(∀t∈lots,t.length<=12/\bW E.W ps (d+1) t)->l'+(lots.map ao).sum=l->Wb E h0 (R+100*l') l' h'->Q (lots.map (λt=>D.tup (cx t)),h')):
  Rn (bV [] (gN 0) Sm.cz (ax (bQ f) (ag (ay 4) (ag (ay 6) (ag (ay 1) (ag (ar aw (ay 2) (eK (.int 1))) (ag (ay 5) (ag (ay 3) (ag (eK (.int 2)) aL)))))))) ((List.range n).map λ(k:Nat)=>D.int k) [none,some (.int j),some (.int d),some (.lv (held.map aF)),some (.ob E.s),some (.int top),some (.ob E.wd)] h) Q:=by
 refine(Bv (ws:=[]) (λys δ h'=>∃(d0:Option D)(lots:List (List Row)) (l':Nat),δ=[d0,some (.int j),some (.int d),some (.lv (held.map aF)),some (.ob E.s),some (.int top),some (.ob E.wd)]/\ys=lots.map (λt=>D.tup (cx t))/\(∀t∈lots,t.length<=12/\bW E.W ps (d+1) t)/\l'+(lots.map ao).sum=l/\Wb E h0 (R+100*l'+(12-4*lots.length)) l' h') ⟨none,[],l,rfl,rfl,λ_ z=>(nomatch z),by simp,A⟩ (λ_ _ _ _=>rfl) ?_).imp ?_
 ·rintro x _ δ h' hx hys ⟨d0,lots,l',rfl,rfl,bg,hc,A1⟩;rw[R9,R9,Tr] at hys;nofun;refine hlot (R:=R+(8-4*lots.length)) (d:=d+1) (A1.le (by lia)) G.deep d5 (by lia) (by decide) (by decide) λt l2 h2 okl hll cr A2=>?_;refine⟨_,lots++[t],l2,rfl,by rw[Su];rfl,λu z=>?_,by simp;lia,A2.le (by rw[Sn,UC];lia)⟩;rcases SF.mp z with z | z
  ·exact bg u z
  ·rw[Sz.mp z];exact⟨hll,okl⟩
 ·rintro⟨ys,h2⟩ ⟨hy,_,d0,lots,l',_,he,bg,hc,A1⟩;dsimp only at hy he;subst he;rw[R9,R9,Tr] at hy;exact k lots l' h2 hy bg hc (A1.le (by simp))
theorem wG(hlot:DG E f)(hlk:GX E f)(htw:MS E f):MX E (f+1):=by
 intro h0 h R l j ps d top held Q A G d5 hf k;have pl:=G.pl;have n1:=E.ok.n1;have n2:=E.ok.n2;have d2:=E.ok.d2;unfold gx;refine bU ?_;nofun;refine w_next (m:=16) A (by decide) (by decide) λw h1 w0 w1 A1=>?_;refine fA (w < 2\/(d=5/\w < 11)) ?_ (λz=>?_) (λz=>?_)
 ·nofun;refine⟨_,rfl,λz=>?_,λz=>?_⟩
  ·have z:w < 2:=by simpa using z
   exact dT (.inl z) _
  ·have z:¬w < 2:=by simpa using z
   nofun;refine⟨_,rfl,λy=>?_,λy=>?_⟩
   ·have y0:(d:Int)=5:=by simpa using y
    have y:d=5:=by lia
    nofun;refine⟨_,rfl,?_⟩;rw[show decide (w < 11)=decide (w < 2\/(d=5/\w < 11)) from VP.mpr (by lia)]
   ·have y0:(d:Int)≠5:=by simpa using y
    have y:d≠5:=by lia
    exact dF (by lia) _
 ·nofun;refine rv (eC A1.w) ?_;nofun;refine rv (eF A1.w) ?_;nofun;refine rv (tj D.str E.W.names E.W.ai _ (by lia)) ?_;nofun;refine Nk (xs:=(E.W.names++E.W.ai).map D.str) A1 (.inl rfl) (by simp;lia) (by simp;lia) λx h2 hx A2=>?_;obtain⟨w',hw',rfl⟩:=Tq.mp hx;nofun;rw[show D.tup [.str "say",.str w']=aB (.say w') by rw[aB]];exact k (.say w') l h2 (by unfold bO;exact hw') (by rw[cnt]) (A2.le (by lia))
 have nd:d=5->11<=w:=by lia
 have w2:2<=w:=by lia
 refine fA (12 < w\/d=5) ?_ (λz=>?_) (λz=>?_)
 ·nofun;refine⟨_,rfl,λy=>?_,λy=>?_⟩
  ·have y:12 < w:=by simpa using y
   exact dT (.inl y) _
  ·have y:¬12 < w:=by simpa using y
   nofun;refine⟨_,rfl,?_⟩;rw[show((d:Int)==5)=decide (12 < w\/d=5) by
    rw[UJ];simp only[Ux,TB];lia]
 ·nofun;refine Km (R:=R+100*l) (A1.le (by simp)) G λr h2 okr cr A2=>?_;nofun;exact k r l h2 (okr d) (by rw[cr]) A2
 have d4:d < 5:=by lia
 refine fA (w=12/\d < 3/\5 < (l:Int)) ?_ (λz=>?_) (λz=>?_)
 ·nofun;refine⟨_,rfl,λy=>?_,λy=>?_⟩
  ·have y:w=12:=by simpa using y
   nofun;refine⟨_,rfl,λx=>?_,λx=>?_⟩
   ·have x0:(d:Int) < 3:=by simpa using x
    have x:d < 3:=by exact V1.mp x0
    nofun;refine rv (qz A1.w) ?_;nofun;refine⟨_,rfl,?_⟩;rw[show decide (5 < (l:Int))=decide (w=12/\d < 3/\5 < (l:Int)) from VP.mpr (by lia)]
   ·have x0:¬(d:Int) < 3:=by simpa using x
    have x:¬d < 3:=by lia
    exact dF (by lia) _
  ·have y:w≠12:=by simpa using y
   exact dF (by clear y z;lia) _
 ·nofun;refine htw (R:=R) (A1.le (by simp)) G z.2.1 (by exact V1.mp z.2.2) (by exact Vn hf) λr l2 h2 okr cr A2=>?_;nofun;exact k r l2 h2 okr cr A2
 refine fA (w=11\/w=12) ?_ (λz=>?_) (λz=>?_)
 ·nofun;refine⟨_,rfl,λy=>?_,λy=>?_⟩
  ·have y:w=11:=by simpa using y
   exact dT (.inl y) _
  ·have y:w≠11:=by simpa using y
   nofun;refine⟨_,rfl,?_⟩;rw[show(w==12)=decide (w=11\/w=12) by rw[UJ];simp only[Ux,TB];lia]
 ·show Rn (av _ _ _ _) _;nofun;refine rv (df A1.w) ?_;nofun;refine rv (b8 G.hp) ?_;nofun;refine wa A1 pl λt1 h2 tk1 A2=>?_;nofun;refine rv (df A2.w) ?_;nofun;refine rv (b8 G.hp) ?_;nofun;refine wa A2 pl λt2 h3 tk2 A3=>?_;nofun;refine⟨_,_,rfl,?_⟩;nofun;refine g8 ?_;nofun;refine⟨3,rfl,by lia,by lia,?_⟩;refine vy (n:=3) (R:=R) hlot (A3.le (by simp)) (by lia) G d4 (by exact Vn hf) λlots l4 h4 hn bg cr A4=>?_
  match lots,hn with
  | [x,y,v],_=>
   refine⟨by show 3<=sizeLine;decide,?_⟩;nofun;refine rv (a:=(.tup [.tup (cx x),.tup (cx y),.tup (cx v)],_)) rfl ?_;nofun;refine rv (a:=(aB (.lK t1 t2 x y v),_)) (by rw[aB];rfl) ?_;nofun;simp only[Sl,TX,Ts,W6] at cr;have hx:=bg x (by simp);have hy:=bg y (by simp);have hv:=bg v (by simp);exact k (.lK t1 t2 x y v) l4 h4 (by unfold bO;exact⟨tk1,tk2,d4,hx.1,hy.1,hv.1,hx.2,hy.2,hv.2⟩) (by rw[cnt];lia) A4
 refine fA (w=10) ?_ (λz=>?_) (λz=>?_)
 ·nofun;refine⟨_,rfl,?_⟩;rw[show(w==10)=decide (w=10) by rw[UJ];simp only[Ux,TB]]
 ·nofun;refine g8 ?_;nofun;refine⟨2,rfl,by lia,by lia,?_⟩;refine vy (n:=2) (R:=R) hlot (A1.le (by simp)) (by lia) G d4 (by exact Vn hf) λlots l2 h2 hn bg cr A2=>?_
  match lots,hn with
  | [x,y],_=>
   refine⟨by show 2<=sizeLine;decide,?_⟩;nofun;refine rv (a:=(.tup [.tup (cx x),.tup (cx y)],_)) rfl ?_;nofun;refine rv (a:=(aB (.either x y),_)) (by rw[aB];rfl) ?_;nofun;simp only[Sl,TX,Ts,W6] at cr;have hx:=bg x (by simp);have hy:=bg y (by simp);exact k (.either x y) l2 h2 (by unfold bO;exact⟨d4,hx.1,hy.1,hx.2,hy.2⟩) (by rw[cnt];lia) A2
 refine fA (w=9) ?_ (λz=>?_) (λz=>?_)
 ·nofun;refine⟨_,rfl,?_⟩;rw[show(w==9)=decide (w=9) by rw[UJ];simp only[Ux,TB]]
 ·nofun;refine hlot (R:=R) (d:=d+1) (A1.le (by simp)) G.deep d4 (by clear z;lia) (by decide) (by decide) λt l2 h2 okl hll cr A2=>?_;nofun;rw[show D.tup [.str "again",.tup (cx t)]=aB (.again t) by rw[aB]];exact k (.again t) l2 h2 (by unfold bO;exact⟨d4,hll,okl⟩) (by rw[cnt];lia) A2
 nofun;refine Nk (xs:=[Str.ofString "within",Str.ofString "within",Str.ofString "within",Str.ofString "within",Str.ofString "ask",Str.ofString "all"].map D.str) A1 (.inl rfl) (by simp) (by simp) λx h2 hx A2=>?_;obtain⟨w',hw',rfl⟩:=Tq.mp hx;nofun;refine hlk (R:=R) (A2.le (by simp)) G d4 (by exact Vn hf) (by simp at hw' ⊢;assumption) λr l3 h3 okr cr A3=>?_;nofun;exact k r l3 h3 okr cr A3
end
noncomputable def fW(t:Lock):PyData:=.tuple [.str t.1,qZ t.2]
theorem EU(t:Term):vc (bo t)=some (qZ t):=by simp only[bo,vc,mG,Td,Tj];rfl
theorem yx(t:Lock):vc (aF t)=some (fW t):=by simp only[aF,vc,mG,EU,Td,Tj];rfl
theorem oA:∀ts:List Lock,mG (ts.map aF)=some (ts.map fW)
 | []=>rfl
 | c::r=>by simp only[Sl,mG,oA r,yx,Td,Tj]
theorem gX:∀ts:List Lock,PyData.depthAll (ts.map fW)<=2
 | []=>by simp[PyData.depthAll]
 | c::r=>by
  have:=gX r;simp only[Sl,PyData.depthAll,fW,qZ,PyData.depth]
  lia
theorem xu{h:MH}{n:Nat}{ls:List Lock}(x:Lock)(e:h[n]?=some (.lst (ls.map aF))):oO (aF x) (.ob n) h=some (.bl (!(ls.map fW).any λb=>PyData.eqv b (fW x)),h):=by
 have h1:=gX ls;have h2:=gX [x];have h3:(fW x).depth<=60:=by
  simp only[Sl,TX,PyData.depthAll] at h2
  lia
 unfold oO inD;simp only[eA,e];show((dP (.ob n) h).bind _).map _=_;simp only[dP,e,Td,oA];show(((Bt h (aF x)).bind _).map _)=_;rw[show Bt h (aF x)=some (fW x) from yx x];dsimp only[Option.bind_some];rw[Si ⟨h3,by exact Sw h1 (by decide)⟩];rfl
theorem wR(r:Rn (ma δ h) λp=>Rn (mb δ p.2) λq=>∃xs ys,dR p.1 q.2=some xs/\dR q.1 q.2=some ys/\xs.length+ys.length<=sizeLine/\Q (xs++ys,q.2)):Rn (DD ma mb δ h) Q:=
 ba (r.imp λp r=>ba (r.imp λq zz=>by obtain⟨xs,ys,e1,e2,hl,hq⟩:=zz;exact⟨_,by rw[e1];dsimp only[Option.bind_some];rw[e2];dsimp only[Option.bind_some];rw[Si hl],hq⟩))
theorem Gf(x:Lock):PyData.eqv (fW x) (fW x)=true:=by
 simp[fW,qZ,PyData.eqv,PyData.eqvAll]
theorem HA(r:Row)(n:Nat):aB r≠.ob n:=by cases r <;> rw[aB] <;> exactλz=>(nomatch z)
theorem Wb.ext(A:Wb E h0 R l h)(C:Cl (h++g)):Wb E (h++g) R l (h++g):=⟨A.S.more _,by rw[Sx A.lt.2.2];exact A.w,C,gI.refl _ _ _⟩
theorem ER(b:gI E.s E.wd h0 h)(k:GY E h0 R l ps d Q)(r:Row)(ok:bO E.W ps d r)(hc:l'+cnt r=l+1)(A:Wb E h (R+100*l') l' hb)(e:aB r=x):Rn (leave h x (hb++g)) Q:=
 ⟨_,e ▸ sN A.b.1 A.C (HA r) (tK _ r),k r l' hb ok hc (A.tr b)⟩
theorem wN(b:gI E.s E.wd h0 h)(k:GY E h0 R l ps d Q)(r:Row)(ok:bO E.W ps d r)(hc:l'+cnt r=l+1)(A:Wb E h (R+100*l') l' hb)(e:aB r=x):Rn (leave h x hb) Q:=by
 have:=ER (g:=[]) b k r ok hc A e
 rwa [Tw] at this
section
variable {E:En} {f:Nat}
theorem CY(hlot:DG E f):GX E (f+1):=by
 intro h0 h R l j ps d top held way Q A G d5 hf hw k;obtain⟨dj,hdj⟩:∃f,E.W.ai[j]?=some f:=⟨_,SN G.hj⟩;have hl:=G.hl;have ht:=G.ht;have b0:=A.b;replace A:=A.here;unfold dE;refine pE ?_;nofun;refine D1 A G (by exact UU d5) (λk1 lk h1 hmx k0 k2 okk A1=>?_) λh1 _ A1=>?_
 ·nofun;refine rv (a:=(.bl false,_)) rfl ⟨_,rfl,λz=>(nomatch z),λ_=>?_⟩;refine⟨_,rfl,?_⟩;show Rn (av _ _ _ _) _;refine fA (way=Str.ofString "all") ?_ (λz=>?_) (λz=>?_)
  ·nofun;refine⟨_,rfl,?_⟩;rw[show(way==Str.ofString "all")=decide (way=Str.ofString "all") by rw[UJ];simp only[Ux,TB]]
  ·show Rn (av _ _ _ _) _;nofun;refine⟨_,_,rfl,?_⟩;nofun;refine g8 ?_;nofun;refine D0 (is:=[1,1,2,3]) (λi=>1<=i/\i<=3) (by decide) (A1.push (o:=.lst [aF lk]) rfl) λi h2 hi A2=>?_;obtain⟨hb2,rfl,e2,A2'⟩:=A1.pop A2;nofun;refine⟨i,rfl,by exact Uj (by decide) hi.1,by exact UX hi.2 (by decide),?_⟩;refine cZ (λi δ h'=>∃(ls:List Lock)(hi:Int)(n:Nat)(d11 d12 d13:Option D)(hb g:MH),δ=[some (.ob E.s),some (.ob E.wd),some (.int j),some (.int d),some (.int top),some (.lv (held.map aF)),some (.str way),some (.int k1),some (aF lk),some (.ob n),some (.int hi),d11,d12,d13,none]/\h'=hb++g/\h'[n]?=some (.lst (ls.map aF))/\h.length<=n/\lk∈ls/\ls.Nodup/\(∀x∈ls,fR E.W ps x)/\ls.length<=i+1/\0<=hi/\hi < E.W.names.length/\Wb E h (R+100*l+(80-10*i)) l hb/\Cl (hb++g))
    ⟨[lk],k1,h1.length,none,none,none,hb2,[.lst [aF lk]],rfl,rfl,lG e2,by rw[A1.b.1];exact Sj _,by simp,by simp,by simpa using okk,Sj _,k0,k2,A2'.le (by simp),A2.C⟩ (λ_ _ _ _ _=>rfl) ?_ ?_
   ·rintro q x δ h' hx ⟨ls,hi',n,d11,d12,d13,hb,g,rfl,rfl,hn,hnl,hlk,nd,bg,hll,hi0,hi1,A3,C3⟩;have hq:q < 3:=by
     have:=(Se.mp hx).1;simp at this
     lia
    nofun;refine D1 (R:=R+100*l+(80-10*(q+1))) ((A3.ext C3).le (by lia)) G (by lia) (λk4 lk4 h4 _ k40 k41 okk4 A4=>?_) λh1 z4 _=>absurd z4 (by lia)
    ·have hn4:h4[n]?=some (.lst (ls.map aF)):=by
      have:=A.lt;rw[A4.b.2 n (by lia) (by lia)];exact hn
     obtain⟨hb4,rfl,e4,A4'⟩:=A3.pop A4;nofun;refine rv (iZ _ _ _) ?_;nofun;refine wR ?_;nofun;refine rv (xu lk4 hn4) ?_;obtain⟨us,v,hv,hus,husl,hnd,hokk⟩:∃(us:List Lock)(v:Int),oP [.bl (!(ls.map fW).any λb=>PyData.eqv b (fW lk4))] (hb4++g)=some (.int v,hb4++g)/\uH (.lv [aF lk4]) (.int v) (hb4++g)=some (.lv (us.map aF),hb4++g)/\us.length<=1/\(ls++us).Nodup/\∀x∈ls++us,fR E.W ps x:=by
      cases hb0:((ls.map fW).any λb=>PyData.eqv b (fW lk4)) with
      | true=>exact⟨[],0,rfl,rfl,by simp,by simpa using nd,by simpa using bg⟩
      | false=>
       have hnot:lk4∉ls:=λz=>by
        rw[XA] at hb0;exact hb0 (fW lk4) (UN z) (Gf lk4)
       refine⟨[lk4],1,rfl,rfl,by simp,?_,?_⟩
       ·rw[Wv];refine⟨nd,by simp,λx hx y hy z=>hnot ?_⟩;rw[Sz.mp hy] at z;rw[<-z];exact hx
       ·intro x hx;rcases SF.mp hx with z | z
        ·exact bg x z
        ·rw[Sz.mp z];exact okk4
     nofun;refine rv hv ?_;nofun;refine rv hus ?_;refine⟨ls.map aF,us.map aF,by simp only[dR,hn4],rfl,by rw[R9,R9,show sizeLine=16777216 from rfl];lia,?_⟩;refine⟨ls++us,max hi' k4,(hb4++g).length,_,_,_,hb4,g++[.lst ((ls++us).map aF)],rfl,by rw[Su];exact SY _ _ _,by rw[Su];simp,?_,S8 _ hlk,hnd,hokk,by simp;lia,by lia,by lia,A4',?_⟩
     ·have:=A4'.b.1;rw[Sn];lia
     ·rw[<-SY];exact A4.C.snoc (o:=.lst _) (fq _ _ (qR _) _)
   ·rintro δ h' ⟨ls,hi',n,d11,d12,d13,hb,g,rfl,rfl,hn,hnl,hlk,nd,bg,hll,hi0,hi1,A3,C3⟩;rw[R9,Tr] at hll A3;replace A3:=A3.le (R':=R+100*l+10) (by lia);show Rn (av _ _ _ _) _;refine eT ?_;refine Rn.imp (Q:=λr=>∃(ls:List Lock)(g:MH),r=(Fl.nx,[some (.ob E.s),some (.ob E.wd),some (.int j),some (.int d),some (.int top),some (.lv (held.map aF)),some (.str way),some (.int k1),some (aF lk),some (.ob n),some (.int hi'),d11,d12,d13,none],hb++g)/\(hb++g)[n]?=some (.lst (ls.map aF))/\2<=ls.length/\ls.length<=4/\ls.Nodup/\(∀x∈ls,fR E.W ps x)/\Cl (hb++g)) ?_ ?_
    ·nofun;refine rv (xw hn) ?_;nofun;refine⟨_,rfl,λz=>?_,λz=>?_⟩
     ·have z:ls.length=1:=by
       have:((ls.map aF).length:Int)=1:=by simpa using z
       rw[R9] at this
       lia
      obtain⟨x0,rfl⟩:∃x0,ls=[x0]:=UW.mp z;obtain rfl:lk=x0:=Sz.mp hlk;obtain⟨nm,wo,fi⟩:=lk;have hok0:=bg _ (Sz.mpr rfl);nofun;refine kE ?_;nofun;refine⟨dB hn,?_⟩;nofun;refine rv (a:=(.str nm,_)) rfl ?_;nofun;refine rv (a:=(bo (wo,fi),_)) rfl ?_;nofun;refine rv (a:=(.str wo,_)) rfl ?_;nofun;refine rv (a:=(bo (wo,fi),_)) rfl ?_;nofun;refine rv (a:=(.int fi,_)) rfl ?_;nofun;refine rv (a:=(bo (wo,fi),_)) rfl ?_;nofun;refine rv (a:=(.int fi,_)) rfl ?_;nofun;obtain⟨v,hv,hm,v1,v0⟩:∃v:Int,oP [.bl (decide (90 < fi))] (hb++g)=some (.int v,hb++g)/\iB (.int 2) (.int v) (hb++g)=some (.int (2*v),hb++g)/\(90 < fi->v=1)/\(¬90 < fi->v=0):=by
       by_cases z:90 < fi
       ·exact⟨1,by rw[Tb z];rfl,rfl,λ_=>rfl,λy=>absurd z y⟩
       ·exact⟨0,by rw[Tt z];rfl,rfl,λy=>absurd y z,λ_=>rfl⟩
      refine rv hv ?_;nofun;refine rv hm ?_;nofun;refine rv (dQ hn (by rw[R9,show sizeLine=16777216 from rfl];simp)) ?_;nofun;have hlen:=A3.b.1;rw[U3 _ _ (by lia)];have okf:=hok0.2;have okn:=hok0.1;dsimp only at okn;unfold cw at okf;dsimp only at okf;have hvv:v=0\/v=1:=by by_cases z:90 < fi <;> lia
      refine⟨[(nm,wo,fi),(nm,wo,fi+1-2*v)],_,rfl,?_,by simp,by simp,?_,?_,?_⟩
      ·rw[SD (by lia),Th]
       ·rfl
       ·have:=(Se.mp hn).1;rw[Sn] at this
        lia
      ·simp;lia
      ·intro x hx;rcases Sr.mp hx with rfl | hx
       ·exact hok0
       ·rw[Sz.mp hx];exact⟨okn,okf.1,by dsimp only;lia,by dsimp only;lia⟩
      ·rw[<-U3 _ _ (by lia)];exact C3.set (o:=.lst _) rfl
     ·have z:ls.length≠1:=by
       have:((ls.map aF).length:Int)≠1:=by simpa using z
       rw[R9] at this
       lia
      have:0 < ls.length:=List.length_pos_of_mem hlk;exact⟨_,rfl,ls,g,rfl,hn,by lia,by lia,nd,bg,C3⟩
    rintro _ ⟨ls,g,rfl,hn,l2,l4,nd,bg,C4⟩;have A4:=A3.ext C4;show Rn (av _ _ _ _) _;nofun;refine rv (zL A4.w) ?_;nofun;obtain⟨v,hv,v0,v1⟩:∃v:Int,oP [.bl (E.odd==0)] (hb++g)=some (.int v,hb++g)/\0<=v/\v<=1:=by
     cases E.odd==0
     ·exact⟨0,rfl,by lia,by lia⟩
     ·exact⟨1,rfl,by lia,by lia⟩
    refine rv hv ?_;nofun;refine rv (a:=(.tup (ls.map aF),_)) (by simp only[fS,dP,hn,Tj];rfl) ?_;nofun;refine rv (iZ _ _ _) ?_;nofun;refine rv (a:=(.lv ((held++ls).map aF),_)) (by
     rw[Su];simp only[aw,uI,dR,hn,Td,R9];rw[Si (by rw[show sizeLine=16777216 from rfl];lia)]) ?_
    nofun;refine hlot (R:=R) (d:=d+1) (A4.le (by simp)) (G.more (n:=1) (by lia) (by lia) bg) d5 (by lia) (by decide) (by decide) λt l5 h5 okl hll5 cr A5=>?_;obtain⟨hb5,rfl,_,A5'⟩:=A3.pop A5;nofun;exact ER b0 k (.all ls t) (by unfold bO;exact⟨⟨l2,l4,nd,bg⟩,d5,hll5,okl⟩) (by rw[cnt];lia) A5' (by rw[aB])
  refine eT ?_;nofun;refine rv (iZ _ _ _) ?_;nofun;refine rv (tj aF held [lk] _ (by simp;lia)) ?_;nofun;refine hlot (R:=R+10) (d:=d+1) (A1.le (by lia)) (G.more (n:=1) (ls:=[lk]) (by clear hmx;lia) (by simp) (by simpa using okk)) d5 (by lia) (by decide) (by decide) λt l2 h2 okl hll cr A2=>?_;refine Rn.imp (Q:=_) (fA (way=Str.ofString "ask") ?_ (λz=>?_) (λz=>?_)) λ_ z=>z
  ·nofun;refine⟨_,rfl,?_⟩;rw[show(way==Str.ofString "ask")=decide (way=Str.ofString "ask") by rw[UJ];simp only[Ux,TB]]
  ·nofun;refine hlot (R:=R) (d:=d+1) (A2.le (by lia)) G.deep d5 (by lia) (by decide) (by decide) λt3 l3 h3 okl3 hll3 cr3 A3=>?_;nofun;exact wN b0 k (.ask lk t t3) (by unfold bO;exact⟨okk,d5,hll,hll3,okl,okl3⟩) (by rw[cnt];lia) A3 (by rw[aB])
  ·nofun;exact wN b0 k (.within lk t) (by unfold bO;exact⟨okk,d5,hll,okl⟩) (by rw[cnt];lia) (A2.le (by lia)) (by rw[aB])
 ·nofun;refine rv (a:=(.bl true,_)) rfl ⟨_,rfl,λ_=>?_,λz=>(nomatch z)⟩;nofun;refine rv (eF A1.w) ?_;nofun;refine rv (b8 hdj) ?_;nofun;exact wN b0 k (.say dj) (by unfold bO;exact So _ (Sd hdj)) (by rw[cnt]) (A1.le (by lia)) (by rw[aB])
end
theorem AI(ts:List Lock)(h:MH):nj (.lv (ts.map aF)) (.lv []) h=some (.bl (!ts.isEmpty),h):=by
 have:=gX ts;simp only[nj,JT,eA,JS,Bt,oA,vc,mG,Tj,Td];rw[Si ⟨show PyData.depthAll _+1<=64 by exact Ug this (by decide),by decide⟩];cases ts <;> rfl
section
variable {E:En}
theorem Ks{f:Nat}(hlot:DG E f):MS E (f+1):=by
 intro h0 h R l j ps d top held Q A G d3 l5 hf k;have pl:=G.pl;have hl:=G.hl;have ht:=G.ht;have b0:=A.b;replace A:=A.here;obtain⟨dj,hdj⟩:∃f,E.W.ai[j]?=some f:=⟨_,SN G.hj⟩;obtain⟨fj,hfj⟩:∃f,E.fl[j]?=some f:=⟨_,SN (by rw[E.ok.QY];exact G.hj)⟩;have hfm:=E.ok.f0 fj (Sd hfj);have hsay:Rn (leave h (.tup [.str "say",.str dj]) h) Q:=wN b0 k (.say dj) (by unfold bO;exact So _ (Sd hdj)) (by rw[cnt]) (A.le (by lia)) (by rw[aB]);unfold cO;refine pE ?_;nofun;refine rv (nV A.w) ?_;nofun;refine rv (b8 hfj) ?_;nofun;refine rv (iZ top fj h) ?_;have lo0:0<=max top fj:=by lia
 have lo1:max top fj<=E.W.names.length:=by lia
 generalize max top fj=lo at lo0 lo1 ⊢;refine fA (lo=E.W.names.length) ?_ (λz=>?_) (λz=>?_)
 ·nofun;refine rv (eC A.w) ?_;nofun;refine⟨_,rfl,?_⟩;rw[R9,show(lo==(E.W.names.length:Int))=decide (lo=E.W.names.length) by rw[UJ];simp only[Ux,TB]]
 ·nofun;refine rv (eF A.w) ?_;nofun;refine rv (b8 hdj) ?_;nofun;exact hsay
 obtain⟨kn,rfl⟩:=Up lo0;have hkn:kn < E.W.names.length:=by lia
 obtain⟨nm,hnm⟩:∃f,E.W.names[kn]?=some f:=⟨_,SN hkn⟩;refine eT ?_;nofun;refine fP ?_;nofun;refine⟨_,_,rfl,?_⟩;obtain⟨⟨ys,h4⟩,e4,hyl,hym,δ4,hh4,_⟩:=qI (ws:=[]) (g:=gN 0) (c:=aJ (ar cS (ar aT (ay 0) (eK (.int 0))) (ar aT (ar aT (ay 2) (eK (.str "names"))) (ay 1)))) (e:=ay 0) (λx y=>∃l∈held,y=aF l)
  (xs:=held.map aF) (δ:=[none,some (.int kn),some (.ob E.wd)]) (h:=h) (λj δ h'=>h'=h/\∃d0,δ=[d0,some (.int kn),some (.ob E.wd)]) ⟨rfl,_,rfl⟩ (λ_ _ _ _ _=>rfl) (by
   rintro i x δ h' hx ⟨rfl,d0,rfl⟩;obtain⟨l,hl,rfl⟩:=Tq.mp (Sd hx);nofun;refine rv (a:=(.str l.1,_)) rfl ?_;nofun;refine rv (eC A.w) ?_;nofun;refine rv (b8 hnm) ?_;nofun;refine⟨_,rfl,λ_=>?_,λ_=>⟨rfl,_,rfl⟩⟩;nofun;exact⟨⟨l,hl,rfl⟩,rfl,_,rfl⟩)
 dsimp only at hh4;subst hh4;refine rv e4 ⟨Sw hyl (by rw[R9,show sizeLine=16777216 from rfl];lia),?_⟩;obtain⟨ts,rfl⟩:∃ts:List Lock,ys=ts.map aF:=by
  clear e4 hyl
  induction ys with
  | nil=>exact⟨[],rfl⟩
  | cons y r ih=>
   obtain⟨js,rfl⟩:=ih λz hz=>hym z (Sq _ hz);obtain⟨x,hx,l,hl,rfl⟩:=hym y Sk;exact⟨l::js,rfl⟩
 nofun;refine rv (AI ts _) ⟨_,rfl,λz=>?_,λz=>?_⟩
 ·nofun;refine rv (eF A.w) ?_;nofun;refine rv (b8 hdj) ?_;nofun;exact hsay
 nofun;refine rv (eC A.w) ?_;nofun;refine rv (b8 hnm) ?_;nofun;refine rv (qz A.w) ?_;nofun;refine rv (DZ A.w _) ?_;rw[show(l:Int)-5=((l-5:Nat):Int) by lia];have A1:=A.set (l-5);generalize h4.set E.wd (nS E.W E.fl ((l-5:Nat):Int) E.odd)=h5 at A1 ⊢;nofun;refine rv (df A1.w) ?_;nofun;refine rv (b8 G.hp) ?_;nofun;refine wa A1 pl λt1 h2 tk1 A2=>?_;nofun;refine rv (df A2.w) ?_;nofun;refine rv (b8 G.hp) ?_;nofun;refine wa A2 pl λt2 h3 tk2 A3=>?_;nofun;refine⟨_,_,rfl,?_⟩;nofun;refine fP ?_;nofun;refine⟨_,_,rfl,?_⟩;have hlen3:=A3.b.1;have okn:=Sd hnm;refine cZ (λi δ h'=>∃(rows:List Row)(l':Nat)(d11 d12 d13:Option D)(hb:MH),δ=[some (.ob E.s),some (.ob E.wd),some (.int j),some (.int d),some (.int top),some (.lv (held.map aF)),some (.int kn),some (.str nm),some (bo t1),some (bo t2),some (.ob h3.length),d11,d12,d13]/\h'=hb++[.lst (rows.map λr=>.tup [aB r])]/\rows.length=i/\(∀r∈rows,bO E.W ps (d+1) r)/\l'+(rows.map cnt).sum+5=l+2*i/\Wb E h4 (R+100*l'+(8-4*i)) l' hb)
  ⟨[],l-5,_,_,_,h3,rfl,rfl,rfl,λ_ z=>(nomatch z),by simp;lia,A3.le (by lia)⟩ (λ_ _ _ _ _=>rfl) ?_ ?_
 ·rintro i x δ h' hx ⟨rows,l',d11,d12,d13,hb,rfl,rfl,hrl,hro,hc,A6⟩;have hi:i < 2:=(Se.mp hx).1;obtain⟨u,v,rfl,uk,vk⟩:∃u v:Term,x=.tup [bo u,bo v]/\cw ps u/\cw ps v:=by
   rcases Sr.mp (Sd hx) with rfl | hx
   ·exact⟨t1,t2,rfl,tk1,tk2⟩
   ·rw[Sz.mp hx];exact⟨t2,t1,rfl,tk2,tk1⟩
  have hlb:hb.length=h3.length:=A6.b.1.trans hlen3.symm;generalize hrs:rows.map (λr=>D.tup [aB r])=rs;have hcl:fJ (hb.length+1) rs=true:=by rw[<-hrs];exact fq _ _ (λr=>by show(hV _ (aB r)&&true)=true;rw[tK];rfl) rows
  nofun;refine rv (tj aF held [(nm,u),(nm,v)] _ (by simp;lia)) ?_;nofun;refine hlot (R:=R+(8-4*(i+1))) (d:=d+3) ((A6.push (o:=.lst rs) hcl).le (by lia)) (G.more (n:=3) (ls:=[(nm,u),(nm,v)]) lo1 (by simp) (by
   intro x hx;rcases Sr.mp hx with rfl | z
   ·exact⟨okn,uk⟩
   ·rw[Sz.mp z];exact⟨okn,vk⟩)) (by lia) (by lia) (by decide) (by decide) λt l7 h7 okl hll cr A7=>?_
  obtain⟨hb7,rfl,e7,A7'⟩:=A6.pop A7;have hl7:=e7.trans hlb;nofun;refine kE ?_;nofun;refine⟨dB (lG hl7),?_⟩;nofun;refine rv (dQ (lG hl7) (by rw[<-hrs,R9,show sizeLine=16777216 from rfl];lia)) ?_;rw[zZ hl7];nofun;have hcn:((rows++[Row.within (nm,u) [Row.within (nm,v) t]]).map cnt).sum=(rows.map cnt).sum+(2+ao t):=by
   rw[Su,UH];simp[cnt,ao]
   lia
  refine⟨rows++[.within (nm,u) [.within (nm,v) t]],l7,_,_,_,hb7,rfl,?_,by simp[hrl],?_,by rw[hcn];lia,A7'.le (by lia)⟩
  ·rw[Su,hrs];simp[aB,cx,aF]
  ·intro r hr;rcases SF.mp hr with z | z
   ·exact hro r z
   ·rw[Sz.mp z];simp only[bO,bW];exact⟨⟨okn,uk⟩,by exact Ug d3 (by decide),by simp,⟨⟨okn,vk⟩,by lia,hll,okl⟩,trivial⟩
 ·rintro δ h' ⟨rows,l',d11,d12,d13,hb,rfl,rfl,hrl,hro,hc,A6⟩
  match rows,hrl with
  | [r0,r1],_=>
   have hc:l'+(([r0,r1]:List Row).map cnt).sum+5=l+2*2:=hc;have hat:(hb++[MO.lst [.tup [aB r0],.tup [aB r1]]])[h3.length]?=some (.lst [.tup [aB r0],.tup [aB r1]]):=lG (A6.b.1.trans hlen3.symm);show Rn _ _;nofun;refine rv (hU hat (d:=.tup [aB r0]) rfl) ?_;nofun;refine rv (hU hat (d:=.tup [aB r1]) rfl) ?_;nofun;refine ER b0 k (.lK t1 t2 [r0] [.within (nm,t1) []] [r1]) ?_ ?_ (A6.le (by exact Sj _)) (by simp[aB,cx,aF])
   ·simp only[bO,bW];exact⟨tk1,tk2,by exact SV d3 (by decide),by simp,by simp,by simp,⟨hro r0 (by simp),trivial⟩,⟨⟨⟨okn,tk1⟩,by exact Ug d3 (by decide),by simp,trivial⟩,trivial⟩,⟨hro r1 (by simp),trivial⟩⟩
   ·simp[cnt,ao] at hc ⊢;lia
theorem ring:∀f,DG E f/\MX E f/\GX E f/\MS E f
 | 0=>⟨λ_ _ _ z=>absurd z (by lia),λ_ _ _ z=>absurd z (by lia),λ_ _ z1 z=>absurd z (by lia),λ_ _ z1 _ z=>absurd z (by lia)⟩
 | f+1=>let⟨a,b,c,d⟩:=ring f;⟨AA b,wG a c d,CY a,Ks a⟩
end
theorem xp{P:Int->Prop}:∀{zs:List D},(∀y∈zs,∃i,y=.int i/\P i)->∃js:List Int,zs=js.map D.int/\∀j∈js,P j
 | [],_=>⟨[],rfl,λ_ z=>(nomatch z)⟩
 | y::r,h=>by
  obtain⟨js,rfl,q⟩:=xp (zs:=r) λz hz=>h z (Sq _ hz);obtain⟨i,rfl,p⟩:=h y Sk;exact⟨i::js,rfl,λj hj=>by
   rcases Sr.mp hj with rfl | hj
   ·exact p
   ·exact q j hj⟩
theorem Dh(f:α->D)(xs:List α)(k:Nat)(h:MH):fT (.lv (xs.map f)) none (some (k:Int)) h=some (.lv ((xs.take k).map f),h):=by
 show some (D.lv (cutD (xs.map f) none (some (k:Int))),h)=_;unfold cutD;rw[HT.iq,HT.gM,Wa,W4,R9,<-Vu]
 by_cases z:k<=xs.length
 ·rw[TJ z]
 ·rw[Nat.min_eq_right (by lia),Us (Sj _),Us (by lia)]
theorem Jj{h h0:MH}{s c R:Nat}{cs:List Int}{most odd:Int}{Q:D×MH->Prop}(A:Sb s c cs h0 (R+80) h)(o0:0<=odd)(o1:odd<=1000)(k:∀(W:Wd)(fl:List Int)(hb:MH),qy W fl odd->Sb s c cs h0 R hb->Q (.ob hb.length,hb++[nS W fl most odd])):Rn (ja [.ob s,.int most,.int odd] h) Q:=by
 refine bU ?_;nofun;refine kU (is:=[1,2,2,3,4,6]) (λi=>1<=i/\i<=6) (by decide) A λn1 h1 hn1 _ A1=>?_;nofun;refine xJ A1 (by exact Int.le_of_lt hn1.1) hn1.2 λns h2 nl nk nnd A2=>?_;nofun;refine kU (is:=[1,1,2,2,3,4,6]) (λi=>1<=i/\i<=6) (by decide) A2 λn2 h3 hn2 _ A3=>?_;nofun;refine xJ A3 (by exact Int.le_of_lt hn2.1) hn2.2 λds h4 dl dk dnd A4=>?_;nofun;refine xJ A4 (by lia) (by lia) λps h5 pl pk pnd A5=>?_;nofun;refine fP ?_;nofun;refine⟨_,_,rfl,?_⟩;obtain⟨⟨ys,h6⟩,e6,a6,δ6,_,A6⟩:=qJ (ws:=[]) (g:=gN 0) (e:=ax aN (ag (ay 1) (ag (eK (.lv [.int 0,.int 1,.int 1,.int 2,.int 2,.int 3])) aL))) (λ_ y=>∃i,y=.int i/\0<=i/\i<=3)
  (xs:=ds.map D.str) (δ:=[none,some (.ob s)]) (h:=h5) (λi δ h'=>(∃d0,δ=[d0,some (.ob s)])/\Sb s c cs h0 (R+18-i) h') ⟨⟨_,rfl⟩,A5⟩ (λ_ _ _ _ _=>rfl) (by
   rintro i x δ h' hx ⟨⟨d0,rfl⟩,A6⟩;have hi:i < 6:=by
    have:=(Se.mp hx).1;rw[R9] at this
    lia
   nofun;exact kU (R:=R+18-(i+1)) (is:=[0,1,1,2,2,3]) (λi=>0<=i/\i<=3) (by decide) (A6.le (by lia)) λi h7 hi _ A7=>⟨⟨i,rfl,hi⟩,⟨_,rfl⟩,A7⟩)
 have l6:=a6.length;obtain⟨many,rfl,hmany⟩:=xp (P:=λi=>0<=i/\i<=3) λy hy=>(let⟨_,_,r⟩:=a6.right y hy;r);dsimp only at l6;rw[R9,R9] at l6;rw[R9] at A6;refine rv e6 ⟨by dsimp only;rw[R9,show sizeLine=16777216 from rfl];lia,?_⟩;nofun;refine fP ?_;nofun;refine⟨_,_,rfl,?_⟩;obtain⟨⟨ys,h7⟩,e7,a7,δ7,_,A7⟩:=qJ (ws:=[]) (g:=gN 0) (e:=ax aR (ag (ay 2) (ag (ax cG (ag (ay 1) aL)) aL))) (λ_ y=>∃i,y=.int i/\0<=i/\i < ns.length)
  (xs:=ds.map D.str) (δ:=[none,some (.lv (ns.map D.str)),some (.ob s)]) (h:=h6) (λi δ h'=>(∃d0,δ=[d0,some (.lv (ns.map D.str)),some (.ob s)])/\Sb s c cs h0 (R+12-i) h') ⟨⟨_,rfl⟩,A6.le (by lia)⟩ (λ_ _ _ _ _=>rfl) (by
   rintro i x δ h' hx ⟨⟨d0,rfl⟩,A7⟩;have hi:i < 6:=by
    have:=(Se.mp hx).1;rw[R9] at this
    lia
   nofun;rw[R9];exact dS (R:=R+12-(i+1)) (A7.le (by clear A7 hx;lia)) (by lia) (by lia) λr h8 r0 r1 A8=>⟨⟨r,rfl,r0,r1⟩,⟨_,rfl⟩,A8⟩)
 have l7:=a7.length;obtain⟨fls,rfl,hfls⟩:=xp (P:=λi=>0<=i/\i < ns.length) λy hy=>(let⟨_,_,r⟩:=a7.right y hy;r);dsimp only at l7;rw[R9,R9] at l7;rw[R9] at A7;refine rv e7 ⟨by dsimp only;rw[R9,show sizeLine=16777216 from rfl];lia,?_⟩;nofun;refine rv (a:=(.lv ((kH fls).map D.int),h7)) (by
  show(m8 (fls.map D.int)).bind _=_;rw[oM];show(if fls.length < 64 then _ else _)=_;rw[Si (by lia)]) ?_
 nofun;refine fP ?_;nofun;refine⟨_,_,rfl,?_⟩;have e8:bV [] (gN 0) cz (iD (ay 1) wW (uv (ay 0))) (many.map D.int) [none,some (.lv (ps.map D.str))] h7=some ((many.map D.int).filterMap λd=>match d with | .int k=>some (.lv ((ps.take k.toNat).map D.str)) | _=>none,h7):=
  wQ rfl _ (λδ=>∃d0,δ=[d0,some (.lv (ps.map D.str))]) ⟨_,rfl⟩ (by
   rintro x hx δ ⟨d0,rfl⟩;obtain⟨k,hk,rfl⟩:=Tq.mp hx;refine rv rfl ⟨rfl,rv rfl ⟨rfl,⟨_,rfl⟩,λ_=>⟨_,rfl,?_⟩,λz=>(nomatch z)⟩⟩;obtain⟨n,rfl⟩:=Up (hmany k hk).1;nofun;refine⟨_,rfl,rv (Dh D.str ps n _) ?_⟩;rfl)
 have e9:((many.map D.int).filterMap λd=>match d with | .int k=>some (D.lv ((ps.take k.toNat).map D.str)) | _=>none)=(many.map λk=>ps.take k.toNat).map λps=>D.lv (ps.map D.str):=by
  rw[VH,TR];exact congrFun (Xa (f:=(λps:List Str=>D.lv (ps.map D.str))∘λk:Int=>ps.take k.toNat)) _
 rw[e9] at e8;refine rv e8 ⟨by dsimp only;rw[R9,R9,show sizeLine=16777216 from rfl];lia,?_⟩;nofun;have hfin:∀(a b c d e f:D),Rn (AL (eU (eK (.str "names")) (ay 3) (eU (eK (.str "deeds")) (ay 4) (eU (eK (.str "params")) (ay 5) (eU (eK (.str "floors")) (ay 7) (eU (eK (.str "left")) (ay 1) (eU (eK (.str "odd")) (ay 2) Ik)))))) [some (.ob s),some (.int most),some (.int odd),some a,some b,some c,some d,some e] h7) λp=>p=(.ob h7.length,h7++[.dct [(.inr (Str.ofString "names"),a),(.inr (Str.ofString "deeds"),b),(.inr (Str.ofString "params"),c),(.inr (Str.ofString "floors"),e),(.inr (Str.ofString "left"),.int most),(.inr (Str.ofString "odd"),.int odd)]]):=λa b c d e f=>⟨_,rfl,rfl⟩;refine(hfin _ _ _ _ _ .cq).imp ?_;rintro _ rfl;nofun;refine k ⟨ns,ds,many.map λk=>ps.take k.toNat⟩ (kH fls) h7 ⟨?_,?_,?_,?_,?_,?_,?_,?_,o0,o1,nk,dk,?_,nnd,dnd,?_⟩ (A7.le (by lia))
 ·show 1<=ns.length;lia
 ·show ns.length<=6;lia
 ·show 1<=ds.length;lia
 ·show ds.length<=6;lia
 ·show(many.map _).length=ds.length;rw[R9];lia
 ·intro q hq;obtain⟨k,hk,rfl⟩:=Tq.mp hq;rw[SO];have:=pl
  lia
 ·show(kH fls).length=ds.length;rw[(iP fls).length_eq];lia
 ·intro f hf;exact hfls f ((iP fls).mem_iff.mp hf)
 ·intro q hq w hw;obtain⟨k,hk,rfl⟩:=Tq.mp hq;exact pk w (V7 hw)
 ·intro q hq;obtain⟨k,hk,rfl⟩:=Tq.mp hq;exact pnd.sublist (Wu _ _)
end Mi
namespace Pg
open PySem Sm L2
abbrev b9:=Str×List Str×List Row
structure Prog where
 names:List Str
 ai:List b9
noncomputable def dC(d:b9):D:=.tup [.str d.1,.tup (d.2.1.map D.str),.tup (cx d.2.2)]
noncomputable def bC(P:Prog):D:=.tup [.tup (P.names.map D.str),.tup (P.ai.map dC)]
structure Nb(W:Wd)(most:Nat)(P:Prog):Prop where
 nm:P.names=jb W.names
 dl:P.ai.length=W.ai.length
 dd:∀(j:Nat)(d:b9),P.ai[j]?=some d->W.ai[j]?=some d.1/\W.params[j]?=some d.2.1/\bW W d.2.1 1 d.2.2/\d.2.2.length<=12
 ct:(P.ai.map λd=>ao d.2.2).sum<=most
end Pg
namespace Mi
open PySem Sm L2 Pg
theorem xD(n:Nat)(d:b9):hV n (dC d)=true:=by
 show(true&&(fJ n (d.2.1.map D.str)&&(fJ n (cx d.2.2)&&true)))=true;rw[iF,eN];rfl
theorem Jd(n:Nat)(P:Prog):hV n (bC P)=true:=by
 show(fJ n (P.names.map D.str)&&(fJ n (P.ai.map dC)&&true))=true;rw[iF,fq n _ (xD n)];rfl
theorem nr{α:Type}{f:α->D}{xs:List α}{i:Nat}{x:D}(h:(iC 0 (xs.map f))[i]?=some x):∃a,xs[i]?=some a/\x=.tup [.int (i:Int),f a]:=by
 rw[oR,SK] at h;cases e:xs[i]? with
 | none=>rw[e] at h;cases h
 | some a=>
  rw[e] at h;cases h;exact⟨a,rfl,by rw[Tp]⟩
theorem Wb.out(C:Cl h)(B:Sb E.s E.c E.cs h R' h0)(e:E.wd=h0.length)(A:Wb E (h0++[o]) R l h1):∃hb o',h1=hb++[o']/\Sb E.s E.c E.cs h R hb/\Cl hb:=by
 have b:=A.b;obtain⟨hs,hc⟩:=B.S.lt;have hl:h1.length=h0.length+1:=by rw[b.1];simp
 have hx:h0.length < h1.length:=by lia
 have ee:h1=h1.take h0.length++[h1[h0.length]'hx]:=by rw[List.take_append_getElem,Us (by exact Wr hl)]
 have bb:ua E.s h0 (h1.take h0.length):=⟨by rw[SO];lia,λk hk=>by
  by_cases z:k < h0.length
  ·rw[Tg z,b.2 k hk (by lia),Sx z]
  ·rw[Tx (by rw[SO];lia),Tx (by exact Uw z)]⟩
 have S:=A.S;rw[ee] at S;have S':=S.cut (by rw[bb.1];exact hs) (by rw[bb.1];exact hc);exact⟨_,_,ee,⟨S',B.b.trans bb⟩,C.but S' (B.b.trans bb)⟩
theorem Dy{h h0:MH}{s c R most:Nat}{cs:List Int}{odd:Int}{Q:D×MH->Prop}(A:Sb s c cs h0 (R+100*most+120) h)(C:Cl h)(o0:0<=odd)(o1:odd<=1000)(k:∀(W:Wd)(fl:List Int)(P:Prog)(h1:MH),qy W fl odd->Nb W most P->Sb s c cs h0 R h1->Cl h1->Q (bC P,h1)):Rn (gy [.ob s,.int most,.int odd] h) Q:=by
 refine pE ?_;nofun;refine Jj (R:=R+100*most+40) A.S.sb o0 o1 λW fl hb ok A1=>?_;obtain⟨lt1,lt2⟩:=A1.S.lt;have d2:=ok.d2;have n1:=ok.n1;have n2:=ok.n2;have hlen:=A1.b.1;let E:En:=⟨s,c,hb.length,cs,W,fl,odd,ok,by exact VZ lt1,by exact VZ lt2⟩;have B0:Wb E (hb++[nS W fl most odd]) (R+100*most+40) most (hb++[nS W fl most odd]):=⟨A1.S.more _,lG rfl,(C.but A1.S A1.b).snoc (AS _ _ _ _ _),gI.refl _ _ _⟩;nofun;refine j9 ?_;nofun;refine rv (eF (B0.push (o:=.lst []) rfl).w) ?_;nofun;refine⟨_,_,_,rfl,rfl,?_⟩;have hobl:(hb++[nS W fl most odd]).length=h.length+1:=by simp[hlen]
 rw[hobl];refine cZ (λi δ h'=>∃(dds:List b9)(l':Nat)(d5 d6 d7:Option D)(hw:MH),δ=[some (.ob s),some (.int most),some (.int odd),some (.ob hb.length),some (.ob (h.length+1)),d5,d6,d7]/\h'=hw++[.lst (dds.map dC)]/\hw.length=h.length+1/\dds.length=i/\(∀(j:Nat)(d:b9),dds[j]?=some d->W.ai[j]?=some d.1/\W.params[j]?=some d.2.1/\bW W d.2.1 1 d.2.2/\d.2.2.length<=12)/\l'+(dds.map λd=>ao d.2.2).sum=most/\Wb E (hb++[nS W fl most odd]) (R+100*l'+(40-5*i)) l' hw)
  ⟨[],most,_,_,_,_,rfl,rfl,hobl,rfl,λ_ _ z=>by simp at z,by simp,B0⟩ (λ_ _ _ _ _=>rfl) ?_ ?_
 ·rintro i x δ h' hx ⟨dds,l',d5,d6,d7,hw,rfl,rfl,hwl,hdl,hdd,hc,A6⟩;obtain⟨dn,hdn,rfl⟩:=nr hx;have hi:i < W.ai.length:=(Se.mp hdn).1;obtain⟨ps,hps⟩:∃f,W.params[i]?=some f:=⟨_,SN (by rw[ok.pl];exact hi)⟩;nofun;refine D0 (E:=E) (R:=R+100*l'+(39-5*i)) (is:=[1,2,3,4,12]) (λi=>1<=i/\i<=12) (by decide) ((A6.push (o:=.lst (dds.map dC)) (fq _ _ (xD _) dds)).le (by lia)) λmo h7 hmo A7=>?_;nofun;refine(ring (E:=E) 20).1 (R:=R+(40-5*(i+1))) (d:=1) (held:=[]) (A7.le (by lia)) ⟨hps,hi,by decide,show(-1:Int)<=W.names.length by simp,λ_ z=>(nomatch z),by simp⟩ (by decide) (by decide) hmo.1 hmo.2 λt l8 h8 okl hll cr A8=>?_;have w8:=A8.w;obtain⟨hw8,rfl,e8,A8'⟩:=A6.pop A8;have hl8:=e8.trans hwl;nofun;refine kE ?_;nofun;refine⟨dB (lG hl8),?_⟩;nofun;refine rv (df w8) ?_;nofun;refine rv (b8 hps) ?_;nofun;refine rv (a:=(.tup (ps.map D.str),_)) rfl ?_;nofun;refine rv (dQ (lG hl8) (by rw[R9,show sizeLine=16777216 from rfl];lia)) ?_;rw[zZ hl8];nofun;have hcn:((dds++[(dn,ps,t)]).map λd:b9=>ao d.2.2).sum=(dds.map λd:b9=>ao d.2.2).sum+ao t:=by
   rw[Su,UH];simp
  refine⟨dds++[(dn,ps,t)],l8,_,_,_,hw8,rfl,by rw[Su];rfl,hl8,by simp[hdl],?_,by rw[hcn];lia,A8'.le (by lia)⟩;intro j d hj
  by_cases z:j < dds.length
  ·rw[Sx z] at hj;exact hdd j d hj
  ·rw[SD (by exact Uw z)] at hj;have hj0:j-dds.length=0:=by
    have:=(Se.mp hj).1;simp at this
    lia
   rw[hj0] at hj;cases hj;obtain rfl:j=i:=by lia
   exact⟨hdn,hps,okl,hll⟩
 ·rintro δ h' ⟨dds,l',d5,d6,d7,hw,rfl,rfl,hwl,hdl,hdd,hc,A6⟩;rw[cK,R9] at hdl;have w6:=(A6.push (o:=.lst (dds.map dC)) (fq _ _ (xD _) dds)).w;have hat:(hw++[MO.lst (dds.map dC)])[h.length+1]?=some (.lst (dds.map dC)):=lG hwl;obtain⟨hb',o',rfl,B9,C9⟩:=Wb.out (E:=E) C A1 rfl A6;nofun;refine rv (eC w6) ?_;nofun;refine rv (a:=(.lv ((jb W.names).map D.str),_)) (by
   show(oZ (W.names.map D.str)).bind _=_;rw[n5];show(if W.names.length < 64 then _ else _)=_;rw[Si (by exact Ug n2 (by decide))]) ?_
  nofun;refine rv (a:=(.tup ((jb W.names).map D.str),_)) rfl ?_;nofun;refine rv (a:=(.tup (dds.map dC),_)) (by simp only[fS,dP,hat,Tj];rfl) ?_;nofun;rw[SY];exact rv (sN B9.b.1 C9 (λn z=>(nomatch z)) (Jd _ ⟨jb W.names,dds⟩)) (k W fl ⟨jb W.names,dds⟩ hb' ok ⟨rfl,hdl,hdd,by show _<=_;dsimp only;lia⟩ ⟨B9.S.le (by lia),A.b.trans B9.b⟩ C9)
end Mi
namespace Pg
open PySem Sm L2
noncomputable def bM(l:List Row):D:=.tup (cx l)
noncomputable def af:Row->List (List Row)
 | .say _=>[]
 | .call _ _=>[]
 | .within _ b=>[b]
 | .all _ b=>[b]
 | .ask _ b e=>[b,e]
 | .lK _ _ a b c=>[a,b,c]
 | .either a b=>[a,b]
 | .again a=>[a]
noncomputable def cu:Row->Str
 | .say _=>"say"
 | .call _ _=>"call"
 | .within _ _=>"within"
 | .all _ _=>"all"
 | .ask _ _ _=>"ask"
 | .lK _ _ _ _ _=>"by"
 | .either _ _=>"either"
 | .again _=>"again"
mutual
noncomputable def fc(p:List Nat):Row->List (List Nat×Row)
 | .say _=>[]
 | .call _ _=>[]
 | .within _ b=>aZ (p++[0]) 0 b
 | .all _ b=>aZ (p++[0]) 0 b
 | .ask _ b e=>aZ (p++[0]) 0 b++aZ (p++[1]) 0 e
 | .lK _ _ a b c=>aZ (p++[0]) 0 a++(aZ (p++[1]) 0 b++aZ (p++[2]) 0 c)
 | .either a b=>aZ (p++[0]) 0 a++aZ (p++[1]) 0 b
 | .again a=>aZ (p++[0]) 0 a
noncomputable def aZ(a:List Nat)(k:Nat):List Row->List (List Nat×Row)
 | []=>[]
 | r::rs=>(a++[k],r)::(fc (a++[k]) r++aZ a (k+1) rs)
end
noncomputable def dz(p:List Nat):Nat->List (List Row)->List (List Nat×Row)
 | _,[]=>[]
 | k,l::ls=>aZ (p++[k]) 0 l++dz p (k+1) ls
theorem vf(p:List Nat)(r:Row):fc p r=dz p 0 (af r):=by
 cases r <;> simp[fc,af,dz]
theorem gk(a:List Nat):∀(k:Nat)(x y:List Row),aZ a k (x++y)=aZ a k x++aZ a (k+x.length) y
 | k,[],y=>by simp[aZ]
 | k,r::x,y=>by simp[aZ,gk a (k+1) x y,Wt,Ws]
theorem kg(p:List Nat):∀(k:Nat)(x y:List (List Row)),dz p k (x++y)=dz p k x++dz p (k+x.length) y
 | k,[],y=>by simp[dz]
 | k,r::x,y=>by simp[dz,kg p (k+1) x y,Wt,Ws]
mutual
noncomputable def aC:Row->Nat
 | .say _=>0
 | .call _ _=>0
 | .within _ b=>aj b
 | .all _ b=>aj b
 | .ask _ b e=>max (aj b) (aj e)
 | .lK _ _ a b c=>max (aj a) (max (aj b) (aj c))
 | .either a b=>max (aj a) (aj b)
 | .again a=>aj a
noncomputable def aj:List Row->Nat
 | []=>1
 | r::rs=>max (1+aC r) (aj rs)
end
theorem cm{lot:List Row}{r:Row}(h:r∈lot):1+aC r<=aj lot:=by
 induction lot with
 | nil=>cases h
 | cons x xs ih=>
  rw[aj];rcases Sr.mp h with rfl | h
  ·lia
  ·have:=ih h;lia
theorem a9{r:Row}{l:List Row}(h:l∈af r):aj l<=aC r:=by
 cases r <;> simp[af] at h
 case within=>subst h;simp[aC]
 case all=>subst h;simp[aC]
 case ask=>rcases h with rfl | rfl <;> rw[aC] <;> lia
 case lK=>rcases h with rfl | rfl | rfl <;> rw[aC] <;> lia
 case either=>rcases h with rfl | rfl <;> rw[aC] <;> lia
 case again=>subst h;simp[aC]
theorem zm{lot:List Row}{r:Row}(h:r∈lot):cnt r<=ao lot:=by
 induction lot with
 | nil=>cases h
 | cons x xs ih=>
  rw[ao];rcases Sr.mp h with rfl | h
  ·lia
  ·have:=ih h;lia
theorem cN(r:Row):cnt r=1+((af r).map ao).sum:=by cases r <;> simp[cnt,af] <;> lia
mutual
theorem sf(p:List Nat):∀r:Row,1+(fc p r).length=cnt r
 | .say _=>by simp[fc,cnt]
 | .call _ _=>by simp[fc,cnt]
 | .within _ b=>by simp[fc,cnt,aM (p++[0]) 0 b]
 | .all _ b=>by simp[fc,cnt,aM (p++[0]) 0 b]
 | .ask _ b e=>by simp[fc,cnt,aM (p++[0]) 0 b,aM (p++[1]) 0 e];lia
 | .lK _ _ a b c=>by simp[fc,cnt,aM (p++[0]) 0 a,aM (p++[1]) 0 b,aM (p++[2]) 0 c];lia
 | .either a b=>by simp[fc,cnt,aM (p++[0]) 0 a,aM (p++[1]) 0 b];lia
 | .again a=>by simp[fc,cnt,aM (p++[0]) 0 a]
theorem aM(a:List Nat):∀(k:Nat)(l:List Row),(aZ a k l).length=ao l
 | k,[]=>by simp[aZ,ao]
 | k,r::rs=>by
  have:=sf (a++[k]) r;have:=aM a (k+1) rs;simp[aZ,ao];lia
end
mutual
theorem As{W:Wd}{ps:List Str}:∀(n:Nat)(r:Row),bO W ps n r->n<=5->aC r<=5-n
 | n,.say _,_,_=>by simp[aC]
 | n,.call _ _,_,_=>by simp[aC]
 | n,.within _ b,h,hn=>by rw[bO] at h;have:=bP (n+1) b h.2.2.2 h.2.1;rw[aC];lia
 | n,.all _ b,h,hn=>by rw[bO] at h;have:=bP (n+1) b h.2.2.2 h.2.1;rw[aC];lia
 | n,.ask _ b e,h,hn=>by rw[bO] at h;have:=bP (n+1) b h.2.2.2.2.1 h.2.1;have:=bP (n+1) e h.2.2.2.2.2 h.2.1;rw[aC];clear h;lia
 | n,.lK _ _ a b c,h,hn=>by
  rw[bO] at h;obtain⟨_,_,h0,_,_,_,h1,h2,h3⟩:=h;have:=bP (n+1) a h1 h0;have:=bP (n+1) b h2 h0;have:=bP (n+1) c h3 h0;rw[aC];lia
 | n,.either a b,h,hn=>by
  rw[bO] at h;obtain⟨h0,_,_,h1,h2⟩:=h;have:=bP (n+1) a h1 h0;have:=bP (n+1) b h2 h0;rw[aC];lia
 | n,.again a,h,hn=>by
  rw[bO] at h;obtain⟨h0,_,h1⟩:=h;have:=bP (n+1) a h1 h0;rw[aC];lia
theorem bP{W:Wd}{ps:List Str}:∀(n:Nat)(l:List Row),bW W ps n l->n<=5->aj l<=6-n
 | n,[],_,hn=>by simp[aj];lia
 | n,r::rs,h,hn=>by
  rw[bW] at h;have:=As n r h.1 hn;have:=bP n rs h.2 hn;rw[aj];lia
end
noncomputable def jI(n:Nat):D:=.int (n:Int)
noncomputable def fU(p:List Nat):D:=.tup (p.map jI)
noncomputable def pF(x:List Nat×Row):D:=.tup [fU x.1,aB x.2]
end Pg
namespace Mi
open PySem Sm L2 Pg
theorem Je(n:Nat)(x:List Nat×Row):hV n (pF x)=true:=by
 show(fJ n (x.1.map jI)&&(hV n (aB x.2)&&true))=true;rw[fq n _ (λ_=>rfl),tK];rfl
theorem vR(h:MH):xP h h=true:=by
 induction h with
 | nil=>rfl
 | cons o r ih=>show(GK o o&&xP r r)=true;rw[vQ,ih];rfl
theorem vz{H:MH}{xs:List D}(hc:fJ H.length xs=true):leave H (.ob H.length) (H++[.lst xs])=some (.lv xs,H):=by
 have h3:zP H.length (H++[.lst xs]) (.ob H.length)=.lv xs:=by
  show(if H.length < H.length then _ else _)=_;rw[Sv (Uv _)];simp
 unfold leave;rw[h3,Vw (Sj _),TQ,vR];show(if(fJ H.length xs&&_)=true then _ else _)=_;rw[hc];rfl
theorem mY(r:Row)(h:MH):cR [aB r] h=some (.tup ((af r).map bM),h):=by
 have e:Rn (cR [aB r] h) λp=>p=(.tup ((af r).map bM),h):=by
  refine bU ?_;cases r <;> rw[aB] <;> (nofun;refine rv rfl ?_;nofun;refine rv rfl ?_;dsimp only;refine⟨_,rfl,?_⟩;nofun;refine rv rfl ?_;rfl)
 obtain⟨p,e1,rfl⟩:=e;exact e1
theorem Dj{xs ys:List D}{h:MH}(hl:xs.length+ys.length<=10000):aw (.tup xs) (.tup ys) h=some (.tup (xs++ys),h):=by
 cases xs with
 | nil=>rfl
 | cons x xs=>
  show(if xs.length+1+ys.length<=sizeLine then some (D.tup (x::xs++ys),h) else none)=_;rw[Si (by rw[show sizeLine=16777216 from rfl];rw[Sf] at hl;exact Sw hl (by decide))]
theorem sH{h:MH}{n:Nat}{xs ys:List D}(e:h[n]?=some (.lst xs))(hl:xs.length+ys.length<=1000000):kd (.ob n) [.lv ys] h=some (.cq,h.set n (.lst (xs++ys))):=by
 unfold kd;dsimp only;rw[e];show(if xs.length+ys.length<=sizeLine then _ else _)=_;rw[Si (by rw[show sizeLine=16777216 from rfl];exact Sw hl (by decide))]
theorem rp{H:MH}{o o':MO}:(H++[o]).set H.length o'=H++[o']:=by
 rw[U3 _ _ (Sj _),Va];rfl
theorem iA{H:MH}{o:MO}:(H++[o])[H.length]?=some o:=by simp
theorem vF(a:List Nat)(i:Nat)(hl:a.length<=1000)(h:MH):aw (fU a) (.tup [.int (i:Int)]) h=some (fU (a++[i]),h):=by
 show aw (.tup (a.map jI)) (.tup [jI i]) _=_;rw[Dj (by rw[R9];simp;lia)];simp[fU]
theorem sh:∀(n:Nat)(lot:List Row)(ahead:List Nat)(h:MH),aj lot<=n->ao lot<=1000->ahead.length+2*n<=100->dU n [.tup (cx lot),fU ahead] h=some (.lv ((aZ ahead 0 lot).map pF),h)
 | 0,lot,ahead,h,hn,hc,ha=>by
  exfalso;cases lot with
  | nil=>simp[aj] at hn
  | cons r rs=>rw[aj] at hn;lia
 | n+1,lot,ahead,h,hn,hc,ha=>by
  have e:Rn (dU (n+1) [.tup (cx lot),fU ahead] h) λp=>p=(.lv ((aZ ahead 0 lot).map pF),h):=by
   unfold dU;refine pE ?_;nofun;refine j9 ?_;nofun;refine⟨_,_,_,rfl,rfl,?_⟩;rw[bu];refine cZ (λi δ h'=>∃(d3 d4 d5 d6 d7:Option D),δ=[some (.tup (lot.map aB)),some (fU ahead),some (.ob h.length),d3,d4,d5,d6,d7]/\h'=h++[.lst ((aZ ahead 0 (lot.take i)).map pF)])
    ⟨_,_,_,_,_,rfl,by simp[aZ]⟩ (λ_ _ _ _ _=>rfl) ?_ ?_
   ·rintro i x δ h' hx ⟨d3,d4,d5,d6,d7,rfl,rfl⟩;obtain⟨r,hr,rfl⟩:=nr hx;have hrm:=Sd hr;have hi:i < lot.length:=(Se.mp hr).1;have htk:lot.take (i+1)=lot.take i++[r]:=by
     rw[WI,hr];rfl
    have hpl:aZ ahead 0 (lot.take (i+1))=aZ ahead 0 (lot.take i)++((ahead++[i],r)::dz (ahead++[i]) 0 (af r)):=by
     rw[htk,gk];simp only[aZ,vf,SO,Tw,Tp];rw[TJ (by exact UU hi)]
    have hlen:(aZ ahead 0 lot).length<=1000:=by rw[aM];exact hc
    have hsub:(aZ ahead 0 (lot.take (i+1))).length<=1000:=by
     have:aZ ahead 0 lot=aZ ahead 0 (lot.take (i+1))++aZ ahead (0+(lot.take (i+1)).length) (lot.drop (i+1)):=by
      rw[<-gk,TV]
     rw[this,Sn] at hlen;exact Sw (S9 _ _) hlen
    generalize aZ ahead 0 (lot.take i)=F0 at hpl ⊢;nofun;refine rv (vF ahead i (by lia) _) ?_;nofun;rw[hpl,Sn,Sf] at hsub;refine kE ?_;nofun;refine⟨dB iA,?_⟩;nofun;refine rv (dQ iA (by rw[R9,show sizeLine=16777216 from rfl];lia)) ?_;nofun;rw[rp];refine j9 ?_;nofun;refine rv (mY r _) ?_;nofun;refine⟨_,_,_,rfl,rfl,?_⟩;refine cZ (λj δ h'=>∃(d6 d7:Option D),δ=[some (.tup (lot.map aB)),some (fU ahead),some (.ob h.length),some (.int i),some (aB r),some (fU (ahead++[i])),d6,d7]/\h'=h++[.lst ((F0++((ahead++[i],r)::dz (ahead++[i]) 0 ((af r).take j))).map pF)])
     ⟨_,_,rfl,by simp[dz,pF]⟩ (λ_ _ _ _ _=>rfl) ?_ ?_
    ·rintro j x δ h' hx ⟨d6,d7,rfl,rfl⟩;obtain⟨l,hl,rfl⟩:=nr hx;have hlm:=Sd hl;have hj:j < (af r).length:=(Se.mp hl).1;have htk:(af r).take (j+1)=(af r).take j++[l]:=by
      rw[WI,hl];rfl
     have hpj:dz (ahead++[i]) 0 ((af r).take (j+1))=dz (ahead++[i]) 0 ((af r).take j)++aZ (ahead++[i]++[j]) 0 l:=by
      rw[htk,kg];simp only[dz,SO,Tw,Tp];rw[TJ (by exact UU hj)]
     have hsub2:(dz (ahead++[i]) 0 ((af r).take (j+1))).length<=(dz (ahead++[i]) 0 (af r)).length:=by
      have:dz (ahead++[i]) 0 (af r)=dz (ahead++[i]) 0 ((af r).take (j+1))++dz (ahead++[i]) (0+((af r).take (j+1)).length) ((af r).drop (j+1)):=by
       rw[<-kg,TV]
      rw[this,Sn];exact S9 _ _
     rw[hpj,Sn] at hsub2;have ih:=λhh=>sh n l (ahead++[i]++[j]) hh (by have:=cm hrm;have:=a9 hlm;lia) (by rw[<-aM (ahead++[i]++[j]) 0];lia) (by simp;lia);nofun;refine kE ?_;nofun;refine⟨dB iA,?_⟩;nofun;refine rv (vF (ahead++[i]) j (by simp;lia) _) ?_;nofun;refine rv (ih _) ?_;nofun;refine rv (sH iA (by rw[R9,R9,Sn,Sf];lia)) ?_;nofun;rw[rp,<-Su];refine⟨_,_,rfl,?_⟩;rw[hpj];simp
    ·rintro δ h' ⟨d6,d7,rfl,rfl⟩;rw[cK,R9,TQ];nofun;exact⟨_,_,_,_,_,rfl,by rw[hpl]⟩
   ·rintro δ h' ⟨d3,d4,d5,d6,d7,rfl,rfl⟩;rw[cK,R9,TQ];nofun;exact rv (vz (fq _ _ (Je _) _)) rfl
  obtain⟨p,e1,rfl⟩:=e;exact e1
end Mi
namespace Pg
open PySem Sm L2
noncomputable def placesFrom:Nat->List b9->List (Nat×List Nat×Row)
 | _,[]=>[]
 | k,d::ds=>(aZ [] 0 d.2.2).map (λx=>(k,x.1,x.2))++placesFrom (k+1) ds
noncomputable def iV(x:Nat×List Nat×Row):D:=.tup [jI x.1,fU x.2.1,aB x.2.2]
theorem eI:∀(k:Nat)(x y:List b9),placesFrom k (x++y)=placesFrom k x++placesFrom (k+x.length) y
 | k,[],y=>by simp[placesFrom]
 | k,d::x,y=>by simp[placesFrom,eI (k+1) x y,Wt,Ws]
theorem dc:∀(k:Nat)(ds:List b9),(placesFrom k ds).length=(ds.map λd=>ao d.2.2).sum
 | _,[]=>rfl
 | k,d::ds=>by simp[placesFrom,dc (k+1) ds,aM]
theorem qC:∀{ds:List b9} {d:b9},d∈ds->ao d.2.2<=(ds.map λd=>ao d.2.2).sum
 | x::r,d,h=>by
  rw[Sl,Ts];rcases Sr.mp h with rfl | h
  ·lia
  ·have:=qC h;lia
structure Jq(P:Prog):Prop where
 nd:∀d∈P.ai,aj d.2.2<=6
 ct:(P.ai.map λd=>ao d.2.2).sum<=1000
 dl:P.ai.length<=1000
theorem Nb.fit{W:Wd}{m:Nat}{P:Prog}(o:Nb W m P)(hm:m<=1000)(hd:W.ai.length<=6):Jq P:=by
 refine⟨λd hd=>?_,Sw o.ct hm,by rw[o.dl];lia⟩;obtain⟨j,hj⟩:=UB.mp hd;obtain⟨_,_,ok,_⟩:=o.dd j d hj;have:=bP 1 d.2.2 ok (by lia)
 lia
end Pg
namespace Mi
open PySem Sm L2 Pg
theorem Gy(n:Nat)(x:Nat×List Nat×Row):hV n (iV x)=true:=by
 show(true&&(fJ n (x.2.1.map jI)&&(hV n (aB x.2.2)&&true)))=true;rw[fq n _ (λ_=>rfl),tK];rfl
theorem Jb{α:Type}{ws:W}{g:GM}{e:EM}{h:MH}(hc:nC ws h=true)(f k:α->D)(J:DS->Prop)(xs:List α){δ:DS}(h0:J δ)(ht:∀x∈xs,∀δ,J δ->Rn (g (f x) δ h) λq=>q.2=h/\J q.1/\Rn (e q.1 h) λp=>p=(k x,h)):
  bV ws g cz e (xs.map f) δ h=some (xs.map k,h):=by
 induction xs generalizing δ with
 | nil=>rw[TX];unfold bV;rw[Si hc];rfl
 | cons x r ih=>
  rw[Sl];unfold bV;rw[Si hc];obtain⟨⟨δ1,h1⟩,e1,rfl,J1,p,e2,rfl⟩:=ht x Sk δ h0;rw[e1];dsimp only[Option.bind_some] at e2 ⊢;show((some (true,h1)).bind _)=_;dsimp only[Option.bind_some];rw[Si rfl,e2];dsimp only[Option.bind_some];rw[ih J1 λy hy=>ht y (Sq _ hy)];rfl
theorem jB{P:Prog}(fit:Jq P)(h:MH):cj [bC P] h=some (.lv ((placesFrom 0 P.ai).map iV),h):=by
 have e:Rn (cj [bC P] h) λp=>p=(.lv ((placesFrom 0 P.ai).map iV),h):=by
  refine pE ?_;nofun;refine j9 ?_;nofun;refine rv (a:=(.tup (P.ai.map dC),_)) rfl ?_;nofun;refine⟨_,_,_,rfl,rfl,?_⟩;refine cZ (λi δ h'=>∃(d2 d3 d4 d5:Option D),δ=[some (bC P),some (.ob h.length),d2,d3,d4,d5]/\h'=h++[.lst ((placesFrom 0 (P.ai.take i)).map iV)])
   ⟨_,_,_,_,rfl,by simp[placesFrom]⟩ (λ_ _ _ _ _=>rfl) ?_ ?_
  ·rintro i x δ h' hx ⟨d2,d3,d4,d5,rfl,rfl⟩;obtain⟨d,hd,rfl⟩:=nr hx;have hdm:=Sd hd;have hi:i < P.ai.length:=(Se.mp hd).1;have htk:P.ai.take (i+1)=P.ai.take i++[d]:=by rw[WI,hd];rfl
   have hpl:placesFrom 0 (P.ai.take (i+1))=placesFrom 0 (P.ai.take i)++(aZ [] 0 d.2.2).map λx=>(i,x.1,x.2):=by
    rw[htk,eI];simp only[placesFrom,SO,Tw,Tp];rw[TJ (by lia)]
   have hc:=qC hdm;have ct:=fit.ct;have hlen:(placesFrom 0 P.ai).length<=1000:=by rw[dc];exact ct
   have hsub:(placesFrom 0 (P.ai.take (i+1))).length<=1000:=by
    have:placesFrom 0 P.ai=placesFrom 0 (P.ai.take (i+1))++placesFrom (0+(P.ai.take (i+1)).length) (P.ai.drop (i+1)):=by
     rw[<-eI,TV]
    rw[this,Sn] at hlen
    lia
   rw[hpl,Sn,R9] at hsub;unfold dC;nofun;refine kE ?_;nofun;refine⟨dB iA,?_⟩;nofun;refine fP ?_;nofun;refine rv (sh 8 d.2.2 [] _ (Sw (fit.nd d hdm) (by decide)) (by lia) (by simp)) ?_;refine⟨_,_,rfl,?_⟩;refine rv (Jb rfl pF (λx=>iV (i,x.1,x.2)) (λδ=>∃a b,δ=[a,b,some (.int i)]) (aZ [] 0 d.2.2) ⟨_,_,rfl⟩ ?_) ⟨?_,?_⟩
   ·rintro x hx δ ⟨a,b,rfl⟩;unfold pF;nofun;refine⟨rfl,⟨_,_,rfl⟩,?_⟩;nofun;rfl
   ·dsimp only;rw[R9,show sizeLine=16777216 from rfl]
    lia
   ·nofun;refine rv (sH iA (by rw[R9,R9];lia)) ?_;nofun;rw[rp];refine⟨_,_,_,_,rfl,?_⟩;rw[hpl,Su,TR];rfl
  ·rintro δ h' ⟨d2,d3,d4,d5,rfl,rfl⟩;rw[cK,R9,TQ];nofun;exact rv (vz (fq _ _ (Gy _) _)) rfl
 obtain⟨p,e1,rfl⟩:=e;exact e1
theorem CQ{d:Int}:∀{ns:List Int},ns≠[]->Sb.xj d ns∈ns/\∀a∈ns,a<=Sb.xj d ns:=by
 intro ns h;cases ns with
 | nil=>exact absurd rfl h
 | cons n r=>
  show r.foldl max n∈n::r/\∀a∈n::r,a<=r.foldl max n;clear h
  induction r generalizing n with
  | nil=>exact⟨.head _,λa ha=>by rw[Sz.mp ha];exact Int.le_refl _⟩
  | cons x r ih=>
   obtain⟨h1,h2⟩:=ih (max n x);rw[V4];have hm:=h2 (max n x) (.head _);refine⟨?_,λa ha=>?_⟩
   ·rcases Sr.mp h1 with h1 | h1
    ·rw[h1]
     by_cases z:n<=x
     ·rw[Int.max_eq_right z];exact .tail _ (.head _)
     ·rw[Int.max_eq_left (by lia)];exact .head _
    ·exact .tail _ (.tail _ h1)
   ·rcases Sr.mp ha with rfl | ha
    ·lia
    ·rcases Sr.mp ha with rfl | ha
     ·lia
     ·exact h2 a (.tail _ ha)
theorem Iq(r:Row):(af r=[]/\aC r=0)\/∃t∈af r,aC r=aj t:=by
 cases r with
 | say _=>exact .inl ⟨rfl,by rw[aC]⟩
 | call _ _=>exact .inl ⟨rfl,by rw[aC]⟩
 | within l b=>exact .inr ⟨b,.head _,by rw[aC]⟩
 | all l b=>exact .inr ⟨b,.head _,by rw[aC]⟩
 | again b=>exact .inr ⟨b,.head _,by rw[aC]⟩
 | ask l b e=>
  refine .inr ?_
  by_cases z:aj b<=aj e
  ·exact⟨e,.tail _ (.head _),by rw[aC,UP z]⟩
  ·exact⟨b,.head _,by rw[aC,UG (by lia)]⟩
 | either b e=>
  refine .inr ?_
  by_cases z:aj b<=aj e
  ·exact⟨e,.tail _ (.head _),by rw[aC,UP z]⟩
  ·exact⟨b,.head _,by rw[aC,UG (by lia)]⟩
 | lK s t a b c=>
  refine .inr ?_
  by_cases z:aj b<=aj c
  ·by_cases y:aj a<=aj c
   ·exact⟨c,.tail _ (.tail _ (.head _)),by rw[aC,UP z,UP y]⟩
   ·exact⟨a,.head _,by rw[aC,UP z,UG (by lia)]⟩
  ·by_cases y:aj a<=aj b
   ·exact⟨b,.tail _ (.head _),by rw[aC,UG (a:=aj b) (b:=aj c) (by lia),UP y]⟩
   ·exact⟨a,.head _,by rw[aC,UG (a:=aj b) (by lia),UG (by lia)]⟩
theorem ly{r:Row}:(af r=[]/\aC r=0)\/((∃t∈af r,aC r=aj t)/\∀t∈af r,aj t<=aC r):=by
 refine(Iq r).imp id λh=>⟨h,λt ht=>a9 ht⟩
noncomputable def DK(k:Int)(l:List Row):List Int:=l.flatMap λr=>(af r).map λt=>k+(aj t:Int)
theorem AO{k:Int}{l:List Row}{a:Int}:a∈DK k l↔∃r∈l,∃t∈af r,a=k+(aj t:Int):=by
 unfold DK;rw[List.mem_flatMap];constructor
 ·rintro⟨r,hr,ha⟩;obtain⟨t,ht,rfl⟩:=Tq.mp ha;exact⟨r,hr,t,ht,rfl⟩
 ·rintro⟨r,hr,t,ht,rfl⟩;exact⟨r,hr,UN (f:=λt=>k+(aj t:Int)) ht⟩
theorem Ms(k:Int)(l:List Row):Sb.xj k (DK k l)=k+(aj l:Int)-1:=by
 have h1:∀r∈l,∀t∈af r,1+aj t<=aj l:=λr hr t ht=>by
  have:=cm hr;have:=a9 ht;lia
 by_cases z:DK k l=[]
 ·rw[z];show k=_;have:aj l<=1:=by
   have:∀r∈l,aC r<=0:=λr hr=>by
    rcases ly (r:=r) with⟨_,e⟩ |⟨⟨t,ht,e⟩,_⟩
    ·rw[e];exact Sj _
    ·have:k+(aj t:Int)∈DK k l:=AO.mpr ⟨r,hr,t,ht,rfl⟩;rw[z] at this;cases this
   clear h1 z
   induction l with
   | nil=>rw[aj];exact Sj _
   | cons r l ih=>
    rw[aj];exact VG.mpr ⟨by have:=this r (.head _);lia,ih λx hx=>this x (.tail _ hx)⟩
  have h2:1<=aj l:=by cases l <;> rw[aj] <;> lia
  lia
 ·obtain⟨a1,a2⟩:=CQ (d:=k) z;obtain⟨r,hr,t,ht,e⟩:=AO.mp a1;have h2:=h1 r hr t ht;have h3:∃r∈l,∃t∈af r,aj l=1+aj t:=by
   clear a1 a2 e h2 z;have hx:∀(l:List Row),(∃r∈l,∃t∈af r,aj l=1+aj t)\/aj l=1:=by
    intro l
    induction l with
    | nil=>exact .inr (by rw[aj])
    | cons x l ih=>
     rw[aj]
     by_cases y:1+aC x<=aj l
     ·rw[UP y];exact ih.imp (λ⟨r,hr,q⟩=>⟨r,.tail _ hr,q⟩) id
     ·rw[UG (by lia)];rcases ly (r:=x) with⟨_,e⟩ |⟨⟨t,ht,e⟩,_⟩
      ·exact .inr (by rw[e])
      ·exact .inl ⟨x,.head _,t,ht,by rw[e]⟩
   refine(hx l).elim id λe=>?_;have:=h1 r hr t ht;have:1<=aj t:=by cases t <;> rw[aj] <;> lia
   lia
  obtain⟨r',hr',t',ht',e'⟩:=h3;have:=a2 _ (AO.mpr ⟨r',hr',t',ht',rfl⟩)
  lia
noncomputable def OY(n:Nat):EM:=ax (bI n) (ag (ay 1) (ag (ar aw (ay 2) (eK (.int 1))) aL))
theorem JV{n:Nat}{k:Int}{r0:Option D}{h:MH}:∀(ts:List (List Row)) (o:Option D) (acc:List D),acc.length+ts.length<=10000->(∀t∈ts,bI n [bM t,.int (k+1)] h=some (.int (k+1+(aj t:Int)-1),h))->
  ∃o',gu [] (gN 1) cz (mL (OY n)) (ts.map bM) [r0,o,some (.int k)] h acc=some ([r0,o',some (.int k)],h,acc++ts.map λt=>D.int (k+(aj t:Int)))
 | [],o,acc,_,_=>⟨o,by rw[TX,TX,Tw];rfl⟩
 | t::ts,o,acc,hl,ht=>by
  rw[Sf] at hl;obtain⟨o',e2⟩:=JV ts (some (bM t)) (acc++[.int (k+(aj t:Int))]) (by rw[Sn,UC];lia) λu hu=>ht u (.tail _ hu);refine⟨o',?_⟩;have em:mL (OY n) [r0,some (bM t),some (.int k)] h acc=some ([r0,some (bM t),some (.int k)],h,acc++[.int (k+(aj t:Int))]):=by
   show(bI n [bM t,.int (k+1)] h).bind _=_;rw[ht t (.head _)];show(if acc.length < sizeLine then some (_,h,acc++[D.int (k+1+(aj t:Int)-1)]) else none)=_;rw[Si (by rw[show sizeLine=16777216 from rfl];lia),show k+1+(aj t:Int)-1=k+aj t by lia]
  rw[Sl,Sl];show(mL (OY n) [r0,some (bM t),some (.int k)] h acc).bind _=_;rw[em];show gu [] (gN 1) cz (mL (OY n)) (ts.map bM) [r0,some (bM t),some (.int k)] h (acc++[.int (k+(aj t:Int))])=_;rw[e2,SY];rfl
noncomputable def dM(n:Nat):MK (List D):=pP (dm (ax cR (ag (ay 0) aL))) (gN 1) cz (mL (OY n))
theorem CV(r:Row):(af r).length<=3:=by cases r <;> simp[af]
theorem Gm{n:Nat}{k:Int}{h:MH}:∀(l:List Row)(o0 o1:Option D)(acc:List D),acc.length+3*l.length<=10000->(∀r∈l,∀t∈af r,bI n [bM t,.int (k+1)] h=some (.int (k+1+(aj t:Int)-1),h))->
  ∃δ,gu [] (gN 0) cz (dM n) (l.map aB) [o0,o1,some (.int k)] h acc=some (δ,h,acc++(DK k l).map D.int)
 | [],o0,o1,acc,_,_=>⟨_,by rw[TX];show _=some (_,h,acc++[]);rw[Tw];rfl⟩
 | r::l,o0,o1,acc,hl,ht=>by
  rw[Sf] at hl;have h3:=CV r;obtain⟨o',e1⟩:=JV (r0:=some (aB r)) (af r) o1 acc (by lia) (ht r (.head _));obtain⟨δ,e2⟩:=Gm l (some (aB r)) o' (acc++(af r).map λt=>D.int (k+(aj t:Int))) (by rw[Sn,R9];lia) λx hx=>ht x (.tail _ hx);refine⟨δ,?_⟩;have em:dM n [some (aB r),o1,some (.int k)] h acc=some ([some (aB r),o',some (.int k)],h,acc++(af r).map λt=>D.int (k+(aj t:Int))):=by
   show((cR [aB r] h).bind _).bind _=_;rw[mY];exact e1
  rw[Sl];show(dM n [some (aB r),o1,some (.int k)] h acc).bind _=_;rw[em];show gu [] (gN 0) cz (dM n) (l.map aB) [some (aB r),o',some (.int k)] h _=_;rw[e2,SY];unfold DK;rw[U5,Su,TR];rfl
theorem le_sum_mem'{a:Nat}:∀{xs:List Nat},a∈xs->a<=xs.sum
 | x::r,h=>by
  rw[Ts];rcases Sr.mp h with rfl | h
  ·exact S9 _ _
  ·exact Sw (le_sum_mem' h) (WB _ _)
theorem ny:∀(f:Nat)(l:List Row)(k:Int)(h:MH),aj l<=f->ao l<=1000->bI f [bM l,.int k] h=some (.int (k+(aj l:Int)-1),h)
 | 0,l,k,h,hn,_=>by
  have:1<=aj l:=by cases l <;> rw[aj] <;> lia
  lia
 | f+1,l,k,h,hn,hc=>by
  have hl:=nA l;obtain⟨δ,e⟩:=Gm (n:=f) (k:=k) (h:=h) l none none [] (by show 0+3*l.length<=10000;lia) λr hr t ht=>ny f t (k+1) h (by have:=cm hr;have:=a9 ht;lia) (by
   have h1:=zm hr;have h2:=cN r;have h3:=le_sum_mem' (UN (f:=ao) ht)
   lia)
  rw[bI];refine cg (bU (yr ?_));have e1:Mr [none,none,some 1] (dm (ay 0)) (gN 0) cz (pP (dm (ax cR (ag (ay 0) aL))) (gN 1) cz (mL (ax (bI f) (ag (ay 1) (ag (ar aw (ay 2) (eK (.int 1))) aL))))) [] .lv (entry 2 [bM l,.int k]) h=some (.lv ((DK k l).map D.int),h):=by
   show(gu [] (gN 0) cz (dM f) (cx l) [none,none,some (.int k)] h []).map _=_;rw[bu,e];rfl
  refine⟨(.int (Sb.xj k (DK k l)),h),?_,by rw[Ms];rfl⟩;unfold Gk;have e2:ag (Mr [none,none,some 1] (dm (ay 0)) (gN 0) cz (pP (dm (ax cR (ag (ay 0) aL))) (gN 1) cz (mL (ax (bI f) (ag (ay 1) (ag (ar aw (ay 2) (eK (.int 1))) aL))))) [] .lv) aL (entry 2 [bM l,.int k]) h=some ([.lv ((DK k l).map D.int)],h):=cg (cJ (rv e1 (jz rfl)));show(ag (Mr [none,none,some 1] (dm (ay 0)) (gN 0) cz (pP (dm (ax cR (ag (ay 0) aL))) (gN 1) cz (mL (ax (bI f) (ag (ay 1) (ag (ar aw (ay 2) (eK (.int 1))) aL))))) [] .lv) aL (entry 2 [bM l,.int k]) h).bind _=_;rw[e2];show JR (.lv ((DK k l).map D.int)) (.int k) h=_;show((m8 ((DK k l).map D.int)).map _)=_;rw[oM];rfl
end Mi
namespace Sm
open PySem L2 Builtin.Str StrLaws
noncomputable def JO(l:List Nat):Str:=⟨l.toArray⟩
theorem Iw(l:List Nat):(JO l).cps.toList=l:=by simp[JO]
theorem xi(x:Str):JO x.cps.toList=x:=by cases x;simp[JO]
theorem sP(c:Nat):∀(x:Str)(r:List Str),(Str.join ⟨#[c]⟩ (x::r)).cps.toList=x.cps.toList++(r.map λy=>c::y.cps.toList).flatten
 | x,[]=>by show x.cps.toList=_;simp
 | x,y::r=>by
  show(x.cps++#[c]++(Str.join ⟨#[c]⟩ (y::r)).cps).toList=_;rw[VB,VB,sP c y r];simp
theorem tD{c:Nat}:∀{a b s t:List Nat},c∉a->c∉b->a++c::s=b++c::t->a=b/\s=t
 | [],[],s,t,_,_,e=>⟨rfl,by simpa using e⟩
 | [],y::b,s,t,_,hb,e=>by simp at e;exact absurd (e.1 ▸ Sk) hb
 | x::a,[],s,t,ha,_,e=>by simp at e;exact absurd (e.1 ▸ Sk) ha
 | x::a,y::b,s,t,ha,hb,e=>by
  simp at e;obtain⟨e1,e2⟩:=tD (λh=>ha (Sq _ h)) (λh=>hb (Sq _ h)) e.2;exact⟨by rw[e.1,e1],e2⟩
theorem BZ{x y:Str}(e:x.cps.toList=y.cps.toList):x=y:=by rw[<-xi x,e,xi]
def Sh(n:Nat)(x:Str):Prop:=x.length<=n/\PyData.strOk x=true
theorem Sh.up{n m:Nat}{x:Str}(h:Sh n x)(hm:n<=m):Sh m x:=⟨Sw h.1 hm,h.2⟩
theorem Sh.app{n m:Nat}{x y:Str}(h:Sh n x)(h':Sh m y):Sh (n+m) (x++y):=⟨by rw[Tn];exact Nat.add_le_add h.1 h'.1,Sm.ic h.2 h'.2⟩
theorem Sh.int{i:Int}(h:-99<=i/\i<=99):Sh 8 (Str.ofString (toString i)):=by
 refine⟨?_,uN i⟩;have hl:(Str.ofString (toString i)).length=(toString i).length:=by
  rw[Str.ofString_eq_toList];show((toString i).toList.map Char.toNat).toArray.size=_;rw[SH,R9];exact String.length_toList
 rw[hl];have:=int_text_length_le10 (a:=i) (k:=2) (by decide) (by lia)
 lia
theorem Sh.join{n:Nat}{s:Str}(hs:Sh 1 s):∀{xs:List Str},(∀x∈xs,Sh n x)->Sh ((n+1)*xs.length) (Str.join s xs)
 | [],_=>⟨by simp[Str.join,Str.empty,Str.length],kY hs.2 [] (λ_ h=>(nomatch h))⟩
 | [x],h=>(h x (.head _)).up (by simp)
 | x::y::r,h=>by
  have:=(((h x (.head _)).app hs).app (Sh.join (n:=n) hs (xs:=y::r) λz hz=>h z (.tail _ hz)));exact this.up (by simp only[Sf];rw[Nat.mul_succ (n+1)];lia)
theorem jn{x:Str}{w rest:List Nat}(h:32∉w)(e:x.cps.toList=w\/x.cps.toList=w++32::rest):∃r,Txt.split x (Str.ofString " ")=JO w::r:=by
 have eb:Str.ofString " "=⟨#[32]⟩:=by decide+kernel
 rw[eb];have j:=join_split x ⟨#[32]⟩;have f:=split_free x 32;have p:=W3 x ⟨#[32]⟩;generalize Txt.split x ⟨#[32]⟩=ps at j f p;cases ps with
 | nil=>simp at p
 | cons y r=>
  refine⟨r,?_⟩;have jc:y.cps.toList++(r.map λy=>32::y.cps.toList).flatten=x.cps.toList:=by rw[<-sP,j]
  have fy:=f y (.head _);have:y.cps.toList=w:=by
   rcases e with e | e
   ·rw[e] at jc;cases r with
    | nil=>simpa using jc
    | cons z r=>exact absurd (by rw[<-jc];simp) h
   ·rw[e] at jc;cases r with
    | nil=>
     have:y.cps.toList=w++32::rest:=by simpa using jc
     exact absurd (by rw[this];simp) fy
    | cons z r=>
     simp only[Sl,Uo,Ta] at jc;exact(tD fy h jc).1
  rw[show y=JO w from BZ (by rw[Iw,this])]
theorem zW{x:Str}(h:Sh 1000 x){H:MH}:sG (.str x) [.str " "] H=some (.lv ((Txt.split x (Str.ofString " ")).map D.str),H):=by
 have eb:Str.ofString " "=⟨#[32]⟩:=by decide+kernel
 have h1:=h.1;unfold sG;dsimp only;rw[Si];refine⟨by decide+kernel,Sw h1 (by decide),?_,?_,?_⟩
 ·have:=PyProof.Rows.split_le x (Str.ofString " ");rw[show sizeLine=16777216 from rfl];lia
 ·rw[PyProof.Rows.len_partsBetween];have:=StrLaws.occ_length_le x (Str.ofString " ") 0 x.length (x.length+1);rw[show sizeLine=16777216 from rfl];lia
 ·rw[US];intro y hy;have j:=join_split x (Str.ofString " ");have h2:=h.2;unfold PyData.strOk at h2 ⊢;rw[Xs] at h2 ⊢;intro c hc;refine h2 c ?_;have:=(PyProof.Rows.mem_join (Str.ofString " ") c (Txt.split x (Str.ofString " "))).mpr (.inl ⟨y,hy,U8.mpr hc⟩);rw[j] at this;exact U8.mp this
end Sm
namespace Pg
open PySem Sm L2
noncomputable def ji(t:Term):Str:=if t.1=Str.ofString "" then Str.ofString (toString t.2) else if t.2=0 then t.1 else t.1++(if 0 < t.2 then Txt.mul (Str.ofString "+") 1 else Txt.mul (Str.ofString "+") 0)++Str.ofString (toString t.2)
noncomputable def eW(l:Lock):Str:=l.1++Str.ofString ":"++ji l.2
noncomputable def bK:Row->Str
 | .say w=>Str.ofString "say "++w
 | .call d ts=>Str.join (Str.ofString " ") (Str.ofString "call"::d::ts.map ji)
 | .within l _=>Str.ofString "within"++Str.ofString " "++eW l
 | .all ls _=>Str.join (Str.ofString " ") (Str.ofString "all"::ls.map eW)
 | .ask l _ _=>Str.ofString "ask"++Str.ofString " "++eW l
 | .lK s t _ _ _=>Str.ofString "by "++ji s++Str.ofString " "++ji t
 | .either _ _=>Str.ofString "either"
 | .again _=>Str.ofString "again"
def G1(t:Term):Prop:=Sh 8 t.1/\-99<=t.2/\t.2<=99
def G2(l:Lock):Prop:=Sh 8 l.1/\G1 l.2
def xU:Row->Prop
 | .say w=>Sh 8 w
 | .call d ts=>Sh 8 d/\ts.length<=3/\∀t∈ts,G1 t
 | .within l _=>G2 l
 | .all ls _=>ls.length<=4/\(∀l∈ls,G2 l)/\ls≠[]
 | .ask l _ _=>G2 l
 | .lK s t _ _ _=>G1 s/\G1 t
 | .either _ _=>True
 | .again _=>True
theorem gK{t:Term}(h:G1 t):Sh 20 (ji t):=by
 unfold ji
 split
 ·exact(Sh.int h.2).up (by decide)
 ·split
  ·exact h.1.up (by decide)
  ·refine Sh.up (n:=8+2+8) ((h.1.app ?_).app (Sh.int h.2)) (by decide)
   split <;> exact⟨by decide+kernel,by decide+kernel⟩
theorem gn{l:Lock}(h:G2 l):Sh 30 (eW l):=Sh.up (n:=8+1+20) ((h.1.app ⟨by decide+kernel,by decide+kernel⟩).app (gK h.2)) (by decide)
theorem iG:Sh 1 (Str.ofString " "):=⟨by decide+kernel,by decide+kernel⟩
theorem FX:∀{r:Row},xU r->Sh 400 (bK r)
 | .say w,h=>Sh.up (n:=4+8) (Sh.app ⟨by decide+kernel,by decide+kernel⟩ h) (by decide)
 | .call d ts,h=>by
  refine(Sh.join (n:=20) iG λx hx=>?_).up ?_
  ·rcases Sr.mp hx with rfl | hx
   ·exact⟨by decide+kernel,by decide+kernel⟩
   ·rcases Sr.mp hx with rfl | hx
    ·exact h.1.up (by decide)
    ·obtain⟨t,ht,rfl⟩:=Tq.mp hx;exact gK (h.2.2 t ht)
  ·have:=h.2.1;simp only[Sf,R9];lia
 | .within l _,h=>Sh.up (n:=6+1+30) ((Sh.app ⟨by decide+kernel,by decide+kernel⟩ iG).app (gn h)) (by decide)
 | .all ls _,h=>by
  refine(Sh.join (n:=30) iG λx hx=>?_).up ?_
  ·rcases Sr.mp hx with rfl | hx
   ·exact⟨by decide+kernel,by decide+kernel⟩
   ·obtain⟨t,ht,rfl⟩:=Tq.mp hx;exact gn (h.2.1 t ht)
  ·have:=h.1;simp only[Sf,R9];lia
 | .ask l _ _,h=>Sh.up (n:=3+1+30) ((Sh.app ⟨by decide+kernel,by decide+kernel⟩ iG).app (gn h)) (by decide)
 | .lK s t _ _ _,h=>Sh.up (n:=3+20+1+20) (((Sh.app ⟨by decide+kernel,by decide+kernel⟩ (gK h.1)).app iG).app (gK h.2)) (by decide)
 | .either _ _,_=>show Sh 400 (Str.ofString "either") from⟨by decide+kernel,by decide+kernel⟩
 | .again _,_=>show Sh 400 (Str.ofString "again") from⟨by decide+kernel,by decide+kernel⟩
noncomputable def sorts:List (List Nat):=[[115,97,121],[99,97,108,108],[119,105,116,104,105,110],[97,108,108],[97,115,107],[98,121],[101,105,116,104,101,114],[97,103,97,105,110]]
theorem ko(x:Str)(r:List Str)(h:r≠[]):∃rest,(Str.join (Str.ofString " ") (x::r)).cps.toList=x.cps.toList++32::rest:=by
 have eb:Str.ofString " "=⟨#[32]⟩:=by decide+kernel
 rw[eb,sP];cases r with
 | nil=>exact absurd rfl h
 | cons y r=>exact⟨_,rfl⟩
theorem fC(x y:Str):(x++y).cps.toList=x.cps.toList++y.cps.toList:=by
 show(x.cps++y.cps).toList=_;rw[VB]
theorem sU(r:Row)(h:xU r):∃rest,(bK r).cps.toList=(cu r).cps.toList\/(bK r).cps.toList=(cu r).cps.toList++32::rest:=by
 cases r with
 | say w=>exact⟨w.cps.toList,.inr (by show(Str.ofString "say "++w).cps.toList=_;rw[fC,show(Str.ofString "say ").cps.toList=(Str.ofString "say").cps.toList++[32] by decide+kernel];simp[cu])⟩
 | call d ts=>obtain⟨rest,e⟩:=ko (Str.ofString "call") (d::ts.map ji) (by simp);exact⟨rest,.inr e⟩
 | within l _=>exact⟨(eW l).cps.toList,.inr (by show(Str.ofString "within"++Str.ofString " "++eW l).cps.toList=_;rw[fC,fC,show(Str.ofString " ").cps.toList=[32] by decide+kernel];simp[cu])⟩
 | all ls _=>
  by_cases z:ls.map eW=[]
  ·exact⟨[],.inl (by show(Str.join _ (_::ls.map eW)).cps.toList=_;rw[z];rfl)⟩
  ·obtain⟨rest,e⟩:=ko (Str.ofString "all") (ls.map eW) z;exact⟨rest,.inr e⟩
 | ask l _ _=>exact⟨(eW l).cps.toList,.inr (by show(Str.ofString "ask"++Str.ofString " "++eW l).cps.toList=_;rw[fC,fC,show(Str.ofString " ").cps.toList=[32] by decide+kernel];simp[cu])⟩
 | lK s t _ _ _=>exact⟨(ji s++Str.ofString " "++ji t).cps.toList,.inr (by show(Str.ofString "by "++ji s++Str.ofString " "++ji t).cps.toList=_;rw[fC,fC,fC,fC,fC,show(Str.ofString "by ").cps.toList=(Str.ofString "by").cps.toList++[32] by decide+kernel];simp[cu])⟩
 | either _ _=>exact⟨[],.inl rfl⟩
 | again _=>exact⟨[],.inl rfl⟩
theorem yb(r:Row):(cu r).cps.toList∈sorts:=by
 have:∀w∈[Str.ofString "say",Str.ofString "call",Str.ofString "within",Str.ofString "all",Str.ofString "ask",Str.ofString "by",Str.ofString "either",Str.ofString "again"],w.cps.toList∈sorts:=by decide+kernel
 refine this _ ?_;cases r <;> simp[cu]
theorem zX:∀w∈sorts,32∉w:=by decide
theorem sT(r:Row)(h:xU r):∃q,Txt.split (bK r) (Str.ofString " ")=cu r::q:=by
 obtain⟨rest,e⟩:=sU r h;obtain⟨q,e⟩:=jn (zX _ (yb r)) e;exact⟨q,by rw[e,xi]⟩
theorem Ej:∀w∈sorts,w.head?≠some 111/\w≠[101,110,100]/\∀rest,w++32::rest≠[101,110,100]:=by
 have:∀w∈sorts,w.head?≠some 111/\w≠[101,110,100]/\w≠[]/\32∉[101,110,100]:=by decide
 exactλw hw=>⟨(this w hw).1,(this w hw).2.1,λrest e=>(this w hw).2.2.2 (by rw[<-e];simp)⟩
theorem BR(r:Row)(h:xU r):(bK r==Str.ofString "or")=false/\(bK r==Str.ofString "end")=false:=by
 obtain⟨rest,e⟩:=sU r h;obtain⟨a,b,c⟩:=Ej _ (yb r);constructor <;> rw[Vc] <;> intro z <;> rw[z] at e
 ·rw[show(Str.ofString "or").cps.toList=[111,114] by decide+kernel] at e;rcases e with e | e
  ·rw[<-e] at a;exact a rfl
  ·cases hw:(cu r).cps.toList with
   | nil=>rw[hw] at e;cases e
   | cons x q=>rw[hw] at e a;exact a (by rw[<-(List.cons.inj e).1];rfl)
 ·rw[show(Str.ofString "end").cps.toList=[101,110,100] by decide+kernel] at e;rcases e with e | e
  ·exact b e.symm
  ·exact c rest e.symm
end Pg
namespace Sm
open PySem L2
theorem zl{α:Type}{e:EM}{h:MH}{t:DS}(A f:α->D):∀(xs:List α)(o:Option D),(∀x∈xs,e (some (A x)::t) h=some (f x,h))->bV [] (gN 0) cz e (xs.map A) (o::t) h=some (xs.map f,h)
 | [],o,_=>rfl
 | x::r,o,hx=>by
  have e1:e (some (A x)::t) h=some (f x,h):=hx x Sk;have e2:=zl A f r (some (A x)) λy hy=>hx y (Sq _ hy);show((e (some (A x)::t) h).bind λy=>(bV [] (gN 0) cz e (r.map A) (some (A x)::t) y.2).map λz=>(y.1::z.1,z.2))=_;rw[e1];show((bV [] (gN 0) cz e (r.map A) (some (A x)::t) h).map λz=>(f x::z.1,z.2))=_;rw[e2];rfl
theorem vV{α:Type}{caps:List (Option Nat)}{ei e:EM}{δ t:DS}{o:Option D}{h:MH}{d:D}{xs:List α}(A f:α->D)(hi:ei δ h=some (d,h))(hs:dP d h=some (xs.map A,[]))(hc:fK caps δ=o::t)(hl:xs.length<=100000)(he:∀x∈xs,e (some (A x)::t) h=some (f x,h)):
  cI caps (dm ei) (gN 0) cz e δ h=some (xs.map f,h):=by
 unfold cI dm;rw[hi];dsimp only[Option.bind_some];rw[hs];dsimp only[Option.map_some,Option.bind_some];rw[hc,zl A f xs o he];dsimp only[Option.bind_some];rw[Si (by rw[R9,show sizeLine=16777216 from rfl];lia)]
abbrev g2:GM:=gT 2 (au (gN 0) (au (gN 1) bY))
theorem zk{α:Type}{e:EM}{h:MH}{t:DS}(A B f:α->D):∀(xs:List α)(o o2:Option D),(∀x∈xs,e (some (A x)::some (B x)::t) h=some (f x,h))->bV [] g2 cz e (xs.map λx=>.tup [A x,B x]) (o::o2::t) h=some (xs.map f,h)
 | [],o,o2,_=>rfl
 | x::r,o,o2,hx=>by
  have e1:e (some (A x)::some (B x)::t) h=some (f x,h):=hx x Sk;have e2:=zk A B f r (some (A x)) (some (B x)) λy hy=>hx y (Sq _ hy);show((e (some (A x)::some (B x)::t) h).bind λy=>(bV [] g2 cz e (r.map λx=>.tup [A x,B x]) (some (A x)::some (B x)::t) y.2).map λz=>(y.1::z.1,z.2))=_;rw[e1];show((bV [] g2 cz e (r.map λx=>.tup [A x,B x]) (some (A x)::some (B x)::t) h).map λz=>(f x::z.1,z.2))=_;rw[e2];rfl
theorem DC{α:Type}{caps:List (Option Nat)}{ei e:EM}{δ t:DS}{o o2:Option D}{h:MH}{d:D}{xs:List α}(A B f:α->D)(hi:ei δ h=some (d,h))(hs:dP d h=some (xs.map λx=>.tup [A x,B x],[]))(hc:fK caps δ=o::o2::t)(hl:xs.length<=100000)(he:∀x∈xs,e (some (A x)::some (B x)::t) h=some (f x,h)):
  cI caps (dm ei) g2 cz e δ h=some (xs.map f,h):=by
 unfold cI dm;rw[hi];dsimp only[Option.bind_some];rw[hs];dsimp only[Option.map_some,Option.bind_some];rw[hc,zk A B f xs o o2 he];dsimp only[Option.bind_some];rw[Si (by rw[R9,show sizeLine=16777216 from rfl];lia)]
end Sm
namespace Mi
open PySem Sm L2 Pg
theorem N6{δ:DS}{h:MH}{a b:EM}{Q:D×MH->Prop}(r:Rn (a δ h) λp=>∃c,zO p.1 p.2=some c/\(c=true->Q p)/\(c=false->Rn (b δ p.2) Q)):Rn (Mq a b δ h) Q:=ba (r.imp λp ⟨c,e,q1,q2⟩=>by
 rw[e];show Rn (if c=true then some p else b δ p.2) Q;cases c with
 | true=>rw[Si rfl];exact⟨_,rfl,q1 rfl⟩
 | false=>rw[Sv (by simp)];exact q2 rfl)
theorem len0{w:Str}(h:w.length=0):w=Str.ofString "":=by
 refine BZ ?_;have:w.cps.toList.length=0:=by rw[Vd];exact h
 rw[Vj.mp this];rfl
theorem fZ{t:Term}{h:MH}(ht:G1 t):bz [bo t] h=some (.str (ji t),h):=by
 obtain⟨w,i⟩:=t;obtain⟨hw,h0,h1⟩:=ht;dsimp only at hw h0 h1;have hs:y4 [.int i] h=some (.str (Str.ofString (toString i)),h):=by
  show(if i.natAbs.log2 < 1920 then some (D.str (Str.ofString (toString i)),h) else none)=_;rw[Si]
  by_cases z:i.natAbs=0
  ·rw[z];decide
  ·exact(Nat.log2_lt z).mpr (SV (show i.natAbs < 2^7 by lia) (Xf (by decide) (by decide)))
 have li:=(Sh.int ⟨h0,h1⟩).1;have lw:=hw.1;refine cg ?_;show Rn (bz [.tup [.str w,.int i]] h) _;refine bU ?_;refine eT (ET (rv (a:=(.tup [.str w,.int i],h)) rfl (rv (a:=([some (.tup [.str w,.int i]),some (.str w),some (.int i)],h)) rfl (q9 ?_))));refine fA (w=Str.ofString ""\/i=0) ?_ (λz=>?_) (λz=>?_)
 ·nofun;refine⟨_,rfl,λy=>?_,λy=>?_⟩
  ·exact dT (.inl (eq_of_beq y)) _
  ·have y:w≠Str.ofString "":=by intro e;rw[e,TC] at y;cases y
   nofun;refine⟨_,rfl,?_⟩;rw[show(i==0)=decide (w=Str.ofString ""\/i=0) by rw[UJ];simp[y]]
 ·nofun;refine N6 ?_;nofun
  by_cases e:w=Str.ofString ""
  ·subst e;refine⟨false,by ac_nf,λz=>(nomatch z),λ_=>?_⟩;nofun;refine rv hs ?_;nofun;unfold ji;rw[Si rfl]
  ·have z0:i=0:=z.resolve_left e;subst z0;refine⟨true,?_,λ_=>?_,λz=>(nomatch z)⟩
   ·show(if w.length<=sizeLine then some ((w.length:Int) !=0) else none)=_;rw[Si (Sw lw (by decide))];have:w.length≠0:=λy=>e (len0 y);congr 1;simp only[bne_iff_ne,ne_eq];lia
   ·nofun;unfold ji;rw[Sv e,Si rfl]
 ·nofun;obtain⟨v,hv,hm,hvt⟩:∃(v:Int),oP [.bl (decide (0 < i))] h=some (.int v,h)/\iB (.str (Str.ofString "+")) (.int v) h=some (.str (if 0 < i then Txt.mul (Str.ofString "+") 1 else Txt.mul (Str.ofString "+") 0),h)/\(if 0 < i then Txt.mul (Str.ofString "+") 1 else Txt.mul (Str.ofString "+") 0).length<=1:=by
   by_cases y:0 < i
   ·exact⟨1,by rw[Tb y];rfl,by rw[Si y];ac_nf,by rw[Si y];decide+kernel⟩
   ·exact⟨0,by rw[Tt y];rfl,by rw[Sv y];ac_nf,by rw[Sv y];decide+kernel⟩
  refine rv hv (rv hm (rv (bH (by lia)) ?_));nofun;refine rv hs (rv (bH (by rw[Tn];lia)) ?_);nofun;unfold ji;dsimp only;rw[Sv (λe=>z (.inl e)),Sv (λe=>z (.inr e))]
theorem gb{l:Lock}{h:MH}(hl:G2 l):bR [aF l] h=some (.str (eW l),h):=by
 obtain⟨w,t⟩:=l;obtain⟨hw,ht⟩:=hl;have a:=hw.1;have b:=(gK ht).1;have c:(Str.ofString ":").length=1:=by decide+kernel
 dsimp only at a b;refine cg ?_;show Rn (bR [.tup [.str w,bo t]] h) _;refine bU ?_;nofun;refine rv (bH (by lia)) ?_;nofun;refine rv (fZ ht) (rv (bH (by rw[Tn];lia)) ?_);nofun;rfl
theorem xZ{n:Nat}:∀{xs:List Str},(∀x∈xs,x.length<=n)->(xs.map (·.length)).sum<=n*xs.length
 | [],_=>by simp
 | x::r,h=>by
  have a:=h x (.head _);have b:=xZ (n:=n) (xs:=r) λy hy=>h y (.tail _ hy);simp only[Sl,Ts,Sf];rw[Nat.mul_succ];lia
theorem oK{xs:List Str}(h:∀x∈xs,x.length<=1000)(hl:xs.length<=1000){H:MH}{d:D}{ws:List (Nat×MO)}(e:dP d H=some (xs.map D.str,ws)):pQ (.str " ") [d] H=some (.str (Str.join (Str.ofString " ") xs),H):=by
 unfold pQ;dsimp only;rw[e];dsimp only[Option.bind_some];rw[n5];dsimp only[Option.bind_some];have:=xZ h;have c:(Str.ofString " ").length=1:=by decide+kernel
 rw[Si (by rw[c];lia)]
theorem IK{r:Row}{h:MH}(hr:xU r):jV [aB r] h=some (.str (bK r),h):=by
 have cb:(Str.ofString " ").length=1:=by decide+kernel
 cases r with
 | either a b=>rw[aB];ac_nf
 | again a=>rw[aB];ac_nf
 | say w=>
  have a:=hr.1;refine cg (bU ?_);rw[aB];nofun;refine⟨true,by ac_nf,λ_=>?_,λz=>(nomatch z)⟩;nofun;refine rv (bH (by rw[show(Str.ofString "say ").length=4 by decide+kernel];lia)) ?_;nofun;rfl
 | call d ts=>
  have hd:=hr.1.1;have hl:=hr.2.1;have e1:cI [none] (dm (ar aT (ay 0) (eK (.int 2)))) (gN 0) cz (ax bz (ag (ay 0) aL)) (entry 1 [.tup [.str "call",.str d,.tup (ts.map bo)]]) h=some (ts.map λt=>.str (ji t),h):=
   vV (t:=[]) (o:=none) bo (λt=>.str (ji t)) (d:=.tup (ts.map bo)) rfl rfl rfl (by lia) λt ht=>fZ (hr.2.2 t ht)
  refine cg (bU ?_);rw[aB];nofun;refine⟨false,by ac_nf,λz=>(nomatch z),λ_=>?_⟩;nofun;refine⟨true,by ac_nf,λ_=>?_,λz=>(nomatch z)⟩;nofun;refine kE ?_;nofun;refine⟨rfl,cJ (rZ (yt (rv (a:=([.str "call",.str d],h)) (by ac_nf) (yt (rv e1 ?_)))))⟩;refine rv (a:=(.lv ((Str.ofString "call"::d::ts.map ji).map D.str),h)) ?_ (jz (rv (oK ?_ ?_ (ws:=[]) rfl) ?_))
  ·rw[Sl,Sl,TR];simp only[aw,uI,dR,Td,R9,Sf,TY];rw[Si (by rw[show sizeLine=16777216 from rfl];lia)];rfl
  ·intro x hx;rcases Sr.mp hx with rfl | hx
   ·decide+kernel
   ·rcases Sr.mp hx with rfl | hx
    ·lia
    ·obtain⟨t,ht,rfl⟩:=Tq.mp hx;have:=(gK (hr.2.2 t ht)).1
     lia
  ·simp;lia
  ·nofun;rfl
 | all ls b=>
  have hl:=hr.1;have e1:cI [none] (dm (ar aT (ay 0) (eK (.int 1)))) (gN 0) cz (ax bR (ag (ay 0) aL)) (entry 1 [.tup [.str "all",.tup (ls.map aF),.tup (cx b)]]) h=some (ls.map λt=>.str (eW t),h):=
   vV (t:=[]) (o:=none) aF (λt=>.str (eW t)) (d:=.tup (ls.map aF)) rfl rfl rfl (by lia) λt ht=>gb (hr.2.1 t ht)
  refine cg (bU ?_);rw[aB];nofun;refine⟨false,by ac_nf,λz=>(nomatch z),λ_=>?_⟩;nofun;refine⟨false,by ac_nf,λz=>(nomatch z),λ_=>?_⟩;nofun;refine⟨true,by ac_nf,λ_=>?_,λz=>(nomatch z)⟩;nofun;refine kE ?_;nofun;refine⟨rfl,cJ (rZ (yt (rv (a:=([.str "all"],h)) (by ac_nf) (yt (rv e1 ?_)))))⟩;refine rv (a:=(.lv ((Str.ofString "all"::ls.map eW).map D.str),h)) ?_ (jz (rv (oK ?_ ?_ (ws:=[]) rfl) ?_))
  ·rw[Sl,TR];simp only[aw,uI,dR,Td,R9,Sf,TY];rw[Si (by rw[show sizeLine=16777216 from rfl];lia)];rfl
  ·intro x hx;rcases Sr.mp hx with rfl | hx
   ·decide+kernel
   ·obtain⟨t,ht,rfl⟩:=Tq.mp hx;have:=(gn (hr.2.1 t ht)).1
    lia
  ·simp;lia
  ·nofun;rfl
 | within l b=>
  have a:=(gn hr).1;refine cg (bU ?_);rw[aB];nofun;refine⟨false,by ac_nf,λz=>(nomatch z),λ_=>?_⟩;nofun;refine⟨false,by ac_nf,λz=>(nomatch z),λ_=>?_⟩;nofun;refine⟨false,by ac_nf,λz=>(nomatch z),λ_=>?_⟩;nofun;refine rv (a:=(.bl true,h)) (by ac_nf) ?_;nofun;refine⟨true,rfl,λ_=>?_,λz=>(nomatch z)⟩;nofun;refine rv (bH (by decide+kernel)) ?_;nofun;refine rv (gb hr) (rv (bH (by rw[Tn,cb,show(Str.ofString "within").length=6 by decide+kernel];lia)) ?_);nofun;rfl
 | ask l b e=>
  have a:=(gn hr).1;refine cg (bU ?_);rw[aB];nofun;refine⟨false,by ac_nf,λz=>(nomatch z),λ_=>?_⟩;nofun;refine⟨false,by ac_nf,λz=>(nomatch z),λ_=>?_⟩;nofun;refine⟨false,by ac_nf,λz=>(nomatch z),λ_=>?_⟩;nofun;refine rv (a:=(.bl true,h)) (by ac_nf) ?_;nofun;refine⟨true,rfl,λ_=>?_,λz=>(nomatch z)⟩;nofun;refine rv (bH (by decide+kernel)) ?_;nofun;refine rv (gb hr) (rv (bH (by rw[Tn,cb,show(Str.ofString "ask").length=3 by decide+kernel];lia)) ?_);nofun;rfl
 | lK s t a b c=>
  have l1:=(gK hr.1).1;have l2:=(gK hr.2).1;have l3:(Str.ofString "by ").length=3:=by decide+kernel
  refine cg (bU ?_);rw[aB];nofun;refine⟨false,by ac_nf,λz=>(nomatch z),λ_=>?_⟩;nofun;refine⟨false,by ac_nf,λz=>(nomatch z),λ_=>?_⟩;nofun;refine⟨false,by ac_nf,λz=>(nomatch z),λ_=>?_⟩;nofun;refine rv (a:=(.bl false,h)) (by ac_nf) ?_;nofun;refine⟨false,rfl,λz=>(nomatch z),λ_=>?_⟩;nofun;refine⟨true,by ac_nf,λ_=>?_,λz=>(nomatch z)⟩;nofun;refine rv (fZ hr.1) (rv (bH (by lia)) ?_);nofun;refine rv (bH (by rw[Tn,cb];lia)) ?_;nofun;refine rv (fZ hr.2) (rv (bH (by rw[Tn,Tn,cb];lia)) ?_);nofun;rfl
end Mi
namespace Pg
open PySem Sm L2
abbrev Ln:=Int×Str
noncomputable def fk(x:Ln):D:=.tup [.int x.1,.str x.2]
noncomputable def uw(n:Nat):Ln:=((n:Int),Str.ofString "or")
noncomputable def gE(n:Nat):Ln:=((n:Int),Str.ofString "end")
noncomputable def aU(g:Nat->List Row->List Ln)(n:Nat):Nat->Nat->List (List Row)->List Ln
 | _,_,[]=>[]
 | j,k,a::r=>(if j=0 then[] else[uw n])++g k a++aU g n (j+1) (k+ao a) r
noncomputable def cp(g:Nat->List Row->List Ln)(k:Nat)(r:Row):List Ln:=((k:Int),bK r)::(aU g k 0 (k+1) (af r)++(if af r=[] then[] else[gE k]))
noncomputable def a8(g:Nat->List Row->List Ln):Nat->List Row->List Ln
 | _,[]=>[]
 | k,r::rs=>cp g k r++a8 g (k+cnt r) rs
noncomputable def dJ:Nat->Nat->List Row->List Ln
 | 0=>λ_ _=>[]
 | f+1=>a8 (dJ f)
def xV:Nat->List Row->Prop
 | 0,_=>True
 | f+1,l=>∀r∈l,xU r/\∀t∈af r,xV f t
theorem sM(g:Nat->List Row->List Ln)(n:Nat)(a:List Row):∀(j k:Nat)(x:List (List Row)),aU g n j k (x++[a])=aU g n j k x++((if j+x.length=0 then[] else[uw n])++g (k+(x.map ao).sum) a)
 | j,k,[]=>by simp[aU]
 | j,k,y::x=>by
  rw[Ta,aU,aU,sM g n a (j+1) (k+ao y) x];simp only[SY,Sf,Sl,Ts];rw[show j+1+x.length=j+(x.length+1) by lia,show k+ao y+(x.map ao).sum=k+(ao y+(x.map ao).sum) by lia]
theorem sL(g:Nat->List Row->List Ln)(r:Row):∀(k:Nat)(x:List Row),a8 g k (x++[r])=a8 g k x++cp g (k+ao x) r
 | k,[]=>by simp[a8,ao]
 | k,y::x=>by
  rw[Ta,a8,a8,sL g r (k+cnt y) x,SY];rw[show ao (y::x)=cnt y+ao x by simp[ao],TL]
theorem vJ{l:List Row}{i:Nat}{r:Row}(e:l[i]?=some r):ao (l.take (i+1))=ao (l.take i)+cnt r/\l.take (i+1)=l.take i++[r]:=by
 have h:l.take (i+1)=l.take i++[r]:=by rw[Vo,e];rfl
 exact⟨by rw[h,nB];simp[ao],h⟩
theorem nz(l:List Row)(i:Nat):ao (l.take i)<=ao l:=by
 have:=nB (l.take i) (l.drop i);rw[TV] at this
 lia
end Pg
namespace Mi
open PySem Sm L2 Pg
noncomputable def AZ:Row->Int
 | .say _=>2
 | .call _ _=>3
 | .within _ _=>2
 | .all _ _=>2
 | .ask _ _ _=>2
 | .lK _ _ _ _ _=>3
 | .either _ _=>1
 | .again _=>1
theorem sW(r:Row)(h:MH):LP (.dv [(.inr (Str.ofString "say"),.int 2),(.inr (Str.ofString "call"),.int 3),(.inr (Str.ofString "by"),.int 3),(.inr (Str.ofString "either"),.int 1),(.inr (Str.ofString "again"),.int 1)]) [.str (cu r),.int 2] h=some (.int (AZ r),h)/\fT (aB r) (some (AZ r)) none h=some (.tup ((af r).map bM),h):=by
 cases r <;> (rw[aB];exact⟨by ac_nf,by ac_nf⟩)
theorem uY(r:Row)(h:MH):aT (aB r) (.int 0) h=some (.str (cu r),h):=by
 cases r <;> (rw[aB];rfl)
theorem Bo{x:D}{b:Bool}{h:MH}:∃v:Int,oP [.bl b] h=some (.int v,h)/\uH (.lv [x]) (.int v) h=some (.lv (if b then[x] else[]),h):=by
 cases b
 ·exact⟨0,rfl,rfl⟩
 ·exact⟨1,rfl,rfl⟩
theorem Ht{h g:MH}{n:Nat}{o:MO}(hn:h.length<=n):(h++g).set n o=h++g.set (n-h.length) o:=U3 _ _ hn
theorem get_set{h:MH}{n:Nat}{o o':MO}(e:h[n]?=some o'):(h.set n o)[n]?=some o:=Th (Se.mp e).1
theorem mX{h:MH}{n:Nat}{xs:List D}(e:h[n]?=some (.lst xs)):dR (.ob n) h=some xs:=by unfold dR;dsimp only;rw[e]
theorem FJ(r:Row):(af r).length<=3:=by cases r <;> simp[af]
theorem iW{g:Nat->List Row->List Ln}(hg:∀k a,(g k a).length<=5*ao a)(n:Nat):∀(j k:Nat)(x:List (List Row)),(aU g n j k x).length<=5*(x.map ao).sum+x.length
 | _,_,[]=>by simp[aU]
 | j,k,a::r=>by
  have h1:=hg k a;have h2:=iW hg n (j+1) (k+ao a) r;rw[aU,Sn,Sn,Sl,Ts,Sf];have h3:(if j=0 then([]:List Ln) else[uw n]).length<=1:=by split <;> simp
  lia
theorem C0{g:Nat->List Row->List Ln}(hg:∀k a,(g k a).length<=5*ao a)(k:Nat)(r:Row):(cp g k r).length<=5*cnt r:=by
 have h2:=iW hg k 0 (k+1) (af r);have h4:=FJ r;have h3:(if af r=[] then([]:List Ln) else[gE k]).length<=1:=by split <;> simp
 rw[cp,Sf,Sn,cN]
 lia
theorem lz{g:Nat->List Row->List Ln}(hg:∀k a,(g k a).length<=5*ao a):∀(k:Nat)(l:List Row),(a8 g k l).length<=5*ao l
 | _,[]=>by simp[a8]
 | k,r::rs=>by
  have h1:=C0 hg k r;have h2:=lz hg (k+cnt r) rs;rw[a8,Sn,show ao (r::rs)=cnt r+ao rs by simp[ao]]
  lia
theorem iX:∀(f k:Nat)(l:List Row),(dJ f k l).length<=5*ao l
 | 0,_,_=>by simp[dJ]
 | f+1,k,l=>lz (iX f) k l
def GL(g:MH):Prop:=∀o∈g,∃X:List Ln,o=.lst (X.map fk)
theorem GL.one(X:List Ln):GL [.lst (X.map fk)]:=λo ho=>⟨X,Sz.mp ho⟩
theorem GL.app{a b:MH}(ha:GL a)(hb:GL b):GL (a++b):=λo ho=>(SF.mp ho).elim (ha o) (hb o)
theorem GL.set{g:MH}{i:Nat}{o:MO}(hg:GL g)(X:List Ln)(e:o=.lst (X.map fk)):GL (g.set i o):=λq hq=>by
 rcases WK hq with h | h
 ·exact hg q h
 ·exact⟨X,h.trans e⟩
theorem oI:∀(f:Nat)(l:List Row)(k:Nat)(h:MH),aj l<=f->xV f l->k+ao l<=1000->Rn (bA f [.tup (cx l),.int (k:Int)] h) λp=>∃(n:Nat)(g:MH),p=(.tup [.ob n,.int ((k+ao l:Nat):Int)],h++g)/\GL g/\(h++g)[n]?=some (.lst ((dJ f k l).map fk))
 | 0,l,k,h,hn,_,_=>by
  exfalso;cases l with
  | nil=>rw[aj] at hn;lia
  | cons r rs=>rw[aj] at hn;lia
 | f+1,l,k,h,hn,hs,hk=>by
  unfold bA;refine bU ?_;nofun;refine⟨_,_,rfl,?_⟩;nofun;refine fP ?_;nofun;refine⟨_,_,rfl,?_⟩;rw[bu];refine cZ (λi δ h'=>∃(n:Nat)(g:MH)(o4 o5 o6 o7 o8 o9 o10:Option D),δ=[some (.tup (l.map aB)),some (.int (k:Int)),some (.ob n),some (.int ((k+ao (l.take i):Nat):Int)),o4,o5,o6,o7,o8,o9,o10]/\h'=h++g/\GL g/\h.length<=n/\(h++g)[n]?=some (.lst ((a8 (dJ f) k (l.take i)).map fk)))
   ⟨h.length,[.lst []],_,_,_,_,_,_,_,rfl,rfl,GL.one [],Sj _,by simp[a8]⟩ (λ_ _ _ _ _=>rfl) ?_ ?_
  ·rintro i x δ h' hx ⟨n,g,o4,o5,o6,o7,o8,o9,o10,rfl,rfl,hgl,hnl,hat⟩;rw[SK] at hx;obtain⟨r,er,rfl⟩:=SR.mp hx;obtain⟨hsr,hsl⟩:=hs r (Sd er);obtain⟨hc1,ht1⟩:=vJ er;have hcl:=nz l (i+1);have hcr:=cN r;have hnr:=cm (Sd er);generalize hK:k+ao (l.take i)=K at*;generalize hX:(a8 (dJ f) k (l.take i))=X at*;have hXl:X.length<=5000:=by have:=lz (iX f) k (l.take i);rw[hX] at this;lia
   nofun;refine kE ?_;nofun;refine⟨dB hat,?_⟩;nofun;refine rv (IK hsr) ?_;nofun;refine rv (dQ hat (by rw[R9,show sizeLine=16777216 from rfl];lia)) ?_;have hat1:=get_set (o:=.lst (X.map fk++[.tup [.int (K:Int),.str (bK r)]])) hat;rw[Ht hnl] at hat1 ⊢;have hg1:GL (g.set (n-h.length) (.lst (X.map fk++[.tup [.int (K:Int),.str (bK r)]]))):=hgl.set (X++[((K:Int),bK r)]) (by rw[Su];rfl);generalize g.set (n-h.length) _=g1 at hat1 hg1 ⊢;nofun;refine kE (rv (a:=(.dv [(.inr (Str.ofString "say"),.int 2),(.inr (Str.ofString "call"),.int 3),(.inr (Str.ofString "by"),.int 3),(.inr (Str.ofString "either"),.int 1),(.inr (Str.ofString "again"),.int 1)],h++g1)) (by ac_nf) ⟨rfl,?_⟩);nofun;refine rv (uY r _) ?_;nofun;refine rv (sW r _).1 ?_;nofun;refine⟨_,rfl,?_⟩;nofun;refine rv (sW r _).2 ?_;nofun;refine j9 ?_;nofun;refine⟨_,_,_,rfl,rfl,?_⟩;refine cZ (λj δ h'=>∃(n':Nat)(g':MH)(o8 o9 o10:Option D),δ=[some (.tup (l.map aB)),some (.int (k:Int)),some (.ob n'),some (.int ((K+1+(((af r).take j).map ao).sum:Nat):Int)),some (aB r),some (.int (K:Int)),some (.int (AZ r)),some (.tup ((af r).map bM)),o8,o9,o10]/\h'=h++g'/\GL g'/\h.length<=n'/\(h++g')[n']?=some (.lst ((X++((K:Int),bK r)::aU (dJ f) K 0 (K+1) ((af r).take j)).map fk)))
    ⟨n,g1,_,_,_,rfl,rfl,hg1,hnl,by rw[hat1,Su];rfl⟩ (λ_ _ _ _ _=>rfl) ?_ ?_
   ·rintro j y δ h' hy ⟨n',g',o8,o9,o10,rfl,rfl,hgl',hnl',hat'⟩;obtain⟨t,et,rfl⟩:=nr hy;have htm:=Sd et;have hj:j < 3:=by have:=FJ r;have:=(Se.mp et).1;lia
    have hst:(((af r).take (j+1)).map ao).sum=(((af r).take j).map ao).sum+ao t/\(af r).take (j+1)=(af r).take j++[t]:=by
     have e:(af r).take (j+1)=(af r).take j++[t]:=by rw[Vo,et];rfl
     exact⟨by rw[e];simp,e⟩
    have hsle:(((af r).take (j+1)).map ao).sum<=((af r).map ao).sum:=by
     have:=congrArg (λz=>(z.map ao).sum) (TV (j+1) (af r));simp only[Su,UH] at this
     lia
    have hlen:=iW (iX f) K 0 (K+1) ((af r).take j);have hlt:((af r).take j).length<=3:=by rw[SO];lia
    have hln:=iX f (K+1+(((af r).take j).map ao).sum) t;generalize hY:aU (dJ f) K 0 (K+1) ((af r).take j)=Y at*;nofun;obtain⟨v,hv,hrep⟩:=Bo (x:=.tup [.int (K:Int),.str (Str.ofString "or")]) (b:=decide (0 < (j:Int))) (h:=h++g');refine wR ?_;nofun;refine rv hv (rv hrep ⟨_,_,mX hat',rfl,?_,?_⟩)
    ·rw[R9,Sn,Sf,show sizeLine=16777216 from rfl]
     split <;> simp <;> lia
    have e1:(if decide (0 < (j:Int))=true then[D.tup [.int (K:Int),.str (Str.ofString "or")]] else[])=(if j=0 then([]:List Ln) else[uw K]).map fk:=by
     by_cases z:j=0
     ·subst z;rfl
     ·rw[Si (Tb (by lia)),Sv z];rfl
    rw[e1,<-Su];have hO:(if j=0 then([]:List Ln) else[uw K]).length<=1:=by split <;> simp
    generalize hOO:(if j=0 then([]:List Ln) else[uw K])=O at*;generalize hZ:(X++((K:Int),bK r)::Y)++O=Z at*;have hZl:Z.length<=20000:=by rw[<-hZ,Sn,Sn,Sf];lia
    nofun;obtain⟨_,e2,n2,g2,rfl,hg2,hat2⟩:=oI f t (K+1+(((af r).take j).map ao).sum) ((h++g')++[.lst (Z.map fk)]) (by have:=a9 htm;lia) (hsl t htm) (by lia);refine rv e2 ?_;have hat3:((h++g')++[.lst (Z.map fk)]++g2)[(h++g').length]?=some (.lst (Z.map fk)):=by
     rw[Sx (by simp)];simp
    nofun;refine wR ?_;nofun;refine⟨_,_,mX hat3,mX hat2,?_,?_⟩
    ·rw[R9,R9,show sizeLine=16777216 from rfl];lia
    rw[hst.1,<-TL (K+1)];refine⟨_,g'++[.lst (Z.map fk)]++g2++[.lst (Z.map fk++(dJ f (K+1+(((af r).take j).map ao).sum) t).map fk)],_,_,_,rfl,?_,((hgl'.app (GL.one Z)).app hg2).app (λo ho=>⟨Z++dJ f (K+1+(((af r).take j).map ao).sum) t,by rw[Sz.mp ho,Su]⟩),?_,?_⟩
    ·show h++g'++_++g2++_=_;simp only[SY]
    ·show h.length<=(h++g'++_++g2).length;simp only[Sn];lia
    rw[hst.2,sM,hY,Tp,SO,TJ (by have:=(Se.mp et).1;lia),hOO];rw[show X++((K:Int),bK r)::(Y++(O++dJ f (K+1+(((af r).take j).map ao).sum) t))=Z++dJ f (K+1+(((af r).take j).map ao).sum) t by rw[<-hZ];simp];rw[Su];simp
   ·rintro δ h' ⟨n',g',o8,o9,o10,rfl,rfl,hgl',hnl',hat'⟩;rw[cK,R9,TQ] at hat' ⊢;have hlen:=iW (iX f) K 0 (K+1) (af r);have h3:=FJ r;generalize hY:aU (dJ f) K 0 (K+1) (af r)=Y at*;nofun;obtain⟨v,hv,hrep⟩:=Bo (x:=.tup [.int (K:Int),.str (Str.ofString "end")]) (b:=decide (0 < ((af r).length:Int))) (h:=h++g');refine wR ?_;nofun;rw[R9];refine rv hv (rv hrep ⟨_,_,mX hat',rfl,?_,?_⟩)
    ·rw[R9,Sn,Sf,show sizeLine=16777216 from rfl]
     split <;> simp <;> lia
    have e1:(if decide (0 < ((af r).length:Int))=true then[D.tup [.int (K:Int),.str (Str.ofString "end")]] else[])=(if af r=[] then([]:List Ln) else[gE K]).map fk:=by
     cases af r with
     | nil=>rfl
     | cons y q=>rw[Si (Tb (by simp)),Sv (by simp)];rfl
    rw[e1,<-Su];nofun;rw[show k+ao (l.take (i+1))=K+1+((af r).map ao).sum by lia];refine⟨_,g'++[_],_,_,_,_,_,_,_,rfl,SY _ _ _,hgl'.app (GL.one _),?_,?_⟩
    ·show h.length<=(h++g').length;simp only[Sn];lia
    ·rw[ht1,sL,hX,hK,cp,hY,<-SY h g'];simp
  ·rintro δ h' ⟨n,g,o4,o5,o6,o7,o8,o9,o10,rfl,rfl,hgl,hnl,hat⟩;nofun;rw[R9,TQ] at hat ⊢;exact⟨n,g,rfl,hgl,hat⟩
end Mi
namespace Pg
open PySem Sm L2
noncomputable def bj(d:b9):Str:=Str.join (Str.ofString " ") (Str.ofString "deed"::d.1::d.2.1)
noncomputable def jg(x:Str):Ln:=(-1,x)
noncomputable def aS(f:Nat):Nat->List b9->List Ln
 | _,[]=>[]
 | k,d::ds=>jg (bj d)::(dJ f k d.2.2++(jg (Str.ofString "end")::aS f (k+ao d.2.2) ds))
noncomputable def uE(P:Prog):List Ln:=jg (Str.join (Str.ofString " ") (Str.ofString "locks"::P.names))::aS 8 0 P.ai
structure Ka(P:Prog):Prop where
 fit:Jq P
 dl:P.ai.length<=6
 nl:P.names.length<=6
 nm:∀x∈P.names,Sh 8 x
 dd:∀d∈P.ai,Sh 8 d.1/\d.2.1.length<=3/\(∀x∈d.2.1,Sh 8 x)/\xV 8 d.2.2
 ct:(P.ai.map λd=>ao d.2.2).sum<=900
noncomputable def br(ds:List b9):Nat:=(ds.map λd=>ao d.2.2).sum
theorem pS(f:Nat)(d:b9):∀(k:Nat)(x:List b9),aS f k (x++[d])=aS f k x++(jg (bj d)::(dJ f (k+br x) d.2.2++[jg (Str.ofString "end")]))
 | k,[]=>by simp[aS,br]
 | k,y::x=>by
  rw[Ta,aS,aS,pS f d (k+ao y.2.2) x];simp[br,TL]
theorem AQ{d:b9}(h:Sh 8 d.1)(hl:d.2.1.length<=3)(hp:∀x∈d.2.1,Sh 8 x):Sh 100 (bj d):=by
 refine(Sh.join (n:=8) iG λx hx=>?_).up (by simp only[Sf];lia);rcases Sr.mp hx with rfl | hx
 ·exact⟨by decide+kernel,by decide+kernel⟩
 ·rcases Sr.mp hx with rfl | hx
  ·exact h
  ·exact hp x hx
theorem gU(f:Nat):∀(k:Nat)(x:List b9),(aS f k x).length<=5*br x+2*x.length
 | k,[]=>by simp[aS]
 | k,y::x=>by
  have h1:=Mi.iX f k y.2.2;have h2:=gU f (k+ao y.2.2) x;rw[aS,Sf,Sn,Sf,Sf];simp only[br,Sl,Ts] at h2 ⊢
  lia
end Pg
namespace Mi
open PySem Sm L2 Pg
theorem oJ{H g:MH}{d:D}(h1:∀n,d≠.ob n)(h2:hV H.length d=true):leave H d (H++g)=some (d,H):=by
 have h3:zP H.length (H++g) d=d:=by
  cases d with
  | ob n=>exact absurd rfl (h1 n)
  | _=>rfl
 unfold leave;rw[h3,Vw (Sj _),TQ,h2,vR];rfl
theorem Gz(n:Nat):∀xs:List Ln,fJ n (xs.map fk)=true
 | []=>rfl
 | x::r=>by rw[Sl];show(true&&true&&fJ n _)=true;rw[Gz n r];rfl
theorem fH{xs ys:List D}{d:D}{h:MH}(e:dR d h=some ys)(hl:xs.length+ys.length<=1000000):aw (.lv xs) d h=some (.lv (xs++ys),h):=by
 unfold aw uI;cases d <;> first |(cases e;done) | skip
 all_goals
  simp only[dR,Td] at e ⊢
  first
   |(rw[e];dsimp only[Option.bind_some];rw[Si (by rw[show sizeLine=16777216 from rfl];lia)])
   |(cases e;rw[Si (by rw[show sizeLine=16777216 from rfl];lia)])
theorem yW{P:Prog}(hP:Ka P)(h:MH):gf [bC P] h=some (.lv ((uE P).map fk),h):=by
 have dl:=hP.dl;have nl:=hP.nl;have ct:=hP.ct;have hj:∀(x:Str)(ys:List Str)(H:MH),x.length<=8->ys.length<=6->(∀y∈ys,Sh 8 y)->pQ (.str " ") [.tup ((x::ys).map D.str)] H=some (.str (Str.join (Str.ofString " ") (x::ys)),H):=λx ys H hx hl hy=>by
  refine oK (ws:=[]) (λz hz=>?_) (by simp;lia) rfl;rcases Sr.mp hz with rfl | hz
  ·lia
  ·have:=(hy z hz).1;lia
 refine cg (pE ?_);nofun;refine kE ?_;nofun;refine⟨rfl,?_⟩;nofun;refine rv (a:=(.tup (P.names.map D.str),h)) rfl ?_;refine rv (td (by simp;lia)) ?_;nofun;refine rv (hj (Str.ofString "locks") P.names h (by decide+kernel) nl hP.nm) ?_;nofun;refine⟨_,_,rfl,?_⟩;nofun;refine fP ?_;nofun;refine rv (a:=(.tup (P.ai.map dC),h)) rfl ?_;refine⟨_,_,rfl,?_⟩;refine cZ (λi δ h'=>∃(g:MH)(o3 o4 o5 o6:Option D),δ=[some (bC P),some (.lv ((jg (Str.join (Str.ofString " ") (Str.ofString "locks"::P.names))::aS 8 0 (P.ai.take i)).map fk)),some (.int ((br (P.ai.take i):Nat):Int)),o3,o4,o5,o6]/\h'=h++g)
  ⟨[],_,_,_,_,rfl,by simp⟩ (λ_ _ _ _ _=>rfl) ?_ ?_
 ·rintro i x δ h' hx ⟨g,o3,o4,o5,o6,rfl,rfl⟩;rw[SK] at hx;obtain⟨d,ed,rfl⟩:=SR.mp hx;obtain⟨s1,s2,s3,s4⟩:=hP.dd d (Sd ed);have nd:=hP.fit.nd d (Sd ed);have htk:P.ai.take (i+1)=P.ai.take i++[d]:=by rw[Vo,ed];rfl
  have hc1:br (P.ai.take (i+1))=br (P.ai.take i)+ao d.2.2:=by rw[htk];simp[br]
  have hcl:br (P.ai.take (i+1))<=900:=by
   have:=congrArg br (TV (i+1) P.ai);simp only[br,Su,UH] at this ⊢
   lia
  have hlen:=gU 8 0 (P.ai.take i);have hli:=iX 8 (br (P.ai.take i)) d.2.2;have htl:(P.ai.take i).length<=6:=by rw[SO];lia
  generalize hL:jg (Str.join (Str.ofString " ") (Str.ofString "locks"::P.names))::aS 8 0 (P.ai.take i)=L;have hLl:L.length<=6000:=by rw[<-hL,Sf];lia
  generalize hK:br (P.ai.take i)=K at*;obtain⟨nm,ps,rows⟩:=d;dsimp only at s1 s2 s3 s4 nd hc1 hli;show Rn (gT 3 _ (.tup [.str nm,.tup (ps.map D.str),.tup (cx rows)]) _ _) _;nofun;obtain⟨_,e2,n2,g2,rfl,_,hat2⟩:=oI 8 rows K (h++g) (by lia) s4 (by lia);refine rv e2 ?_;nofun;refine kE ?_;nofun;refine⟨rfl,?_⟩;nofun;refine rv (td (by simp;lia)) ?_;nofun;refine rv (hj (Str.ofString "deed") (nm::ps) _ (by decide+kernel) (by simp;lia) (by intro y hy;rcases Sr.mp hy with rfl | hy;exact s1;exact s3 y hy)) ?_;nofun;refine rv (fH (ys:=[fk (jg (bj (nm,ps,rows)))]) rfl (by simp;lia)) ?_;nofun;refine rv (fH (mX hat2) (by simp;lia)) ?_;nofun;refine rv (fH (ys:=[fk (jg (Str.ofString "end"))]) rfl (by simp;lia)) ?_;nofun;rw[hc1,show jg (Str.join (Str.ofString " ") (Str.ofString "locks"::P.names))::aS 8 0 (P.ai.take (i+1))=L++[jg (bj (nm,ps,rows))]++dJ 8 K rows++[jg (Str.ofString "end")] by rw[htk,pS,<-hL,Tp,hK];simp];rw[Su,Su,Su];exact⟨g++g2,_,_,_,_,rfl,SY _ _ _⟩
 ·rintro δ h' ⟨g,o3,o4,o5,o6,rfl,rfl⟩;nofun;rw[R9,TQ];exact rv (oJ (λn z=>(nomatch z)) (Gz _ _)) rfl
end Mi
namespace Pg
open PySem Sm L2
noncomputable def fV(w:Str):Bool:=!((Str.ofString "say"==w)||(Str.ofString "call"==w))
noncomputable def eV(x:Str):Bool:=match Txt.split x (Str.ofString " ") with
 | w::_=>fV w
 | []=>true
noncomputable def runM:Nat->Nat->List Ln->Option (Nat×Nat)
 | d,n,[]=>some (d,n)
 | d,n,x::r=>if x.2=Str.ofString "or" then(if d=0 then none else runM d n r) else if x.2=Str.ofString "end" then(if d=0 then none else runM (d-1) n r) else runM (if eV x.2 then d+1 else d) (if d=0 then n else n+1) r
theorem ir:∀(a b:List Ln)(d n:Nat),runM d n (a++b)=(runM d n a).bind λp=>runM p.1 p.2 b
 | [],b,d,n=>rfl
 | x::a,b,d,n=>by
  rw[Ta,runM,runM]
  split
  ·split
   ·rfl
   ·exact ir a b d n
  ·split
   ·split
    ·rfl
    ·exact ir a b (d-1) n
   ·exact ir a b _ _
end Pg
namespace Mi
open PySem Sm L2 Pg
theorem x5(L:List Ln)(hl:L.length<=100000)(h:MH):gd [.lv (L.map fk)] h=some (.lv (L.map λx=>.str x.2),h):=by
 have e1:cI [none,none] (dm (ay 0)) g2 cz (ay 1) (entry 1 [.lv (L.map fk)]) h=some (L.map λx=>.str x.2,h):=
  DC (o:=none) (o2:=none) (t:=[]) (λx:Ln=>.int x.1) (λx=>.str x.2) (λx=>.str x.2) (d:=.lv (L.map fk)) rfl rfl rfl hl λx _=>rfl
 exact cg (bU (yr (yt (rv e1 rfl))))
theorem BN{n:Nat}(hn:0 < n):sQ n (-1)=some (n-1):=by
 unfold sQ;rw[Sv (by decide),Si (by lia)];congr 1
 lia
theorem KA{a:D}{xs:List D}{h:MH}:fT (.lv (a::xs)) (some 1) none h=some (.lv xs,h):=by
 show some (D.lv (cutD (a::xs) (some ((1:Nat):Int)) none),h)=_;unfold cutD;rw[HT.iq,HT.gM,TJ (by simp)];simp
theorem CL(w:Str)(h:MH):oO (.str w) (.tup [.str "say",.str "call"]) h=some (.bl (fV w),h):=by
 have h1:∀x:Str,PyData.eqv (.str x) (.str w)=(x==w):=λx=>by simp[PyData.eqv]
 show some (D.bl (!(([PyData.str (Str.ofString "say"),PyData.str (Str.ofString "call")]).any λb=>PyData.eqv b (.str w))),h)=_;simp only[U1,List.any_nil,h1,Bool.or_false];rfl
end Mi
namespace Pg
open PySem Sm L2
noncomputable def IP(x:Ln):Bool:=decide (0<=x.1)&&!((Str.ofString "or"==x.2)||(Str.ofString "end"==x.2))
noncomputable def sV(L:List Ln):List Int:=(L.filter IP).map (·.1)
theorem kr(a b:List Ln):sV (a++b)=sV a++sV b:=by unfold sV;rw[List.filter_append,Su]
noncomputable def zF(a b:Nat):List Int:=(List.range (b-a)).map λi=>((a+i:Nat):Int)
theorem mw(a:Nat):zF a a=[]:=by simp[zF]
theorem rO{a b:Nat}(h:a < b):zF a b=(a:Int)::zF (a+1) b:=by
 unfold zF;rw[show b-a=(b-(a+1))+1 by lia,List.range_succ_eq_map,Sl,TR];congr 1;refine Xh λi _=>?_;show((a+(i+1):Nat):Int)=((a+1+i:Nat):Int)
 lia
theorem wH{b c:Nat}(h2:b<=c):∀(j a:Nat),b-a=j->a<=b->zF a b++zF b c=zF a c
 | 0,a,e,h=>by rw[show a=b by lia,mw,TN]
 | j+1,a,e,h=>by
  rw[rO (show a < b by lia),rO (show a < c by lia),Ta,wH h2 j (a+1) (by lia) (by lia)]
theorem Ly(n:Nat):IP (uw n)=false:=by
 unfold IP uw;simp
theorem I0(n:Nat):IP (gE n)=false:=by
 unfold IP gE;simp
theorem Md(n:Nat):sV [uw n]=[]:=by unfold sV;rw[T9,Ly];rfl
theorem IL(n:Nat):sV [gE n]=[]:=by unfold sV;rw[T9,I0];rfl
structure Sg(N k c:Nat)(L:List Ln):Prop where
 nm:∀x∈L,x.1=(N:Int)\/((k:Int)<=x.1/\x.1 < k+c)
 hd:sV L=zF k (k+c)
 rn:∀d m,1<=d->runM d m L=some (d,m+c)
theorem Sg.nil{N k:Nat}:Sg N k 0 []:=⟨λx h=>(nomatch h),by rw[W5,mw];rfl,λd m _=>rfl⟩
theorem Sg.app{N k c c':Nat}{A B:List Ln}(a:Sg N k c A)(b:Sg N (k+c) c' B):Sg N k (c+c') (A++B):=by
 refine⟨λx hx=>?_,?_,λd m hd=>?_⟩
 ·rcases SF.mp hx with h | h
  ·have:=a.nm x h;lia
  ·have:=b.nm x h;lia
 ·rw[kr,a.hd,b.hd,<-TL];exact wH (by lia) _ _ rfl (by lia)
 ·rw[ir,a.rn d m hd];show runM d (m+c) B=_;rw[b.rn d _ hd,TL]
theorem Sg.or{N k:Nat}(n:Nat)(h:n=N):Sg N k 0 [uw n]:=by
 subst h;refine⟨λx hx=>.inl (by rw[Sz.mp hx];rfl),by rw[Md,W5,mw],λd m hd=>?_⟩;rw[runM,Si (show(uw n).2=Str.ofString "or" from rfl),Sv (by lia)];rfl
theorem Sg.mono{N N' k c:Nat}{L:List Ln}(a:Sg N k c L)(h:k<=N/\N < k+c):Sg N' k c L:=⟨λx hx=>by have:=a.nm x hx;lia,a.hd,a.rn⟩
theorem ke(r:Row):af r=[]↔fV (cu r)=false:=by
 have hw:∀w∈[Str.ofString "within",Str.ofString "all",Str.ofString "ask",Str.ofString "by",Str.ofString "either",Str.ofString "again"],fV w=true:=by decide+kernel
 have hw':∀w∈[Str.ofString "say",Str.ofString "call"],fV w=false:=by decide+kernel
 cases r <;> simp only[af,cu]
 case say=>simp[hw' (Str.ofString "say") (by simp)]
 case call=>simp[hw' (Str.ofString "call") (by simp)]
 case within=>simp[hw (Str.ofString "within") (by simp)]
 case all=>simp[hw (Str.ofString "all") (by simp)]
 case ask=>simp[hw (Str.ofString "ask") (by simp)]
 case lK=>simp[hw (Str.ofString "by") (by simp)]
 case either=>simp[hw (Str.ofString "either") (by simp)]
 case again=>simp[hw (Str.ofString "again") (by simp)]
theorem qH{g:Nat->List Row->List Ln}{N:Nat}:∀(x:List (List Row)) (j k:Nat),(∀k,∀t∈x,Sg N k (ao t) (g k t))->Sg N k (x.map ao).sum (aU g N j k x)
 | [],j,k,h=>Sg.nil
 | t::x,j,k,h=>by
  have h1:Sg N k 0 (if j=0 then[] else[uw N]):=by
   by_cases z:j=0
   ·rw[Si z];exact Sg.nil
   ·rw[Sv z];exact Sg.or N rfl
  have h2:=h1.app (h k t (.head _));rw[Tp] at h2;have h3:=h2.app (qH x (j+1) (k+ao t) λk u hu=>h k u (.tail _ hu));rw[aU,Sl,Ts];exact h3
theorem KG{g:Nat->List Row->List Ln}{k:Nat}{r:Row}(hr:xU r)(h:∀k',∀t∈af r,Sg k k' (ao t) (g k' t)):Sg k k (cnt r) (cp g k r):=by
 have hl:=qH (g:=g) (N:=k) (af r) 0 (k+1) h;obtain⟨n1,n2⟩:=BR r hr;have n1':bK r≠Str.ofString "or":=by intro e;rw[e,TC] at n1;cases n1
 have n2':bK r≠Str.ofString "end":=by intro e;rw[e,TC] at n2;cases n2
 have hop:eV (bK r)=fV (cu r):=by
  obtain⟨q,e⟩:=sT r hr;unfold eV;rw[e]
 have hc:=cN r;have hh:IP ((k:Int),bK r)=true:=by
  unfold IP;rw[Tb (by lia),Bool.true_and];have a1:(Str.ofString "or"==bK r)=false:=by rw[Vc];exact Um n1'
  have a2:(Str.ofString "end"==bK r)=false:=by rw[Vc];exact Um n2'
  dsimp only;rw[a1,a2];rfl
 unfold cp;refine⟨λx hx=>?_,?_,λd m hd=>?_⟩
 ·rcases Sr.mp hx with rfl | hx
  ·exact .inl rfl
  ·rcases SF.mp hx with hx | hx
   ·have:=hl.nm x hx;lia
   ·left
    split at hx
    ·cases hx
    ·rw[Sz.mp hx];rfl
 ·show sV ([((k:Int),bK r)]++(aU g k 0 (k+1) (af r)++(if af r=[] then[] else[gE k])))=_;rw[kr,kr,hl.hd];have e1:sV [((k:Int),bK r)]=[(k:Int)]:=by unfold sV;rw[T9,hh];rfl
  have e2:sV (if af r=[] then[] else[gE k])=[]:=by
   split
   ·rfl
   ·exact IL k
  rw[e1,e2,Tw,rO (show k < k+cnt r by lia),hc];rw[show k+1+((af r).map ao).sum=k+(1+((af r).map ao).sum) by lia];rfl
 ·rw[runM,Sv n1',Sv n2',Sv (show ¬d=0 by lia),hop,ir]
  by_cases z:af r=[]
  ·rw[Si z,(ke r).mp z,Sv (by simp),hl.rn d _ hd,z,hc,z];rfl
  ·have z1:fV (cu r)=true:=by
    cases e:fV (cu r) with
    | true=>rfl
    | false=>exact absurd ((ke r).mpr e) z
   rw[Sv z,z1,Si rfl,hl.rn (d+1) _ (by lia)];show runM (d+1) _ [gE k]=_;rw[runM,Sv (show ¬(gE k).2=Str.ofString "or" from by show ¬Str.ofString "end"=Str.ofString "or";decide+kernel),Si (show(gE k).2=Str.ofString "end" from rfl),Sv (by lia),hc];show some _=some _;congr 2
   lia
theorem Bl{g:Nat->List Row->List Ln}:∀(l:List Row)(k N:Nat),(∀r∈l,xU r)->(∀k' N',∀r∈l,∀t∈af r,Sg N' k' (ao t) (g k' t))->Sg N k (ao l) (a8 g k l)
 | [],k,N,_,_=>by rw[a8,show ao []=0 by simp[ao]];exact Sg.nil
 | r::rs,k,N,h1,h2=>by
  have hc:=cN r;have a:=(KG (g:=g) (k:=k) (h1 r (.head _)) λk' t ht=>h2 k' k r (.head _) t ht).mono (N':=N) ⟨Sj _,by lia⟩;have b:=Bl rs (k+cnt r) N (λr hr=>h1 r (.tail _ hr)) λk' N' r hr=>h2 k' N' r (.tail _ hr);rw[a8,show ao (r::rs)=cnt r+ao rs by simp[ao]];exact a.app b
theorem zY:∀(f:Nat)(l:List Row)(k N:Nat),aj l<=f->xV f l->Sg N k (ao l) (dJ f k l)
 | 0,l,k,N,hn,_=>by
  exfalso;cases l with
  | nil=>rw[aj] at hn;lia
  | cons r rs=>rw[aj] at hn;lia
 | f+1,l,k,N,hn,hs=>Bl l k N (λr hr=>(hs r hr).1) λk' N' r hr t ht=>zY f t k' N' (by have:=cm hr;have:=a9 ht;lia) ((hs r hr).2 t ht)
theorem cnt_pos'(r:Row):1<=cnt r:=by have:=cN r;lia
theorem FY(x:Str):sV [jg x]=[]:=by
 unfold sV;rw[T9,show IP (jg x)=false by unfold IP jg;rw[Tt (by show ¬(0:Int)<=-1;decide)];rfl];rfl
theorem Gq(d:b9)(m:Nat)(L:List Ln):runM 0 m (jg (bj d)::L)=runM 1 m L:=by
 obtain⟨rest,e⟩:=ko (Str.ofString "deed") (d.1::d.2.1) (by simp);have e':(bj d).cps.toList=(Str.ofString "deed").cps.toList++32::rest:=e;rw[show(Str.ofString "deed").cps.toList=[100,101,101,100] by decide+kernel] at e';have n1:bj d≠Str.ofString "or":=by intro z;rw[z,show(Str.ofString "or").cps.toList=[111,114] by decide+kernel] at e';cases e'
 have n2:bj d≠Str.ofString "end":=by intro z;rw[z,show(Str.ofString "end").cps.toList=[101,110,100] by decide+kernel] at e';cases e'
 obtain⟨q,hq⟩:=jn (x:=bj d) (w:=[100,101,101,100]) (by decide) (.inr e');have ho:eV (bj d)=true:=by unfold eV;rw[hq];show fV (JO [100,101,101,100])=true;decide+kernel
 rw[runM,Sv (show ¬(jg (bj d)).2=Str.ofString "or" from n1),Sv (show ¬(jg (bj d)).2=Str.ofString "end" from n2)];show runM (if eV (bj d)=true then 0+1 else 0) (if 0=0 then m else m+1) L=_;rw[ho];rfl
theorem IZ(d m:Nat)(L:List Ln):runM (d+1) m (jg (Str.ofString "end")::L)=runM d m L:=by
 rw[runM,Sv (show ¬(jg (Str.ofString "end")).2=Str.ofString "or" from by show ¬Str.ofString "end"=Str.ofString "or";decide+kernel),Si (show(jg (Str.ofString "end")).2=Str.ofString "end" from rfl),Sv (by lia)];rfl
def PX(d:b9):Prop:=aj d.2.2<=8/\xV 8 d.2.2
theorem du(d:b9)(ds:List b9):br (d::ds)=ao d.2.2+br ds:=by simp[br]
structure R6(k c:Nat)(L:List Ln):Prop where
 nm:∀x∈L,x.1=-1\/((k:Int)<=x.1/\x.1 < k+c)
 hd:sV L=zF k (k+c)
 rn:∀m,runM 0 m L=some (0,m+c)
theorem KH:∀(ds:List b9)(k:Nat),(∀d∈ds,PX d)->R6 k (br ds) (aS 8 k ds)
 | [],k,_=>⟨λx h=>(nomatch h),by show _=zF k (k+0);rw[W5,mw];rfl,λm=>rfl⟩
 | d::ds,k,h=>by
  have a:=zY 8 d.2.2 k 0 (h d (.head _)).1 (h d (.head _)).2;have a':=λN=>zY 8 d.2.2 k N (h d (.head _)).1 (h d (.head _)).2;have b:=KH ds (k+ao d.2.2) λd hd=>h d (.tail _ hd);rw[aS,du];refine⟨λx hx=>?_,?_,λm=>?_⟩
  ·rcases Sr.mp hx with rfl | hx
   ·exact .inl rfl
   ·rcases SF.mp hx with z | z
    ·have:=(a' (k+ao d.2.2+1)).nm x z;have:=(a' (k+ao d.2.2+2)).nm x z
     lia
    ·rcases Sr.mp z with rfl | z
     ·exact .inl rfl
     ·have:=b.nm x z;lia
  ·show sV ([jg (bj d)]++(dJ 8 k d.2.2++([jg (Str.ofString "end")]++aS 8 (k+ao d.2.2) ds)))=_;rw[kr,kr,kr,FY,FY,a.hd,b.hd,TN,TN,<-TL];exact wH (by lia) _ _ rfl (by lia)
  ·rw[Gq,ir,a.rn 1 m (Sj _)];show runM (0+1) _ (jg _::_)=_;rw[IZ,b.rn,TL]
end Pg
namespace Sm
open PySem L2
theorem vI{α:Type}{c:TM}{e:EM}{h:MH}{t:DS}(A B f:α->D)(p:α->Bool):∀(xs:List α)(o o2:Option D),(∀x∈xs,c (some (A x)::some (B x)::t) h=some (p x,h))->(∀x∈xs,p x=true->e (some (A x)::some (B x)::t) h=some (f x,h))->bV [] g2 c e (xs.map λx=>.tup [A x,B x]) (o::o2::t) h=some ((xs.filter p).map f,h)
 | [],o,o2,_,_=>rfl
 | x::r,o,o2,hc,he=>by
  have e2:=vI A B f p r (some (A x)) (some (B x)) (λy hy=>hc y (Sq _ hy)) λy hy=>he y (Sq _ hy);show((c (some (A x)::some (B x)::t) h).bind λq=>if q.1=true then(e (some (A x)::some (B x)::t) q.2).bind λy=>(bV [] g2 c e (r.map λx=>.tup [A x,B x]) (some (A x)::some (B x)::t) y.2).map λz=>(y.1::z.1,z.2) else bV [] g2 c e (r.map λx=>.tup [A x,B x]) (some (A x)::some (B x)::t) q.2)=_;rw[hc x Sk];dsimp only[Option.bind_some]
  by_cases z:p x=true
  ·rw[Si z,he x Sk z];dsimp only[Option.bind_some];rw[e2,T9,Si z];rfl
  ·rw[Sv z,e2,T9,Sv z]
end Sm
namespace Mi
open PySem Sm L2 Pg
end Mi
namespace Pg
open PySem Sm L2
end Pg
namespace Mi
open PySem Sm L2 Pg
end Mi
namespace Pg
open PySem Sm L2
noncomputable def dX(p:List Nat×Nat×Nat×Nat)(x:Ln):Option (List Nat×Nat×Nat×Nat):=if x.2=Str.ofString "or" then(match p.1 with | []=>none | _::t=>some (0::t,p.2)) else if x.2=Str.ofString "end" then(match p.1 with | []=>none | _::t=>some (t,p.2)) else some (match p.1 with
  | []=>(if eV x.2 then[0] else[],p.2.1,if eV x.2 then max p.2.2.1 1 else p.2.2.1,p.2.2.2)
  | c::t=>(if eV x.2 then 0::(c+1)::t else(c+1)::t,max p.2.1 (c+1),if eV x.2 then max p.2.2.1 (t.length+2) else p.2.2.1,p.2.2.2+1))
noncomputable def cY(p:List Nat×Nat×Nat×Nat):List Ln->Option (List Nat×Nat×Nat×Nat)
 | []=>some p
 | x::r=>(dX p x).bind λq=>cY q r
theorem fF:∀(a b:List Ln)(p:List Nat×Nat×Nat×Nat),cY p (a++b)=(cY p a).bind λq=>cY q b
 | [],b,p=>rfl
 | x::a,b,p=>by
  rw[Ta,cY,cY];cases dX p x with
  | none=>rfl
  | some q=>exact fF a b q
theorem EC(p:List Nat×Nat×Nat×Nat)(x:Ln):cY p [x]=dX p x:=by
 rw[cY];cases dX p x <;> rfl
theorem Ef{p q:List Nat×Nat×Nat×Nat}{x:Ln}(e:dX p x=some q):q.1.length<=p.1.length+1:=by
 obtain⟨cs,m⟩:=p;unfold dX at e
 split at e
 ·cases cs with
  | nil=>cases e
  | cons c t=>cases e;simp
 ·split at e
  ·cases cs with
   | nil=>cases e
   | cons c t=>cases e;simp;lia
  ·cases cs with
   | nil=>cases e;dsimp only;split <;> simp
   | cons c t=>cases e;dsimp only;split <;> simp
theorem Bm:∀(a:List Ln)(p q:List Nat×Nat×Nat×Nat),cY p a=some q->q.1.length<=p.1.length+a.length
 | [],p,q,e=>by cases e;exact Sj _
 | x::a,p,q,e=>by
  rw[cY] at e;rw[Sf];cases h:dX p x with
  | none=>rw[h] at e;cases e
  | some s=>
   rw[h] at e;have h1:=Ef h;have h2:=Bm a s q e
   lia
end Pg
namespace Mi
open PySem Sm L2 Pg
noncomputable def nI(n:Nat):D:=.int (n:Int)
theorem RX{xs:List D}{x:D}:sQ (xs++[x]).length (-1)=some xs.length:=by
 rw[BN (by simp),Sn];rfl
theorem Ry{xs:List D}{x:D}:gG (xs++[x]) (-1)=some x:=by
 unfold gG;rw[RX];simp
theorem Qv{xs:List D}{x z:D}:(xs++[x]).set xs.length z=xs++[z]:=by
 rw[U3 _ _ (Sj _),Va];rfl
theorem FG(a b:Nat):max (a:Int) (b:Int)=((max a b:Nat):Int):=by lia
theorem JD{t:List Nat}{c z:Nat}:((c::t).reverse.map nI).set t.length (nI z)=(z::t).reverse.map nI:=by
 rw[U4,U4,Su,Su];have:=Qv (xs:=t.reverse.map nI) (x:=nI c) (z:=nI z);rw[R9,Wg] at this;exact this
theorem OI{t:List Nat}{c:Nat}:sQ ((c::t).reverse.map nI).length (-1)=some t.length:=by
 rw[BN (by simp),R9,Wg];rfl
theorem Pb{t:List Nat}{c:Nat}:gG ((c::t).reverse.map nI) (-1)=some (nI c):=by
 rw[U4,Su];exact Ry
theorem yQ(x0:Ln)(L:List Ln)(hl:L.length<=10000)(hs:∀x∈L,Sh 1000 x.2)(ce:List Nat)(me de ne:Nat)(hr:cY ([],0,0,0) L=some (ce,me,de,ne))(h:MH):eR [.lv ((x0::L).map λx=>.str x.2)] h=some (.tup [.int (me:Int),.int (de:Int),.int (ne:Int)],h):=by
 have e:Rn (eR [.lv ((x0::L).map λx=>.str x.2)] h) λp=>p=(.tup [.int (me:Int),.int (de:Int),.int (ne:Int)],h):=by
  refine pE ?_;nofun;refine fP ?_;nofun;refine⟨_,rfl,?_⟩;nofun;refine rv KA ⟨_,_,rfl,?_⟩;refine cZ (λi δ h'=>∃(cs:List Nat)(m dp n:Nat)(o5 o6:Option D),δ=[some (.lv ((x0::L).map λx=>.str x.2)),some (.ob h.length),some (.int (m:Int)),some (.int (dp:Int)),some (.int (n:Int)),o5,o6]/\h'=h++[.lst (cs.reverse.map nI)]/\cY ([],0,0,0) (L.take i)=some (cs,m,dp,n))
   ⟨[],0,0,0,_,_,rfl,rfl,rfl⟩ (λ_ _ _ _ _=>rfl) ?_ ?_
  ·rintro i x δ h' hx ⟨cs,m,dp,n,o5,o6,rfl,rfl,hrun⟩;rw[SK] at hx;obtain⟨y,ey,rfl⟩:=SR.mp hx;have hy:=hs y (Sd ey);have hi:i < L.length:=(Se.mp ey).1;have htk:L.take (i+1)=L.take i++[y]:=by rw[Vo,ey];rfl
   have hle:=Bm _ _ _ hrun;replace hle:cs.length<=0+(L.take i).length:=hle;rw[SO] at hle;have hstep:∃p,dX (cs,m,dp,n) y=some p/\cY ([],0,0,0) (L.take (i+1))=some p:=by
    have h1:cY ([],0,0,0) (L.take (i+1))=dX (cs,m,dp,n) y:=by rw[htk,fF,hrun];exact EC _ _
    have h2:=fF (L.take (i+1)) (L.drop (i+1)) ([],0,0,0);rw[TV,hr] at h2;cases h3:cY ([],0,0,0) (L.take (i+1)) with
    | none=>rw[h3] at h2;cases h2
    | some p=>exact⟨p,by rw[<-h1,h3],rfl⟩
   obtain⟨p,hp,hp'⟩:=hstep;obtain⟨w,q,hsp⟩:∃w q,Txt.split y.2 (Str.ofString " ")=w::q:=by
    have:=W3 y.2 (Str.ofString " ");cases hh:Txt.split y.2 (Str.ofString " ") with
    | nil=>rw[hh] at this;simp at this
    | cons w q=>exact⟨w,q,rfl⟩
   have hop:eV y.2=fV w:=by unfold eV;rw[hsp]
   unfold dX at hp;have hat:=lG (H:=h) (a:=.lst (cs.reverse.map nI)) rfl;nofun;refine kE ?_;nofun;refine⟨rfl,?_⟩;nofun;refine rv (zW hy) ?_;rw[hsp];nofun;refine rv (show aT (.lv ((w::q).map D.str)) (.int ((0:Nat):Int)) _=_ from b8 (x:=w) rfl) ?_;nofun;refine⟨_,rfl,λz=>?_,λz=>?_⟩
   ·have z:=eq_of_beq z;rw[Si z] at hp;cases cs with
    | nil=>cases hp
    | cons c t=>
    cases hp;nofun;refine rv (ni hat OI) ?_;rw[zZ rfl,show D.int 0=nI 0 from rfl,JD];nofun;exact⟨_,m,dp,n,_,_,rfl,rfl,hp'⟩
   ·have z0:y.2≠Str.ofString "or":=by intro e;rw[e,TC] at z;cases z
    rw[Sv z0] at hp;nofun;refine⟨_,rfl,λz=>?_,λz=>?_⟩
    ·have z:=eq_of_beq z;rw[Si z] at hp;cases cs with
     | nil=>cases hp
     | cons c t=>
     cases hp;nofun;refine kE ?_;nofun;refine⟨dB hat,?_⟩;nofun;refine rv (a:=(nI c,h++[.lst (t.reverse.map nI)])) ?_ ?_
     ·unfold Iy;dsimp only;rw[hat];dsimp only;rw[U4,Su,show([c].map nI)=[nI c] from rfl,Sn,show(t.reverse.map nI).length+[nI c].length-1=(t.reverse.map nI).length from rfl,SD (Sj _),Va,List.dropLast_concat];simp only[List.getElem?_cons_zero,Tj];rw[zZ rfl]
     ·nofun;exact⟨_,m,dp,n,_,_,rfl,rfl,hp'⟩
    ·have z1:y.2≠Str.ofString "end":=by intro e;rw[e,TC] at z;cases z
     rw[Sv z1,hop] at hp;refine eT (Rn.imp (Q:=λr=>∃(cs':List Nat)(m' n':Nat),r=(Fl.nx,[some (.lv ((x0::L).map λx=>.str x.2)),some (.ob h.length),some (.int (m':Int)),some (.int (dp:Int)),some (.int (n':Int)),some (.str y.2),some (.str w)],h++[.lst (cs'.reverse.map nI)])/\cs'.length=cs.length/\p=(if fV w=true then 0::cs' else cs',m',if fV w=true then max dp (cs'.length+1) else dp,n')) ?_ ?_)
     ·nofun;have hatI:(h++[MO.lst (cs.reverse.map nI)])[h.length]?=some (.lst ((cs.reverse.map λn:Nat=>(n:Int)).map D.int)):=by rw[TR];exact hat
      refine rv (vE hatI) ⟨_,rfl,λz=>?_,λz=>?_⟩
      ·cases cs with
       | nil=>cases z
       | cons c t=>
       nofun;refine rv (hU hat Pb) ?_;nofun;refine rv (a:=(nI (c+1),h++[MO.lst ((c::t).reverse.map nI)])) rfl ?_;nofun;refine rv (ni hat OI) ?_;rw[zZ rfl,JD];have hat2:=lG (H:=h) (a:=.lst (((c+1)::t).reverse.map nI)) rfl;nofun;refine rv (hU hat2 Pb) ?_;nofun;refine rv (a:=(.int ((max m (c+1):Nat):Int),h++[MO.lst (((c+1)::t).reverse.map nI)])) (by rw[<-FG];exact iZ _ _ _) ?_;nofun;refine⟨_,_,rfl,?_⟩;refine⟨(c+1)::t,max m (c+1),n+1,rfl,rfl,?_⟩;cases hp;rfl
      ·have hc:cs=[]:=by
        cases cs with
        | nil=>rfl
        | cons c t=>rw[U4,Su] at z;simp at z
       subst hc;nofun;refine⟨[],m,n,rfl,rfl,?_⟩;cases hp;rfl
     ·rintro _ ⟨cs',m',n',rfl,hl',rfl⟩;have hat':=lG (H:=h) (a:=.lst (cs'.reverse.map nI)) rfl;show Rn _ _;nofun;refine rv (CL w _) ?_;nofun;refine⟨_,rfl,λz=>?_,λz=>?_⟩
      ·rw[Si z] at hp';nofun;refine kE ?_;nofun;refine⟨dB hat',?_⟩;nofun;refine rv (dQ hat' (by rw[R9,Wg,show sizeLine=16777216 from rfl];lia)) ?_;rw[zZ rfl];have hat3:=lG (H:=h) (a:=.lst (cs'.reverse.map nI++[D.int 0])) rfl;nofun;refine rv (xw hat3) ?_;nofun;refine rv (a:=(.int ((max dp (cs'.length+1):Nat):Int),h++[MO.lst (cs'.reverse.map nI++[D.int 0])])) (by rw[<-FG,iZ,show(cs'.reverse.map nI++[D.int 0]).length=cs'.length+1 by simp]) ?_;rw[Si z] at hp';exact⟨0::cs',m',_,_,_,_,rfl,by rw[U4,Su];rfl,hp'⟩
      ·rw[Sv (by rw[z];simp),Sv (by rw[z];simp)] at hp';nofun;exact⟨cs',m',dp,_,_,_,rfl,rfl,hp'⟩
  ·rintro δ h' ⟨cs,m,dp,n,o5,o6,rfl,rfl,hrun⟩;rw[R9,TQ,hr] at hrun;cases hrun;nofun;exact rv (oJ (λn z=>(nomatch z)) rfl) rfl
 obtain⟨p,e1,rfl⟩:=e;exact e1
end Mi
namespace Pg
open PySem Sm L2
theorem Ct{r:Row}(hr:xU r)(k:Int)(c m dp n:Nat)(T:List Nat):dX (c::T,m,dp,n) (k,bK r)=some (if af r=[] then(c+1)::T else 0::(c+1)::T,max m (c+1),if af r=[] then dp else max dp (T.length+2),n+1):=by
 obtain⟨n1,n2⟩:=BR r hr;have n1':bK r≠Str.ofString "or":=by intro e;rw[e,TC] at n1;cases n1
 have n2':bK r≠Str.ofString "end":=by intro e;rw[e,TC] at n2;cases n2
 have hop:eV (bK r)=fV (cu r):=by
  obtain⟨q,e⟩:=sT r hr;unfold eV;rw[e]
 unfold dX;dsimp only;rw[Sv n1',Sv n2',hop]
 by_cases z:af r=[]
 ·rw[Si z,Si z,(ke r).mp z];rfl
 ·have:fV (cu r)=true:=by
   cases e:fV (cu r) with
   | true=>rfl
   | false=>exact absurd ((ke r).mpr e) z
  rw[Sv z,Sv z,this];rfl
theorem Ee(k c:Nat)(q:Nat×Nat×Nat)(T:List Nat):dX (c::T,q) (uw k)=some (0::T,q):=by
 unfold dX;rw[Si (show(uw k).2=Str.ofString "or" from rfl)]
theorem Cu(k c:Nat)(q:Nat×Nat×Nat)(T:List Nat):dX (c::T,q) (gE k)=some (T,q):=by
 unfold dX;rw[Sv (show ¬(gE k).2=Str.ofString "or" from by show ¬Str.ofString "end"=Str.ofString "or";decide+kernel),Si (show(gE k).2=Str.ofString "end" from rfl)]
theorem Dg{r:Row}{q s:Nat}(h:af r≠[]):(af r).foldl (λa t=>max a (q+aj t)) s=max s (q+aC r):=by
 cases r <;> simp only[af,aC,V4,List.foldl_nil] at h ⊢ <;> first | exact absurd rfl h | lia
theorem uW{g:Nat->List Row->List Ln}{n0:Nat}:∀(x:List (List Row)) (j k c0 m dp n:Nat) (T:List Nat),(j=0->c0=0)->T.length+1<=dp->(∀t∈x,∀k m dp n,T.length+1<=dp->∃m',cY (0::T,m,dp,n) (g k t)=some (t.length::T,m',max dp (T.length+aj t),n+ao t))->∃c' m',cY (c0::T,m,dp,n) (aU g n0 j k x)=some (c'::T,m',x.foldl (λa t=>max a (T.length+aj t)) dp,n+(x.map ao).sum)
 | [],j,k,c0,m,dp,n,T,_,_,_=>⟨c0,m,rfl⟩
 | t::x,j,k,c0,m,dp,n,T,hj,hd,h=>by
  obtain⟨m1,e1⟩:=h t (.head _) k m dp n hd;obtain⟨c',m',e2⟩:=uW (n0:=n0) x (j+1) (k+ao t) t.length m1 (max dp (T.length+aj t)) (n+ao t) T (λz=>absurd z (Nat.succ_ne_zero _)) (by lia) λu hu=>h u (.tail _ hu);refine⟨c',m',?_⟩;have e0:cY (c0::T,m,dp,n) (if j=0 then[] else[uw n0])=some (0::T,m,dp,n):=by
   by_cases z:j=0
   ·rw[Si z,hj z];rfl
   ·rw[Sv z,EC,Ee]
  rw[aU,SY,fF,e0];show cY (0::T,m,dp,n) (g k t++_)=_;rw[fF,e1];show cY _ _=_;rw[e2,Sl,Ts,V4,TL]
theorem Ez{f:Nat}{r:Row}(hr:xU r)(k c m dp n:Nat)(T:List Nat)(hd:T.length+1<=dp)(h:∀t∈af r,∀(T:List Nat) k m dp n,T.length+1<=dp->∃m',cY (0::T,m,dp,n) (dJ f k t)=some (t.length::T,m',max dp (T.length+aj t),n+ao t)):∃m',cY (c::T,m,dp,n) (cp (dJ f) k r)=some ((c+1)::T,m',max dp (T.length+1+aC r),n+cnt r):=by
 have hc:=cN r;unfold cp;rw[cY,Ct hr];show ∃m',cY _ _=_
 by_cases z:af r=[]
 ·have hn:aC r=0:=by
   rcases Mi.ly (r:=r) with⟨_,e⟩ |⟨⟨t,ht,_⟩,_⟩
   ·exact e
   ·rw[z] at ht;cases ht
  rw[Si z,Si z,Si z,z];rw[z] at hc;exact⟨max m (c+1),by rw[hn,hc,show max dp (T.length+1+0)=dp by lia];rfl⟩
 ·rw[Sv z,Sv z,Sv z];obtain⟨c',m',e⟩:=uW (n0:=k) (af r) 0 (k+1) 0 (max m (c+1)) (max dp (T.length+2)) (n+1) ((c+1)::T) (λ_=>rfl) (by rw[Sf];lia) λt ht k m dp n hd=>h t ht _ k m dp n hd;refine⟨m',?_⟩;rw[fF,e];show cY (c'::(c+1)::T,_) [gE k]=_;rw[EC,Cu,Sf,Dg z,hc];have:1<=aC r:=by
   obtain⟨t,ht⟩:=List.exists_mem_of_ne_nil _ z;have h1:=a9 ht;have:1<=aj t:=by cases t <;> rw[aj] <;> lia
   lia
  rw[show max (max dp (T.length+2)) (T.length+1+aC r)=max dp (T.length+1+aC r) by lia,TL n 1]
theorem uV{f:Nat}:∀(l:List Row)(k c m dp n:Nat)(T:List Nat),T.length+1<=dp->(∀r∈l,xU r)->(∀r∈l,∀t∈af r,∀(T:List Nat) k m dp n,T.length+1<=dp->∃m',cY (0::T,m,dp,n) (dJ f k t)=some (t.length::T,m',max dp (T.length+aj t),n+ao t))->∃m',cY (c::T,m,dp,n) (a8 (dJ f) k l)=some ((c+l.length)::T,m',max dp (T.length+aj l),n+ao l)
 | [],k,c,m,dp,n,T,hd,_,_=>⟨m,by rw[aj,UG hd,ao];rfl⟩
 | r::l,k,c,m,dp,n,T,hd,hs,h=>by
  obtain⟨m1,e1⟩:=Ez (hs r (.head _)) k c m dp n T hd (h r (.head _));obtain⟨m',e2⟩:=uV l (k+cnt r) (c+1) m1 (max dp (T.length+1+aC r)) (n+cnt r) T (by lia) (λx hx=>hs x (.tail _ hx)) λx hx=>h x (.tail _ hx);refine⟨m',?_⟩;rw[a8,fF,e1];show cY ((c+1)::T,_) _=_;rw[e2,Sf,aj,ao,show c+1+l.length=c+(l.length+1) by lia,TL n,show max (max dp (T.length+1+aC r)) (T.length+aj l)=max dp (T.length+max (1+aC r) (aj l)) by lia]
theorem EA:∀(f:Nat)(l:List Row)(k m dp n:Nat)(T:List Nat),aj l<=f->xV f l->T.length+1<=dp->∃m',cY (0::T,m,dp,n) (dJ f k l)=some (l.length::T,m',max dp (T.length+aj l),n+ao l)
 | 0,l,k,m,dp,n,T,hn,_,_=>by
  have:1<=aj l:=by cases l <;> rw[aj] <;> lia
  lia
 | f+1,l,k,m,dp,n,T,hn,hs,hd=>by
  obtain⟨m',e⟩:=uV l k 0 m dp n T hd (λr hr=>(hs r hr).1) λr hr t ht T k m dp n hd=>EA f t k m dp n T (by have:=cm hr;have:=a9 ht;lia) ((hs r hr).2 t ht) hd;exact⟨m',by rw[Tp] at e;exact e⟩
theorem zV(d:b9)(m dp n:Nat):dX ([],m,dp,n) (jg (bj d))=some ([0],m,max dp 1,n):=by
 obtain⟨rest,e⟩:=ko (Str.ofString "deed") (d.1::d.2.1) (by simp);have e':(bj d).cps.toList=(Str.ofString "deed").cps.toList++32::rest:=e;rw[show(Str.ofString "deed").cps.toList=[100,101,101,100] by decide+kernel] at e';have n1:bj d≠Str.ofString "or":=by intro z;rw[z,show(Str.ofString "or").cps.toList=[111,114] by decide+kernel] at e';cases e'
 have n2:bj d≠Str.ofString "end":=by intro z;rw[z,show(Str.ofString "end").cps.toList=[101,110,100] by decide+kernel] at e';cases e'
 obtain⟨q,hq⟩:=jn (x:=bj d) (w:=[100,101,101,100]) (by decide) (.inr e');have ho:eV (bj d)=true:=by unfold eV;rw[hq];show fV (JO [100,101,101,100])=true;decide+kernel
 unfold dX;rw[Sv (show ¬(jg (bj d)).2=Str.ofString "or" from n1),Sv (show ¬(jg (bj d)).2=Str.ofString "end" from n2)];show some (if eV (bj d)=true then[0] else[],m,if eV (bj d)=true then max dp 1 else dp,n)=_;rw[ho];rfl
theorem zU(c:Nat)(q:Nat×Nat×Nat)(T:List Nat):dX (c::T,q) (jg (Str.ofString "end"))=some (T,q):=by
 unfold dX;rw[Sv (show ¬(jg (Str.ofString "end")).2=Str.ofString "or" from by show ¬Str.ofString "end"=Str.ofString "or";decide+kernel),Si (show(jg (Str.ofString "end")).2=Str.ofString "end" from rfl)]
noncomputable def zh(ds:List b9)(a:Nat):Nat:=ds.foldl (λa d=>max a (aj d.2.2)) a
theorem EB:∀(ds:List b9)(k m dp n:Nat),(∀d∈ds,PX d)->∃m',cY ([],m,dp,n) (aS 8 k ds)=some ([],m',zh ds dp,n+br ds)
 | [],k,m,dp,n,_=>⟨m,rfl⟩
 | d::ds,k,m,dp,n,h=>by
  obtain⟨m1,e1⟩:=EA 8 d.2.2 k m (max dp 1) n [] (h d (.head _)).1 (h d (.head _)).2 (by show 0+1<=max dp 1;lia);obtain⟨m',e2⟩:=EB ds (k+ao d.2.2) m1 (max dp (aj d.2.2)) (n+ao d.2.2) λx hx=>h x (.tail _ hx);refine⟨m',?_⟩;have hp:1<=aj d.2.2:=by generalize d.2.2=l;cases l <;> rw[aj] <;> lia
  rw[aS,cY,zV];show cY ([0],m,max dp 1,n) _=_;rw[fF,e1];show cY ([d.2.2.length],m1,max (max dp 1) (0+aj d.2.2),n+ao d.2.2) _=_;rw[cY,zU,show max (max dp 1) (0+aj d.2.2)=max dp (aj d.2.2) by lia];show cY ([],m1,max dp (aj d.2.2),n+ao d.2.2) _=_;rw[e2,du,TL];rfl
end Pg
namespace Mi
open PySem Sm L2 Pg
theorem Ae{a:SM}{b:XM}{δ:DS}{h:MH}{Q:Str×MH->Prop}(r:Rn (a δ h) λp=>p.1=.nx/\Rn (b p.2.1 p.2.2) Q):Rn (vZ a b δ h) Q:=ba (r.imp λp ⟨e,q⟩=>by
 obtain⟨f,δ',h'⟩:=p;obtain rfl:f=.nx:=e;exact q)
theorem JG{t:TM}{a b:XM}{δ:DS}{h:MH}{Q:Str×MH->Prop}(r:Rn (t δ h) λp=>(p.1=true->Rn (a δ p.2) Q)/\(p.1=false->Rn (b δ p.2) Q)):Rn (Hf t a b δ h) Q:=ba (r.imp λp ⟨q1,q2⟩=>by
 obtain⟨c,h⟩:=p;cases c with
 | true=>exact q1 rfl
 | false=>exact q2 rfl)
theorem N0{f:Xn}{m:AM}{δ:DS}{h:MH}{Q:Str×MH->Prop}(r:Rn (m δ h) λp=>Rn (f p.1 p.2) Q):Rn (Kj f m δ h) Q:=ba r
theorem yq{c:Str}{m:AM}{δ:DS}{h:MH}{Q:Str×MH->Prop}(r:Rn (m δ h) λp=>Q (c,p.2)):Rn (kX c m δ h) Q:=EE r
theorem EN{a b:XM}{δ:DS}{h:MH}{Q:Str×MH->Prop}(r:Rn (a δ h) Q):Rn (He a b δ h) Q:=by
 obtain⟨p,e,q⟩:=r;exact⟨p,by unfold He;rw[e],q⟩
theorem EL{a b:XM}{δ:DS}{h:MH}{Q:Str×MH->Prop}(n:a δ h=none)(r:Rn (b δ h) Q):Rn (He a b δ h) Q:=by
 obtain⟨p,e,q⟩:=r;exact⟨p,by unfold He;rw[n];exact e,q⟩
theorem N7{len:Nat}{b:XM}{ds:List D}{h:MH}{Q:Str×MH->Prop}(r:Rn (b (entry len ds) h) Q):Rn (OE len b ds h) Q:=r
theorem D7(h:MH):D8 uK "NoRow" h=some (.str "NoRow",h):=by
 have hx:(h++[MO.exc "NoRow"])[h.length]?=some (.exc "NoRow"):=by rw[SD (Sj _),Va];rfl
 have ei:∀(n:Str)(b:Bool)(δ:DS),decide (n∈(["NoRow","StuckError","ValueError"]:List Str))=b->δ[1]?=some (some (.ob h.length))->oS gz n (ay 1) δ (h++[MO.exc "NoRow"])=some (.bl b,h++[MO.exc "NoRow"]):=λn b δ hb hd=>by
  have e1:ay 1 δ (h++[MO.exc "NoRow"])=some (.ob h.length,h++[MO.exc "NoRow"]):=by unfold ay;rw[hd];rfl
  subst hb;unfold oS;rw[e1];show(match (h++[MO.exc "NoRow"])[h.length]? with | some (.exc c)=>(gz.lookup c).map λas=>(D.bl (decide (n∈as)),h++[MO.exc "NoRow"]) | _=>none)=_;rw[hx];have:gz.lookup ("NoRow":Str)=some (["NoRow","StuckError","ValueError"]:List Str):=by ac_nf
  show(gz.lookup ("NoRow":Str)).map _=_;rw[this];rfl
 have e:(uK [none,some (.ob h.length),none,none] (h++[.exc "NoRow"])).bind yj=some (.str "NoRow",h++[.exc "NoRow"]):=by
  refine cg (ba ?_);unfold uK;refine eT (rY (JH (oz (rZ (gj rfl (JI (rv rfl ⟨false,rfl,⟨λz=>(nomatch z),λ_=>?_⟩⟩)))))));refine wM (EO (rv (ei "ValueError" true _ (by decide+kernel) rfl) ⟨true,rfl,⟨λz=>(nomatch z),λ_=>rv rfl (q9 ?_)⟩⟩));refine eT (rv (a:=(.nx,[none,some (.ob h.length),none,some (.lv [.bl true,.bl false,.bl false])],h++[.exc "NoRow"])) (cg (Bu (yt (cJ (rv (ei "NoRow" true _ (by decide+kernel) rfl) (cJ (rv (ei "NoLock" false _ (by decide+kernel) rfl) (cJ (rv (ei "NoText" false _ (by decide+kernel) rfl) (jz rfl)))))))))) (q9 ?_));refine eT (rv (a:=(.nx,[none,some (.ob h.length),none,some (.lv [.bl true,.bl false,.bl false,.bl false,.bl false])],h++[.exc "NoRow"])) (cg (Bu (rZ (gj rfl (yt (cJ (rv (ei "NoLine" false _ (by decide+kernel) rfl) (cJ (rv (ei "NoStep" false _ (by decide+kernel) rfl) (jz (rv rfl rfl))))))))))) (q9 ?_));refine rv (a:=(.rt (.str "NoRow"),[none,some (.ob h.length),none,some (.lv [.bl true,.bl false,.bl false,.bl false,.bl false])],h++[.exc "NoRow"])) (by ac_nf) ?_;exact rv rfl rfl
 unfold D8;rw[e];exact oJ (λn=>by simp) rfl
theorem Dw{caps:List (Option Nat)}{x:XM}{m:EM}{δ:DS}{h:MH}(e:x (fK caps δ) h=some (("NoRow":Str),h)):fI tJ caps uK x m δ h=some (.str "NoRow",h):=by
 unfold fI;rw[e];show(if("NoRow":Str)∈tJ then _ else _)=_;rw[Si (by decide+kernel)];exact D7 h
noncomputable def flat(st:List (Nat×Nat)):List Nat:=st.flatMap λs=>[s.1,s.2]
noncomputable def EW(st:List (Nat×Nat))(k:Nat):D:=fU (flat st++[k])
noncomputable def QV(l:List Row)(s:Nat×Nat):Option (List Row):=(l[s.1]?).bind λr=>(af r)[s.2]?
noncomputable def jK(rows:List Row):List (Nat×Nat)->Option (List Row)
 | []=>some rows
 | s::r=>(QV rows s).bind λl=>jK l r
theorem F4(st:List (Nat×Nat)):(flat st).length=2*st.length:=by
 induction st with
 | nil=>rfl
 | cons s r ih=>show([s.1,s.2]++flat r).length=_;rw[Sn,ih];simp;lia
theorem nq{xs:List D}{i:Nat}{d:D}{h:MH}(e:xs[i]?=some d):aT (.tup xs) (.int (i:Int)) h=some (d,h):=by
 have q:gG xs (i:Int)=some d:=qT e;simp only[aT,eA,dP,Td,q,Tj]
theorem sZ{p:List Nat}{i x:Nat}{h:MH}(e:p[i]?=some x):aT (fU p) (.int (i:Int)) h=some (jI x,h):=
 nq (by rw[SK,e];rfl)
theorem IX{l:List Row}{i:Nat}{r:Row}{h:MH}(e:l[i]?=some r):aT (bM l) (jI i) h=some (aB r,h):=
 nq (by rw[bu,SK,e];rfl)
theorem Hb{a:SM}{b:XM}{δ δ':DS}{h h':MH}(e:a δ h=some (.nx,δ',h')):vZ a b δ h=b δ' h':=by unfold vZ;rw[e];rfl
theorem DV{t:TM}{a b:XM}{δ:DS}{h h':MH}{c:Bool}(e:t δ h=some (c,h')):Hf t a b δ h=if c=true then a δ h' else b δ h':=by unfold Hf;rw[e];rfl
section
variable {P:Prog} {n j:Nat} {path:List Nat} {r:Row} {h:MH}
theorem zr(hn:(placesFrom 0 P.ai)[n]?=some (j,path,r))(h:MH):gq Gb F9 (eK (D.int 0)) (ay 1) (ax cG (ag (ay 2) aL)) (List.set (entry 3 [bC P,D.int (n:Int)]) 2 (some (D.lv ((placesFrom 0 P.ai).map iV)))) h=some (.bl true,h):=by
 have hlt:n < (placesFrom 0 P.ai).length:=(Se.mp hn).1;refine cg (yu (rv rfl (rv (a:=(.int (n:Int),h)) rfl (rv rfl ⟨_,rfl,?_⟩))));rw[Si (Tb (show(0:Int)<=n by lia))];refine rv (a:=(.int ((placesFrom 0 P.ai).map iV).length,h)) rfl (rv rfl ?_);rw[R9];show(D.bl (decide ((n:Int) < (placesFrom 0 P.ai).length)),h)=_;rw[Tb (show(n:Int) < (placesFrom 0 P.ai).length by lia)]
theorem E9(hP:Jq P)(hn:(placesFrom 0 P.ai)[n]?=some (j,path,r))(h:MH):gw [bC P,.int (n:Int)] h=some (.tup [jI j,fU path,aB r],h):=by
 refine cg (bU ?_);nofun;refine rv (jB hP h) ?_;refine q9 (eT (rY (wM (oz (rv (zr hn h) ⟨true,rfl,?_⟩)))));refine⟨λz=>(nomatch z),λ_=>?_⟩;nofun;refine rv (b8 hn) ?_;nofun;rfl
theorem zK(hP:Jq P)(hn:(placesFrom 0 P.ai)[n]?=some (j,path,r))(h:MH):i8 [bC P,.int (n:Int)] h=none:=by
 have e1:aV 2 (ax cj (ag (ay 0) aL)) (entry 3 [bC P,.int (n:Int)]) h=some (.nx,List.set (entry 3 [bC P,D.int (n:Int)]) 2 (some (D.lv ((placesFrom 0 P.ai).map iV))),h):=by
  refine cg ?_;nofun;refine rv (jB hP h) ?_;rfl
 unfold i8 OE;rw[show([bC P,D.int (n:Int)]:List D)=[bC P,.int (n:Int)] from rfl];rw[Hb e1];have e2:Sm.jm (aJ (gq Gb F9 (eK (.int 0)) (ay 1) (ax cG (ag (ay 2) aL)))) (List.set (entry 3 [bC P,D.int (n:Int)]) 2 (some (D.lv ((placesFrom 0 P.ai).map iV)))) h=some (false,h):=cg (wM (oz (rv (zr hn h) ⟨true,rfl,rfl⟩)));rw[DV e2];rfl
end
end Mi
namespace Pg
open PySem Sm L2
noncomputable def bD:Row->Nat->List Row->Row
 | .within l _,0,x=>.within l x
 | .all l _,0,x=>.all l x
 | .ask l _ e,0,x=>.ask l x e
 | .ask l b _,1,x=>.ask l b x
 | .lK s t _ b c,0,x=>.lK s t x b c
 | .lK s t a _ c,1,x=>.lK s t a x c
 | .lK s t a b _,2,x=>.lK s t a b x
 | .either _ b,0,x=>.either x b
 | .either a _,1,x=>.either a x
 | .again _,0,x=>.again x
 | r,_,_=>r
end Pg
namespace Mi
open PySem Sm L2 Pg
noncomputable def putAt(k:Nat)(x:List Row):List (Nat×Nat)->List Row->List Row
 | [],l=>l.take k++x++l.drop (k+1)
 | s::st,l=>match l[s.1]? with
  | some r=>match (af r)[s.2]? with
   | some t=>l.take s.1++[bD r s.2 (putAt k x st t)]++l.drop (s.1+1)
   | none=>l
  | none=>l
theorem JC{xs:List D}{k:Nat}{h:MH}(hk:k<=xs.length):fT (.tup xs) none (some (k:Int)) h=some (.tup (xs.take k),h):=by
 unfold fT cutD;dsimp only;rw[HT.iq,HT.gM,TJ hk,Wa,W4]
 split
 ·rename_i z;rw[Us (Wr z.2.symm)]
 ·rfl
theorem wx{xs:List D}{k:Nat}{h:MH}(hk:k<=xs.length):fT (.tup xs) (some (k:Int)) none h=some (.tup (xs.drop k),h):=by
 unfold fT cutD;dsimp only;rw[HT.iq,HT.gM,TJ hk]
 split
 ·rename_i z;rw[z.1,Wa]
 ·rw[Us (by rw[Uh];exact Sj _)]
theorem Hz{r:Row}{j:Nat}{t:List Row}(e:(af r)[j]?=some t)(x:List Row):∃(a q:Int)(A B:List D),eX.lookup (cu r)=some [a,q]/\
  (∀h,fT (aB r) none (some (a+(j:Int))) h=some (.tup A,h))/\(∀h,aT (aB r) (.int (a+(j:Int))) h=some (bM t,h))/\(∀h,fT (aB r) (some (a+(j:Int)+1)) none h=some (.tup B,h))/\aB (bD r j x)=.tup (A++[bM x]++B)/\A.length<=10/\B.length<=10:=by
 cases r with
 | say w=>cases e
 | call d ts=>cases e
 | within l b=>match j,e with | 0,e=>cases e;exact⟨2,1,[.str "within",aF l],[],by ac_nf,λh=>by rw[aB];rfl,λh=>by rw[aB];rfl,λh=>by rw[aB];rfl,by rw[bD,aB];rfl,by show 2<=10;decide,by decide⟩
 | all l b=>match j,e with | 0,e=>cases e;exact⟨2,1,[.str "all",.tup (l.map aF)],[],by ac_nf,λh=>by rw[aB];rfl,λh=>by rw[aB];rfl,λh=>by rw[aB];rfl,by rw[bD,aB];rfl,by show 2<=10;decide,by decide⟩
 | ask l b c=>match j,e with
  | 0,e=>cases e;exact⟨2,2,[.str "ask",aF l],[bM c],by ac_nf,λh=>by rw[aB];rfl,λh=>by rw[aB];rfl,λh=>by rw[aB];rfl,by rw[bD,aB];rfl,by show 2<=10;decide,by show 1<=10;decide⟩
  | 1,e=>cases e;exact⟨2,2,[.str "ask",aF l,bM b],[],by ac_nf,λh=>by rw[aB];rfl,λh=>by rw[aB];rfl,λh=>by rw[aB];rfl,by rw[bD,aB];rfl,by show 3<=10;decide,by decide⟩
 | lK s u a b c=>match j,e with
  | 0,e=>cases e;exact⟨3,3,[.str "by",bo s,bo u],[bM b,bM c],by ac_nf,λh=>by rw[aB];rfl,λh=>by rw[aB];rfl,λh=>by rw[aB];rfl,by rw[bD,aB];rfl,by show 3<=10;decide,by show 2<=10;decide⟩
  | 1,e=>cases e;exact⟨3,3,[.str "by",bo s,bo u,bM a],[bM c],by ac_nf,λh=>by rw[aB];rfl,λh=>by rw[aB];rfl,λh=>by rw[aB];rfl,by rw[bD,aB];rfl,by show 4<=10;decide,by show 1<=10;decide⟩
  | 2,e=>cases e;exact⟨3,3,[.str "by",bo s,bo u,bM a,bM b],[],by ac_nf,λh=>by rw[aB];rfl,λh=>by rw[aB];rfl,λh=>by rw[aB];rfl,by rw[bD,aB];rfl,by show 5<=10;decide,by decide⟩
 | either a b=>match j,e with
  | 0,e=>cases e;exact⟨1,2,[.str "either"],[bM b],by ac_nf,λh=>by rw[aB];rfl,λh=>by rw[aB];rfl,λh=>by rw[aB];rfl,by rw[bD,aB];rfl,by decide,by show 1<=10;decide⟩
  | 1,e=>cases e;exact⟨1,2,[.str "either",bM a],[],by ac_nf,λh=>by rw[aB];rfl,λh=>by rw[aB];rfl,λh=>by rw[aB];rfl,by rw[bD,aB];rfl,by show 2<=10;decide,by decide⟩
 | again a=>match j,e with | 0,e=>cases e;exact⟨1,1,[.str "again"],[],by ac_nf,λh=>by rw[aB];rfl,λh=>by rw[aB];rfl,λh=>by rw[aB];rfl,by rw[bD,aB];rfl,by decide,by decide⟩
theorem sO{a:Nat}:∀{xs:List Nat},a∈xs->a<=xs.sum
 | x::r,h=>by
  rw[Ts];rcases Sr.mp h with rfl | h
  ·exact S9 _ _
  ·exact Sw (sO h) (WB _ _)
theorem zo{l:List Row}{i j:Nat}{r:Row}{t:List Row}(e1:l[i]?=some r)(e2:(af r)[j]?=some t):ao t<=ao l:=by
 have h1:=nz l (i+1);rw[(vJ e1).1] at h1;have h2:=cN r;have h3:ao t<=((af r).map ao).sum:=sO (UN (Sd e2))
 lia
theorem mZ(l:List Row):(cx l).length=l.length:=by rw[bu,R9]
theorem si{p:List Nat}{h:MH}:cG [fU p] h=some (.int (p.length:Int),h):=by
 show some (D.int ((p.map jI).length:Int),h)=_;rw[R9]
theorem FK{l:List Row}{k:Nat}{h:MH}(hk:k<=l.length):fT (bM l) none (some (k:Int)) h=some (bM (l.take k),h):=by
 unfold bM;rw[JC (by rw[mZ];exact hk),bu,bu,Vu]
theorem yS{l:List Row}{k:Nat}{h:MH}(hk:k<=l.length):fT (bM l) (some (k:Int)) none h=some (bM (l.drop k),h):=by
 unfold bM;rw[wx (by rw[mZ];exact hk),bu,bu,VN]
theorem qM{a b:List Row}{h:MH}(hl:a.length+b.length<=10000):aw (bM a) (bM b) h=some (bM (a++b),h):=by
 unfold bM;rw[td (by rw[mZ,mZ];exact hl),bu,bu,bu,Su]
theorem Ak{a b:Nat}{p:List Nat}{h:MH}:fT (fU (a::b::p)) (some 2) none h=some (fU p,h):=wx (xs:=jI a::jI b::p.map jI) (k:=2) (by simp)
theorem kR{k:Nat}{x:List Row}(hx:x.length<=1000):∀(st:List (Nat×Nat)) (f:Nat) (l lot:List Row) (h:MH),jK l st=some lot->st.length < f->k < lot.length->ao l<=1000->dW f [bM l,EW st k,bM x] h=some (bM (putAt k x st l),h)
 | [],f,l,lot,h,e,hf,hk,hc=>by
  cases e;cases f with
  | zero=>exact absurd hf (Nat.not_lt_zero _)
  | succ f=>
  have hl:=nA l;rw[dW];refine cg (bU ?_);nofun;refine rv (sZ (p:=flat []++[k]) (i:=0) rfl) ?_;nofun;refine rv (si (p:=flat []++[k])) ?_;nofun;refine⟨false,rfl,λz=>(nomatch z),λ_=>?_⟩;nofun;refine⟨_,rfl,rv (FK (UU hk)) ?_⟩;nofun;refine rv (qM (by rw[SO];lia)) ?_;nofun;refine rv (a:=(.int ((k+1:Nat):Int),h)) rfl ?_;nofun;refine⟨_,rfl,rv rfl (rv (yS hk) ?_)⟩;nofun;refine rv (qM (by rw[Sn,SO,Uh];lia)) ?_;nofun;rfl
 | s::st,f,l,lot,h,e,hf,hk,hc=>by
  obtain⟨t,e1,e2⟩:=bw e;obtain⟨r,e3,e4⟩:=bw e1;cases f with
  | zero=>exact absurd hf (Nat.not_lt_zero _)
  | succ f=>
  have hl:=nA l;have ht:=zo e3 e4;have hi:s.1 < l.length:=(Se.mp e3).1;have ih:=kR hx st f t lot h e2 (Nat.lt_of_succ_lt_succ hf) hk (Sw ht hc);have hput:putAt k x (s::st) l=l.take s.1++[bD r s.2 (putAt k x st t)]++l.drop (s.1+1):=by
   simp only[putAt,e3,e4]
  obtain⟨a,q,A,B,p1,p2,p3,p4,p5,p6,p7⟩:=Hz e4 (putAt k x st t);rw[dW,hput];refine cg (bU ?_);nofun;refine rv (sZ (p:=s.1::s.2::(flat st++[k])) (i:=0) rfl) ?_;nofun;refine rv (si (p:=s.1::s.2::(flat st++[k]))) ?_;nofun;refine⟨true,?_,λ_=>?_,λz=>(nomatch z)⟩
  ·show D.bl (decide ((1:Int) < ((s.1::s.2::(flat st++[k])).length:Int)))=_;rw[Tb (by simp only[Sf];lia)]
  nofun;refine rv (IX e3) ?_;nofun;refine rv (uY r h) ?_;nofun;refine rv (a:=(.tup [.int a,.int q],h)) (by show(eX.lookup (cu r)).map _=_;rw[p1];rfl) ?_;nofun;refine rv (sZ (p:=s.1::s.2::(flat st++[k])) (i:=1) rfl) ?_;nofun;refine rv (a:=(.int (a+(s.2:Int)),h)) rfl ?_;nofun;refine⟨_,rfl,rv (p2 h) ?_⟩;nofun;refine rv (p3 h) ?_;nofun;refine⟨_,rfl,rv rfl (rv (Ak (p:=flat st++[k])) ?_)⟩;nofun;refine rv ih ?_;nofun;refine rv (td (xs:=A) (ys:=[bM (putAt k x st t)]) (by simp;lia)) ?_;nofun;refine⟨_,rfl,rv rfl (rv (p4 h) ?_)⟩;nofun;refine rv (td (xs:=A++[bM (putAt k x st t)]) (ys:=B) (by simp;lia)) ?_;nofun;rw[show D.tup [D.tup (A++[bM (putAt k x st t)]++B)]=bM [bD r s.2 (putAt k x st t)] by rw[<-p5];unfold bM;rw[bu];rfl];refine⟨_,rfl,rv (FK (UU hi)) ?_⟩;nofun;refine rv (qM (b:=[bD r s.2 (putAt k x st t)]) (by rw[SO];simp;lia)) ?_;nofun;refine rv (a:=(.int ((s.1+1:Nat):Int),h)) rfl ?_;nofun;refine⟨_,rfl,rv rfl (rv (yS hi) ?_)⟩;nofun;refine rv (qM (by rw[Sn,SO,Uh];simp;lia)) ?_;nofun
noncomputable def gA(P:Prog)(j k:Nat)(x:List Row)(st:List (Nat×Nat))(d:b9):Prog:={P with ai:=P.ai.take j++[(d.1,d.2.1,putAt k x st d.2.2)]++P.ai.drop (j+1)}
theorem mH{P:Prog}{j k:Nat}{x lot:List Row}{st:List (Nat×Nat)}{d:b9}(hx:x.length<=1000)(hd:P.ai[j]?=some d)(hl:jK d.2.2 st=some lot)(hst:st.length < 6)(hk:k < lot.length)(hc:ao d.2.2<=1000)(hP:P.ai.length<=1000)(h:MH):
  gv [bC P,jI j,EW st k,bM x] h=some (bC (gA P j k x st d),h):=by
 have hj:j < P.ai.length:=(Se.mp hd).1;have e1:bC P=.tup [.tup (P.names.map D.str),.tup (P.ai.map dC)]:=rfl;have s1:fT (.tup (P.ai.map dC)) none (some (j:Int)) h=some (.tup ((P.ai.take j).map dC),h):=by rw[JC (by rw[R9];lia),Vu]
 have s2:fT (.tup (P.ai.map dC)) (some ((j+1:Nat):Int)) none h=some (.tup ((P.ai.drop (j+1)).map dC),h):=by rw[wx (by rw[R9];lia),VN]
 refine cg (bU ?_);rw[e1];nofun;refine rv (a:=(.tup [.str d.1,.tup (d.2.1.map D.str),bM d.2.2],h)) (nq (i:=j) (by rw[SK,hd];rfl)) ?_;nofun;refine⟨_,rfl,rv s1 ?_⟩;nofun;refine rv (kR hx st 6 d.2.2 lot h hl hst hk hc) ?_;nofun;refine rv (td (ys:=[.tup [.str d.1,.tup (d.2.1.map D.str),bM (putAt k x st d.2.2)]]) (by simp;lia)) ?_;nofun;refine rv (a:=(.int ((j+1:Nat):Int),h)) rfl ?_;nofun;refine⟨_,rfl,rv rfl (rv s2 ?_)⟩;nofun;refine rv (td (by simp;lia)) ?_;nofun;show(D.tup [D.tup (P.names.map D.str),D.tup _],h)=(D.tup [D.tup (P.names.map D.str),D.tup ((P.ai.take j++[(d.1,d.2.1,putAt k x st d.2.2)]++P.ai.drop (j+1)).map dC)],h);rw[Su,Su];rfl
end Mi
namespace Pg
open PySem Sm L2
theorem gJ{w:Str}(h:1<=w.length/\w.length<=7/\Mi.low w):Sh 8 w:=⟨by lia,Mi.LV h.2.2⟩
section
variable {W:Wd} {fl:List Int} {odd:Int} {ps:List Str}
theorem qB(hp:∀w∈ps,Sh 8 w){t:Term}(h:cw ps t):G1 t:=by
 refine⟨?_,h.2.1,h.2.2⟩;rcases h.1 with e | e
 ·rw[e];exact⟨by decide+kernel,by decide+kernel⟩
 ·exact hp _ e
theorem xl(ok:Mi.qy W fl odd)(hp:∀w∈ps,Sh 8 w){l:Lock}(h:fR W ps l):G2 l:=⟨gJ (ok.sn _ h.1),qB hp h.2⟩
theorem KR(ok:Mi.qy W fl odd)(hp:∀w∈ps,Sh 8 w){n:Nat}{r:Row}(h:bO W ps n r):xU r/\∀t∈af r,bW W ps (n+1) t:=by
 cases r with
 | say w=>
  rw[bO] at h;refine⟨?_,λt ht=>(nomatch ht)⟩;rcases SF.mp h with z | z
  ·exact gJ (ok.sn _ z)
  ·exact gJ (ok.sd _ z)
 | call d ts=>
  rw[bO] at h;obtain⟨⟨j,qs,e1,e2,e3⟩,ht⟩:=h;refine⟨⟨gJ (ok.sd _ (Sd e1)),by rw[e3];exact ok.p3 qs (Sd e2),λt h=>qB hp (ht t h)⟩,λt ht=>(nomatch ht)⟩
 | within l b=>rw[bO] at h;exact⟨xl ok hp h.1,λt ht=>by rw[Sz.mp ht];exact h.2.2.2⟩
 | all ls b=>
  rw[bO] at h;exact⟨⟨h.1.2.1,λl hl=>xl ok hp (h.1.2.2.2 l hl),by intro e;have:=h.1.1;rw[e] at this;simp at this⟩,λt ht=>by rw[Sz.mp ht];exact h.2.2.2⟩
 | ask l b e=>
  rw[bO] at h;refine⟨xl ok hp h.1,λt ht=>?_⟩;rcases Sr.mp ht with rfl | ht
  ·exact h.2.2.2.2.1
  ·rw[Sz.mp ht];exact h.2.2.2.2.2
 | lK s t a b c=>
  rw[bO] at h;obtain⟨h1,h2,_,_,_,_,h3,h4,h5⟩:=h;refine⟨⟨qB hp h1,qB hp h2⟩,λt ht=>?_⟩;simp only[af,Sr,List.not_mem_nil,or_false] at ht;rcases ht with rfl | rfl | rfl
  ·exact h3
  ·exact h4
  ·exact h5
 | either a b=>
  rw[bO] at h;obtain⟨_,_,_,h3,h4⟩:=h;refine⟨trivial,λt ht=>?_⟩;simp only[af,Sr,List.not_mem_nil,or_false] at ht;rcases ht with rfl | rfl
  ·exact h3
  ·exact h4
 | again a=>rw[bO] at h;exact⟨trivial,λt ht=>by rw[Sz.mp ht];exact h.2.2⟩
theorem Az(ok:Mi.qy W fl odd)(hp:∀w∈ps,Sh 8 w):∀(f n:Nat)(l:List Row),bW W ps n l->xV f l
 | 0,_,_,_=>trivial
 | f+1,n,l,h=>λr hr=>by
  obtain⟨a,b⟩:=KR ok hp (vn h r hr);exact⟨a,λt ht=>Az ok hp f (n+1) t (b t ht)⟩
theorem HQ(ok:Mi.qy W fl odd){m:Nat}{P:Prog}(o:Nb W m P)(hm:m<=60):Ka P:=by
 have fit:=o.fit (by lia) ok.d2;refine⟨fit,by rw[o.dl];exact ok.d2,by rw[o.nm,(eZ W.names).length_eq];exact ok.n2,λx hx=>?_,λd hd=>?_,Sw o.ct (by lia)⟩
 ·rw[o.nm] at hx;exact gJ (ok.sn x ((eZ W.names).mem_iff.mp hx))
 ·obtain⟨j,hj⟩:=UB.mp hd;obtain⟨e1,e2,e3,_⟩:=o.dd j d hj;have hps:∀w∈d.2.1,Sh 8 w:=λw hw=>gJ (ok.sp d.2.1 (Sd e2) w hw);exact⟨gJ (ok.sd _ (Sd e1)),ok.p3 _ (Sd e2),hps,Az ok hps 8 1 d.2.2 e3⟩
end
theorem Oq(n:Nat):Sh 1000 (uw n).2:=show Sh 1000 (Str.ofString "or") from⟨by decide+kernel,by decide+kernel⟩
theorem Gi:Sh 1000 (Str.ofString "end"):=⟨by decide+kernel,by decide+kernel⟩
theorem BL{g:Nat->List Row->List Ln}(n:Nat):∀(x:List (List Row)) (j k:Nat),(∀k,∀t∈x,∀y∈g k t,Sh 1000 y.2)->∀y∈aU g n j k x,Sh 1000 y.2
 | [],j,k,_,y,hy=>(nomatch hy)
 | t::x,j,k,h,y,hy=>by
  rw[aU] at hy;rcases SF.mp hy with z | z
  ·rcases SF.mp z with z | z
   ·split at z
    ·cases z
    ·rw[Sz.mp z];exact Oq n
   ·exact h k t (.head _) y z
  ·exact BL n x (j+1) (k+ao t) (λk u hu=>h k u (.tail _ hu)) y z
theorem Bn{g:Nat->List Row->List Ln}:∀(l:List Row)(k:Nat),(∀r∈l,xU r/\∀k,∀t∈af r,∀y∈g k t,Sh 1000 y.2)->∀y∈a8 g k l,Sh 1000 y.2
 | [],k,_,y,hy=>(nomatch hy)
 | r::rs,k,h,y,hy=>by
  rw[a8] at hy;rcases SF.mp hy with z | z
  ·rw[cp] at z;rcases Sr.mp z with rfl | z
   ·exact(FX (h r (.head _)).1).up (by decide)
   ·rcases SF.mp z with z | z
    ·exact BL k (af r) 0 (k+1) (h r (.head _)).2 y z
    ·split at z
     ·cases z
     ·rw[Sz.mp z];exact Gi
  ·exact Bn rs (k+cnt r) (λr hr=>h r (.tail _ hr)) y z
theorem yV:∀(f:Nat)(l:List Row)(k:Nat),xV f l->∀x∈dJ f k l,Sh 1000 x.2
 | 0,l,k,_,x,hx=>(nomatch hx)
 | f+1,l,k,hs,x,hx=>Bn l k (λr hr=>⟨(hs r hr).1,λk t ht=>yV f t k ((hs r hr).2 t ht)⟩) x hx
theorem zi:∀(ds:List b9)(k:Nat),(∀d∈ds,Sh 8 d.1/\d.2.1.length<=3/\(∀x∈d.2.1,Sh 8 x)/\xV 8 d.2.2)->∀x∈aS 8 k ds,Sh 1000 x.2
 | [],k,_,x,hx=>(nomatch hx)
 | d::ds,k,h,x,hx=>by
  obtain⟨a,b,c,e⟩:=h d (.head _);rw[aS] at hx;rcases Sr.mp hx with rfl | hx
  ·exact(AQ a b c).up (by decide)
  ·rcases SF.mp hx with z | z
   ·exact yV 8 d.2.2 k e x z
   ·rcases Sr.mp z with rfl | z
    ·exact Gi
    ·exact zi ds (k+ao d.2.2) (λd hd=>h d (.tail _ hd)) x z
end Pg
namespace Mi
open PySem Sm L2 Pg
def Dp(n:Nat)(d:D):Prop:=∃p,vc d=some p/\p.depth<=n/\PyData.eqv p p=true
def DN(n:Nat)(xs:List D):Prop:=∃ps,mG xs=some ps/\PyData.depthAll ps<=n/\PyData.eqvAll ps ps=true
theorem DN.nil{n:Nat}:DN n []:=⟨[],rfl,by simp[PyData.depthAll],rfl⟩
theorem DN.cons{n:Nat}{x:D}{xs:List D}(a:Dp n x)(b:DN n xs):DN n (x::xs):=by
 obtain⟨p,e1,e2,e3⟩:=a;obtain⟨ps,f1,f2,f3⟩:=b;refine⟨p::ps,?_,?_,?_⟩
 ·show(vc x).bind (λa=>(mG xs).map λb=>a::b)=_;rw[e1,f1];rfl
 ·rw[PyData.depthAll];exact VG.mpr ⟨e2,f2⟩
 ·rw[PyData.eqvAll,e3,f3];rfl
theorem DN.map{α:Type}{n:Nat}{f:α->D}:∀{xs:List α},(∀x∈xs,Dp n (f x))->DN n (xs.map f)
 | [],_=>DN.nil
 | x::xs,h=>DN.cons (h x Sk) (DN.map λy hy=>h y (Sq _ hy))
theorem Dp.lv{n:Nat}{xs:List D}(a:DN n xs):Dp (n+1) (.lv xs):=by
 obtain⟨ps,f1,f2,f3⟩:=a;refine⟨.list ps,?_,?_,?_⟩
 ·show(mG xs).map _=_;rw[f1];rfl
 ·rw[PyData.depth];exact Vt f2
 ·rw[PyData.eqv];exact f3
theorem Dp.str{n:Nat}(w:Str):Dp n (.str w):=⟨.str w,rfl,by simp[PyData.depth],by simp[PyData.eqv]⟩
end Mi
namespace Mi
open PySem Sm L2 Pg Builtin.Str
noncomputable def sg(g:List Row->List Str)(L:Nat):Nat->List (List Row)->List Str
 | _,[]=>[]
 | k,a::r=>g a++((if k=L then Str.ofString "end" else Str.ofString "or")::sg g L (k+1) r)
noncomputable def nZ(g:List Row->List Str)(r:Row):List Str:=bK r::sg g (af r).length 1 (af r)
noncomputable def tL:Nat->List Row->List Str
 | 0,_=>[]
 | f+1,l=>l.flatMap (nZ (tL f))
theorem BK{gl:Nat->List Row->List Ln}{g:List Row->List Str}(hg:∀k a,(gl k a).map (·.2)=g a)(n k:Nat)(r:Row):(aU gl n 0 k (af r)++(if af r=[] then[] else[gE n])).map (·.2)=sg g (af r).length 1 (af r):=by
 cases r <;> simp[af,aU,sg,hg,uw,gE]
theorem lU:∀(f k:Nat)(l:List Row),(dJ f k l).map (·.2)=tL f l
 | 0,_,_=>rfl
 | f+1,k,l=>by
  show(a8 (dJ f) k l).map (·.2)=l.flatMap (nZ (tL f))
  induction l generalizing k with
  | nil=>rfl
  | cons r l ih=>
   rw[a8,Su,ih,U5];congr 1;unfold cp nZ;rw[Sl,BK (lU f)]
noncomputable def Q2(d:b9):List Str:=bj d::(tL 8 d.2.2++[Str.ofString "end"])
noncomputable def PU(P:Prog):List Str:=Str.join (Str.ofString " ") (Str.ofString "locks"::P.names)::P.ai.flatMap Q2
theorem tx:∀(k:Nat)(ds:List b9),(aS 8 k ds).map (·.2)=ds.flatMap Q2
 | _,[]=>rfl
 | k,d::ds=>by
  rw[aS,Sl,Su,Sl,lU,tx _ ds,U5];unfold Q2 jg;simp
theorem Fp(P:Prog):(uE P).map (·.2)=PU P:=by
 unfold uE PU;rw[Sl,tx];rfl
end Mi
namespace Pg
open PySem Sm L2
theorem rg:∀(l:List Row)(n:Nat),n < ao l->∃x r y,l=x++r::y/\ao x<=n/\n < ao x+cnt r
 | [],n,h=>by simp[ao] at h
 | r::l,n,h=>by
  rw[ao] at h
  by_cases z:n < cnt r
  ·exact⟨[],r,l,rfl,by simp[ao],by simpa [ao] using z⟩
  ·obtain⟨x,r',y,rfl,h1,h2⟩:=rg l (n-cnt r) (by lia);exact⟨r::x,r',y,rfl,by rw[ao];lia,by rw[ao];lia⟩
theorem rh:∀(l:List (List Row)) (n:Nat),n < (l.map ao).sum->∃x t y,l=x++t::y/\(x.map ao).sum<=n/\n < (x.map ao).sum+ao t
 | [],n,h=>by simp at h
 | r::l,n,h=>by
  rw[Sl,Ts] at h
  by_cases z:n < ao r
  ·exact⟨[],r,l,rfl,by simp,by simpa using z⟩
  ·obtain⟨x,r',y,rfl,h1,h2⟩:=rh l (n-ao r) (by lia);exact⟨r::x,r',y,rfl,by rw[Sl,Ts];lia,by rw[Sl,Ts];lia⟩
theorem pR(g:Nat->List Row->List Ln):∀(x y:List Row)(k:Nat),a8 g k (x++y)=a8 g k x++a8 g (k+ao x) y
 | [],y,k=>by simp[a8,ao]
 | r::x,y,k=>by rw[Ta,a8,a8,pR g x y,SY,ao,TL]
theorem jL(g:Nat->List Row->List Ln)(n:Nat):∀(x y:List (List Row)) (j k:Nat),aU g n j k (x++y)=aU g n j k x++aU g n (j+x.length) (k+(x.map ao).sum) y
 | [],y,j,k=>by simp[aU]
 | t::x,y,j,k=>by
  rw[Ta,aU,aU,jL g n x y];simp only[SY,Sf,Sl,Ts];rw[show j+1+x.length=j+(x.length+1) by lia,show k+ao t+(x.map ao).sum=k+(ao t+(x.map ao).sum) by lia]
theorem rm{r:Row}{u v:List (List Row)}{t:List Row}(e:af r=u++t::v)(t':List Row):af (bD r u.length t')=u++t'::v/\bK (bD r u.length t')=bK r:=by
 have key:∀(L:List (List Row)),af r=L->L=u++t::v->(af (bD r u.length t')=u++t'::v/\bK (bD r u.length t')=bK r):=by
  intro L hL e;cases r <;> subst hL <;> (match u,e with
   | [],e=>first |(cases e;exact⟨rfl,rfl⟩) |(cases e;done)
   | [a],e=>first |(cases e;exact⟨rfl,rfl⟩) |(cases e;done)
   | [a,b],e=>first |(cases e;exact⟨rfl,rfl⟩) |(cases e;done)
   | a::b::c::w,e=>first |(have e:=congrArg List.length e;simp[af] at e;done) |(have e:=congrArg List.length e;simp[af] at e;lia))
 exact key _ rfl e
theorem sI{u v:List (List Row)}{t:List Row}:(u++t::v)[u.length]?=some t:=by
 rw[SD (Sj _),Va];rfl
theorem mr{u v:List Row}{t:Row}:(u++t::v)[u.length]?=some t:=by
 rw[SD (Sj _),Va];rfl
end Pg
namespace Mi
open PySem Sm L2 Pg
theorem yR{g:Nat->List Row->List Ln}{G:List Row->List Str}(hg:∀k a,(g k a).map (·.2)=G a):∀(x:List (List Row)) (n n' j k k':Nat),(aU g n j k x).map (·.2)=(aU g n' j k' x).map (·.2)
 | [],_,_,_,_,_=>rfl
 | t::x,n,n',j,k,k'=>by
  rw[aU,aU,Su,Su,Su,Su,hg,hg,yR hg x n n' (j+1) (k+ao t) (k'+ao t)];congr 2
  split <;> rfl
theorem ye{g g':List Row->List Str}{L:Nat}:∀(k:Nat)(x:List (List Row)),(∀t∈x,g t=g' t)->Mi.sg g L k x=Mi.sg g' L k x
 | _,[],_=>rfl
 | k,t::x,h=>by rw[Mi.sg,Mi.sg,h t (.head _),ye (k+1) x λu hu=>h u (.tail _ hu)]
theorem Jz:∀(f:Nat)(l:List Row),aj l<=f->tL (f+1) l=tL f l
 | 0,l,h=>by
  cases l with
  | nil=>rfl
  | cons r l=>have:=cm (lot:=r::l) (r:=r) (.head _);lia
 | f+1,l,h=>by
  have key:∀r∈l,nZ (tL (f+1)) r=nZ (tL f) r:=λr hr=>by
   have hr1:=cm hr;have ht:∀t∈af r,tL (f+1) t=tL f t:=λt ht=>Jz f t (by have:=a9 ht;lia);unfold nZ;congr 1;exact ye 1 _ ht
  show l.flatMap (nZ (tL (f+1)))=l.flatMap (nZ (tL f));clear h
  induction l with
  | nil=>rfl
  | cons r l ih=>rw[U5,U5,key r (.head _),ih λx hx=>key x (.tail _ hx)]
theorem oF(l:List Row):1<=aj l:=by cases l with
 | nil=>rw[aj];exact Sj _
 | cons r l=>rw[aj];lia
theorem needLe'{k:Nat}:∀{l:List Row},(∀r∈l,aC r<=k)->aj l<=k+1
 | [],_=>by rw[aj];exact WB _ _
 | r::l,h=>by
  have h1:=h r Sk;have h2:=needLe' λx hx=>h x (Sq _ hx);rw[aj];exact VG.mpr ⟨by lia,h2⟩
theorem vt{x l:List Row}(h:∀r∈x,r∈l):aj x<=aj l:=by
 have h1:=oF l;have:=needLe' (k:=aj l-1) (l:=x) λr hr=>by have:=cm (h r hr);lia
 lia
theorem vq{N k c n:Nat}{L:List Ln}(h:Sg N k c L)(hN:N≠n)(hn:n < k\/k+c<=n):∀x∈L,x.1≠(n:Int):=λx hx=>by
 have:=h.nm x hx
 lia
theorem wg(f K:Nat)(r:Row):(cp (dJ f) K r).map (·.2)=nZ (tL f) r:=by
 unfold cp nZ;rw[Sl,BK (lU f)]
theorem oH(p:List Nat):∀(k:Nat)(u:List (List Row)),(dz p k u).length=(u.map ao).sum
 | _,[]=>rfl
 | k,t::u=>by rw[dz,Sn,aM,oH p (k+1) u,Sl,Ts]
def Rl(f f' k n:Nat)(l:List Row)(a:List Nat)(st:List (Nat×Nat))(kk:Nat)(lot:List Row)(r:Row)(pre post:List Ln):Prop:=
 dJ f k l=pre++(cp (dJ f') (k+n) r++post)/\(∀x∈pre,x.1≠((k+n:Nat):Int))/\(∀x∈post,x.1≠((k+n:Nat):Int))/\
 (aZ a 0 l)[n]?=some (a++(flat st++[kk]),r)/\jK l st=some lot/\lot[kk]?=some r/\st.length+1<=aj l/\f'+1+st.length=f/\xU r/\(∀t∈af r,xV f' t/\aj t<=f')/\
 ∀z,tL f (putAt kk z st l)=pre.map (·.2)++(tL (f'+1) z++post.map (·.2))
theorem JW:∀(f:Nat)(l:List Row)(a:List Nat)(k n:Nat),n < ao l->aj l<=f->xV f l->∃f' st kk lot r pre post,Rl f f' k n l a st kk lot r pre post
 | 0,l,a,k,n,_,hn,_=>by have:=oF l;lia
 | f+1,l,a,k,n,hn,hd,hs=>by
  obtain⟨x,r0,y,rfl,h1,h2⟩:=rg l n hn;have hm0:r0∈x++r0::y:=So _ (.head _);obtain⟨s1,s2⟩:=hs r0 hm0;have hnr:=cm hm0;have sx:∀N k',Sg N k' (ao x) (a8 (dJ f) k' x):=λN k'=>zY (f+1) x k' N (Sw (vt λr hr=>S8 _ hr) hd) λr hr=>hs r (S8 _ hr);have sy:∀N k',Sg N k' (ao y) (a8 (dJ f) k' y):=λN k'=>zY (f+1) y k' N (Sw (vt λr hr=>So _ (.tail _ hr)) hd) λr hr=>hs r (So _ (.tail _ hr));have hln:dJ (f+1) k (x++r0::y)=a8 (dJ f) k x++(cp (dJ f) (k+ao x) r0++a8 (dJ f) (k+ao x+cnt r0) y):=by
   show a8 (dJ f) k (x++r0::y)=_;rw[pR,a8]
  have htL:∀z,tL (f+1) z=z.flatMap (nZ (tL f)):=λz=>rfl;have hxt:∀k',(a8 (dJ f) k' x).map (·.2)=tL (f+1) x:=λk'=>lU (f+1) k' x;have hyt:∀k',(a8 (dJ f) k' y).map (·.2)=tL (f+1) y:=λk'=>lU (f+1) k' y
  by_cases z:n=ao x
  ·subst z;refine⟨f,[],x.length,x++r0::y,r0,a8 (dJ f) k x,a8 (dJ f) (k+ao x+cnt r0) y,hln,vq (sx (k+ao x+1) k) (by lia) (.inr (by lia)),vq (sy (k+ao x+1) _) (by lia) (.inl (by have:=cnt_pos' r0;lia)),?_,rfl,mr,by show 0+1<=aj _;exact oF _,rfl,s1,λt ht=>⟨s2 t ht,by have:=a9 ht;lia⟩,λz=>?_⟩
   ·rw[gk,SD (by rw[aM];exact Sj _),aM,Va,Tp,aZ];rfl
   ·rw[hxt,hyt];show tL (f+1) ((x++r0::y).take x.length++z++(x++r0::y).drop (x.length+1))=_;rw[UQ,show(x++r0::y).drop (x.length+1)=y by rw[Vb,Ut (UL _),show x.length+1-x.length=1 by lia];rfl];simp only[htL,Vz,SY]
  ·have hc:=cN r0;obtain⟨u,t,v,eL,g1,g2⟩:=rh (af r0) (n-ao x-1) (by lia);have htm:t∈af r0:=by rw[eL];exact So _ (.head _)
   obtain⟨f',st,kk,lot,r,pre,post,d1,d2,d3,d4,d5,d6,d7,d8,d9,d10,d11⟩:=JW f t (a++[x.length]++[u.length]) (k+ao x+1+(u.map ao).sum) (n-ao x-1-(u.map ao).sum) (by lia) (by have:=a9 htm;lia) (s2 t htm);have en:k+ao x+1+(u.map ao).sum+(n-ao x-1-(u.map ao).sum)=k+n:=by lia
   rw[en] at d1 d2 d3;generalize hK:k+ao x=K at*;have hl0:af r0≠[]:=by rw[eL];simp
   have hsu:Sg K (K+1) (u.map ao).sum (aU (dJ f) K 0 (K+1) u):=qH u 0 (K+1) λk' w hw=>zY f w k' K (by have:=a9 (l:=w) (r:=r0) (by rw[eL];exact S8 _ hw);lia) (s2 w (by rw[eL];exact S8 _ hw));have hsv:∀j k',Sg K k' (v.map ao).sum (aU (dJ f) K j k' v):=λj k'=>qH v j k' λk' w hw=>zY f w k' K (by have:=a9 (l:=w) (r:=r0) (by rw[eL];exact So _ (.tail _ hw));lia) (s2 w (by rw[eL];exact So _ (.tail _ hw)));have hrow:∀t',cp (dJ f) K (bD r0 u.length t')=((K:Int),bK r0)::(aU (dJ f) K 0 (K+1) u++((if u.length=0 then[] else[uw K])++dJ f (K+1+(u.map ao).sum) t'++aU (dJ f) K (u.length+1) (K+1+(u.map ao).sum+ao t') v)++[gE K]):=λt'=>by
    obtain⟨q1,q2⟩:=rm eL t';unfold cp;rw[q1,q2,Sv (by simp),jL,aU,Tp]
   have hrow0:cp (dJ f) K r0=((K:Int),bK r0)::(aU (dJ f) K 0 (K+1) u++((if u.length=0 then[] else[uw K])++dJ f (K+1+(u.map ao).sum) t++aU (dJ f) K (u.length+1) (K+1+(u.map ao).sum+ao t) v)++[gE K]):=by
    unfold cp;rw[eL,Sv (by simp),jL,aU,Tp]
   have hsum:cnt r0=1+((u.map ao).sum+(ao t+(v.map ao).sum)):=by rw[hc,eL,Su,UH,Sl,Ts]
   refine⟨f',(x.length,u.length)::st,kk,lot,r,a8 (dJ f) k x++(((K:Int),bK r0)::(aU (dJ f) K 0 (K+1) u++((if u.length=0 then[] else[uw K])++pre))),post++(aU (dJ f) K (u.length+1) (K+1+(u.map ao).sum+ao t) v++(gE K::a8 (dJ f) (K+cnt r0) y)),?_,?_,?_,?_,?_,d6,by rw[Sf];have:=a9 htm;lia,by rw[Sf];lia,d9,d10,λz=>?_⟩
   ·rw[hln,hrow0,d1];simp only[SY,Ta,TN]
   ·intro w hw;rcases SF.mp hw with hw | hw
    ·exact vq (sx (k+n+1) k) (by lia) (.inr (by lia)) w hw
    rcases Sr.mp hw with rfl | hw
    ·show(K:Int)≠((k+n:Nat):Int);lia
    rcases SF.mp hw with hw | hw
    ·exact vq hsu (by lia) (.inr (by lia)) w hw
    rcases SF.mp hw with hw | hw
    ·have:w=uw K:=by
      split at hw
      ·cases hw
      ·exact Sz.mp hw
     rw[this];show(K:Int)≠((k+n:Nat):Int);lia
    ·exact d2 w hw
   ·intro w hw;rcases SF.mp hw with hw | hw
    ·exact d3 w hw
    rcases SF.mp hw with hw | hw
    ·exact vq (hsv _ _) (by lia) (.inl (by lia)) w hw
    rcases Sr.mp hw with rfl | hw
    ·show(K:Int)≠((k+n:Nat):Int);lia
    ·exact vq (sy (k+n+1) _) (by lia) (.inl (by lia)) w hw
   ·have hlen:(fc (a++[x.length]) r0).length=cnt r0-1:=by have:=sf (a++[x.length]) r0;lia
    rw[gk,SD (by rw[aM];lia),aM,Tp,aZ,show n-ao x=(n-ao x-1)+1 by lia,WY,Sx (by lia),vf,eL,kg,SD (by rw[oH];lia),oH,Tp,dz,Sx (by rw[aM];lia),d4];simp[flat]
   ·show((QV (x++r0::y) (x.length,u.length)).bind λl=>jK l st)=_;have e1:QV (x++r0::y) (x.length,u.length)=some t:=by
     show((x++r0::y)[x.length]?).bind (λr=>(af r)[u.length]?)=_;rw[mr];show(af r0)[u.length]?=_;rw[eL,sI]
    rw[e1];exact d5
   ·have e4:(af r0)[u.length]?=some t:=by rw[eL,sI]
    have e3:(x++r0::y)[x.length]?=some r0:=mr;have hput:putAt kk z ((x.length,u.length)::st) (x++r0::y)=x++[bD r0 u.length (putAt kk z st t)]++y:=by
     simp only[putAt,e3,e4];rw[UQ,show(x++r0::y).drop (x.length+1)=y by rw[Vb,Ut (UL _),show x.length+1-x.length=1 by lia];rfl]
    rw[hput,htL,Vz,Vz,V0,<-wg f K,hrow,<-htL,<-htL];simp only[Su,Sl,SY,Ta,hxt,hyt,lU,d11 z,yR (lU f) v K K (u.length+1) (K+1+(u.map ao).sum+ao (putAt kk z st t)) (K+1+(u.map ao).sum+ao t),TX,TN]
theorem tI(x y:List b9):br (x++y)=br x+br y:=by unfold br;rw[Su,UH]
theorem pd:∀(ds:List b9)(n:Nat),n < br ds->∃x d y,ds=x++d::y/\br x<=n/\n < br x+ao d.2.2
 | [],n,h=>by simp[br] at h
 | d::ds,n,h=>by
  rw[du] at h
  by_cases z:n < ao d.2.2
  ·exact⟨[],d,ds,rfl,by simp[br],by simpa [br] using z⟩
  ·obtain⟨x,d',y,rfl,h1,h2⟩:=pd ds (n-ao d.2.2) (by lia);exact⟨d::x,d',y,rfl,by rw[du];lia,by rw[du];lia⟩
theorem jM(f:Nat):∀(x y:List b9)(k:Nat),aS f k (x++y)=aS f k x++aS f (k+br x) y
 | [],y,k=>by simp[aS,br]
 | d::x,y,k=>by
  rw[Ta,aS,aS,jM f x y,du,TL];simp only[SY,Ta]
theorem Dm{u v:List b9}{t:b9}:(u++t::v)[u.length]?=some t:=by
 rw[SD (Sj _),Va];rfl
theorem OW{P:Prog}(hP:Ka P){n:Nat}(hn:n < br P.ai):∃(j:Nat)(st:List (Nat×Nat)) (kk:Nat) (lot:List Row) (r:Row) (f':Nat) (d:b9) (pre post:List Ln),
  uE P=pre++(cp (dJ f') n r++post)/\(∀x∈pre,x.1≠(n:Int))/\(∀x∈post,x.1≠(n:Int))/\(placesFrom 0 P.ai)[n]?=some (j,flat st++[kk],r)/\P.ai[j]?=some d/\jK d.2.2 st=some lot/\lot[kk]?=some r/\st.length < 6/\f'+st.length=7/\xU r/\(∀t∈af r,xV f' t/\aj t<=f')/\
  ∀z,PU (gA P j kk z st d)=pre.map (·.2)++(tL (f'+1) z++post.map (·.2)):=by
 obtain⟨x,d,y,eD,h1,h2⟩:=pd P.ai n hn;have hm:d∈P.ai:=by rw[eD];exact So _ (.head _)
 have hD:∀d∈P.ai,PX d:=λd hd=>⟨Sw (hP.fit.nd d hd) (by decide),(hP.dd d hd).2.2.2⟩;have sx:=KH x 0 λd hd=>hD d (by rw[eD];exact S8 _ hd);have sy:=λk=>KH y k λd hd=>hD d (by rw[eD];exact So _ (.tail _ hd));obtain⟨f',st,kk,lot,r,pre,post,d1,d2,d3,d4,d5,d6,d7,d8,d9,d10,d11⟩:=JW 8 d.2.2 [] (br x) (n-br x) (by lia) (hD d hm).1 (hD d hm).2;have en:br x+(n-br x)=n:=by lia
 rw[en] at d1 d2 d3;have hnd:=hP.fit.nd d hm;have hln:uE P=jg (Str.join (Str.ofString " ") (Str.ofString "locks"::P.names))::(aS 8 0 x++(jg (bj d)::(dJ 8 (br x) d.2.2++(jg (Str.ofString "end")::aS 8 (br x+ao d.2.2) y)))):=by
  rw[uE,eD,jM,aS,Tp]
 refine⟨x.length,st,kk,lot,r,f',d,jg (Str.join (Str.ofString " ") (Str.ofString "locks"::P.names))::(aS 8 0 x++(jg (bj d)::pre)),post++(jg (Str.ofString "end")::aS 8 (br x+ao d.2.2) y),?_,?_,?_,?_,by rw[eD];exact Dm,d5,d6,by lia,by lia,d9,d10,λz=>?_⟩
 ·rw[hln,d1];simp only[SY,Ta]
 ·intro w hw;rcases Sr.mp hw with rfl | hw
  ·show(-1:Int)≠n;lia
  rcases SF.mp hw with hw | hw
  ·have:=sx.nm w hw;lia
  rcases Sr.mp hw with rfl | hw
  ·show(-1:Int)≠n;lia
  ·exact d2 w hw
 ·intro w hw;rcases SF.mp hw with hw | hw
  ·exact d3 w hw
  rcases Sr.mp hw with rfl | hw
  ·show(-1:Int)≠n;lia
  ·have:=(sy _).nm w hw;lia
 ·have hlx:(placesFrom 0 x).length=br x:=dc 0 x;rw[eD,eI,SD (by rw[hlx];exact h1),hlx,Tp,placesFrom,Sx (by rw[R9,aM];lia),SK,d4];rfl
 ·have e1:(gA P x.length kk z st d).ai=x++(d.1,d.2.1,putAt kk z st d.2.2)::y:=by
   show P.ai.take x.length++[(d.1,d.2.1,putAt kk z st d.2.2)]++P.ai.drop (x.length+1)=_;rw[eD,UQ,Vb,Ut (UL _),show x.length+1-x.length=1 by lia];simp
  rw[<-Fp,uE,e1,jM,aS,Tp];simp only[Su,Sl,SY,Ta,lU,d11 z,tx];rfl
end Mi
namespace Pg
open PySem Sm L2
theorem dY{α:Type}:∀{l:List α} {i:Nat} {a:α},l[i]?=some a->∃x y,l=x++a::y/\x.length=i
 | a::l,0,_,h=>by cases h;exact⟨[],l,rfl,rfl⟩
 | b::l,i+1,a,h=>by
  obtain⟨x,y,rfl,e⟩:=dY (l:=l) (i:=i) h;exact⟨b::x,y,rfl,by rw[Sf,e]⟩
theorem yN{K:Nat}{r:Row}(h:∀t∈af r,aj t<=K):aC r<=K:=by
 cases r with
 | say _=>rw[aC];exact UK _
 | call _ _=>rw[aC];exact UK _
 | within l b=>rw[aC];exact h b (.head _)
 | all l b=>rw[aC];exact h b (.head _)
 | ask l b e=>rw[aC];exact VG.mpr ⟨h b (.head _),h e (.tail _ (.head _))⟩
 | lK s t a b c=>rw[aC];exact VG.mpr ⟨h a (.head _),VG.mpr ⟨h b (.tail _ (.head _)),h c (.tail _ (.tail _ (.head _)))⟩⟩
 | either a b=>rw[aC];exact VG.mpr ⟨h a (.head _),h b (.tail _ (.head _))⟩
 | again a=>rw[aC];exact h a (.head _)
theorem Ho{r:Row}{j:Nat}{t:List Row}(h:xU r):xU (bD r j t):=by
 unfold bD
 split <;> first | exact h |(simp only[xU] at h ⊢;exact h)
theorem qP:∀(a b:List Row),ao (a++b)=ao a+ao b
 | [],b=>by simp[ao]
 | r::a,b=>by rw[Ta,ao,ao,qP a b,TL]
end Pg
namespace Mi
open PySem Sm L2 Pg
theorem yA{x y b:List Row}{r:Row}:putAt x.length b [] (x++r::y)=x++b++y:=by
 show(x++r::y).take x.length++b++(x++r::y).drop (x.length+1)=_;rw[UQ,Vb,Ut (UL _),show x.length+1-x.length=1 by lia];rfl
theorem yz{x y b t:List Row}{r:Row}{u v:List (List Row)}{st:List (Nat×Nat)}{k:Nat}(e:af r=u++t::v):putAt k b ((x.length,u.length)::st) (x++r::y)=x++bD r u.length (putAt k b st t)::y:=by
 have e4:(af r)[u.length]?=some t:=by rw[e,sI]
 have e3:(x++r::y)[x.length]?=some r:=mr;simp only[putAt,e3,e4];rw[UQ,Vb,Ut (UL _),show x.length+1-x.length=1 by lia];simp
theorem need_one(l:List Row):1<=aj l:=by cases l <;> rw[aj] <;> lia
theorem jH(a b:List Row):aj (a++b)=max (aj a) (aj b):=by
 induction a with
 | nil=>have:=need_one b;rw[TN,aj];lia
 | cons r a ih=>rw[Ta,aj,aj,ih];lia
theorem FD{r:Row}{u v:List (List Row)}{t t':List Row}(e:af r=u++t::v)(h:aj t<=aj t'):aC (bD r u.length t')=max (aC r) (aj t'):=by
 obtain⟨q1,_⟩:=rm e t';have h1:aC (bD r u.length t')<=max (aC r) (aj t'):=yN λz hz=>by
  rw[q1] at hz;rcases SF.mp hz with hz | hz
  ·have:=a9 (l:=z) (r:=r) (by rw[e];exact S8 _ hz);lia
  ·rcases Sr.mp hz with rfl | hz
   ·lia
   ·have:=a9 (l:=z) (r:=r) (by rw[e];exact So _ (.tail _ hz));lia
 have h2:aj t'<=aC (bD r u.length t'):=a9 (by rw[q1];exact So _ (.head _));have h3:aC r<=aC (bD r u.length t'):=yN λz hz=>by
  rw[e] at hz;rcases SF.mp hz with hz | hz
  ·exact a9 (by rw[q1];exact S8 _ hz)
  ·rcases Sr.mp hz with rfl | hz
   ·exact Sw h h2
   ·exact a9 (by rw[q1];exact So _ (.tail _ hz))
 lia
theorem yM{k:Nat}{lot:List Row}{r:Row}{lk:Lock}(hr:lot[k]?=some r):∀(st:List (Nat×Nat)) (l:List Row),jK l st=some lot->aj (putAt k [.within lk [r]] st l)=max (aj l) (st.length+2+aC r)
 | [],l,e=>by
  cases e;obtain⟨x,y,rfl,rfl⟩:=dY hr;have hy:=need_one y;have hq:aj (r::y)=max (1+aC r) (aj y):=by rw[aj]
  rw[yA,jH,jH,jH,hq,aj,aj,aC,aj,aj,TY]
  lia
 |(i,j)::st,l,e=>by
  obtain⟨t,e1,e2⟩:=bw e;obtain⟨r0,e3,e4⟩:=bw e1;obtain⟨x,y,rfl,rfl⟩:=dY e3;obtain⟨u,v,eL,rfl⟩:=dY e4;have ih:=yM (lk:=lk) hr st t e2;have hn:=FD eL (t':=putAt k [.within lk [r]] st t) (by rw[ih];lia);have ht:aj t<=aC r0:=a9 (by rw[eL];exact So _ (.head _));rw[yz eL,jH,jH,aj,aj,hn,ih,Sf]
  lia
abbrev jY(lk:Lock)(r:Row):List Row:=[.within lk [r]]
theorem iU{k:Nat}{lot:List Row}{r:Row}{lk:Lock}(hk:G2 lk)(hr:lot[k]?=some r):∀(st:List (Nat×Nat)) (l:List Row),jK l st=some lot->ao (putAt k (jY lk r) st l)=ao l+1/\((∀f,xV f l)->∀f,xV f (putAt k (jY lk r) st l))/\st.length+aj lot<=aj l
 | [],l,e=>by
  cases e;obtain⟨x,y,rfl,rfl⟩:=dY hr;have hm:r∈x++r::y:=So _ (.head _);rw[yA];refine⟨?_,λh f=>?_,by rw[TY,Tp];exact Sj _⟩
  ·have h1:=cN (.within lk [r]);simp only[af,Sl,TX,Ts,W6,ao] at h1;simp only[qP,ao]
   lia
  ·cases f with
   | zero=>trivial
   | succ f=>
    intro w hw;rcases SF.mp hw with hw | hw
    ·rcases SF.mp hw with hw | hw
     ·exact h (f+1) w (S8 _ hw)
     ·rw[Sz.mp hw];refine⟨hk,λt ht=>?_⟩;rw[Sz.mp ht];cases f with
      | zero=>trivial
      | succ f=>
       intro v hv;rw[Sz.mp hv];exact h (f+1) r hm
    ·exact h (f+1) w (So _ (.tail _ hw))
 |(i,j)::st,l,e=>by
  obtain⟨t,e1,e2⟩:=bw e;obtain⟨r0,e3,e4⟩:=bw e1;obtain⟨x,y,rfl,rfl⟩:=dY e3;obtain⟨u,v,eL,rfl⟩:=dY e4;obtain⟨i2,i3,i4⟩:=iU hk hr st t e2;have hm:r0∈x++r0::y:=So _ (.head _);have htm:t∈af r0:=by rw[eL];exact So _ (.head _)
  obtain⟨q1,q2⟩:=rm eL (putAt k (jY lk r) st t);have hnm:=cm hm;have hnr:=a9 htm;rw[yz eL];generalize hr':bD r0 u.length (putAt k (jY lk r) st t)=r' at*;refine⟨?_,λh f=>?_,by rw[Sf];lia⟩
  ·have h1:=cN r0;have h2:=cN r';rw[eL,Su,UH,Sl,Ts] at h1;rw[q1,Su,UH,Sl,Ts] at h2;rw[qP,qP,ao,ao]
   lia
  ·cases f with
   | zero=>trivial
   | succ f=>
    intro w hw;have hw2:w∈x++r0::y\/w=r':=by
     rcases SF.mp hw with hw | hw
     ·exact .inl (S8 _ hw)
     ·rcases Sr.mp hw with rfl | hw
      ·exact .inr rfl
      ·exact .inl (So _ (.tail _ hw))
    rcases hw2 with hw | rfl
    ·exact h (f+1) w hw
    ·refine⟨by rw[<-hr'];exact Ho (h 1 r0 hm).1,λz hz=>?_⟩;rw[q1] at hz;rcases SF.mp hz with hz | hz
     ·exact(h (f+1) r0 hm).2 z (by rw[eL];exact S8 _ hz)
     ·rcases Sr.mp hz with rfl | hz
      ·exact i3 (λf=>(h (f+1) r0 hm).2 t htm) f
      ·exact(h (f+1) r0 hm).2 z (by rw[eL];exact So _ (.tail _ hz))
theorem zg{K:Nat}:∀(ds:List b9)(a:Nat),K < zh ds a↔K < a\/∃d∈ds,K < aj d.2.2
 | [],a=>⟨.inl,λh=>by
  rcases h with h |⟨d,hd,_⟩
  ·exact h
  ·cases hd⟩
 | d::ds,a=>by
  show K < zh ds (max a (aj d.2.2))↔_;rw[zg ds];constructor
  ·rintro(h |⟨e,he,h⟩)
   ·by_cases z:K < a
    ·exact .inl z
    ·exact .inr ⟨d,.head _,by lia⟩
   ·exact .inr ⟨e,.tail _ he,h⟩
  ·rintro(h |⟨e,he,h⟩)
   ·exact .inl (by lia)
   ·rcases Sr.mp he with rfl | he
    ·exact .inl (by lia)
    ·exact .inr ⟨e,he,h⟩
theorem CD{P:Prog}(hP:Ka P)(hS:∀d∈P.ai,∀f,xV f d.2.2)(h5:∀d∈P.ai,aj d.2.2<=5)(h60:br P.ai<=60){j k:Nat}{st:List (Nat×Nat)}{d:b9}{lot:List Row}{r:Row}{lk:Lock}(hk:G2 lk)(hd:P.ai[j]?=some d)(hl:jK d.2.2 st=some lot)(hr:lot[k]?=some r):
  Ka (gA P j k (jY lk r) st d)/\br (gA P j k (jY lk r) st d).ai=br P.ai+1/\(5 < zh (gA P j k (jY lk r) st d).ai 0↔5 < st.length+2+aC r):=by
 obtain⟨x,y,eD,ex⟩:=dY hd;obtain⟨i2,i3,i4⟩:=iU hk hr st d.2.2 hl;have i1:=yM (lk:=lk) hr st d.2.2 hl;have hm:d∈P.ai:=Sd hd;have hd5:=h5 d hm;have hlr:=cm (Sd hr);have e1:(gA P j k (jY lk r) st d).ai=x++(d.1,d.2.1,putAt k (jY lk r) st d.2.2)::y:=by
  show P.ai.take j++[(d.1,d.2.1,putAt k (jY lk r) st d.2.2)]++P.ai.drop (j+1)=_;rw[eD,<-ex,UQ,Vb,Ut (UL _),show x.length+1-x.length=1 by lia];simp
 have hmem:∀e∈(gA P j k (jY lk r) st d).ai,e∈P.ai\/e=(d.1,d.2.1,putAt k (jY lk r) st d.2.2):=λe he=>by
  rw[e1] at he;rw[eD];rcases SF.mp he with he | he
  ·exact .inl (S8 _ he)
  ·rcases Sr.mp he with rfl | he
   ·exact .inr rfl
   ·exact .inl (So _ (.tail _ he))
 have hc:br (gA P j k (jY lk r) st d).ai=br P.ai+1:=by
  rw[e1,eD,tI,tI,du,du];dsimp only
  lia
 have hlen:(gA P j k (jY lk r) st d).ai.length=P.ai.length:=by rw[e1,eD];simp only[Sn,Sf]
 refine⟨⟨⟨λe he=>?_,by show br _<=1000;lia,by rw[hlen];exact hP.fit.dl⟩,by rw[hlen];exact hP.dl,hP.nl,hP.nm,λe he=>?_,by show br _<=900;lia⟩,hc,?_⟩
 ·rcases hmem e he with he | rfl
  ·exact hP.fit.nd e he
  ·show aj (putAt k (jY lk r) st d.2.2)<=6
   lia
 ·rcases hmem e he with he | rfl
  ·exact hP.dd e he
  ·obtain⟨a1,a2,a3,_⟩:=hP.dd d hm;exact⟨a1,a2,a3,i3 (hS d hm) 8⟩
 ·rw[zg];constructor
  ·rintro(h |⟨e,he,h⟩)
   ·lia
   ·rcases hmem e he with he | rfl
    ·have:=h5 e he;lia
    ·replace h:5 < aj (putAt k (jY lk r) st d.2.2):=h
     lia
  ·intro h;refine .inr ⟨(d.1,d.2.1,putAt k (jY lk r) st d.2.2),by rw[e1];exact So _ (.head _),?_⟩;show 5 < aj (putAt k (jY lk r) st d.2.2)
   lia
theorem yw:∀ws:List Str,mG (ws.map D.str)=some (ws.map PyData.str)
 | []=>rfl
 | c::r=>by simp only[Sl,mG,vc,yw r,Td,Tj]
theorem tw:∀ws:List Str,PyData.depthAll (ws.map PyData.str)=0
 | []=>rfl
 | c::r=>by simp only[Sl,PyData.depthAll,tw r,PyData.depth];rfl
theorem y1{w:Str}{ps:List Str}{h:MH}(m:w∈ps):M8 (.str w) (.tup (ps.map D.str)) h=some (.bl true,h):=by
 have e2:inD (.str w) (.tup (ps.map D.str)) h=some true:=by
  show((mG (ps.map D.str)).bind λbs=>if(PyData.str w).depth<=60/\PyData.depthAll bs<=60 then some (bs.any λb=>PyData.eqv b (.str w)) else none)=_;rw[yw];show(if(PyData.str w).depth<=60/\PyData.depthAll (ps.map PyData.str)<=60 then some ((ps.map PyData.str).any λb=>PyData.eqv b (.str w)) else none)=_;rw[Si ⟨by simp[PyData.depth],by rw[tw];lia⟩];congr 1;rw[List.any_eq_true];exact⟨_,UN m,by simp[PyData.eqv]⟩
 unfold M8;rw[e2];rfl
theorem Bg(a b:D)(h:MH):fD [.tup [a,b],.int 2] h=some (.bl true,h):=rfl
theorem DY(i:Int)(h:MH):lN [.int i] h=some (.bl true,h):=rfl
theorem xn{ps:List Str}{t:Term}(ht:cw ps t)(h:MH):kC [bo t,.tup (ps.map D.str)] h=some (.bl true,h):=by
 obtain⟨w,f⟩:=t;obtain⟨h1,h2,h3⟩:=ht;dsimp only at h1 h2 h3;show kC [.tup [.str w,.int f],.tup (ps.map D.str)] h=_;refine cg (bU ?_);nofun;refine rv (Bg _ _ h) ⟨_,rfl,λz=>(nomatch z),λ_=>?_⟩;nofun;refine rv (a:=(.bl true,h)) rfl ⟨_,rfl,λz=>(nomatch z),λ_=>?_⟩;nofun;refine rv (DY f h) ⟨_,rfl,λz=>(nomatch z),λ_=>?_⟩;nofun;have fin:Rn (gq Gb Gb (t8 iL (eK (.int 99))) (ay 3) (eK (.int 99)) [some (.tup [.str w,.int f]),some (.tup (ps.map D.str)),some (.str w),some (.int f)] h) λp=>p=(.bl true,h):=
  ⟨_,GB (a:=-99) (n:=f) (b:=99) rfl rfl rfl,by rw[Tb h2,Tb h3];rfl⟩
 refine⟨_,rfl,λz=>⟨_,rfl,λ_=>?_,λz=>(nomatch z)⟩,λz=>?_⟩
 ·refine fin.imp ?_;rintro _ rfl;nofun
 ·nofun;have hw:w∈ps:=h1.resolve_left λy=>by rw[y] at z;exact absurd z (by decide+kernel)
  refine rv (y1 hw) ⟨_,rfl,λy=>?_,λy=>(nomatch y)⟩;refine fin.imp ?_;rintro _ rfl;nofun
theorem xo{ns ps:List Str}{l:Lock}(hl:l.1∈ns)(ht:cw ps l.2)(h:MH):iJ [aF l,.tup (ns.map D.str),.tup (ps.map D.str)] h=some (.bl true,h):=by
 obtain⟨w,t⟩:=l;show iJ [.tup [.str w,bo t],.tup (ns.map D.str),.tup (ps.map D.str)] h=_;refine cg (bU ?_);nofun;refine rv (Bg _ _ h) ⟨_,rfl,λz=>(nomatch z),λ_=>?_⟩;nofun;refine rv (a:=(.bl true,h)) rfl ⟨_,rfl,λ_=>?_,λz=>(nomatch z)⟩;nofun;refine rv (y1 hl) ⟨_,rfl,λy=>?_,λy=>(nomatch y)⟩;nofun;refine rv (xn ht h) ?_;nofun
noncomputable def Gj:Nat->List Ln->List (Nat×Ln)
 | _,[]=>[]
 | k,x::r=>(k,x)::Gj (k+1) r
theorem zb:∀(L:List Ln)(k:Nat),iC k (L.map fk)=(Gj k L).map λx=>.tup [.int (x.1:Int),fk x.2]
 | [],_=>rfl
 | x::r,k=>by rw[Sl,iC,Gj,Sl,zb r (k+1)]
theorem BW:∀(L:List Ln)(k:Nat),(Gj k L).length=L.length
 | [],_=>rfl
 | x::r,k=>by rw[Gj,Sf,BW r,Sf]
noncomputable def qx(n:Nat)(k:Nat)(L:List Ln):List Nat:=((Gj k L).filter λx=>x.2.1==(n:Int)).map (·.1)
theorem qS(n:Nat):∀(A B:List Ln)(k:Nat),qx n k (A++B)=qx n k A++qx n (k+A.length) B
 | [],B,k=>rfl
 | x::A,B,k=>by
  have ih:=qS n A B (k+1);unfold qx at ih ⊢;rw[Ta,Gj,Gj,T9,T9,Sf,show k+(A.length+1)=k+1+A.length by lia]
  split
  ·rw[Sl,Sl,ih,Ta]
  ·exact ih
theorem tU(n:Nat):∀(A:List Ln)(k:Nat),(∀x∈A,x.1≠(n:Int))->qx n k A=[]
 | [],k,_=>rfl
 | x::A,k,h=>by
  have ih:=tU n A (k+1) λy hy=>h y (.tail _ hy);unfold qx at ih ⊢;rw[Gj,T9,Sv (by simpa using h x (.head _)),ih]
theorem nD(n k:Nat)(s:Str)(A:List Ln):qx n k (((n:Int),s)::A)=k::qx n (k+1) A:=by
 unfold qx;rw[Gj,T9,Si (by simp),Sl]
theorem Jm(g:Nat->List Row->List Ln)(n k:Nat)(r:Row):∃s t,qx n k (cp g n r)=k::t/\qx n k (cp g n r)=s++[k+(cp g n r).length-1]:=by
 unfold cp
 by_cases z:af r=[]
 ·rw[Si z,z];exact⟨[],[],nD n k _ _,nD n k _ _⟩
 ·rw[Sv z];generalize aU g n 0 (n+1) (af r)=mid;have e:qx n k (((n:Int),bK r)::(mid++[gE n]))=k::(qx n (k+1) mid++[k+1+mid.length]):=by
   rw[nD,qS];congr 2;exact nD n _ _ []
  refine⟨k::qx n (k+1) mid,_,e,e.trans ?_⟩;rw[Sf,Sn,UC,show k+(mid.length+1+1)-1=k+1+mid.length by lia];rfl
theorem OG{xs:List D}{k:Nat}{h:MH}(hk:k<=xs.length):fT (.lv xs) none (some (k:Int)) h=some (.lv (xs.take k),h):=by
 show some (D.lv (cutD xs none (some (k:Int))),h)=_;unfold cutD;rw[HT.iq,HT.gM,TJ hk,Wa,W4]
theorem Iz{xs:List D}{k:Nat}{h:MH}(hk:k<=xs.length):fT (.lv xs) (some (k:Int)) none h=some (.lv (xs.drop k),h):=by
 show some (D.lv (cutD xs (some (k:Int)) none),h)=_;unfold cutD;rw[HT.iq,HT.gM,TJ hk,Us (by rw[Uh];exact Sj _)]
theorem LQ{xs:List D}{a b:Nat}{h:MH}(hb:b<=xs.length)(ha:a<=b):fT (.lv xs) (some (a:Int)) (some (b:Int)) h=some (.lv ((xs.drop a).take (b-a)),h):=by
 show some (D.lv (cutD xs (some (a:Int)) (some (b:Int))),h)=_;unfold cutD;rw[HT.gM,HT.gM,TJ hb,TJ (Sw ha hb)]
noncomputable def Ju(lk:Lock):Ln:=(-2,Str.ofString "within "++eW lk)
noncomputable def M9:Ln:=(-2,Str.ofString "end")
theorem La{L pre row post:List Ln}{n:Nat}{lk:Lock}(eL:L=pre++(row++post))(hl:L.length<=10000)(h1:∀x∈pre,x.1≠(n:Int))(h2:∀x∈post,x.1≠(n:Int)){s t:List Nat}(hr1:qx n pre.length row=pre.length::t)(hr2:qx n pre.length row=s++[pre.length+row.length-1])(hr0:1<=row.length)(hk:G2 lk)(h:MH):
  lO [.lv (L.map fk),.int (n:Int),aF lk] h=some (.lv ((pre++[Ju lk]++row++([M9]++post)).map fk),h):=by
 have hat:qx n 0 L=qx n pre.length row:=by
  rw[eL,qS,qS,tU n pre _ h1,tU n post _ h2,Tw,TN,Tp]
 have hln:L.length=pre.length+(row.length+post.length):=by rw[eL,Sn,Sn]
 have hc:bV [] g2 (aJ (ar cS (ar aT (ay 1) (eK (.int 0))) (ay 2))) (ay 0) (iC 0 (L.map fk)) [none,none,some (.int (n:Int))] h=some ((qx n 0 L).map (λx:Nat=>D.int (x:Int)),h):=by
  rw[zb,vI (λx:Nat×Ln=>D.int (x.1:Int)) (λx=>fk x.2) (λx=>D.int (x.1:Int)) (λx=>x.2.1==(n:Int)) (Gj 0 L) none none ?_ λx _ _=>rfl]
  ·unfold qx;rw[TR];rfl
  ·intro x _;rfl
 refine cg (bU ?_);nofun;refine j9 ?_;nofun;refine⟨_,_,_,rfl,rfl,rv hc ⟨?_,?_⟩⟩
 ·rw[R9];have:(qx n 0 L).length<=L.length:=by unfold qx;rw[R9];exact Sw (List.length_filter_le _ _) (Wr (BW L 0))
  rw[show sizeLine=16777216 from rfl];lia
 have hlt:=gb (h:=h) hk;have e0:aT (.lv ((qx n 0 L).map λx:Nat=>D.int (x:Int))) (.int 0) h=some (.int (pre.length:Int),h):=by
  rw[hat,hr1];exact b8 (j:=0) rfl
 have e1:aT (.lv ((qx n 0 L).map λx:Nat=>D.int (x:Int))) (.int (-1)) h=some (.int ((pre.length+row.length-1:Nat):Int),h):=by
  rw[hat,hr2,Su];show((gG (_++[D.int ((pre.length+row.length-1:Nat):Int)]) (-1)).map λx=>(x,h))=_;rw[Ry];rfl
 generalize D.lv ((qx n 0 L).map λx:Nat=>D.int (x:Int))=ids at e0 e1 ⊢;have s0:fT (.lv (L.map fk)) none (some (pre.length:Int)) h=some (.lv (pre.map fk),h):=by
  rw[OG (by rw[R9];lia),eL,<-Vu,UQ]
 have s1:fT (.lv (L.map fk)) (some ((pre.length+row.length:Nat):Int)) none h=some (.lv (post.map fk),h):=by
  rw[Iz (by rw[R9];lia),eL,<-SY,<-VN,<-Sn,List.drop_left]
 have s2:fT (.lv (L.map fk)) (some (pre.length:Int)) (some ((pre.length+row.length:Nat):Int)) h=some (.lv (row.map fk),h):=by
  rw[LQ (by rw[R9];lia) (S9 _ _),eL,<-VN,List.drop_left,Nat.add_sub_cancel_left,<-Vu,UQ]
 have hi:((pre.length+row.length-1:Nat):Int)+1=((pre.length+row.length:Nat):Int):=by lia
 generalize hLM:L.map fk=LM at*;nofun;refine rv e0 ?_;nofun;refine rv e1 ?_;nofun;refine⟨_,_,rfl,?_⟩;nofun;refine⟨_,rfl,rv s0 ?_⟩;nofun;refine rv hlt (rv (bH (by rw[show(Str.ofString "within ").length=7 by decide+kernel];have:=(gn hk).1;lia)) ?_);nofun;refine rv (fH (xs:=pre.map fk) (ys:=[fk (Ju lk)]) rfl (by rw[R9];simp;lia)) ?_;nofun;rw[hi];refine⟨_,rfl,rv rfl (rv s1 ?_)⟩;refine rv (fH (xs:=[fk M9]) (ys:=post.map fk) rfl (by rw[R9];simp;lia)) ?_;nofun;refine⟨_,_,rfl,?_⟩;nofun;refine⟨_,rfl,?_⟩;nofun;rw[hi];refine⟨_,rfl,rv s2 ?_⟩;refine rv (fH (xs:=pre.map fk++[fk (Ju lk)]) (ys:=row.map fk) rfl (by rw[Sn,R9,R9];simp;lia)) ?_;nofun;refine rv (fH (xs:=pre.map fk++[fk (Ju lk)]++row.map fk) (ys:=[fk M9]++post.map fk) rfl (by simp only[Sn,R9,UC];lia)) ?_;simp only[Su];rfl
end Mi
namespace Pg
open PySem Sm L2
noncomputable def iw(ds:List b9):List (List Str):=ds.flatMap λd=>List.replicate (ao d.2.2) d.2.1
theorem mI(d:b9)(ds:List b9):iw (d::ds)=List.replicate (ao d.2.2) d.2.1++iw ds:=U5
theorem HR(a b:List b9):iw (a++b)=iw a++iw b:=Vz
theorem wU:∀ds:List b9,(iw ds).length=br ds
 | []=>rfl
 | d::ds=>by rw[mI,Sn,UD,wU ds,du]
theorem E7:∀(ds:List b9)(i n:Nat)(q:Nat×List Nat×Row),(placesFrom i ds)[n]?=some q->∃m d,q.1=i+m/\ds[m]?=some d/\(iw ds)[n]?=some d.2.1
 | [],i,n,q,h=>by simp[placesFrom] at h
 | d::ds,i,n,q,h=>by
  rw[placesFrom] at h
  by_cases z:n < ao d.2.2
  ·rw[Sx (by rw[R9,aM];exact z),SK] at h;obtain⟨p,ep,rfl⟩:=SR.mp h;exact⟨0,d,rfl,rfl,by rw[mI,Sx (by rw[UD];exact z),VX,Si z]⟩
  ·rw[SD (by rw[R9,aM];lia),R9,aM] at h;obtain⟨m,e,h1,h2,h3⟩:=E7 ds (i+1) (n-ao d.2.2) q h;exact⟨m+1,e,by lia,h2,by rw[mI,SD (by rw[UD];lia),UD];exact h3⟩
noncomputable def yC(ps:List Str):D:=.tup (ps.map D.str)
end Pg
namespace Mi
open PySem Sm L2 Pg
section
variable {P:Prog} {n j k:Nat} {st:List (Nat×Nat)} {r:Row} {d:b9} {lot:List Row} {lk:Lock}
theorem Fm:(flat st++[k]).length=2*st.length+1:=by
 rw[Sn,F4];rfl
theorem IQ(m:Nat)(h:MH):xx (.int ((2*m+1:Nat):Int)) (.int 2) h=some (.int (m:Int),h):=by
 show some (D.int _,h)=_;congr 3
 lia
theorem BD(r:Row):D.tup [aB r]=bM [r]:=by unfold bM;rw[bu];rfl
noncomputable def Jt(P:Prog)(n j k:Nat)(st:List (Nat×Nat))(r:Row)(lk:Lock):DS:=[some (bC P),some (.int (n:Int)),some (aF lk),some (jI j),some (EW st k),some (aB r),some (.int ((st.length+1:Nat):Int))]
theorem vH(hr:1+aC r<=8)(hc:cnt r<=1000)(h:MH):aJ (ar t7 (ax (bI 8) (ag (ax aW (ag (ay 5) aL)) (ag (ar aw (ay 6) (eK (.int 1))) aL))) (eK (.int 5))) (Jt P n j k st r lk) h=some (decide (5 < st.length+2+aC r),h):=by
 have hn:aj [r]=1+aC r:=by rw[aj,aj];lia
 refine cg (oz ?_);unfold Jt;nofun;rw[BD,show((st.length+1:Nat):Int)+1=((st.length+2:Nat):Int) by lia];refine rv (ny 8 [r] _ h (by rw[hn];exact hr) (by rw[ao,ao];lia)) ?_;refine rv rfl ⟨_,rfl,?_⟩;rw[hn];congr 1;exact VP.mpr (by lia)
theorem uX(hP:Jq P)(h:MH):aJ (ar IY (ax cG (ag (ax cj (ag (ay 0) aL)) aL)) (eK (.int 60))) (Jt P n j k st r lk) h=some (decide (60<=br P.ai),h):=by
 refine cg (oz ?_);unfold Jt;nofun;refine rv (jB hP h) ?_;nofun;refine⟨_,rfl,?_⟩;rw[R9,show(placesFrom 0 P.ai).length=br P.ai from dc 0 P.ai];congr 1;exact VP.mpr (by lia)
theorem ve(hP:Jq P)(hn:(placesFrom 0 P.ai)[n]?=some (j,flat st++[k],r))(h:MH){Q:Fl×DS×MH->Prop}(q:Q (.nx,[some (bC P),some (.int (n:Int)),some (aF lk),some (jI j),some (EW st k),some (aB r),none],h)):Rn (fE (ax gw (ag (ay 0) (ag (ay 1) aL))) (gT 3 (au (gN 3) (au (gN 4) (au (gN 5) bY)))) (entry 7 [bC P,.int (n:Int),aF lk]) h) Q:=by
 nofun;refine rv (E9 hP hn h) ?_;nofun;exact q
theorem zf(h:MH){Q:Fl×DS×MH->Prop}(q:Q (.nx,Jt P n j k st r lk,h)):Rn (aV 6 (ar aw (ar xx (ax cG (ag (ay 4) aL)) (eK (.int 2))) (eK (.int 1))) [some (bC P),some (.int (n:Int)),some (aF lk),some (jI j),some (EW st k),some (aB r),none] h) Q:=by
 nofun;refine rv (si (p:=flat st++[k])) ?_;nofun;rw[Fm];refine rv (IQ _ h) ?_;nofun;exact q
theorem Ki(hP:Jq P)(hn:(placesFrom 0 P.ai)[n]?=some (j,flat st++[k],r))(hr:1+aC r<=8)(hc:cnt r<=1000)(hw:5 < st.length+2+aC r\/60<=br P.ai)(h:MH):eh [bC P,.int (n:Int),aF lk] h=some (("NoRow":Str),h):=by
 refine cg (N7 (EL ?_ (Ae ?_)))
 ·exact zK hP hn h
 ·refine ve hP hn h ⟨rfl,Ae (zf h ⟨rfl,?_⟩)⟩;have ed:=vH (P:=P) (n:=n) (j:=j) (k:=k) (st:=st) (r:=r) (lk:=lk) hr hc h;have er:=uX (n:=n) (j:=j) (k:=k) (st:=st) (r:=r) (lk:=lk) hP h
  by_cases z:5 < st.length+2+aC r
  ·exact EN (JG (rv ed ⟨λ_=>yq (cJ (JI (jz rfl))),λy=>absurd z (Vh y)⟩))
  ·refine EL ?_ (Ae ?_)
   ·show Hf _ _ _ (Jt P n j k st r lk) h=none;rw[DV ed,Sv (by simpa using z)];rfl
   ·show Rn (fz _ _ _ (Jt P n j k st r lk) h) _;refine rY (rv ed ⟨λy=>absurd (Tv y) z,λ_=>?_⟩);refine rv rfl ⟨rfl,?_⟩;exact EN (JG (rv er ⟨λ_=>yq (cJ (JI (jz rfl))),λy=>absurd (hw.resolve_left z) (Vh y)⟩))
theorem Hg(hP:Jq P)(hn:(placesFrom 0 P.ai)[n]?=some (j,flat st++[k],r))(hd:P.ai[j]?=some d)(hl:jK d.2.2 st=some lot)(hst:st.length < 6)(hkl:k < lot.length)(hcd:ao d.2.2<=1000)(hr:1+aC r<=8)(hc:cnt r<=1000)(hlk:lk.1∈P.names)(ht:cw d.2.1 lk.2)(w1:¬5 < st.length+2+aC r)(w2:¬60<=br P.ai)(h:MH):
  gZ [bC P,.int (n:Int),aF lk] h=some (bC (gA P j k (jY lk r) st d),h):=by
 have ed:=vH (P:=P) (n:=n) (j:=j) (k:=k) (st:=st) (r:=r) (lk:=lk) hr hc h;have er:=uX (n:=n) (j:=j) (k:=k) (st:=st) (r:=r) (lk:=lk) hP h;refine cg (bU (eT (ve hP hn h (eT (zf h ?_)))));refine eT (rY (rv ed ⟨λy=>absurd (Tv y) w1,λ_=>rv rfl ?_⟩));refine eT (rY (rv er ⟨λy=>absurd (Tv y) w2,λ_=>rv rfl ?_⟩));unfold Jt;nofun;refine rv (a:=(.tup (P.names.map D.str),h)) rfl ?_;nofun;refine rv (a:=(.tup (P.ai.map dC),h)) rfl ?_;nofun;refine rv (a:=(dC d,h)) (nq (i:=j) (by rw[SK,hd];rfl)) ?_;nofun;refine rv (a:=(.tup (d.2.1.map D.str),h)) rfl ?_;nofun;refine rv (xo hlk ht h) ⟨_,rfl,λy=>(nomatch y),λ_=>?_⟩;nofun;rw[BD,show D.tup [D.tup [D.str (Str.ofString "within"),aF lk,bM [r]]]=bM (jY lk r) by unfold bM jY;rw[bu,bu];show _=D.tup [aB (.within lk [r])];rw[aB,bu]];refine rv (mH (by show 1<=1000;decide) hd hl hst hkl hcd hP.dl h) ?_;nofun
end
theorem wI{P:Prog}{z:Int}{lk:Lock}{δ:DS}{h:MH}(e1:fK [some 3,some 2,some 0] δ=[some (aF lk),some (.int z),some (bC P)])(e:eh [bC P,.int z,aF lk] h=some (("NoRow":Str),h))(m:EM):fI tJ [some 3,some 2,some 0] uK (Kj eh (ag (ay 2) (ag (ay 1) (ag (ay 0) aL)))) m δ h=some (.str "NoRow",h):=
 Dw (by rw[e1];exact cg (N0 (rv (a:=([bC P,.int z,aF lk],h)) rfl (rv e rfl))))
theorem Iu(ws:List Str)(h:MH):nj (.lv (ws.map D.str)) (.lv (ws.map D.str)) h=some (.bl false,h):=by
 obtain⟨p,e1,e2,e3⟩:=Dp.lv (n:=63) (DN.map (f:=D.str) (xs:=ws) λw _=>Dp.str w);show(JS (.lv (ws.map D.str)) (.lv (ws.map D.str)) h).map _=_;unfold JS;show(((vc (.lv (ws.map D.str))).bind λa=>(vc (.lv (ws.map D.str))).bind _).map _)=_;rw[e1];show((if p.depth<=64/\p.depth<=64 then some (PyData.eqv p p) else none).map _)=_;rw[Si ⟨e2,e2⟩,e3];rfl
theorem DX{f n:Nat}{r:Row}{lk:Lock}(hf:1+aC r<=f):tL (f+1) (jY lk r)=(Ju lk).2::((cp (dJ f) n r).map (·.2)++[M9.2]):=by
 have e1:tL f [r]=(cp (dJ f) n r).map (·.2):=by
  rw[<-Jz f [r] (by rw[aj,aj];lia),wg];show[r].flatMap (nZ (tL f))=_;rw[V0]
 have e2:cp (dJ f) n (.within lk [r])=((n:Int),bK (.within lk [r]))::(dJ f (n+1) [r]++[gE n]):=by
  unfold cp;rw[Sv (by simp[af])];show _::((([]++dJ f (n+1) [r])++[])++_)=_;rw[Tw,TN]
 show(jY lk r).flatMap (nZ (tL f))=_;rw[V0,<-wg f n,e2,Sl,Su,lU,e1];have e3:bK (.within lk [r])=(Ju lk).2:=by
  show Str.ofString "within"++Str.ofString " "++eW lk=Str.ofString "within "++eW lk;rw[show Str.ofString "within"++Str.ofString " "=Str.ofString "within " by decide+kernel]
 show bK (.within lk [r])::_=_;rw[e3];rfl
theorem sJ{lot:List Row}:∀(st:List (Nat×Nat)) (l:List Row),jK l st=some lot->ao lot<=ao l
 | [],l,e=>by cases e;exact Sj _
 |(i,j)::st,l,e=>by
  obtain⟨t,e1,e2⟩:=bw e;obtain⟨r0,e3,e4⟩:=bw e1;exact Sw (sJ st t e2) (zo e3 e4)
theorem EF{P:Prog}(hP:Ka P)(hS:∀d∈P.ai,∀f,xV f d.2.2)(h5:∀d∈P.ai,aj d.2.2<=5)(h60:br P.ai<=60){n:Nat}(hn:n < br P.ai){lk:Lock}(hk:G2 lk)(hlk:lk.1∈P.names)(ht:∀(q:Nat×List Nat×Row)(d:b9),(placesFrom 0 P.ai)[n]?=some q->P.ai[q.1]?=some d->cw d.2.1 lk.2)(h:MH):
  eQ [bC P,.lv ((uE P).map fk),.int (n:Int),aF lk] h=some (.bl true,h):=by
 obtain⟨j,st,kk,lot,r,f',d,pre,post,d1,d2,d3,d4,d5,d6,d7,d8,d9,d10,d11,d12⟩:=OW hP hn;have hkl:kk < lot.length:=(Se.mp d7).1;have hm:=Sd d5;have hd5:=h5 d hm;have hlr:=cm (Sd d7);have hst:=(iU hk d7 st d.2.2 d6).2.2;have hcr:=zm (Sd d7);have hcd:ao d.2.2<=br P.ai:=qC hm;have hcl:=(iU hk d7 st d.2.2 d6).1;obtain⟨hP',hct',hdp⟩:=CD hP hS h5 h60 hk d5 d6 d7;have hPl:(uE P).length<=6000:=by
  have:=gU 8 0 P.ai;have:=hP.dl;rw[uE,Sf]
  lia
 obtain⟨s,t,a1,a2⟩:=Jm (dJ f') n pre.length r;have hput:=La (lk:=lk) d1 (by lia) d2 d3 a1 a2 (by unfold cp;rw[Sf];lia) hk h;have htx:(pre++[Ju lk]++cp (dJ f') n r++([M9]++post)).map (·.2)=PU (gA P j kk (jY lk r) st d):=by
  rw[d12,DX (n:=n) (by lia)];simp only[Su,Sl,TX,SY,Ta,TN]
 generalize hO:pre++[Ju lk]++cp (dJ f') n r++([M9]++post)=O at hput htx;have hPl':(uE (gA P j kk (jY lk r) st d)).length<=6000:=by
  have:=gU 8 0 (gA P j kk (jY lk r) st d).ai;have:=hP'.dl;rw[uE,Sf]
  lia
 have htx':O.map (λx=>D.str x.2)=((uE (gA P j kk (jY lk r) st d)).map λx=>D.str x.2):=by
  have:=congrArg (List.map D.str) (htx.trans (Fp _).symm)
  simpa [TR,Function.comp_def] using this
 have hol:O.length<=6000:=by
  have h1:=congrArg List.length htx';rw[R9,R9] at h1
  lia
 have hD':∀e∈(gA P j kk (jY lk r) st d).ai,PX e:=λe he=>⟨Sw (hP'.fit.nd e he) (by decide),(hP'.dd e he).2.2.2⟩;obtain⟨me,em⟩:=EB (gA P j kk (jY lk r) st d).ai 0 0 0 0 hD';have emm:=yQ (jg (Str.join (Str.ofString " ") (Str.ofString "locks"::(gA P j kk (jY lk r) st d).names))) (aS 8 0 (gA P j kk (jY lk r) st d).ai) (by
  have h1:=hPl';rw[uE,Sf] at h1
  lia) (zi _ 0 hP'.dd) [] me _ _ em h
 rw[Tp,hct'] at emm;refine cg (bU ?_);nofun;refine rv hput ?_;nofun;refine rv (x5 O (by lia) h) ?_;rw[htx'];nofun;refine rv emm ?_;nofun;have hcr1:cnt r<=1000:=by have:=sJ st d.2.2 d6;lia
 have hnr8:1+aC r<=8:=by lia
 have big:(5 < st.length+2+aC r\/60<=br P.ai)->∀m δ,fK [some 3,some 2,some 0] δ=[some (aF lk),some (.int (n:Int)),some (bC P)]->fI tJ [some 3,some 2,some 0] uK (Kj eh (ag (ay 2) (ag (ay 1) (ag (ay 0) aL)))) m δ h=some (.str "NoRow",h):=λw m δ e=>wI e (Ki hP.fit d4 hnr8 hcr1 w h) m;clear hO hput hst hD' em emm hcl d12 d11 d3 d2 d1 a1 a2;refine⟨_,rfl,λz=>⟨λ_=>?_,λy=>(nomatch y)⟩,λz=>?_⟩
 ·have hw:5 < st.length+2+aC r:=hdp.mp (by have:=Tv z;lia);nofun;refine rv (big (.inl hw) _ _ (by rfl)) ?_;nofun
  ac_nf
 have w1:¬5 < st.length+2+aC r:=λy=>(Vh z) (by have:=hdp.mpr y;lia);nofun;refine⟨_,rfl,λz2=>?_,λz2=>?_⟩
 ·have hw:60<=br P.ai:=by have:=Tv z2;lia
  nofun;refine rv (big (.inr hw) _ _ (by rfl)) ?_;nofun
  ac_nf
 have w2:¬60<=br P.ai:=λy=>(Vh z2) (by lia);have hw:=Hg hP.fit d4 d5 d6 d8 hkl (by lia) hnr8 hcr1 hlk (ht _ d d4 d5) w1 w2 h;nofun;refine g8 ?_;nofun;refine⟨2,rfl,by decide,by decide,?_⟩;refine cZ (λi δ h'=>∃(v8:Option D),δ=[some (bC P),some (.lv ((uE P).map fk)),some (.int (n:Int)),some (aF lk),some (.lv ((uE (gA P j kk (jY lk r) st d)).map λx=>D.str x.2)),some (.int (me:Int)),some (.int (zh (gA P j kk (jY lk r) st d).ai 0:Int)),some (.int ((br P.ai+1:Nat):Int)),v8]/\h'=h)
  ⟨_,rfl,rfl⟩ (λ_ _ _ _ _=>rfl) ?_ ?_
 ·rintro i x δ h' hx ⟨v8,rfl,rfl⟩;nofun;refine rv hw ?_;nofun;refine rv (yW hP' h') ?_;nofun;refine rv (x5 _ (by lia) h') ?_;nofun;refine rv (by have:=Iu ((uE (gA P j kk (jY lk r) st d)).map (·.2)) h';rw[TR] at this;exact this) ?_;nofun;refine⟨false,rfl,λy=>(nomatch y),λ_=>?_⟩;nofun;exact⟨_,rfl,rfl⟩
 ·rintro δ h' ⟨v8,rfl,rfl⟩;nofun
theorem O7{h:MH}{s c R:Nat}{cs:List Int}{Q:D×MH->Prop}(S:St s c cs (R+6200) h)(C:Cl h)(k:∀(W:Wd)(fl:List Int)(odd:Int)(m:Nat)(P:Prog)(h1:MH),m<=60->qy W fl odd->Nb W m P->Sb s c cs h R h1->Cl h1->Q (bC P,h1)):Rn (lP [.ob s] h) Q:=by
 refine bU ?_;nofun;refine kU (R:=R+6198+1) (is:=[4,8,12,20,40,60]) (λi=>0<=i/\i<=60) (by decide) S.sb λmost h1 hm _ A1=>?_;nofun;refine kU (R:=R+6198) (is:=[0,2,5,9]) (λi=>0<=i/\i<=9) (by decide) A1 λodd h2 ho _ A2=>?_;nofun;obtain⟨m,rfl⟩:=Up hm.1;refine Dy (R:=R) (A2.le (by lia)) (C.but A2.S A2.b) ho.1 (by lia) λW fl P h3 ok okp A3 C3=>?_;nofun;exact k W fl odd m P h3 (by lia) ok okp A3 C3
theorem R8(cs:List Int):Cl [.lst (cs.map D.int),.lst [.int 0,.ob 0,.int 0]]:=by
 intro o ho;rcases Sr.mp ho with rfl | ho
 ·exact fq _ D.int (λ_=>rfl) _
 ·rw[Sz.mp ho];rfl
theorem rep1{x:D}{a:Nat}{h:MH}(ha:a<=1000):uH (.lv [x]) (.int (a:Int)) h=some (.lv (List.replicate a x),h):=by
 show(if(0:Int)<=a/\(a:Int)<=1000/\[x].length<=1000 then some (D.lv (List.replicate (a:Int).toNat [x]).flatten,h) else none)=_;rw[Si ⟨by lia,by lia,by simp⟩,U6];congr 3
 induction a with
 | zero=>rfl
 | succ n ih=>rw[TU,TU,Uo,ih (by lia)];rfl
theorem Cl.gl:∀(g h:MH),Cl h->GL g->Cl (h++g)
 | [],h,C,_=>by rw[Tw];exact C
 | o::g,h,C,G=>by
  rw[show h++o::g=h++[o]++g by simp];refine Cl.gl g _ (C.snoc ?_) λx hx=>G x (.tail _ hx);obtain⟨X,rfl⟩:=G o (.head _);exact Gz _ X
theorem Ah{W:Wd}{fl:List Int}{odd:Int}(ok:qy W fl odd){m:Nat}{P:Prog}(o:Nb W m P):(∀d∈P.ai,∀f,xV f d.2.2)/\∀d∈P.ai,aj d.2.2<=5:=by
 refine⟨λd hd f=>?_,λd hd=>?_⟩
 ·obtain⟨j,hj⟩:=UB.mp hd;obtain⟨e1,e2,e3,_⟩:=o.dd j d hj;exact Az ok (λw hw=>gJ (ok.sp d.2.1 (Sd e2) w hw)) f 1 d.2.2 e3
 ·obtain⟨j,hj⟩:=UB.mp hd;obtain⟨e1,e2,e3,e4⟩:=o.dd j d hj;exact bP 1 d.2.2 e3 (by decide)
theorem E6{P:Prog}(hP:Ka P)(h1:MH){d0 d1 d2 d4 d9 d10:Option D}{Q:Fl×DS×MH->Prop}(q:∀(G:MH)(o6 o7 o8:Option D),GL G->Q (.nx,[d0,d1,d2,some (bC P),d4,some (.lv ((iw P.ai).map yC)),o6,o7,o8,d9,d10],h1++G))(o6 o7 o8:Option D):
  Rn (dm (ar aT v3 (ki 1)) [d0,d1,d2,some (bC P),d4,some (.lv []),o6,o7,o8,d9,d10] h1) λp=>Rn (lH p.2.1 (gT 3 (au (gN 6) (au (gN 7) (au (gN 8) bY)))) (aV 5 (ar aw v5 (ar uH (fX (a1 v7)) (ar aT (ax (bA 8) (a2 v8 (ki 0))) (ki 1))))) p.1 [d0,d1,d2,some (bC P),d4,some (.lv []),o6,o7,o8,d9,d10] p.2.2) Q:=by
 have ct:=hP.ct;refine fP ?_;nofun;refine rv (a:=(.tup (P.ai.map dC),h1)) rfl ?_;refine⟨_,_,rfl,?_⟩;refine cZ (λi δ h'=>∃(G:MH)(o6 o7 o8:Option D),δ=[d0,d1,d2,some (bC P),d4,some (.lv ((iw (P.ai.take i)).map yC)),o6,o7,o8,d9,d10]/\h'=h1++G/\GL G)
  ⟨[],_,_,_,rfl,by simp,λo ho=>(nomatch ho)⟩ (λ_ _ _ _ _=>rfl) ?_ ?_
 ·rintro i x δ h' hx ⟨G,o6,o7,o8,rfl,rfl,hG⟩;rw[SK] at hx;obtain⟨d,ed,rfl⟩:=SR.mp hx;obtain⟨s1,s2,s3,s4⟩:=hP.dd d (Sd ed);have nd:=hP.fit.nd d (Sd ed);have hcd:ao d.2.2<=900:=Sw (qC (Sd ed)) ct;have htk:iw (P.ai.take (i+1))=iw (P.ai.take i)++List.replicate (ao d.2.2) d.2.1:=by rw[Vo,ed,HR,show iw (Option.toList (some d))=iw [d] from rfl,mI,show iw []=[] from rfl,Tw]
  have hlen:(iw (P.ai.take i)).length<=900:=by
   rw[wU];have:=congrArg br (TV i P.ai);rw[tI] at this;have:br P.ai<=900:=ct
   lia
  obtain⟨nm,ps,rows⟩:=d;dsimp only at s1 s2 s3 s4 nd hcd htk;show Rn (gT 3 _ (.tup [.str nm,.tup (ps.map D.str),.tup (cx rows)]) _ _) _;nofun;obtain⟨_,e2,n2,g2,rfl,hg2,hat2⟩:=oI 8 rows 0 (h1++G) (by lia) s4 (by lia);refine rv e2 ?_;nofun;rw[Tp];refine rv (rep1 (by lia)) ?_;refine rv (fH (ys:=List.replicate (ao rows) (.tup (ps.map D.str))) rfl (by rw[R9,UD];lia)) ?_;nofun;rw[htk,Su,List.map_replicate];exact⟨G++g2,_,_,_,rfl,SY _ _ _,hG.app hg2⟩
 ·rintro δ h' ⟨G,o6,o7,o8,rfl,rfl,hG⟩;rw[R9,TQ];exact q G _ _ _ hG
theorem BF{P:Prog}{H h2:MH}{R n:Nat}{cs:List Int}{t:Term}(hP:Ka P)(hS:∀d∈P.ai,∀f,xV f d.2.2)(h5:∀d∈P.ai,aj d.2.2<=5)(h60:br P.ai<=60)(hn:n < br P.ai)(hnm:0 < P.names.length)(ht:∀(q:Nat×List Nat×Row)(d:b9),(placesFrom 0 P.ai)[n]?=some q->P.ai[q.1]?=some d->cw d.2.1 t)(hs:G1 t)(A:Sb 1 0 cs H (R+1) h2){Q:D×MH->Prop}(k:∀(w:Str)(h3:MH),Sb 1 0 cs H R h3->eQ [bC P,.lv ((uE P).map fk),.int (n:Int),.tup [.str w,bo t]] h3=some (.bl true,h3)->Q (.str w,h3)):Rn (aN [.ob 1,.tup (P.names.map D.str)] h2) Q:=by
 have hnl:=hP.nl;refine Dz A (.inr rfl) (by rw[R9];exact hnm) (by rw[R9];lia) λx h3 hx A3=>?_;obtain⟨w,hw,rfl⟩:=Tq.mp hx;exact k w h3 A3 (EF hP hS h5 h60 hn (lk:=(w,t)) ⟨hP.nm w hw,hs⟩ hw ht h3)
theorem law_true(ns:List Int)(hn:ns.length<=63):∃h',zD [.ro (ns.map D.int)] []=some (.bl true,h'):=by
 have e:Rn (zD [.ro (ns.map D.int)] []) λp=>p.1=.bl true:=by
  obtain⟨cs,ed,S0⟩:=AN ns hn 20000 (by decide);refine bU ?_;nofun;refine rv ed ?_;nofun;refine g8 ?_;nofun;refine⟨2,rfl,by decide,by decide,?_⟩;refine cZ (λi δ h=>∃(v2 v3 v4 v5 v6 v7 v8 v9 v10:Option D),δ=[some (.ro (ns.map D.int)),some (.ob 1),v2,v3,v4,v5,v6,v7,v8,v9,v10]/\St 1 0 cs (20000-6600*i) h/\Cl h)
   ⟨_,_,_,_,_,_,_,_,_,rfl,S0,R8 cs⟩ (λ_ _ _ _ _=>rfl) ?_ ?_
  ·rintro i x δ h hx ⟨v2,v3,v4,v5,v6,v7,v8,v9,v10,rfl,S,C⟩;have hi:i < 2:=by
    have:=(Se.mp hx).1
    simpa using this
   nofun;refine O7 (R:=20000-6600*(i+1)+400) (S.le (by lia)) C λW fl odd m P h1 hm ok okp A1 C1=>?_;have hP:=HQ ok okp hm;obtain⟨hS,h5⟩:=Ah ok okp;have h60:br P.ai<=60:=Sw okp.ct hm;have hnm:0 < P.names.length:=by rw[okp.nm,(eZ W.names).length_eq];exact ok.n1
   nofun;refine rv (yW hP h1) ?_;nofun;refine E6 hP h1 (λG o6 o7 o8 hG=>?_) _ _ _;have A2:=(A1.S.more G).sb;have C2:=Cl.gl G h1 C1 hG;generalize h1++G=H at A2 C2;have hpl:(iw P.ai).length=br P.ai:=wU _;nofun;refine g8 ?_;nofun;refine⟨br P.ai,by rw[R9,hpl],by lia,by lia,?_⟩;refine cZ (λn δ h=>∃(v9 v10:Option D),δ=[some (.ro (ns.map D.int)),some (.ob 1),some x,some (bC P),some (.lv ((uE P).map fk)),some (.lv ((iw P.ai).map yC)),o6,o7,o8,v9,v10]/\Sb 1 0 cs H (20000-6600*(i+1)+5*(60-n)) h)
    ⟨_,_,rfl,A2.le (by lia)⟩ (λ_ _ _ _ _=>rfl) ?_ ?_
   ·rintro n y δ h' hy ⟨v9,v10,rfl,A3⟩;rw[SK] at hy;obtain⟨q,eq,rfl⟩:=SR.mp hy;have hnlt:n < br P.ai:=by have:=(Se.mp eq).1;simpa using this
    obtain rfl:q=n:=by
     have:=(Se.mp eq).2
     simpa using this.symm
    obtain⟨z,hz⟩:∃z,(placesFrom 0 P.ai)[q]?=some z:=⟨_,SN (by rw[dc];exact hnlt)⟩;obtain⟨j,d,ej,hd,hprm⟩:=E7 P.ai 0 q z hz;rw[Tp] at ej;have hms:=hP.dd d (Sd hd);nofun;refine dS (R:=20000-6600*(i+1)+5*(60-(q+1))+4) (A3.le (by lia)) (by decide) (by decide) λr1 h2 r0 r1' A4=>?_;have empty:cw d.2.1 (Str.ofString "",r1-99):=⟨.inl rfl,by dsimp only;lia,by dsimp only;lia⟩;have esh:∀r:Int,0<=r->r < 199->G1 (Str.ofString "",r-99):=λr a b=>⟨(⟨by decide+kernel,by decide+kernel⟩:Sh 8 (Str.ofString "")),by dsimp only;lia,by dsimp only;lia⟩;have htt:∀(t:Term),cw d.2.1 t->∀(q':Nat×List Nat×Row)(d':b9),(placesFrom 0 P.ai)[q]?=some q'->P.ai[q'.1]?=some d'->cw d'.2.1 t:=λt ht q' d' e1 e2=>by
     cases hz.symm.trans e1;rw[ej] at e2;cases hd.symm.trans e2;exact ht
    nofun;have ep:aT (.lv ((iw P.ai).map yC)) (.int (q:Int)) h2=some (yC d.2.1,h2):=b8 hprm;refine rv ep ?_;nofun;refine rv (a:=(.bl (!(d.2.1.map D.str).isEmpty),h2)) rfl ?_;have hR:∀{h3:MH} {t:Term} {Q:Fl×DS×MH->Prop},cw d.2.1 t->G1 t->Sb 1 0 cs H (20000-6600*(i+1)+5*(60-(q+1))+1) h3->(∀h4,Sb 1 0 cs H (20000-6600*(i+1)+5*(60-(q+1))) h4->Q (.nx,[some (.ro (ns.map D.int)),some (.ob 1),some x,some (bC P),some (.lv ((uE P).map fk)),some (.lv ((iw P.ai).map yC)),o6,o7,o8,some (.int (q:Int)),some (bo t)],h4))->Rn (fz (Sm.jm (lT (ax eQ (a4 Sm.v3 Sm.v4 Sm.v9 (ax aW (a2 (ax aN (a2 Sm.v1 (ar aT Sm.v3 (ki 0)))) Sm.v10)))))) (bh (eK (.bl false))) cf [some (.ro (ns.map D.int)),some (.ob 1),some x,some (bC P),some (.lv ((uE P).map fk)),some (.lv ((iw P.ai).map yC)),o6,o7,o8,some (.int (q:Int)),some (bo t)] h3) Q:=λht hs A k=>by
     nofun;refine rv (a:=(.tup (P.names.map D.str),_)) rfl ?_;nofun;refine BF hP hS h5 h60 hnlt hnm (htt _ ht) hs A λw h4 A5 e=>?_;nofun;refine rv e ⟨_,rfl,λy=>(nomatch y),λ_=>?_⟩;nofun;exact k _ A5
    refine⟨_,rfl,λz=>?_,λz=>⟨λy=>(nomatch y),λ_=>?_⟩⟩;rotate_left
    ·refine rv rfl ?_;refine q9 ?_;refine hR (t:=(Str.ofString "",r1-99)) empty (esh r1 r0 r1') (A4.le (by lia)) λh4 A5=>?_;exact⟨_,_,rfl,A5⟩
    nofun;refine dS (R:=20000-6600*(i+1)+5*(60-(q+1))+3) A4 (by decide) (by decide) λr2 h3 _ _ A5=>?_;nofun;refine⟨_,rfl,λz2=>?_,λz2=>?_⟩
    ·have hpos:0 < (d.2.1.map D.str).length:=by
      cases hd1:d.2.1.map D.str with
      | nil=>rw[hd1] at z;cases z
      | cons a b=>exact Nat.succ_pos _
     have hp3:=hms.2.1;nofun;refine rv (a:=(yC d.2.1,h3)) (b8 hprm) ?_;nofun;refine Dz (xs:=d.2.1.map D.str) (R:=20000-6600*(i+1)+5*(60-(q+1))+2) A5 (.inr rfl) hpos (by rw[R9];lia) λw0 h4 hw0 A6=>?_;obtain⟨w,hw,rfl⟩:=Tq.mp hw0;nofun;refine dS (R:=20000-6600*(i+1)+5*(60-(q+1))+1) A6 (by decide) (by decide) λr3 h9 r30 r31 A7=>?_;nofun;refine rv (a:=(.tup (P.names.map D.str),h9)) rfl ?_;nofun;refine BF (t:=(w,r3-99)) hP hS h5 h60 hnlt hnm (htt _ ⟨.inr hw,by dsimp only;lia,by dsimp only;lia⟩) ⟨hms.2.2.1 w hw,by dsimp only;lia,by dsimp only;lia⟩ A7 λw4 h6 A8 e=>?_;nofun;refine rv e ⟨_,rfl,λy=>(nomatch y),λ_=>?_⟩;nofun;exact⟨_,_,rfl,A8⟩
    ·refine rv rfl ?_;refine q9 ?_;refine hR (t:=(Str.ofString "",r1-99)) empty (esh r1 r0 r1') (A5.le (by lia)) λh4 A6=>?_;exact⟨_,_,rfl,A6⟩
   ·rintro δ h' ⟨v9,v10,rfl,A3⟩;nofun;exact⟨_,_,_,_,_,_,_,_,_,rfl,A3.S.le (by lia),C2.but A3.S A3.b⟩
  ·rintro δ h ⟨v2,v3,v4,v5,v6,v7,v8,v9,v10,rfl,S,C⟩;nofun
 obtain⟨⟨d,h'⟩,e1,rfl⟩:=e;exact⟨h',e1⟩
end Mi
open PySem PySem.W PyProof.Rows
theorem Mi.QU:defOf Mi.view "law"=some (Hd.mE "law" Mi.l9,[]):=by ac_nf
theorem Mi.hp:PySem.Program.theDef Mi.pw "law"=some (L2.nv Mi.l9,L2.dq Mi.l9,L2.ak Mi.l9):=by ac_nf
theorem PySem.Challenge.cw_neverstuck_k72_locks_put_in_holds : PySem.Challenge.rw_neverstuck_k72_locks_put_in.Holds := by
 refine holds_law Mi.KO λKO=>?_;refine PySem.W.holds_open (q:=Mi.view) (loose:=["SHAPES"]) (Xt:=Mi.Xt) (XP:=XL Mi.view []) (Yf:=Mi.Yf) (Ya:=Mi.ya) (YP:=λw h=>Hd.tabAt h "SHAPES"=(Mi.ya w).1/\Hd.qw h (Mi.gz.map (·.1)) Mi.qq=(Mi.ya w).2) (N:=20000) (d:=Hd.mE "law" Mi.l9) (kwd:=[]) Mi.left (λ_ _ e=>⟨congrArg Prod.fst e,congrArg Prod.snd e⟩) (λ_ _ _ y k=>⟨Hd.zR k y.1,Hd.vG k y.2⟩) (λs e=>xl_of s (SU.mp e).1) XL.keeps Mi.QU Mi.hp (by ac_nf) (λs e=>recFacts_of (SU.mp e).2) (by ac_nf) KO (by decide+kernel) ⟨rfl,rfl,rfl,rfl,rfl,by decide+kernel⟩ (by w_witness2) ?_;exact Hd.Me (k:=29) (by ac_nf) (by ac_nf) ⟨rfl,by decide,by decide⟩ λw s₀ mg mb h G Y=>Mi.all_mk G.T Y.1 Y.2 Mi.law_true
