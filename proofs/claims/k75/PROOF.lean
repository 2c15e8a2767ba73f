import PyProof.Rows.All
import Wide.All
import OpenK.AllK
import Wide.FinOn
import Lean
import PyProof.EqAt
import PyProof.EqKinds
import PyProof.TupleCall
import PyProof.AttrMissHeap
import KE.KDictOf
import PyProof.ConsumeWalk
import PyProof.ZipIter
import PyProof.EnumMake
import KE.KEqDict
import KE.KDictList
import KE.KDictSum
import KE.KIsAll
import KE.KItemsList
import KE.KLam
import KE.KMinKey
import KE.KSortTup
import PyProof.CallStr
import PyProof.CollectIter
import PyProof.DictFindH
import PyProof.DictRoadsH
import PyProof.ExcArgsOwn
import PyProof.ExcAttrAll.ValueError
import PyProof.ExcBaseAll.ValueError
import PyProof.ExcClass3
import PyProof.FString
import PyProof.FString5
import PyProof.FactsAll.tuple_2
import PyProof.FactsAll.zip_1
import PyProof.ListMulRoad
import PyProof.ListRange
import PyProof.MeetsStr
import PyProof.NeKinds
import PyProof.P3Eq
import PyProof.RaisesMany
import PyProof.Rows.CatchOwn
import PyProof.Rows.OwnQ
import PyProof.Rows.Range3
import PyProof.Rows.ReprOcc
import PyProof.Rows.RuleDivmod
import PyProof.Rows.SortShell
import PyProof.Rows.StrWeight2
import PyProof.Rows.Top
import PyProof.Rows.TopTwo
import PyProof.RulesAs
import PyProof.RulesDel
import PyProof.RulesTry
import PyProof.StationsW
import PyProof.StrCalls
import PyProof.StrCalls2
import PyProof.StrCalls5
import PyProof.StrWalks
import PyProof.WalkInts
import PyProof.WalksMore
import PySem.Challenge.RW_neverstuck_k75_asked_instead
set_option Elab.async false
set_option linter.all false
set_option maxRecDepth 100000
set_option maxHeartbeats 4000000
set_option compiler.small 0
set_option compiler.extract_closed false
set_option compiler.reuse false
noncomputable section
local macro_rules | `(tactic| ac_nf) => `(tactic| kernel_rfl)
local macro_rules | `(tactic| nofun) => `(tactic| walk_at "r")
abbrev PU:=@List.length_map
abbrev PV:=@List.getElem?_eq_some_iff
abbrev PX:=@List.mem_of_getElem?
abbrev PY:=@PySem.wpAny_bind
abbrev PZ:=@Nat.le_refl
abbrev P0:=@if_pos
abbrev P1:=@List.mem_cons_self
abbrev P2:=@List.length_cons
abbrev P4:=@List.mem_cons_of_mem
abbrev P5:=@List.mem_cons
abbrev P6:=@Nat.le_trans
abbrev P7:=@if_neg
abbrev P8:=@List.getElem?_append_left
abbrev P9:=@PySem.Heap.get?_push_of_some
abbrev Qa:=@List.getElem?_append_right
abbrev Qb:=@List.length_append
abbrev Qc:=@List.map_cons
abbrev Qd:=@List.mem_singleton
abbrev Qe:=@List.size_toArray
abbrev Qf:=@PySem.Heap.lt_size
abbrev Qg:=@List.getElem?_map
abbrev Qh:=@PySem.wpAny_pure
abbrev Qi:=@List.getElem?_eq_getElem
abbrev Qj:=@List.length_take
abbrev Qk:=@List.mem_append
abbrev Ql:=@List.map_append
abbrev Qm:=@List.mem_append_right
abbrev Qo:=@Option.map_eq_some_iff
abbrev Qp:=@Bool.and_eq_true_iff
abbrev Qq:=@Nat.lt_of_lt_of_le
abbrev Qr:=@Nat.le_add_right
abbrev Qs:=@Nat.ne_of_lt
abbrev Qt:=@PySem.Heap.get?_push_size
abbrev Qu:=@PySem.Str.length_append
abbrev Qv:=@Option.bind_some
abbrev Qw:=@Bool.and_eq_true
abbrev Qx:=@decide_eq_true
abbrev Qy:=@List.length_range
abbrev Qz:=@List.getElem?_take_of_lt
abbrev QA:=@List.getElem?_set_self
abbrev QB:=@PySem.mem_of_lookup
abbrev QC:=@List.append_assoc
abbrev QD:=@List.lookup_cons
abbrev QE:=@List.cons_append
abbrev QF:=@Option.map_some
abbrev QG:=@List.mem_map
abbrev QH:=@List.sum_cons
abbrev QI:=@decide_eq_false
abbrev QJ:=@PySem.PassesOwn.never
abbrev QK:=@List.getElem?_set_ne
abbrev QL:=@Nat.zero_add
abbrev QM:=@decide_eq_true_eq
abbrev QN:=@Nat.add_assoc
abbrev QO:=@PySem.wpAny_mono
abbrev QP:=@beq_self_eq_true
abbrev QQ:=@PyProof.Rows.slot_tuple_getitem
abbrev QR:=@List.take_left
abbrev QS:=@List.append_nil
abbrev QT:=@List.take_length
abbrev QU:=@List.getElem?_eq_none
abbrev QV:=@List.mem_append_left
abbrev QW:=@List.filterMap_cons
abbrev QX:=@of_decide_eq_true
abbrev QY:=@List.length_set
abbrev QZ:=@PySem.F.plainAttrs_list
abbrev Q0:=@PySem.F.plainAttrs_str
abbrev Q1:=@List.mem_range
abbrev Q2:=@Array.length_toList
abbrev Q3:=@List.nil_append
abbrev Q4:=@Int.emod_nonneg
abbrev Q5:=@List.take_append_drop
abbrev Q6:=@Nat.lt_of_le_of_lt
abbrev Q7:=@List.filter_cons
abbrev Q8:=@PySem.wpAny_field
abbrev Q9:=@List.map_map
abbrev Ra:=@Int.le_trans
abbrev Rb:=@PySem.W.hideAll_none
abbrev Rf:=@List.getElem?_cons_succ
abbrev Rg:=@Int.eq_ofNat_of_zero_le
abbrev Rh:=@Bool.eq_iff_iff
abbrev Ri:=@beq_eq_false_iff_ne
abbrev Rj:=@List.replicate_succ
abbrev Rk:=@PyProof.Rows.callWith_type1
abbrev Rl:=@Ne.symm
abbrev Rm:=@Nat.sub_self
abbrev Ro:=@PySem.wpAny_newObj_type
abbrev Rp:=@PySem.wpAny_callSpecial?_slot
abbrev Rq:=@Nat.le_of_not_lt
abbrev Rr:=@beq_iff_eq
abbrev Rt:=@List.mem_filterMap
abbrev Ru:=@Int.emod_lt_of_pos
abbrev Rv:=@PySem.sizeLine_eq
abbrev Rw:=@PySem.wpAny_execs_cons
abbrev Rx:=@PySem.wpAny_call_entry
abbrev Ry:=@Nat.min_eq_left
abbrev Rz:=@List.length_nil
abbrev RA:=@PySem.wpAny_Call_Name_kw
abbrev RB:=@List.flatten_cons
abbrev RC:=@Int.toNat_natCast
abbrev RD:=@Option.isSome_iff_exists
abbrev RE:=@List.take_succ_cons
abbrev RG:=@Array.toList_append
abbrev RH:=@List.length_drop
abbrev RI:=@List.all_eq_true
abbrev RJ:=@Nat.zero_le
abbrev RK:=@Nat.le_of_lt
abbrev RL:=@List.take_of_length_le
abbrev RM:=@List.length_eq_one_iff
abbrev RN:=@List.filterMap_map
abbrev RO:=@Int.lt_of_le_of_lt
abbrev RP:=@Bool.false_ne_true
abbrev RQ:=@List.find?_cons
abbrev RS:=@Bool.or_eq_true
abbrev RT:=@List.any_cons
abbrev RU:=@PySem.F.slot_dict_get
abbrev RV:=@List.set_append_right
abbrev RW:=@List.take_add_one
abbrev RX:=@List.nodup_append
abbrev RY:=@PySem.tupleKind_room_in1
abbrev RZ:=@PySem.F.slot_enumerate_next
abbrev R3:=@List.map_nil
abbrev R6:=@List.cons_ne_nil
abbrev R7:=@PySem.call_meets
abbrev R8:=@PySem.F.slot_tuple_iterator_next
abbrev R9:=@Nat.lt_irrefl
abbrev Sa:=@List.sum_append
abbrev Sd:=@Option.bind_eq_some_iff
abbrev Se:=@Nat.le_succ
abbrev Sf:=@Nat.add_sub_cancel_left
abbrev Si:=@PySem.F.slot_str_split
abbrev Sj:=@if_true
abbrev Sk:=@PySem.wpAny_holding
abbrev Sl:=@PySem.SeqAt.eqAt_reads
abbrev Sn:=@PySem.F.slot_list_append
abbrev So:=@PySem.F.entry_dict_get
abbrev Sq:=@Nat.le_of_lt_succ
abbrev Sr:=@List.flatMap_cons
abbrev Ss:=@PySem.wpAny_execs_nil
abbrev Su:=@PySem.wpAny_getItem_str_slice
abbrev Sv:=@PySem.F.type_str_join
abbrev Sw:=@PySem.F.slot_str_join
abbrev Sx:=@List.mem_iff_getElem?
abbrev Sy:=@List.length_filter_le
abbrev Sz:=@Nat.succ_le_succ
abbrev SD:=@PySem.wpAny_truthy_bool
abbrev SF:=@List.take_append_of_le_length
abbrev SH:=@Array.mem_toList_iff
abbrev SJ:=@List.nodup_cons
abbrev SK:=@List.mem_filter
abbrev SN:=@PySem.W.hideAll_get
abbrev SO:=@Int.toNat_of_nonneg
abbrev SR:=@Nat.ne_of_gt
abbrev SU:=@PySem.W.of_hideAll
abbrev SV:=@PySem.F.excBase_ValueError
abbrev SX:=@Array.getElem?_eq_some_iff
abbrev SY:=@PySem.wpAny_passesOwn
abbrev S8:=@List.take_sublist
abbrev S9:=@PySem.F.type_list_append
abbrev Ta:=@PySem.F.args_tuple_add_2
abbrev Tb:=@List.length_filterMap_le
abbrev Tc:=@PySem.wpAny_pyIter_tuple
abbrev Td:=@PySem.Heap.size_push
abbrev Te:=@PySem.F.entry_tuple_add
abbrev Tf:=@PySem.F.slot_tuple_add
abbrev Tg:=@Nat.lt_trans
abbrev Th:=@List.drop_of_length_le
abbrev Ti:=@Int.ofNat_lt
abbrev Tj:=@Nat.min_le_left
abbrev Tn:=@PySem.wpAny_standAt
abbrev To:=@PySem.F.slot_list_extend
abbrev Tp:=@List.length_singleton
abbrev Tq:=@List.mem_of_mem_take
abbrev Tr:=@List.getElem?_of_mem
abbrev Ts:=@List.drop_zero
abbrev Tt:=@ne_true_of_eq_false
abbrev Tu:=@PySem.wpAny_Name
abbrev Tv:=@PySem.typeIs_str
abbrev Tw:=@PySem.codeAny_mono
abbrev Tx:=@List.mem_map_of_mem
abbrev Tz:=@List.map_congr_left
abbrev TB:=@List.flatMap_append
abbrev TC:=@PySem.post_val_or_str
abbrev TF:=@List.map_take
abbrev TH:=@Option.isSome_map
abbrev TJ:=@Nat.sub_zero
abbrev TL:=@Nat.le_succ_of_le
abbrev TN:=@Nat.add_zero
abbrev TQ:=@Nat.add_left_comm
abbrev TR:=@Nat.add_comm
abbrev TU:=@Int.ediv_one
abbrev TV:=@List.drop_append
abbrev TX:=@PySem.wpAny_attempt
abbrev TY:=@PySem.wpAny_rule
abbrev TZ:=@PySem.F.args_str_split_2
abbrev T8:=@PySem.Calls.spliced_cons
abbrev T9:=@List.of_mem_zip
abbrev Ua:=@if_false
abbrev Ub:=@PySem.wpAny_loadPart_at
abbrev Uc:=@PySem.call_meetsIn
abbrev Ud:=@PySem.Txt.slice_le
abbrev Ue:=@PySem.F.entry_str_split
abbrev Ug:=@PySem.Calls.spliced_nil
abbrev Uh:=@List.take_succ
abbrev Ui:=@PySem.F.slot_dict_getitem
abbrev Uj:=@List.mem_of_find?_eq_some
abbrev Uk:=@PySem.noFill_tuple_add
abbrev Ul:=@PySem.F.type_list_extend
abbrev Um:=@List.map_drop
abbrev Uo:=@List.Perm.eq_of_pairwise
abbrev Up:=@Bool.true_and
abbrev Uq:=@decide_eq_false_iff_not
abbrev Ur:=@PySem.F.slot_list_index
abbrev Us:=@PySem.F.slot_list_count
abbrev Ut:=@PySem.F.args_dict_get_3
abbrev Uu:=@PySem.F.args_dict_get_2
abbrev Uv:=@Option.join_eq_some_iff
abbrev Uw:=@List.pairwise_mergeSort
abbrev Ux:=@List.getElem?_replicate
abbrev Uy:=@List.getElem?_cons_zero
abbrev Uz:=@PySem.W.cellsFrom_some
abbrev UA:=@PySem.F.type_str_split
abbrev UB:=@PySem.F.args_tuple_iterator_next_1
abbrev UC:=@PyProof.Rows.split_pos
abbrev UD:=@Nat.le_of_eq
abbrev UE:=@List.range_succ_eq_map
abbrev UG:=@PySem.F.entry_tuple_iterator_next
abbrev UH:=@PyProof.Rows.assignInOrder_cons
abbrev UI:=@List.filterMap_eq_map
abbrev UJ:=@Array.mem_of_getElem?
abbrev UK:=@Array.getElem?_toList
abbrev UL:=@PySem.wpAny_newFunctionEnv_cells
abbrev UM:=@PySem.wpAny_bindName
abbrev UN:=@PySem.Calls.Name_function_global
abbrev UO:=@Nat.pow_le_pow_right
abbrev UP:=@List.length_dropLast
abbrev UQ:=@List.forall_mem_cons
abbrev UR:=@List.mergeSort_perm
abbrev US:=@PySem.wpAny_comprehension_free
abbrev UT:=@PySem.seq_tuple_add
abbrev UU:=@PySem.W.callWith_K
abbrev UW:=@List.pairwise_cons
abbrev UX:=@List.findIdx?_cons
abbrev UY:=@List.filter_append
abbrev UZ:=@Array.all_eq_true'
abbrev U0:=@PySem.F.args_enumerate_next_1
abbrev U1:=@List.pairwise_map
abbrev U2:=@List.map_inj_left
abbrev U3:=@List.getElem?_inj
abbrev U4:=@List.ext_getElem?
abbrev U5:=@Bool.not_eq_true'
abbrev U6:=@Array.isEmpty_iff
set_option hygiene false
set_option hygiene true
abbrev FR:=PySem.W.Frag
namespace Hd
open PySem PySem.W PySem.Spec PyProof.Rows
noncomputable def z9:List Value->Option (List Int)
 | []=>some []
 | .int i _::r=>(z9 r).map λis=>i::is
 | _=>none
noncomputable def Ao(v:Value)(t:String):Bool:=match v with
 | .type s=>decide (s=t)
 | _=>false
noncomputable def rowAt(h:Heap)(e:DictEntry):Option (Str×Int×List Int):=match e.key with
 | .str x _=>match e.val with
  | .ref t=>match h.get? t with
   | some u=>if Ao u.cls "tuple"&&u.dict.isNone then(match u.data with
     | .seq its _=>if its.size<=100 then(z9 its.toList).map λis=>(x,e.hash,is) else none
     | _=>none) else none
   | none=>none
  | _=>none
 | _=>none
noncomputable def kP(h:Heap):List DictEntry->Option (List (Str×Int×List Int))
 | []=>some []
 | e::r=>(rowAt h e).bind λx=>(kP h r).map λxs=>x::xs
noncomputable def tabAt(h:Heap)(nm:Str):Option (List (Str×Int×List Int)):=match h.nsMap mainGlobals nm with
 | some (.ref a)=>if a==sysModules then none else(match h.get? a with
  | some o=>if Ao o.cls "dict"&&o.dict.isNone&&decide (o.slots=#[]) then(match o.data with
    | .dict es _=>kP h es.toList
    | _=>none) else none
  | none=>none)
 | _=>none
noncomputable def tW(h:Heap)(ns:Addr)(name:Str):Option (Option Value):=match h.get? ns with
 | some ⟨_,_,.dict es _,_⟩=>(match es.toList.find? (·.key.isStr name) with
   | some e=>some (some e.val)
   | none=>if es.toList.any (·.refKey) then none else some none)
 | _=>none
noncomputable def jF(h:Heap)(name:Str):Value->Option (Option Value)
 | .type n=>some (fastBuiltinOwn n name)
 | .ref a=>(match h.get? a with
   | some ⟨_,_,.cls cd,_⟩=>tW h cd.ns name
   | _=>none)
 | _=>some none
noncomputable def cH(h:Heap)(name:Str):List Value->Option (Option Value)
 | []=>some none
 | c::r=>match jF h name c with
  | some (some v)=>some (some v)
  | some none=>cH h name r
  | none=>none
noncomputable def clsAt(h:Heap)(c:Str):Option (Addr×ClassData):=match h.nsMap mainGlobals c with
 | some (.ref C)=>match h.get? C with
  | some ⟨.type "type",_,.cls cd,_⟩=>some (C,cd)
  | _=>none
 | _=>none
noncomputable def isAt(h:Heap)(cd:ClassData)(n:Str):Option Bool:=(clsAt h n).map λp=>cd.mro.contains (.ref p.1)
noncomputable def kH(h:Heap)(ns:List Str)(c:Str):Option (List (Option Bool)):=(clsAt h c).bind λp=>
 if(cH h "__getattribute__" p.2.mro==some (some (.builtin "BaseException.__getattribute__"))&&cH h "__getattr__" p.2.mro==some none&&cH h "__class__" p.2.mro==some (some (.builtin "object.__class__"))&&
  p.2.mro.contains (.type "object")&&p.2.mro.contains (.type "BaseException")&&p.2.mro.contains (.type "ValueError")&&p.2.mro.contains (.ref p.1))=true then some (ns.map (isAt h p.2)) else none
noncomputable def pO(h:Heap)(cs ns:List Str):List (Option (List (Option Bool))):=cs.map (kH h ns)
theorem Gq(row:String)(h0:∀w:World,(fencedOpening treeTable p w N).map (λs₀=>(topFrom treeTable p (w.withFollow row false) N s₀).map (λs=>(openSeen q loose (importedModules p.main.body) Xt true s,Yf s)))=some (some (openGood q loose,Ya (w.withFollow row false))))(h1:∀w:World,(fencedOpening treeTable p w N).map (λs₀=>(topFrom treeTable p (w.withFollow row true) N s₀).map (λs=>(openSeen q loose (importedModules p.main.body) Xt true s,Yf s)))=some (some (openGood q loose,Ya (w.withFollow row true)))):LeftO p q loose Xt Yf Ya N true:=λw=>by
 obtain⟨s₀,a,b0⟩:=Qo.mp (h0 w);obtain⟨s₁,a1,b1⟩:=Qo.mp (h1 w);have e:=World.withFollow_self w row;unfold openEnds;cases hb:w.params.followText row <;> rw[hb] at e
 ·rw[a];rw[e] at b0;exact b0
 ·rw[a1];rw[e] at b1;exact b1
end Hd
namespace Mi
open PySem
abbrev pw:Program:=PySem.Challenge.pw_neverstuck_k75_asked_instead
noncomputable def top(i:Nat):Stmt:=pw.main.body.getD i (.Pass ⟨0,0,0,0⟩)
noncomputable def fg:List (Str×List Int):=[("say",[2,0]),("call",[3,0]),("within",[2,1]),("all",[2,1]),("ask",[2,2]),("by",[3,3]),("either",[1,2]),("again",[1,1])]
noncomputable def gz:List (Str×List Str):=[("NoRow",["NoRow","StuckError","ValueError"])]
noncomputable def pL:List Str:=["StuckError","NoStep","NoRow","NoLock","NoText","NoLine"]
noncomputable def xU:List Str:=["NoRow"]
noncomputable def view:Program:={pw with main:={pw.main with body:=[top 1,top 2,top 3,top 4,top 6,top 7,top 8,top 9,top 10,top 11,top 13,top 14,top 15,top 17,top 18,top 20,top 21,top 22,top 23,top 24,top 25,top 26,top 27,top 28,top 29,top 30,top 31,top 32,top 33,top 34,top 35,top 36,top 37,top 38,top 39,top 40,top 41,top 42,top 43,top 44,top 45,top 46]}}
end Mi
local macro_rules | `(tactic| walk_at "s") => `(tactic| exact⟨rfl, rfl, rfl, by decide +kernel, rfl, by decide +kernel, by decide +kernel⟩)
namespace Mi
open PySem PySem.W PyProof.Rows
abbrev ext:List (Option (List (Option Bool))):=gz.map λp=>some (pL.map λn=>some (decide (n∈p.2)))
abbrev ya(w:World):=(some (fg.map λx:Str×List Int=>(x.1,hashStr w x.1,x.2)),ext)
abbrev Xt:Shared->Bool:=λs=>xlAt view [] s&&recOk (RowW.records (OpenRow.toRowW PySem.Challenge.rw_neverstuck_k75_asked_instead.row)) s
abbrev Yf:Shared->Option (List (Str×Int×List Int))×List (Option (List (Option Bool))):=λs=>(Hd.tabAt s.heap "SHAPES",Hd.pO s.heap (gz.map (·.1)) pL)
theorem Mx(w:World):(fencedOpening treeTable pw w 20000).map (λs₀=>(topFrom treeTable pw (w.withFollow "special-get-raises" false) 20000 s₀).map (λs=>(openSeen view (["SHAPES"]:List Str) (importedModules pw.main.body) Xt true s,Yf s)))=some (some (openGood view (["SHAPES"]:List Str),(ya) (w.withFollow "special-get-raises" false))):=by ac_nf
theorem Mw(w:World):(fencedOpening treeTable pw w 20000).map (λs₀=>(topFrom treeTable pw (w.withFollow "special-get-raises" true) 20000 s₀).map (λs=>(openSeen view (["SHAPES"]:List Str) (importedModules pw.main.body) Xt true s,Yf s)))=some (some (openGood view (["SHAPES"]:List Str),(ya) (w.withFollow "special-get-raises" true))):=by ac_nf
theorem left:LeftO pw view (["SHAPES"]:List Str) Xt Yf (ya) 20000:=Hd.Gq "special-get-raises" Mx Mw
theorem IA:PySem.Challenge.rw_neverstuck_k75_asked_instead.wellSaid=true:=by
 unfold OpenLaw.wellSaid
 repeat(with_reducible refine look_both ?_ (by decide+kernel))
 unfold OpenRow.wellSaid
 repeat(with_reducible refine look_both ?_ (by decide+kernel))
 unfold OpenRow.partSaid
 repeat(with_reducible refine look_both ?_ (by decide+kernel))
 unfold looksOpen
 repeat(with_reducible refine look_both ?_ (by decide+kernel))
 decide+kernel
end Mi
theorem bN{α:Type}{p:α}{C:Prop}(h:none=some p):C:=nomatch h
namespace L2
open PySem PySem.Spec PyProof.Rows
abbrev Key:=Sum Int Str
noncomputable def t7:Key->Value->Bool
 | .inl k,v=>Value.isInt k v
 | .inr x,v=>Value.isStrOf x v
noncomputable def JQ(w:World):Key->Int
 | .inl k=>hashInt k
 | .inr x=>hashStr w x
theorem cp:∀{k:Key} {v:Value},t7 k v=true->(∃i t,k=Sum.inl i/\v=Value.int i t)\/(∃x t,k=Sum.inr x/\v=Value.str x t)
 | .inl i,v,h=>by
  obtain⟨t,e⟩:=Value.isInt_shape (k:=i) (v:=v) h;exact .inl ⟨i,t,rfl,e⟩
 | .inr x,v,h=>by
  obtain⟨t,e⟩:=Value.isStrOf_shape (x:=x) (v:=v) h;exact .inr ⟨x,t,rfl,e⟩
theorem Bp(i:Int)(t:Tok):t7 (.inl i) (.int i t)=true:=by simp[t7,Value.isInt]
theorem Bo(x:Str)(t:Tok):t7 (.inr x) (.str x t)=true:=by simp[t7,Value.isStrOf]
theorem JP(a b:Int):decide ((Sum.inl a:Key)=Sum.inl b)=(a==b):=by
 by_cases e:a=b
 ·subst e;simp
 ·have h:¬(Sum.inl a:Key)=Sum.inl b:=λq=>e (Sum.inl.inj q);rw[QI h];exact(Ri.mpr e).symm
theorem JM(a b:Str):decide ((Sum.inr a:Key)=Sum.inr b)=decide (a=b):=by
 by_cases e:a=b
 ·subst e;simp
 ·have h:¬(Sum.inr a:Key)=Sum.inr b:=λq=>e (Sum.inr.inj q);rw[QI h,QI e]
theorem JO(a:Int)(b:Str):decide ((Sum.inl a:Key)=Sum.inr b)=false:=QI (λq=>nomatch q)
theorem JN(a:Str)(b:Int):decide ((Sum.inr a:Key)=Sum.inl b)=false:=QI (λq=>nomatch q)
noncomputable def bO(prog:Program)(w:World):PySem.KeyKind prog w Key where
 is:=t7
 hash:=JQ w
 inj:=λv a b ha hb=>by
  rcases cp ha with⟨i,t,rfl,rfl⟩ |⟨x,t,rfl,rfl⟩
  ·rcases cp hb with⟨j,u,rfl,e⟩ |⟨y,u,rfl,e⟩
   ·injection e with e1 _;rw[e1]
   ·exact nomatch e
  ·rcases cp hb with⟨j,u,rfl,e⟩ |⟨y,u,rfl,e⟩
   ·exact nomatch e
   ·injection e with e1 _;rw[e1]
 byValue:=λk v h=>by
  rcases cp h with⟨i,t,rfl,rfl⟩ |⟨x,t,rfl,rfl⟩ <;> rfl
 pyHash:=λhv h=>by
  rcases cp hv with⟨i,t,rfl,rfl⟩ |⟨x,t,rfl,rfl⟩
  ·exact wpAny_pyHash_int h
  ·exact wpAny_pyHash_str h
 eqBool:=λhu hv h=>by
  rcases cp hu with⟨i,t,rfl,rfl⟩ |⟨x,t,rfl,rfl⟩
  ·rcases cp hv with⟨j,u,rfl,rfl⟩ |⟨y,u,rfl,rfl⟩
   ·rw[JP] at h;exact wpAny_eqBool_int h
   ·rw[JO] at h;exact SeqAt.EqAt.int_str i t y u _ _ _ _ h
  ·rcases cp hv with⟨j,u,rfl,rfl⟩ |⟨y,u,rfl,rfl⟩
   ·rw[JN] at h;exact SeqAt.EqAt.str_int x t j u _ _ _ _ h
   ·rw[JM] at h;exact wpAny_eqBool_str h
 «strs»:=λk x t v h=>by
  rcases cp h with⟨i,u,rfl,e⟩ |⟨y,u,rfl,e⟩
  ·exact nomatch e
  ·injection e with e1 _
   subst e1;cases v <;> rfl
theorem xt(prog:Program)(w:World)(i:Int)(t:Tok):(bO prog w).is (.inl i) (.int i t)=true:=Bp i t
theorem xr(prog:Program)(w:World)(x:Str)(t:Tok):(bO prog w).is (.inr x) (.str x t)=true:=Bo x t
inductive V where
 | cw | bl (b:Bool) | int (i:Int) | str (x:Str) | byt (b:Array UInt8) | flt (b:UInt64) | ref (a:Addr) | ty (n:String)
 deriving DecidableEq
def RelV:V->Value->Prop
 | .cw,u=>u=Value.none
 | .bl b,u=>u=Value.bool b
 | .int i,u=>∃t,u=Value.int i t
 | .str x,u=>∃t,u=Value.str x t
 | .byt b,u=>∃t,u=Value.bytes b t
 | .flt b,u=>∃t,u=Value.float b t
 | .ref a,u=>u=Value.ref a
 | .ty n,u=>u=Value.type n
abbrev Vals:List V->List Value->Prop:=Paired RelV
theorem Vals.length(r:Vals xs us):xs.length=us.length:=Paired.length r
theorem Vals.get:∀{xs:List V} {us:List Value} {i:Nat} {x:V},Vals xs us->xs[i]?=some x->∃u,us[i]?=some u/\RelV x u
 | _,_,_,_,.nil,e=>by simp at e
 | _,_,0,_,.cons r _,e=>by simp at e;subst e;exact⟨_,rfl,r⟩
 | _,_,i+1,x,.cons _ t,e=>by
  obtain⟨u,h1,h2⟩:=Vals.get (i:=i) (x:=x) t (by simpa using e);exact⟨u,by simpa using h1,h2⟩
theorem Vals.set(r:RelV x u):∀{xs:List V} {us:List Value} (i:Nat),Vals xs us->Vals (xs.set i x) (us.set i u)
 | _,_,_,.nil=>.nil
 | _,_,0,.cons _ t=>.cons r t
 | _,_,i+1,.cons q t=>.cons q (Vals.set r i t)
theorem Vals.append{xs ys:List V}{us ws:List Value}(a:Vals xs us)(s:Vals ys ws):Vals (xs++ys) (us++ws):=by
 induction a with
 | nil=>exact s
 | cons r t ih=>exact .cons r ih
theorem Vals.take:∀{xs:List V} {us:List Value} (n:Nat),Vals xs us->Vals (xs.take n) (us.take n)
 | _,_,0,_=>.nil
 | _,_,_+1,.nil=>.nil
 | _,_,n+1,.cons r t=>.cons r (Vals.take n t)
theorem Vals.drop:∀{xs:List V} {us:List Value} (n:Nat),Vals xs us->Vals (xs.drop n) (us.drop n)
 | _,_,0,r=>r
 | _,_,_+1,.nil=>.nil
 | _,_,n+1,.cons _ t=>Vals.drop n t
def pP:Option V->Option Value->Prop
 | some v,some u=>RelV v u
 | none,none=>True
 | _,_=>False
def KV{κ:Type}:List (κ×V)->List (κ×Value)->Prop:=Paired λ(p:κ×V)(q:κ×Value)=>p.1=q.1/\RelV p.2 q.2
noncomputable def kV:Key->V
 | .inl i=>.int i
 | .inr x=>.str x
inductive HO where
 | lst (xs:List V)
 | tup (xs:List V)
 | dK (kvs:List (Key×V)) | dT (kvs:List (List Key×V))
 | set (S:Int->Bool) (n:Nat)
 | ins (C dx:Addr) (fs:List (Str×V))
 | own (x:Addr)
 | xd (fs:List (Str×V))
 | met (f x:Addr)
 | tL (lo hi:Int)
 | ph (o:Obj) (u:HO)
 | G2 (ps:Array Value)
 | ext (φ:Heap->Prop)
 | Ah (φ:World->Heap->Prop)
 | tb
abbrev Hp:=Addr->Option HO
noncomputable def upd(H:Hp)(a:Addr)(o:HO):Hp:=λb=>if b=a then some o else H b
theorem aO:upd H a o a=some o:=by unfold upd;rw[P0 rfl]
theorem av(h:b≠a):upd H a o b=H b:=by unfold upd;rw[P7 h]
theorem Ml{H:Hp}{a b:Addr}{o u:HO}(h:H a=some o)(h':H b=some u)(d:o≠u):a≠b:=by
 intro e;subst e;rw[h] at h';exact d (Option.some.inj h')
theorem aI{H:Hp}{a b:Addr}{o:HO}(h:H a=some o)(h':H b=none):a≠b:=by
 intro e;subst e;rw[h] at h';cases h'
def yc(h:Heap)(a:Addr)(items:Array Value):Prop:=∃o,h.get? a=some o/\o.cls=.type "tuple"/\(∃n,o.data=.seq items n)/\o.dict=none
theorem yc.tup(x:yc h a items):IsTup h a items:=let⟨o,e,c,d,_⟩:=x;⟨o,e,c,d⟩
theorem yc.new(h:Heap)(items:Array Value):yc (h.push {cls:=.type "tuple",data:=.seq items}) h.objs.size items:=⟨_,Qt _ rfl,rfl,⟨_,rfl⟩,rfl⟩
section
variable (P:Program) (w:World)
def cg(H:Hp)(h:Heap)(a:Addr):HO->Prop
 | .lst xs=>xs.length<=sizeLine/\∃(its:List Value)(n:Nat),Vals xs its/\h.get? a=some {cls:=.type "list",data:=.seq its.toArray n}
 | .tup xs=>xs.length<=sizeLine/\∃its:List Value,Vals xs its/\yc h a its.toArray
 | .dK kvs=>kvs.length<=sizeLine/\(a==sysModules)=false/\∃vs,KV kvs vs/\h.DictOf (bO P w) a vs
 | .dT kvs=>kvs.length<=sizeLine/\(a==sysModules)=false/\∃xs:List (List Key×Addr×Value),
   Paired (λ(p:List Key×V)(q:List Key×Addr×Value)=>p.1=q.1/\H q.2.1=some (.tup (p.1.map kV))/\RelV p.2 q.2.2) kvs xs/\
   ∃o es ep,h.get? a=some o/\o.ExactDict/\o.data=.dict es ep/\es.toList=xs.map (entryOfKey (tupleKind (bO P w)))/\(xs.map (·.1)).Nodup
 | .set S n=>h.SetOf (intKind P w) a S n
 | .ins C dx fs=>H dx=some (.own a)/\fs.length<=1000/\dx≠a/\h.get? a=some (PySem.W.instObj C dx)/\
   ∃mA,h.Ns1 dx mA/\(∀f,pP (fs.lookup f) (mA f))/\PySem.Within mA (fs.map (·.1))
 | .own _=>∃o,h.get? a=some o
 | .xd fs=>∃mA,h.Ns1 a mA/\∀f,pP (fs.lookup f) (mA f)
 | .tL lo hi=>∃t u v,h.get? a=some {cls:=.type "range",data:=.fields #[.int lo t,.int hi u,.int 1 v]}
 | .ph o u=>h.get? a=some o/\cg H h a u
 | .G2 ps=>h.get? a=some {cls:=.none,data:=.fields ps}
 | .met f x=>h.get? a=some (PySem.W.methodObj (.ref f) (.ref x))
 | .ext φ=>φ h/\(∃o,h.get? a=some o)/\∀h1 h2:Heap,φ h1->(∀o,h1.get? a=some o->h2.get? a=some o)->φ h2
 | .Ah φ=>φ w h/\(∃o,h.get? a=some o)/\∀h1 h2:Heap,φ w h1->(∀o,h1.get? a=some o->h2.get? a=some o)->φ w h2
 | .tb=>∃ps:Array Value,h.get? a=some {cls:=.none,data:=.fields ps}/\TriplesOk ps.toList/\∀pos c,codeAmong pos ps.toList=some c->∃c' oc vs q t,c=.ref c'/\H c'=some (.ph oc (.own a))/\oc.data=.fields vs/\vs[1]?=some (.str q t)
def kh(H:Hp)(h:Heap):Prop:=∀a o,H a=some o->cg P w H h a o
end
theorem cg.lt(x:cg P w H h a o):a < h.objs.size:=by
 cases o with
 | lst xs=>obtain⟨_,_,_,_,e⟩:=x;exact Qf e
 | tup xs=>obtain⟨_,_,_,p⟩:=x;exact p.tup.lt
 | dK kvs=>obtain⟨_,_,_,_,o,_,_,e,_⟩:=x;exact Qf e
 | dT kvs=>obtain⟨_,_,_,_,o,_,_,e,_⟩:=x;exact Qf e
 | set S n=>obtain⟨o,_,_,_,e,_⟩:=x;exact Qf e
 | ins C dx fs=>obtain⟨_,_,_,e,_⟩:=x;exact Qf e
 | own y=>obtain⟨_,e⟩:=x;exact Qf e
 | xd fs=>obtain⟨_,⟨_,_,_,e,_⟩,_⟩:=x;exact Qf e
 | tL lo hi=>obtain⟨_,_,_,e⟩:=x;exact Qf e
 | ph ob u=>obtain⟨e,_⟩:=x;exact Qf e
 | G2 ps=>exact Qf (show h.get? a=some _ from x)
 | met f y=>exact Qf (show h.get? a=some _ from x)
 | ext φ=>obtain⟨_,⟨_,e⟩,_⟩:=x;exact Qf e
 | Ah φ=>obtain⟨_,⟨_,e⟩,_⟩:=x;exact Qf e
 | tb=>obtain⟨_,e,_⟩:=x;exact Qf e
theorem Paired.Mo{α β:Type}{F G:α->β->Prop}{l₁:List α}{l₂:List β}(a:Paired F l₁ l₂)(f:∀a b,F a b->G a b):Paired G l₁ l₂:=by
 induction a with
 | nil=>exact .nil
 | cons r t ih=>exact .cons (f _ _ r) ih
theorem cg.nE(x:cg P w H h a o)(k:∀b u,(b=a\/H b=some (.own a))->h.get? b=some u->h'.get? b=some u)
  (ho:∀b,H b=some (.own a)->H' b=some (.own a)) (ht:∀b xs,H b=some (.tup xs)->H' b=some (.tup xs)) (hf:∀b o,H b=some (.ph o (.own a))->H' b=some (.ph o (.own a)):=by exactλ_ _ q=>q):cg P w H' h' a o:=by
 induction o with
 | lst xs=>obtain⟨z,its,n,r,e⟩:=x;exact⟨z,its,n,r,k _ _ (.inl rfl) e⟩
 | tup xs=>obtain⟨z,its,r,ob,e,c⟩:=x;exact⟨z,its,r,ob,k _ _ (.inl rfl) e,c⟩
 | dK kvs=>obtain⟨z,y,vs,r,ob,es,ep,e,c⟩:=x;exact⟨z,y,vs,r,ob,es,ep,k _ _ (.inl rfl) e,c⟩
 | dT kvs=>
  obtain⟨z,y,xs,r,ob,es,ep,e,c⟩:=x;exact⟨z,y,xs,Paired.Mo r λp q z=>⟨z.1,ht _ _ z.2.1,z.2.2⟩,ob,es,ep,k _ _ (.inl rfl) e,c⟩
 | set S n=>obtain⟨ob,es,ep,t,e,c⟩:=x;exact⟨ob,es,ep,t,k _ _ (.inl rfl) e,c⟩
 | ins C dx fs=>
  obtain⟨d,z,ne,e,mA,⟨od,es,ep,e2,c⟩,r⟩:=x;exact⟨ho _ d,z,ne,k _ _ (.inl rfl) e,mA,⟨od,es,ep,k _ _ (.inr d) e2,c⟩,r⟩
 | own y=>obtain⟨ob,e⟩:=x;exact⟨ob,k _ _ (.inl rfl) e⟩
 | xd fs=>obtain⟨mA,⟨od,es,ep,e,c⟩,r⟩:=x;exact⟨mA,⟨od,es,ep,k _ _ (.inl rfl) e,c⟩,r⟩
 | tL lo hi=>obtain⟨t,u,v,e⟩:=x;exact⟨t,u,v,k _ _ (.inl rfl) e⟩
 | ph ob u ih=>obtain⟨e,q⟩:=x;exact⟨k _ _ (.inl rfl) e,ih q⟩
 | G2 ps=>
  have e:h.get? a=some {cls:=.none,data:=.fields ps}:=x;show h'.get? a=some {cls:=.none,data:=.fields ps};exact k a _ (.inl rfl) e
 | met f y=>
  have e:h.get? a=some (PySem.W.methodObj (.ref f) (.ref y)):=x;show h'.get? a=some (PySem.W.methodObj (.ref f) (.ref y));exact k a _ (.inl rfl) e
 | ext φ=>obtain⟨p,⟨o,e⟩,st⟩:=x;exact⟨st _ _ p λo q=>k _ _ (.inl rfl) q,⟨o,k _ _ (.inl rfl) e⟩,st⟩
 | Ah φ=>obtain⟨p,⟨o,e⟩,st⟩:=x;exact⟨st _ _ p λo q=>k _ _ (.inl rfl) q,⟨o,k _ _ (.inl rfl) e⟩,st⟩
 | tb=>
  obtain⟨ps,e,t,f⟩:=x;exact⟨ps,k _ _ (.inl rfl) e,t,λpos c ec=>let⟨c',oc,vs,q,tk,e1,e2,r⟩:=f pos c ec;⟨c',oc,vs,q,tk,e1,hf _ _ e2,r⟩⟩
theorem kh.lt(x:kh P w H h)(e:H a=some o):a < h.objs.size:=(x a o e).lt
theorem kh.fresh(x:kh P w H h)(e:h.objs.size<=a):H a=none:=by
 cases q:H a with
 | none=>rfl
 | some u=>exact absurd (Qq (x.lt q) e) (R9 _)
theorem kh.kept(x:kh P w H h)(k:∀b u,h.get? b=some u->h'.get? b=some u):kh P w H h':=λa o e=>
 (x a o e).nE (λb u _ q=>k b u q) (λ_ q=>q) λ_ _ q=>q
theorem kh.laid(x:kh P w H h)(k:∀b u,h.get? b=some u->h'.get? b=some u)(hp:h.objs.size<=a)(new:cg P w (upd H a o) h' a o):kh P w (upd H a o) h':=λb u e=>by
 have hn:=x.fresh hp
 by_cases hb:b=a
 ·subst hb;rw[aO] at e;cases e;exact new
 ·rw[av hb] at e;exact(x b u e).nE (λc v _ q=>k c v q) (λc q=>by rw[av (aI q hn)];exact q) (λc xs q=>by rw[av (aI q hn)];exact q) λc xs q=>by rw[av (aI q hn)];exact q
def Rd(H:Hp)(a:Addr)(u:HO):Prop:=H a=some u\/∃o,H a=some (.ph o u)
theorem Rd.ok(r:Rd H a u)(x:kh P w H h):cg P w H h a u:=by
 rcases r with r |⟨o,r⟩
 ·exact x a u r
 ·obtain⟨_,q⟩:=x a _ r;exact q
def Ng:Option HO->Prop
 | some (.lst _)=>True
 | some (.dK _)=>True
 | some (.dT _)=>True
 | some (.set _ _)=>True
 | some (.ins _ _ _)=>True
 | some (.ext _)=>True
 | some (.Ah _)=>True
 | _=>False
theorem kh.write(ok:kh P w H h)(mu:Ng (H x))(he:e=x\/H e=some (.own x))(k:∀b u,b≠e->h.get? b=some u->h'.get? b=some u)(heo:∃u,h'.get? e=some u)
  (new:cg P w (upd H x o') h' x o'):kh P w (upd H x o') h':=λb u q=>by
 have nown:∀c y,H c=some (.own y)->c≠x:=λc y r z=>by subst z;rw[r] at mu;exact mu
 have ntup:∀c xs,H c=some (.tup xs)->c≠x:=λc xs r z=>by subst z;rw[r] at mu;exact mu
 by_cases hb:b=x
 ·subst hb;rw[aO] at q;cases q;exact new
 ·rw[av hb] at q
  by_cases hbe:b=e
  ·have q':H b=some (.own x):=by
    rcases he with z | z
    ·exact absurd (hbe.trans z) hb
    ·rw[hbe];exact z
   rw[q] at q';cases q';obtain⟨v,hv⟩:=heo;exact⟨v,by rw[hbe];exact hv⟩
  ·refine(ok b u q).nE (λc v hc r=>k c v ?_ r) (λc r=>by rw[av (nown c b r)];exact r) (λc xs r=>by rw[av (ntup c xs r)];exact r) λc o r=>by rw[av (λz=>by subst z;rw[r] at mu;exact mu)];exact r
   rcases hc with rfl | hc
   ·exact hbe
   ·rintro rfl;rcases he with z | z
    ·exact nown c b hc z
    ·rw[hc] at z;cases z;exact hb rfl
structure Un(fs ex:List Addr)(H H':Hp)(h h':Heap):Prop where
 keep:∀b o,h.get? b=some o->H b=none->b∉fs->b∉ex->h'.get? b=some o
 slot:∀b o,h.get? b=some o->H b=none->b∈fs->b∉ex->∃sl,h'.get? b=some {o with slots:=sl}
 free:∀b o,h.get? b=some o->H b=none->b∉ex->H' b=none
 there:∀b o,h.get? b=some o->b∉ex->∃o',h'.get? b=some o'
 nA:∀b xs,H b=some (.tup xs)->H' b=some (.tup xs)
 mL:∀b o u,H b=some (.ph o u)->H' b=some (.ph o u)
 nB:∀b ps,H b=some (.G2 ps)->∃more,H' b=some (.G2 (ps++more))
theorem Un.any(u:Un fs ex H H1 h h1)(q:h.get? b=some ob)(n:H b=none)(hx:b∉ex):∃sl,h1.get? b=some {ob with slots:=sl}:=by
 by_cases hb:b∈fs
 ·exact u.slot b ob q n hb hx
 ·exact⟨ob.slots,u.keep b ob q n hb hx⟩
theorem Un.kept(k:∀b u,h.get? b=some u->h'.get? b=some u):Un fs ex H H h h':=
 ⟨λb ob q _ _ _=>k b ob q,λb ob q _ _ _=>⟨ob.slots,k b ob q⟩,λ_ _ _ n _=>n,λb ob q _=>⟨ob,k b ob q⟩,λ_ _ q=>q,λ_ _ _ q=>q,λ_ ps q=>⟨#[],by rw[q];simp⟩⟩
theorem Un.refl:Un fs ex H H h h:=Un.kept λ_ _ q=>q
theorem Un.laid(k:∀b u,h.get? b=some u->h'.get? b=some u)(hp:h.objs.size<=a)(hn:H a=none):Un fs ex H (upd H a o) h h' where
 keep:=λb u q _ _ _=>k b u q
 slot:=λb u q _ _ _=>⟨u.slots,k b u q⟩
 free:=λb u q n _=>by rw[av (Qs (Qq (Qf q) hp))];exact n
 there:=λb u q _=>⟨u,k b u q⟩
 nA:=λb xs q=>by rw[av (aI q hn)];exact q
 mL:=λb u xs q=>by rw[av (aI q hn)];exact q
 nB:=λb ps q=>⟨#[],by rw[av (aI q hn),q];simp⟩
theorem Un.write(mu:Ng (H x))(he:e=x\/H e=some (.own x))(k:∀b u,b≠e->h.get? b=some u->h'.get? b=some u)(heo:∃u,h'.get? e=some u):Un fs ex H (upd H x o) h h':=by
 have hx:∀b,H b=none->b≠x:=λb n z=>by subst z;rw[n] at mu;exact mu
 have hb:∀b,H b=none->b≠e:=λb n z=>by
  subst z;rcases he with r | r
  ·exact hx b n r
  ·rw[n] at r;cases r
 have hm:∀b u,H b=some u->¬Ng (some u)->b≠x:=λb u q nm z=>by subst z;rw[q] at mu;exact nm mu
 refine⟨λb u q n _ _=>k b u (hb b n) q,λb u q n _ _=>⟨u.slots,k b u (hb b n) q⟩,λb u q n _=>by rw[av (hx b n)];exact n,λb u q _=>?_,
  λb xs q=>by rw[av (hm b _ q λz=>z)];exact q,λb u xs q=>by rw[av (hm b _ q λz=>z)];exact q,λb ps q=>⟨#[],by rw[av (hm b _ q λz=>z),q];simp⟩⟩
 by_cases hbe:b=e
 ·subst hbe;exact heo
 ·exact⟨u,k b u hbe q⟩
noncomputable def Nt(h:Heap)(H:Hp):List Addr:=(List.range h.objs.size).filter λa=>(H a).isSome
noncomputable def vJ(h:Heap)(H:Hp):Heap:=PySem.W.hideAll h (Nt h H)
theorem Br(h:Heap)(H:Hp):(vJ h H).objs.size=h.objs.size:=PySem.W.hideAll_size _ _
theorem DX(e:h.get? b=some o)(n:H b=none):(vJ h H).get? b=some o:=
 SN _ e λhm=>by
  have q:(H b).isSome=true:=(SK.mp hm).2;rw[n] at q;simp at q
theorem Gh(e:(vJ h H).get? b=some o):h.get? b=some o/\H b=none:=by
 have e':h.get? b=some o:=SU (Nt h H) e;refine⟨e',?_⟩;cases q:H b with
 | none=>rfl
 | some x=>
  have hm:b∈Nt h H:=SK.mpr ⟨Q1.mpr (Qf e'),by simp[q]⟩;have z:(vJ h H).get? b=none:=Rb (Nt h H) hm;rw[z] at e;cases e
structure Mod(K:FR)(mg:Str->Option Value)(base:Heap):Prop where
 Ny:K.In base
 glob:base.Ns mainGlobals mg
 blt:∃mb,base.Ns builtinsNs mb/\∀x:Str,x≠"__name__"->mb x=bootBuiltins x
 nolimit:base.NoLimit
structure Cx where
 prog:Program
 w:World
 K:FR
 mg:Str->Option Value
 base:Heap
 A:Around
 N:List Str
 s₀:Shared
 H₀:Hp
 env:Env
 outer:List Env
 stack:List Env
 ex:List Addr
 fn:Str->Bool
 calm:Bool
 pn:List (Addr×Obj)
 xe:Value->Shared->Prop
noncomputable def kc(l:List Env):List Addr:=l.filterMap (·.frame)
abbrev Cx.fs(X:Cx):List Addr:=kc X.outer
def KS(sc:Scope)(x:Str):Prop:=sc.names.lookup x=some .local\/sc.names.lookup x=some .cell\/sc.names.lookup x=some .free
def Loc(sc:Scope)(x:Str):Prop:=sc.names.lookup x=some .local\/sc.names.lookup x=some .cell
def Look(env:Env)(h:Heap)(m:Str->Option Value)(x:Str)(u:Value):Prop:=
 (env.kindOf x=some .local/\m x=some u)\/((env.kindOf x=some .cell\/env.kindOf x=some .free)/\∃c,env.cells.lookup x=some c/\h.IsCell c (some u))
structure Cx.Ok(X:Cx):Prop where
 mod:Mod X.K X.mg X.base
 kind:X.env.scope.kind=.function
 glob:X.env.globals=mainGlobals
 blt:X.env.builtins=builtinsNs
 above:X.s₀.heap.objs.size<=X.env.locals
 inj:∀x y c,X.env.cells.lookup x=some c->X.env.cells.lookup y=some c->x=y
 has:∀x,(X.env.kindOf x=some .cell\/X.env.kindOf x=some .free)->∃c,X.env.cells.lookup x=some c
 Lb:∀x c,X.fn x=true->X.env.cells.lookup x=some c->X.s₀.heap.objs.size<=c
 hd:X.calm=true->X.A.handled=none
 frames:X.A.frames=some X.stack
 LD:X.stack=X.outer\/(X.stack=X.env::X.outer/\X.env.frame=some X.env.locals)
 OI:∀b∈X.ex,b≠X.env.locals/\∀x c,X.env.cells.lookup x=some c->c≠b
 bs:∀b o,X.base.get? b=some o->X.s₀.heap.get? b=some o/\X.H₀ b=none
 E8:X.base.objs.size<=X.s₀.heap.objs.size
 Be:∀b o,X.base.get? b=some o->b∉X.ex
 Ec:∀b∈X.ex,b∉X.fs
 oh:X.s₀.heap.FunFrames X.base X.outer
 Hm:∀b∈X.fs,X.H₀ b=none
structure Inv(X:Cx)(pins:List (Addr×Obj))(σ:List (Option V))(H:Hp)(s:Shared):Prop where
 ok:X.Ok
 os:s.os=X.s₀.os
 bare:AllBare s.gens
 base:Un X.fs X.ex X.H₀ H X.s₀.heap s.heap
 loc:∃m,s.heap.Ns X.env.locals m/\∀(i:Nat)(x:Str)(v:V),X.N[i]?=some x->σ[i]?=some (some v)->KS X.env.scope x->∃u,RelV v u/\Look X.env s.heap m x u
 cell:∀x c,X.env.cells.lookup x=some c->∃v,s.heap.IsCell c v
 free:H X.env.locals=none
 gq:∀x c,X.env.cells.lookup x=some c->H c=none
 pin:∀p∈X.pn++pins,s.heap.get? p.1=some p.2/\H p.1=none/\p.1≠X.env.locals/\p.1∉X.fs/\∀v,p.2.data≠.cell v
 ba:kh X.prog X.w H s.heap
 len:σ.length=X.N.length
section
variable {X:Cx} {pins:List (Addr×Obj)} {σ:List (Option V)} {H H':Hp} {s:Shared} {h':Heap}
theorem Cx.Ok.Oy(ok:X.Ok)(e:X.base.get? b=some o):b∉X.fs:=λhb=>by
 have:=(ok.oh.mem hb).1;rw[e] at this;cases this
theorem Inv.bs(I:Inv X pins σ H s):∀b o,X.base.get? b=some o->s.heap.get? b=some o/\H b=none:=λb o e=>
 ⟨I.base.keep b o (I.ok.bs b o e).1 (I.ok.bs b o e).2 (I.ok.Oy e) (I.ok.Be b o e),I.base.free b o (I.ok.bs b o e).1 (I.ok.bs b o e).2 (I.ok.Be b o e)⟩
theorem Inv.bk(I:Inv X pins σ H s):∀b o,X.base.get? b=some o->s.heap.get? b=some o:=λb o e=>(I.bs b o e).1
theorem Inv.mod(I:Inv X pins σ H s):Mod X.K X.mg X.base:=I.ok.mod
theorem Inv.z7(I:Inv X pins σ H s):X.K.In s.heap:=I.ok.mod.Ny.keeps I.bk
theorem Inv.nolimit(I:Inv X pins σ H s):s.heap.NoLimit:=I.ok.mod.nolimit.keeps I.bk
theorem Inv.lt(I:Inv X pins σ H s):X.env.locals < s.heap.objs.size:=let⟨_,hn,_⟩:=I.loc;hn.lt
theorem Inv.sz(I:Inv X pins σ H s):X.s₀.heap.objs.size<=s.heap.objs.size:=P6 I.ok.above (RK I.lt)
theorem Inv.Ox(I:Inv X pins σ H s)(h:s.heap.objs.size<=a):a∉X.fs:=λhb=>by
 obtain⟨_,o,ho,_⟩:=I.ok.oh.mem hb;exact absurd (Qq (Qf ho) (P6 I.sz h)) (R9 _)
theorem Inv.Es(I:Inv X pins σ H s):∀x c,X.env.cells.lookup x=some c->c≠X.env.locals:=λx c e z=>by
 obtain⟨v,o,ho,hd⟩:=I.cell x c e;obtain⟨m,⟨o',es,ep,ho',hd',_⟩,_⟩:=I.loc;rw[z,ho'] at ho;cases ho;rw[hd'] at hd;cases hd
theorem Inv.oh(I:Inv X pins σ H s):s.heap.FunFrames X.base X.outer:=by
 have all:∀(l:List Env),(∀b∈kc l,b∈X.fs)->X.s₀.heap.FunFrames X.base l->s.heap.FunFrames X.base l:=by
  intro l
  induction l with
  | nil=>intro _ _;trivial
  | cons env r ih=>
   intro hs hl;obtain⟨hk,⟨L,o,hf,hn,ho,hd⟩,hr⟩:=hl;have hL:L∈X.fs:=hs L (by unfold kc;rw[QW,hf];exact P1);obtain⟨sl,e⟩:=I.base.slot L o ho (I.ok.Hm L hL) hL λz=>I.ok.Ec L z hL;exact⟨hk,⟨L,_,hf,hn,e,hd⟩,ih (λb hb=>hs b (by unfold kc;rw[QW,hf];exact P4 _ hb)) hr⟩
 exact all X.outer (λ_ hb=>hb) I.ok.oh
theorem Inv.stack(I:Inv X pins σ H s):s.heap.FunFrames X.base X.stack:=by
 rcases I.ok.LD with e |⟨e,hf⟩
 ·rw[e];exact I.oh
 ·rw[e];obtain⟨m,hn,_⟩:=I.loc;refine .cons (by rw[I.ok.kind];decide) hf hn ?_ I.oh;exact Heap.get?_none_of_le (P6 I.ok.E8 I.ok.above)
theorem Inv.qw(I:Inv X pins σ H s):∀b∈kc X.stack,b∈X.env.locals::X.fs:=λb hb=>by
 rcases I.ok.LD with e |⟨e,hf⟩
 ·rw[e] at hb;exact P4 _ hb
 ·rw[e] at hb;unfold kc at hb;rw[QW,hf] at hb;exact hb
theorem Inv.pS(I:Inv X pins σ H s):∀b∈kc X.stack,H b=none:=λb hb=>by
 rcases P5.mp (I.qw b hb) with e | hb
 ·rw[e];exact I.free
 ·obtain⟨_,o,ho,_⟩:=I.ok.oh.mem hb;exact I.base.free b o ho (I.ok.Hm b hb) λz=>I.ok.Ec b z hb
theorem Inv.step{g':Array GenState}{t':Nat}{d':Drawn}{ch:List Addr}(I:Inv X pins σ H s)
  (hch:∀b∈ch,(b∈X.ex\/X.s₀.heap.objs.size<=b)/\b≠X.env.locals/\(∀x c,X.env.cells.lookup x=some c->c≠b)/\∀p∈X.pn++pins,p.1≠b)
  (keep:∀b o,b≠X.env.locals->b∉X.fs->b∉ch->s.heap.get? b=some o->H b=none->h'.get? b=some o)
  (slot:∀b o,b≠X.env.locals->b∈X.fs->b∉ch->s.heap.get? b=some o->H b=none->∃sl,h'.get? b=some {o with slots:=sl}) (free:∀b o,b∉ch->s.heap.get? b=some o->H b=none->H' b=none)
  (there:∀b o,b∉ch->s.heap.get? b=some o->∃o',h'.get? b=some o')
  (nA:∀b xs,H b=some (.tup xs)->H' b=some (.tup xs)) (mL:∀b o u,H b=some (.ph o u)->H' b=some (.ph o u)) (nB:∀b ps,H b=some (.G2 ps)->∃more,H' b=some (.G2 (ps++more)))
  (ns:∀m,s.heap.Ns X.env.locals m->h'.Ns X.env.locals m) (ba:kh X.prog X.w H' h') (hg:AllBare g'):
  Inv X pins σ H' {s with heap:=h',gens:=g',drawn:=d',toks:=t'}:=by
 have neL:∀b o,X.s₀.heap.get? b=some o->b≠X.env.locals:=λb o e=>Qs (Qq (Qf e) I.ok.above);have neC:∀b o,X.s₀.heap.get? b=some o->b∉X.ex->b∉ch:=λb o e hx hb=>by
  rcases(hch b hb).1 with z | z
  ·exact hx z
  ·exact absurd (Qq (Qf e) z) (R9 _)
 have cellK:∀x c,X.env.cells.lookup x=some c->∀v,s.heap.IsCell c v->h'.IsCell c v:=λx c e v ⟨o,ho,hd⟩=>by
  have nch:c∉ch:=λz=>(hch c z).2.2.1 x c e rfl
  by_cases hc:c∈X.fs
  ·obtain⟨sl,q⟩:=slot c o (I.Es x c e) hc nch ho (I.gq x c e);exact⟨_,q,hd⟩
  ·exact⟨o,keep c o (I.Es x c e) hc nch ho (I.gq x c e),hd⟩
 refine⟨I.ok,I.os,hg,⟨λb o e n hb hx=>?_,λb o e n hb hx=>?_,λb o e n hx=>?_,λb o e hx=>?_,λb xs e=>nA b xs (I.base.nA b xs e),λb o xs e=>mL b o xs (I.base.mL b o xs e),λb ps e=>?_⟩,?_,λx c e=>?_,?_,λx c e=>?_,λp hp=>?_,ba,I.len⟩
 ·exact keep b o (neL b o e) hb (neC b o e hx) (I.base.keep b o e n hb hx) (I.base.free b o e n hx)
 ·obtain⟨sl,e1⟩:=I.base.slot b o e n hb hx;obtain⟨sl',e2⟩:=slot b _ (neL b o e) hb (neC b o e hx) e1 (I.base.free b o e n hx);exact⟨sl',e2⟩
 ·obtain⟨o',e1⟩:=I.base.there b o e hx;exact free b o' (neC b o e hx) e1 (I.base.free b o e n hx)
 ·obtain⟨o',e1⟩:=I.base.there b o e hx;exact there b o' (neC b o e hx) e1
 ·obtain⟨m1,e1⟩:=I.base.nB b ps e;obtain⟨m2,e2⟩:=nB b _ e1;exact⟨m1++m2,by rw[e2,Array.append_assoc]⟩
 ·obtain⟨m,hn,hl⟩:=I.loc;refine⟨m,ns m hn,λi x v e1 e2 e3=>?_⟩;obtain⟨u,r,l⟩:=hl i x v e1 e2 e3;refine⟨u,r,?_⟩;rcases l with l |⟨k,c,e,z⟩
  ·exact .inl l
  ·exact .inr ⟨k,c,e,cellK x c e _ z⟩
 ·obtain⟨v,z⟩:=I.cell x c e;exact⟨v,cellK x c e v z⟩
 ·obtain⟨m,⟨o,_,_,ho,_⟩,_⟩:=I.loc;exact free _ o (λz=>(hch _ z).2.1 rfl) ho I.free
 ·obtain⟨v,o,ho,hd⟩:=I.cell x c e;exact free c o (λz=>(hch c z).2.2.1 x c e rfl) ho (I.gq x c e)
 ·obtain⟨e,n,ne,nf,d⟩:=I.pin p hp;have nch:p.1∉ch:=λz=>(hch p.1 z).2.2.2 p hp rfl;exact⟨keep p.1 p.2 ne nf nch e n,free p.1 p.2 nch e n,ne,nf,d⟩
theorem Inv.un{t':Nat}(I:Inv X pins σ H s)(u:Un X.fs [] H H' s.heap h')(ba:kh X.prog X.w H' h'):Inv X pins σ H' {s with heap:=h',toks:=t'}:=by
 obtain⟨m,⟨o,es,ep,ho,r⟩,_⟩:=id I.loc;obtain⟨sl,hL⟩:=u.any ho I.free (by simp);exact I.step (g':=s.gens) (d':=s.drawn) (ch:=[]) (λ_ z=>nomatch z) (λb o _ hb _ e n=>u.keep b o e n hb (by simp)) (λb o _ hb _ e n=>u.slot b o e n hb (by simp)) (λb o _ e n=>u.free b o e n (by simp)) (λb o _ e=>u.there b o e (by simp)) u.nA u.mL u.nB (λm' hm=>by
  obtain⟨o',es',ep',ho',r'⟩:=hm;rw[ho] at ho';cases ho';exact⟨_,es',ep',hL,r'⟩) ba I.bare
theorem Inv.call{g':Array GenState}{t':Nat}{d':Drawn}{ch:List Addr}(I:Inv X pins σ H s)(u:Un (kc X.stack) ch H H' s.heap h')(ba:kh X.prog X.w H' h')(hg:AllBare g')
  (hch:∀b∈ch,(b∈X.ex\/X.s₀.heap.objs.size<=b)/\b≠X.env.locals/\(∀x c,X.env.cells.lookup x=some c->c≠b)/\∀p∈X.pn++pins,p.1≠b):
  Inv X pins σ H' {s with heap:=h',gens:=g',drawn:=d',toks:=t'}:=by
 obtain⟨m,⟨o,es,ep,ho,r⟩,_⟩:=id I.loc;obtain⟨sl,hL⟩:=u.any ho I.free λz=>(hch _ z).2.1 rfl;exact I.step (ch:=ch) hch (λb o hL hb hc e n=>u.keep b o e n (λz=>(P5.mp (I.qw b z)).elim hL hb) hc) (λb o _ _ hc e n=>u.any e n hc) (λb o hc e n=>u.free b o e n hc) (λb o hc e=>u.there b o e hc) u.nA u.mL u.nB (λm' hm=>by
  obtain⟨o',es',ep',ho',r'⟩:=hm;rw[ho] at ho';cases ho';exact⟨_,es',ep',hL,r'⟩) ba hg
theorem Inv.turned{t':Nat}{it:Addr}(I:Inv X pins σ H s)(k:∀b o,b≠it->s.heap.get? b=some o->h'.get? b=some o)(hn:H it=none)(hL:it≠X.env.locals)
  (h1:it∈X.ex\/X.s₀.heap.objs.size<=it) (h2:∀x c,X.env.cells.lookup x=some c->c≠it) (h3:∀p∈X.pn++pins,p.1≠it):Inv X pins σ H {s with heap:=h',toks:=t'}:=by
 have nit:∀b u,H b=some u->b≠it:=λb u e z=>by rw[z,hn] at e;cases e
 refine I.step (g':=s.gens) (d':=s.drawn) (ch:=[it]) (λb hb=>?_) (λb o _ _ hc e _=>k b o (λz=>hc (by simp[z])) e) (λb o _ _ hc e _=>⟨o.slots,k b o (λz=>hc (by simp[z])) e⟩) (λ_ _ _ _ n=>n)
  (λb o hc e=>⟨o,k b o (λz=>hc (by simp[z])) e⟩) (λ_ _ e=>e) (λ_ _ _ e=>e) (λb ps e=>⟨#[],by rw[e];simp⟩) (λm hm=>?_) (λb u e=>?_) I.bare
 ·have e:b=it:=by simpa using hb
  subst e;exact⟨h1,hL,h2,h3⟩
 ·obtain⟨o,es,ep,ho,r⟩:=hm;exact⟨o,es,ep,k _ o (Rl hL) ho,r⟩
 ·refine(I.ba b u e).nE (λc v hc q=>k c v ?_ q) (λ_ q=>q) λ_ _ q=>q;rcases hc with z | z
  ·rw[z];exact nit b u e
  ·exact nit c _ z
theorem Inv.tok(I:Inv X pins σ H s)(t:Nat):Inv X pins σ H {s with toks:=t}:=I.un (h':=s.heap) (t':=t) Un.refl I.ba
theorem Inv.kept(I:Inv X pins σ H s)(k:∀b u,s.heap.get? b=some u->h'.get? b=some u):Inv X pins σ H {s with heap:=h',toks:=t'}:=I.un (Un.kept k) (I.ba.kept k)
theorem Inv.laid(I:Inv X pins σ H s)(k:∀b u,s.heap.get? b=some u->h'.get? b=some u)(hp:s.heap.objs.size<=a)(new:cg X.prog X.w (upd H a o) h' a o):
  Inv X pins σ (upd H a o) {s with heap:=h',toks:=t'}:=I.un (Un.laid k hp (I.ba.fresh hp)) (I.ba.laid k hp new)
theorem Inv.write(I:Inv X pins σ H s)(mu:Ng (H x))(he:e=x\/H e=some (.own x))(k:∀b u,b≠e->s.heap.get? b=some u->h'.get? b=some u)(heo:∃u,h'.get? e=some u)(new:cg X.prog X.w (upd H x o) h' x o):Inv X pins σ (upd H x o) {s with heap:=h',toks:=t'}:=I.un (Un.write mu he k heo) (I.ba.write mu he k heo new)
theorem Inv.zQ(I:Inv X pins σ H s)(h:∀p∈pins',s.heap.get? p.1=some p.2/\H p.1=none/\p.1≠X.env.locals/\p.1∉X.fs/\∀v,p.2.data≠.cell v):Inv X pins' σ H s:=
 ⟨I.ok,I.os,I.bare,I.base,I.loc,I.cell,I.free,I.gq,λp hp=>(Qk.mp hp).elim (λz=>I.pin p (QV _ z)) (h p),I.ba,I.len⟩
theorem rp{N:List Str}(hN:N.Nodup){i j:Nat}{x:Str}(a:N[i]?=some x)(b:N[j]?=some x):i=j:=by
 obtain⟨h1,e1⟩:=PV.mp a;obtain⟨h2,e2⟩:=PV.mp b;exact(List.getElem_inj hN).mp (e1.trans e2.symm)
theorem tH{M:Model}{A:Around}{E:Value->Shared->Prop}{i:Nat}{x:Str}{v:V}{u:Value}{Q:Unit->Shared->Prop}(I:Inv X pins σ H s)(hN:X.N.Nodup)(hi:X.N[i]?=some x)(hx:Loc X.env.scope x)(r:RelV v u)
  (h:∀s',Inv X pins (σ.set i (some v)) H s'->(∃a,Heap.SameBut a s.heap s'.heap/\(a=X.env.locals\/X.env.cells.lookup x=some a))->Q () s') (hf:X.fn x=true\/X.env.scope.names.lookup x=some .local:=by first | exact .inl rfl | exact .inr rfl | assumption):wpAny M A (storeName X.env x u) Q E s:=by
 obtain⟨m,hn,hl⟩:=id I.loc;have hcls:(X.env.scope.kind==.class||(X.env.scope.kind==.module&&X.env.locals !=X.env.globals))=false:=by rw[I.ok.kind];rfl
 have hiσ:i < σ.length:=by rw[I.len];exact(PV.mp hi).1
 have Es:=I.Es;have tracked:∀{a:Addr} {h':Heap},(∃o,s.heap.get? a=some o/\H a=none)->Heap.SameBut a s.heap h'->kh X.prog X.w H h':=λ{a h'} ha hs b ob e=>by
  obtain⟨_,_,hfree⟩:=ha;refine(I.ba b ob e).nE (λc w' hc q=>(hs.2 c ?_).trans q) (λ_ q=>q) λ_ _ q=>q;rintro rfl;rcases hc with rfl | hc
  ·rw[hfree] at e;cases e
  ·rw[hfree] at hc;cases hc
 rcases hx with hk | hk
 ·refine wpAny_storeName_local hk hn (λh' hn' hs=>?_) hcls;obtain⟨oL,_,_,hoL,_⟩:=id hn;refine h _ ⟨I.ok,I.os,I.bare,⟨λb o e n hb hx=>?_,λb o e n hb hx=>?_,I.base.free,λb o e hx=>?_,I.base.nA,I.base.mL,I.base.nB⟩,⟨_,hn',λj y v' e1 e2 e3=>?_⟩,λy c e=>?_,I.free,I.gq,λp hp=>?_,tracked ⟨oL,hoL,I.free⟩ hs,by simpa using I.len⟩ ⟨_,hs,.inl rfl⟩
  ·exact(hs.2 b (Qs (Qq (Qf e) I.ok.above))).trans (I.base.keep b o e n hb hx)
  ·obtain⟨sl,e1⟩:=I.base.slot b o e n hb hx;exact⟨sl,(hs.2 b (Qs (Qq (Qf e) I.ok.above))).trans e1⟩
  ·obtain⟨o',e1⟩:=I.base.there b o e hx;exact⟨o',(hs.2 b (Qs (Qq (Qf e) I.ok.above))).trans e1⟩
  ·by_cases hj:j=i
   ·subst hj;rw[hi] at e1;cases e1;rw[QA hiσ] at e2;cases e2;exact⟨u,r,.inl ⟨hk,by simp⟩⟩
   ·rw[QK (Rl hj)] at e2;obtain⟨u',r',q⟩:=hl j y v' e1 e2 e3;refine⟨u',r',?_⟩;rcases q with⟨k,e⟩ |⟨k,c,e,z⟩
    ·refine .inl ⟨k,?_⟩;have:y≠x:=λe=>hj (rp hN e1 (e ▸ hi));simp[this,e]
    ·exact .inr ⟨k,c,e,z.sameBut hs (Es y c e)⟩
  ·obtain⟨w',z⟩:=I.cell y c e;exact⟨w',z.sameBut hs (Es y c e)⟩
  ·obtain⟨e,n,ne,nf,d⟩:=I.pin p hp;exact⟨(hs.2 p.1 ne).trans e,n,ne,nf,d⟩
 ·have hfn:X.fn x=true:=by
   rcases hf with z | z
   ·exact z
   ·rw[z] at hk;cases hk
  obtain⟨c,hc⟩:=I.ok.has x (.inl hk);obtain⟨w',z⟩:=I.cell x c hc;refine wpAny_storeName_cell I.ok.kind hk hc z (λh' hc' hs=>?_);obtain⟨oc,hoc,hocd⟩:=id z;refine h {s with heap:=h'} ⟨I.ok,I.os,I.bare,⟨λb o e n hb hx=>?_,λb o e n hb hx=>?_,I.base.free,λb o e hx=>?_,I.base.nA,I.base.mL,I.base.nB⟩,⟨m,hn.sameBut hs (Rl (Es x c hc)),λj y v' e1 e2 e3=>?_⟩,λy c' e=>?_,I.free,I.gq,λp hp=>?_,tracked ⟨oc,hoc,I.gq x c hc⟩ hs,by simpa using I.len⟩ ⟨c,hs,.inr hc⟩
  ·exact(hs.2 b (Qs (Qq (Qf e) (I.ok.Lb x c hfn hc)))).trans (I.base.keep b o e n hb hx)
  ·obtain⟨sl,e1⟩:=I.base.slot b o e n hb hx;exact⟨sl,(hs.2 b (Qs (Qq (Qf e) (I.ok.Lb x c hfn hc)))).trans e1⟩
  ·obtain⟨o',e1⟩:=I.base.there b o e hx;exact⟨o',(hs.2 b (Qs (Qq (Qf e) (I.ok.Lb x c hfn hc)))).trans e1⟩
  ·by_cases hj:j=i
   ·subst hj;rw[hi] at e1;cases e1;rw[QA hiσ] at e2;cases e2;exact⟨u,r,.inr ⟨.inl hk,c,hc,hc'⟩⟩
   ·rw[QK (Rl hj)] at e2;obtain⟨u',r',q⟩:=hl j y v' e1 e2 e3;refine⟨u',r',?_⟩;rcases q with q |⟨k,c',e,z'⟩
    ·exact .inl q
    ·refine .inr ⟨k,c',e,z'.sameBut hs ?_⟩;rintro rfl;exact hj (rp hN e1 (I.ok.inj _ _ _ e hc ▸ hi))
  ·by_cases hcc:c'=c
   ·subst hcc;exact⟨_,hc'⟩
   ·obtain⟨w2,z2⟩:=I.cell y c' e;exact⟨w2,z2.sameBut hs hcc⟩
  ·obtain⟨e,n,ne,nf,d⟩:=I.pin p hp;refine⟨(hs.2 p.1 ?_).trans e,n,ne,nf,d⟩;intro q;rw[q,hoc] at e;have q':oc=p.2:=Option.some.inj e;exact d w' (by rw[<-q'];exact hocd)
theorem ie(I:Inv X pins σ H s)(hN:X.N.Nodup)(hi:X.N[i]?=some x)(hx:Loc X.env.scope x)(r:RelV v u)(h:∀s',Inv X pins (σ.set i (some v)) H s'->Q () s')(hf:X.fn x=true\/X.env.scope.names.lookup x=some .local:=by first | exact .inl rfl | exact .inr rfl | assumption):wpAny M A (storeName X.env x u) Q E s:=
 tH I hN hi hx r (λs' I' _=>h s' I') hf
theorem Inv.call'(I:Inv X pins σ H s)(ho:s'.os=s.os)(u:Un (kc X.stack) ch H H' s.heap s'.heap)(ba:kh X.prog X.w H' s'.heap)(hg:AllBare s'.gens)(hch:∀b∈ch,(b∈X.ex\/X.s₀.heap.objs.size<=b)/\b≠X.env.locals/\(∀x c,X.env.cells.lookup x=some c->c≠b)/\∀p∈X.pn++pins,p.1≠b):Inv X pins σ H' s':=by
 obtain⟨h',g',d',t',o'⟩:=s';have e:o'=s.os:=ho;subst e;exact I.call (g':=g') (t':=t') (d':=d') u ba hg hch
end
abbrev XK:=Value->Option Addr->Hp->Prop
abbrev St:=List (Option V)
abbrev VK:=V->Hp->Prop
abbrev TE:=St->Hp->VK->Prop
abbrev TT:=St->Hp->(Bool->Hp->Prop)->Prop
abbrev TA:=St->Hp->(List V->Hp->Prop)->Prop
structure Ends where
 nx:St->Hp->Prop
 rt:VK
 bk:St->Hp->Prop:=λ_ _=>False
 ct:St->Hp->Prop:=λ_ _=>False
abbrev TS:=Ends->St->Hp->Prop
inductive Pr(X:Cx)(pins:List (Addr×Obj))(σ:St)(Q:VK)(u:Value)(s':Shared):Prop where
 | mk (v H'):Inv X pins σ H' s'->RelV v u->Q v H'->Pr X pins σ Q u s'
def EP(X:Cx)(pins:List (Addr×Obj))(σ:St)(Q:VK)(u:Value)(s':Shared):Prop:=Pr X pins σ Q u s'
def TP(X:Cx)(pins:List (Addr×Obj))(σ:St)(Q:Bool->Hp->Prop)(b:Bool)(s':Shared):Prop:=∃H',Inv X pins σ H' s'/\Q b H'
inductive Pu(X:Cx)(pins:List (Addr×Obj))(σ:St)(Q:List V->Hp->Prop)(us:List Value)(s':Shared):Prop where
 | mk (vs H'):Inv X pins σ H' s'->Vals vs us->Q vs H'->Pu X pins σ Q us s'
def AP(X:Cx)(pins:List (Addr×Obj))(σ:St)(Q:List V->Hp->Prop)(us:List Value)(s':Shared):Prop:=Pu X pins σ Q us s'
def SP(X:Cx)(pins:List (Addr×Obj))(D:Ends)(f:Flow)(s':Shared):Prop:=
 match f with
 | .next=>∃σ' H',Inv X pins σ' H' s'/\D.nx σ' H'
 | .brk=>∃σ' H',Inv X pins σ' H' s'/\D.bk σ' H'
 | .cont=>∃σ' H',Inv X pins σ' H' s'/\D.ct σ' H'
 | .ret u=>∃v σ' H',Inv X pins σ' H' s'/\RelV v u/\D.rt v H'
def PE(X:Cx)(e:Expr)(t:TE):Prop:=
 ∀(pins:List (Addr×Obj)) (s:Shared) (σ:St) (H:Hp) (Q:VK),Inv X pins σ H s->t σ H Q->wpAny (model X.prog X.w) X.A (eval e X.env) (EP X pins σ Q) X.xe s
def PT(X:Cx)(e:Expr)(t:TT):Prop:=
 ∀(pins:List (Addr×Obj)) (s:Shared) (σ:St) (H:Hp) (Q:Bool->Hp->Prop),Inv X pins σ H s->t σ H Q->wpAny (model X.prog X.w) X.A (isTrue e X.env (eval e X.env)) (TP X pins σ Q) X.xe s
def PW(X:Cx)(e:Expr)(t:TT):Prop:=
 ∀(whole:Sem Value)(pins:List (Addr×Obj)) (s:Shared) (σ:St) (H:Hp) (Q:Bool->Hp->Prop),Inv X pins σ H s->t σ H Q->wpAny (model X.prog X.w) X.A (isTrue e X.env whole) (TP X pins σ Q) X.xe s
theorem PW.pt(h:PW X e t):PT X e t:=h _
def PA(X:Cx)(es:List Expr)(t:TA):Prop:=
 ∀(pos:Pos)(pins:List (Addr×Obj)) (s:Shared) (σ:St) (H:Hp) (Q:List V->Hp->Prop),Inv X pins σ H s->t σ H Q->wpAny (model X.prog X.w) X.A (spliced (backTo pos (starEach es X.env))) (AP X pins σ Q) X.xe s
def PS(X:Cx)(st:Stmt)(t:TS):Prop:=
 ∀(pins:List (Addr×Obj)) (s:Shared) (σ:St) (H:Hp) (D:Ends),Inv X pins σ H s->t D σ H->wpAny (model X.prog X.w) X.A (exec st X.env) (SP X pins D) X.xe s
def wF(X:Cx)(st:List Stmt)(t:TS):Prop:=
 ∀(pins:List (Addr×Obj)) (s:Shared) (σ:St) (H:Hp) (D:Ends),Inv X pins σ H s->t D σ H->wpAny (model X.prog X.w) X.A (execs st X.env) (SP X pins D) X.xe s
theorem dh(h:wpAny M A t Q E s)(hQ:∀a s,Q a s->Q' a s):wpAny M A t Q' E s:=QO h hQ λ_ _ x=>x
section
variable {X:Cx}
def NM(i:Nat):TE:=λσ H Q=>∃v,σ[i]?=some (some v)/\Q v H
def tC(v:V):TE:=λ_ H Q=>Q v H
theorem Dq(hN:X.N[i]?=some x)(hv:KS X.env.scope x)(hd:(x==("__debug__":Str))=false:=by decide)(hcd:(x==("__classdict__":Str))=false:=by decide):PE X (.Name x pos) (NM i):=by
 intro pins s σ H Q I h;obtain⟨v,e,h⟩:=h;obtain⟨m,hn,hl⟩:=I.loc;obtain⟨u,r,l⟩:=hl i x v hN e hv;have fin:EP X pins σ Q u s:=⟨v,H,I,r,h⟩;rcases l with⟨hk,hm⟩ |⟨hk,c,hc,hcell⟩
 ·exact Tu (wpAny_loadName_local I.ok.kind hk hn hm fin) hd
 ·rcases hk with hk | hk
  ·exact Tu (wpAny_loadName_cell I.ok.kind hk hc hcell fin) hd
  ·exact Tu (wpAny_loadName_free I.ok.kind hk hc hcell fin hcd) hd
theorem Ji{i j pos}:PE X (.Constant (.int i) j pos) (tC (.int i)):=λ_ _ _ H _ I h=>wpAny_Constant_int ⟨.int i,H,I.tok _,⟨_,rfl⟩,h⟩
theorem L8{b j pos}:PE X (.Constant (.bool b) j pos) (tC (.bl b)):=λ_ _ _ H _ I h=>Constant_bool ⟨.bl b,H,I,rfl,h⟩
theorem Ds{j pos}:PE X (.Constant .none j pos) (tC .cw):=λ_ _ _ H _ I h=>Constant_none ⟨.cw,H,I,rfl,h⟩
theorem Je{x j pos}:PE X (.Constant (.str x) j pos) (tC (.str x)):=λ_ _ _ H _ I h=>Calls.Constant_str ⟨.str x,H,I.tok _,⟨_,rfl⟩,h⟩
def Gl(X:Cx)(x:Str):Prop:=X.env.kindOf x=some .globalImplicit
theorem j6(I:Inv X pins σ H s)(hg:Gl X x)(hm:X.mg x=some u)(h:Q u s)(hd:(x==("__debug__":Str))=false:=by decide):wpAny (model X.prog X.w) X.A (eval (.Name x pos) X.env) Q E s:=
 UN I.ok.kind hg (Calls.loadGlobal_global (by rw[I.ok.glob];exact I.mod.glob.keeps I.bk) hm h) hd
theorem k9(I:Inv X pins σ H s)(hg:Gl X x)(hm:X.mg x=none)(hv:bootBuiltins x=some u)(h:Q u s)(hn:x≠"__name__":=by decide)(hd:(x==("__debug__":Str))=false:=by decide):wpAny (model X.prog X.w) X.A (eval (.Name x pos) X.env) Q E s:=by
 obtain⟨mb,h1,h2⟩:=I.mod.blt;exact UN I.ok.kind hg (Calls.loadGlobal_builtin (by rw[I.ok.glob];exact I.mod.glob.keeps I.bk) hm (by rw[I.ok.blt];exact h1.keeps I.bk) ((h2 x hn).trans hv) h) hd
theorem F7(hg:Gl X x)(hm:X.mg x=some u)(r:RelV v u)(hd:(x==("__debug__":Str))=false:=by decide):PE X (.Name x pos) (tC v):=
 λ_ _ _ H _ I h=>j6 I hg hm ⟨v,H,I,r,h⟩ hd
theorem F9(hg:Gl X x)(hm:X.mg x=none)(hv:bootBuiltins x=some u)(r:RelV v u)(hn:x≠"__name__":=by decide)(hd:(x==("__debug__":Str))=false:=by decide):PE X (.Name x pos) (tC v):=
 λ_ _ _ H _ I h=>k9 I hg hm hv ⟨v,H,I,r,h⟩ hn hd
variable {a b:Expr} {ta tb:TE} {pos:Pos}
variable {tA tB':TT} {rest:List Expr}
def nC(t u:TT):TT:=λσ H Q=>t σ H λc H1=>if c=true then u σ H1 Q else Q false H1
def Fj(t u:TT):TT:=λσ H Q=>t σ H λc H1=>if c=true then Q true H1 else u σ H1 Q
def uJ(t:TT):TT:=λσ H Q=>t σ H λc H1=>Q (!c) H1
theorem FP(ha:PT X a tA):PW X (.BoolOp .And [a] pos) tA:=by
 intro wh pins s σ H Q I h;refine isTrue_and (dh (ha pins s σ H Q I h) λc s1 e=>?_);cases c with
 | true=>exact isTrue_and_nil e
 | false=>exact e
theorem IW(ha:PT X a tA):PW X (.BoolOp .Or [a] pos) tA:=by
 intro wh pins s σ H Q I h;refine isTrue_or (dh (ha pins s σ H Q I h) λc s1 e=>?_);cases c with
 | false=>exact isTrue_or_nil e
 | true=>exact e
theorem IX(ha:PT X a tA)(hb:PW X (.BoolOp .And (b::rest) pos) tB'):PW X (.BoolOp .And (a::b::rest) pos) (nC tA tB'):=by
 intro wh pins s σ H Q I h;refine isTrue_and (dh (ha pins s σ H _ I h) λc s1 ⟨H1,I1,q1⟩=>?_);cases c with
 | true=>exact hb wh pins s1 σ H1 Q I1 q1
 | false=>exact⟨H1,I1,q1⟩
theorem L4(ha:PT X a tA)(hb:PW X (.BoolOp .Or (b::rest) pos) tB'):PW X (.BoolOp .Or (a::b::rest) pos) (Fj tA tB'):=by
 intro wh pins s σ H Q I h;refine isTrue_or (dh (ha pins s σ H _ I h) λc s1 ⟨H1,I1,q1⟩=>?_);cases c with
 | true=>exact⟨H1,I1,q1⟩
 | false=>exact hb wh pins s1 σ H1 Q I1 q1
theorem IZ(ha:PT X a tA):PT X (.UnaryOp .Not a pos) (uJ tA):=by
 intro pins s σ H Q I h;exact isTrue_not (ha pins s σ H (λc H1=>Q (!c) H1) I h)
def LC(ta tb:TE):TE:=λσ H Q=>ta σ H λx H1=>∃c,x=.bl c/\if c=true then tb σ H1 Q else Q (.bl false) H1
theorem Jg{op}(h:PE X a t):PE X (.BoolOp op [a] pos) t:=λpins s σ H Q I hw=>BoolOp_one (h pins s σ H Q I hw)
theorem Jk(ha:PE X a ta)(hb:PE X (.BoolOp .And (b::rest) pos) tb):PE X (.BoolOp .And (a::b::rest) pos) (LC ta tb):=by
 intro pins s σ H Q I h;refine BoolOp_and (dh (ha pins s σ H _ I h) λv s1 ⟨x,H1,I1,r1,q1⟩=>?_);obtain⟨c,rfl,q1⟩:=q1;cases r1;refine SD ?_;cases c with
 | true=>exact hb pins s1 σ H1 Q I1 q1
 | false=>exact⟨.bl false,H1,I1,rfl,q1⟩
end
def ia(K:FR)(H:Hp)(a:Addr)(xs:List V):Prop:=
 Rd H a (.lst xs)\/
  ∃(o:Obj)(its:Array Value)(n:Nat),K.lookup a=some o/\o.cls=.type "list"/\o.dict=none/\o.data=.seq its n/\its.size<=sizeLine/\Vals xs its.toList
def ko(K:FR)(H:Hp)(a:Addr)(xs:List V):Prop:=
 Rd H a (.tup xs)\/
  ∃(o:Obj)(its:Array Value)(n:Nat),K.lookup a=some o/\o.cls=.type "tuple"/\o.data=.seq its n/\its.size<=sizeLine/\Vals xs its.toList/\o.dict=none
noncomputable def OS:Value->Option V
 | .none=>some .cw
 | .bool b=>some (.bl b)
 | .int i _=>some (.int i)
 | .str x _=>some (.str x)
 | .bytes b _=>some (.byt b)
 | .float b _=>some (.flt b)
 | .ref a=>some (.ref a)
 | .type n=>some (.ty n)
 | _=>none
theorem RelV.abs(r:RelV x u):OS u=some x:=by
 cases x with
 | cw=>cases r;rfl
 | bl _=>cases r;rfl
 | int _=>obtain⟨t,rfl⟩:=r;rfl
 | str _=>obtain⟨t,rfl⟩:=r;rfl
 | byt _=>obtain⟨t,rfl⟩:=r;rfl
 | flt _=>obtain⟨t,rfl⟩:=r;rfl
 | ref _=>cases r;rfl
 | ty _=>cases r;rfl
theorem RelV.inj(r:RelV x u)(q:RelV y u):x=y:=Option.some.inj (r.abs.symm.trans q.abs)
theorem Vals.inj{xs ys:List V}{us:List Value}(a:Vals xs us)(b:Vals ys us):xs=ys:=by
 induction a generalizing ys with
 | nil=>cases b;rfl
 | cons r t ih=>cases b with | cons r' t'=>rw[r.inj r',ih t']
theorem ia.of{K:FR}(h:H a=some (.lst xs)):ia K H a xs:=.inl (.inl h)
theorem Inv.list(I:Inv X pins σ H s)(h:ia X.K H a xs):∃its:List Value,Vals xs its/\PlainL s.heap a its.toArray/\xs.length<=sizeLine:=by
 rcases h with h |⟨o,its,n,hk,hc,hd,hs,hz,r⟩
 ·obtain⟨z,its,n,r,e⟩:=h.ok I.ba;exact⟨its,r,⟨_,n,e,rfl,rfl,rfl⟩,z⟩
 ·refine⟨its.toList,r,⟨o,n,I.z7 a o hk,hc,hd,by simpa using hs⟩,?_⟩;have e:=r.length;simp only[Q2] at e
  lia
theorem Inv.tuple(I:Inv X pins σ H s)(h:ko X.K H a xs):∃its:List Value,Vals xs its/\IsTup s.heap a its.toArray/\xs.length<=sizeLine:=by
 rcases h with h |⟨o,its,n,hk,hc,hs,hz,r,_⟩
 ·obtain⟨z,its,r,p⟩:=h.ok I.ba;exact⟨its,r,p.tup,z⟩
 ·refine⟨its.toList,r,⟨o,I.z7 a o hk,hc,n,by simpa using hs⟩,?_⟩;have e:=r.length;simp only[Q2] at e
  lia
theorem Inv.xy(I:Inv X pins σ H s)(h:ia X.K H a xs)(h':ia X.K H a ys):xs=ys:=by
 obtain⟨its,r,⟨o,n,e,_,_,d⟩,_⟩:=I.list h;obtain⟨its',r',⟨o',n',e',_,_,d'⟩,_⟩:=I.list h';rw[e] at e';cases e';rw[d] at d';injection d' with d1 _
 have:its=its':=by simpa using congrArg Array.toList d1
 subst this;exact r.inj r'
theorem Inv.tF(I:Inv X pins σ H s)(h:ko X.K H a xs)(h':ko X.K H a ys):xs=ys:=by
 obtain⟨its,r,⟨o,e,_,n,d⟩,_⟩:=I.tuple h;obtain⟨its',r',⟨o',e',_,n',d'⟩,_⟩:=I.tuple h';rw[e] at e';cases e';rw[d] at d';injection d' with d1 _
 have:its=its':=by simpa using congrArg Array.toList d1
 subst this;exact r.inj r'
abbrev Cx.qm(X:Cx)(E:Value->Shared->Prop):Cx:={X with xe:=E}
abbrev Cx.DI(X:Cx):Cx:=X.qm λ_ _=>False
theorem Cx.Ok.qm{X:Cx}(ok:X.Ok)(E:Value->Shared->Prop):(X.qm E).Ok:=
 ⟨ok.mod,ok.kind,ok.glob,ok.blt,ok.above,ok.inj,ok.has,ok.Lb,ok.hd,ok.frames,ok.LD,ok.OI,ok.bs,ok.E8,ok.Be,ok.Ec,ok.oh,ok.Hm⟩
theorem Cx.Ok.gV{X:Cx}{E:Value->Shared->Prop}(ok:(X.qm E).Ok):X.Ok:=
 ⟨ok.mod,ok.kind,ok.glob,ok.blt,ok.above,ok.inj,ok.has,ok.Lb,ok.hd,ok.frames,ok.LD,ok.OI,ok.bs,ok.E8,ok.Be,ok.Ec,ok.oh,ok.Hm⟩
theorem Inv.qm(I:Inv X pins σ H s)(E:Value->Shared->Prop):Inv (X.qm E) pins σ H s:=⟨I.ok.qm E,I.os,I.bare,I.base,I.loc,I.cell,I.free,I.gq,I.pin,I.ba,I.len⟩
theorem Inv.gV(I:Inv (X.qm E) pins σ H s):Inv X pins σ H s:=⟨I.ok.gV,I.os,I.bare,I.base,I.loc,I.cell,I.free,I.gq,I.pin,I.ba,I.len⟩
theorem SP.gV(h:SP (X.qm E) pins D f s'):SP X pins D f s':=by
 cases f with
 | next=>obtain⟨σ',H',I,q⟩:=h;exact⟨σ',H',I.gV,q⟩
 | brk=>obtain⟨σ',H',I,q⟩:=h;exact⟨σ',H',I.gV,q⟩
 | cont=>obtain⟨σ',H',I,q⟩:=h;exact⟨σ',H',I.gV,q⟩
 | ret u=>obtain⟨v,σ',H',I,r,q⟩:=h;exact⟨v,σ',H',I.gV,r,q⟩
theorem wF.DI{st:List Stmt}{t:TS}(h:wF X.DI st t):wF X st t:=λpins s σ H D I hw=>
 QO (h pins s σ H D (I.qm _) hw) (λ_ _ q=>q.gV) λ_ _ z=>False.elim z
section
variable {X:Cx} {st:Stmt} {rest:List Stmt} {t u:TS} {e:Expr} {te:TE} {pos:Pos}
def Ly:TS:=λD σ H=>D.nx σ H
def Lu(t u:TS):TS:=λD σ H=>t {D with nx:=u D} σ H
theorem FV:wF X [] Ly:=λ_ _ σ H _ I h=>Ss ⟨σ,H,I,h⟩
theorem xg(h1:PS X st t)(h2:wF X rest u):wF X (st::rest) (Lu t u):=by
 intro pins s σ H D I h;refine Rw (dh (h1 pins s σ H {D with nx:=u D} I h) λf s1 q=>?_);cases f with
 | next=>
  obtain⟨σ',H',I',q⟩:=q;exact h2 pins s1 σ' H' D I' q
 | ret v=>exact q
 | brk=>exact q
 | cont=>exact q
theorem FU(h1:PS X st t):wF X [st] t:=by
 intro pins s σ H D I h;refine Rw (dh (h1 pins s σ H D I h) λf s1 q=>?_);cases f with
 | next=>exact Ss q
 | ret v=>exact q
 | brk=>exact q
 | cont=>exact q
theorem Inv.quiet(I:Inv X pins σ H s):interactive X.env=false:=by simp[interactive,I.ok.kind]
def Lz(te:TE):TS:=λD σ H=>te σ H λ_ H1=>D.nx σ H1
theorem FX(he:PE X e te)(hs:swapsWith e none pos.line X.env=pure false:=by rfl):PS X (.Expr e pos) (Lz te):=by
 intro pins s σ H D I h;exact wpAny_Expr_any (dh (he pins s σ H _ I h) λv s1 ⟨x,H1,I1,r1,q1⟩=>⟨σ,H1,I1,q1⟩) I.quiet hs
def NP(te:TE):TS:=λD σ H=>te σ H D.rt
theorem I0(he:PE X e te):PS X (.Return (some e) pos) (NP te):=by
 intro pins s σ H D I h;exact wpAny_Return_some (dh (he pins s σ H _ I h) λv s1 ⟨x,H1,I1,r1,q1⟩=>⟨x,σ,H1,I1,r1,q1⟩)
def NT(c:TT)(t u:TS):TS:=λD σ H=>c σ H λb H1=>if b=true then t D σ H1 else u D σ H1
theorem Hg(hc:PT X c tc)(ha:wF X a t)(hb:wF X b u):PS X (.If c a b pos) (NT tc t u):=by
 intro pins s σ H D I h;refine wpAny_If (dh (hc pins s σ H _ I h) λd s1 ⟨H1,I1,q1⟩=>?_);cases d with
 | true=>exact ha pins s1 σ H1 D I1 q1
 | false=>exact hb pins s1 σ H1 D I1 q1
def Ic:TS:=λ_ _ _=>False
theorem Dg:PS X st Ic:=λ_ _ _ _ _ _ h=>h.elim
end
abbrev TG:=V->St->Hp->(St->Hp->Prop)->Prop
abbrev KY:=List V->St->Hp->(St->Hp->Prop)->Prop
def PG(X:Cx)(target:Expr)(t:TG):Prop:=
 ∀(pins:List (Addr×Obj)) (s:Shared) (σ:St) (H:Hp) (v:V) (u:Value) (Q:St->Hp->Prop),Inv X pins σ H s->RelV v u->t v σ H Q->
  wpAny (model X.prog X.w) X.A (assign target X.env u) (λ_ s'=>∃σ' H',Inv X pins σ' H' s'/\Q σ' H') X.xe s
def HG(X:Cx)(ts:List Expr)(t:KY):Prop:=
 ∀(pins:List (Addr×Obj)) (s:Shared) (σ:St) (H:Hp) (vs:List V) (us:List Value) (Q:St->Hp->Prop),Inv X pins σ H s->Vals vs us->t vs σ H Q->
  wpAny (model X.prog X.w) X.A (assignInOrder ((assignEach ts X.env).map (·.2)) us) (λ_ s'=>∃σ' H',Inv X pins σ' H' s'/\Q σ' H') X.xe s
abbrev M3:=V->V->V->Hp->(Hp->Prop)->Prop
def K2(X:Cx)(t:M3):Prop:=
 ∀(pins:List (Addr×Obj)) (s:Shared) (σ:St) (H:Hp) (o i v:V) (ov iv u:Value) (Q:Hp->Prop),Inv X pins σ H s->RelV o ov->RelV i iv->RelV v u->t o i v H Q->
  wpAny (model X.prog X.w) X.A (setItem ov iv u) (λ_ s'=>∃H',Inv X pins σ H' s'/\Q H') X.xe s
def xG(i:Nat):TG:=λv σ H Q=>Q (σ.set i (some v)) H
theorem F6(hN:X.N.Nodup)(hi:X.N[i]?=some x)(hx:Loc X.env.scope x)(hf:X.fn x=true\/X.env.scope.names.lookup x=some .local:=by first | exact .inl rfl | exact .inr rfl | assumption):PG X (.Name x pos) (xG i):=by
 intro pins s σ H v u Q I r h;exact wpAny_assign_Name (ie I hN hi hx r (λs' I'=>⟨_,H,I',h⟩) hf)
noncomputable def OG:KY:=λvs σ H Q=>vs=[]/\Q σ H
def Mz(t:TG)(u:KY):KY:=λvs σ H Q=>∃v r,vs=v::r/\t v σ H λσ' H'=>u r σ' H' Q
theorem F5:HG X [] OG:=by
 intro pins s σ H vs us Q I r h;obtain⟨e,h⟩:=h;subst e;cases r;exact assignInOrder_nil ⟨σ,H,I,h⟩
theorem Dn(h1:PG X e t)(h2:HG X es u)(hs:(assignEach (e::es) X.env).map (·.2)=assign e X.env::(assignEach es X.env).map (·.2):=by rfl):HG X (e::es) (Mz t u):=by
 intro pins s σ H vs us Q I r h;obtain⟨v,vr,e1,h⟩:=h;subst e1;cases r with
 | cons r rr=>
  rw[hs];refine UH (dh (h1 pins s σ H _ _ _ I r h) λ_ s1 ⟨σ1,H1,I1,q1⟩=>?_);exact h2 pins s1 σ1 H1 _ _ Q I1 rr q1
def OF(K:FR)(n:Nat)(t:KY):TG:=λv σ H Q=>∃a xs,v=.ref a/\ko K H a xs/\xs.length=n/\t xs σ H Q
theorem Ja(hc:X.calm=true)(h:HG X es t)(hn:(assignEach es X.env).length=n:=by rfl)(hst:(assignEach es X.env).findIdx? (·.1)=none:=by rfl):PG X (.Tuple es k pos) (OF X.K n t):=by
 intro pins s σ H v u Q I r hw;obtain⟨a,xs,e1,hq,hl,hw⟩:=hw;subst e1;cases r;obtain⟨its,rv,ht,hz⟩:=I.tuple hq;refine assign_Tuple_tuple (I.ok.hd hc) ht (by simp[hn,<-hl,rv.length]) hst λh' hx=>?_;have I1:Inv X pins σ H {s with heap:=h'}:=I.kept (t':=s.toks) λb o e=>hx b o (Qs (Qf e)) e;exact h pins _ σ H xs _ Q I1 (by simpa using rv) hw
def pN(to ti:TE)(t:M3):TG:=λv σ H Q=>to σ H λo H1=>ti σ H1 λi H2=>t o i v H2 λH3=>Q σ H3
theorem Jb (ho:PE X o to) (hi:PE X i ti) (hs:K2 X t) (ha:∀v,assign (.Subscript o i pos) X.env v=(do
   let ov<-holding [v] (eval o X.env);let iv<-holding [v,ov] (eval i X.env)
   standAt pos
   holding [v,ov,iv] (setItem ov iv v)
   release [v,ov,iv] []):=by intro _;rfl):PG X (.Subscript o i pos) (pN to ti t):=by
 intro pins s σ H v u Q I r h;rw[ha];refine PY (Sk (dh (ho pins s σ H _ I h) λov s1 ⟨x,H1,I1,r1,q1⟩=>?_));refine PY (Sk (dh (hi pins s1 σ H1 _ I1 q1) λiv s2 ⟨y,H2,I2,r2,q2⟩=>?_));refine PY (Tn (PY (Sk (dh (hs pins s2 σ H2 x y v ov iv u _ I2 r1 r2 r q2) λ_ s3 ⟨H3,I3,q3⟩=>?_))));exact wpAny_release ⟨σ,H3,I3,q3⟩
def Fo(te:TE)(g:TG):TS:=λD σ H=>te σ H λx H1=>g x σ H1 D.nx
theorem Dj(he:PE X e te)(hg:PG X tg g)(hs:swapsWithSole [tg] e pos.line X.env=pure false:=by rfl)(hw:swappedStores [tg] e X.env=pure none:=by rfl)(h1:(assignEach [tg] X.env).map (·.2)=[assign tg X.env]:=by rfl):PS X (.Assign [tg] e pos) (Fo te g):=by
 intro pins s σ H D I h;refine wpAny_Assign_stores (dh (he pins s σ H _ I h) λv s1 ⟨x,H1,I1,r1,q1⟩=>?_) hs hw;rw[h1];exact dh (hg pins s1 σ H1 x v _ I1 r1 q1) λ_ s2 q=>q
theorem yI(hN:X.N.Nodup)(hi:X.N[i]?=some x)(hx:Loc X.env.scope x)(he:PE X e te)(hs:swapsWith e (some (.Name x pos')) pos.line X.env=pure false:=by rfl)(hf:X.fn x=true\/X.env.scope.names.lookup x=some .local:=by first | exact .inl rfl | exact .inr rfl | assumption):
  PS X (.Assign [.Name x pos'] e pos) (Fo te (xG i)):=by
 intro pins s σ H D I h;refine wpAny_Assign_Name (dh (he pins s σ H _ I h) λv s1 ⟨y,H1,I1,r1,q1⟩=>?_) hs;exact ie I1 hN hi hx r1 (λs2 I2=>⟨_,H1,I2,q1⟩) hf
def Lw(i j:Nat)(ta:TA):TS:=λD σ H=>ta σ H λvs H1=>∃v w,vs=[v,w]/\D.nx ((σ.set i (some v)).set j (some w)) H1
theorem nQ{kt k2 pt2}(hc:X.calm=true)(hN:X.N.Nodup)(hi:X.N[i]?=some x)(hj:X.N[j]?=some y)(hij:i≠j)(hx:X.env.scope.names.lookup x=some .local)(hy:X.env.scope.names.lookup y=some .local)(ha:PA X [a,b] ta)(hw:swappedStores [.Tuple [.Name x px,.Name y py] kt pt] (.Tuple [a,b] k2 pt2) X.env=pure (some [x,y]))(hs:swapsWithSole [.Tuple [.Name x px,.Name y py] kt pt] (.Tuple [a,b] k2 pt2) pos.line X.env=pure false:=by rfl):
  PS X (.Assign [.Tuple [.Name x px,.Name y py] kt pt] (.Tuple [a,b] k2 pt2) pos) (Lw i j ta):=by
 intro pins s σ H D I h;rw[exec_Assign_arm];refine PY (Tn ?_);rw[hs];refine PY (Qh ?_);rw[P7 (by decide)];refine PY (Tuple_ (dh (ha _ pins s σ H _ I h) λus s1 ⟨vs,H1,I1,r1,q1⟩=>?_));obtain⟨v,w,e1,q1⟩:=q1;subst e1;obtain⟨u1,u2,rfl,rv,rw'⟩:∃u1 u2,us=[u1,u2]/\RelV v u1/\RelV w u2:=by
  cases r1 with
  | cons p q=>
   cases q with
   | cons p' q'=>
    cases q';exact⟨_,_,rfl,p,p'⟩
 refine Ro ?_ (by show 2<=sizeLine;decide);have I2:Inv X pins σ H1 {s1 with heap:=s1.heap.push {cls:=.type "tuple",data:=.seq [u1,u2].toArray}}:=I1.kept (t':=s1.toks) λb o e=>P9 _ e;rw[hw];refine PY (Qh ?_);show wpAny (model X.prog X.w) X.A (do rule "assign.swapped-stores";let items<-unpackItems (.ref s1.heap.objs.size) 2 none;assignInOrder [λv=>bindName X.env y v,λv=>bindName X.env x v] items.reverse;pure Flow.next) _ _ _;refine PY (TY (PY (unpackItems_tuple (items:=#[u1,u2]) (I.ok.hd hc) (IsTup.new s1.heap _) λh' hx'=>?_)));have I3:=I2.kept (h':=h') (t':=s1.toks) λb o e=>hx' b o (Qs (Qf e)) e;show wpAny _ _ (assignInOrder [λv=>bindName X.env y v,λv=>bindName X.env x v] [u2,u1] >>=λ_=>pure Flow.next) _ _ _;refine PY (UH (UM (ie I3 hN hj (.inl hy) rw' (λs2 I4=>?_) (.inr hy))));refine UH (UM (ie I4 hN hi (.inl hx) rv (λs3 I5=>assignInOrder_nil (Qh ?_)) (.inr hx)));rw[List.set_comm _ _ (Rl hij)] at I5;exact⟨_,H1,I5,q1⟩
structure It where
 go:Nat->Hp->Prop
 HH:Nat->Hp->V->Hp->Prop
 stop:Nat->Hp->Prop
def kr(X:Cx)(pins:List (Addr×Obj))(H:Hp)(b:Addr):Prop:=
 H b=none/\b≠X.env.locals/\b∉X.fs/\(b∈X.ex\/X.s₀.heap.objs.size<=b)/\(∀x c,X.env.cells.lookup x=some c->c≠b)/\∀p∈X.pn++pins,p.1≠b
theorem Inv.D0(I:Inv X pins σ H s)(hb:s.heap.objs.size<=b)(hn:H' b=none):kr X pins H' b:=by
 refine⟨hn,SR (Qq I.lt hb),I.Ox hb,.inr (P6 I.sz hb),λx c e z=>?_,λp hp z=>?_⟩
 ·obtain⟨v,q⟩:=I.cell x c e;exact absurd (Qq q.lt (by rw[z];exact hb)) (R9 _)
 ·exact absurd (Qq (Qf (I.pin p hp).1) (by rw[z];exact hb)) (R9 _)
structure Turn(P:Program)(w:World)(K:FR)(tg:Expr)(J:It)(fp:List Addr)(it:Addr)(tn:Nat->Heap->Prop):Prop where
 mem:it∈fp
 obj:∀i h,tn i h->∀b∈fp,∃o,h.get? b=some o/\∀v,o.data≠.cell v
 keep:∀i h h',tn i h->(∀b∈fp,∀o,h.get? b=some o->h'.get? b=some o)->tn i h'
 item:∀(X:Cx),X.prog=P->X.w=w->X.K=K->X.calm=true->∀(i:Nat)(pins:List (Addr×Obj)) (s:Shared) (σ:St) (H:Hp) (E:Value->Shared->Prop),Inv X pins σ H s->(∀b∈fp,kr X pins H b)->tn i s.heap->J.go i H->
  wpAny (model P w) X.A (pyNext (.ref it)) (λr s1=>∃u,r=some u/\
   wpAny (model P w) X.A (letOwnedTupleGo tg (.ref it) u) (λ_ s2=>∃x H',Inv X pins σ H' s2/\RelV x u/\J.HH i H x H'/\tn (i+1) s2.heap/\∀b∈fp,H' b=none) E s1) E s
 done:∀(X:Cx),X.prog=P->X.w=w->X.K=K->X.calm=true->∀(i:Nat)(pins:List (Addr×Obj)) (s:Shared) (σ:St) (H:Hp) (E:Value->Shared->Prop),Inv X pins σ H s->(∀b∈fp,kr X pins H b)->tn i s.heap->J.stop i H->
  wpAny (model P w) X.A (pyNext (.ref it)) (λr s1=>r=none/\Inv X pins σ H s1) E s
 self:∀(A:Around)(i:Nat)(s:Shared)(Q:Value->Shared->Prop)(E:Value->Shared->Prop),tn i s.heap->Q (.ref it) s->wpAny (model P w) A (pyIter (.ref it)) Q E s
abbrev TI:=St->Hp->(It->Hp->Prop)->Prop
def Po(X:Cx)(pins:List (Addr×Obj))(σ:St)(tg:Expr)(R:It->Hp->Prop)(itv:Value)(s2:Shared):Prop:=
 ∃(it:Addr)(fp:List Addr)(tn:Nat->Heap->Prop)(J:It)(H':Hp),itv=.ref it/\Inv X pins σ H' s2/\Turn X.prog X.w X.K tg J fp it tn/\tn 0 s2.heap/\(∀b∈fp,kr X pins H' b)/\R J H'
def PI(X:Cx)(tg iter:Expr)(wi:TI):Prop:=
 ∀(pins:List (Addr×Obj)) (s:Shared) (σ:St) (H:Hp) (R:It->Hp->Prop),Inv X pins σ H s->wi σ H R->
  wpAny (model X.prog X.w) X.A (eval iter X.env) (λv s1=>wpAny (model X.prog X.w) X.A (pyIter v) (Po X pins σ tg R) X.xe s1) X.xe s
theorem DZ(ho:s.heap.get? it=some o)(hc:o.cls=.type n)(hd:o.data=.fields vs)(hn:["enumerate","zip","dict_itemiterator","dict_reverseitemiterator","odict_iterator","itertools.zip_longest","itertools.pairwise"].contains n=false)(hQ:Q () s):wpAny M A (letOwnedTupleGo tg (.ref it) u) Q E s:=by
 unfold letOwnedTupleGo;cases tg <;> first
  | exact Qh hQ
  |(cases u <;> first
    | exact Qh hQ
    |(refine PY (wpAny_load ho ?_);rw[hc,hd];show wpAny M A (if(["enumerate","zip","dict_itemiterator","dict_reverseitemiterator","odict_iterator","itertools.zip_longest","itertools.pairwise"].contains n&&vs[0]?==some (rawInt _))=true then _ else _) Q E s;rw[P7 (by intro h;rw[hn,Bool.false_and] at h;cases h)];exact Qh hQ))
noncomputable def OZ(K:FR)(a:Addr):It:=
 ⟨λi H=>∃xs x,ia K H a xs/\xs[i]?=some x,λi H x H'=>H'=H/\∀xs,ia K H a xs->xs[i]?=some x,λi H=>∃xs,ia K H a xs/\xs.length<=i⟩
noncomputable def OY(K:FR)(a:Addr):It:=
 ⟨λi H=>∃xs x,ko K H a xs/\xs[i]?=some x,λi H x H'=>H'=H/\∀xs,ko K H a xs->xs[i]?=some x,λi H=>∃xs,ko K H a xs/\xs.length<=i⟩
noncomputable def NC(lo:Int)(n:Nat):It:=⟨λi _=>i < n,λi H x H'=>H'=H/\x=.int (lo+i),λi _=>n<=i⟩
theorem AG{P:Program}{w:World}{K:FR}{tg:Expr}(a it:Addr):Turn P w K tg (OZ K a) [it] it (λi h=>h.IsListIter it a i) where
 mem:=by simp
 obj:=λi h st b hb=>by
  have e:b=it:=by simpa using hb
  subst e;obtain⟨o,e,c,d⟩:=st;exact⟨o,e,λv z=>by rw[d] at z;cases z⟩
 keep:=λi h h' st k=>st.at λo e=>k it (by simp) o e
 item:=by
  intro X hP hw hK hc i pins s σ H E I hf st hg;subst hP hw hK;obtain⟨xs,x,hq,hx⟩:=hg;obtain⟨its,rv,p,hz⟩:=I.list hq;obtain⟨u,hu,ru⟩:=rv.get hx;obtain⟨f0,f1,f2,f3,f4,f5⟩:=hf it (by simp);refine wpAny_pyNext_list_item st p.isList (x:=u) (by simpa using hu) λh' st' sb=>?_;have I1:Inv X pins σ H {s with heap:=h'}:=I.turned (t':=s.toks) (λb o hb e=>(sb.2 b hb).trans e) f0 f1 f3 f4 f5;obtain⟨o,e,c,d⟩:=id st';exact⟨u,rfl,DZ (s:={s with heap:=h'}) e c d (by decide) ⟨x,H,I1,ru,⟨rfl,λys hy=>by rw[I.xy hy hq];exact hx⟩,st',λb hb=>(hf b hb).1⟩⟩
 done:=by
  intro X hP hw hK hc i pins s σ H E I hf st hg;subst hP hw hK;obtain⟨xs,hq,hx⟩:=hg;obtain⟨its,rv,p,hz⟩:=I.list hq;obtain⟨f0,f1,f2,f3,f4,f5⟩:=hf it (by simp);have hl:=rv.length;exact wpAny_pyNext_list_end (I.ok.hd hc) st p.isList (by simp;lia) λh' eb=>⟨rfl,I.turned (t':=s.toks) (λb o hb e=>eb b o hb e) f0 f1 f3 f4 f5⟩
 self:=λ_ _ _ _ _ st h=>wpAny_pyIter_listiter st h
theorem ym{P:Program}{w:World}{K:FR}{tg:Expr}(a it:Addr):Turn P w K tg (OY K a) [it] it (λi h=>h.IsTupleIter it a i) where
 mem:=by simp
 obj:=λi h st b hb=>by
  have e:b=it:=by simpa using hb
  subst e;obtain⟨o,e,c,d⟩:=st;exact⟨o,e,λv z=>by rw[d] at z;cases z⟩
 keep:=λi h h' st k=>st.at λo e=>k it (by simp) o e
 item:=by
  intro X hP hw hK hc i pins s σ H E I hf st hg;subst hP hw hK;obtain⟨xs,x,hq,hx⟩:=hg;obtain⟨its,rv,p,hz⟩:=I.tuple hq;obtain⟨u,hu,ru⟩:=rv.get hx;obtain⟨f0,f1,f2,f3,f4,f5⟩:=hf it (by simp);refine wpAny_pyNext_tuple_item st (show s.heap.IsTuple a its.toArray from p) (x:=u) (by simpa using hu) λh' st' sb=>?_;have I1:Inv X pins σ H {s with heap:=h'}:=I.turned (t':=s.toks) (λb o hb e=>(sb.2 b hb).trans e) f0 f1 f3 f4 f5;obtain⟨o,e,c,d⟩:=id st';exact⟨u,rfl,DZ (s:={s with heap:=h'}) e c d (by decide) ⟨x,H,I1,ru,⟨rfl,λys hy=>by rw[I.tF hy hq];exact hx⟩,st',λb hb=>(hf b hb).1⟩⟩
 done:=by
  intro X hP hw hK hc i pins s σ H E I hf st hg;subst hP hw hK;obtain⟨xs,hq,hx⟩:=hg;obtain⟨its,rv,p,hz⟩:=I.tuple hq;obtain⟨f0,f1,f2,f3,f4,f5⟩:=hf it (by simp);have hl:=rv.length;exact wpAny_pyNext_tuple_end (I.ok.hd hc) st (show s.heap.IsTuple a its.toArray from p) (by simp;lia) λh' eb=>⟨rfl,I.turned (t':=s.toks) (λb o hb e=>eb b o hb e) f0 f1 f3 f4 f5⟩
 self:=λ_ _ _ _ _ st h=>wpAny_pyIter_tupleiter st h
theorem yn{P:Program}{w:World}{K:FR}{tg:Expr}(it:Addr)(lo:Int)(n:Nat):Turn P w K tg (NC lo n) [it] it (λi h=>IsRangeIter h it (lo+(i:Nat)*1) ((n:Int)-(i:Nat)) 1) where
 mem:=by simp
 obj:=λi h st b hb=>by
  have e:b=it:=by simpa using hb
  subst e;exact⟨_,st,λv z=>by
   have z':Data.fields _=Data.cell v:=z;cases z'⟩
 keep:=λi h h' st k=>k it (by simp) _ st
 item:=by
  intro X hP hw hK hc i pins s σ H E I hf st hg;subst hP hw hK;obtain⟨f0,f1,f2,f3,f4,f5⟩:=hf it (by simp);have W:=Walks.range (prog:=X.prog) (w:=X.w) (I.ok.hd hc) it lo 1 n;refine W.item i s _ _ hg st λv h' tk hv st' kk=>?_;obtain⟨t,rfl⟩:=hv;have I1:Inv X pins σ H {s with heap:=h',toks:=tk}:=I.turned (λb o hb e=>kk b o (by simpa using hb) e) f0 f1 f3 f4 f5;refine⟨_,rfl,DZ (s:={s with heap:=h',toks:=tk}) (n:="range_iterator") st' rfl rfl (by decide) ⟨.int (lo+i),H,I1,⟨t,?_⟩,⟨rfl,rfl⟩,st',λb hb=>(hf b hb).1⟩⟩;rw[Int.mul_one]
 done:=by
  intro X hP hw hK hc i pins s σ H E I hf st hg;subst hP hw hK;obtain⟨f0,f1,f2,f3,f4,f5⟩:=hf it (by simp);exact wpAny_pyNext_range_end (I.ok.hd hc) st (by have:n<=i:=hg;lia) λh' eb=>⟨rfl,I.turned (t':=s.toks) (λb o hb e=>eb b o hb e) f0 f1 f3 f4 f5⟩
 self:=λ_ _ _ _ _ st h=>wpAny_pyIter_rangeiter st h
theorem CT{pins:List (Addr×Obj)}{σ:St}{H:Hp}{s:Shared}{R:It->Hp->Prop}{E:Value->Shared->Prop}{lo hi:Int}{t u v:Tok}{tk:Nat}(I:Inv X pins σ H s)(h1:-(2^62)<=lo)(h2:lo < 2^62)(h3:-(2^62)<=hi)(h4:hi < 2^62)
  (q:R (NC lo (hi-lo).toNat) H):wpAny (model X.prog X.w) X.A (pyIter (.ref s.heap.objs.size)) (Po X pins σ tg R) E {s with heap:=s.heap.push {cls:=.type "range",data:=.fields #[.int lo t,.int hi u,.int 1 v]},toks:=tk}:=by
 refine wpAny_pyIter_range (IsRange.new ..) (small_one h1 h2 h3 h4) ?_;have I1:Inv X pins σ H {s with heap:=s.heap.push {cls:=.type "range",data:=.fields #[.int lo t,.int hi u,.int 1 v]},toks:=tk}:=I.kept λb o e=>P9 _ e;refine⟨(s.heap.push {cls:=.type "range",data:=.fields #[.int lo t,.int hi u,.int 1 v]}).objs.size,[(s.heap.push {cls:=.type "range",data:=.fields #[.int lo t,.int hi u,.int 1 v]}).objs.size],_,_,H,rfl,
  I1.kept (t':=tk) λb o e=>P9 _ e,yn _ lo (hi-lo).toNat,?_,λb hb=>?_,q⟩
 ·have e1:lo+((0:Nat):Int)*1=lo:=by simp
  have e2:(((hi-lo).toNat:Nat):Int)-((0:Nat):Int)=Builtin.Range.rangeSize lo hi 1:=by rw[rangeSize_one];split <;> lia
  show IsRangeIter _ _ (lo+((0:Nat):Int)*1) ((((hi-lo).toNat:Nat):Int)-((0:Nat):Int)) 1;rw[e1,e2];exact Qt _ rfl
 ·have e:b=(s.heap.push {cls:=.type "range",data:=.fields #[.int lo t,.int hi u,.int 1 v]}).objs.size:=by simpa using hb
  subst e;exact I1.D0 (PZ _) (I1.ba.fresh (PZ _))
def Mt(ta:TA):TI:=λσ H R=>ta σ H λvs H1=>∃j:Int,vs=[.int j]/\-(2^62)<=j/\j < 2^62/\R (NC 0 j.toNat) H1
theorem AY{a:Expr}{ta:TA}{p pos:Pos}(hg:Gl X "range")(hm:X.mg "range"=none)(ha:PA X [a] ta)(hs:starEach [a] X.env=[(false,eval a X.env)]:=by rfl):PI X tg (.Call (.Name "range" p) [a] [] pos) (Mt ta):=by
 intro pins s σ H R I h;refine Call_ (k9 I hg hm boot_range (Rk (dh (ha pos pins s σ H _ I h) λus s1 ⟨vs,H1,I1,r1,q1⟩=>?_) hs rfl));obtain⟨j,e,q1,q2,q⟩:=q1;subst e;cases r1 with
 | cons r rr=>
  cases rr;obtain⟨t,rfl⟩:=r;exact call_range_1 (CT I1 (by lia) (by lia) q1 q2 (by simpa using q))
def Ig(wi:TI)(g:TG)(tb:TS):TS:=λD σ H=>wi σ H λJ H1=>∃W:Nat->Nat->St->Hp->Prop,(∃m,W 0 m σ H1)/\∀i m σ H,W i m σ H->
 (J.stop i H/\D.nx σ H)\/(J.go i H/\∃N:St->Hp->Prop,(∀σ' H',N σ' H'->∃m',m' < m/\W (i+1) m' σ' H')/\∀x H',J.HH i H x H'->g x σ H' λσ2 H2=>tb {D with nx:=N,ct:=N,bk:=D.nx} σ2 H2)
noncomputable def rf(fp:List Addr)(h:Heap):List (Addr×Obj):=fp.filterMap λb=>(h.get? b).map λo=>(b,o)
theorem iZ(hb:b∈fp)(e:h.get? b=some o):(b,o)∈rf fp h:=Rt.mpr ⟨b,hb,by rw[e];rfl⟩
theorem Bb(hp:p∈rf fp h):p.1∈fp/\h.get? p.1=some p.2:=by
 obtain⟨b,hb,e⟩:=Rt.mp hp;cases q:h.get? b with
 | none=>rw[q] at e;cases e
 | some o=>
  rw[q] at e;have e':(b,o)=p:=Option.some.inj e;subst e';exact⟨hb,q⟩
theorem Inv.pinned(I:Inv X pins σ H s)(hf:∀b∈fp,kr X pins H b)(ho:∀b∈fp,∃o,s.heap.get? b=some o/\∀v,o.data≠.cell v):Inv X (pins++rf fp s.heap) σ H s:=
 I.zQ λp hp=>(Qk.mp hp).elim (λz=>I.pin p (Qm _ z)) λz=>by
  obtain⟨hb,e⟩:=Bb z;obtain⟨f0,f1,f2,_⟩:=hf p.1 hb;obtain⟨o,e',d⟩:=ho p.1 hb;rw[e] at e';cases e';exact⟨e,f0,f1,f2,d⟩
theorem Inv.lI(I:Inv X (pins++pl) σ H s):Inv X pins σ H s:=I.zQ λp hp=>I.pin p (Qm _ (QV _ hp))
theorem Di(hp:PassesOwn (model X.prog X.w) X.A X.env X.xe)(hc:X.calm=true)(hi:PI X tg iter wi)(hg:PG X tg g)(hb:wF X body tb)(hs:∀x,foldedSetIterable iter X.env x=pure x:=by intro _;rfl):PS X (.For tg iter body [] pos) (Ig wi g tb):=by
 intro pins s σ H D I h;refine wpAny_For (dh (hi pins s σ H _ I h) λv s1 h1=>dh h1 λitv s2 h2=>?_) hs;obtain⟨it,fp,tn,J,H2,e,I2,T,st2,f2,W,⟨m0,w0⟩,turn⟩:=h2;subst e;have stat:∀{H':Hp},(∀b∈fp,H' b=none)->∀b∈fp,kr X pins H' b:=λhn b hb=>⟨hn b hb,(f2 b hb).2⟩;refine codeAny_forLoop_any (λn s'=>∃i σ' H',Inv X pins σ' H' s'/\tn i s'.heap/\(∀b∈fp,H' b=none)/\W i n σ' H') ?_ m0 ⟨0,σ,H2,I2,st2,λb hb=>(f2 b hb).1,w0⟩;rintro n s3 ⟨i,σ3,H3,I3,st3,fr3,w3⟩;rcases turn i n σ3 H3 w3 with⟨stop,qn⟩ |⟨go,N,hN,step⟩
 ·refine SY hp (dh (T.done X rfl rfl rfl hc i pins s3 σ3 H3 X.xe I3 (stat fr3) st3 stop) λr s4 ⟨hr,I4⟩=>?_);subst hr;exact Ss ⟨σ3,H3,I4,qn⟩
 ·refine SY hp (dh (T.item X rfl rfl rfl hc i pins s3 σ3 H3 X.xe I3 (stat fr3) st3 go) λr s4 ⟨u,hr,h4⟩=>?_);subst hr;refine SY hp (dh h4 λ_ s5 ⟨x,H5,I5,r5,y5,st5,fr5⟩=>?_);have I5':=I5.pinned (stat fr5) (T.obj _ _ st5);refine SY hp (dh (hg _ s5 σ3 H5 x u _ I5' r5 (step x H5 y5)) λ_ s6 ⟨σ6,H6,I6,q6⟩=>?_);refine SY hp (dh (hb _ s6 σ6 H6 _ I6 q6) λf s7 q7=>?_);have again:∀{σ7:St} {H7:Hp},Inv X (pins++rf fp s5.heap) σ7 H7 s7->N σ7 H7->∃m,m < n/\∃i σ' H',Inv X pins σ' H' s7/\tn i s7.heap/\(∀b∈fp,H' b=none)/\W i m σ' H':=λ{σ7 H7} I7 n7=>by
   obtain⟨m',hm,w7⟩:=hN σ7 H7 n7;refine⟨m',hm,i+1,σ7,H7,I7.lI,T.keep _ _ _ st5 λb hb o e=>(I7.pin (b,o) (Qm _ (Qm _ (iZ hb e)))).1,λb hb=>?_,w7⟩;obtain⟨o,e,d⟩:=T.obj _ _ st5 b hb;exact(I7.pin (b,o) (Qm _ (Qm _ (iZ hb e)))).2.1
  cases f with
  | next=>obtain⟨σ7,H7,I7,n7⟩:=q7;exact again I7 n7
  | cont=>obtain⟨σ7,H7,I7,n7⟩:=q7;exact again I7 n7
  | brk=>obtain⟨σ7,H7,I7,q7⟩:=q7;exact⟨σ7,H7,I7.lI,q7⟩
  | ret v=>obtain⟨x7,σ7,H7,I7,r7,q7⟩:=q7;exact⟨x7,σ7,H7,I7.lI,r7,q7⟩
abbrev R2:=V->V->Hp->VK->Prop
def oB(X:Cx)(f:Value->Value->Sem Value)(r:R2):Prop:=
 ∀(pins:List (Addr×Obj)) (s:Shared) (σ:St) (H:Hp) (x y:V) (v u:Value) (Q:VK),Inv X pins σ H s->RelV x v->RelV y u->r x y H Q->
  wpAny (model X.prog X.w) X.A (f v u) (EP X pins σ Q) X.xe s
def M1(X:Cx)(f:Value->Sem Value)(r:V->Hp->VK->Prop):Prop:=
 ∀(pins:List (Addr×Obj)) (s:Shared) (σ:St) (H:Hp) (x:V) (v:Value) (Q:VK),Inv X pins σ H s->RelV x v->r x H Q->
  wpAny (model X.prog X.w) X.A (f v) (EP X pins σ Q) X.xe s
def fY(X:Cx)(f:Value)(r:List V->Hp->VK->Prop):Prop:=
 ∀(pins:List (Addr×Obj)) (s:Shared) (σ:St) (H:Hp) (xs:List V) (us:List Value) (Q:VK),Inv X pins σ H s->Vals xs us->r xs H Q->
  wpAny (model X.prog X.w) X.A (call f us) (EP X pins σ Q) X.xe s
def OU(X:Cx)(r:V->Hp->(Bool->Hp->Prop)->Prop):Prop:=
 ∀(pins:List (Addr×Obj)) (s:Shared) (σ:St) (H:Hp) (x:V) (v:Value) (Q:Bool->Hp->Prop),Inv X pins σ H s->RelV x v->r x H Q->
  wpAny (model X.prog X.w) X.A (truthy v) (TP X pins σ Q) X.xe s
def Lx(r:R2)(ta tb:TE):TE:=λσ H Q=>ta σ H λx H1=>tb σ H1 λy H2=>r x y H2 Q
def Py(r:V->Hp->VK->Prop)(ta:TE):TE:=λσ H Q=>ta σ H λx H1=>r x H1 Q
def rI(C:Int->Int->Prop)(g:Int->Int->V):R2:=λx y H Q=>∃i j,x=.int i/\y=.int j/\C i j/\Q (g i j) H
def FK(g:Int->Int->V):R2:=λx y H Q=>∃i j,x=.int i/\y=.int j/\Q (g i j) H
def rU(g:Int->V):V->Hp->VK->Prop:=λx H Q=>∃i,x=.int i/\Q (g i) H
theorem KD(ha:PE X a ta)(hb:PE X b tb){pins:List (Addr×Obj)}{s:Shared}{σ:St}{H:Hp}{R:V->V->Hp->Prop}(I:Inv X pins σ H s)
  (h:ta σ H λx H1=>tb σ H1 λy H2=>R x y H2) {Q:Value->Shared->Prop} {f:Value->Value->Sem Value}
  (hf:∀v u s2 x y H2,Inv X pins σ H2 s2->RelV x v->RelV y u->R x y H2->wpAny (model X.prog X.w) X.A (f v u) Q X.xe s2):
  wpAny (model X.prog X.w) X.A (eval a X.env) (λv s₁=>wpAny (model X.prog X.w) X.A (eval b X.env) (λu s₂=>wpAny (model X.prog X.w) X.A (f v u) Q X.xe s₂) X.xe s₁) X.xe s:=by
 refine dh (ha pins s σ H _ I h) λv s1 ⟨x,H1,I1,r1,q1⟩=>?_;refine dh (hb pins s1 σ H1 _ I1 q1) λu s2 ⟨y,H2,I2,r2,q2⟩=>?_;exact hf v u s2 x y H2 I2 r1 r2 q2
theorem Hh{op:Operator}{r:R2}(ho:oB X (binaryOp op) r)(ha:PE X a ta)(hb:PE X b tb):PE X (.BinOp a op b pos) (Lx r ta tb):=by
 intro pins s σ H Q I h;exact wpAny_BinOp (KD ha hb I h λv u s2 x y H2 I2 rx ry q=>ho pins s2 σ H2 x y v u Q I2 rx ry q)
theorem L5(ho:M1 X (unaryOp op) r)(ha:PE X a ta):PE X (.UnaryOp op a pos) (Py r ta):=by
 intro pins s σ H Q I h;exact UnaryOp_ (dh (ha pins s σ H _ I h) λv s1 ⟨x,H1,I1,r1,q1⟩=>ho pins s1 σ H1 x v Q I1 r1 q1)
theorem Nw{f:Value->Value->Sem Value}{C:Int->Int->Prop}{g:Int->Int->Int}
  (rule:∀(i j:Int)(t u:Tok)(s:Shared)(Q:Value->Shared->Prop)(E:Value->Shared->Prop),C i j->Q (.int (g i j) s.toks) {s with toks:=s.toks+1}->wpAny (model X.prog X.w) X.A (f (.int i t) (.int j u)) Q E s):
  oB X f (rI C λi j=>.int (g i j)):=by
 intro pins s σ H x y v u Q I rx ry h;obtain⟨i,j,rfl,rfl,hc,q⟩:=h;obtain⟨t,rfl⟩:=rx;obtain⟨t',rfl⟩:=ry;exact rule i j t t' s _ _ hc ⟨.int (g i j),H,I.tok _,⟨_,rfl⟩,q⟩
theorem Mh{f:Value->Value->Sem Value}{g:Int->Int->Int}
  (rule:∀(i j:Int)(t u:Tok)(s:Shared)(Q:Value->Shared->Prop)(E:Value->Shared->Prop),Q (.int (g i j) s.toks) {s with toks:=s.toks+1}->wpAny (model X.prog X.w) X.A (f (.int i t) (.int j u)) Q E s):
  oB X f (FK λi j=>.int (g i j)):=by
 intro pins s σ H x y v u Q I rx ry h;obtain⟨i,j,rfl,rfl,q⟩:=h;obtain⟨t,rfl⟩:=rx;obtain⟨t',rfl⟩:=ry;exact rule i j t t' s _ _ ⟨.int (g i j),H,I.tok _,⟨_,rfl⟩,q⟩
theorem Gg{f:Value->Value->Sem Value}{g:Int->Int->Bool}
  (rule:∀(i j:Int)(t u:Tok)(s:Shared)(Q:Value->Shared->Prop)(E:Value->Shared->Prop),Q (.bool (g i j)) s->wpAny (model X.prog X.w) X.A (f (.int i t) (.int j u)) Q E s):
  oB X f (FK λi j=>.bl (g i j)):=by
 intro pins s σ H x y v u Q I rx ry h;obtain⟨i,j,rfl,rfl,q⟩:=h;obtain⟨t,rfl⟩:=rx;obtain⟨t',rfl⟩:=ry;exact rule i j t t' s _ _ ⟨.bl (g i j),H,I,rfl,q⟩
def O4(i j:Int):Prop:=0<=j/\j<=1000000/\i.natAbs < 2^64
def K5(i j:Int):Prop:=(-(2^64) < i/\i < 2^64)\/(-(2^64) < j/\j < 2^64)
theorem K5.ok(h:K5 i j):IntMulOk i j:=by
 rcases h with⟨h1,h2⟩ |⟨h1,h2⟩
 ·exact .of_left (intBits_le_64 h1 h2)
 ·exact .of_right (intBits_le_64 h1 h2)
theorem Jx:oB X (binaryOp .Add) (FK λi j=>.int (i+j)):=Mh λ_ _ _ _ _ _ _ q=>add_int q
theorem Jr:oB X (binaryOp .Sub) (FK λi j=>.int (i-j)):=Mh λ_ _ _ _ _ _ _ q=>sub_int q
theorem Ju:oB X (binaryOp .Mult) (rI K5 λi j=>.int (i*j)):=Nw λ_ _ _ _ _ _ _ hc q=>mul_int q hc.ok
theorem Jv:oB X (binaryOp .Mod) (rI (λ_ j=>0 < j) λi j=>.int (i % j)):=Nw λi j _ _ _ _ _ hc q=>by
 have h1:(0:Int) < j:=hc;exact mod_int' (by lia) (by rw[Int.fmod_eq_emod_of_nonneg i (by lia)];exact q)
theorem Jt:oB X (binaryOp .Pow) (rI O4 λi j=>.int (i^j.toNat)):=Nw λ_ _ _ _ _ _ _ hc q=>pow_int_small hc.1 hc.2.1 hc.2.2 q
theorem Pw{f:Value->Sem Value}{g:Int->Int}
  (rule:∀(i:Int)(t:Tok)(s:Shared)(Q:Value->Shared->Prop)(E:Value->Shared->Prop),Q (.int (g i) s.toks) {s with toks:=s.toks+1}->wpAny (model X.prog X.w) X.A (f (.int i t)) Q E s):
  M1 X f (rU λi=>.int (g i)):=by
 intro pins s σ H x v Q I rx h;obtain⟨i,rfl,q⟩:=h;obtain⟨t,rfl⟩:=rx;exact rule i t s _ _ ⟨.int (g i),H,I.tok _,⟨_,rfl⟩,q⟩
theorem HX:M1 X (unaryOp .USub) (rU λi=>.int (-i)):=Pw λ_ _ _ _ _ q=>neg_int q
theorem Kc(I:Inv X pins σ H s)(q:Q (.bl k) H)(e:k=k'):EP X pins σ Q (.bool k') s:=by
 subst e;exact⟨.bl k,H,I,rfl,q⟩
theorem Md:oB X (compareOp .Lt) (FK λi j=>.bl (decide (i < j))):=Gg λ_ _ _ _ _ _ _ q=>lt_int q
theorem Me:oB X (compareOp .LtE) (FK λi j=>.bl (decide (i<=j))):=Gg λ_ _ _ _ _ _ _ q=>le_int q
theorem Mf:oB X (compareOp .Gt) (FK λi j=>.bl (decide (j < i))):=Gg λ_ _ _ _ _ _ _ q=>gt_int q
theorem Mg:oB X (compareOp .GtE) (FK λi j=>.bl (decide (j<=i))):=Gg λ_ _ _ _ _ _ _ q=>ge_int q
theorem Jw:oB X (compareOp .Is) (λx y H Q=>y=.cw/\Q (.bl (decide (x=.cw))) H):=by
 intro pins s σ H x y v u Q I rx ry h;obtain⟨rfl,q⟩:=h;cases ry;refine is_none_gen (Kc I q ?_);cases x <;> first
  |(cases rx;rfl)
  |(obtain⟨t,rfl⟩:=rx;rfl)
theorem jG(b:Expr)(h:op≠.In:=by decide)(h2:op≠.NotIn:=by decide):behindInMarks op b=false:=by
 have e1:(op==CmpOp.In)=false:=by cases op <;> first | rfl | exact absurd rfl h
 have e2:(op==CmpOp.NotIn)=false:=by cases op <;> first | rfl | exact absurd rfl h2
 cases b <;> simp[behindInMarks,e1,e2]
theorem F8{op:CmpOp}{r:R2}(ho:oB X (compareOp op) r)(ha:PE X a ta)(hb:PE X b tb)(hm:behindInMarks op b=false):PE X (.Compare a [op] [b] pos) (Lx r ta tb):=by
 intro pins s σ H Q I h;exact wpAny_Compare1 (KD ha hb I h λv u s2 x y H2 I2 rx ry q=>ho pins s2 σ H2 x y v u Q I2 rx ry q) hm
def G3(t:TE):TT:=λσ H Q=>t σ H λx H'=>∃k,x=.bl k/\Q k H'
theorem FT(ho:oB X (compareOp op) r)(ha:PE X a ta)(hb:PE X b tb)(hm:behindInMarks op b=false):PT X (.Compare a [op] [b] pos) (G3 (Lx r ta tb)):=by
 intro pins s σ H Q I h;refine wpAny_isTrue_Compare1 (dh (ha pins s σ H _ I h) λv s1 ⟨x,H1,I1,r1,q1⟩=>dh (hb pins s1 σ H1 _ I1 q1) λu s2 ⟨y,H2,I2,r2,q2⟩=>
  dh (ho pins s2 σ H2 x y v u _ I2 r1 r2 q2) λc s3 ⟨z,H3,I3,r3,k,e,q3⟩=>?_) hm
 subst e;cases r3;exact SD ⟨H3,I3,q3⟩
def Cr(r r':R2)(ta tb tc:TE):TE:=λσ H Q=>ta σ H λx H1=>tb σ H1 λy H2=>r x y H2 λz H3=>∃k,z=.bl k/\
 (if k=true then tc σ H3 λw' H4=>r' y w' H4 Q else Q (.bl false) H3)
theorem Dd(ho:oB X (compareOp op) r)(ho':oB X (compareOp op') r')(ha:PE X a ta)(hb:PE X b tb)(hc:PE X c tc)(hm:lastMarks [op,op'] [b,c]=false:=by with_unfolding_all rfl):PT X (.Compare a [op,op'] [b,c] pos) (G3 (Cr r r' ta tb tc)):=by
 intro pins s σ H Q I h;refine isTrue_chain (dh (ha pins s σ H _ I h) λv s1 ⟨x,H1,I1,r1,q1⟩=>test_link (dh (hb pins s1 σ H1 _ I1 q1) λu s2 ⟨y,H2,I2,r2,q2⟩=>
  dh (ho pins s2 σ H2 x y v u _ I2 r1 r2 q2) λd s3 ⟨z,H3,I3,r3,k,e,q3⟩=>?_)) hm
 subst e;cases r3;refine SD ?_;cases k with
 | false=>
  obtain⟨k',e',q'⟩:=q3;cases e';exact ite_ff ⟨H3,I3,q'⟩
 | true=>
  refine ite_tt (test_last (dh (hc pins s3 σ H3 _ I3 q3) λw' s4 ⟨z',H4,I4,r4,q4⟩=>dh (ho' pins s4 σ H4 y z' u w' _ I4 r2 r4 q4) λd' s5 ⟨z2,H5,I5,r5,k2,e2,q5⟩=>?_));subst e2;cases r5;exact SD ⟨H5,I5,q5⟩
def GX(K:FR)(x:V)(H:Hp)(k:Bool):Prop:=
 match x with
 | .cw=>k=false
 | .bl b=>k=b
 | .int i=>k=(i !=0)
 | .str y=>y.length<=sizeLine/\k=((y.length:Int) !=0)
 | .byt y=>y.size<=sizeLine/\k=((y.size:Int) !=0)
 | .ref p=>(∃xs,ia K H p xs/\k=!xs.isEmpty)\/(∃xs,ko K H p xs/\k=!xs.isEmpty)\/∃kvs,H p=some (.dK kvs)/\k=!kvs.isEmpty
 | _=>False
theorem yZ(r:KV kvs vs):(!vs.isEmpty)=!kvs.isEmpty:=by
 cases r <;> rfl
theorem rJ(r:Vals xs its):(!its.toArray.isEmpty)=!xs.isEmpty:=by
 cases r <;> simp
theorem k7:(sizeLine:Nat) < 2^63:=by rw[Rv];decide
theorem Cj:OU X (λx H Q=>∃k,GX X.K x H k/\Q k H):=by
 intro pins s σ H x v Q I rx h;obtain⟨k,e,q⟩:=h;have hl:=k7;have hs:sizeLine=16777216:=Rv;cases x with
 | cw=>
  cases rx;have e':k=false:=e;subst e';exact truthy_none ⟨H,I,q⟩
 | bl b=>
  cases rx;have e':k=b:=e;subst e';exact SD ⟨H,I,q⟩
 | int i=>
  obtain⟨t,rfl⟩:=rx;have e':k=(i !=0):=e;subst e';exact PySem.P.truthy_int ⟨H,I,q⟩
 | str y=>
  obtain⟨t,rfl⟩:=rx;obtain⟨hy,e'⟩:y.length<=sizeLine/\k=((y.length:Int) !=0):=e;subst e';exact PySem.P.truthy_str (by lia) ⟨H,I.tok _,q⟩
 | byt y=>
  obtain⟨t,rfl⟩:=rx;obtain⟨hy,e'⟩:y.size<=sizeLine/\k=((y.size:Int) !=0):=e;subst e';exact PySem.W.truthy_bytes (by lia) ⟨H,I.tok _,q⟩
 | ref p=>
  cases rx;have e':(∃xs,ia X.K H p xs/\k=!xs.isEmpty)\/(∃xs,ko X.K H p xs/\k=!xs.isEmpty)\/∃kvs,H p=some (.dK kvs)/\k=!kvs.isEmpty:=e;rcases e' with⟨xs,hx,e'⟩ |⟨xs,hx,e'⟩ |⟨kvs,hx,e'⟩
  ·subst e';obtain⟨its,r,pl,hz⟩:=I.list hx;have hlen:=r.length;exact wpAny_truthy_list pl.isList (by simp only[Qe];lia) ⟨H,I.tok _,by rw[rJ r];exact q⟩
  ·subst e';obtain⟨its,r,pl,hz⟩:=I.tuple hx;have hlen:=r.length;exact truthy_tuple pl (by simp only[Qe];lia) ⟨H,I.tok _,by rw[rJ r];exact q⟩
  ·subst e';obtain⟨hz,hS,vs,r,m⟩:kvs.length<=sizeLine/\(p==sysModules)=false/\∃vs,KV kvs vs/\s.heap.DictOf (bO X.prog X.w) p vs:=I.ba p _ hx;have hlen:kvs.length=vs.length:=Paired.length r;exact wpAny_truthy_dict hS m (by lia) ⟨H,I.tok _,by rw[yZ r];exact q⟩
 | _=>exact(show False from e).elim
theorem Dc(ha:PE X a ta)(he:∀whole,isTrue a X.env whole=(do let v<-whole;standAt a.pos;holding [v] (truthy v))):
  PT X a (λσ H Q=>ta σ H λx H'=>∃k,GX X.K x H' k/\Q k H'):=by
 intro pins s σ H Q I h;exact isTrue_plain (dh (ha pins s σ H _ I h) λv s1 ⟨x,H1,I1,r1,q1⟩=>Cj pins s1 σ H1 x v Q I1 r1 q1) (he _)
theorem yL:oB X (binaryOp .Add) (λx y H Q=>∃i j,x=.str i/\y=.str j/\i.length+j.length<=sizeLine/\Q (.str (i++j)) H):=by
 intro pins s σ H x y v u Q I rx ry h;obtain⟨i,j,rfl,rfl,hz,q⟩:=h;obtain⟨t,rfl⟩:=rx;obtain⟨t',rfl⟩:=ry;exact add_str (λt' tk=>⟨.str (i++j),H,I.tok _,⟨_,rfl⟩,q⟩) hz
theorem vals1(r:Vals [x] us):∃u,us=[u]/\RelV x u:=by
 cases r with
 | cons r1 r2=>cases r2;exact⟨_,rfl,r1⟩
theorem vals2(r:Vals [x,y] us):∃u w',us=[u,w']/\RelV x u/\RelV y w':=by
 cases r with
 | cons r1 r2=>
  cases r2 with
  | cons r3 r4=>cases r4;exact⟨_,_,rfl,r1,r3⟩
theorem EA:fY X (.builtin "abs") (λxs H Q=>∃i,xs=[.int i]/\Q (.int (if i < 0 then -i else i)) H):=by
 intro pins s σ H xs us Q I r h;obtain⟨i,rfl,q⟩:=h;obtain⟨u,rfl,t,rfl⟩:=vals1 r;exact call_abs_int λu tk=>⟨.int (if i < 0 then -i else i),H,I.tok _,⟨_,rfl⟩,q⟩
theorem BE(hc:X.calm=true):fY X (.builtin "max") (λxs H Q=>∃i j,xs=[.int i,.int j]/\Q (.int (if j > i then j else i)) H):=by
 intro pins s σ H xs us Q I r h;obtain⟨i,j,rfl,q⟩:=h;obtain⟨u,w',rfl,⟨t,rfl⟩,⟨t',rfl⟩⟩:=vals2 r;refine max_two_ints (I.ok.hd hc) λh' tk k=>⟨_,H,I.kept k,?_,q⟩
 by_cases hj:j > i
 ·rw[P0 hj,P0 hj];exact⟨_,rfl⟩
 ·rw[P7 hj,P7 hj];exact⟨_,rfl⟩
theorem BD(hc:X.calm=true):fY X (.builtin "min") (λxs H Q=>∃i j,xs=[.int i,.int j]/\Q (.int (if j < i then j else i)) H):=by
 intro pins s σ H xs us Q I r h;obtain⟨i,j,rfl,q⟩:=h;obtain⟨u,w',rfl,⟨t,rfl⟩,⟨t',rfl⟩⟩:=vals2 r;refine min_two_ints (I.ok.hd hc) λh' tk k=>⟨_,H,I.kept k,?_,q⟩
 by_cases hj:j < i
 ·rw[P0 hj,P0 hj];exact⟨_,rfl⟩
 ·rw[P7 hj,P7 hj];exact⟨_,rfl⟩
theorem vT:fY X (.type "str") (λxs H Q=>∃i,xs=[.int i]/\i.natAbs.log2 < 1920/\Q (.str (toString i)) H):=by
 intro pins s σ H xs us Q I r h;obtain⟨i,rfl,hz,q⟩:=h;obtain⟨u,rfl,t,rfl⟩:=vals1 r;exact PySem.P.str_of_int hz ⟨.str _,H,I.tok _,⟨_,rfl⟩,q⟩
section
variable {prog:Program} {w:World} {A:Around} {E:Value->Shared->Prop} {s:Shared} {K:FR} {x dx C f:Addr} {mA:Str->Option Value} {name:Str} {v:Value}
end
theorem pP.some_of(r:pP (some v) o):∃u,o=some u/\RelV v u:=by
 cases o with
 | none=>exact(show False from r).elim
 | some u=>exact⟨u,rfl,r⟩
structure cM(k:Nat)(A:Around):Prop where
 hd:A.handled=none
 dp:A.depth+3*k+5 < recursionLimit
 un:A.units+16*k+200 < cLine
theorem cM.mono(r:cM k A)(h:j<=k):cM j A:=⟨r.hd,by have:=r.dp;lia,by have:=r.un;lia⟩
theorem cM.deeper(r:cM (k+1) A)(env:Env):cM k (A.deeper env):=
 ⟨r.hd,by have:=r.dp;show A.depth+1+3*k+5 < _;lia,by have:=r.un;show A.units+3+16*k+200 < _;lia⟩
theorem cM.depth(r:cM k A):A.depth < recursionLimit:=by have:=r.dp;lia
theorem cM.units(r:cM k A):A.units+64 < cLine:=by have:=r.un;lia
def NQ:TA:=λ_ H Q=>Q [] H
def LA(ta:TE)(tr:TA):TA:=λσ H Q=>ta σ H λx H1=>tr σ H1 λxs H2=>Q (x::xs) H2
theorem Dv:PA X [] NQ:=λ_ _ _ _ H Q I h=>Ug ⟨[],H,I,.nil,h⟩
theorem vi(ha:PE X e te)(hr:PA X es t)(hs:starEach (e::es) X.env=(false,eval e X.env)::starEach es X.env:=by rfl):PA X (e::es) (LA te t):=by
 intro pos pins s σ H Q I h;rw[hs];show wpAny _ _ (spliced ((false,eval e X.env)::backTo pos (starEach es X.env))) _ _ s;refine T8 (dh (ha pins s σ H _ I h) λu s1 ⟨x,H1,I1,r1,q1⟩=>?_);exact dh (hr pos pins s1 σ H1 _ I1 q1) λus s2 ⟨xs,H2,I2,r2,q2⟩=>⟨x::xs,H2,I2,.cons r1 r2,q2⟩
def NO(t:TA):TE:=λσ H Q=>t σ H λxs H1=>xs.length<=sizeLine/\∀p,H1 p=none->Q (.ref p) (upd H1 p (.tup xs))
def NS(t:TA):TE:=λσ H Q=>t σ H λxs H1=>xs.length<=sizeLine/\∀p,H1 p=none->Q (.ref p) (upd H1 p (.lst xs))
theorem Jc{x1}(h:PA X es t):PE X (.Tuple es x1 pos) (NO t):=by
 intro pins s σ H Q I hq;refine wpAny_Tuple_spliced (dh (h pos pins s σ H _ I hq) λus s1 ⟨xs,H1,I1,r,z,q⟩=>⟨by rw[<-r.length];exact z,?_⟩);have hf:H1 s1.heap.objs.size=none:=I1.ba.fresh (PZ _);refine⟨.ref s1.heap.objs.size,upd H1 s1.heap.objs.size (.tup xs),I1.laid (t':=s1.toks) (λb u e=>P9 _ e) (PZ _) ?_,rfl,q _ hf⟩;exact⟨z,us,r,⟨_,Qt _ rfl,rfl,⟨_,rfl⟩,rfl⟩⟩
theorem Jh(h:PA X es t):PE X (.List es pos) (NS t):=by
 intro pins s σ H Q I hq;refine wpAny_List_spliced (dh (h pos pins s σ H _ I hq) λus s1 ⟨xs,H1,I1,r,z,q⟩=>⟨by rw[<-r.length];exact z,?_⟩);have hf:H1 s1.heap.objs.size=none:=I1.ba.fresh (PZ _);refine⟨.ref s1.heap.objs.size,upd H1 s1.heap.objs.size (.lst xs),I1.laid (t':=s1.toks) (λb u e=>P9 _ e) (PZ _) ?_,rfl,q _ hf⟩;exact⟨z,us,0,r,Qt _ rfl⟩
abbrev Sp:=List V->Hp->VK->XK->Prop
abbrev AB:=List Env->Hp->Shared->XK->Value->Shared->Prop
structure E3(P:Program)(w:World)(K:FR)(mg:Str->Option Value)(base:Heap)(A:Around)(outer:List Env)(s:Shared)(H:Hp):Prop where
 frames:A.frames=some outer
 mod:Mod K mg base
 bs:∀b o,base.get? b=some o->s.heap.get? b=some o/\H b=none
 E8:base.objs.size<=s.heap.objs.size
 oh:s.heap.FunFrames base outer
 Hm:∀b∈kc outer,H b=none
 ba:kh P w H s.heap
 bare:AllBare s.gens
def CE(outer:List Env)(P:Program)(w:World)(H:Hp)(s:Shared)(Q:VK)(u:Value)(s':Shared):Prop:=
 ∃v H',s'.os=s.os/\AllBare s'.gens/\Un (kc outer) [] H H' s.heap s'.heap/\kh P w H' s'.heap/\RelV v u/\Q v H'
def CR(CX:AB)(outer:List Env)(P:Program)(w:World)(H:Hp)(s:Shared)(Q:VK)(E:XK)(r:Result)(s':Shared):Prop:=
 match r with
 | .ok (.ret u)=>CE outer P w H s Q u s'
 | .ok _=>False
 | .error e=>CX outer H s E e s'
structure eZ(P:Program)(w:World)(K:FR)(mg:Str->Option Value)(base:Heap)(CX:AB)(k:Nat)(f:Addr)(fd:FuncData)(ps:List Str)(sp:Sp):Prop where
 len:∀vs H Q E,sp vs H Q E->vs.length=ps.length
 run:∀(A:Around)(outer:List Env)(s:Shared)(H:Hp)(args:Args)(us:List Value)(vs:List V)(Q:VK)(E:XK),cM k A->E3 P w K mg base A outer s H->BindsTo s fd args (ps.zip us)->Vals vs us->sp vs H Q E->
  codeAny (model P w) A (.call (.ref f) args) (CR CX outer P w H s Q E) s
theorem eZ.imp{P:Program}{w:World}{K:FR}{mg:Str->Option Value}{base:Heap}{CX:AB}{k:Nat}{f:Addr}{fd:FuncData}{ps:List Str}{sp sp':Sp}(F:eZ P w K mg base CX k f fd ps sp)
  (h:∀vs H Q E,sp' vs H Q E->sp vs H Q E):eZ P w K mg base CX k f fd ps sp':=
 ⟨λvs H Q E q=>F.len vs H Q E (h _ _ _ _ q),λA outer s H args us vs Q E hr he hb hv hs=>F.run A outer s H args us vs Q E hr he hb hv (h _ _ _ _ hs)⟩
theorem Inv.Kh(I:Inv X pins σ H s):E3 X.prog X.w X.K X.mg X.base X.A X.stack s H:=
 ⟨I.ok.frames,I.ok.mod,I.bs,P6 I.ok.E8 I.sz,I.stack,I.pS,I.ba,I.bare⟩
theorem Inv.after(I:Inv X pins σ H s)(h:CE X.stack X.prog X.w H s Q u s'):EP X pins σ Q u s':=by
 obtain⟨v,H',os,bare,un,ba,r,q⟩:=h;obtain⟨hh,g,d,t,os'⟩:=s';obtain rfl:os'=s.os:=os;exact⟨v,H',I.call (h':=hh) (g':=g) (d':=d) (t':=t) (ch:=[]) un ba bare (λb z=>absurd z (by simp)),r,q⟩
def LB(sp:Sp)(dvs:List V)(E:XK)(t:TA):TE:=λσ H Q=>t σ H λvs H1=>sp (vs++dvs) H1 Q E
def Binds(K:FR)(fd:FuncData)(ps:List Str)(ds:List Value):Prop:=
 ∀(s:Shared)(us:List Value),K.In s.heap->(us++ds).length=ps.length->BindsTo s fd ⟨us,[]⟩ (ps.zip (us++ds))
theorem Binds.all{K:FR}{fd:FuncData}{ps:List Str}(h:∀us:List Value,us.length=ps.length->bindArgs fd ⟨us,[]⟩=pure (ps.zip us)):Binds K fd ps []:=λs us _ hl=>by
 rw[QS] at hl ⊢;exact .of_eq (h us hl)
def Passes(CX:AB)(X:Cx)(E:XK):Prop:=∀(pins:List (Addr×Obj)) (σ:St) (H:Hp) (s:Shared) (e:Value) (s':Shared),Inv X pins σ H s->CX X.stack H s E e s'->X.xe e s'
theorem IC(F:eZ X.prog X.w X.K X.mg X.base CX k f fd ps sp)(hr:cM k X.A)(hb:Binds X.K fd ps ds)(hd:Vals dvs ds)(hx:Passes CX X E)(I:Inv X pins σ H s)(r:Vals vs us)(h:sp (vs++dvs) H Q E):wpAny (model X.prog X.w) X.A (call (.ref f) us) (EP X pins σ Q) X.xe s:=by
 have r2:Vals (vs++dvs) (us++ds):=r.append hd;have hl:(us++ds).length=ps.length:=by rw[<-r2.length];exact F.len _ _ _ _ h
 refine wpAny_call (Tw (F.run X.A X.stack s H ⟨us,[]⟩ (us++ds) (vs++dvs) Q E hr I.Kh (hb s us I.z7 hl) r2 h) λr s' hq=>?_);cases r with
 | error e=>exact hx pins σ H s e s' I hq
 | ok fl=>
  cases fl with
  | ret u=>exact I.after hq
  | next=>exact False.elim hq
  | brk=>exact False.elim hq
  | cont=>exact False.elim hq
theorem zS(F:eZ X.prog X.w X.K X.mg X.base CX k f fd ps sp)(hr:cM k X.A)(hg:Gl X x)(hm:X.mg x=some (.ref f))(hk:PySem.W.keepIn X.K (.ref f)=true)(hb:Binds X.K fd ps ds)(hd:Vals dvs ds)(hx:Passes CX X E)
  (ha:PA X (e::es) t) (hdb:(x==("__debug__":Str))=false:=by decide) (he:starEach (e::es) X.env=(false,eval e X.env)::starEach es X.env:=by rfl) (hpl:(backTo pos (starEach es X.env)).any (·.1)=false:=by rfl):
  PE X (.Call (.Name x p) (e::es) [] pos) (LB sp dvs E t):=by
 intro pins s σ H Q I h;refine RA (j6 I hg hm ?_ hdb);refine UU (h₀:=X.base) I.ok.mod.Ny hk (dh (ha pos pins s σ H _ I h) λus s1 ⟨vs,H1,I1,r,q⟩=>⟨I1.z7,?_⟩) he hpl;exact IC F hr hb hd hx I1 r q
structure aE(N P:List Str)(sc:Scope):Prop where
 kind:sc.kind=.function
 co:sc.isCoroutine=false
 gen:sc.isGenerator=false
 nd:N.Nodup
 pre:N.take P.length=P
 par:∀x∈P,sc.names.lookup x=some .local\/sc.names.lookup x=some .cell
 JB:∀y∈sc.names,y.2≠.free
theorem uq{kindOf:Str->Option NameKind}{x:Str}:∀{binds:List (Str×Value)} {m:Str->Option Value},(∀v,(x,v)∉binds)->bindL kindOf binds m x=m x
 | [],_,_=>rfl
 |(n,v)::r,m,h=>by
  unfold bindL;rw[uq λw hw=>h w (P4 _ hw)]
  split
  ·have:x≠n:=by rintro rfl;exact h v P1
   simp[this]
  ·rfl
theorem uu{kindOf:Str->Option NameKind}{x:Str}:∀{binds:List (Str×Value)} {m:Str->Option Value},(∀v,(x,v)∉binds)->bindC kindOf binds m x=m x
 | [],_,_=>rfl
 |(n,v)::r,m,h=>by
  unfold bindC;rw[uu λw hw=>h w (P4 _ hw)]
  split
  ·rfl
  ·have:x≠n:=by rintro rfl;exact h v P1
   simp[this]
theorem ur{kindOf:Str->Option NameKind}{x:Str}{v:Value}:∀{P:List Str} {vs:List Value} {i:Nat} {m:Str->Option Value},P.Nodup->P[i]?=some x->vs[i]?=some v->kindOf x=some .local->
  bindL kindOf (P.zip vs) m x=some v
 | [],_,_,_,_,h,_,_=>by simp at h
 | _::_,[],_,_,_,_,h,_=>by simp at h
 | p::P,w::vs,0,m,nd,h1,h2,hk=>by
  simp at h1 h2;subst h1;subst h2;show bindL kindOf ((p,w)::P.zip vs) m p=_;unfold bindL;rw[uq λv hv=>(SJ.mp nd).1 (T9 hv).1,P0 hk];simp
 | p::P,w::vs,i+1,m,nd,h1,h2,hk=>by
  show bindL kindOf ((p,w)::P.zip vs) m x=_;unfold bindL;exact ur (i:=i) (SJ.mp nd).2 (by simpa using h1) (by simpa using h2) hk
theorem uv{kindOf:Str->Option NameKind}{x:Str}{v:Value}:∀{P:List Str} {vs:List Value} {i:Nat} {m:Str->Option Value},P.Nodup->P[i]?=some x->vs[i]?=some v->kindOf x≠some .local->
  bindC kindOf (P.zip vs) m x=some v
 | [],_,_,_,_,h,_,_=>by simp at h
 | _::_,[],_,_,_,_,h,_=>by simp at h
 | p::P,w::vs,0,m,nd,h1,h2,hk=>by
  simp at h1 h2;subst h1;subst h2;show bindC kindOf ((p,w)::P.zip vs) m p=_;unfold bindC;rw[uu λv hv=>(SJ.mp nd).1 (T9 hv).1,P7 hk];simp
 | p::P,w::vs,i+1,m,nd,h1,h2,hk=>by
  show bindC kindOf ((p,w)::P.zip vs) m x=_;unfold bindC;exact uv (i:=i) (SJ.mp nd).2 (by simpa using h1) (by simpa using h2) hk
noncomputable def start(N:List Str)(vs:List V):St:=vs.map some++List.replicate (N.length-vs.length) none
abbrev ft(CX:AB)(P:Program)(w:World)(K:FR)(mg:Str->Option Value)(base:Heap)(N:List Str)(qual:Str)(scope:Scope)(f:Addr)(cd:Value)(A:Around)(outer:List Env)(s:Shared)(H:Hp)(E:XK):Cx where
 prog:=P
 w:=w
 K:=K
 mg:=mg
 base:=base
 A:=A.deeper (envOfC qual scope s.heap.objs.size f cd)
 N:=N
 s₀:=s
 H₀:=H
 env:=envOfC qual scope s.heap.objs.size f cd
 outer:=outer
 stack:=envOfC qual scope s.heap.objs.size f cd::outer
 ex:=[]
 calm:=true
 fn:=λ_=>true
 pn:=[]
 xe:=λe s'=>wpAny (model P w) (A.deeper (envOfC qual scope s.heap.objs.size f cd)) (leaving (envOfC qual scope s.heap.objs.size f cd) e) (λ_ s''=>CX outer H s E e s'') (λe' s''=>CX outer H s E e' s'') s'
theorem xZ{sc:Scope}{n:Nat}{x:Str}(h:sc.names.lookup x=some .cell):∃c,(cellsFrom n sc.names []).lookup x=some c:=by
 have q:=Uz sc.names n [] (.inl h);exact RD.mp q
theorem t9{CX:AB}{P:Program}{w:World}{K:FR}{mg:Str->Option Value}{base:Heap}{N ps:List Str}{qual:Str}{scope:Scope}{f:Addr}{cd:Value}{A:Around}{outer:List Env}{s s1:Shared}{H:Hp}{E:XK}{us:List Value}{vs:List V}
  (S:aE N ps scope) (hd:A.handled=none) (e0:E3 P w K mg base A outer s H) (hl:vs.length=ps.length) (r:Vals vs us)
  (x:InCallC s s.heap.objs.size (bindL (envOfC qual scope s.heap.objs.size f cd).kindOf (ps.zip us) λ_=>none) (cellsFrom (s.heap.objs.size+1) scope.names []) (bindC (envOfC qual scope s.heap.objs.size f cd).kindOf (ps.zip us) λ_=>none) s1):
  Inv (ft CX P w K mg base N qual scope f cd A outer s H E) [] (start N vs) H s1:=by
 have hpl:ps.length<=N.length:=by have:=congrArg List.length S.pre;rw[Qj] at this;lia
 obtain⟨h1,tk,rfl,hk⟩:=x.done;have noA:∀b:Addr,b∉(ft CX P w K mg base N qual scope f cd A outer s H E).ex:=λb z=>absurd (show b∈([]:List Addr) from z) (by simp);refine⟨⟨e0.mod,S.kind,rfl,rfl,PZ _,λy z c h1 h2=>?_,λy hy=>?_,λy c _ h=>?_,λ_=>hd,Around.frames_deeper e0.frames,.inr ⟨rfl,rfl⟩,λb z=>absurd z (noA b),e0.bs,e0.E8,λb _ _=>noA b,λb z=>absurd z (noA b),e0.oh,e0.Hm⟩,
  rfl,e0.bare,Un.kept hk,⟨_,x.toInCall.ns,λi y v h1 h2 h3=>?_⟩,λy c h=>⟨_,x.cell y c h⟩,e0.ba.fresh (PZ _),λy c h=>?_,λp hp=>absurd (show p∈([]:List (Addr×Obj)) from hp) (by simp),e0.ba.kept hk,?_⟩
 ·exact name_of_addr x.apart (QB h1) (QB h2)
 ·have hy:scope.names.lookup y=some .cell\/scope.names.lookup y=some .free:=hy;rcases hy with hy | hy
  ·exact xZ hy
  ·exact absurd rfl (S.JB _ (QB hy))
 ·exact RK (x.above y c (QB h))
 ·have hi:i < vs.length:=by
   unfold start at h2
   by_cases hi:i < vs.length
   ·exact hi
   ·rw[Qa (by simpa using hi)] at h2;rw[Ux] at h2
    split at h2 <;> cases h2
  have ha:vs[i]?=some v:=by
   unfold start at h2;rw[P8 (by simpa using hi),Qg] at h2;cases e:vs[i]? with
   | none=>rw[e] at h2;cases h2
   | some a=>rw[e] at h2;cases h2;rfl
  obtain⟨u,hu,rv⟩:=r.get ha;have hp:ps[i]?=some y:=by
   rw[<-S.pre,Qz (by lia)];exact h1
  have ndP:ps.Nodup:=by rw[<-S.pre];exact S.nd.sublist (S8 _ _)
  refine⟨u,rv,?_⟩;rcases S.par y (PX hp) with k | k
  ·exact .inl ⟨k,ur ndP hp hu k⟩
  ·obtain⟨c,e⟩:=xZ (n:=s.heap.objs.size+1) k;refine .inr ⟨.inl k,c,e,?_⟩;have q:=x.cell y c e;rw[uv ndP hp hu (by show scope.names.lookup y≠_;rw[k];decide)] at q;exact q
 ·exact e0.ba.fresh (RK (x.above y c (QB h)))
 ·unfold start;show _=N.length;rw[Qb,PU,List.length_replicate]
  lia
theorem D2{CX:AB}{P:Program}{w:World}{K:FR}{mg:Str->Option Value}{base:Heap}{k:Nat}{f:Addr}{name qual:Str}{params:Arguments}{body:List Stmt}{scope:Scope}{dV kV doc pm cdv ct oc:Value}{an od:Option Addr}
  {osl:Array (Option Value)} {N ps:List Str} {sp:Sp} (lk:K.lookup f=some ⟨oc,od,.func (PySem.W.fnOf name qual params body scope dV kV doc pm an cdv ct),osl⟩) (hcd:PySem.W.codeIn K cdv qual=true) (S:aE N ps scope)
  (len:∀vs H Q E,sp vs H Q E->vs.length=ps.length)
  (hbody:∀(A:Around)(outer:List Env)(s:Shared)(H:Hp)(vs:List V)(Q:VK)(E:XK),cM k (A.deeper (envOfC qual scope s.heap.objs.size f cdv))->sp vs H Q E->
   ∃t,wF (ft CX P w K mg base N qual scope f cdv A outer s H E) body t/\t {nx:=λ_ H'=>Q .cw H',rt:=Q} (start N vs) H):
  eZ P w K mg base CX (k+1) f (PySem.W.fnOf name qual params body scope dV kV doc pm an cdv ct) ps sp:=by
 refine⟨len,λA outer s H args us vs Q E hr e0 hb r hsp=>?_⟩;have hl:=len _ _ _ _ hsp;have KX:K.In s.heap:=e0.mod.Ny.keeps λb o e=>(e0.bs b o e).1;have lim:s.heap.NoLimit:=e0.mod.nolimit.keeps λb o e=>(e0.bs b o e).1;have hkind:∀y∈ps.zip us,scope.names.lookup y.1=some .local\/(scope.names.lookup y.1=some .cell/\((cellsFrom (s.heap.objs.size+1) scope.names []).lookup y.1).isSome=true):=λ⟨n,v⟩ hy=>by
  rcases S.par n (T9 hy).1 with q | q
  ·exact .inl q
  ·exact .inr ⟨q,Uz _ _ _ (.inl q)⟩
 refine codeAny_call_function hr.depth (KX _ _ lk) rfl S.co S.gen rfl (PySem.W.codeRec_of KX hcd) (hb _ _ _ _ ?_);refine UL S.kind hkind λenv he s1 x=>?_;subst he;refine⟨lim.keeps x.toInCall.keep,codeAny_func ?_⟩;obtain⟨t,ht,hq⟩:=hbody A outer s H vs Q E (hr.deeper _) hsp;have I:Inv (ft CX P w K mg base N qual scope f cdv A outer s H E) [] (start N vs) H s1:=t9 S hr.hd e0 hl r x;refine QO (ht [] s1 (start N vs) H _ I hq) (λfl s' hs=>?_) λe s' hs=>hs;have fin:∀{σ':St} {H':Hp} {v:V} {u:Value},Inv (ft CX P w K mg base N qual scope f cdv A outer s H E) [] σ' H' s'->RelV v u->Q v H'->CE outer P w H s Q u s':=
  λ{σ' H' v u} J rv q=>⟨v,H',J.os,J.bare,J.base,J.ba,rv,q⟩
 cases fl with
 | ret u=>
  obtain⟨v,σ',H',J,rv,q⟩:=hs;exact fin J rv q
 | next=>
  obtain⟨σ',H',J,q⟩:=hs;exact fin (v:=V.cw) (u:=Value.none) J rfl q
 | brk=>
  obtain⟨_,_,_,q⟩:=hs;exact False.elim q
 | cont=>
  obtain⟨_,_,_,q⟩:=hs;exact False.elim q
section
variable {X:Cx} {x:Str} {p pos:Pos} {e:Expr} {es:List Expr} {t:TA} {id T:String} {r:List V->Hp->VK->Prop}
def O9(r:List V->Hp->VK->Prop)(t:TA):TE:=λσ H Q=>t σ H λvs H1=>r vs H1 Q
theorem xi(hc:fY X (.builtin id) r)(hg:Gl X x)(hm:X.mg x=none)(hv:bootBuiltins x=some (.builtin id))(ha:PA X (e::es) t)(hn:x≠"__name__":=by decide)(hdb:(x==("__debug__":Str))=false:=by decide)
  (he:starEach (e::es) X.env=(false,eval e X.env)::starEach es X.env:=by rfl) (hpl:(backTo pos (starEach es X.env)).any (·.1)=false:=by rfl):PE X (.Call (.Name x p) (e::es) [] pos) (O9 r t):=by
 intro pins s σ H Q I h;refine RA (k9 I hg hm hv ?_ hn hdb);exact PyProof.Rows.callWith_builtin1 (dh (ha pos pins s σ H _ I h) λus s1 ⟨vs,H1,I1,r1,q1⟩=>hc pins s1 σ H1 vs us Q I1 r1 q1) he hpl
theorem tS(hc:fY X (.type T) r)(hg:Gl X x)(hm:X.mg x=none)(hv:bootBuiltins x=some (.type T))(ha:PA X (e::es) t)(hn:x≠"__name__":=by decide)(hdb:(x==("__debug__":Str))=false:=by decide)
  (he:starEach (e::es) X.env=(false,eval e X.env)::starEach es X.env:=by rfl) (hpl:(backTo pos (starEach es X.env)).any (·.1)=false:=by rfl):PE X (.Call (.Name x p) (e::es) [] pos) (O9 r t):=by
 intro pins s σ H Q I h;refine RA (k9 I hg hm hv ?_ hn hdb);exact Rk (dh (ha pos pins s σ H _ I h) λus s1 ⟨vs,H1,I1,r1,q1⟩=>hc pins s1 σ H1 vs us Q I1 r1 q1) he hpl
end
end L2
namespace HT
open PySem PyProof.Rows
section
open PySem.SeqAt
open PySem.AutoSeq1 (wpAny_loadPart')
open PySem.MeetsSeq PySem.MeetsSeq2 PySem.MeetsSeq3
end
theorem GP(ht:IsTup s.heap t vs.toArray)(hb:IsTup s.heap b ws.toArray)(hv:vs≠[])(h1:ws=[]->Q (.ref t) s)(h2:ws≠[]->Q (.ref s.heap.objs.size) {s with heap:=s.heap.push {cls:=.type "tuple",data:=.seq (vs++ws).toArray}})(hsz:vs.length+ws.length<=sizeLine):wpAny (model prog w) A (binaryOp .Add (.ref t) (.ref b)) Q E s:=by
 obtain⟨⟨cls,dd,data,sl⟩,ho,hc,n,hd⟩:=id ht;obtain⟨⟨cls2,dd2,data2,sl2⟩,ho2,hc2,n2,hd2⟩:=id hb;simp only at hc hd hc2 hd2;subst hc hd hc2 hd2;have e:vs.toArray++ws.toArray=(vs++ws).toArray:=by simp
 by_cases hw:ws=[]
 ·exact concat_meets ⟨_,ho,rfl⟩ ⟨_,ho2,rfl⟩ Uk UT Tf Te (Ta _ _)
   (tuple_addW1 t b vs.toArray ws.toArray n n2 dd dd2 sl sl2 (by simpa using hv) (by simp[hw])) ⟨ho,ho2,h1 hw⟩
 ·refine concat_meets ⟨_,ho,rfl⟩ ⟨_,ho2,rfl⟩ Uk UT Tf Te (Ta _ _)
   (tuple_addW2 t b vs.toArray ws.toArray n n2 dd dd2 sl sl2 (by simpa using hv) (by simpa using hw) (by rw[Qe,Qe];exact hsz)) ⟨ho,ho2,?_⟩
  rw[e];exact h2 hw
noncomputable def cN(n d:Nat):Option Int->Nat
 | none=>d
 | some v=>if v < 0 then(v+(n:Int)).toNat else min v.toNat n
theorem lV(n d:Nat):cN n d none=d:=rfl
theorem pT(n d k:Nat):cN n d (some (k:Int))=min k n:=by
 show(if(k:Int) < 0 then((k:Int)+(n:Int)).toNat else min (k:Int).toNat n)=min k n;rw[P7 (by lia),RC]
theorem IB(n d:Nat)(hd:d<=n)(o:Option Int):cN n d o<=n:=by
 cases o with
 | none=>exact hd
 | some v=>
  show(if v < 0 then(v+(n:Int)).toNat else min v.toNat n)<=n
  by_cases hv:v < 0
  ·rw[P0 hv];lia
  ·rw[P7 hv];exact Nat.min_le_right _ _
theorem Ap(v:Int)(n d:Nat):(if v < 0 then max (v+(n:Int)) 0 else min v (n:Int))=((cN n d (some v):Nat):Int):=by
 show(if v < 0 then max (v+(n:Int)) 0 else min v (n:Int))=(((if v < 0 then(v+(n:Int)).toNat else min v.toNat n):Nat):Int)
 by_cases hv:v < 0
 ·simp only[P0 hv];lia
 ·simp only[P7 hv];lia
theorem zp(lo hi:Option Int)(n:Nat):Builtin.Slice.sliceAdjust lo hi 1 (n:Int)=(((cN n 0 lo:Nat):Int),((cN n n hi:Nat):Int)):=by
 have h1:¬((1:Int) < 0):=by lia
 unfold Builtin.Slice.sliceAdjust;simp only[h1,Ua];refine Prod.ext ?_ ?_
 ·cases lo with
  | none=>rfl
  | some v=>exact Ap v n 0
 ·cases hi with
  | none=>rfl
  | some v=>exact Ap v n n
theorem yJ(i j:Nat):Builtin.Slice.slicePlaces (i:Int) (j:Int) 1=j-i:=by
 unfold Builtin.Slice.slicePlaces;have h1:(1:Int) > 0:=by lia
 simp only[h1,Sj,TU]
 split <;> lia
theorem qC(p:IsPart v o)(h:Q o s):wpAny (model prog w) A (Builtin.Slice.slicePartIndex v) Q E s:=by
 cases p with
 | none=>exact slicePart_none h
 | int i t=>exact slicePart_int h
theorem ig{sl:Addr}{vl vu:Value}{lo hi:Option Int}{n:Nat}{Q:Int×Int×Nat->Shared->Prop}(hs:s.heap.IsSliceOf sl vl vu .none)(pl:IsPart vl lo)(pu:IsPart vu hi)
  (h:Q (((cN n 0 lo:Nat):Int),1,cN n n hi-cN n 0 lo) s):wpAny (model prog w) A (Builtin.Slice.sliceApplied (.ref sl) (pure (n:Int))) Q E s:=by
 obtain⟨os,hos,hcs,km⟩:=id hs;unfold Builtin.Slice.sliceApplied Builtin.Slice.sliceFields;refine PY (PY (Q8 hos km (x:=vl) rfl (PY (Q8 hos km (x:=vu) rfl (PY (Q8 hos km (x:=.none) rfl (Qh ?_)))))));refine PY (slicePart_none ?_);show wpAny _ _ (if((1:Int)==0)=true then _ else _) _ _ s;rw[P7 (by decide)];refine PY (qC pl (PY (qC pu (PY (Qh ?_)))));show wpAny _ _ (match Builtin.Slice.sliceAdjust lo hi 1 (n:Int) with |(lo,hi)=>pure (lo,(1:Int),Builtin.Slice.slicePlaces lo hi 1)) _ _ s;rw[zp lo hi n];show wpAny _ _ (pure (((cN n 0 lo:Nat):Int),(1:Int),Builtin.Slice.slicePlaces ((cN n 0 lo:Nat):Int) ((cN n n hi:Nat):Int) 1)) _ _ s;rw[yJ];exact Qh h
theorem Dm(xs:Array Value)(i k:Nat):((List.range k).filterMap λ(m:Nat)=>xs[((i:Int)+(m:Int)*1).toNat]?).toArray=((xs.toList.drop i).take k).toArray:=by
 have e:(λ(m:Nat)=>xs[((i:Int)+(m:Int)*1).toNat]?)=λm=>xs[i+m]?:=by
  funext m
  have:((i:Int)+(m:Int)*1).toNat=i+m:=by lia
  rw[this]
 rw[e];have:=pick_run xs i k;rw[RN] at this;have e2:((λx=>xs[x]?)∘λx=>i+x)=λm=>xs[i+m]?:=rfl;rw[e2] at this;rw[this]
theorem mK{t sl:Addr}{items:Array Value}{vl vu:Value}{lo hi:Option Int}{Q:Value->Shared->Prop}(ht:IsTup s.heap t items)(hs:s.heap.IsSliceOf sl vl vu .none)(pl:IsPart vl lo)(pu:IsPart vu hi)
  (hw:¬(cN items.size 0 lo=0/\cN items.size items.size hi=items.size))
  (h:Q (.ref s.heap.objs.size) {s with heap:=s.heap.push {cls:=.type "tuple",data:=.seq ((items.toList.drop (cN items.size 0 lo)).take (cN items.size items.size hi-cN items.size 0 lo)).toArray}})
  (hsz:items.size<=sizeLine):wpAny (model prog w) A (getItem (.ref t) (.ref sl)) Q E s:=by
 have htake:sizeOk (.seq ((items.toList.drop (cN items.size 0 lo)).take (cN items.size items.size hi-cN items.size 0 lo)).toArray):=by
  show((items.toList.drop (cN items.size 0 lo)).take (cN items.size items.size hi-cN items.size 0 lo)).toArray.size<=sizeLine;rw[Qe,Qj,RH,Q2]
  lia
 have hj:cN items.size items.size hi<=items.size:=IB _ _ (PZ _) hi;obtain⟨os,hos,hcs,km⟩:=id hs;have hTs:s.TypeIs (.ref sl) "slice":=⟨os,hos,hcs⟩;unfold getItem
 try with_reducible refine Sk ?_
 first | refine PY (Qh ?_) | skip
 refine PY (wpAny_sequenceKey ht.typeIs (by decide) ?_);refine PY (Rp (name:=Str.ofString "__getitem__") ht.typeIs QQ
  (Rx QQ ht.typeIs entry_tuple_getitem ?_ (args_tuple_getitem _ _)))
 show wpAny _ _ (Builtin.Tuple.tupleItemsOf (.ref t) >>=_) _ _ s;refine PY (tupleItemsOf_ ht ?_);refine PY (wpAny_typeOf hTs ?_);rw[P0 (by decide)];refine PY (ig hs pl pu ?_);have hno:¬((((cN items.size 0 lo:Nat):Int)==0&&(1:Int)==1&&(cN items.size items.size hi-cN items.size 0 lo)==items.size)=true):=by
  intro q;rw[Qw,Qw] at q;have q1:((cN items.size 0 lo:Nat):Int)=0:=eq_of_beq q.1.1;have q2:cN items.size items.size hi-cN items.size 0 lo=items.size:=eq_of_beq q.2;exact hw ⟨by lia,by lia⟩
 show wpAny _ _ (if(((cN items.size 0 lo:Nat):Int)==0&&(1:Int)==1&&(cN items.size items.size hi-cN items.size 0 lo)==items.size)=true then _ else _) _ _ s;rw[P7 hno,Dm]
 first
  | exact PY (m:=Builtin.Tuple.tupleExact _) (Ro (Qh ⟨_,rfl,Qh h⟩) htake)
  | exact PY (m:=Builtin.Tuple.tupleExact _) (Ro (PY (Qh (Qh ⟨_,rfl,Qh h⟩))) htake)
  | exact PY (PY (m:=Builtin.Tuple.tupleExact _) (Ro (Qh (Qh ⟨_,rfl,Qh h⟩)) htake))
  | exact PY (PY (m:=Builtin.Tuple.tupleExact _) (Ro (Qh ⟨_,rfl,Qh h⟩) htake))
end HT
namespace L2
open PySem PySem.Spec PyProof.Rows
abbrev TO:=St->Hp->(Option Int->Hp->Prop)->Prop
def PO(X:Cx)(e:Option Expr)(t:TO):Prop:=
 ∀(pins:List (Addr×Obj)) (s:Shared) (σ:St) (H:Hp) (Q:Option Int->Hp->Prop),Inv X pins σ H s->t σ H Q->
  wpAny (model X.prog X.w) X.A (evalPart e X.env) (λu s'=>∃o H',Inv X pins σ H' s'/\IsPart u o/\Q o H') X.xe s
noncomputable def Fm:TO:=λ_ H Q=>Q none H
def Lv(t:TE):TO:=λσ H Q=>t σ H λx H1=>∃i,x=.int i/\Q (some i) H1
theorem intsAre_of:∀{us:List Value},Vals (ns.map V.int) us->IntsAre us ns:=by
 induction ns with
 | nil=>intro us r;rw[R3] at r;cases r;exact .nil
 | cons n ns ih=>
  intro us r;rw[Qc] at r;cases r with
  | cons r1 r2=>
   obtain⟨t,e⟩:=r1;subst e;exact .cons n t (ih r2)
section
variable {X:Cx} {e:Expr} {te:TE} {lo hi:Option Expr} {tl th:TO} {pos p2:Pos}
theorem F1:PO X none Fm:=by
 intro pins s σ H Q I h;rw[evalPart_none];exact Qh ⟨none,H,I,.none,h⟩
theorem FZ(h:PE X e te):PO X (some e) (Lv te):=by
 intro pins s σ H Q I hw;rw[evalPart_some];refine dh (h pins s σ H _ I hw) λu s1 ⟨x,H1,I1,r1,q1⟩=>?_;obtain⟨i,rfl,q⟩:=q1;obtain⟨t,rfl⟩:=r1;exact⟨some i,H1,I1,.int i t,q⟩
def KZ(X:Cx)(r:V->Option Int->Option Int->Hp->VK->Prop):Prop:=
 ∀(pins:List (Addr×Obj)) (s:Shared) (σ:St) (H:Hp) (x:V) (v vl vu:Value) (lo hi:Option Int) (sl:Addr) (Q:VK),Inv X pins σ H s->RelV x v->s.heap.IsSliceOf sl vl vu .none->IsPart vl lo->IsPart vu hi->r x lo hi H Q->
  ∃T id,typeLookup (.type T) "__getitem__"=pure (some (.builtin id))/\s.TypeIs v T/\wpAny (model X.prog X.w) X.A (getItem v (.ref sl)) (EP X pins σ Q) X.xe s
def Pz(r:V->Option Int->Option Int->Hp->VK->Prop)(te:TE)(tl th:TO):TE:=λσ H Q=>te σ H λx H1=>tl σ H1 λl H2=>th σ H2 λu H3=>r x l u H3 Q
theorem Dr(hr:KZ X r)(he:PE X e te)(hl:PO X lo tl)(hu:PO X hi th):PE X (.Subscript e (.Slice lo hi none p2) pos) (Pz r te tl th):=by
 intro pins s σ H Q I h;refine Subscript_ (dh (he pins s σ H _ I h) λv s1 ⟨x,H1,I1,r1,q1⟩=>?_);refine wpAny_Slice (dh (hl pins s1 σ H1 _ I1 q1) λvl s2 ⟨l,H2,I2,pl,q2⟩=>dh (hu pins s2 σ H2 _ I2 q2) λvu s3 ⟨u,H3,I3,pu,q3⟩=>?_);rw[evalPart_none];refine Qh ?_;have I4:Inv X pins σ H3 {s3 with heap:=s3.heap.push {cls:=.type "slice",data:=.fields #[vl,vu,.none]}}:=I3.kept (t':=s3.toks) λb ob q=>P9 _ q;obtain⟨T,id,hT,ht,hg⟩:=hr pins {s3 with heap:=s3.heap.push {cls:=.type "slice",data:=.fields #[vl,vu,.none]}} σ H3 x v vl vu l u s3.heap.objs.size Q I4 r1 (Heap.IsSliceOf.new ..) pl pu q3;show wpAny (model X.prog X.w) X.A (subscriptTail e (.Slice lo hi none p2) v (.ref s3.heap.objs.size)) (EP X pins σ Q) X.xe {s3 with heap:=s3.heap.push {cls:=.type "slice",data:=.fields #[vl,vu,.none]}};exact tail_any (ops:=[.ref s3.heap.objs.size,v]) ht hT hg (by with_unfolding_all rfl)
noncomputable def sf(xs:List V)(lo hi:Option Int):List V:=(xs.drop (HT.cN xs.length 0 lo)).take (HT.cN xs.length xs.length hi-HT.cN xs.length 0 lo)
theorem pv(xs:List V)(lo hi:Option Int):(sf xs lo hi).length<=xs.length:=by
 unfold sf;rw[Qj,RH]
 lia
def Od(K:FR):V->Option Int->Option Int->Hp->VK->Prop:=λx lo hi H Q=>∃a xs,x=.ref a/\ko K H a xs/\
 ¬(HT.cN xs.length 0 lo=0/\HT.cN xs.length xs.length hi=xs.length)/\∀p,H p=none->Q (.ref p) (upd H p (.tup (sf xs lo hi)))
theorem Il:KZ X (Od X.K):=by
 intro pins s σ H x v vl vu lo hi sl Q I rx hs pl pu h;obtain⟨a,xs,rfl,hx,hw,q⟩:=h;cases rx;obtain⟨its,r,ht,hz⟩:=I.tuple hx;have hlen:its.toArray.size=xs.length:=by rw[Qe];exact r.length.symm
 refine⟨"tuple",_,QQ.lookup,ht.typeIs,?_⟩;refine HT.mK ht hs pl pu (by rw[hlen];exact hw) ?_ (by rw[hlen];exact hz);rw[hlen];refine⟨.ref s.heap.objs.size,_,I.laid (t':=s.toks) (o:=.tup (sf xs lo hi)) (λb ob q=>P9 _ q) (PZ _) ?_,rfl,q _ (I.ba.fresh (PZ _))⟩;exact⟨P6 (pv xs lo hi) hz,_,(r.drop (HT.cN xs.length 0 lo)).take (HT.cN xs.length xs.length hi-HT.cN xs.length 0 lo),yc.new _ _⟩
def L3(K:FR):R2:=λx y H Q=>∃a b xs ys,x=.ref a/\y=.ref b/\ko K H a xs/\ko K H b ys/\xs≠[]/\xs.length+ys.length<=sizeLine/\
 (ys=[]->Q (.ref a) H)/\(ys≠[]->∀p,H p=none->Q (.ref p) (upd H p (.tup (xs++ys))))
theorem Vals.pX(r:Vals xs us):us=[]↔xs=[]:=by
 cases r with
 | nil=>simp
 | cons _ _=>simp
theorem Gf:oB X (binaryOp .Add) (L3 X.K):=by
 intro pins s σ H x y v u Q I rx ry h;obtain⟨a,b,xs,ys,rfl,rfl,ha,hb,hx,hz,q1,q2⟩:=h;cases rx;cases ry;obtain⟨its,r1,p1,_⟩:=I.tuple ha;obtain⟨its2,r2,p2,_⟩:=I.tuple hb;refine HT.GP p1 p2 (λz=>hx (r1.pX.mp z)) (λz=>⟨.ref a,H,I,rfl,q1 (r2.pX.mp z)⟩) (λz=>?_) (by rw[<-r1.length,<-r2.length];exact hz);refine⟨.ref s.heap.objs.size,_,I.laid (t':=s.toks) (o:=.tup (xs++ys)) (λb ob q=>P9 _ q) (PZ _) ?_,rfl,q2 (λw=>z (r2.pX.mpr w)) _ (I.ba.fresh (PZ _))⟩;exact⟨by rw[Qb];exact hz,_,r1.append r2,yc.new _ _⟩
end
noncomputable def tu(n:Nat)(i:Int):Option Nat:=if 0<=i then(if i < n then some i.toNat else none) else if -(n:Int)<=i then some (i+n).toNat else none
noncomputable def g9{α:Type}(xs:List α)(i:Int):Option α:=(tu xs.length i).bind λj=>xs[j]?
theorem z8(h:tu n i=some j):seqIndex? i n=some j/\j < n/\-(n:Int)<=i/\i < n:=by
 unfold tu at h
 by_cases h0:0<=i
 ·rw[P0 h0] at h
  by_cases h1:i < n
  ·rw[P0 h1] at h;have e:i.toNat=j:=Option.some.inj h;exact⟨by rw[seqIndex_of h0 h1,e],by lia,by lia,h1⟩
  ·rw[P7 h1] at h;cases h
 ·rw[P7 h0] at h
  by_cases h1:-(n:Int)<=i
  ·rw[P0 h1] at h;have e:(i+n).toNat=j:=Option.some.inj h;exact⟨by rw[seqIndex_neg (by lia) h1,e],by lia,h1,by lia⟩
  ·rw[P7 h1] at h;cases h
theorem qg(h:g9 xs i=some v):∃j,seqIndex? i xs.length=some j/\xs[j]?=some v/\j < xs.length/\-(xs.length:Int)<=i/\i < xs.length:=by
 unfold g9 at h;cases e:tu xs.length i with
 | none=>rw[e] at h;cases h
 | some j=>
  rw[e] at h;obtain⟨h1,h2,h3,h4⟩:=z8 e;exact⟨j,h1,h,h2,h3,h4⟩
theorem qf{α:Type}{xs:List α}{j:Nat}{v:α}(h:xs[j]?=some v):g9 xs (j:Int)=some v:=by
 have hj:j < xs.length:=(PV.mp h).1;have e:tu xs.length (j:Int)=some j:=by
  unfold tu;rw[P0 (by lia),P0 (by lia)];simp
 unfold g9;rw[e];exact h
theorem EL(xs:List α)(v:α):g9 (xs++[v]) (-1)=some v:=by
 have hl:(xs++[v]).length=xs.length+1:=by simp
 have e:tu (xs++[v]).length (-1)=some xs.length:=by
  unfold tu;rw[hl,P7 (by decide),P0 (by lia)];congr 1
  lia
 unfold g9;rw[e];show(xs++[v])[xs.length]?=some v;simp
def nq(b:Expr):Prop:=∀o i,subscripted b false o i=operate [o,i] (getItem o i)
def Nh(X:Cx)(r:R2):Prop:=
 ∀(value slice:Expr)(pins:List (Addr×Obj)) (s:Shared) (σ:St) (H:Hp) (x y:V) (v u:Value) (Q:VK),Inv X pins σ H s->RelV x v->RelV y u->r x y H Q->
  subscripted slice false v u=operate [v,u] (getItem v u)->wpAny (model X.prog X.w) X.A (subscriptTail value slice v u) (EP X pins σ Q) X.xe s
def yi(X:Cx)(id:String)(r:V->List V->Hp->VK->Prop):Prop:=
 ∀(pins:List (Addr×Obj)) (s:Shared) (σ:St) (H:Hp) (x:V) (xs:List V) (v:Value) (us:List Value) (Q:VK),Inv X pins σ H s->RelV x v->Vals xs us->r x xs H Q->
  wpAny (model X.prog X.w) X.A (call (.builtin id) (v::us)) (EP X pins σ Q) X.xe s
section
variable {X:Cx} {a b:Expr} {ta tb:TE} {pos:Pos}
theorem L6(hr:Nh X r)(ha:PE X a ta)(hb:PE X b tb)(hs:nq b):PE X (.Subscript a b pos) (Lx r ta tb):=by
 intro pins s σ H Q I h;exact Subscript_ (KD ha hb I h λv u s2 x y H2 I2 rx ry q=>hr a b pins s2 σ H2 x y v u Q I2 rx ry q (hs _ _))
def Oq(K:FR):R2:=λx y H Q=>∃p xs i v,x=.ref p/\y=.int i/\ia K H p xs/\g9 xs i=some v/\Q v H
def Om(K:FR):R2:=λx y H Q=>∃p xs i v,x=.ref p/\y=.int i/\ko K H p xs/\g9 xs i=some v/\Q v H
def Oo:R2:=λx y H Q=>∃z i c,x=.str z/\y=.int i/\z.length<=sizeLine/\g9 z.cps.toList i=some c/\Q (.str ⟨#[c]⟩) H
theorem Gv:Nh X (Oq X.K):=by
 intro value slice pins s σ H x y v u Q I rx ry h hs;obtain⟨p,xs,i,z,rfl,rfl,hq,he,q⟩:=h;cases rx;obtain⟨t,rfl⟩:=ry;obtain⟨its,r,pl,hz⟩:=I.list hq;obtain⟨j,h1,h2,h3,h4,h5⟩:=qg he;obtain⟨w,ew,rw'⟩:=r.get h2;have hl:=r.length;have hn:=k7;have fin:EP X pins σ Q w s:=⟨z,H,I,rw',q⟩
 by_cases h0:0<=i
 ·have hj:i.toNat=j:=by
   rw[seqIndex_of h0 h5] at h1;exact Option.some.inj h1
  exact item_listR pl.isList h0 (by lia) (by rw[hj];simpa using ew) fin hs
 ·have hj:(i+(its.toArray.size:Int)).toNat=j:=by
   rw[seqIndex_neg (by lia) h4] at h1;rw[Qe,<-hl];exact Option.some.inj h1
  exact subscriptTail_builtinR (x:=w) pl.isList.typeIs slot_list_getitem.lookup
   (wpAny_getItem_list_neg (Q:=λr s'=>r=w/\EP X pins σ Q r s') pl.isList (by lia) (by rw[Qe] <;> lia) (by lia) (by rw[hj];simpa using ew) ⟨rfl,fin⟩) hs
theorem JR:Nh X (Om X.K):=by
 intro value slice pins s σ H x y v u Q I rx ry h hs;obtain⟨p,xs,i,z,rfl,rfl,hq,he,q⟩:=h;cases rx;obtain⟨t,rfl⟩:=ry;obtain⟨its,r,pl,hz⟩:=I.tuple hq;obtain⟨j,h1,h2,h3,h4,h5⟩:=qg he;obtain⟨w,ew,rw'⟩:=r.get h2;have hl:=r.length;have hn:=k7;have fin:EP X pins σ Q w s:=⟨z,H,I,rw',q⟩;exact subscriptTail_builtinR (x:=w) pl.typeIs QQ.lookup
  (getItem_tuple (j:=j) (Q:=λr s'=>r=w/\EP X pins σ Q r s') pl (by lia) (by lia) (by rw[Qe,<-hl];exact h1) (by simpa using ew) ⟨rfl,fin⟩) hs
theorem JS:Nh X Oo:=by
 intro value slice pins s σ H x y v u Q I rx ry h hs;obtain⟨z,i,c,rfl,rfl,hz,he,q⟩:=h;obtain⟨t,rfl⟩:=rx;obtain⟨t',rfl⟩:=ry;obtain⟨j,h1,h2,h3,h4,h5⟩:=qg he;have hl:z.cps.toList.length=z.length:=by simp[Str.length]
 rw[hl] at h1 h4 h5;have hn:=k7;exact tail_any (Tv s z t) slot_str_getitem.lookup (getItem_str (c:=c) (by
  have e1:decide (i < -(2^63:Int))=false:=QI (by lia);have e2:decide (i≥2^63)=false:=QI (by lia);rw[e1,e2,Bool.or_false]) (by rw[h1];simpa using h2) ⟨.str ⟨#[c]⟩,H,I.tok _,⟨_,rfl⟩,q⟩) hs
theorem yS(its:List Value)(n j:Nat)(u:Value):Obj.mapSeq (·.setIfInBounds j u) {cls:=.type "list",data:=.seq its.toArray n}={cls:=.type "list",data:=.seq (its.set j u).toArray n}:=by
 simp[Obj.mapSeq]
theorem Inv.lst(I:Inv X pins σ H s)(h:H p=some (.lst xs)):
  ∃(its:List Value)(n:Nat),Vals xs its/\s.heap.get? p=some {cls:=.type "list",data:=.seq its.toArray n}/\xs.length<=sizeLine:=by
 obtain⟨z,its,n,r,e⟩:=I.ba p _ h;exact⟨its,n,r,e,z⟩
theorem Inv.JH{pins:List (Addr×Obj)}{σ:St}{H:Hp}{s:Shared}{p:Addr}{xs ys:List V}{its its':List Value}{n n':Nat}{f:Obj->Obj}(I:Inv X pins σ H s)(h:H p=some (.lst xs))
  (ho:s.heap.get? p=some {cls:=.type "list",data:=.seq its.toArray n}) (hf:f {cls:=.type "list",data:=.seq its.toArray n}={cls:=.type "list",data:=.seq its'.toArray n'}) (r:Vals ys its') (hz:ys.length<=sizeLine) (t:Nat):
  Inv X pins σ (upd H p (.lst ys)) {s with heap:=s.heap.update p f,toks:=t}:=by
 have e:(s.heap.update p f).get? p=some {cls:=.type "list",data:=.seq its'.toArray n'}:=by
  rw[Heap.get?_update_self f ho (by rw[hf] <;> rfl),hf]
 refine I.write (x:=p) (e:=p) (by rw[h];trivial) (.inl rfl) (λb u hb q=>(Heap.get?_update_other _ _ (Rl hb)).trans q) ⟨_,e⟩ ?_;exact⟨hz,its',n',r,e⟩
def LZ:V->V->V->Hp->(Hp->Prop)->Prop:=λo i v H Q=>∃p xs k j,o=.ref p/\i=.int k/\H p=some (.lst xs)/\tu xs.length k=some j/\Q (upd H p (.lst (xs.set j v)))
theorem set_list:K2 X LZ:=by
 intro pins s σ H o i v ov iv u Q I ro ri rv h;obtain⟨p,xs,k,j,rfl,rfl,hp,hj,q⟩:=h;cases ro;obtain⟨t,rfl⟩:=ri;obtain⟨its,n,r,ho,hz⟩:=I.lst hp;obtain⟨h1,h2,h3,h4⟩:=z8 hj;have hl:=r.length;have hn:=k7;have I':Inv X pins σ (upd H p (.lst (xs.set j v))) {s with heap:=s.heap.update p (Obj.mapSeq (·.setIfInBounds j u))}:=
  I.JH hp ho (yS its n j u) (r.set rv j) (by rw[QY];exact hz) s.toks
 by_cases h0:0<=k
 ·have hk:k.toNat=j:=by
   rw[seqIndex_of h0 h4] at h1;exact Option.some.inj h1
  exact PySem.W.ki_setAt ho h0 (by lia) (by rw[Qe,<-hl];exact h4) (by rw[hk];exact⟨_,I',q⟩)
 ·have hk:(k+(its.toArray.size:Int)).toNat=j:=by
   rw[seqIndex_neg (by lia) h3] at h1;rw[Qe,<-hl];exact Option.some.inj h1
  exact PySem.W.ki_setBack ho (by lia) (by rw[Qe,<-hl];exact h3) (by lia) (by rw[hk];exact⟨_,I',q⟩)
theorem uP(lo hi:Option Int)(n:Nat):(sliceBounds lo hi none n).1=((HT.cN n 0 lo:Nat):Int)/\(sliceBounds lo hi none n).2.1=((HT.cN n n hi:Nat):Int)/\(sliceBounds lo hi none n).2.2=1:=by
 refine⟨?_,?_,rfl⟩
 ·cases lo with
  | none=>simp[sliceBounds,HT.cN]
  | some i=>
   simp only[sliceBounds,HT.cN,Option.getD_none,show(1:Int) > 0 by decide,Sj]
   by_cases h:i < 0
   ·simp only[h,Sj] <;> lia
   ·simp only[h,Ua] <;> lia
 ·cases hi with
  | none=>simp[sliceBounds,HT.cN]
  | some i=>
   simp only[sliceBounds,HT.cN,Option.getD_none,show(1:Int) > 0 by decide,Sj]
   by_cases h:i < 0
   ·simp only[h,Sj] <;> lia
   ·simp only[h,Ua] <;> lia
theorem sH(its:List Value)(lo hi:Option Int):slicePick its.toArray lo hi none=((its.drop (HT.cN its.length 0 lo)).take (HT.cN its.length its.length hi-HT.cN its.length 0 lo)).toArray:=by
 obtain⟨h1,h2,h3⟩:=uP lo hi its.toArray.size;unfold slicePick;rw[h1,h2,h3];simp only[sliceRange_one,pick_run,Qe] <;> rfl
def Og(K:FR):V->Option Int->Option Int->Hp->VK->Prop:=λx lo hi H Q=>∃a xs,x=.ref a/\ia K H a xs/\∀p,H p=none->Q (.ref p) (upd H p (.lst (sf xs lo hi)))
theorem Ft:KZ X (Og X.K):=by
 intro pins s σ H x v vl vu lo hi sl Q I rx hs pl pu h;obtain⟨a,xs,rfl,hx,q⟩:=h;cases rx;obtain⟨its,r,ht,hz⟩:=I.list hx;have hlen:=r.length;refine⟨"list",_,slot_list_getitem.lookup,ht.isList.typeIs,?_⟩;refine wpAny_getItem_list_slice ht.isList hs pl pu .none (by simp) ?_ (by rw[Qe] <;> lia);rw[sH,<-hlen];refine⟨.ref s.heap.objs.size,_,I.laid (t':=s.toks) (o:=.lst (sf xs lo hi)) (λb ob q=>P9 _ q) (PZ _) ?_,rfl,q _ (I.ba.fresh (PZ _))⟩;exact⟨P6 (pv xs lo hi) hz,_,0,(r.drop (HT.cN xs.length 0 lo)).take (HT.cN xs.length xs.length hi-HT.cN xs.length 0 lo),Qt _ rfl⟩
theorem vW:fY X (.builtin "len") (λxs H Q=>∃p ys,xs=[.ref p]/\(ia X.K H p ys\/ko X.K H p ys)/\Q (.int ys.length) H):=by
 intro pins s σ H xs us Q I r h;obtain⟨p,ys,rfl,hq,q⟩:=h;obtain⟨u,rfl,rx⟩:=vals1 r;cases rx;have hn:=k7;rcases hq with hq | hq
 ·obtain⟨its,r',pl,hz⟩:=I.list hq;have hlen:=r'.length;exact Calls.call_len_list pl.isList (by simp only[Qe] <;> lia) ⟨.int ys.length,H,I.tok _,⟨s.toks+1,by rw[Qe,hlen]⟩,q⟩
 ·obtain⟨its,r',pl,hz⟩:=I.tuple hq;have hlen:=r'.length;exact len_tuple pl (by simp only[Qe] <;> lia) ⟨.int ys.length,H,I.tok _,⟨s.toks+1,by rw[Qe,hlen]⟩,q⟩
theorem vV:fY X (.builtin "len") (λxs H Q=>∃z,xs=[.str z]/\z.length<=sizeLine/\Q (.int z.length) H):=by
 intro pins s σ H xs us Q I r h;obtain⟨z,rfl,hz,q⟩:=h;obtain⟨u,rfl,t,rfl⟩:=vals1 r;have hn:=k7;exact len_str (by lia) ⟨.int z.length,H,I.tok _,⟨_,rfl⟩,q⟩
theorem vU:fY X (.type "list") (λxs H Q=>∃p ys,xs=[.ref p]/\(ia X.K H p ys\/ko X.K H p ys)/\∀l,H l=none->Q (.ref l) (upd H l (.lst ys))):=by
 intro pins s σ H xs us Q I r h;obtain⟨p,ys,rfl,hq,q⟩:=h;obtain⟨u,rfl,rx⟩:=vals1 r;cases rx;have fin:∀(its:List Value),Vals ys its->ys.length<=sizeLine->∀(h':Heap)(c':Nat),(∀b o',s.heap.get? b=some o'->h'.get? b=some o')->
   h'.get? s.heap.objs.size=some {cls:=.type "list",dict:=none,data:=.seq its.toArray c',slots:=#[]}->EP X pins σ Q (.ref s.heap.objs.size) {s with heap:=h'}:=λits r' hz h' c' kp e=>
  ⟨.ref s.heap.objs.size,_,I.laid (t':=s.toks) kp (PZ _) (show cg X.prog X.w _ h' _ (.lst ys) from⟨hz,its,c',r',e⟩),rfl,q _ (I.ba.fresh (PZ _))⟩
 rcases hq with hq | hq
 ·obtain⟨its,r',pl,hz⟩:=I.list hq;have hlen:=r'.length;obtain⟨o,ho,hc,n,hd⟩:=pl.isList;exact call_list_seq p (.inl rfl) ho hc hd (λh' c' kp e=>fin its r' hz h' c' kp e) (by simp only[Qe] <;> lia)
 ·obtain⟨its,r',pl,hz⟩:=I.tuple hq;have hlen:=r'.length;obtain⟨o,ho,hc,n,hd⟩:=pl;exact call_list_seq p (.inr rfl) ho hc hd (λh' c' kp e=>fin its r' hz h' c' kp e) (by simp only[Qe] <;> lia)
theorem tD:fY X (.type "tuple") (λxs H Q=>∃p ys,xs=[.ref p]/\((ia X.K H p ys/\∀l,H l=none->Q (.ref l) (upd H l (.tup ys)))\/(ko X.K H p ys/\Q (.ref p) H))):=by
 intro pins s σ H xs us Q I r h;obtain⟨p,ys,rfl,h⟩:=h;obtain⟨u,rfl,rx⟩:=vals1 r;cases rx;rcases h with⟨hq,q⟩ |⟨hq,q⟩
 ·obtain⟨its,r',pl,hz⟩:=I.list hq;have hlen:=r'.length;refine call_tuple_list pl.isList (λh' kp=>?_) (by simp only[Qe] <;> lia);have I1:Inv X pins σ H {s with heap:=h'}:=I.kept (t':=s.toks) kp;have I2:Inv X pins σ (upd H h'.objs.size (.tup ys)) {s with heap:=h'.push {cls:=.type "tuple",data:=.seq its.toArray}}:=
   I1.laid (t':=s.toks) (λb o e=>P9 _ e) (PZ _) (show cg X.prog X.w _ _ _ (.tup ys) from⟨hz,its,r',yc.new _ _⟩)
  exact⟨.ref h'.objs.size,_,I2,rfl,q _ (I1.ba.fresh (PZ _))⟩
 ·obtain⟨its,r',pl,hz⟩:=I.tuple hq;exact call_tuple_same pl ⟨.ref p,H,I,rfl,q⟩
def G1(K:FR)(T:String)(x:V)(H:Hp):Prop:=match x with
 | .str _=>T="str"
 | .int _=>T="int"
 | .ref p=>(T="list"/\∃xs,ia K H p xs)\/(T="tuple"/\∃o,K.lookup p=some o/\o.cls=.type "tuple"/\o.dict=none)\/
   (T="dict"/\((∃kvs,H p=some (.dK kvs))\/(∃kvs,H p=some (.dT kvs))\/∃φ,H p=some (.Ah φ)/\∀w h,φ w h->∃o,h.get? p=some o/\o.ExactDict))\/(T="set"/\∃S n,H p=some (.set S n))
 | _=>False
theorem Cf(I:Inv X pins σ H s)(r:RelV x v)(ty:G1 X.K T x H):
  s.TypeIs v T/\∀a,v=.ref a->∃ob,s.heap.get? a=some ob/\ob.dict=none:=by
 cases x with
 | str z=>
  obtain⟨t,rfl⟩:=r;cases(show T="str" from ty);exact⟨Tv s z t,λ_ e=>nomatch e⟩
 | int i=>
  obtain⟨t,rfl⟩:=r;cases(show T="int" from ty);exact⟨typeIs_int s i t,λ_ e=>nomatch e⟩
 | ref p=>
  cases r;rcases ty with⟨rfl,xs,hq⟩ |⟨rfl,o,hk,hc,hd⟩ |⟨rfl,hk⟩ |⟨rfl,S,n,hk⟩
  ·obtain⟨its,_,pl,_⟩:=I.list hq;refine⟨pl.isList.typeIs,λa e=>?_⟩;cases e;obtain⟨o,n,e,c,hd,_⟩:=pl;exact⟨o,e,hd⟩
  ·refine⟨⟨o,I.z7 p o hk,hc⟩,λa e=>?_⟩;cases e;exact⟨o,I.z7 _ o hk,hd⟩
  ·have z:∃o,s.heap.get? p=some o/\o.ExactDict:=by
    rcases hk with⟨kvs,hk⟩ |⟨kvs,hk⟩ |⟨φ,hk,hφ⟩
    ·obtain⟨_,_,_,_,o,_,_,e,ex,_⟩:=I.ba p _ hk;exact⟨o,e,ex⟩
    ·obtain⟨_,_,_,_,o,_,_,e,ex,_⟩:=I.ba p _ hk;exact⟨o,e,ex⟩
    ·obtain⟨q,_⟩:=I.ba p _ hk;exact hφ _ _ q
   obtain⟨o,e,ex⟩:=z;refine⟨⟨o,e,ex.1⟩,λa e2=>?_⟩;cases e2;exact⟨o,e,ex.2.1⟩
  ·obtain⟨o,_,_,_,e,ex,_⟩:=I.ba p _ hk;refine⟨⟨o,e,ex.1⟩,λa e2=>?_⟩;cases e2;exact⟨o,e,ex.2.1⟩
 | _=>exact False.elim ty
def NU(K:FR)(T:String)(r:V->List V->Hp->VK->Prop)(to:TE):TE:=λσ H Q=>to σ H λx H1=>G1 K T x H1/\r x [] H1 Q
def PF(K:FR)(T:String)(r:V->List V->Hp->VK->Prop)(to:TE)(t:TA):TE:=λσ H Q=>to σ H λx H1=>G1 K T x H1/\t σ H1 λxs H2=>r x xs H2 Q
variable {o e:Expr} {es:List Expr} {to:TE} {t:TA} {name:Str} {apos cpos:Pos} {T id:String} {r:V->List V->Hp->VK->Prop}
theorem Jj(pa:PlainAttrs T)(slot:Slot T name id)(hty:typeOf (.builtin id)=pure (.type "method_descriptor"))(hm:yi X id r)(ho:PE X o to)
  (hbase:attributeBase o name X.env (eval o X.env)=eval o X.env:=by rfl) (hline:(apos.endLine==cpos.line)=true:=by rfl):PE X (.Call (.Attribute o name apos) [] [] cpos) (NU X.K T r to):=by
 intro pins s σ H Q I h;refine wpAny_Call_method0_late hbase hline (dh (ho pins s σ H _ I h) λv s1 ⟨x,H1,I1,r1,ty,q1⟩=>?_);obtain⟨h1,h2⟩:=Cf I1 r1 ty;exact⟨T,id,pa,slot,hty,h1,h2,Calls.callWith_builtin rfl (PySem.evalArgs_none (hm pins s1 σ H1 x [] v [] Q I1 r1 .nil q1))⟩
theorem L7(pa:PlainAttrs T)(slot:Slot T name id)(hty:typeOf (.builtin id)=pure (.type "method_descriptor"))(hm:yi X id r)(ho:PE X o to)(ha:PA X (e::es) t)
  (hbase:attributeBase o name X.env (eval o X.env)=eval o X.env:=by rfl)
  (hfew:((backTo cpos (starEach (e::es) X.env)).all (λx=>!x.1)&&(backToKw cpos (keywordEach [] X.env)).all (λx=>x.1.isSome)
   &&decide ((e::es).length+([]:List Keyword).length+(if([]:List Keyword).isEmpty then 0 else 1) < 30))=true:=by rfl)
  (hline:(apos.endLine==cpos.line)=true:=by rfl) (hs:starEach (e::es) X.env=(false,eval e X.env)::starEach es X.env:=by rfl) (hplain:(backTo cpos (starEach es X.env)).any (·.1)=false:=by rfl):
  PE X (.Call (.Attribute o name apos) (e::es) [] cpos) (PF X.K T r to t):=by
 intro pins s σ H Q I h;refine wpAny_Call_method_late hbase hfew hline rfl (dh (ho pins s σ H _ I h) λv s1 ⟨x,H1,I1,r1,ty,q1⟩=>?_);obtain⟨h1,h2⟩:=Cf I1 r1 ty;refine⟨T,id,pa,slot,hty,h1,h2,?_⟩;have hA:=ha cpos pins s1 σ H1 _ I1 q1;rw[hs] at hA ⊢;refine Calls.callWith_builtin (by show(false||(backTo cpos (starEach es X.env)).any (·.1))=false;rw[hplain] <;> rfl) (Calls.evalArgs_plain ?_);exact dh hA λus s2 ⟨vs,H2,I2,r2,q2⟩=>hm pins s2 σ H2 x vs v us Q I2 r1 r2 q2
end
def OW(X:Cx)(id:String)(r:V->List V->Hp->VK->Prop):Prop:=
 ∀(pins:List (Addr×Obj)) (s:Shared) (σ:St) (H:Hp) (x:V) (xs:List V) (v:Value) (us:List Value) (Q:VK),Inv X pins σ H s->RelV x v->Vals xs us->r x xs H Q->
  wpAny (model X.prog X.w) X.A (call (.builtin id) (v::us)) (EP X pins σ Q) X.xe s
theorem Vals.one{x:V}{us:List Value}(h:Vals [x] us):∃u,us=[u]/\RelV x u:=by
 cases h with
 | cons r t=>cases t;exact⟨_,rfl,r⟩
theorem Vals.two{x y:V}{us:List Value}(h:Vals [x,y] us):∃u v,us=[u,v]/\RelV x u/\RelV y v:=by
 cases h with
 | cons r t=>cases t with
  | cons q z=>cases z;exact⟨_,_,rfl,r,q⟩
theorem Vals.zero:∀{us:List Value},Vals [] us->us=[]
 | _,.nil=>rfl
theorem Vals.dropLast(h:Vals xs us):Vals xs.dropLast us.dropLast:=by
 induction h with
 | nil=>exact .nil
 | cons r t ih=>
  cases t with
  | nil=>exact .nil
  | cons q t'=>exact .cons r ih
theorem Vals.rep(h:Vals xs us):∀k:Nat,Vals (List.replicate k xs).flatten (List.replicate k us).flatten
 | 0=>.nil
 | k+1=>by
  rw[Rj,Rj,RB,RB];exact Vals.append h (Vals.rep h k)
theorem za(l:List α):l.eraseIdx (l.length-1)=l.dropLast:=by
 induction l with
 | nil=>rfl
 | cons a r ih=>
  cases r with
  | nil=>rfl
  | cons b r=>
   have e:(a::b::r).length-1=((b::r).length-1)+1:=by
    have h1:(a::b::r).length=r.length+2:=rfl;have h2:(b::r).length=r.length+1:=rfl
    lia
   rw[e,List.eraseIdx_cons_succ,ih]
   all_goals rfl
theorem foldl_rep(its:List Value):∀(k:Nat)(acc:List Value),
  List.foldl (λx1 x2=>x1++x2) acc.toArray (List.replicate k its.toArray)=(acc++(List.replicate k its).flatten).toArray
 | 0,acc=>by simp
 | k+1,acc=>by
  have e:acc.toArray++its.toArray=(acc++its).toArray:=by simp
  have e2:(acc++its)++(List.replicate k its).flatten=acc++(List.replicate (k+1) its).flatten:=by
   rw[Rj,RB,QC]
  rw[<-e2,<-foldl_rep its k (acc++its),<-e,Rj,List.foldl_cons]
theorem Inv.JI{its its':List Value}{n:Nat}{f:Array Value->Array Value}{t':Nat}(I:Inv X pins σ H s)(hH:H l=some (.lst xs))
  (e:s.heap.get? l=some {cls:=.type "list",data:=.seq its.toArray n}) (hf:f its.toArray=its'.toArray) (hv:Vals ys its') (hz:ys.length<=sizeLine):
  Inv X pins σ (upd H l (.lst ys)) {s with heap:=s.heap.update l (Obj.mapSeq f),toks:=t'}:=by
 have q:=PySem.IsL.update e f;rw[hf] at q;refine I.write (x:=l) (e:=l) (by rw[hH];exact trivial) (.inl rfl) (λb' u hb hu=>(Heap.get?_update_other s.heap (Obj.mapSeq f) (Rl hb)).trans hu) ⟨_,q⟩ ?_;exact⟨hz,its',_,hv,q⟩
theorem Inv.JK(I:Inv X pins σ H s)(hv:Vals ys its)(hz:ys.length<=sizeLine):
  Inv X pins σ (upd H s.heap.objs.size (.lst ys)) {s with heap:=s.heap.push {cls:=.type "list",data:=.seq its.toArray},toks:=t'}:=
 I.laid (λ_ _ q=>P9 _ q) (PZ _) ⟨hz,its,0,hv,Qt _ rfl⟩
theorem Inv.fresh(I:Inv X pins σ H s):H s.heap.objs.size=none:=I.ba.fresh (PZ _)
theorem Inv.yT(I:Inv X pins σ H s)(hH:H l=some (.lst xs)):xs.length<=sizeLine/\∃(its:List Value)(n:Nat),Vals xs its/\xs.length=its.length/\s.heap.get? l=some {cls:=.type "list",data:=.seq its.toArray n}:=by
 obtain⟨z,its,n,r,e⟩:=I.ba l _ hH;exact⟨z,its,n,r,r.length,e⟩
theorem xo(h:n<=sizeLine):Builtin.List.listTooLong n=false:=by
 unfold Builtin.List.listTooLong;exact QI (by lia)
def FO:V->List V->Hp->VK->Prop:=λx vs H Q=>∃l xs y,x=.ref l/\vs=[y]/\H l=some (.lst xs)/\xs.length < sizeLine/\Q .cw (upd H l (.lst (xs++[y])))
theorem tX:OW X "list.append" FO:=by
 intro pins s σ H x vs v us Q I rx rv h;obtain⟨l,xs,y,rfl,rfl,hH,hz,q⟩:=h;cases rx;obtain⟨u,rfl,ru⟩:=rv.one;obtain⟨z,its,n,r,hl,e⟩:=I.yT hH;refine R7 Sn ⟨_,e,rfl⟩ F.entry_list_append (F.args_list_append_2 _ _) (PySem.list_append l its.toArray n u (by rw[Qe];lia)) ⟨e,?_⟩;refine⟨.cw,_,I.JI (its':=its++[u]) hH e (by simp) (r.append (.cons ru .nil)) ?_,rfl,q⟩;rw[Qb,Tp]
 lia
def FN:V->List V->Hp->VK->Prop:=λx vs H Q=>∃l b xs zs,x=.ref l/\vs=[.ref b]/\H l=some (.lst xs)/\H b=some (.lst zs)/\xs.length+zs.length<=sizeLine/\Q .cw (upd H l (.lst (xs++zs)))
theorem Bg:OW X "list.extend" FN:=by
 intro pins s σ H x vs v us Q I rx rv h;obtain⟨l,b,xs,zs,rfl,rfl,hH,hB,hz,q⟩:=h;cases rx;obtain⟨u,rfl,ru⟩:=rv.one;cases ru;obtain⟨z,its,n,r,hl,e⟩:=I.yT hH;obtain⟨z2,its2,n2,r2,hl2,e2⟩:=I.yT hB;have hsz:its.toArray.size+its2.toArray.size<=sizeLine:=by rw[Qe,Qe];lia
 have hlong:¬(!its.toArray.isEmpty&&Builtin.List.listTooLong (its.toArray.size+its2.toArray.size))=true:=by
  rw[xo hsz,Bool.and_false];exact RP
 refine R7 To ⟨_,e,rfl⟩ F.entry_list_extend (F.args_list_extend_2 _ _)
  (AutoSeq1.list_extend_list_list_0 l its.toArray n b its2.toArray n2 hlong (by rw[Qe];lia) (by lia)) ⟨e,e2,?_⟩
 refine⟨.cw,_,I.JI (its':=its++its2) hH e (by simp) (r.append r2) ?_,rfl,q⟩;rw[Qb]
 lia
def Ol:V->List V->Hp->VK->Prop:=λx vs H Q=>∃l xs y,x=.ref l/\vs=[]/\H l=some (.lst xs)/\xs[xs.length-1]?=some y/\Q y (upd H l (.lst xs.dropLast))
theorem JC:OW X "list.pop" Ol:=by
 intro pins s σ H x vs v us Q I rx rv h;obtain⟨l,xs,y,rfl,rfl,hH,hy,q⟩:=h;cases rx;have hus:=rv.zero;subst hus;obtain⟨z,its,n,r,hl,e⟩:=I.yT hH;obtain⟨u,hu,ru⟩:=r.get hy;have hy':its.toArray[its.toArray.size-1]?=some u:=by
  show its.toArray[its.length-1]?=some u;rw[<-UK,<-hl];exact hu
 refine R7 F.slot_list_pop ⟨_,e,rfl⟩ F.entry_list_pop (F.args_list_pop_1 _) (MeetsSeq.list_pop_last l its.toArray n u hy' (by rw[Qe];lia)) ⟨e,?_⟩;refine⟨y,_,I.JI (its':=its.dropLast) hH e ?_ r.dropLast ?_,ru,q⟩
 ·show its.toArray.eraseIdxIfInBounds (its.toArray.size-1)=its.dropLast.toArray;rw[Qe,List.eraseIdxIfInBounds_toArray,za]
 ·rw[UP]
  lia
def Ot:R2:=λx y H Q=>∃l b xs zs,x=.ref l/\y=.ref b/\H l=some (.lst xs)/\H b=some (.lst zs)/\xs.length+zs.length<=sizeLine/\∀p,H p=none->Q (.ref p) (upd H p (.lst (xs++zs)))
theorem DF:oB X (binaryOp .Add) Ot:=by
 intro pins s σ H x y v u Q I rx ry h;obtain⟨l,b,xs,zs,rfl,rfl,hH,hB,hz,q⟩:=h;cases rx;cases ry;obtain⟨z,its,n,r,hl,e⟩:=I.yT hH;obtain⟨z2,its2,n2,r2,hl2,e2⟩:=I.yT hB;refine PySem.P.add_list e e2 ?_ (by rw[Qe,Qe];lia);have ea:its.toArray++its2.toArray=(its++its2).toArray:=by simp
 rw[ea];exact⟨.ref _,_,I.JK (t':=s.toks) (r.append r2) (by rw[Qb];lia),rfl,q _ I.fresh⟩
def Oj:R2:=λx y H Q=>∃l k xs,x=.ref l/\y=.int k/\H l=some (.lst xs)/\-(2^63)<=k/\k < 2^63/\xs.length*k.toNat<=sizeLine/\
 ∀p,H p=none->Q (.ref p) (upd H p (.lst (List.replicate k.toNat xs).flatten))
theorem len_rep(xs:List α)(k:Nat):(List.replicate k xs).flatten.length=k*xs.length:=by
 induction k with
 | zero=>simp
 | succ k ih=>rw[Rj,RB,Qb,ih,Nat.succ_mul,TR]
theorem Js:oB X (binaryOp .Mult) Oj:=by
 intro pins s σ H x y v u Q I rx ry h;obtain⟨l,k,xs,rfl,rfl,hH,h1,h2,hz,q⟩:=h;cases rx;obtain⟨t,rfl⟩:=ry;obtain⟨z,its,n,r,hl,e⟩:=I.yT hH;have hlen:its.toArray.size*k.toNat<=sizeLine:=by rw[Qe,<-hl];exact hz
 have hcap:¬its.toArray.size*k.toNat > (2^63-1) / 8:=by
  have:(sizeLine:Nat)<=(2^63-1) / 8:=by decide
  lia
 have hfit:¬(!Builtin.List.listFitsIndex k)=true:=by
  rw[fitsIndex_both h1 h2];exact RP
 have hlong:¬Builtin.List.listTooLong (its.toArray.size*k.toNat)=true:=by
  rw[xo hlen];exact RP
 have hnew:List.foldl (λx1 x2=>x1++x2) #[] (List.replicate (if its.toArray.isEmpty=true then 0 else k.toNat) its.toArray)=(List.replicate k.toNat its).flatten.toArray:=by
  have f0:∀m:Nat,List.foldl (λx1 x2=>x1++x2) #[] (List.replicate m its.toArray)=(List.replicate m its).flatten.toArray:=λm=>by
   have:=foldl_rep its m [];rw[Q3] at this;exact this
  rw[f0];cases its with
  | nil=>simp
  | cons a r'=>rw[P7 (by simp)]
 refine wpAny_binaryOp_repeat_ref (T:="list") (U:="int") (by decide) ⟨_,e,rfl⟩ (λs'=>typeIs_int s' k t) noFill_list_mul F.fills_int_mul F.slot_int_rmul repeat_list F.slot_int_index.lookup
  (R7 F.slot_int_rmul (typeIs_int s k t) F.entry_int_rmul (F.args_int_rmul_2 _ _) (int___rmul___int_list k t l its.toArray n)
   ⟨e,rfl,⟨_,e,rfl⟩,R7 F.slot_list_mul ⟨_,e,rfl⟩ F.entry_list_mul (F.args_list_mul_2 _ _) (AutoListH.list___mul___list_int_3 l its.toArray n k t hfit hcap hlong) ⟨e,?_⟩⟩)
 rw[hnew];exact⟨.ref _,_,I.JK (t':=s.toks) (r.rep k.toNat) (by rw[len_rep,Nat.mul_comm];exact hz),rfl,q _ I.fresh⟩
section
variable {κ:Type} [DecidableEq κ]
noncomputable def jq(kvs:List (κ×V))(k:κ):Option V:=(kvs.find? λkv=>decide (kv.1=k)).map (·.2)
noncomputable def putK(kvs:List (κ×V))(k:κ)(v:V):List (κ×V):=
 if(kvs.any λkv=>decide (kv.1=k))=true then kvs.map (λkv=>if kv.1=k then(kv.1,v) else kv) else kvs++[(k,v)]
theorem qp{p:κ×V}{r:List (κ×V)}{k:κ}(e:p.1=k):jq (p::r) k=some p.2:=by simp[jq,RQ,e]
theorem lH{p:κ×V}{r:List (κ×V)}{k:κ}(e:¬p.1=k):jq (p::r) k=jq r k:=by simp[jq,RQ,e]
theorem wI(k:κ):∀kvs:List (κ×V),(kvs.any λkv=>decide (kv.1=k))=(jq kvs k).isSome
 | []=>rfl
 | p::r=>by
  rw[RT]
  by_cases e:p.1=k
  ·simp only[qp e,Qx e,Bool.true_or,Option.isSome_some]
  ·rw[lH e,QI e,Bool.false_or];exact wI k r
theorem jI(kvs:List (κ×V))(k:κ)(v:V):(putK kvs k v).length<=kvs.length+1:=by
 unfold putK
 split
 ·rw[PU];lia
 ·rw[Qb,P2,Rz];lia
theorem pP.iz(r:pP o u):o.isSome=u.isSome:=by
 cases o with
 | none=>cases u with
  | none=>rfl
  | some _=>exact(show False from r).elim
 | some _=>cases u with
  | none=>exact(show False from r).elim
  | some _=>rfl
theorem pP.getD(r:pP o u)(rd:RelV d d'):RelV (o.getD d) (u.getD d'):=by
 cases o with
 | none=>cases u with
  | none=>exact rd
  | some _=>exact(show False from r).elim
 | some _=>cases u with
  | none=>exact(show False from r).elim
  | some _=>exact r
theorem KV.val{kvs:List (κ×V)}{vs:List (κ×Value)}(r:KV kvs vs)(k:κ):pP (jq kvs k) (valueAt vs k):=by
 unfold KV at r
 induction r with
 | nil=>exact True.intro
 | @cons p q ps qs h t ih=>
  obtain⟨h1,h2⟩:=h
  by_cases e:p.1=k
  ·have e':q.1=k:=h1.symm.trans e;have b:valueAt (q::qs) k=some q.2:=by simp[valueAt,RQ,e']
   rw[qp e,b];exact h2
  ·have e':¬q.1=k:=λz=>e (h1.trans z);have b:valueAt (q::qs) k=valueAt qs k:=by simp[valueAt,RQ,e']
   rw[lH e,b];exact ih
theorem KV.any(r:KV kvs vs)(k:κ):(kvs.any λkv=>decide (kv.1=k))=vs.any λkv=>decide (kv.1=k):=by
 unfold KV at r
 induction r with
 | nil=>rfl
 | cons h t ih=>rw[RT,RT,ih,h.1]
theorem KV.IF(r:KV kvs vs)(k:κ)(ry:RelV y u):
  KV (kvs.map λkv=>if kv.1=k then(kv.1,y) else kv) (vs.map λkv=>if kv.1=k then(kv.1,u) else kv):=by
 unfold KV at r ⊢
 induction r with
 | nil=>exact .nil
 | @cons p q ps qs h t ih=>
  rw[Qc,Qc];refine .cons ?_ ih;obtain⟨h1,h2⟩:=h
  by_cases e:p.1=k
  ·rw[P0 e,P0 (h1.symm.trans e)];exact⟨h1,ry⟩
  ·rw[P7 e,P7 (λz=>e (h1.trans z))];exact⟨h1,h2⟩
theorem KV.put(r:KV kvs vs)(k:κ)(ry:RelV y u):KV (putK kvs k y) (stored vs k u):=by
 unfold putK stored;rw[r.any k]
 by_cases e:(vs.any λkv=>decide (kv.1=k))=true
 ·rw[P0 e,P0 e];exact r.IF k ry
 ·rw[P7 e,P7 e];exact Paired.snoc r ⟨rfl,ry⟩
theorem KV.length(r:KV kvs vs):kvs.length=vs.length:=Paired.length r
end
theorem pg(r:RelV (kV k) u):(bO P w).is k u=true:=by
 cases k with
 | inl i=>obtain⟨t,e⟩:=(show ∃t,u=Value.int i t from r);subst e;exact xt P w i t
 | inr x=>obtain⟨t,e⟩:=(show ∃t,u=Value.str x t from r);subst e;exact xr P w x t
theorem t8:∀{ks:List Key} {us:List Value},Vals (ks.map kV) us->ItemsAre (bO P w) ks us
 | [],_,r=>by rw[R3] at r;cases r;exact .nil
 | k::ks,_,r=>by
  rw[Qc] at r;cases r with
  | cons h t=>exact .cons (pg h) (t8 t)
abbrev KT(H:Hp):List (List Key×V)->List (List Key×Addr×Value)->Prop:=Paired λp q=>p.1=q.1/\H q.2.1=some (.tup (p.1.map kV))/\RelV p.2 q.2.2
theorem KT.val{H:Hp}{kvs:List (List Key×V)}{xs:List (List Key×Addr×Value)}(r:KT H kvs xs)(k:List Key):pP (jq kvs k) ((atKey xs k).map (·.2)):=by
 induction r with
 | nil=>exact True.intro
 | @cons p q ps qs h t ih=>
  obtain⟨h1,_,h2⟩:=h
  by_cases e:p.1=k
  ·have e':q.1=k:=h1.symm.trans e;have b:atKey (q::qs) k=some q.2:=by simp[atKey,RQ,e']
   rw[qp e,b];exact h2
  ·have e':¬q.1=k:=λz=>e (h1.trans z);have b:atKey (q::qs) k=atKey qs k:=by simp[atKey,RQ,e']
   rw[lH e,b];exact ih
theorem KT.IF(r:KT H kvs xs)(k:List Key)(ry:RelV y u):
  KT H (kvs.map λkv=>if kv.1=k then(kv.1,y) else kv) (xs.map (putAt k u)):=by
 induction r with
 | nil=>exact .nil
 | @cons p q ps qs h t ih=>
  rw[Qc,Qc];refine .cons ?_ ih;obtain⟨h1,h2,h3⟩:=h;unfold putAt
  by_cases e:p.1=k
  ·rw[P0 e,P0 (h1.symm.trans e)];exact⟨h1,h2,ry⟩
  ·rw[P7 e,P7 (λz=>e (h1.trans z))];exact⟨h1,h2,h3⟩
theorem KT.put(r:KT H kvs xs)(k:List Key)(hb:H b=some (.tup (k.map kV)))(ry:RelV y u):
  KT H (putK kvs k y) (storedH xs k b u):=by
 have e:(kvs.any λkv=>decide (kv.1=k))=(atKey xs k).isSome:=by
  rw[wI,(r.val k).iz,TH]
 unfold putK storedH;rw[e]
 by_cases q:(atKey xs k).isSome=true
 ·rw[P0 q,P0 q];exact r.IF k ry
 ·rw[P7 q,P7 q];exact Paired.snoc r ⟨rfl,hb,ry⟩
theorem KT.keeps(r:KT H kvs xs)(ht:∀b ys,H b=some (.tup ys)->H' b=some (.tup ys)):KT H' kvs xs:=
 Paired.Mo r λ_ _ z=>⟨z.1,ht _ _ z.2.1,z.2.2⟩
theorem G8(ok:kh P w H h)(e:Rd H a u):cg P w H h a u:=e.ok ok
theorem pj(ok:kh P w H h)(e:Rd H a (.dK kvs)):kvs.length<=sizeLine/\(a==sysModules)=false/\∃vs,KV kvs vs/\h.DictOf (bO P w) a vs:=
 show cg P w H h a (.dK kvs) from G8 ok e
theorem Ak(ok:kh P w H h)(e:H a=some (.dK kvs)):kvs.length<=sizeLine/\(a==sysModules)=false/\∃vs,KV kvs vs/\h.DictOf (bO P w) a vs:=pj ok (.inl e)
theorem lh(ok:kh P w H h)(e:H a=some (.tup (ks.map kV))):(tupleKind (bO P w)).is h ks a:=by
 obtain⟨_,its,r,o,h1,h2,⟨n,h3⟩,_⟩:=(show cg P w H h a (.tup (ks.map kV)) from ok a _ e);exact⟨o,its.toArray,n,h1,h2,h3,by simpa using t8 r⟩
theorem rZ(ok:kh P w H h)(e:Rd H a (.dT kvs)):kvs.length<=sizeLine/\(a==sysModules)=false/\
  ∃xs,KT H kvs xs/\h.DictOfH (tupleKind (bO P w)) a xs:=by
 obtain⟨z,y,xs,r,o,es,ep,h1,h2,h3,h4,h5⟩:=(show cg P w H h a (.dT kvs) from G8 ok e);refine⟨z,y,xs,r,o,es,ep,h1,h2,h3,h4,λx hx=>?_,h5⟩;have all:∀{l:List (List Key×V)} {m:List (List Key×Addr×Value)},KT H l m->∀x∈m,(tupleKind (bO P w)).is h x.1 x.2.1:=by
  intro l m q
  induction q with
  | nil=>intro x hx;exact nomatch hx
  | @cons p q ps qs hq t ih=>
   intro x hx;rcases P5.mp hx with e | hx
   ·subst e;exact lh ok (by rw[<-hq.1];exact hq.2.1)
   ·exact ih x hx
 exact all r x hx
theorem ME(ok:kh P w H h)(e:H a=some (.dT kvs)):kvs.length<=sizeLine/\(a==sysModules)=false/\
  ∃xs,KT H kvs xs/\h.DictOfH (tupleKind (bO P w)) a xs:=rZ ok (.inl e)
def nr(H:Hp)(a:Addr)(y:V)(r:Option V):Prop:=
 (∃kvs k,Rd H a (.dK kvs)/\y=kV k/\r=jq kvs k)\/∃kvs k b,Rd H a (.dT kvs)/\y=.ref b/\H b=some (.tup (k.map kV))/\r=jq kvs k
def GZ(H:Hp)(a:Addr)(y v:V)(H':Hp):Prop:=
 (∃kvs k,H a=some (.dK kvs)/\y=kV k/\kvs.length < sizeLine/\H'=upd H a (.dK (putK kvs k v)))\/
 ∃kvs k b,H a=some (.dT kvs)/\y=.ref b/\H b=some (.tup (k.map kV))/\kvs.length < sizeLine/\H'=upd H a (.dT (putK kvs k v))
theorem nr.k{H:Hp}{a:Addr}{kvs:List (Key×V)}{k:Key}(e:H a=some (.dK kvs)):nr H a (kV k) (jq kvs k):=.inl ⟨kvs,k,.inl e,rfl,rfl⟩
theorem GZ.k{H:Hp}{a:Addr}{kvs:List (Key×V)}{k:Key}{v:V}(e:H a=some (.dK kvs))(hl:kvs.length < sizeLine):GZ H a (kV k) v (upd H a (.dK (putK kvs k v))):=.inl ⟨kvs,k,e,rfl,hl,rfl⟩
theorem Inv.big(I:Inv X pins σ H s):sysModules < s.heap.objs.size:=by
 have h:mainGlobals < s.heap.objs.size:=(I.mod.glob.keeps I.bk).lt;exact Tg (by decide) h
theorem Bz(hu:A.units+1 < cLine)(I:Inv X pins σ H s)(g:nr H a y (some v))(ry:RelV y u)(h:∀w' s',Inv X pins σ H s'->RelV v w'->Q w' s'):
  wpAny (model X.prog X.w) A (getItem (.ref a) u) Q E s:=by
 rcases g with⟨kvs,k,e,ey,l⟩ |⟨kvs,k,b,e,ey,eb,l⟩
 ·subst ey;obtain⟨z,hd,vs,rel,dd⟩:=pj I.ba e;obtain⟨w',hw,rw'⟩:=pP.some_of (v:=v) (o:=valueAt vs k) (by rw[l];exact rel.val k);exact wpAny_getItem_of (pg ry) dd.mapOf hw (h w' _ (I.tok _) rw')
 ·subst ey;cases(show u=Value.ref b from ry);obtain⟨z,hd,xs,rel,dd⟩:=rZ I.ba e;obtain⟨w',hw,rw'⟩:=pP.some_of (v:=v) (o:=(atKey xs k).map (·.2)) (by rw[l];exact rel.val k);obtain⟨p,hp,hp2⟩:=Qo.mp hw;refine wpAny_getItem_heap (RY hu) (lh I.ba eb) dd hp ?_;rw[hp2];exact h w' _ (I.tok _) rw'
theorem OJ(hu:A.units+1 < cLine)(I:Inv X pins σ H s)(g:nr H a y o)(ry:RelV y u)(h:∀s',Inv X pins σ H s'->Q (.bool o.isSome) s'):
  wpAny (model X.prog X.w) A (compareOp .In u (.ref a)) Q E s:=by
 rcases g with⟨kvs,k,e,ey,l⟩ |⟨kvs,k,b,e,ey,eb,l⟩
 ·subst ey;obtain⟨z,hd,vs,rel,dd⟩:=pj I.ba e;refine wpAny_in_of (pg ry) hd dd.mapOf ?_;rw[<-(rel.val k).iz,<-l];exact h _ (I.tok _)
 ·subst ey;cases(show u=Value.ref b from ry);obtain⟨z,hd,xs,rel,dd⟩:=rZ I.ba e;refine wpAny_in_heap (RY hu) (lh I.ba eb) hd dd ?_;have q:=(rel.val k).iz;rw[TH] at q;rw[<-q,<-l];exact h _ (I.tok _)
theorem GG(hu:A.units+1 < cLine)(I:Inv X pins σ H s)(g:nr H a y o)(ry:RelV y u)(h:∀s',Inv X pins σ H s'->Q (.bool (!o.isSome)) s'):
  wpAny (model X.prog X.w) A (compareOp .NotIn u (.ref a)) Q E s:=by
 rcases g with⟨kvs,k,e,ey,l⟩ |⟨kvs,k,b,e,ey,eb,l⟩
 ·subst ey;obtain⟨z,hd,vs,rel,dd⟩:=pj I.ba e;refine wpAny_notIn_of (pg ry) hd dd.mapOf ?_;rw[<-(rel.val k).iz,<-l];exact h _ (I.tok _)
 ·subst ey;cases(show u=Value.ref b from ry);obtain⟨z,hd,xs,rel,dd⟩:=rZ I.ba e;refine wpAny_notIn_heap (RY hu) (lh I.ba eb) hd dd ?_;have q:=(rel.val k).iz;rw[TH] at q;rw[<-q,<-l];exact h _ (I.tok _)
theorem vP(I:Inv X pins σ H s)(mu:Ng (H a))(hs:Heap.SameBut a s.heap h')(he:∃q,h'.get? a=some q)(new:cg X.prog X.w (upd H a ob) h' a ob):
  Inv X pins σ (upd H a ob) {s with heap:=h',toks:=t'}:=
 I.write (x:=a) (e:=a) mu (.inl rfl) (λb q hb z=>(hs.2 b hb).trans z) he new
theorem Eh(z:kvs.length<=sizeLine)(hd:(a==sysModules)=false)(rel:KV kvs vs)(dd:h'.DictOf (bO P w) a vs):
  cg P w H' h' a (.dK kvs):=⟨z,hd,vs,rel,dd⟩
theorem By(hu:A.units+1 < cLine)(I:Inv X pins σ H s)(g:GZ H a y v H')(ry:RelV y u)(rv:RelV v r)(h:∀s',Inv X pins σ H' s'->Q () s'):
  wpAny (model X.prog X.w) A (setItem (.ref a) u r) Q E s:=by
 rcases g with⟨kvs,k,e,ey,l,eH⟩ |⟨kvs,k,b,e,ey,eb,l,eH⟩
 ·subst ey eH;obtain⟨z,hd,vs,rel,dd⟩:=Ak I.ba e;have hz:vs.length<=sizeLine:=by rw[<-rel.length];exact z
  have hl:(putK kvs k v).length<=sizeLine:=by have:=jI kvs k v;lia
  refine wpAny_setItem_pairs (hsz:=hz) (pg ry) dd λh' dd' hs=>h _ ?_;have he:∃q,h'.get? a=some q:=by obtain⟨q,_,_,hq,_⟩:=dd';exact⟨q,hq⟩
  exact vP I (by rw[e];exact True.intro) hs he (Eh hl hd (rel.put k rv) dd')
 ·subst ey eH;cases(show u=Value.ref b from ry);obtain⟨z,hd,xs,rel,dd⟩:=ME I.ba e;have hz:xs.length<=sizeLine:=by rw[<-Paired.length rel];exact z
  have hl:(putK kvs k v).length<=sizeLine:=by have:=jI kvs k v;lia
  refine wpAny_setItem_heap (hsz:=hz) (RY hu) (lh I.ba eb) dd λh' dd' hs=>h _ ?_;obtain⟨q,es,ep,hq,h2,h3,h4,_,h5⟩:=dd';refine vP I (by rw[e];exact True.intro) hs ⟨q,hq⟩ ⟨hl,hd,_,(rel.put k eb rv).keeps λc ys ec=>?_,q,es,ep,hq,h2,h3,h4,h5⟩;rw[av (Ml ec e (λz=>nomatch z))];exact ec
theorem MF(I:Inv X pins σ H s)(e:Rd H a (.dK kvs))(h:∀t s',Inv X pins σ H s'->Q (.int kvs.length t) s'):wpAny (model X.prog X.w) A (call (.builtin "len") [.ref a]) Q E s:=by
 obtain⟨z,hd,vs,rel,dd⟩:=pj I.ba e;refine call_len_dict hd dd (by rw[<-rel.length];rw[Rv] at z;lia) ?_;rw[<-rel.length];exact h _ _ (I.tok _)
def GY(i:Expr):Prop:=∀ov iv,subscripted i false ov iv=operate [ov,iv] (getItem ov iv)
theorem Fp{prog:Program}{w:World}{A:Around}{E:Value->Shared->Prop}{s:Shared}{env:Env}{value slice:Expr}{pos:Pos}{T id:String}{Q:Value->Shared->Prop}
  (hl:typeLookup (.type T) "__getitem__"=pure (some (.builtin id))) (hs:GY slice)
  (h:wpAny (model prog w) A (eval value env) (λo s₁=>wpAny (model prog w) A (eval slice env) (λi s₂=>s₂.TypeIs o T/\wpAny (model prog w) A (getItem o i) Q E s₂) E s₁) E s):
  wpAny (model prog w) A (eval (.Subscript value slice pos) env) Q E s:=by
 refine Subscript_ (QO h (λo s₁ h₁=>QO h₁ (λi s₂ h₂=>?_) λ_ _ x=>x) λ_ _ x=>x);obtain⟨hT,h₂⟩:=h₂;unfold subscriptTail;refine PY ?_;rw[getitemInPython_of_ne hT.not_modules];refine PY (wpAny_specialOf hT hl ?_);have fin:wpAny (model prog w) A (subscripted slice false o i) (λr s₃=>wpAny (model prog w) A (letTemporaryGo value o r >>=λ_=>pure r) Q E s₃) E s₂:=by
  rw[hs o i];exact wpAny_operating (QO h₂ (λr s₃ h₃=>PY (wpAny_letTemporaryGo (Qh h₃))) λ_ _ x=>x)
 first
  | exact Qh (PY fin)
  | exact PY (Qh (PY fin))
  | exact PY fin
theorem xO(I:Inv X pins σ H s)(g:nr H a y o):s.TypeIs (.ref a) "dict":=by
 rcases g with⟨kvs,k,e,_,_⟩ |⟨kvs,k,b,e,_,_,_⟩
 ·obtain⟨_,_,vs,_,dd⟩:=pj I.ba e;exact dd.typeIs
 ·obtain⟨_,_,xs,_,dd⟩:=rZ I.ba e;exact dd.typeIs
theorem xN(h:Heap)(hb:sysModules < h.objs.size):cg P w H (h.push {cls:=.type "dict",data:=.dict #[]}) h.objs.size (.dK []):=
 ⟨RJ _,Ri.mpr (Rl (Qs hb)),[],.nil,Heap.DictOf.new h⟩
def Ih:TE:=λ_ H Q=>∀p,H p=none->Q (.ref p) (upd H p (.dK []))
theorem Du:PE X (.Dict [] [] pos) Ih:=λpins s σ H Q I h=>
 wpAny_Dict_empty ⟨.ref s.heap.objs.size,_,I.laid (a:=s.heap.objs.size) (o:=.dK []) (t':=s.toks) (λ_ _ q=>P9 _ q) (PZ _) (xN s.heap I.big),rfl,h _ (I.ba.fresh (PZ _))⟩
def uI:List (TE×TE)->St->Hp->(List (V×V)->Hp->Prop)->Prop
 | [],_,H,Q=>Q [] H
 |(tk,tv)::r,σ,H,Q=>tk σ H λx H1=>tv σ H1 λy H2=>uI r σ H2 λps H3=>Q ((x,y)::ps) H3
abbrev VV:List (V×V)->List (Value×Value)->Prop:=Paired λp q=>RelV p.1 q.1/\RelV p.2 q.2
def K3(X:Cx)(pos:Pos)(keys:List (Option Expr))(values:List Expr)(trs:List (TE×TE)):Prop:=
 ∀(pins:List (Addr×Obj)) (s:Shared) (σ:St) (H:Hp) (Q:List (V×V)->Hp->Prop),Inv X pins σ H s->uI trs σ H Q->
  wpAny (model X.prog X.w) X.A (evalPairs (pairTrees keys values X.env pos)) (λvs s'=>∃ps H',Inv X pins σ H' s'/\VV ps vs/\Q ps H') X.xe s
theorem FY:K3 X pos [] [] []:=λpins s σ H Q I h=>pairTrees_nil_walk ⟨[],H,I,.nil,h⟩
theorem Dk(hk:PE X k tk)(hv:PE X v tv)(hr:K3 X pos ks vs trs):
  K3 X pos (some k::ks) (v::vs) ((tk,tv)::trs):=λpins s σ H Q I h=>
 pairTrees_cons_walk (dh (hk pins s σ H _ I h) λu s1 ⟨x,H1,I1,rx,q1⟩=>dh (hv pins s1 σ H1 _ I1 q1) λw2 s2 ⟨y,H2,I2,ry,q2⟩=>
  dh (hr pins s2 σ H2 _ I2 q2) λws s3 ⟨ps,H3,I3,rel,q3⟩=>⟨(x,y)::ps,H3,I3,.cons ⟨rx,ry⟩ rel,q3⟩)
noncomputable def gp(kvs more:List (Key×V)):List (Key×V):=more.foldl (λacc kv=>putK acc kv.1 kv.2) kvs
theorem KV.merge:∀{more:List (Key×V)} {rs:List (Key×Value)} {kvs:List (Key×V)} {vs:List (Key×Value)},KV more rs->KV kvs vs->KV (gp kvs more) (merged vs rs):=by
 intro more rs kvs vs r;unfold KV at r
 induction r generalizing kvs vs with
 | nil=>intro q;exact q
 | @cons p q ps qs h t ih=>
  intro r0;have e:KV (putK kvs p.1 p.2) (stored vs q.1 q.2):=by
   have:=r0.put p.1 h.2;rw[<-h.1];exact this
  exact ih e
theorem kG:∀(more kvs:List (Key×V)),(gp kvs more).length<=kvs.length+more.length
 | [],kvs=>by show kvs.length<=kvs.length+0;lia
 | p::r,kvs=>by
  have h1:=kG r (putK kvs p.1 p.2);have h2:=jI kvs p.1 p.2;show(gp (putK kvs p.1 p.2) r).length<=_;rw[P2];lia
theorem sr:∀{kvs:List (Key×V)} {ws:List (Value×Value)},VV (kvs.map λkv=>(kV kv.1,kv.2)) ws->∃rs,Carries (bO P w) ws rs/\KV kvs rs
 | [],_,r=>by rw[R3] at r;cases r;exact⟨[],True.intro,.nil⟩
 | p::kvs,_,r=>by
  rw[Qc] at r;cases r with
  | @cons a b as bs h t=>
   obtain⟨rs,c,q⟩:=sr (P:=P) (w:=w) t;obtain⟨b1,b2⟩:=b;exact⟨(p.1,b2)::rs,⟨pg h.1,rfl,c⟩,.cons ⟨rfl,h.2⟩ q⟩
def Co(trs:List (TE×TE)):TE:=λσ H Q=>∀p,H p=none->uI trs σ (upd H p (.dK [])) λps H2=>H2 p=some (.dK [])/\∃kvs:List (Key×V),ps=kvs.map (λkv=>(kV kv.1,kv.2))/\kvs.length<=15/\Q (.ref p) (upd H2 p (.dK (gp [] kvs)))
theorem zR(h:K3 X pos keys values trs)(hall:keys.all (·.isSome)=true)(hl:keys.length=values.length)(h0:keys≠[])(h15:keys.length<=15):PE X (.Dict keys values pos) (Co trs):=by
 intro pins s σ H Q I q;have hn:=I.ba.fresh (PZ s.heap.objs.size);have I1:=I.laid (a:=s.heap.objs.size) (o:=.dK []) (h':=s.heap.push {cls:=.type "dict",data:=.dict #[]}) (t':=s.toks) (λ_ _ q=>P9 _ q) (PZ _) (xN s.heap I.big);refine wpAny_Dict_walk (knd:=bO X.prog X.w) hall hl h0 h15 (dh (h pins _ σ _ _ I1 (q _ hn)) λws s2 ⟨ps,H2,I2,rel,e,kvs,ep,lk,q2⟩=>?_);subst ep;obtain⟨rs,c,rk⟩:=sr (P:=X.prog) (w:=X.w) rel;obtain⟨z,hd,vs0,r0,dd⟩:=Ak I2.ba e;cases r0;refine⟨rs,c,dd,λh' dd' hs=>⟨.ref s.heap.objs.size,_,?_,rfl,q2⟩⟩;have hz:(gp [] kvs).length<=sizeLine:=by
  have h1:=kG kvs [];rw[Rz] at h1;rw[Rv];lia
 have he:∃q,h'.get? s.heap.objs.size=some q:=by obtain⟨q,_,_,hq,_⟩:=dd';exact⟨q,hq⟩
 exact vP I2 (by rw[e];exact True.intro) hs he (Eh hz hd (rk.merge .nil) dd')
theorem Kl(hu:A.units+1 < cLine)(I:Inv X pins σ H s)(g:nr H a y o)(ry:RelV y u)(h:∀w' s',Inv X pins σ H s'->RelV (o.getD .cw) w'->Q w' s'):
  wpAny (model X.prog X.w) A (call (.builtin "dict.get") [.ref a,u]) Q E s:=by
 rcases g with⟨kvs,k,e,ey,l⟩ |⟨kvs,k,b,e,ey,eb,l⟩
 ·subst ey;obtain⟨z,hd,vs,rel,dd⟩:=pj I.ba e;refine Uc RU dd.typeIs So (Uu _ _) (meets_dict_get (bO X.prog X.w) a (pg ry) hd) ⟨_,dd.mapOf,h _ _ (I.tok _) ?_⟩;rw[l];exact(rel.val k).getD rfl
 ·subst ey;cases(show u=Value.ref b from ry);obtain⟨z,hd,xs,rel,dd⟩:=rZ I.ba e;refine Uc RU dd.typeIs So (Uu _ _) (meetsH_dict_get (tupleKind (bO X.prog X.w)) a b hd) ⟨RY hu,k,xs,lh I.ba eb,dd,h _ _ (I.tok _) ?_⟩;rw[l];exact(rel.val k).getD rfl
theorem Kk(hu:A.units+1 < cLine)(I:Inv X pins σ H s)(g:nr H a y o)(ry:RelV y u)(rd:RelV d r)(h:∀w' s',Inv X pins σ H s'->RelV (o.getD d) w'->Q w' s'):
  wpAny (model X.prog X.w) A (call (.builtin "dict.get") [.ref a,u,r]) Q E s:=by
 rcases g with⟨kvs,k,e,ey,l⟩ |⟨kvs,k,b,e,ey,eb,l⟩
 ·subst ey;obtain⟨z,hd,vs,rel,dd⟩:=pj I.ba e;refine Uc RU dd.typeIs So (Ut _ _ _) (meets_dict_get_default (bO X.prog X.w) a (pg ry) hd r) ⟨_,dd.mapOf,h _ _ (I.tok _) ?_⟩;rw[l];exact(rel.val k).getD rd
 ·subst ey;cases(show u=Value.ref b from ry);obtain⟨z,hd,xs,rel,dd⟩:=rZ I.ba e;refine Uc RU dd.typeIs So (Ut _ _ _) (meetsH_dict_get_default (tupleKind (bO X.prog X.w)) a b hd r) ⟨RY hu,k,xs,lh I.ba eb,dd,h _ _ (I.tok _) ?_⟩;rw[l];exact(rel.val k).getD rd
end L2
namespace Att
open PySem PySem.W PySem.Calls PyProof.Rows
theorem pM:∀(ns:List Int)(vs:List Value),WellAll P h vs (ns.map WData.int)->IntsAre vs ns:=by
 intro ns
 induction ns with
 | nil=>
  intro vs w;rw[R3] at w;cases w;exact .nil
 | cons n ns ih=>
  intro vs w;rw[Qc] at w;cases w with
  | cons a b=>
   cases a;exact .cons _ _ (ih _ b)
theorem AS{l:OpenLaw}{n:Nat}(hn:l.most=some n){P:Params}{h:Heap}{args:List WData}{vals:List Value}
  (hpre:l.row.toRowW.claim.pre args=true) (hwl:WellAll P h vals args):
  ∃a vs ns,vals=[Value.ref a]/\args=[WData.list (ns.map WData.int)]/\h.get? a=some {cls:=.type "list",data:=.seq vs.toArray}/\IntsAre vs ns/\ns.length<=n:=by
 have hsh:WShape.hasAll [] args [.list .int]=true:=(pre_splitW hpre).1;have hc:l.pre.holds [] {args:=args}=true:=(pre_splitW hpre).2;obtain⟨d,r,rfl,h1,h2⟩:=hasAllW_cons hsh;obtain rfl:=hasAllW_nil h2;obtain⟨xs,rfl,h3⟩:=hasW_list h1;obtain⟨ns,rfl⟩:=items_int h3;have hlen:ns.length<=n:=by
  unfold OpenLaw.pre at hc;have h4:(WTm.not (.lt (.lit (.int (n:Int))) (.len (.arg 0)))).holds [] {args:=[.list (ns.map .int)]}=true:=by
   have h4:=(holds_andW hc).1;rw[hn] at h4;exact h4
  have h5:=condW_of h4 (w_not (w_lt w_lit (w_len_list (w_arg rfl))));rw[PU] at h5;refine Rq λq=>?_;have q':(n:Int) < ((ns.length:Nat):Int):=by lia
  first
   |(rw[Qx q'] at h5;exact absurd h5 (by decide))
   |(simp at h5;lia)
 cases hwl with
 | cons w1 w2=>
  cases w2;cases w1 with
  | list ho hall=>exact⟨_,_,ns,rfl,rfl,ho,pM ns _ hall,hlen⟩
theorem AX(l:OpenLaw)(args:List WData):l.row.toRowW.claim.post args (.bool true) args=true:=
 postW_of (r:=l.row.toRowW) (X:=(true==true))
  (show WShape.has [] (.bool true) .bool=true by first | rfl | decide | simp[WShape.has,WShape.arms,WShape.armsAll])
  (show(WTm.eq .res (.lit (.bool true))).value [] {args:=args,res:=some (.bool true),after:=args}=some (.bool (true==true)) from w_eq_bool (w_res rfl) w_lit) rfl
theorem x8{l:OpenLaw}{n:Nat}{q:Program}{loose:List Str}{XP:(Str->Option Value)->Heap->Prop}{YP:World->Heap->Prop}{d:DefRec}
  (hn:l.most=some n) (hdf:d.params.defaults=[])
  (call:∀(w:World)(s₀ s₁:Shared)(mg mb:Str->Option Value)(fa:Addr)(o:Obj)(pm cd doc:Value)(a:Addr)(vs:List Value)(ns:List Int),
   Ground q loose [] XP w s₀ mg mb s₁.heap->YP w s₁.heap->
   s₁.heap.get? fa=some o->o.data=.func (docDef d.name d.params d.body d.scope pm cd doc)->s₁.heap.CodeRec cd d.name->mg d.name=some (.ref fa)->
   s₁.heap.get? a=some {cls:=.type "list",data:=.seq vs.toArray}->IntsAre vs ns->ns.length<=n->s₁.gens=#[]->
   codeAny (model l.prog w) callerA (.call (.ref fa) ⟨[.ref a],[]⟩) (λr s'=>r=.ok (.ret (.bool true))/\OldK s₁.heap s'.heap/\s'.os=s₁.os/\AllBare s'.gens) s₁):
  WalkO q loose XP YP l.row.toRowW d [] (λf vs=>PySem.call f vs):=by
 intro w s₀ s₁ mg mb G Y fa o pm cd doc dV kV ho hd hcd hD hmg hg args vals as hpre hlay hrd hwl hlo;obtain rfl:dV=.none:=Dflts.none hD hdf;obtain rfl:kV=.none:=Dflts.noKw hD;obtain⟨a,vs,ns,rfl,rfl,hobj,hints,hlen⟩:=AS hn hpre hwl;refine enter_call (Tw (call w s₀ s₁ mg mb fa o pm cd doc a vs ns G Y ho (fd_plain hd) hcd hmg hobj hints hlen hg) λr s' hq=>?_);obtain⟨rfl,h2,h3,h4⟩:=hq;exact⟨.inl ⟨.bool true,.bool true,[],rfl,λ_=>rfl,.bool true,AX l _,λ_=>⟨List.Pairwise.nil,λ_ hm=>(nomatch hm)⟩⟩,h2,h3,h4⟩
section
variable {prog:Program} {w:World} {A:Around} {E:Value->Shared->Prop} {s:Shared} {K:Frag}
end
end Att
namespace L2
open PySem PySem.Spec PyProof.Rows
theorem jQ{vs:List Value}{ns:List Int}(a:IntsAre vs ns):Vals (ns.map V.int) vs:=by
 induction a with
 | nil=>exact .nil
 | cons n t h ih=>exact .cons ⟨t,rfl⟩ ih
def iJ(K:FR)(P:Addr):Prop:=∃vs:Array Value,(mainGlobals,({cls:=.none,data:=.fields vs}:Obj))∈K/\.ref P∈vs.toList
open Classical in
theorem DR{P:Program}{w:World}{K:FR}{mg mb:Str->Option Value}{CX:AB}{k:Nat}{fa a:Addr}{fd:FuncData}{x:Str}{sp:Sp}{s₁:Shared}{vs:List Value}{ns:List Int}
  (KX:K.In s₁.heap) (hns:s₁.heap.Ns mainGlobals mg) (hb:s₁.heap.Ns builtinsNs mb) (hbb:∀x:Str,x≠"__name__"->mb x=bootBuiltins x) (hlim:s₁.heap.NoLimit) (hg:s₁.gens=#[])
  (ha:s₁.heap.get? a=some {cls:=.type "list",data:=.seq vs.toArray}) (hi:IntsAre vs ns) (hl:ns.length<=sizeLine) (hr:cM k callerA)
  (F:∀base:Heap,K.In base->base.Ns mainGlobals mg->eZ P w K mg base CX k fa fd [x] sp) (hbind:∀(s:Shared)(u:Value),BindsTo s fd ⟨[u],[]⟩ [(x,u)])
  (hT:∀b,iJ K b->isCodeTable s₁.heap b/\s₁.heap.get? b=some {cls:=.none,data:=.fields #[]}/\K.lookup b=none)
  (hsp:∀H:Hp,ia K H a (ns.map V.int)->(∀b,iJ K b->H b=some .tb)->sp [.ref a] H (λv H'=>v=.bl true/\∀b,iJ K b->H' b=some .tb) λ_ _ _=>False)
  (hCX:∀H e s',CX [] H s₁ (λ_ _ _=>False) e s'->False):
  codeAny (model P w) callerA (.call (.ref fa) ⟨[.ref a],[]⟩) (λr s'=>r=.ok (.ret (.bool true))/\OldK s₁.heap s'.heap/\s'.os=s₁.os/\AllBare s'.gens) s₁:=by
 have rv:=jQ hi;have lenV:=hi.length;have hTa:¬iJ K a:=λz=>by rw[(hT a z).2.1] at ha;cases ha
 have core:∀H:Hp,ia K H a (ns.map V.int)->kh P w H s₁.heap->(∀b,iJ K b->H b=some .tb)->(∀b u,H b=some u->iJ K b\/(b=a/\K.lookup a=none/\∃o xs,u=.ph o (.lst xs)))->
   codeAny (model P w) callerA (.call (.ref fa) ⟨[.ref a],[]⟩) (λr s'=>r=.ok (.ret (.bool true))/\OldK s₁.heap s'.heap/\s'.os=s₁.os/\AllBare s'.gens) s₁:=by
  intro H hS ba hTb hA;have base_of:∀{b:Addr} {o:Obj},s₁.heap.get? b=some o->H b=none->(vJ s₁.heap H).get? b=some o:=λe n=>DX e n;have noA:∀{b:Addr} {o:Obj} {es:Array DictEntry} {ep:Nat},s₁.heap.get? b=some o->o.data=.dict es ep->H b=none:=λ{b o es ep} e d=>by
   cases q:H b with
   | none=>rfl
   | some u=>
    rcases hA b u q with z |⟨rfl,_⟩
    ·rw[(hT b z).2.1] at e;cases e;cases d
    ·rw[ha] at e;cases e;have d':Data.seq vs.toArray _=Data.dict es ep:=d;cases d'
  have nsK:∀{b:Addr} {m:Str->Option Value},s₁.heap.Ns b m->(vJ s₁.heap H).Ns b m:=λ{b m} ⟨o,es,ep,e,d,r⟩=>⟨o,es,ep,base_of e (noA e d),d,r⟩;have hKb:K.In (vJ s₁.heap H):=λb o e=>base_of (KX b o e) (by
   cases q:H b with
   | none=>rfl
   | some u=>
    rcases hA b u q with z |⟨rfl,hk,_⟩
    ·rw[(hT b z).2.2] at e;cases e
    ·rw[hk] at e;cases e)
  have hM:Mod K mg (vJ s₁.heap H):=⟨hKb,nsK hns,⟨mb,nsK hb,hbb⟩,let⟨mc,h1,h2⟩:=hlim;⟨mc,nsK h1,h2⟩⟩;have e0:E3 P w K mg (vJ s₁.heap H) callerA [] s₁ H:=⟨rfl,hM,λb o e=>Gh e,UD (Br _ _),trivial,λb hb=>absurd (show b∈([]:List Addr) from hb) (by simp),ba,.of_eq hg⟩;refine Tw ((F _ hKb (nsK hns)).run callerA [] s₁ H ⟨[.ref a],[]⟩ [.ref a] [.ref a] _ _ hr e0 (hbind s₁ (.ref a)) (.cons rfl .nil) (hsp H hS hTb)) λr s' h=>?_;cases r with
  | error e=>exact(hCX H e s' h).elim
  | ok fl=>
   cases fl with
   | next=>exact False.elim h
   | brk=>exact False.elim h
   | cont=>exact False.elim h
   | ret u=>
    obtain⟨v,H',os,bare,un,hok',r',q⟩:=h;obtain⟨q',q2⟩:v=.bl true/\∀b,iJ K b->H' b=some .tb:=q;subst q';obtain rfl:u=Value.bool true:=r';have ph:∀b o xs,H b=some (.ph o (.lst xs))->s₁.heap.get? b=some o/\s'.heap.get? b=some o:=λb o xs z=>by
     obtain⟨e1,_⟩:=ba b _ z;obtain⟨e2,_⟩:=hok' b _ (un.mL b _ _ z);exact⟨e1,e2⟩
    refine⟨rfl,⟨λb o e=>?_,λb o e=>un.there b o e (by simp)⟩,os,bare⟩;cases q:H b with
    | none=>exact .inl (un.keep b o e q (by intro z;exact absurd (show b∈([]:List Addr) from z) (by simp)) (by simp))
    | some u=>
     rcases hA b u q with z |⟨_,_,ob,xs,rfl⟩
     ·obtain⟨ps,e2,_⟩:=hok' b _ (q2 b z);have e1:=(hT b z).2.1;rw[e] at e1;cases e1;exact .inr (.inl ⟨(hT b z).1,rfl,#[],ps,rfl,by rw[e2];simp⟩)
     ·obtain⟨e1,e2⟩:=ph b ob xs q;rw[e] at e1;cases e1;exact .inl e2
 have tbOk:∀(H:Hp) b,iJ K b->cg P w H s₁.heap b .tb:=λH b z=>⟨#[],(hT b z).2.1,trivial,λpos c e=>by simp[codeAmong] at e⟩;cases hk:K.lookup a with
 | some o=>
  have e:=KX a o hk;rw[ha] at e;cases e;refine core (λb=>if iJ K b then some .tb else none) (.inr ⟨_,vs.toArray,_,hk,rfl,rfl,rfl,by rw[Qe,lenV];exact hl,by simpa using rv⟩) (λb u z=>?_) (λb z=>P0 z) λb u z=>?_
  ·by_cases hb:iJ K b
   ·have z':=(P0 hb).symm.trans z;cases z';exact tbOk _ b hb
   ·have z':=(P7 hb).symm.trans z;cases z'
  ·by_cases hb:iJ K b
   ·exact .inl hb
   ·have z':=(P7 hb).symm.trans z;cases z'
 | none=>
  refine core (λb=>if iJ K b then some .tb else if b=a then some (.ph {cls:=.type "list",data:=.seq vs.toArray} (.lst (ns.map V.int))) else none) (.inl (.inr ⟨{cls:=.type "list",data:=.seq vs.toArray},(P7 hTa).trans (P0 rfl)⟩)) (λb u z=>?_) (λb z=>P0 z) λb u z=>?_
  ·by_cases hb:iJ K b
   ·have z':=(P0 hb).symm.trans z;cases z';exact tbOk _ b hb
   ·have z':=(P7 hb).symm.trans z
    by_cases hb:b=a
    ·have z':=(P0 hb).symm.trans z';cases z';subst hb;exact⟨ha,by rw[PU];exact hl,vs,_,rv,ha⟩
    ·have z':=(P7 hb).symm.trans z';cases z'
  ·by_cases hb:iJ K b
   ·exact .inl hb
   ·have z':=(P7 hb).symm.trans z
    by_cases hb:b=a
    ·have z':=(P0 hb).symm.trans z';cases z';exact .inr ⟨hb,hk,_,_,rfl⟩
    ·have z':=(P7 hb).symm.trans z';cases z'
noncomputable def mR(s:Stmt):Arguments:=match s with
 | .FunctionDef _ a _ _ _ _ _ _ _ _=>a
 | _=>{posonlyargs:=[],args:=[],vararg:=none,kwonlyargs:=[],kw_defaults:=[],kwarg:=none,defaults:=[]}
noncomputable def dy(s:Stmt):List Stmt:=match s with
 | .FunctionDef _ _ b _ _ _ _ _ _ _=>b
 | _=>[]
noncomputable def ak(s:Stmt):Scope:=match s with
 | .FunctionDef _ _ _ _ _ _ sc _ _ _=>sc
 | _=>{kind:=.function,names:=[],isGenerator:=false,isCoroutine:=false}
abbrev nv:AB:=λ_ _ _ _ _ _=>False
abbrev E0:XK:=λ_ _ _=>False
theorem L9:Passes nv X E0:=λ_ _ _ _ _ _ _ h=>h.elim
structure sF(K:FR)(x qual:Str)(st:Stmt)(f:Addr)(fd:FuncData):Prop where
 ex:∃(oc:Value)(od:Option Addr)(kV doc pm:Value)(an:Option Addr)(cdv ct:Value)(osl:Array (Option Value)),
  fd=PySem.W.fnOf x qual (mR st) (dy st) (ak st) .none kV doc pm an cdv ct/\K.lookup f=some ⟨oc,od,.func fd,osl⟩/\PySem.W.codeIn K cdv qual=true
 kp:PySem.W.keepIn K (.ref f)=true
section
variable {P:Program} {w:World} {K:FR} {mg:Str->Option Value} {base:Heap}
theorem sF.ok{x qual:Str}{st:Stmt}{f:Addr}{fd:FuncData}{N ps:List Str}{k:Nat}{sp:Sp}(F:sF K x qual st f fd)(S:aE N ps (ak st))(len:∀vs H Q E,sp vs H Q E->vs.length=ps.length)
  (hbody:∀(cdv:Value)(A:Around)(outer:List Env)(s:Shared)(H:Hp)(vs:List V)(Q:VK)(E:XK),cM k (A.deeper (envOfC qual (ak st) s.heap.objs.size f cdv))->sp vs H Q E->
   ∃t,wF (ft nv P w K mg base N qual (ak st) f cdv A outer s H E).DI (dy st) t/\t {nx:=λ_ H'=>Q .cw H',rt:=Q} (start N vs) H):eZ P w K mg base nv (k+1) f fd ps sp:=by
 obtain⟨oc,od,kV,doc,pm,an,cdv,ct,osl,rfl,lk,hcd⟩:=F.ex;refine D2 lk hcd S len λA outer s H vs Q E hr hsp=>?_;obtain⟨t,h,q⟩:=hbody cdv A outer s H vs Q E hr hsp;exact⟨t,h.DI,q⟩
theorem sF.binds{x qual:Str}{st:Stmt}{f:Addr}{fd:FuncData}{ps:List Str}(F:sF K x qual st f fd)
  (h:∀(kV doc pm:Value)(an:Option Addr)(cdv ct:Value)(us:List Value),us.length=ps.length->bindArgs (PySem.W.fnOf x qual (mR st) (dy st) (ak st) .none kV doc pm an cdv ct) ⟨us,[]⟩=pure (ps.zip us)):Binds K fd ps []:=by
 obtain⟨oc,od,kV,doc,pm,an,cdv,ct,osl,rfl,lk,hcd⟩:=F.ex;exact .all (h kV doc pm an cdv ct)
end
theorem Mu(hr:cM k A):A.units+1 < cLine:=Q6 (Nat.add_le_add_left (by decide:1<=64) _) hr.units
theorem BF:fY X (.builtin "len") (λxs H Q=>∃a kvs,xs=[V.ref a]/\H a=some (.dK kvs)/\Q (.int kvs.length) H):=by
 intro pins s σ H xs us Q I r h;obtain⟨a,kvs,rfl,ha,q⟩:=h;obtain⟨u,rfl,ru⟩:=vals1 r;cases ru;exact MF I (.inl ha) λt s' I'=>⟨.int kvs.length,H,I',⟨t,rfl⟩,q⟩
theorem Mr{A B:Prop}(h:B):if false=true then A else B:=by
 rw[P7 RP];exact h
theorem Mq{A B:Prop}(h:A):if true=true then A else B:=by
 rw[P0 rfl];exact h
section
variable {κ:Type} [DecidableEq κ]
end
theorem kh.off(ok:kh P w H h)(hC:H C=none)(k:∀b u,b≠C->h.get? b=some u->h'.get? b=some u):kh P w H h':=by
 intro a o e;have ne:a≠C:=by rintro rfl;rw[hC] at e;cases e
 refine(ok a o e).nE (λb u hb q=>k b u ?_ q) (λ_ x=>x) (λ_ _ x=>x);rcases hb with rfl | hb
 ·exact ne
 ·rintro rfl;rw[hC] at hb;cases hb
noncomputable def gu(env:Env):List (Str×NameKind)->List (Str×Addr)->List (Str×Addr)
 | [],acc=>acc
 |(n,k)::r,acc=>if(k==NameKind.free)=true then gu env r ((n,(env.cells.lookup n).getD 0)::acc) else gu env r acc
theorem lu(h:∀y∈scope.names,y.2=.free->∃c,env.cells.lookup y.1=some c):closureFor scope env=pure (gu env scope.names []):=by
 have key:∀(names:List (Str×NameKind)) (acc:List (Str×Addr)),(∀y∈names,y.2=.free->∃c,env.cells.lookup y.1=some c)->
   (forIn names acc (λ(x:Str×NameKind)(r:List (Str×Addr))=>match x with
    |(name,kind)=>if(kind==NameKind.free)=true then do let a<-cellOf env name;pure (ForInStep.yield ((name,a)::r)) else pure (ForInStep.yield r)):Sem (List (Str×Addr)))=pure (gu env names acc):=by
  intro names
  induction names with
  | nil=>intro acc _;rfl
  | cons y r ih=>
   intro acc hy;obtain⟨n,k⟩:=y;have hr:=λa=>ih a λz hz=>hy z (P4 _ hz);rw[List.forIn_cons];unfold gu
   by_cases hk:(k==NameKind.free)=true
   ·have hk':k=.free:=by simpa using hk
    obtain⟨c,hc⟩:=hy (n,k) P1 hk';have e:cellOf env n=pure c:=by unfold cellOf;rw[hc]
    simp only[hk,Sj,e,hc,Option.getD_some];exact hr _
   ·simp only[hk,Ua];exact hr _
 have k:=key scope.names [] h;unfold closureFor;dsimp only;rw[k];rfl
theorem ou:∀(names:List (Str×NameKind)) (acc:List (Str×Addr)),(∀y∈names,y.2=.free->∃c,env.cells.lookup y.1=some c)->
  (∀d,acc.lookup x=some d->env.cells.lookup x=some d)->(gu env names acc).lookup x=some c->env.cells.lookup x=some c
 | [],acc,_,ha,h=>ha c h
 |(n,k)::r,acc,hy,ha,h=>by
  unfold gu at h;have hr:=λz hz=>hy z (P4 _ hz)
  by_cases hk:(k==NameKind.free)=true
  ·rw[P0 hk] at h;refine ou r _ hr (λd hd=>?_) h;have hk':k=.free:=by simpa using hk
   obtain⟨c',hc⟩:=hy (n,k) P1 hk';rw[QD] at hd;cases hx:x==n with
   | true=>
    rw[hx] at hd;have e:x=n:=by simpa using hx
    rw[e,hc];rw[hc] at hd;exact hd
   | false=>
    rw[hx] at hd;exact ha d hd
  ·rw[P7 hk] at h;exact ou r _ hr ha h
theorem sj:∀(names:List (Str×NameKind)) (acc:List (Str×Addr)),(∃c,acc.lookup x=some c)->∃c,(gu env names acc).lookup x=some c
 | [],_,h=>h
 |(n,k)::r,acc,h=>by
  unfold gu
  by_cases hk:(k==NameKind.free)=true
  ·rw[P0 hk];refine sj r _ ?_;rw[QD];cases hx:x==n with
   | true=>exact⟨_,rfl⟩
   | false=>exact h
  ·rw[P7 hk];exact sj r _ h
theorem iH:∀(names:List (Str×NameKind)) (acc:List (Str×Addr)),(x,NameKind.free)∈names->∃c,(gu env names acc).lookup x=some c
 | [],_,h=>by cases h
 |(n,k)::r,acc,h=>by
  unfold gu;rcases P5.mp h with e | h'
  ·injection e with e1 e2
   subst e1 e2;rw[P0 (by rfl)];refine sj r _ ⟨(env.cells.lookup x).getD 0,?_⟩;rw[QD,QP]
  ·by_cases hk:(k==NameKind.free)=true
   ·rw[P0 hk];exact iH r _ h'
   ·rw[P7 hk];exact iH r _ h'
theorem iU{env:Env}:∀{names:List (Str×NameKind)} {x:Str} {j:NameKind},
  (names.map λ(n,k)=>if(k==NameKind.free&&env.scope.kind==.function&&env.kindOf n==some .cell) then(n,NameKind.cell) else(n,k)).lookup x=some j->
  ∃k,names.lookup x=some k/\(j=k\/(k=.free/\j=.cell))
 | [],_,_,h=>by simp at h
 |(n,k)::r,x,j,h=>by
  have h':List.lookup x ((if(k==NameKind.free&&env.scope.kind==.function&&env.kindOf n==some .cell)=true then(n,NameKind.cell) else(n,k))::_)=some j:=h;rw[QD];cases hx:x==n with
  | true=>
   refine⟨k,rfl,?_⟩
   by_cases hc:(k==NameKind.free&&env.scope.kind==.function&&env.kindOf n==some .cell)=true
   ·rw[P0 hc,QD,hx] at h';simp only[Qw,Rr] at hc;exact .inr ⟨hc.1.1,(Option.some.inj h').symm⟩
   ·rw[P7 hc,QD,hx] at h';exact .inl (Option.some.inj h').symm
  | false=>
   by_cases hc:(k==NameKind.free&&env.scope.kind==.function&&env.kindOf n==some .cell)=true
   ·rw[P0 hc,QD,hx] at h';exact iU h'
   ·rw[P7 hc,QD,hx] at h';exact iU h'
theorem iV{env:Env}:∀{names:List (Str×NameKind)} {x:Str},names.lookup x=some .free->
  (names.map λ(n,k)=>if(k==NameKind.free&&env.scope.kind==.function&&env.kindOf n==some .cell) then(n,NameKind.cell) else(n,k)).lookup x=some .cell\/
  (names.map λ(n,k)=>if(k==NameKind.free&&env.scope.kind==.function&&env.kindOf n==some .cell) then(n,NameKind.cell) else(n,k)).lookup x=some .free
 | [],_,h=>by simp at h
 |(n,k)::r,x,h=>by
  rw[Qc];show List.lookup x ((if(k==NameKind.free&&env.scope.kind==.function&&env.kindOf n==some .cell)=true then(n,NameKind.cell) else(n,k))::_)=_\/List.lookup x ((if(k==NameKind.free&&env.scope.kind==.function&&env.kindOf n==some .cell)=true then(n,NameKind.cell) else(n,k))::_)=_;rw[QD] at h;cases hx:x==n with
  | true=>
   rw[hx] at h;have hk:k=.free:=Option.some.inj h
   by_cases hc:(k==NameKind.free&&env.scope.kind==.function&&env.kindOf n==some .cell)=true
   ·rw[P0 hc,QD,hx];exact .inl rfl
   ·rw[P7 hc,QD,hx,hk];exact .inr rfl
  | false=>
   rw[hx] at h
   by_cases hc:(k==NameKind.free&&env.scope.kind==.function&&env.kindOf n==some .cell)=true
   ·rw[P0 hc,QD,hx];exact iV h
   ·rw[P7 hc,QD,hx];exact iV h
abbrev mY(X:Cx)(N':List Str)(scope:Scope)(C:Addr)(s₃:Shared)(H₃:Hp)(fp:List Addr)(pl:List (Addr×Obj)):Cx:=
 {X with N:=N',s₀:=s₃,H₀:=H₃,env:=compEnvC scope (gu X.env scope.names []) C X.env,outer:=X.stack,ex:=fp,fn:=λ_=>false,calm:=true,pn:=X.pn++pl,xe:=λ_ _=>False}
structure bG(X:Cx)(N':List Str)(caps:List (Option Nat))(scope:Scope):Prop where
 kind:scope.kind=.function
 rq:∀y∈scope.names,y.2≠.cell
 names:∀y∈scope.names,y.2=.local->scope.names.lookup y.1=some .local
 so:∀y∈scope.names,y.2=.free->X.env.kindOf y.1=some .cell\/X.env.kindOf y.1=some .free
 len:caps.length=N'.length
 Pd:∀(j i:Nat)(x:Str),caps[j]?=some (some i)->N'[j]?=some x->X.N[i]?=some x/\scope.names.lookup x=some .free
 nd:N'.Nodup
noncomputable def mW(caps:List (Option Nat))(σ:St):St:=caps.map λo=>o.bind λi=>(σ[i]?).join
theorem bG.has(S:bG X N' caps scope)(ok:X.Ok):∀y∈scope.names,y.2=.free->∃c,X.env.cells.lookup y.1=some c:=λy hy e=>ok.has y.1 (S.so y hy e)
theorem bG.look(S:bG X N' caps scope)(ok:X.Ok)(h:(gu X.env scope.names []).lookup x=some c):X.env.cells.lookup x=some c:=
 ou scope.names [] (S.has ok) (λ_ z=>by simp at z) h
theorem Inv.block(S:bG X N' caps scope)(I:Inv X pins σ H s₃)(hc:X.calm=true)(hf:∀b∈fp,kr X pins H b)(hlt:∀b∈fp,b < s₃.heap.objs.size){h₄:Heap}{t₄:Nat}{m₄:Str->Option Value}
  (hn:h₄.Ns s₃.heap.objs.size m₄) (hk:∀b o,s₃.heap.get? b=some o->h₄.get? b=some o):
  Inv (mY X N' scope s₃.heap.objs.size s₃ H fp pins) [] (mW caps σ) H {s₃ with heap:=h₄,toks:=t₄}:=by
 have ok:=I.ok;have fresh:∀b o,s₃.heap.get? b=some o->b≠s₃.heap.objs.size:=λb o e=>Qs (Qf e);have cellOk:∀x c,(gu X.env scope.names []).lookup x=some c->∃v,s₃.heap.IsCell c v:=λx c e=>I.cell x c (S.look ok e);refine⟨⟨ok.mod,?_,ok.glob,ok.blt,PZ _,?_,?_,?_,λ_=>ok.hd hc,ok.frames,.inl rfl,?_,I.bs,?_,?_,?_,I.stack,I.pS⟩,rfl,I.bare,Un.kept hk,?_,?_,I.ba.fresh (PZ _),?_,?_,I.ba.kept hk,?_⟩
 ·show(relabel scope X.env).kind=.function;exact S.kind
 ·intro x y c h1 h2;exact ok.inj x y c (S.look ok h1) (S.look ok h2)
 ·intro x hx;have hx':(relabel scope X.env).names.lookup x=some .cell\/(relabel scope X.env).names.lookup x=some .free:=hx;have key:∀j,(relabel scope X.env).names.lookup x=some j->j=.cell\/j=.free->∃c,(gu X.env scope.names []).lookup x=some c:=by
   intro j hj hjk;obtain⟨k,hk1,hk2⟩:=iU hj;have hm:=QB hk1;have hkf:k=.free:=by
    rcases hk2 with rfl |⟨e,_⟩
    ·rcases hjk with rfl | e
     ·exact absurd rfl (S.rq _ hm)
     ·exact e
    ·exact e
   subst hkf;exact iH scope.names [] hm
  rcases hx' with h | h
  ·exact key _ h (.inl rfl)
  ·exact key _ h (.inr rfl)
 ·intro x c h _;exact absurd (show false=true from h) (by decide)
 ·intro b hb;refine⟨Qs (hlt b hb),λx c h=>(hf b hb).2.2.2.2.1 x c (S.look ok h)⟩
 ·exact P6 ok.E8 I.sz
 ·intro b o e hb;rcases(hf b hb).2.2.2.1 with z | z
  ·exact ok.Be b o e z
  ·exact absurd (Qq (Qf e) ok.E8) (Nat.not_lt.mpr z)
 ·intro b hb z;rcases P5.mp (I.qw b z) with e | e
  ·exact(hf b hb).2.1 e
  ·exact(hf b hb).2.2.1 e
 ·refine⟨m₄,hn,λj x v e1 e2 e3=>?_⟩;have e2':(caps.map λo=>o.bind λi=>(σ[i]?).join)[j]?=some (some v):=e2;rw[Qg] at e2';cases hcj:caps[j]? with
  | none=>rw[hcj] at e2';cases e2'
  | some oi=>
   rw[hcj] at e2';have e2'':(oi.bind λi=>(σ[i]?).join)=some v:=Option.some.inj e2';cases oi with
   | none=>cases e2''
   | some i=>
    have hσ:(σ[i]?).join=some v:=e2'';have hσ':σ[i]?=some (some v):=by
     cases hs:σ[i]? with
     | none=>rw[hs] at hσ;cases hσ
     | some w=>rw[hs] at hσ;rw[show w=some v from hσ]
    obtain⟨hX,hfr⟩:=S.Pd j i x hcj e1;obtain⟨m,_,hl⟩:=I.loc;have hcgt:=S.so _ (QB hfr) rfl;have hvis:KS X.env.scope x:=by
     rcases hcgt with z | z
     ·exact .inr (.inl z)
     ·exact .inr (.inr z)
    obtain⟨u,ru,lk⟩:=hl i x v hX hσ' hvis;refine⟨u,ru,.inr ⟨?_,?_⟩⟩
    ·exact iV hfr
    ·obtain⟨c,hcc⟩:=iH (env:=X.env) scope.names [] (QB hfr);refine⟨c,hcc,?_⟩;rcases lk with⟨z,_⟩ |⟨_,c',hc',hcell⟩
     ·have z':X.env.kindOf x=some .local:=z;rcases hcgt with q | q
      ·rw[z'] at q;cases q
      ·rw[z'] at q;cases q
     ·have:=S.look I.ok hcc;rw[this] at hc';cases hc';obtain⟨o,ho,hd⟩:=hcell;exact⟨o,hk _ _ ho,hd⟩
 ·intro x c h;obtain⟨v,o,ho,hd⟩:=cellOk x c h;exact⟨v,o,hk _ _ ho,hd⟩
 ·intro x c h;exact I.gq x c (S.look ok h)
 ·intro p hp;have hp':p∈X.pn++pins:=by
   rcases Qk.mp hp with z | z
   ·exact z
   ·cases z
  obtain⟨e,n,ne,nf,d⟩:=I.pin p hp';refine⟨hk _ _ e,n,fresh _ _ e,λz=>?_,d⟩;rcases P5.mp (I.qw p.1 z) with q | q
  ·exact ne q
  ·exact nf q
 ·show(caps.map _).length=N'.length;rw[PU];exact S.len
theorem Inv.zx(S:bG X N' caps scope)(I:Inv X pins σ H s₃)(hf:∀b∈fp,kr X pins H b)(J:Inv (mY X N' scope s₃.heap.objs.size s₃ H fp pins) [] τ H' s')(hs:∀b u,b≠s₃.heap.objs.size->s'.heap.get? b=some u->h''.get? b=some u):Inv X pins σ H' {s' with heap:=h''}:=by
 have hC:H' s₃.heap.objs.size=none:=J.free;have u:Un (kc X.stack) fp H H' s₃.heap h'':=by
  have b:=J.base;have ne:∀x o,s₃.heap.get? x=some o->x≠s₃.heap.objs.size:=λx o e=>Qs (Qf e);refine⟨λx o e n hx hb=>hs _ _ (ne x o e) (b.keep x o e n hx hb),λx o e n hx hb=>?_,b.free,λx o e hb=>?_,b.nA,b.mL,b.nB⟩
  ·obtain⟨sl,q⟩:=b.slot x o e n hx hb;exact⟨sl,hs _ _ (ne x o e) q⟩
  ·obtain⟨o',q⟩:=b.there x o e hb;exact⟨o',hs _ _ (ne x o e) q⟩
 exact I.call' (s':={s' with heap:=h''}) (ch:=fp) J.os u (J.ba.off hC hs) J.bare λb hb=>⟨(hf b hb).2.2.2.1,(hf b hb).2.1,(hf b hb).2.2.2.2.1,(hf b hb).2.2.2.2.2⟩
def K4(X:Cx)(ifs:List Expr)(t:TT):Prop:=
 ∀(pins:List (Addr×Obj)) (s:Shared) (σ:St) (H:Hp) (Q:Bool->Hp->Prop),Inv X pins σ H s->t σ H Q->
  wpAny (model X.prog X.w) X.A (forIn ifs true λc r=>if r=true then do let ok<-isTrue c X.env (eval c X.env);pure (ForInStep.yield ok) else pure (ForInStep.yield r)) (TP X pins σ Q) X.xe s
def ej:TT:=λ_ H Q=>Q true H
theorem F3:K4 X [] ej:=λpins s σ H Q I h=>wpAny_tests_nil ⟨H,I,h⟩
theorem F2(h:PT X c t):K4 X [c] t:=λpins s σ H Q I q=>wpAny_tests_one (h pins s σ H Q I q)
def Nj(J:It)(g:TG)(tc:TT)(te:TE)(l:Addr)(Q:VK)(τ0:St)(H0:Hp):Prop:=
 ∃W:Nat->Nat->St->Hp->Prop,(∃m,W 0 m τ0 H0)/\∀i m τ H2,W i m τ H2->
  (J.stop i H2/\Q (.ref l) H2)\/(J.go i H2/\∃N:St->Hp->Prop,(∀τ' H',N τ' H'->∃m',m' < m/\W (i+1) m' τ' H')/\∀x H',J.HH i H2 x H'->g x τ H' λτ2 H3=>
   tc τ2 H3 λb H4=>if b=true then te τ2 H4 λy H5=>∃xs,H5 l=some (.lst xs)/\xs.length < sizeLine/\N τ2 (upd H5 l (.lst (xs++[y]))) else N τ2 H4)
def Cq(caps:List (Option Nat))(wi:TI)(g:TG)(tc:TT)(te:TE):TE:=λσ H Q=>wi σ H λJ H1=>∀l,H1 l=none->Nj J g tc te l Q (mW caps σ) (upd H1 l (.lst []))
theorem Nr(h:wpAny M A t Q (λ_ _=>False) s):wpAny M A t Q E s:=QO h (λ_ _ q=>q) λ_ _ f=>f.elim
theorem BB(S:bG X N' caps scope)(hc:X.calm=true)(hg:∀C s₃ H₃ fp pl,PG (mY X N' scope C s₃ H₃ fp pl) tg g)(hif:∀C s₃ H₃ fp pl,K4 (mY X N' scope C s₃ H₃ fp pl) ifs tc)
  (he:∀C s₃ H₃ fp pl,PE (mY X N' scope C s₃ H₃ fp pl) elt te) {pins:List (Addr×Obj)} {σ:St} {H3:Hp} {s3:Shared} {h₁:Heap} {t₁:Nat} {m₁:Str->Option Value} {it l:Addr} {fp:List Addr} {tn:Nat->Heap->Prop} {J:It}
  (I3:Inv X pins σ H3 s3) (T:Turn X.prog X.w X.K tg J fp it tn) (st3:tn 0 h₁) (hf3:∀b∈fp,kr X pins H3 b) (hlt3:∀b∈fp,b < s3.heap.objs.size) (hns₁:h₁.Ns s3.heap.objs.size m₁) (keep3:∀b o,s3.heap.get? b=some o->h₁.get? b=some o)
  {Q:VK} {RR:Value->Addr->Result->Shared->Prop} {W:Nat->Nat->St->Hp->Prop} {m0:Nat} (w0:W 0 m0 (mW caps σ) H3) (turn:∀i m τ H2,W i m τ H2->
   (J.stop i H2/\Q (.ref l) H2)\/(J.go i H2/\∃N:St->Hp->Prop,(∀τ' H',N τ' H'->∃m',m' < m/\W (i+1) m' τ' H')/\∀x H',J.HH i H2 x H'->g x τ H' λτ2 H3=>
    tc τ2 H3 λb H4=>if b=true then te τ2 H4 λy H5=>∃xs,H5 l=some (.lst xs)/\xs.length < sizeLine/\N τ2 (upd H5 l (.lst (xs++[y]))) else N τ2 H4))
  (hRR:∀(l C:Addr)(H':Hp)(s':Shared),H' C=none->C≠X.env.locals->X.s₀.heap.objs.size<=C->(∀x c,X.env.cells.lookup x=some c->c≠C)->(∀p∈X.pn++pins,p.1≠C)->(∃m,s'.heap.Ns C m)->Inv X pins σ H' s'->
   (∀h'':Heap,(∀b u,b≠C->s'.heap.get? b=some u->h''.get? b=some u)->Inv X pins σ H' {s' with heap:=h''})->Q (.ref l) H'->RR (.ref l) C (.ok .next) s'):
  codeAny (model X.prog X.w) X.A (.compStart (.ListComp elt [⟨tg,iter,ifs,0⟩] scope pos) 0 (.ref it) (.ref l) (compEnvC scope (gu X.env scope.names []) s3.heap.objs.size X.env))
   (RR (.ref l) s3.heap.objs.size) {s3 with heap:=h₁,toks:=t₁}:=by
 have J0:Inv (mY X N' scope s3.heap.objs.size s3 H3 fp pins) [] (mW caps σ) H3 {s3 with heap:=h₁,toks:=t₁}:=Inv.block S I3 hc hf3 hlt3 hns₁ keep3;have fpB:∀{H':Hp},(∀b∈fp,H' b=none)->∀b∈fp,kr (mY X N' scope s3.heap.objs.size s3 H3 fp pins) [] H' b:=λ{H'} hn b hb=>by
  obtain⟨f0,f1,f2,f3,f4,f5⟩:=hf3 b hb;refine⟨hn b hb,Qs (hlt3 b hb),λz=>?_,.inl hb,λx c e=>f4 x c (S.look I3.ok e),λp hp=>?_⟩
  ·rcases P5.mp (I3.qw b z) with q | q
   ·exact f1 q
   ·exact f2 q
  ·rcases Qk.mp hp with q | q
   ·exact f5 p q
   ·cases q
 have fin:∀{τ:St} {H':Hp} {s':Shared},Inv (mY X N' scope s3.heap.objs.size s3 H3 fp pins) [] τ H' s'->Q (.ref l) H'->RR (.ref l) s3.heap.objs.size (.ok .next) s':=λ{τ H' s'} J q=>by
  refine hRR _ _ H' s' J.free ?_ ?_ ?_ ?_ ?_ ?_ ?_ q
  ·exact(Qs I3.lt).symm
  ·exact I3.sz
  ·intro x c e z;obtain⟨v,o,ho,_⟩:=I3.cell x c e;exact Qs (Qf ho) z
  ·intro p hp z;obtain⟨e,_⟩:=I3.pin p hp;exact Qs (Qf e) z
  ·obtain⟨m,hm,_⟩:=J.loc;exact⟨m,hm⟩
  ·have:=Inv.zx S I3 hf3 J (h'':=s'.heap) λb u _ e=>e;exact this
  ·exactλh'' hs=>Inv.zx S I3 hf3 J hs
 have loop:codeAny (model X.prog X.w) X.A (.compLoop (.ListComp elt [⟨tg,iter,ifs,0⟩] scope pos) 0 (.ref it) (.ref l) (compEnvC scope (gu X.env scope.names []) s3.heap.objs.size X.env))
   (RR (.ref l) s3.heap.objs.size) {s3 with heap:=h₁,toks:=t₁}:=by
  refine codeAny_loop rfl (λn s'=>∃i τ H',Inv (mY X N' scope s3.heap.objs.size s3 H3 fp pins) [] τ H' s'/\tn i s'.heap/\(∀b∈fp,H' b=none)/\W i n τ H') ?_ m0 ⟨0,_,_,J0,st3,λb hb=>(hf3 b hb).1,w0⟩;rintro n s4 ⟨i,τ,H4,J4,st4,fr4,w4⟩;show wpAny _ X.A ((compTurn (.ListComp elt [⟨tg,iter,ifs,0⟩] scope pos) 0 (.ref it) (.ref l) (compEnvC scope (gu X.env scope.names []) s3.heap.objs.size X.env)).onRaise (λx=>do noteFrame x (compEnvC scope (gu X.env scope.names []) s3.heap.objs.size X.env);theTreesLotGoes x)) _ _ s4;refine wpAny_noted ?_;rw[compTurn_list];rcases turn i n τ H4 w4 with⟨stop,qn⟩ |⟨go,N,hN,step⟩
  ·refine PY (Tn (PY (QO (T.done (mY X N' scope s3.heap.objs.size s3 H3 fp pins) rfl rfl rfl rfl i [] s4 τ H4 _ J4 (fpB fr4) st4 stop) (λr s5 h5=>?_) λ_ _ e=>e)));obtain⟨hr,J5⟩:=h5;subst hr;exact Qh (fin J5 qn)
  ·refine PY (Tn (PY (QO (T.item (mY X N' scope s3.heap.objs.size s3 H3 fp pins) rfl rfl rfl rfl i [] s4 τ H4 _ J4 (fpB fr4) st4 go) (λr s5 h5=>?_) λ_ _ e=>e)));obtain⟨u,hr,h5⟩:=h5;subst hr;refine PY (QO h5 (λ_ s6 h6=>?_) λ_ _ e=>e);obtain⟨x,H6,J6,r6,y6,st6,fr6⟩:=h6;have J6':=J6.pinned (fpB fr6) (T.obj _ _ st6);refine PY (QO (Nr (hg _ _ _ _ _ _ s6 τ H6 x u _ J6' r6 (step x H6 y6))) (λ_ s7 h7=>?_) λ_ _ e=>e);obtain⟨τ7,H7,J7,q7⟩:=h7;have again:∀{τ8:St} {H8:Hp} {s8:Shared},Inv (mY X N' scope s3.heap.objs.size s3 H3 fp pins) ([]++rf fp s6.heap) τ8 H8 s8->N τ8 H8->
     ∃m,m < n/\∃i τ' H',Inv (mY X N' scope s3.heap.objs.size s3 H3 fp pins) [] τ' H' s8/\tn i s8.heap/\(∀b∈fp,H' b=none)/\W i m τ' H':=λ{τ8 H8 s8} J8 n8=>by
    obtain⟨m',hm,w8⟩:=hN τ8 H8 n8;refine⟨m',hm,i+1,τ8,H8,J8.lI,T.keep _ _ _ st6 λb hb o e=>(J8.pin (b,o) (Qm _ (Qm _ (iZ hb e)))).1,λb hb=>?_,w8⟩;obtain⟨o,e,d⟩:=T.obj _ _ st6 b hb;exact(J8.pin (b,o) (Qm _ (Qm _ (iZ hb e)))).2.1
   refine PY (QO (Nr (hif _ _ _ _ _ _ s7 τ7 H7 _ J7 q7)) (λok s8 h8=>?_) λ_ _ e=>e);obtain⟨H8,J8,q8⟩:=h8;cases ok with
   | false=>exact Qh ⟨rfl,again J8 (by simpa using q8)⟩
   | true=>
    have q8':te τ7 H8 λy H5=>∃xs,H5 l=some (.lst xs)/\xs.length < sizeLine/\N τ7 (upd H5 l (.lst (xs++[y]))):=by simpa using q8
    refine PY (PY (QO (Nr (he _ _ _ _ _ _ s8 τ7 H8 _ J8 q8')) (λy s9 h9=>?_) λ_ _ e=>e));obtain⟨yv,H9,J9,r9,xs,hx,hz,n9⟩:=h9;refine PY (QO (Nr (tX (X:=mY X N' scope s3.heap.objs.size s3 H3 fp pins) _ s9 τ7 H9 (.ref l) [yv] (.ref l) [y] (λ_ H'=>N τ7 H') J9 rfl (.cons r9 .nil) ⟨_,xs,yv,rfl,rfl,hx,hz,n9⟩)) (λ_ s10 h10=>?_) λ_ _ e=>e);obtain⟨_,H10,J10,_,n10⟩:=h10;exact Qh (Qh ⟨rfl,again J10 n10⟩)
 exact codeAny_compStart_list loop (T.self X.A 0 _ _ _ st3 loop)
theorem sg(S:bG X N' caps scope)(hc:X.calm=true)(hg:∀C s₃ H₃ fp pl,PG (mY X N' scope C s₃ H₃ fp pl) tg g)(hif:∀C s₃ H₃ fp pl,K4 (mY X N' scope C s₃ H₃ fp pl) ifs tc)
  (he:∀C s₃ H₃ fp pl,PE (mY X N' scope C s₃ H₃ fp pl) elt te) {pins:List (Addr×Obj)} {σ:St} {H:Hp} {s:Shared} {it:Addr} {fp:List Addr} {tn:Nat->Heap->Prop} {J:It}
  (I:Inv X pins σ H s) (T:Turn X.prog X.w X.K tg J fp it tn) (st:tn 0 s.heap) (hf:∀b∈fp,kr X pins H b) {Q:VK} {RR:Value->Addr->Result->Shared->Prop} {E:Value->Shared->Prop}
  (h:∀l,H l=none->∃W:Nat->Nat->St->Hp->Prop,(∃m,W 0 m (mW caps σ) (upd H l (.lst [])))/\∀i m τ H2,W i m τ H2->
   (J.stop i H2/\Q (.ref l) H2)\/(J.go i H2/\∃N:St->Hp->Prop,(∀τ' H',N τ' H'->∃m',m' < m/\W (i+1) m' τ' H')/\∀x H',J.HH i H2 x H'->g x τ H' λτ2 H3=>
    tc τ2 H3 λb H4=>if b=true then te τ2 H4 λy H5=>∃xs,H5 l=some (.lst xs)/\xs.length < sizeLine/\N τ2 (upd H5 l (.lst (xs++[y]))) else N τ2 H4))
  (hRR:∀(l C:Addr)(H':Hp)(s':Shared),H' C=none->C≠X.env.locals->X.s₀.heap.objs.size<=C->(∀x c,X.env.cells.lookup x=some c->c≠C)->(∀p∈X.pn++pins,p.1≠C)->(∃m,s'.heap.Ns C m)->Inv X pins σ H' s'->
   (∀h'':Heap,(∀b u,b≠C->s'.heap.get? b=some u->h''.get? b=some u)->Inv X pins σ H' {s' with heap:=h''})->Q (.ref l) H'->RR (.ref l) C (.ok .next) s'):
  wpAny (model X.prog X.w) X.A (newList []) (λacc s₃=>wpAny (model X.prog X.w) X.A (newFunctionEnv scope X.env.globals (gu X.env scope.names []) [] X.env.qual none .none (some X.env)) (λcenv s₄=>
   codeAny (model X.prog X.w) X.A (.compStart (.ListComp elt [⟨tg,iter,ifs,0⟩] scope pos) 0 (.ref it) acc {cenv with scope:=relabel scope X.env}) (RR acc cenv.locals) s₄) E s₃) E s:=by
 obtain⟨W,⟨m0,w0⟩,turn⟩:=h s.heap.objs.size I.fresh;refine Ro (wpAny_newFunctionEnv S.rq (by intro y hy;simp at hy) (λh₁ hns₁ hsb₁=>?_) S.kind);have I3:Inv X pins σ (upd H s.heap.objs.size (.lst [])) {s with heap:=s.heap.push {cls:=.type "list",data:=.seq ([]:List Value).toArray}}:=I.JK (t':=s.toks) (its:=[]) (ys:=[]) .nil (RJ _);have hltf:∀b∈fp,b < s.heap.objs.size:=λb hb=>by
  obtain⟨o,e,_⟩:=T.obj 0 _ st b hb;exact Qf e
 have hf3:∀b∈fp,kr X pins (upd H s.heap.objs.size (.lst [])) b:=λb hb=>⟨by rw[av (Qs (hltf b hb))];exact(hf b hb).1,(hf b hb).2⟩;have keep3:∀b o,(s.heap.push {cls:=.type "list",data:=.seq ([]:List Value).toArray}).get? b=some o->h₁.get? b=some o:=λb o e=>hsb₁.extBut b o (Qs (Qf e)) (P9 _ e);have st3:tn 0 h₁:=T.keep 0 _ _ st λb hb o e=>keep3 b o (P9 _ e);have hlt3:∀b∈fp,b < (s.heap.push {cls:=.type "list",data:=.seq ([]:List Value).toArray}).objs.size:=λb hb=>by
  have:=hltf b hb;rw[Td];exact Nat.lt_succ_of_lt this
 exact BB (s3:={s with heap:=s.heap.push {cls:=.type "list",data:=.seq ([]:List Value).toArray}}) S hc hg hif he I3 T st3 hf3 hlt3 hns₁ keep3 w0 turn hRR
theorem Dt(S:bG X N' caps scope)(hc:X.calm=true)(hi:PI X tg iter wi)(hg:∀C s₃ H₃ fp pl,PG (mY X N' scope C s₃ H₃ fp pl) tg g)(hif:∀C s₃ H₃ fp pl,K4 (mY X N' scope C s₃ H₃ fp pl) ifs tc)
  (he:∀C s₃ H₃ fp pl,PE (mY X N' scope C s₃ H₃ fp pl) elt te) (hs:∀x,foldedSetIterable iter X.env x=pure x:=by intro _;rfl):PE X (.ListComp elt [⟨tg,iter,ifs,0⟩] scope pos) (Cq caps wi g tc te):=by
 intro pins s σ H Q I h;rw[eval_ListComp];refine US (use:=none) rfl hs (lu (S.has I.ok)) S.kind S.names (dh (hi pins s σ H _ I h) λv s1 h1=>dh h1 λitv s2 h2=>?_);obtain⟨it,fp,tn,J,H2,e,I2,T,st2,f2,hQ⟩:=h2;subst e;refine sg (RR:=λacc C=>compPost (model X.prog X.w) X.A X.xe none (EP X pins σ Q) acc C) S hc hg hif he I2 T st2 f2 hQ ?_;intro l C H' s' _ _ _ _ _ hm _ hI q;obtain⟨m,hm⟩:=hm;exact⟨m,hm,λh'' hs''=>⟨.ref l,H',hI h'' λb u hb e=>hs''.extBut b u hb e,rfl,q⟩⟩
theorem Dh(hN:X.N.Nodup)(hi':X.N[i]?=some y)(hy:X.env.scope.names.lookup y=some .local)(S:bG X N' caps scope)(hc:X.calm=true)(hi:PI X tg iter wi)(hg:∀C s₃ H₃ fp pl,PG (mY X N' scope C s₃ H₃ fp pl) tg g)(hif:∀C s₃ H₃ fp pl,K4 (mY X N' scope C s₃ H₃ fp pl) ifs tc)(he:∀C s₃ H₃ fp pl,PE (mY X N' scope C s₃ H₃ fp pl) elt te)(hsw:swapsWith (.ListComp elt [⟨tg,iter,ifs,0⟩] scope pos) (some (.Name y py)) spos.line X.env=pure true:=by rfl)(hs:∀x,foldedSetIterable iter X.env x=pure x:=by intro _;rfl):
  PS X (.Assign [.Name y py] (.ListComp elt [⟨tg,iter,ifs,0⟩] scope pos) spos) (Fo (Cq caps wi g tc te) (xG i)):=by
 intro pins s σ H D I h;rw[exec_Assign_Name_used _ _ _ _ hsw];refine PY (Tn (PY ?_));show wpAny _ X.A (do let _<-comprehension (.ListComp elt [⟨tg,iter,ifs,0⟩] scope pos) scope X.env _ (newList []) false (eval iter X.env) (some (assign (.Name y py) X.env))) _ _ s;refine PY (QO (US (use:=some (assign (.Name y py) X.env)) (Q:=λ_ s'=>SP X pins D .next s') rfl hs (lu (S.has I.ok)) S.kind S.names
  (dh (hi pins s σ H _ I h) λv s1 h1=>dh h1 λitv s2 h2=>?_)) (λ_ s' hq=>Qh (Qh hq)) λ_ _ e=>e)
 obtain⟨it,fp,tn,J,H2,e,I2,T,st2,f2,hQ⟩:=h2;subst e;refine sg (Q:=λx H1=>xG i x σ H1 D.nx) (RR:=λacc C=>compPost (model X.prog X.w) X.A X.xe (some (assign (.Name y py) X.env)) (λ_ s'=>SP X pins D .next s') acc C) S hc hg hif he I2 T st2 f2 hQ ?_;intro l C H' s' hC hCL hC0 hCc hCp hm hI0 hI q;obtain⟨m,hm⟩:=hm;show wpAny _ X.A (assign (.Name y py) X.env (.ref l)) _ _ s';refine wpAny_assign_Name (tH (v:=.ref l) hI0 hN hi' (.inl hy) rfl (λs5 I5 hch=>?_) (.inr hy));obtain⟨a,hsa,ha⟩:=hch;have hCa:C≠a:=by
  rcases ha with z | z
  ·rw[z];exact hCL
  ·exact(hCc _ _ z).symm
 refine⟨m,hm.sameBut hsa hCa,λh'' hs''=>?_⟩;have I6:=I5.turned (t':=s5.toks) (h':=h'') (it:=C) (λb o hb e=>hs''.extBut b o hb e) hC hCL (.inr hC0) hCc hCp;exact⟨_,H',I6,q⟩
def Nm(_ j:Int):Prop:=0 < j/\j<=10^40
theorem log2_small(h:n<=10^40):n.log2 < 9000:=by
 by_cases h0:n=0
 ·rw[h0];decide
 ·refine(Nat.log2_lt h0).mpr (Q6 h ?_);exact Qq (show 10^40 < 2^200 by decide) (UO (by decide) (by decide))
theorem DD:oB X (binaryOp .FloorDiv) (rI Nm λi j=>.int (i / j)):=Nw λi j _ _ _ _ _ hc q=>by
 have h1:(0:Int) < j:=hc.1;have h2:j<=10^40:=hc.2;exact floordiv_int (by lia) (by rw[Int.fdiv_eq_ediv_of_nonneg i (by lia)];exact q) (.inl (PyProof.noPylong_of_log2 (log2_small (by lia))))
mutual
inductive BR(K:FR)(H:Hp):V->PyData->Prop where
 | cw:BR K H .cw .none
 | bl (b:Bool):BR K H (.bl b) (.bool b)
 | int (i:Int):BR K H (.int i) (.int i)
 | str (x:Str):BR K H (.str x) (.str x)
 | tup {a:Addr} {xs:List V} {ds:List PyData}:ko K H a xs->sC K H xs ds->BR K H (.ref a) (.tuple ds)
 | lst {a:Addr} {xs:List V} {ds:List PyData}:ia K H a xs->sC K H xs ds->BR K H (.ref a) (.list ds)
inductive sC(K:FR)(H:Hp):List V->List PyData->Prop where
 | nil:sC K H [] []
 | cons {x:V} {xs:List V} {d:PyData} {ds:List PyData}:BR K H x d->sC K H xs ds->sC K H (x::xs) (d::ds)
end
mutual
theorem BR.reads(I:Inv X pins σ H s){x:V}{u:Value}{d:PyData}(z:BR X.K H x d)(r:RelV x u):∃as,Reads s.heap u d as:=by
 cases z with
 | cw=>cases(show _=Value.none from r);exact⟨_,.none⟩
 | bl b=>cases(show _=Value.bool b from r);exact⟨_,.bool b⟩
 | int i=>obtain⟨t,e⟩:=(show ∃t,_=Value.int i t from r);cases e;exact⟨_,.int i t⟩
 | str x=>obtain⟨t,e⟩:=(show ∃t,_=Value.str x t from r);cases e;exact⟨_,.str x t⟩
 | tup hq hl=>
  cases(show _=Value.ref _ from r);obtain⟨its,rv,⟨o,h1,h2,n,h3⟩,_⟩:=I.tuple hq;obtain⟨as,q⟩:=sC.reads I hl rv;exact⟨_,.tuple h1 h2 h3 (by simpa using q)⟩
 | lst hq hl=>
  cases(show _=Value.ref _ from r);obtain⟨its,rv,pl,_⟩:=I.list hq;obtain⟨o,h1,h2,n,h3⟩:=pl.isList;obtain⟨as,q⟩:=sC.reads I hl rv;exact⟨_,.list h1 h2 h3 (by simpa using q)⟩
theorem sC.reads(I:Inv X pins σ H s){xs:List V}{us:List Value}{ds:List PyData}(z:sC X.K H xs ds)(v:Vals xs us):∃as,ReadsAll s.heap us ds as:=by
 cases z with
 | nil=>cases v;exact⟨_,.nil⟩
 | cons h t=>
  cases v with
  | cons r q=>
   obtain⟨as,p⟩:=BR.reads I h r;obtain⟨bs,p'⟩:=sC.reads I t q;exact⟨_,.cons p p'⟩
end
def Oe:V->Option Int->Option Int->Hp->VK->Prop:=λx lo hi H Q=>∃z,x=.str z/\z.length<=sizeLine/\Q (.str (Txt.slice z lo hi)) H
theorem Im:KZ X Oe:=by
 intro pins s σ H x v vl vu lo hi sl Q I rx hs pl pu h;obtain⟨z,rfl,hz,q⟩:=h;obtain⟨t,rfl⟩:=(show ∃t,v=Value.str z t from rx);refine⟨"str",_,F.slot_str_getitem.lookup,Tv _ _ _,?_⟩;obtain⟨o,h1,h2,h3⟩:=hs;have fin:(Txt.slice z lo hi).length<=sizeLine/\∀t' k,EP X pins σ Q (.str (Txt.slice z lo hi) t') {s with toks:=k}:=⟨P6 (Ud z _ _) hz,λt' k=>⟨.str _,H,I.tok k,⟨t',rfl⟩,q⟩⟩;cases pl with
 | none=>
  cases pu with
  | none=>exact Su (l:=none) (u:=none) (st:=none) ⟨o,h1,h2,h3⟩ rfl (TC fin)
  | int j uj=>exact Su (l:=none) (u:=some (j,uj)) (st:=none) ⟨o,h1,h2,h3⟩ rfl (TC fin)
 | int i ui=>
  cases pu with
  | none=>exact Su (l:=some (i,ui)) (u:=none) (st:=none) ⟨o,h1,h2,h3⟩ rfl (TC fin)
  | int j uj=>exact Su (l:=some (i,ui)) (u:=some (j,uj)) (st:=none) ⟨o,h1,h2,h3⟩ rfl (TC fin)
noncomputable def xx(out:List (Str×NameKind))(N N':List Str)(caps:List (Option Nat))(scope:Scope):Bool:=
 decide (scope.kind=.function)&&scope.names.all (λy=>decide (y.2≠.cell))&&scope.names.all (λy=>!decide (y.2=.local)||decide (scope.names.lookup y.1=some .local))&&
 scope.names.all (λy=>!decide (y.2=.free)||decide (out.lookup y.1=some .cell)||decide (out.lookup y.1=some .free))&&decide (caps.length=N'.length)&&
 (List.range caps.length).all (λj=>match caps[j]?,N'[j]? with
  | some (some i),some x=>decide (N[i]?=some x)&&decide (scope.names.lookup x=some .free)
  | _,_=>true)&&decide N'.Nodup
theorem bh(h:xx X.env.scope.names X.N N' caps scope=true):bG X N' caps scope:=by
 unfold xx at h;simp only[Qw,QM,RI,RS,U5,Uq] at h;obtain⟨⟨⟨⟨⟨⟨h1,h2⟩,h3⟩,h4⟩,h5⟩,h6⟩,h7⟩:=h;refine⟨h1,h2,λy hy e=>?_,λy hy e=>?_,h5,λj i x hj hx=>?_,h7⟩
 ·rcases h3 y hy with z | z
  ·exact absurd e z
  ·exact z
 ·rcases h4 y hy with(z | z) | z
  ·exact absurd e z
  ·exact .inl z
  ·exact .inr z
 ·have hlt:j < caps.length:=(PV.mp hj).1;have:=h6 j (Q1.mpr hlt);rw[hj,hx] at this;simp only[Qw,QM] at this;exact this
end L2
namespace L2
end L2
namespace L2
open PySem PySem.Spec PyProof.Rows
theorem jS:PyData.strOk x=true↔∀c∈x.cps,c < 0x110000:=by
 unfold PyData.strOk;rw[Array.all_eq_true_iff_forall_mem];simp
theorem ic(ha:PyData.strOk a=true)(hb:PyData.strOk b=true):PyData.strOk (a++b)=true:=by
 rw[jS] at*;intro c hc;have hc':c∈a.cps++b.cps:=hc;rcases Array.mem_append.mp hc' with z | z
 ·exact ha c z
 ·exact hb c z
theorem wK(l u:Option Int)(h:PyData.strOk x=true):PyData.strOk (Txt.slice x l u)=true:=by
 unfold Txt.slice
 split
 ·exact h
 ·rw[jS] at*;intro c hc;have hc':c∈(List.filterMap (x.cps[·]?) (Builtin.Str.strSliceIndices l u 1 x.length)).toArray:=hc;rw[List.mem_toArray] at hc';obtain⟨i,_,e⟩:=Rt.mp hc';exact h c (UJ e)
theorem AL(h:PyData.strOk z=true)(hc:g9 z.cps.toList i=some c):PyData.strOk (⟨#[c]⟩:Str)=true:=by
 rw[jS] at*;intro d hd;have e:d=c:=by simpa using hd
 subst e;obtain⟨j,_,hj,_⟩:=qg hc;exact h d (by have:=PX hj;simpa using this)
end L2
namespace L2
open PySem PySem.Spec PyProof.Rows PySem.SeqAt
noncomputable def Pa:Nat->PyData->Bool
 | _,.int _=>true
 | _,.str x=>PyData.strOk x
 | n+1,.tuple xs=>xs.all (Pa n)
 | _,_=>false
noncomputable def Mv(w:World):Nat->PyData->Int
 | _,.int i=>JQ w (.inl i)
 | _,.str x=>JQ w (.inr x)
 | n+1,.tuple xs=>reduceHash (Builtin.Tuple.tupleHashOf (xs.map (Mv w n)))
 | _,_=>0
noncomputable def Ka(K:FR)(x:Str):Option Value:=match K.lookup mainGlobals with
 | some o=>match o.data with
  | .dict es _=>(es.toList.find? (λe=>Value.isStrOf x e.key)).map (·.val)
  | _=>none
 | none=>none
def yj(h:Heap)(x D:Addr):Prop:=∃o,h.get? x=some o/\o.cls=.ref D
def O0(a:Addr)(us:List (Addr×V))(ps:List PyData):World->Heap->Prop:=λw h=>us.length<=sizeLine/\(a==sysModules)=false/\ps.all (Pa 8)=true/\ps.Nodup/\
 ∃ys:List (PyData×Addr×Value),Paired (λ(u:Addr×V)(y:PyData×Addr×Value)=>u.1=y.2.1/\RelV u.2 y.2.2) us ys/\ys.map (·.1)=ps/\
 ∃o es ep,h.get? a=some o/\o.ExactDict/\o.data=.dict es ep/\es.toList=ys.map λy=>⟨Mv w 8 y.1,.ref y.2.1,y.2.2⟩
end L2
namespace Sm
open PySem L2
inductive D where
 | cw | bl (b:Bool) | int (i:Int) | str (x:Str) | ty (n:String)
 | tup (xs:List D) | lv (xs:List D) | ro (xs:List D) | dv (kvs:List (Key×D)) | ob (n:Nat)
inductive MO where
 | lst (xs:List D) | dct (kvs:List (Key×D)) | dcH (kvs:List (D×D)) | exc (c:Str)
abbrev MH:=List MO
mutual
noncomputable def tQ:D->Option PyData
 | .cw=>some .none
 | .bl b=>some (.bool b)
 | .int i=>some (.int i)
 | .str x=>some (.str x)
 | .tup xs=>(lF xs).map .tuple
 | .lv xs=>(lF xs).map .list
 | .ro xs=>(lF xs).map .list
 | _=>none
noncomputable def lF:List D->Option (List PyData)
 | []=>some []
 | x::r=>(tQ x).bind λa=>(lF r).map λb=>a::b
end
abbrev DS:=List (Option D)
abbrev Pb:Hp:=λ_=>none
structure Ad where
 ob:List Addr
 rs:List Addr
def Ad.has(ρ:Ad)(a:Addr):Prop:=a∈ρ.ob\/a∈ρ.rs
def TupAt(K:FR)(ρ:Ad)(H:Hp)(a:Addr)(vs:List V):Prop:=(Rd H a (.tup vs)/\¬ρ.has a)\/ko K Pb a vs
def K1(K:FR)(ρ:Ad)(H:Hp)(a:Addr)(vs:List V):Prop:=(Rd H a (.lst vs)/\¬ρ.has a)\/ia K Pb a vs
mutual
inductive Rep(K:FR)(ρ:Ad)(H:Hp):V->D->Prop where
 | cw:Rep K ρ H .cw .cw
 | bl (b:Bool):Rep K ρ H (.bl b) (.bl b)
 | int (i:Int):Rep K ρ H (.int i) (.int i)
 | str {x:Str} (h:PyData.strOk x=true):Rep K ρ H (.str x) (.str x)
 | ty (n:String):Rep K ρ H (.ty n) (.ty n)
 | tup {a:Addr} {vs:List V} {ds:List D}:TupAt K ρ H a vs->aC K ρ H vs ds->Rep K ρ H (.ref a) (.tup ds)
 | lv {a:Addr} {vs:List V} {ds:List D}:H a=some (.lst vs)->¬ρ.has a->aC K ρ H vs ds->Rep K ρ H (.ref a) (.lv ds)
 | ro {a:Addr} {vs:List V} {ds:List D}:K1 K ρ H a vs->aC K ρ H vs ds->Rep K ρ H (.ref a) (.ro ds)
 | dv {a:Addr} {us:List (Key×V)} {kvs:List (Key×D)}:H a=some (.dK us)->¬ρ.has a->bH K ρ H us kvs->Rep K ρ H (.ref a) (.dv kvs)
 | ob {a:Addr} {n:Nat}:ρ.ob[n]?=some a->Rep K ρ H (.ref a) (.ob n)
inductive aC(K:FR)(ρ:Ad)(H:Hp):List V->List D->Prop where
 | nil:aC K ρ H [] []
 | cons {v:V} {vs:List V} {d:D} {ds:List D}:Rep K ρ H v d->aC K ρ H vs ds->aC K ρ H (v::vs) (d::ds)
inductive bH(K:FR)(ρ:Ad)(H:Hp):List (Key×V)->List (Key×D)->Prop where
 | nil:bH K ρ H [] []
 | cons {k:Key} {v:V} {vs:List (Key×V)} {d:D} {ds:List (Key×D)}:Rep K ρ H v d->bH K ρ H vs ds->bH K ρ H ((k,v)::vs) ((k,d)::ds)
end
structure Ch(ρ:Ad)(H:Hp)(ρ':Ad)(H':Hp):Prop where
 pre:∀(n:Nat) a,ρ.ob[n]?=some a->ρ'.ob[n]?=some a
 old:∀b o,¬ρ.has b->H b=some o->¬ρ'.has b/\H' b=some o
theorem Ch.refl(ρ:Ad)(H:Hp):Ch ρ H ρ H:=⟨λ_ _ e=>e,λ_ _ n e=>⟨n,e⟩⟩
theorem Ch.trans(a:Ch ρ H ρ1 H1)(b:Ch ρ1 H1 ρ2 H2):Ch ρ H ρ2 H2:=
 ⟨λn x e=>b.pre n x (a.pre n x e),λx o n e=>let⟨n',e'⟩:=a.old x o n e;b.old x o n' e'⟩
structure cY(ρ:Ad)(H:Hp)(ρ':Ad)(H':Hp):Prop extends Ch ρ H ρ' H' where
 rs:ρ'.rs=ρ.rs
 res:∀b∈ρ.rs,H' b=H b
theorem cY.refl(ρ:Ad)(H:Hp):cY ρ H ρ H:=⟨.refl _ _,rfl,λ_ _=>rfl⟩
theorem cY.trans(a:cY ρ H ρ1 H1)(b:cY ρ1 H1 ρ2 H2):cY ρ H ρ2 H2:=
 ⟨a.toCh.trans b.toCh,b.rs.trans a.rs,λx hx=>(b.res x (by rw[a.rs];exact hx)).trans (a.res x hx)⟩
instance {ρ ρ':Ad} {H H':Hp}:CoeOut (cY ρ H ρ' H') (Ch ρ H ρ' H'):=⟨cY.toCh⟩
theorem Ch.rd(S:Ch ρ H ρ' H')(h:Rd H a u)(n:¬ρ.has a):Rd H' a u/\¬ρ'.has a:=by
 rcases h with h |⟨o,h⟩
 ·obtain⟨q,e⟩:=S.old a _ n h;exact⟨.inl e,q⟩
 ·obtain⟨q,e⟩:=S.old a _ n h;exact⟨.inr ⟨o,e⟩,q⟩
mutual
theorem Rep.mono(S:Ch ρ H ρ' H'){v:V}{d:D}(r:Rep K ρ H v d):Rep K ρ' H' v d:=by
 cases r with
 | cw=>exact .cw
 | bl b=>exact .bl b
 | int i=>exact .int i
 | str x=>exact .str x
 | ty n=>exact .ty n
 | tup h l=>exact .tup (h.elim (λ⟨a,n⟩=>.inl (S.rd a n)) .inr) (aC.mono S l)
 | lv h n l=>have ⟨n',h'⟩:=S.old _ _ n h;exact .lv h' n' (aC.mono S l)
 | ro h l=>exact .ro (h.elim (λ⟨a,n⟩=>.inl (S.rd a n)) .inr) (aC.mono S l)
 | dv h n l=>have ⟨n',h'⟩:=S.old _ _ n h;exact .dv h' n' (bH.mono S l)
 | ob e=>exact .ob (S.pre _ _ e)
theorem aC.mono(S:Ch ρ H ρ' H'){vs:List V}{ds:List D}(r:aC K ρ H vs ds):aC K ρ' H' vs ds:=by
 cases r with
 | nil=>exact .nil
 | cons h t=>exact .cons (Rep.mono S h) (aC.mono S t)
theorem bH.mono(S:Ch ρ H ρ' H'){vs:List (Key×V)}{ds:List (Key×D)}(r:bH K ρ H vs ds):bH K ρ' H' vs ds:=by
 cases r with
 | nil=>exact .nil
 | cons h t=>exact .cons (Rep.mono S h) (bH.mono S t)
end
theorem aC.length:∀{vs:List V} {ds:List D},aC K ρ H vs ds->vs.length=ds.length:=by
 intro vs
 induction vs with
 | nil=>intro ds a;cases a;rfl
 | cons v vs ih=>intro ds a;cases a with | cons _ t=>rw[P2,P2,ih t]
theorem aC.got:∀{vs:List V} {ds:List D} {i:Nat} {d:D},aC K ρ H vs ds->ds[i]?=some d->∃v,vs[i]?=some v/\Rep K ρ H v d
 | _,_,_,_,.nil,e=>by simp at e
 | _,_,0,_,.cons r _,e=>by simp at e;subst e;exact⟨_,rfl,r⟩
 | _,_,i+1,d,.cons _ t,e=>by
  obtain⟨u,h1,h2⟩:=aC.got (i:=i) (d:=d) t (by simpa using e);exact⟨u,by simpa using h1,h2⟩
theorem aC.append:∀{vs ws:List V} {ds es:List D},aC K ρ H vs ds->aC K ρ H ws es->aC K ρ H (vs++ws) (ds++es):=by
 intro vs ws
 induction vs with
 | nil=>intro ds es a s;cases a;exact s
 | cons v vs ih=>intro ds es a s;cases a with | cons r t=>exact .cons r (ih t s)
theorem aC.take:∀{vs:List V} {ds:List D} (n:Nat),aC K ρ H vs ds->aC K ρ H (vs.take n) (ds.take n)
 | _,_,0,_=>.nil
 | _,_,_+1,.nil=>.nil
 | _,_,n+1,.cons r t=>.cons r (aC.take n t)
theorem aC.drop:∀{vs:List V} {ds:List D} (n:Nat),aC K ρ H vs ds->aC K ρ H (vs.drop n) (ds.drop n)
 | _,_,0,r=>r
 | _,_,_+1,.nil=>.nil
 | _,_,n+1,.cons _ t=>aC.drop n t
theorem aC.set(r:Rep K ρ H v d):∀{vs:List V} {ds:List D} (i:Nat),aC K ρ H vs ds->aC K ρ H (vs.set i v) (ds.set i d)
 | _,_,_,.nil=>.nil
 | _,_,0,.cons _ t=>.cons r t
 | _,_,i+1,.cons q t=>.cons q (aC.set r i t)
theorem aC.snoc(t:aC K ρ H vs ds)(r:Rep K ρ H v d):aC K ρ H (vs++[v]) (ds++[d]):=t.append (.cons r .nil)
theorem aC.dropLast:∀{vs:List V} {ds:List D},aC K ρ H vs ds->aC K ρ H vs.dropLast ds.dropLast:=by
 intro vs
 induction vs with
 | nil=>intro ds a;cases a;exact .nil
 | cons v vs ih=>intro ds a;cases a with | cons r t=>cases t with
  | nil=>exact .nil
  | cons q t=>exact .cons r (ih (.cons q t))
theorem aC.isEmpty(t:aC K ρ H vs ds):vs.isEmpty=ds.isEmpty:=by cases t <;> rfl
theorem TupAt.sq(h:TupAt K ρ H a vs):ko K H a vs:=by
 rcases h with⟨h,_⟩ | h
 ·exact .inl h
 ·rcases h with(h |⟨o,h⟩) | h
  ·cases h
  ·cases h
  ·exact .inr h
theorem K1.sq(h:K1 K ρ H a vs):ia K H a vs:=by
 rcases h with⟨h,_⟩ | h
 ·exact .inl h
 ·rcases h with(h |⟨o,h⟩) | h
  ·cases h
  ·cases h
  ·exact .inr h
def Az(K:FR)(ρ:Ad)(H:Hp)(a:Addr):MO->Prop
 | .lst ds=>∃vs,H a=some (.lst vs)/\aC K ρ H vs ds
 | .dct kvs=>∃us,H a=some (.dK us)/\bH K ρ H us kvs
 | .dcH kvs=>∃us ps,H a=some (.Ah (O0 a us ps))/\aC K ρ H (us.map λu=>V.ref u.1) (kvs.map (·.1))/\aC K ρ H (us.map (·.2)) (kvs.map (·.2))/\lF (kvs.map (·.1))=some ps
 | .exc c=>∃C,Ka K c=some (.ref C)/\H a=some (.Ah λ_ h=>yj h a C)
structure bL(K:FR)(ρ:Ad)(h:MH)(H:Hp):Prop where
 len:ρ.ob.length=h.length
 nd:ρ.ob.Nodup
 at_:∀(n:Nat) a o,ρ.ob[n]?=some a->h[n]?=some o->Az K ρ H a o
 sM:∀b∈ρ.rs,(∃o,H b=some o)/\b∉ρ.ob
 tb:∀P,iJ K P->¬ρ.has P/\H P=some .tb
theorem bL.Ia{K:FR}{ρ ρ':Ad}{h:MH}{H H':Hp}(S:bL K ρ h H)(T:Ch ρ H ρ' H'):∀P,iJ K P->¬ρ'.has P/\H' P=some .tb:=λP t=>T.old P _ (S.tb P t).1 (S.tb P t).2
theorem Az.has(x:Az K ρ H a o):∃u,H a=some u:=by
 cases o with
 | lst ds=>obtain⟨vs,e,_⟩:=x;exact⟨_,e⟩
 | dct ds=>obtain⟨vs,e,_⟩:=x;exact⟨_,e⟩
 | dcH ds=>obtain⟨vs,_,e,_⟩:=x;exact⟨_,e⟩
 | exc c=>obtain⟨_,_,e⟩:=x;exact⟨_,e⟩
theorem Az.mono(x:Az K ρ H a o)(T:Ch ρ H ρ' H')(e:H' a=H a):Az K ρ' H' a o:=by
 cases o with
 | lst ds=>obtain⟨vs,x,r⟩:=x;exact⟨vs,e.trans x,r.mono T⟩
 | dct ds=>obtain⟨vs,x,r⟩:=x;exact⟨vs,e.trans x,r.mono T⟩
 | dcH ds=>obtain⟨us,ps,x,r,r2,p⟩:=x;exact⟨us,ps,e.trans x,r.mono T,r2.mono T,p⟩
 | exc c=>obtain⟨C,g,x⟩:=x;exact⟨C,g,e.trans x⟩
theorem bL.mem(S:bL K ρ h H)(ha:a∈ρ.ob):∃(n:Nat)(o:MO),ρ.ob[n]?=some a/\h[n]?=some o/\Az K ρ H a o:=by
 obtain⟨n,hn,e⟩:=List.mem_iff_getElem.mp ha;have hn':n < h.length:=by rw[<-S.len];exact hn
 have e1:ρ.ob[n]?=some a:=by rw[Qi hn,e]
 exact⟨n,h[n],e1,Qi hn',S.at_ n a _ e1 (Qi hn')⟩
theorem bL.has(S:bL K ρ h H)(ha:ρ.has a):∃u,H a=some u:=by
 rcases ha with ha | ha
 ·obtain⟨_,_,_,_,x⟩:=S.mem ha;exact x.has
 ·exact(S.sM a ha).1
theorem bL.fresh(S:bL K ρ h H)(hp:H p=none):¬ρ.has p:=λm=>by
 obtain⟨u,e⟩:=S.has m;rw[hp] at e;cases e
theorem cY.laid(S:bL K ρ h H)(hp:H p=none):cY ρ H ρ (upd H p o):=
 ⟨⟨λ_ _ e=>e,λb u n e=>⟨n,by rw[av (aI e hp)];exact e⟩⟩,rfl,λb hb=>by
  obtain⟨u,e⟩:=(S.sM b hb).1;rw[av (aI e hp)]⟩
theorem bL.same(S:bL K ρ h H)(T:cY ρ H ρ H')(k:∀a∈ρ.ob,H' a=H a):bL K ρ h H':=
 ⟨S.len,S.nd,λn a o e1 e2=>(S.at_ n a o e1 e2).mono T.toCh (k a (PX e1)),λb hb=>⟨by rw[T.res b hb];exact(S.sM b hb).1,(S.sM b hb).2⟩,S.Ia T.toCh⟩
theorem bL.laid(S:bL K ρ h H)(hp:H p=none):bL K ρ h (upd H p o):=
 S.same (cY.laid S hp) λa ha=>by
  obtain⟨u,e⟩:=S.has (.inl ha);rw[av (aI e hp)]
abbrev Ad.more(ρ:Ad)(p:Addr):Ad:=⟨ρ.ob++[p],ρ.rs⟩
theorem cY.made(S:bL K ρ h H)(hp:H p=none):cY ρ H (ρ.more p) (upd H p o):=by
 refine⟨⟨λn a e=>?_,λb u n e=>?_⟩,rfl,(cY.laid S hp).res⟩
 ·show(ρ.ob++[p])[n]?=_;rw[P8 (PV.mp e).1];exact e
 ·refine⟨λm=>?_,by rw[av (aI e hp)];exact e⟩;rcases m with m | m
  ·rcases Qk.mp m with m | m
   ·exact n (.inl m)
   ·exact aI e hp (Qd.mp m)
  ·exact n (.inr m)
theorem bL.made(S:bL K ρ h H)(hp:H p=none)(ho:Az K (ρ.more p) (upd H p u) p o):bL K (ρ.more p) (h++[o]) (upd H p u):=by
 refine⟨by simp[S.len],?_,λn a x e1 e2=>?_,λb hb=>?_,S.Ia (cY.made S hp).toCh⟩
 ·show(ρ.ob++[p]).Nodup;rw[RX];refine⟨S.nd,by simp,λa ha b hb z=>?_⟩;rw[Qd.mp hb] at z;exact S.fresh hp (.inl (z ▸ ha))
 ·by_cases hn:n < ρ.ob.length
  ·have e1:(ρ.ob++[p])[n]?=some a:=e1;rw[P8 hn] at e1;rw[P8 (by rw[<-S.len];exact hn)] at e2;have q:=S.at_ n a x e1 e2;obtain⟨w,ew⟩:=q.has;exact q.mono (cY.made S hp).toCh (av (aI ew hp))
  ·have l1:=(PV.mp e1).1;simp at l1;have hn':n=ρ.ob.length:=by lia
   subst hn';have e1:(ρ.ob++[p])[ρ.ob.length]?=some a:=e1;rw[Qa (PZ _)] at e1;rw[Qa (by rw[S.len];exact PZ _)] at e2;simp at e1;rw[S.len] at e2;simp at e2;subst e1;subst e2;exact ho
 ·obtain⟨⟨v,e⟩,n⟩:=S.sM b hb;have z:=aI e hp;refine⟨⟨v,by rw[av z];exact e⟩,λm=>?_⟩;rcases Qk.mp m with m | m
  ·exact n m
  ·exact z (Qd.mp m)
theorem cY.wrote(S:bL K ρ h H)(ha:a∈ρ.ob):cY ρ H ρ (upd H a o):=
 ⟨⟨λ_ _ e=>e,λb u n e=>⟨n,by rw[av (λ(z:b=a)=>n (.inl (by rw[z];exact ha)))];exact e⟩⟩,rfl,λb hb=>av λ(z:b=a)=>(S.sM b hb).2 (by rw[z];exact ha)⟩
theorem bL.wrote(S:bL K ρ h H)(e:ρ.ob[n]?=some a)(ho:Az K ρ (upd H a u) a o):bL K ρ (h.set n o) (upd H a u):=by
 have ha:=PX e;have T:cY ρ H ρ (upd H a u):=cY.wrote S ha;refine⟨by rw[QY];exact S.len,S.nd,λm b x e1 e2=>?_,λb hb=>⟨by rw[T.res b hb];exact(S.sM b hb).1,(S.sM b hb).2⟩,S.Ia T.toCh⟩
 by_cases hm:n=m
 ·subst hm;have l2:n < h.length:=by rw[<-S.len];exact(PV.mp e).1
  rw[e] at e1;cases e1;rw[QA l2] at e2;cases e2;exact ho
 ·rw[QK hm] at e2;have q:=S.at_ m b x e1 e2;have hb:b≠a:=by
   intro z;subst z;exact hm ((U3 (PV.mp e).1 S.nd).mp (e.trans e1.symm))
  exact q.mono T.toCh (av hb)
abbrev Ad.keep(ρ:Ad)(l:Addr):Ad:=⟨ρ.ob,l::ρ.rs⟩
theorem Ch.keep(hl:H l=none):Ch ρ H (ρ.keep l) (upd H l o):=by
 refine⟨λn a e=>e,λb u n e=>⟨λm=>?_,by rw[av (aI e hl)];exact e⟩⟩;rcases m with m | m
 ·exact n (.inl m)
 ·rcases P5.mp m with m | m
  ·exact aI e hl m
  ·exact n (.inr m)
theorem bL.keep(S:bL K ρ h H)(hl:H l=none):bL K (ρ.keep l) h (upd H l o):=by
 refine⟨S.len,S.nd,λn a x e1 e2=>?_,λb hb=>?_,S.Ia (Ch.keep hl)⟩
 ·have q:=S.at_ n a x e1 e2;obtain⟨w,ew⟩:=q.has;exact q.mono (Ch.keep hl) (av (aI ew hl))
 ·rcases P5.mp hb with rfl | hb
  ·exact⟨⟨_,aO⟩,λm=>S.fresh hl (.inl m)⟩
  ·obtain⟨⟨v,e⟩,n⟩:=S.sM b hb;exact⟨⟨v,by rw[av (aI e hl)];exact e⟩,n⟩
theorem Ch.put(hl:l∈ρ.rs):Ch ρ H ρ (upd H l o):=⟨λn a e=>e,λb u n e=>⟨n,by rw[av (λ(z:b=l)=>n (.inr (by rw[z];exact hl)))];exact e⟩⟩
theorem bL.put(S:bL K ρ h H)(hl:l∈ρ.rs):bL K ρ h (upd H l o):=by
 refine⟨S.len,S.nd,λn a x e1 e2=>(S.at_ n a x e1 e2).mono (Ch.put hl) (av λ(z:a=l)=>(S.sM l hl).2 (by rw[<-z];exact PX e1)),λb hb=>⟨?_,(S.sM b hb).2⟩,S.Ia (Ch.put hl)⟩
 by_cases z:b=l
 ·subst z;exact⟨_,aO⟩
 ·rw[av z];exact(S.sM b hb).1
theorem Ch.free{os rs rs':List Addr}{H:Hp}(hs:∀b∈rs',b∈rs):Ch ⟨os,rs⟩ H ⟨os,rs'⟩ H:=⟨λn a e=>e,λb u n e=>⟨λm=>n (m.elim .inl λm=>.inr (hs b m)),e⟩⟩
theorem bL.free{os rs rs':List Addr}{H:Hp}(S:bL K ⟨os,rs⟩ h H)(hs:∀b∈rs',b∈rs):bL K ⟨os,rs'⟩ h H:=
 ⟨S.len,S.nd,λn a x e1 e2=>(S.at_ n a x e1 e2).mono (Ch.free hs) rfl,λb hb=>S.sM b (hs b hb),S.Ia (Ch.free hs)⟩
structure cJ(K:FR)(ρ:Ad)(H:Hp)(σ:St)(δ:DS):Prop where
 len:σ.length=δ.length
 at_:∀(i:Nat) d,δ[i]?=some (some d)->∃v,σ[i]?=some (some v)/\Rep K ρ H v d
theorem cJ.mono(R:cJ K ρ H σ δ)(S:Ch ρ H ρ' H'):cJ K ρ' H' σ δ:=⟨R.len,λi d e=>let⟨v,a,b⟩:=R.at_ i d e;⟨v,a,b.mono S⟩⟩
theorem cJ.set(R:cJ K ρ H σ δ)(r:Rep K ρ H v d)(i:Nat):cJ K ρ H (σ.set i (some v)) (δ.set i (some d)):=by
 refine⟨by rw[QY,QY];exact R.len,λj e he=>?_⟩
 by_cases hij:i=j
 ·subst hij;have hl:i < δ.length:=by
   have:=(PV.mp he).1;rw[QY] at this;exact this
  rw[QA hl] at he;cases he;exact⟨v,by rw[QA (by rw[R.len];exact hl)],r⟩
 ·rw[QK hij] at he ⊢;exact R.at_ j e he
abbrev EM:=DS->MH->Option (D×MH)
abbrev TM:=DS->MH->Option (Bool×MH)
abbrev AM:=DS->MH->Option (List D×MH)
inductive Fl where
 | nx | bk | ct | rt (d:D)
abbrev SM:=DS->MH->Option (Fl×DS×MH)
abbrev GM:=D->DS->MH->Option (DS×MH)
abbrev Fn:=List D->MH->Option (D×MH)
inductive HF(K:FR)(ρ:Ad)(H:Hp)(h':MH)(d:D)(v:V)(H':Hp):Prop where
 | mk (ρ'):cY ρ H ρ' H'->bL K ρ' h' H'->Rep K ρ' H' v d->HF K ρ H h' d v H'
noncomputable def dG(K:FR)(ρ:Ad)(H:Hp)(h':MH)(d:D):VK:=λv H'=>HF K ρ H h' d v H'
inductive Pf(K:FR)(m:EM)(σ:L2.St)(H:Hp)(Q:VK):Prop where
 | mk (ρ δ h d h'):cJ K ρ H σ δ->bL K ρ h H->(m δ h=some (d,h'))->(∀v H',dG K ρ H h' d v H'->Q v H')->Pf K m σ H Q
def tM(K:FR)(m:EM):TE:=λσ H Q=>Pf K m σ H Q
inductive M5(K:FR)(m:TM)(σ:L2.St)(H:Hp)(Q:Bool->Hp->Prop):Prop where
 | mk (ρ δ h b h'):cJ K ρ H σ δ->bL K ρ h H->(m δ h=some (b,h'))->(∀ρ' H',cY ρ H ρ' H'->bL K ρ' h' H'->Q b H')->M5 K m σ H Q
def Ie(K:FR)(m:TM):TT:=λσ H Q=>M5 K m σ H Q
inductive Na(K:FR)(m:AM)(σ:L2.St)(H:Hp)(Q:List V->Hp->Prop):Prop where
 | mk (ρ δ h ds h'):cJ K ρ H σ δ->bL K ρ h H->(m δ h=some (ds,h'))->(∀vs ρ' H',cY ρ H ρ' H'->bL K ρ' h' H'->aC K ρ' H' vs ds->Q vs H')->Na K m σ H Q
def O8(K:FR)(m:AM):TA:=λσ H Q=>Na K m σ H Q
inductive M6(K:FR)(m:SM)(E:Ends)(σ:L2.St)(H:Hp):Prop where
 | mk (ρ δ h fl δ' h'):cJ K ρ H σ δ->bL K ρ h H->(m δ h=some (fl,δ',h'))->(∀ρ' H',cY ρ H ρ' H'->bL K ρ' h' H'->
 match fl with
 | .nx=>∀σ',cJ K ρ' H' σ' δ'->E.nx σ' H'
 | .bk=>∀σ',cJ K ρ' H' σ' δ'->E.bk σ' H'
 | .ct=>∀σ',cJ K ρ' H' σ' δ'->E.ct σ' H'
 | .rt d=>∀v,Rep K ρ' H' v d->E.rt v H')->M6 K m E σ H
def E6(K:FR)(m:SM):TS:=λE σ H=>M6 K m E σ H
inductive M9(K:FR)(m:GM)(v:V)(σ:L2.St)(H:Hp)(Q:L2.St->Hp->Prop):Prop where
 | mk (ρ δ h d δ' h'):cJ K ρ H σ δ->bL K ρ h H->Rep K ρ H v d->(m d δ h=some (δ',h'))->(∀ρ' H' σ',cY ρ H ρ' H'->bL K ρ' h' H'->cJ K ρ' H' σ' δ'->Q σ' H')->M9 K m v σ H Q
def K7(K:FR)(m:GM):TG:=λv σ H Q=>M9 K m v σ H Q
def SE(X:Cx)(e:Expr)(m:EM):Prop:=PE X e (tM X.K m)
def ST(X:Cx)(e:Expr)(m:TM):Prop:=PT X e (Ie X.K m)
def SW(X:Cx)(e:Expr)(m:TM):Prop:=PW X e (Ie X.K m)
def SA(X:Cx)(es:List Expr)(m:AM):Prop:=PA X es (O8 X.K m)
def SS(X:Cx)(s:Stmt)(m:SM):Prop:=PS X s (E6 X.K m)
def Ay(X:Cx)(s:List Stmt)(m:SM):Prop:=wF X s (E6 X.K m)
def SG(X:Cx)(e:Expr)(m:GM):Prop:=PG X e (K7 X.K m)
theorem _root_.L2.PE.imp(h:PE X e t)(i:∀σ H Q,t' σ H Q->t σ H Q):PE X e t':=λpins s σ H Q I q=>h pins s σ H Q I (i σ H Q q)
theorem _root_.L2.PT.imp(h:PT X e t)(i:∀σ H Q,t' σ H Q->t σ H Q):PT X e t':=λpins s σ H Q I q=>h pins s σ H Q I (i σ H Q q)
theorem _root_.L2.PW.imp(h:PW X e t)(i:∀σ H Q,t' σ H Q->t σ H Q):PW X e t':=λwh pins s σ H Q I q=>h wh pins s σ H Q I (i σ H Q q)
theorem _root_.L2.PA.imp(h:PA X e t)(i:∀σ H Q,t' σ H Q->t σ H Q):PA X e t':=λpos pins s σ H Q I q=>h pos pins s σ H Q I (i σ H Q q)
theorem _root_.L2.PS.imp(h:PS X e t)(i:∀E σ H,t' E σ H->t E σ H):PS X e t':=λpins s σ H E I q=>h pins s σ H E I (i E σ H q)
theorem _root_.L2.wF.imp(h:wF X e t)(i:∀E σ H,t' E σ H->t E σ H):wF X e t':=λpins s σ H E I q=>h pins s σ H E I (i E σ H q)
theorem _root_.L2.PG.imp(h:PG X e t)(i:∀v σ H Q,t' v σ H Q->t v σ H Q):PG X e t':=λpins s σ H v u Q I r q=>h pins s σ H v u Q I r (i v σ H Q q)
theorem bA(h:o.bind f=some b):∃a,o=some a/\f a=some b:=Sd.mp h
theorem hW(h:o.map f=some b):∃a,o=some a/\f a=b:=Qo.mp h
theorem EG{x:D}{α:Type}{g:Bool->Option α}{z:α}(e:(match x with | .bl c=>g c | _=>none)=some z):∃c,x=.bl c/\g c=some z:=by
 cases x <;> first | exact absurd e (by intro z;cases z) | exact⟨_,rfl,e⟩
theorem dG.here(S:bL K ρ h H)(r:Rep K ρ H v d):dG K ρ H h d v H:=⟨ρ,.refl _ _,S,r⟩
theorem dG.step(T:cY ρ H ρ1 H1)(p:dG K ρ1 H1 h' d v H'):dG K ρ H h' d v H':=let⟨ρ2,T2,S2,r2⟩:=p;⟨ρ2,T.trans T2,S2,r2⟩
theorem dG.tup(S:bL K ρ h H)(r:aC K ρ H vs ds)(hp:H p=none):dG K ρ H h (.tup ds) (.ref p) (upd H p (.tup vs)):=
 ⟨ρ,cY.laid S hp,S.laid hp,.tup (.inl ⟨.inl aO,S.fresh hp⟩) (r.mono (cY.laid S hp).toCh)⟩
theorem dG.lv(S:bL K ρ h H)(r:aC K ρ H vs ds)(hp:H p=none):dG K ρ H h (.lv ds) (.ref p) (upd H p (.lst vs)):=
 ⟨ρ,cY.laid S hp,S.laid hp,.lv aO (S.fresh hp) (r.mono (cY.laid S hp).toCh)⟩
theorem dG.dv(S:bL K ρ h H)(r:bH K ρ H us ds)(hp:H p=none):dG K ρ H h (.dv ds) (.ref p) (upd H p (.dK us)):=
 ⟨ρ,cY.laid S hp,S.laid hp,.dv aO (S.fresh hp) (r.mono (cY.laid S hp).toCh)⟩
noncomputable def aw(i:Nat):EM:=λδ h=>(δ[i]?).join.map λd=>(d,h)
noncomputable def eK(d:D):EM:=λ_ h=>some (d,h)
noncomputable def ao(f:D->D->MH->Option (D×MH))(a b:EM):EM:=λδ h=>(a δ h).bind λp=>(b δ p.2).bind λq=>f p.1 q.1 q.2
noncomputable def wC(f:D->MH->Option (D×MH))(a:EM):EM:=λδ h=>(a δ h).bind λp=>f p.1 p.2
noncomputable def aR:AM:=λ_ h=>some ([],h)
noncomputable def ah(a:EM)(r:AM):AM:=λδ h=>(a δ h).bind λp=>(r δ p.2).bind λq=>some (p.1::q.1,q.2)
noncomputable def ay(f:Fn)(a:AM):EM:=λδ h=>(a δ h).bind λp=>f p.1 p.2
noncomputable def aD(a:EM):TM:=λδ h=>(a δ h).bind λp=>match p.1 with
 | .bl b=>some (b,p.2)
 | _=>none
noncomputable def uJ(t:TM):TM:=λδ h=>(t δ h).map λp=>(!p.1,p.2)
noncomputable def nC(a b:TM):TM:=λδ h=>(a δ h).bind λp=>if p.1 then b δ p.2 else some (false,p.2)
noncomputable def Fj(a b:TM):TM:=λδ h=>(a δ h).bind λp=>if p.1 then some (true,p.2) else b δ p.2
noncomputable def Kj(a b:EM):EM:=λδ h=>(a δ h).bind λp=>match p.1 with
 | .bl c=>if c then b δ p.2 else some (.bl false,p.2)
 | _=>none
noncomputable def aY:Fn:=λds h=>some (.tup ds,h)
inductive Pk(K:FR)(f:D->D->MH->Option (D×MH))(x y:V)(H:Hp)(Q:VK):Prop where
 | mk (ρ h d e z h'):bL K ρ h H->Rep K ρ H x d->Rep K ρ H y e->(f d e h=some (z,h'))->(∀v H',dG K ρ H h' z v H'->Q v H')->Pk K f x y H Q
def rS(K:FR)(f:D->D->MH->Option (D×MH)):R2:=λx y H Q=>Pk K f x y H Q
def oA(X:Cx)(g:Value->Value->Sem Value)(f:D->D->MH->Option (D×MH)):Prop:=oB X g (rS X.K f)
inductive Pj(K:FR)(f:D->MH->Option (D×MH))(x:V)(H:Hp)(Q:VK):Prop where
 | mk (ρ h d z h'):bL K ρ h H->Rep K ρ H x d->(f d h=some (z,h'))->(∀v H',dG K ρ H h' z v H'->Q v H')->Pj K f x H Q
def rU(K:FR)(f:D->MH->Option (D×MH)):V->Hp->VK->Prop:=λx H Q=>Pj K f x H Q
inductive Pm(K:FR)(f:Fn)(vs:List V)(H:Hp)(Q:VK):Prop where
 | mk (ρ h ds z h'):bL K ρ h H->aC K ρ H vs ds->(f ds h=some (z,h'))->(∀v H',dG K ρ H h' z v H'->Q v H')->Pm K f vs H Q
def rF(K:FR)(f:Fn):List V->Hp->VK->Prop:=λvs H Q=>Pm K f vs H Q
def gU(X:Cx)(g:Value)(f:Fn):Prop:=fY X g (rF X.K f)
section
variable {X:Cx} {a b c e:Expr} {es:List Expr} {pos:Pos} {ma mb mc:EM} {mt mu:TM} {m:AM} {f:D->D->MH->Option (D×MH)}
theorem Iq(hN:X.N[i]?=some x)(hv:KS X.env.scope x)(hd:(x==("__debug__":Str))=false:=by ac_nf)(hcd:(x==("__classdict__":Str))=false:=by ac_nf):SE X (.Name x pos) (aw i):=
 (Dq hN hv hd hcd).imp λσ H Q ⟨ρ,δ,h,d,h',R,S,e,k⟩=>by
  obtain⟨d',e1,e2⟩:=hW e;cases e2;obtain⟨v,ev,r⟩:=R.at_ i _ (Uv.mp e1);exact⟨v,ev,k v H (.here S r)⟩
theorem FA(hp:PE X e (tC v))(hr:∀ρ H,Rep X.K ρ H v d):SE X e (eK d):=hp.imp λσ H Q ⟨ρ,δ,h,d',h',R,S,ee,k⟩=>by
 cases ee;exact k v H (.here S (hr _ _))
theorem aM{i j}:SE X (.Constant (.int i) j pos) (eK (.int i)):=FA Ji λ_ _=>.int i
theorem G7{b j}:SE X (.Constant (.bool b) j pos) (eK (.bl b)):=FA L8 λ_ _=>.bl b
theorem CH{j}:SE X (.Constant .none j pos) (eK .cw):=FA Ds λ_ _=>.cw
theorem bc{x j}(h:PyData.strOk x=true:=by decide+kernel):SE X (.Constant (.str x) j pos) (eK (.str x)):=FA Je λ_ _=>.str h
theorem zK(h:tM X.K (ao f ma mb) σ H Q):Lx (rS X.K f) (tM X.K ma) (tM X.K mb) σ H Q:=by
 obtain⟨ρ,δ,h,d,h',R,S,e,k⟩:=h;obtain⟨⟨x,h1⟩,e1,e⟩:=bA e;obtain⟨⟨y,h2⟩,e2,e3⟩:=bA e;refine⟨ρ,δ,h,x,h1,R,S,e1,λv H1 ⟨ρ1,T1,S1,r1⟩=>?_⟩;refine⟨ρ1,δ,h1,y,h2,R.mono T1,S1,e2,λu H2 ⟨ρ2,T2,S2,r2⟩=>?_⟩;exact⟨ρ2,h2,x,y,d,h',S2,r1.mono T2,r2,e3,λw H3 p=>k w H3 (p.step (T1.trans T2))⟩
theorem bj(ho:oA X (binaryOp op) f)(ha:SE X a ma)(hb:SE X b mb):SE X (.BinOp a op b pos) (ao f ma mb):=(Hh ho ha hb).imp λ_ _ _=>zK
theorem Iw(ho:oA X (compareOp op) f)(ha:SE X a ma)(hb:SE X b mb)(hm:behindInMarks op b=false):SE X (.Compare a [op] [b] pos) (ao f ma mb):=(F8 ho ha hb hm).imp λ_ _ _=>zK
theorem kN{op:CmpOp}(ho:oA X (compareOp op) f)(ha:SE X a ma)(hb:SE X b mb)(hm:behindInMarks op b=false):ST X (.Compare a [op] [b] pos) (aD (ao f ma mb)):=
 (FT ho ha hb hm).imp λσ H Q ⟨ρ,δ,h,c,h',R,S,e,k⟩=>by
  obtain⟨⟨x,h1⟩,e1,e2⟩:=bA e;obtain⟨c',rfl,e2⟩:=EG e2;cases e2;refine zK ⟨ρ,δ,h,.bl c,h1,R,S,e1,λv H' ⟨ρ',T,S',r⟩=>?_⟩;cases r;exact⟨c,rfl,k ρ' H' T S'⟩
theorem zG{op:UnaryOp}{f:D->MH->Option (D×MH)}(ho:M1 X (unaryOp op) (rU X.K f))(ha:SE X a ma):SE X (.UnaryOp op a pos) (wC f ma):=(L5 ho ha).imp λσ H Q ⟨ρ,δ,h,d,h',R,S,e,k⟩=>by
 obtain⟨⟨x,h1⟩,e1,e⟩:=bA e;exact⟨ρ,δ,h,x,h1,R,S,e1,λv H1 ⟨ρ1,T1,S1,r1⟩=>⟨ρ1,h1,x,d,h',S1,r1,e,λw H3 p=>k w H3 (p.step T1)⟩⟩
theorem ar:SA X [] aR:=Dv.imp λσ H Q ⟨ρ,δ,h,d,h',R,S,e,k⟩=>by
 cases e;exact k [] ρ H (.refl _ _) S .nil
theorem aa(ha:SE X e ma)(hr:SA X es m)(hs:starEach (e::es) X.env=(false,eval e X.env)::starEach es X.env:=by ac_nf):SA X (e::es) (ah ma m):=
 (vi ha hr hs).imp λσ H Q ⟨ρ,δ,h,d,h',R,S,e,k⟩=>by
  obtain⟨⟨x,h1⟩,e1,e⟩:=bA e;obtain⟨⟨ys,h2⟩,e2,e3⟩:=bA e;cases e3;refine⟨ρ,δ,h,x,h1,R,S,e1,λv H1 ⟨ρ1,T1,S1,r1⟩=>?_⟩;exact⟨ρ1,δ,h1,ys,h2,R.mono T1,S1,e2,λvs ρ2 H2 T2 S2 rs=>k _ ρ2 H2 (T1.trans T2) S2 (.cons (r1.mono T2) rs)⟩
def lE(m:AM)(n:Nat):Prop:=∀δ h ds h',m δ h=some (ds,h')->ds.length=n
theorem aA:lE aR 0:=λδ h ds h' e=>by cases e;rfl
theorem ag(hr:lE m n):lE (ah ma m) (n+1):=λδ h ds h' e=>by
 obtain⟨⟨x,h1⟩,e1,e⟩:=bA e;obtain⟨⟨ys,h2⟩,e2,e3⟩:=bA e;cases e3;rw[P2,hr _ _ _ _ e2]
theorem cj{x1}(h:SA X es m)(hl:lE m n)(hn:n<=sizeLine:=by decide):SE X (.Tuple es x1 pos) (ay aY m):=(Jc h).imp λσ H Q ⟨ρ,δ,h,d,h',R,S,e,k⟩=>by
 obtain⟨⟨x,h1⟩,e1,e⟩:=bA e;cases e;refine⟨ρ,δ,h,x,h1,R,S,e1,λvs ρ1 H1 T1 S1 r1=>⟨by rw[r1.length,hl _ _ _ _ e1];exact hn,λp hp=>k _ _ (dG.step T1 (.tup S1 r1 hp))⟩⟩
inductive Nb(K:FR)(m:AM)(σ:L2.St)(H:Hp)(Q:VK):Prop where
 | mk (ρ δ h ds h'):cJ K ρ H σ δ->bL K ρ h H->(m δ h=some (ds,h'))->(∀ρ1 H1 p vs,cY ρ H ρ1 H1->bL K ρ1 h' H1->H1 p=none->aC K ρ1 H1 vs ds->Q (.ref p) (upd H1 p (.lst vs)))->Nb K m σ H Q
def PD(K:FR)(m:AM):TE:=λσ H Q=>Nb K m σ H Q
def lC(X:Cx)(e:Expr)(m:AM):Prop:=PE X e (PD X.K m)
noncomputable def fX(m:AM):EM:=λδ h=>(m δ h).map λp=>(.lv p.1,p.2)
noncomputable def xM(m:AM):EM:=λδ h=>(m δ h).map λp=>(.ob p.2.length,p.2++[.lst p.1])
theorem dG.ob(S:bL K ρ h H)(r:aC K ρ H vs ds)(hp:H p=none):dG K ρ H (h++[.lst ds]) (.ob h.length) (.ref p) (upd H p (.lst vs)):=
 ⟨ρ.more p,cY.made S hp,S.made hp ⟨vs,aO,r.mono (cY.made S hp).toCh⟩,.ob (show(ρ.ob++[p])[h.length]?=_ by rw[<-S.len,Qa (PZ _)];simp)⟩
theorem lC.lv(h:lC X e m):SE X e (fX m):=h.imp λσ H Q ⟨ρ,δ,h,d,h',R,S,e,k⟩=>by
 obtain⟨⟨ds,h1⟩,e1,e2⟩:=hW e;cases e2;exact⟨ρ,δ,h,ds,h1,R,S,e1,λρ1 H1 p vs T S1 hp r=>k _ _ (dG.step T (.lv S1 r hp))⟩
theorem lC.ob(h:lC X e m):SE X e (xM m):=h.imp λσ H Q ⟨ρ,δ,h,d,h',R,S,e,k⟩=>by
 obtain⟨⟨ds,h1⟩,e1,e2⟩:=hW e;cases e2;exact⟨ρ,δ,h,ds,h1,R,S,e1,λρ1 H1 p vs T S1 hp r=>k _ _ (dG.step T (.ob S1 r hp))⟩
theorem dS(h:SA X es m)(hl:lE m n)(hn:n<=sizeLine:=by decide):lC X (.List es pos) m:=(Jh h).imp λσ H Q ⟨ρ,δ,h,ds,h',R,S,e,k⟩=>
 ⟨ρ,δ,h,ds,h',R,S,e,λvs ρ1 H1 T1 S1 r1=>⟨by rw[r1.length,hl _ _ _ _ e];exact hn,λp hp=>k ρ1 H1 p vs T1 S1 hp r1⟩⟩
noncomputable def PK:EM:=λ_ h=>some (.dv [],h)
theorem LM:SE X (.Dict [] [] pos) PK:=Du.imp λσ H Q ⟨ρ,δ,h,d,h',R,S,e,k⟩ p hp=>by
 cases e;exact k _ _ (.dv S .nil hp)
theorem FI{σ:St}{H:Hp}{Q:Bool->Hp->Prop}(h:Ie X.K (aD ma) σ H Q):tM X.K ma σ H λx H1=>∃c,x=.bl c/\Q c H1:=by
 obtain⟨ρ,δ,h,c,h',R,S,e,k⟩:=h;obtain⟨⟨x,h1⟩,e1,e2⟩:=bA e;obtain⟨c',rfl,e2⟩:=EG e2;cases e2;refine⟨ρ,δ,h,.bl c,h1,R,S,e1,λv H' ⟨ρ',T,S',r⟩=>?_⟩;cases r;exact⟨c,rfl,k ρ' H' T S'⟩
theorem uM(h:ST X a mt):ST X (.UnaryOp .Not a pos) (uJ mt):=(IZ h).imp λσ H Q ⟨ρ,δ,h,c,h',R,S,e,k⟩=>by
 obtain⟨⟨x,h1⟩,e1,e2⟩:=hW e;cases e2;exact⟨ρ,δ,h,x,h1,R,S,e1,λρ' H' T S'=>k ρ' H' T S'⟩
theorem uK(h:ST X a mt):SW X (.BoolOp .And [a] pos) mt:=FP h
theorem Cs(h:ST X a mt):SW X (.BoolOp .Or [a] pos) mt:=IW h
theorem yu{rest:List Expr}(ha:ST X a mt)(hb:SW X (.BoolOp .And (b::rest) pos) mu):SW X (.BoolOp .And (a::b::rest) pos) (nC mt mu):=(IX ha hb).imp λσ H Q ⟨ρ,δ,h,c,h',R,S,e,k⟩=>by
 obtain⟨⟨x,h1⟩,e1,e2⟩:=bA e;refine⟨ρ,δ,h,x,h1,R,S,e1,λρ' H' T S'=>?_⟩;cases x with
 | true=>rw[P0 rfl] at e2 ⊢;exact⟨ρ',δ,h1,c,h',R.mono T,S',e2,λρ2 H2 T2 S2=>k ρ2 H2 (T.trans T2) S2⟩
 | false=>rw[P7 (by simp)] at e2 ⊢;cases e2;exact k ρ' H' T S'
theorem G4{rest:List Expr}(ha:ST X a mt)(hb:SW X (.BoolOp .Or (b::rest) pos) mu):SW X (.BoolOp .Or (a::b::rest) pos) (Fj mt mu):=(L4 ha hb).imp λσ H Q ⟨ρ,δ,h,c,h',R,S,e,k⟩=>by
 obtain⟨⟨x,h1⟩,e1,e2⟩:=bA e;refine⟨ρ,δ,h,x,h1,R,S,e1,λρ' H' T S'=>?_⟩;cases x with
 | false=>rw[P7 (by simp)] at e2 ⊢;exact⟨ρ',δ,h1,c,h',R.mono T,S',e2,λρ2 H2 T2 S2=>k ρ2 H2 (T.trans T2) S2⟩
 | true=>rw[P0 rfl] at e2 ⊢;cases e2;exact k ρ' H' T S'
theorem SW.st(h:SW X a mt):ST X a mt:=PW.pt h
theorem CG{op}(h:SE X a ma):SE X (.BoolOp op [a] pos) ma:=Jg h
theorem Iy{rest:List Expr}(ha:SE X a ma)(hb:SE X (.BoolOp .And (b::rest) pos) mb):SE X (.BoolOp .And (a::b::rest) pos) (Kj ma mb):=(Jk ha hb).imp λσ H Q ⟨ρ,δ,h,d,h',R,S,e,k⟩=>by
 obtain⟨⟨x,h1⟩,e1,e2⟩:=bA e;obtain⟨c,rfl,e2⟩:=EG e2;refine⟨ρ,δ,h,.bl c,h1,R,S,e1,λv H' ⟨ρ',T,S',r⟩=>?_⟩;cases r;refine⟨c,rfl,?_⟩;cases c with
 | true=>rw[P0 rfl] at e2 ⊢;exact⟨ρ',δ,h1,d,h',R.mono T,S',e2,λv H2 p=>k v H2 (p.step T)⟩
 | false=>rw[P7 (by simp)] at e2 ⊢;cases e2;exact k _ _ ⟨ρ',T,S',.bl _⟩
noncomputable def yo(d:D)(h:MH):Option Bool:=match d with
 | .cw=>some false
 | .bl b=>some b
 | .int i=>some (i !=0)
 | .str x=>if x.length<=sizeLine then some ((x.length:Int) !=0) else none
 | .tup xs=>some (!xs.isEmpty)
 | .dv kvs=>some (!kvs.isEmpty)
 | .ob n=>match h[n]? with
  | some (.lst xs)=>some (!xs.isEmpty)
  | some (.dct kvs)=>some (!kvs.isEmpty)
  | _=>none
 | .lv xs=>some (!xs.isEmpty)
 | .ro xs=>some (!xs.isEmpty)
 | .ty _=>none
noncomputable def yt(a:EM):TM:=λδ h=>(a δ h).bind λp=>(yo p.1 p.2).map λc=>(c,p.2)
theorem bH.isEmpty(t:bH K ρ H us ds):us.isEmpty=ds.isEmpty:=by cases t <;> rfl
theorem zA{K:FR}{ρ:Ad}{H:Hp}{h:MH}{v:V}{d:D}{c:Bool}(S:bL K ρ h H)(r:Rep K ρ H v d)(e:yo d h=some c):GX K v H c:=by
 cases r with
 | cw=>cases e;exact rfl
 | bl b=>cases e;exact rfl
 | int i=>cases e;exact rfl
 | str hs=>
  unfold yo at e
  by_cases z:‹Str›.length<=sizeLine
  ·simp only[P0 z] at e;cases e;exact⟨z,rfl⟩
  ·simp only[P7 z] at e;cases e
 | ty n=>exact bN e
 | tup ht l=>cases e;exact .inr (.inl ⟨_,ht.sq,by rw[l.isEmpty]⟩)
 | lv ht n l=>cases e;exact .inl ⟨_,ia.of ht,by rw[l.isEmpty]⟩
 | ro ht l=>cases e;exact .inl ⟨_,ht.sq,by rw[l.isEmpty]⟩
 | dv ht n l=>cases e;exact .inr (.inr ⟨_,ht,by rw[l.isEmpty]⟩)
 | ob hn=>
  unfold yo at e;rename_i a n;cases q:h[n]? with
  | none=>simp only[q] at e;cases e
  | some o=>
   have x:=S.at_ n a o hn q;cases o with
   | lst ds=>simp only[q] at e;cases e;obtain⟨vs,e1,l⟩:=x;exact .inl ⟨_,ia.of e1,by rw[l.isEmpty]⟩
   | dct ds=>simp only[q] at e;cases e;obtain⟨vs,e1,l⟩:=x;exact .inr (.inr ⟨_,e1,by rw[l.isEmpty]⟩)
   | dcH ds=>simp only[q] at e;cases e
   | exc c=>simp only[q] at e;cases e
theorem yw(ha:SE X a ma)(he:∀whole,isTrue a X.env whole=(do let v<-whole;standAt a.pos;holding [v] (truthy v)):=by intro _;ac_nf):ST X a (yt ma):=(Dc ha he).imp λσ H Q ⟨ρ,δ,h,c,h',R,S,e,k⟩=>by
 obtain⟨⟨x,h1⟩,e1,e2⟩:=bA e;obtain⟨c',e3,e4⟩:=hW e2;cases e4;exact⟨ρ,δ,h,x,h1,R,S,e1,λv H' ⟨ρ',T,S',r⟩=>⟨c,zA S' r e3,k ρ' H' T S'⟩⟩
end
mutual
noncomputable def GR:D->D->Bool
 | .cw,.cw=>true
 | .bl a,.bl b=>a==b
 | .int a,.int b=>a==b
 | .str a,.str b=>decide (a=b)
 | .ty a,.ty b=>a==b
 | .tup a,.tup b=>vZ a b
 | .lv a,.lv b=>vZ a b
 | .ro a,.ro b=>vZ a b
 | .dv a,.dv b=>EI a b
 | .ob a,.ob b=>a==b
 | _,_=>false
noncomputable def vZ:List D->List D->Bool
 | [],[]=>true
 | a::r,b::s=>GR a b&&vZ r s
 | _,_=>false
noncomputable def EI:List (Key×D)->List (Key×D)->Bool
 | [],[]=>true
 |(k,a)::r,(j,b)::s=>decide (k=j)&&GR a b&&EI r s
 | _,_=>false
end
mutual
theorem Av:∀(a b:D),GR a b=true->a=b
 | .cw,b,h=>by cases b <;> first | rfl |(cases h;done)
 | .bl x,b,h=>by cases b <;> first | exact congrArg _ (eq_of_beq h) |(cases h;done)
 | .int x,b,h=>by cases b <;> first | exact congrArg _ (eq_of_beq h) |(cases h;done)
 | .str x,b,h=>by cases b <;> first | exact congrArg _ (QX h) |(cases h;done)
 | .ty x,b,h=>by cases b <;> first | exact congrArg _ (eq_of_beq h) |(cases h;done)
 | .ob x,b,h=>by cases b <;> first | exact congrArg _ (eq_of_beq h) |(cases h;done)
 | .tup x,b,h=>by cases b <;> first | exact congrArg _ (jb _ _ h) |(cases h;done)
 | .lv x,b,h=>by cases b <;> first | exact congrArg _ (jb _ _ h) |(cases h;done)
 | .ro x,b,h=>by cases b <;> first | exact congrArg _ (jb _ _ h) |(cases h;done)
 | .dv x,b,h=>by cases b <;> first | exact congrArg _ (wa _ _ h) |(cases h;done)
theorem jb:∀(a b:List D),vZ a b=true->a=b
 | [],b,h=>by cases b <;> first | rfl |(cases h;done)
 | x::r,b,h=>by
  cases b with
  | nil=>cases h
  | cons y s=>have h:=Qp.mp h;rw[Av _ _ h.1,jb _ _ h.2]
theorem wa:∀(a b:List (Key×D)),EI a b=true->a=b
 | [],b,h=>by cases b <;> first | rfl |(cases h;done)
 |(k,x)::r,b,h=>by
  cases b with
  | nil=>cases h
  | cons y s=>
   obtain⟨j,y⟩:=y;have h:=Qp.mp h;have g:=Qp.mp h.1;rw[QX g.1,Av _ _ g.2,wa _ _ h.2]
end
mutual
theorem uy:∀(a:D),GR a a=true
 | .cw=>rfl
 | .bl x=>QP x
 | .int x=>QP x
 | .str x=>Qx rfl
 | .ty x=>QP x
 | .ob x=>QP x
 | .tup x=>fw x
 | .lv x=>fw x
 | .ro x=>fw x
 | .dv x=>ox x
theorem fw:∀(a:List D),vZ a a=true
 | []=>rfl
 | x::r=>Qp.mpr ⟨uy x,fw r⟩
theorem ox:∀(a:List (Key×D)),EI a a=true
 | []=>rfl
 |(k,x)::r=>Qp.mpr ⟨Qp.mpr ⟨Qx rfl,uy x⟩,ox r⟩
end
noncomputable def EH:MO->MO->Bool
 | .lst a,.lst b=>vZ a b
 | .dct a,.dct b=>EI a b
 | .dcH a,.dcH b=>vZ (a.map (·.1)) (b.map (·.1))&&vZ (a.map (·.2)) (b.map (·.2))
 | .exc a,.exc b=>decide (a=b)
 | _,_=>false
theorem xk:∀{a b:List (D×D)},a.map (·.1)=b.map (·.1)->a.map (·.2)=b.map (·.2)->a=b
 | [],[],_,_=>rfl
 | [],_::_,h,_=>by cases h
 | _::_,[],h,_=>by cases h
 |(x,y)::a,(u,v)::b,h,g=>by
  obtain⟨h1,h2⟩:=List.cons.inj h;obtain⟨g1,g2⟩:=List.cons.inj g;dsimp only at h1 g1;rw[h1,g1,xk h2 g2]
theorem As(h:EH a b=true):a=b:=by
 cases a <;> cases b <;> first |(cases h;done) | skip
 ·rw[jb _ _ h]
 ·rw[wa _ _ h]
 ·have h:=Qp.mp h;rw[xk (jb _ _ h.1) (jb _ _ h.2)]
 ·rw[QX h]
theorem uw(a:MO):EH a a=true:=by
 cases a with
 | lst x=>exact fw x
 | dct x=>exact ox x
 | dcH x=>exact Qp.mpr ⟨fw _,fw _⟩
 | exc c=>exact Qx rfl
noncomputable def wb:MH->MH->Bool
 | [],[]=>true
 | a::r,b::s=>EH a b&&wb r s
 | _,_=>false
theorem Au:∀{a b:MH},wb a b=true->a=b
 | [],b,h=>by cases b <;> first | rfl | simp[wb] at h
 | x::r,b,h=>by
  cases b with
  | nil=>simp[wb] at h
  | cons y s=>simp[wb] at h;rw[As h.1,Au h.2]
noncomputable def cA:SM:=λδ h=>some (.nx,δ,h)
noncomputable def qO:SM:=λ_ _=>none
noncomputable def aq(a b:SM):SM:=λδ h=>(a δ h).bind λr=>match r.1 with
 | .nx=>b r.2.1 r.2.2
 | _=>some r
noncomputable def aQ(i:Nat)(e:EM):SM:=λδ h=>(e δ h).bind λp=>some (.nx,δ.set i (some p.1),p.2)
noncomputable def fN(e:EM)(g:GM):SM:=λδ h=>(e δ h).bind λp=>(g p.1 δ p.2).bind λq=>some (.nx,q.1,q.2)
noncomputable def fT(e:EM):SM:=λδ h=>(e δ h).bind λp=>some (.nx,δ,p.2)
noncomputable def bu(e:EM):SM:=λδ h=>(e δ h).bind λp=>some (.rt p.1,δ,p.2)
noncomputable def gg(t:TM)(a b:SM):SM:=λδ h=>(t δ h).bind λp=>if p.1 then a δ p.2 else b δ p.2
noncomputable def gN(i:Nat):GM:=λd δ h=>some (δ.set i (some d),h)
abbrev Fc:=List D->DS->MH->Option (DS×MH)
noncomputable def bV:Fc:=λds δ h=>match ds with
 | []=>some (δ,h)
 | _=>none
noncomputable def au(g:GM)(u:Fc):Fc:=λds δ h=>match ds with
 | []=>none
 | d::r=>(g d δ h).bind λp=>u r p.1 p.2
noncomputable def gT(n:Nat)(u:Fc):GM:=λd δ h=>match d with
 | .tup xs=>if xs.length=n then u xs δ h else none
 | _=>none
abbrev W:=List (Nat×MO)
abbrev IM:=DS->MH->Option (List D×W×MH)
noncomputable def mV:W->MH->Bool
 | [],_=>true
 |(n,o)::r,h=>(match h[n]? with | some u=>EH u o | none=>false)&&mV r h
noncomputable def mM(ws:W)(g:GM)(b:SM):List D->SM
 | [],δ,h=>if mV ws h then some (.nx,δ,h) else none
 | x::r,δ,h=>if mV ws h then(g x δ h).bind λq=>(b q.1 q.2).bind λz=>match z.1 with
  | .nx=>mM ws g b r z.2.1 z.2.2
  | .ct=>mM ws g b r z.2.1 z.2.2
  | .bk=>some (.nx,z.2.1,z.2.2)
  | .rt d=>some (.rt d,z.2.1,z.2.2)
  else none
noncomputable def ip(i:IM)(g:GM)(b:SM):SM:=λδ h=>(i δ h).bind λp=>mM p.2.1 g b p.1 δ p.2.2
section
variable {X:Cx} {a b c e tg iter:Expr} {es:List Expr} {st:Stmt} {sts rest:List Stmt} {pos:Pos} {ma mb:EM} {mt:TM} {ms mu:SM} {m:AM} {g:GM} {gs:Fc}
theorem bP:Ay X [] cA:=FV.imp λE σ H ⟨ρ,δ,h,fl,δ',h',R,S,e,k⟩=>by
 cases e;exact k ρ H (.refl _ _) S σ R
theorem qy:SS X st qO:=Dg.imp λE σ H ⟨ρ,δ,h,fl,δ',h',R,S,e,k⟩=>by cases e
theorem IG(hh:E6 X.K (aq ms mu) E σ H):Lu (E6 X.K ms) (E6 X.K mu) E σ H:=by
 obtain⟨ρ,δ,h,fl,δ',h',R,S,e,k⟩:=hh;obtain⟨⟨f1,δ1,h1⟩,e1,e2⟩:=bA e;cases f1 with
 | nx=>exact⟨ρ,δ,h,.nx,δ1,h1,R,S,e1,λρ1 H1 T1 S1 σ' R'=>⟨ρ1,δ1,h1,fl,δ',h',R',S1,e2,λρ2 H2 T2 S2=>k ρ2 H2 (T1.trans T2) S2⟩⟩
 | bk=>cases e2;exact⟨ρ,δ,h,.bk,_,_,R,S,e1,λρ1 H1 T1 S1=>k ρ1 H1 T1 S1⟩
 | ct=>cases e2;exact⟨ρ,δ,h,.ct,_,_,R,S,e1,λρ1 H1 T1 S1=>k ρ1 H1 T1 S1⟩
 | rt d=>cases e2;exact⟨ρ,δ,h,.rt d,_,_,R,S,e1,λρ1 H1 T1 S1=>k ρ1 H1 T1 S1⟩
theorem ae(h1:SS X st ms)(h2:Ay X rest mu):Ay X (st::rest) (aq ms mu):=(xg h1 h2).imp λ_ _ _=>IG
theorem aH(h1:SS X st ms):Ay X [st] ms:=FU h1
theorem CP(hh:E6 X.K (aQ i ma) E σ H):Fo (tM X.K ma) (xG i) E σ H:=by
 obtain⟨ρ,δ,h,fl,δ',h',R,S,e,k⟩:=hh;obtain⟨⟨x,h1⟩,e1,e2⟩:=bA e;cases e2;exact⟨ρ,δ,h,x,h1,R,S,e1,λv H1 ⟨ρ1,T1,S1,r1⟩=>k ρ1 H1 T1 S1 _ ((R.mono T1).set r1 i)⟩
theorem Ij(hN:X.N.Nodup)(hi:X.N[i]?=some x)(hx:Loc X.env.scope x)(he:SE X e ma)(hs:swapsWith e (some (.Name x pos')) pos.line X.env=pure false:=by ac_nf)(hf:X.fn x=true\/X.env.scope.names.lookup x=some .local:=by first | exact .inl rfl | exact .inr rfl | assumption):SS X (.Assign [.Name x pos'] e pos) (aQ i ma):=(yI hN hi hx he hs hf).imp λ_ _ _=>CP
theorem Fu(hN:X.N.Nodup)(hi:X.N[i]?=some x)(hx:Loc X.env.scope x)(hf:X.fn x=true\/X.env.scope.names.lookup x=some .local:=by first | exact .inl rfl | exact .inr rfl | assumption):SG X (.Name x pos) (gN i):=
 (F6 hN hi hx hf).imp λv σ H Q ⟨ρ,δ,h,d,δ',h',R,S,r,e,k⟩=>by
  cases e;exact k ρ H _ (.refl _ _) S (R.set r i)
inductive HB(K:FR)(m:Fc)(vs:List V)(σ:L2.St)(H:Hp)(Q:L2.St->Hp->Prop):Prop where
 | mk (ρ δ h ds δ' h'):cJ K ρ H σ δ->bL K ρ h H->aC K ρ H vs ds->(m ds δ h=some (δ',h'))->(∀ρ' H' σ',cY ρ H ρ' H'->bL K ρ' h' H'->cJ K ρ' H' σ' δ'->Q σ' H')->HB K m vs σ H Q
noncomputable def NR(K:FR)(m:Fc):KY:=λvs σ H Q=>HB K m vs σ H Q
def NB(X:Cx)(es:List Expr)(m:Fc):Prop:=HG X es (NR X.K m)
theorem _root_.L2.HG.imp{X:Cx}{e:List Expr}{t t':KY}(h:HG X e t)(i:∀v σ H Q,t' v σ H Q->t v σ H Q):HG X e t':=λpins s σ H v u Q I r q=>h pins s σ H v u Q I r (i v σ H Q q)
theorem iR:NB X [] bV:=F5.imp λv σ H Q ⟨ρ,δ,h,d,δ',h',R,S,r,e,k⟩=>by
 cases r with
 | nil=>cases e;exact⟨rfl,k ρ H σ (.refl _ _) S R⟩
 | cons _ _=>cases e
theorem bR(h1:SG X e g)(h2:NB X es gs)(hs:(assignEach (e::es) X.env).map (·.2)=assign e X.env::(assignEach es X.env).map (·.2):=by ac_nf):NB X (e::es) (au g gs):=(Dn h1 h2 hs).imp λv σ H Q ⟨ρ,δ,h,d,δ',h',R,S,r,e,k⟩=>by
 cases r with
 | nil=>cases e
 | cons r rs=>
  obtain⟨⟨δ1,h1⟩,e1,e2⟩:=bA e;exact⟨_,_,rfl,ρ,δ,h,_,δ1,h1,R,S,r,e1,λρ1 H1 σ1 T1 S1 R1=>⟨ρ1,δ1,h1,_,δ',h',R1,S1,rs.mono T1,e2,λρ2 H2 σ2 T2 S2 R2=>k ρ2 H2 σ2 (T1.trans T2) S2 R2⟩⟩
theorem kO(hc:X.calm=true)(h:NB X es gs)(hn:(assignEach es X.env).length=n:=by ac_nf)(hst:(assignEach es X.env).findIdx? (·.1)=none:=by ac_nf):SG X (.Tuple es k0 pos) (gT n gs):=
 (Ja hc h hn hst).imp λv σ H Q ⟨ρ,δ,h,d,δ',h',R,S,r,e,k⟩=>by
  cases r <;> first |(exact absurd e (by intro z;cases z)) | skip
  rename_i a vs ds ht l _;unfold gT at e;dsimp only at e
  by_cases z:ds.length=n
  ·rw[P0 z] at e;exact⟨a,vs,rfl,ht.sq,by rw[l.length];exact z,ρ,δ,h,ds,δ',h',R,S,l,e,k⟩
  ·rw[P7 z] at e;cases e
theorem eI(he:SE X e ma)(hg:SG X tg g)(hs:swapsWithSole [tg] e pos.line X.env=pure false:=by ac_nf)(hw:swappedStores [tg] e X.env=pure none:=by ac_nf)
  (h1:(assignEach [tg] X.env).map (·.2)=[assign tg X.env]:=by ac_nf):SS X (.Assign [tg] e pos) (fN ma g):=(Dj he hg hs hw h1).imp λE σ H ⟨ρ,δ,h,fl,δ',h',R,S,e,k⟩=>by
 obtain⟨⟨x,h1⟩,e1,e2⟩:=bA e;obtain⟨⟨δ2,h2⟩,e4,e3⟩:=bA e2;cases e3;exact⟨ρ,δ,h,x,h1,R,S,e1,λv H1 ⟨ρ1,T1,S1,r1⟩=>⟨ρ1,δ,h1,x,_,_,R.mono T1,S1,r1,e4,λρ2 H2 σ2 T2 S2 R2=>k ρ2 H2 (T1.trans T2) S2 σ2 R2⟩⟩
theorem jT(he:SE X e ma)(hs:swapsWith e none pos.line X.env=pure false:=by ac_nf):SS X (.Expr e pos) (fT ma):=(FX he hs).imp λE σ H ⟨ρ,δ,h,fl,δ',h',R,S,e,k⟩=>by
 obtain⟨⟨x,h1⟩,e1,e2⟩:=bA e;cases e2;exact⟨ρ,δ,h,x,h1,R,S,e1,λv H1 ⟨ρ1,T1,S1,r1⟩=>k ρ1 H1 T1 S1 σ (R.mono T1)⟩
theorem b9(he:SE X e ma):SS X (.Return (some e) pos) (bu ma):=(I0 he).imp λE σ H ⟨ρ,δ,h,fl,δ',h',R,S,e,k⟩=>by
 obtain⟨⟨x,h1⟩,e1,e2⟩:=bA e;cases e2;exact⟨ρ,δ,h,x,h1,R,S,e1,λv H1 ⟨ρ1,T1,S1,r1⟩=>k ρ1 H1 T1 S1 v r1⟩
theorem cm(hc:ST X c mt)(ha:Ay X sa ms)(hb:Ay X sb mu):SS X (.If c sa sb pos) (gg mt ms mu):=(Hg hc ha hb).imp λE σ H ⟨ρ,δ,h,fl,δ',h',R,S,e,k⟩=>by
 obtain⟨⟨x,h1⟩,e1,e2⟩:=bA e;refine⟨ρ,δ,h,x,h1,R,S,e1,λρ1 H1 T1 S1=>?_⟩;cases x with
 | true=>rw[P0 rfl] at e2 ⊢;exact⟨ρ1,δ,h1,fl,δ',h',R.mono T1,S1,e2,λρ2 H2 T2 S2=>k ρ2 H2 (T1.trans T2) S2⟩
 | false=>rw[P7 (by simp)] at e2 ⊢;exact⟨ρ1,δ,h1,fl,δ',h',R.mono T1,S1,e2,λρ2 H2 T2 S2=>k ρ2 H2 (T1.trans T2) S2⟩
structure Ni(K:FR)(J:It)(ρ:Ad)(H:Hp)(ws:W)(xs:List D):Prop where
 run:∀ρ1 H1 h1,Ch ρ H ρ1 H1->bL K ρ1 h1 H1->mV ws h1=true->∀i:Nat,(xs.length<=i->J.stop i H1)/\∀x,xs[i]?=some x->J.go i H1/\∀v H2,J.HH i H1 v H2->cY ρ1 H1 ρ1 H2/\bL K ρ1 h1 H2/\Rep K ρ1 H2 v x
inductive M8(K:FR)(m:IM)(σ:L2.St)(H:Hp)(R:It->Hp->Prop):Prop where
 | mk (ρ δ h xs ws h'):cJ K ρ H σ δ->bL K ρ h H->(m δ h=some (xs,ws,h'))->(∀J ρ1 H1,cY ρ H ρ1 H1->bL K ρ1 h' H1->Ni K J ρ1 H1 ws xs->R J H1)->M8 K m σ H R
def Nu(K:FR)(m:IM):TI:=λσ H R=>M8 K m σ H R
def SI(X:Cx)(tg iter:Expr)(m:IM):Prop:=PI X tg iter (Nu X.K m)
theorem _root_.L2.PI.imp(h:PI X tg e t)(i:∀σ H Q,t' σ H Q->t σ H Q):PI X tg e t':=λpins s σ H R I q=>h pins s σ H R I (i σ H R q)
theorem IH(hh:E6 X.K (ip mi g ms) E σ H):Ig (Nu X.K mi) (K7 X.K g) (E6 X.K ms) E σ H:=by
 obtain⟨ρ,δ,h,fl,δ',h',R,S,e,k⟩:=hh;obtain⟨⟨xs,ws,h1⟩,e1,e2⟩:=bA e;refine⟨ρ,δ,h,xs,ws,h1,R,S,e1,λJ ρ1 H1 T1 S1 It=>?_⟩;refine⟨λi m σ2 H2=>∃ρ2 δ2 h2,m=xs.length-i/\i<=xs.length/\cY ρ1 H1 ρ2 H2/\cJ X.K ρ2 H2 σ2 δ2/\bL X.K ρ2 h2 H2/\mM ws g ms (xs.drop i) δ2 h2=some (fl,δ',h'),⟨_,ρ1,δ,h1,rfl,RJ _,.refl _ _,R.mono T1,S1,e2⟩,?_⟩;rintro i m σ2 H2 ⟨ρ2,δ2,h2,rfl,hi,T2,R2,S2,e3⟩;cases q:xs.drop i with
 | nil=>
  rw[q] at e3;unfold mM at e3
  by_cases hc:mV ws h2=true
  ·rw[P0 hc] at e3;cases e3;have hl:xs.length<=i:=by have:=congrArg List.length q;rw[RH,Rz] at this;lia
   exact .inl ⟨(It.run ρ2 H2 _ T2 S2 hc i).1 hl,k ρ2 H2 (T1.trans T2) S2 σ2 R2⟩
  ·rw[P7 hc] at e3;cases e3
 | cons x r=>
  rw[q] at e3;unfold mM at e3
  by_cases hc:mV ws h2=true
  ·rw[P0 hc] at e3;have hx:xs[i]?=some x:=by
    have:=congrArg (λl=>l[0]?) q
    simpa using this
   have hlt:i < xs.length:=(PV.mp hx).1;have hr:xs.drop (i+1)=r:=by
    have:=congrArg List.tail q
    simpa using this
   obtain⟨⟨δ3,h3⟩,e4,e5⟩:=bA e3;obtain⟨⟨f4,δ4,h4⟩,e6,e7⟩:=bA e5;obtain⟨hgo,hy⟩:=(It.run ρ2 H2 h2 T2 S2 hc i).2 x hx;have NN:∀ρ5 H5 σ5,cY ρ2 H2 ρ5 H5->bL X.K ρ5 h4 H5->cJ X.K ρ5 H5 σ5 δ4->mM ws g ms r δ4 h4=some (fl,δ',h')->
     ∃m',m' < xs.length-i/\(∃ρ2 δ2 h2,m'=xs.length-(i+1)/\i+1<=xs.length/\cY ρ1 H1 ρ2 H5/\cJ X.K ρ2 H5 σ5 δ2/\bL X.K ρ2 h2 H5/\mM ws g ms (xs.drop (i+1)) δ2 h2=some (fl,δ',h')):=
    λρ5 H5 σ5 T5 S5 R5 e8=>⟨xs.length-(i+1),by lia,ρ5,δ4,h4,rfl,hlt,T2.trans T5,R5,S5,by rw[hr];exact e8⟩
   refine .inr ⟨hgo,λσ5 H5=>∃ρ5,cY ρ2 H2 ρ5 H5/\bL X.K ρ5 h4 H5/\cJ X.K ρ5 H5 σ5 δ4/\mM ws g ms r δ4 h4=some (fl,δ',h'),λσ5 H5 ⟨ρ5,T5,S5,R5,e8⟩=>NN ρ5 H5 σ5 T5 S5 R5 e8,λv H3 y3=>?_⟩;obtain⟨T3,S3,r3⟩:=hy v H3 y3;refine⟨ρ2,δ2,h2,x,δ3,h3,R2.mono T3,S3,r3,e4,λρ4 H4 σ4 T4 S4 R4=>?_⟩;refine⟨ρ4,δ3,h3,f4,δ4,h4,R4,S4,e6,λρ5 H5 T5 S5=>?_⟩;have T25:cY ρ2 H2 ρ5 H5:=T3.trans (T4.trans T5);cases f4 with
   | nx=>exactλσ' R'=>⟨ρ5,T25,S5,R',e7⟩
   | ct=>exactλσ' R'=>⟨ρ5,T25,S5,R',e7⟩
   | bk=>cases e7;exactλσ' R'=>k ρ5 H5 (T1.trans (T2.trans T25)) S5 σ' R'
   | rt d=>cases e7;exactλv r=>k ρ5 H5 (T1.trans (T2.trans T25)) S5 v r
  ·rw[P7 hc] at e3;cases e3
theorem cS(hp:PassesOwn (model X.prog X.w) X.A X.env X.xe)(hc:X.calm=true)(hi:SI X tg iter mi)(hg:SG X tg g)(hb:Ay X body ms)(hs:∀x,foldedSetIterable iter X.env x=pure x:=by intro _;ac_nf):SS X (.For tg iter body [] pos) (ip mi g ms):=
 (Di hp hc hi hg hb hs).imp λ_ _ _=>IH
end
end Sm
namespace L2
open PySem PySem.Spec PyProof.Rows
theorem I9(hl:PE X l tl):PI X tg l (λσ H R=>tl σ H λx H1=>∃a,x=.ref a/\(((∃xs,ia X.K H1 a xs)/\R (OZ X.K a) H1)\/((∃xs,ko X.K H1 a xs)/\R (OY X.K a) H1))):=by
 intro pins s σ H R I h;refine dh (hl pins s σ H _ I h) λv s1 ⟨x,H1,I1,r1,q1⟩=>?_;obtain⟨a,e,q1⟩:=q1;subst e;cases r1;rcases q1 with⟨⟨xs,hq⟩,q⟩ |⟨⟨xs,hq⟩,q⟩
 ·obtain⟨its,rv,p,hz⟩:=I1.list hq;refine wpAny_pyIter_list p.isList ?_;refine⟨s1.heap.objs.size,[s1.heap.objs.size],_,_,H1,rfl,I1.kept (t':=s1.toks) λb o e=>P9 _ e,AG a _,⟨_,Qt _ rfl,rfl,rfl⟩,λb hb=>?_,q⟩;have e:b=s1.heap.objs.size:=by simpa using hb
  subst e;exact I1.D0 (PZ _) (I1.ba.fresh (PZ _))
 ·obtain⟨its,rv,p,hz⟩:=I1.tuple hq;refine Tc (show s1.heap.IsTuple a its.toArray from p) ?_;refine⟨s1.heap.objs.size,[s1.heap.objs.size],_,_,H1,rfl,I1.kept (t':=s1.toks) λb o e=>P9 _ e,ym a _,⟨_,Qt _ rfl,rfl,rfl⟩,λb hb=>?_,q⟩;have e:b=s1.heap.objs.size:=by simpa using hb
  subst e;exact I1.D0 (PZ _) (I1.ba.fresh (PZ _))
end L2
namespace Sm
open PySem L2
noncomputable def dH(d:D)(h:MH):Option (List D×W):=match d with
 | .lv xs=>some (xs,[])
 | .ro xs=>some (xs,[])
 | .tup xs=>some (xs,[])
 | .ob n=>match h[n]? with
  | some (.lst xs)=>some (xs,[(n,.lst xs)])
  | _=>none
 | _=>none
noncomputable def dI(e:EM):IM:=λδ h=>(e δ h).bind λp=>(dH p.1 p.2).map λq=>(q.1,q.2,p.2)
noncomputable def n6(m:AM):IM:=λδ h=>(m δ h).bind λp=>match p.1 with
 | [.int j]=>if -(2^62)<=j/\j < 2^62 then some ((List.range j.toNat).map λ(k:Nat)=>D.int (k:Int),[],p.2) else none
 | [.int i,.int j]=>if -(2^62)<=i/\i < 2^62/\-(2^62)<=j/\j < 2^62 then some ((List.range (j-i).toNat).map λ(k:Nat)=>D.int (i+(k:Int)),[],p.2) else none
 | _=>none
theorem yW(hl:∀ρ1 H1 h1,Ch ρ H ρ1 H1->bL K ρ1 h1 H1->mV ws h1=true->∃vs,aC K ρ1 H1 vs xs/\(∀i:Nat,vs.length<=i->J.stop i H1)/\∀(i:Nat) v,vs[i]?=some v->J.go i H1/\∀u H2,J.HH i H1 u H2->H2=H1/\u=v):Ni K J ρ H ws xs:=by
 refine⟨λρ1 H1 h1 T S hc i=>?_⟩;obtain⟨vs,l,s1,s2⟩:=hl ρ1 H1 h1 T S hc;refine⟨λhi=>s1 i (by rw[l.length];exact hi),λx hx=>?_⟩;obtain⟨v,hv,r⟩:=l.got hx;obtain⟨g,y⟩:=s2 i v hv;refine⟨g,λu H2 yy=>?_⟩;obtain⟨rfl,rfl⟩:=y u H2 yy;exact⟨.refl _ _,S,r⟩
theorem JV(hl:∀ρ1 H1 h1,Ch ρ H ρ1 H1->bL K ρ1 h1 H1->mV ws h1=true->∃vs,aC K ρ1 H1 vs xs/\ia K H1 a vs):Ni K (OZ K a) ρ H ws xs:=
 yW λρ1 H1 h1 T S hc=>by
  obtain⟨vs,l,q⟩:=hl ρ1 H1 h1 T S hc;refine⟨vs,l,λi hi=>⟨vs,q,hi⟩,λi v hv=>⟨⟨vs,v,q,hv⟩,λu H2 ⟨e,y⟩=>⟨e,?_⟩⟩⟩;have:=y vs q;rw[hv] at this;exact(Option.some.inj this).symm
theorem JT(hl:∀ρ1 H1 h1,Ch ρ H ρ1 H1->bL K ρ1 h1 H1->mV ws h1=true->∃vs,aC K ρ1 H1 vs xs/\ko K H1 a vs):Ni K (OY K a) ρ H ws xs:=
 yW λρ1 H1 h1 T S hc=>by
  obtain⟨vs,l,q⟩:=hl ρ1 H1 h1 T S hc;refine⟨vs,l,λi hi=>⟨vs,q,hi⟩,λi v hv=>⟨⟨vs,v,q,hv⟩,λu H2 ⟨e,y⟩=>⟨e,?_⟩⟩⟩;have:=y vs q;rw[hv] at this;exact(Option.some.inj this).symm
theorem GO(hc:mV [(n,o)] h=true):h[n]?=some o:=by
 unfold mV at hc;cases q:h[n]? with
 | none=>rw[q] at hc;cases hc
 | some u=>
  rw[q] at hc;simp[mV] at hc;rw[As hc]
inductive SeqAt(K:FR)(H:Hp)(a:Addr)(vs:List V):Bool->Prop where
 | l:ia K H a vs->SeqAt K H a vs true
 | t:ko K H a vs->SeqAt K H a vs false
noncomputable def yY:D->Bool
 | .tup _=>false
 | _=>true
theorem qF(S:bL K ρ h H)(r:Rep K ρ H v d)(e:dH d h=some (xs,ws)):∃a,v=.ref a/\(∃vs,SeqAt K H a vs (yY d)/\aC K ρ H vs xs)/\
  ∀ρ1 H1 h1,Ch ρ H ρ1 H1->bL K ρ1 h1 H1->mV ws h1=true->∃vs,aC K ρ1 H1 vs xs/\SeqAt K H1 a vs (yY d):=by
 cases r with
 | tup ht l=>
  cases e;refine⟨_,rfl,⟨_,.t ht.sq,l⟩,λρ1 H1 h1 T S1 _=>?_⟩;cases(Rep.tup ht l).mono T with
  | tup h1 l1=>exact⟨_,l1,.t h1.sq⟩
 | lv ht n l=>
  cases e;refine⟨_,rfl,⟨_,.l (ia.of ht),l⟩,λρ1 H1 h1 T S1 _=>?_⟩;cases(Rep.lv ht n l).mono T with
  | lv h1 _ l1=>exact⟨_,l1,.l (ia.of h1)⟩
 | ro ht l=>
  cases e;refine⟨_,rfl,⟨_,.l ht.sq,l⟩,λρ1 H1 h1 T S1 _=>?_⟩;cases(Rep.ro ht l).mono T with
  | ro h1 l1=>exact⟨_,l1,.l h1.sq⟩
 | @ob a n hn=>
  unfold dH at e;dsimp only at e;cases q:h[n]? with
  | none=>rw[q] at e;cases e
  | some o=>
   rw[q] at e;cases o with
   | dct _=>exact bN e
   | dcH _=>exact bN e
   | exc _=>exact bN e
   | lst ys=>
    cases e;obtain⟨vs,e1,l⟩:=S.at_ n a _ hn q;refine⟨a,rfl,⟨vs,.l (ia.of e1),l⟩,λρ1 H1 h1 T S1 hc=>?_⟩;obtain⟨us,e2,l2⟩:=S1.at_ n a _ (T.pre n a hn) (GO hc);exact⟨us,l2,.l (ia.of e2)⟩
 | cw=>exact bN e
 | bl b=>exact bN e
 | int i=>exact bN e
 | str x=>exact bN e
 | ty x=>exact bN e
 | dv _ _ _=>exact bN e
section
variable {X:Cx} {a b c e tg iter:Expr} {es:List Expr} {pos:Pos} {ma mb:EM} {mt:TM} {ms mu:SM} {m:AM} {g:GM} {gs:Fc}
theorem eP(h:SE X e ma):SI X tg e (dI ma):=(I9 h).imp λσ H Q ⟨ρ,δ,h,xs,ws,h',R,S,e,k⟩=>by
 obtain⟨⟨x,h1⟩,e1,e2⟩:=bA e;obtain⟨⟨ys,w⟩,e3,e4⟩:=hW e2;cases e4;refine⟨ρ,δ,h,x,h1,R,S,e1,λv H1 ⟨ρ1,T1,S1,r1⟩=>?_⟩;obtain⟨a,rfl,⟨vs,q,l⟩,st⟩:=qF S1 r1 e3;refine⟨a,rfl,?_⟩;generalize yY x=b at q st;cases q with
 | l q=>exact .inl ⟨⟨vs,q⟩,k _ ρ1 H1 T1 S1 (JV λρ2 H2 h2 T2 S2 hc=>by obtain⟨us,l2,q2⟩:=st ρ2 H2 h2 T2 S2 hc;cases q2 with | l q2=>exact⟨us,l2,q2⟩)⟩
 | t q=>exact .inr ⟨⟨vs,q⟩,k _ ρ1 H1 T1 S1 (JT λρ2 H2 h2 T2 S2 hc=>by obtain⟨us,l2,q2⟩:=st ρ2 H2 h2 T2 S2 hc;cases q2 with | t q2=>exact⟨us,l2,q2⟩)⟩
theorem nI:∀(ns:List Int),aC K ρ H (ns.map V.int) (ns.map D.int)
 | []=>.nil
 | _::r=>.cons (.int _) (nI r)
theorem JU(lo:Int)(n:Nat):Ni K (NC lo n) ρ H [] ((List.range n).map λ(k:Nat)=>D.int (lo+(k:Int))):=by
 refine yW λρ1 H1 h1 T S hc=>⟨(List.range n).map λ(k:Nat)=>V.int (lo+(k:Int)),?_,λi hi=>?_,λi v hv=>?_⟩
 ·have:=nI (K:=K) (ρ:=ρ1) (H:=H1) ((List.range n).map λ(k:Nat)=>lo+(k:Int));rw[Q9,Q9] at this;exact this
 ·rw[PU,Qy] at hi;exact hi
 ·rw[Qg] at hv;obtain⟨j,e1,e2⟩:=hW hv;obtain⟨hlt,e3⟩:=PV.mp e1;rw[Qy] at hlt;rw[List.getElem_range] at e3;subst e3;subst e2;exact⟨hlt,λu H2 ⟨p,q⟩=>⟨p,q⟩⟩
theorem AV(l:aC K ρ H vs [.int j]):vs=[.int j]:=by
 cases l with
 | cons r l=>cases l;cases r;rfl
theorem cC(hg:Gl X "range")(hm:X.mg "range"=none)(ha:SA X [a] m)(hs:starEach [a] X.env=[(false,eval a X.env)]:=by ac_nf)(hl:lE m 1):SI X tg (.Call (.Name "range" p) [a] [] pos) (n6 m):=
 (AY hg hm ha hs).imp λσ H Q zz=>by
  obtain⟨ρ,δ,h,xs,ws,h',R,S,e,k⟩:=zz;obtain⟨⟨x,h1⟩,e1,e2⟩:=bA e;refine⟨ρ,δ,h,x,h1,R,S,e1,λvs ρ1 H1 T1 S1 r1=>?_⟩;obtain⟨d,rfl⟩:=RM.mp (hl _ _ _ _ e1);cases d <;> first | exact absurd e2 (by intro z;cases z) | skip
  rename_i j;dsimp only at e2
  by_cases z:-(2^62)<=j/\j < 2^62
  ·rw[P0 z] at e2;cases e2;refine⟨j,AV r1,z.1,z.2,k _ ρ1 H1 T1 S1 ?_⟩;have:=JU (K:=X.K) (ρ:=ρ1) (H:=H1) 0 j.toNat
   simpa using this
  ·rw[P7 z] at e2;cases e2
noncomputable def gP(caps:List (Option Nat))(δ:DS):DS:=caps.map λo=>o.bind λi=>(δ[i]?).join
noncomputable def ej:TM:=λ_ h=>some (true,h)
noncomputable def bC(ws:W)(g:GM)(c:TM)(e:EM):List D->DS->MH->Option (List D×MH)
 | [],_,h=>if mV ws h then some ([],h) else none
 | x::r,δ,h=>if mV ws h then(g x δ h).bind λq=>(c q.1 q.2).bind λt=>if t.1 then(e q.1 t.2).bind λy=>(bC ws g c e r q.1 y.2).map λz=>(y.1::z.1,z.2) else bC ws g c e r q.1 t.2 else none
noncomputable def bW(caps:List (Option Nat))(i:IM)(g:GM)(c:TM)(e:EM):AM:=λδ h=>(i δ h).bind λp=>(bC p.2.1 g c e p.1 (gP caps δ) p.2.2).bind λq=>if q.1.length<=sizeLine then some q else none
theorem cJ.mW(R:cJ K ρ H σ δ)(caps:List (Option Nat)):cJ K ρ H (mW caps σ) (gP caps δ):=by
 refine⟨by simp[L2.mW,gP],λi d hd=>?_⟩;unfold gP at hd;rw[Qg] at hd;obtain⟨o,e1,e2⟩:=hW hd;cases o with
 | none=>exact bN e2
 | some j=>
  have e3:δ[j]?=some (some d):=Uv.mp e2;obtain⟨v,ev,r⟩:=R.at_ j d e3;refine⟨v,?_,r⟩;unfold L2.mW;rw[Qg,e1];simp[ev]
def NA(X:Cx)(ifs:List Expr)(m:TM):Prop:=K4 X ifs (Ie X.K m)
theorem eO:NA X [] ej:=λpins s σ H Q I hh=>by
 obtain⟨ρ,δ,h,b,h',R,S,e,k⟩:=hh;cases e;exact F3 pins s σ H Q I (k ρ H (.refl _ _) S)
theorem iQ(h:ST X c mt):NA X [c] mt:=F2 h
theorem zL(hh:tM X.K (fX (bW caps mi g mt ma)) σ H Q):Cq caps (Nu X.K mi) (K7 X.K g) (Ie X.K mt) (tM X.K ma) σ H Q:=by
 obtain⟨ρ,δ,h,d,h',R,S,ee,k⟩:=hh;obtain⟨⟨out,h0⟩,ea,e0⟩:=hW ee;cases e0;obtain⟨⟨xs,ws,h1⟩,e1,eb⟩:=bA ea;obtain⟨⟨ys,h2⟩,e2,e3⟩:=bA eb;dsimp only at e2 e3
 by_cases hz:ys.length<=sizeLine
 ·rw[P0 hz] at e3;cases e3;refine⟨ρ,δ,h,xs,ws,h1,R,S,e1,λJ ρ1 H1 T1 S1 It l hl=>?_⟩;have nl:¬ρ1.has l:=S1.fresh hl;have Tl:Ch ρ1 H1 (ρ1.keep l) (upd H1 l (.lst [])):=Ch.keep hl;refine⟨λi m τ2 H2=>∃(ob2:List Addr)(δ2:DS)(h2:MH)(vs:List V)(as bs:List D),m=xs.length-i/\i<=xs.length/\Ch ρ1 H1 ⟨ob2,l::ρ1.rs⟩ H2/\(∀b∈ρ1.rs,H2 b=H1 b)/\cJ X.K ⟨ob2,l::ρ1.rs⟩ H2 τ2 δ2/\bL X.K ⟨ob2,l::ρ1.rs⟩ h2 H2/\
    H2 l=some (.lst vs)/\aC X.K ⟨ob2,l::ρ1.rs⟩ H2 vs as/\out=as++bs/\bC ws g mt ma (xs.drop i) δ2 h2=some (bs,h0),
   ⟨_,ρ1.ob,gP caps δ,h1,[],[],out,rfl,RJ _,Tl,λb hb=>av λz=>nl (.inr (z ▸ hb)),((R.mono T1).mW caps).mono Tl,S1.keep hl,aO,.nil,rfl,e2⟩,?_⟩
  rintro i m τ2 H2 ⟨ob2,δ2,h2,vs,as,bs,rfl,hi,T2,rs2,R2,S2,hl2,l2,eo,e3⟩;have hsub:∀b∈ρ1.rs,b∈l::ρ1.rs:=λb hb=>P4 _ hb;have C2:Ch ⟨ob2,l::ρ1.rs⟩ H2 ⟨ob2,ρ1.rs⟩ H2:=Ch.free hsub;have T2':cY ρ1 H1 ⟨ob2,ρ1.rs⟩ H2:=⟨T2.trans C2,rfl,rs2⟩;have S2':bL X.K ⟨ob2,ρ1.rs⟩ h2 H2:=S2.free hsub;cases q:xs.drop i with
  | nil=>
   rw[q] at e3;unfold bC at e3
   by_cases hc:mV ws h2=true
   ·rw[P0 hc] at e3;cases e3;rw[QS] at eo;subst eo;have hle:xs.length<=i:=by have:=congrArg List.length q;rw[RH,Rz] at this;lia
    refine .inl ⟨(It.run _ H2 _ T2 S2 hc i).1 hle,k _ _ ⟨_,T1.trans T2',S2',.lv hl2 (λz=>?_) (l2.mono C2)⟩⟩;rcases z with z | z
    ·exact(S2.sM l P1).2 z
    ·exact nl (.inr z)
   ·rw[P7 hc] at e3;cases e3
  | cons x r=>
   rw[q] at e3;unfold bC at e3
   by_cases hc:mV ws h2=true
   ·rw[P0 hc] at e3;have hx:xs[i]?=some x:=by
     have:=congrArg (λl=>l[0]?) q
     simpa using this
    have hlt:i < xs.length:=(PV.mp hx).1;have hr:xs.drop (i+1)=r:=by
     have:=congrArg List.tail q
     simpa using this
    obtain⟨⟨δ3,h3⟩,e4,e5⟩:=bA e3;obtain⟨⟨t,h4⟩,e6,e7⟩:=bA e5;dsimp only at e4 e5 e6 e7;obtain⟨hgo,hy⟩:=(It.run _ H2 h2 T2 S2 hc i).2 x hx;refine .inr ⟨hgo,λτ5 H5=>∃(ob5:List Addr)(h5:MH)(vs:List V)(as bs:List D),Ch ρ1 H1 ⟨ob5,l::ρ1.rs⟩ H5/\(∀b∈ρ1.rs,H5 b=H1 b)/\cJ X.K ⟨ob5,l::ρ1.rs⟩ H5 τ5 δ3/\bL X.K ⟨ob5,l::ρ1.rs⟩ h5 H5/\
     H5 l=some (.lst vs)/\aC X.K ⟨ob5,l::ρ1.rs⟩ H5 vs as/\out=as++bs/\bC ws g mt ma r δ3 h5=some (bs,h0),?_,?_⟩
    ·rintro τ5 H5 ⟨ob5,h5,vs5,as5,bs5,T5,rs5,R5,S5,hl5,l5,eo5,e5⟩;exact⟨xs.length-(i+1),by lia,ob5,δ3,h5,vs5,as5,bs5,rfl,hlt,T5,rs5,R5,S5,hl5,l5,eo5,by rw[hr];exact e5⟩
    ·intro v H3 y3;obtain⟨T3,S3,r3⟩:=hy v H3 y3;refine⟨⟨ob2,l::ρ1.rs⟩,δ2,h2,x,δ3,h3,R2.mono T3,S3,r3,e4,λρ4 H4 τ4 T4 S4 R4=>?_⟩;refine⟨ρ4,δ3,h3,t,h4,R4,S4,e6,λρ5 H5 T5 S5=>?_⟩;have T25:cY ⟨ob2,l::ρ1.rs⟩ H2 ρ5 H5:=T3.trans (T4.trans T5);obtain⟨ob5,rs5⟩:=ρ5;have ers:rs5=l::ρ1.rs:=T25.rs;subst ers;cases t with
     | false=>
      rw[P7 (by simp)] at e7;refine Mr ?_;exact⟨ob5,h4,vs,as,bs,T2.trans T25.toCh,λb hb=>(T25.res b (hsub b hb)).trans (rs2 b hb),R4.mono T5,S5,(T25.res l P1).trans hl2,l2.mono T25.toCh,eo,e7⟩
     | true=>
      rw[P0 rfl] at e7;refine Mq ?_;obtain⟨⟨y,h6⟩,e8,e9⟩:=bA e7;obtain⟨⟨zs,h7⟩,e10,e11⟩:=hW e9;cases e11;refine⟨⟨ob5,l::ρ1.rs⟩,δ3,h4,y,h6,R4.mono T5,S5,e8,λu H6 ⟨ρ6,T6,S6,r6⟩=>?_⟩;have T26:cY ⟨ob2,l::ρ1.rs⟩ H2 ρ6 H6:=T25.trans T6;obtain⟨ob6,rs6⟩:=ρ6;have ers:rs6=l::ρ1.rs:=T26.rs;subst ers;have hl6:H6 l=some (.lst vs):=(T26.res l P1).trans hl2;have hml:l∈(⟨ob6,l::ρ1.rs⟩:Ad).rs:=P1;have hlen:vs.length < sizeLine:=by
       have h1:=l2.length;have h2:=congrArg List.length eo;rw[Qb,P2] at h2
       lia
      have Cp:Ch ⟨ob6,l::ρ1.rs⟩ H6 ⟨ob6,l::ρ1.rs⟩ (upd H6 l (.lst (vs++[u]))):=Ch.put hml;refine⟨vs,hl6,hlen,ob6,h6,vs++[u],as++[y],zs,(T2.trans T26.toCh).trans Cp,λb hb=>?_,((R4.mono T5.toCh).mono T6.toCh).mono Cp,S6.put hml,aO,((l2.mono T26.toCh).snoc r6).mono Cp,by rw[eo];simp,e10⟩;rw[av (λ(z:b=l)=>nl (.inr (z ▸ hb)))];exact(T26.res b (hsub b hb)).trans (rs2 b hb)
   ·rw[P7 hc] at e3;cases e3
 ·rw[P7 hz] at e3;cases e3
end
end Sm
namespace Sm
open PySem L2 PySem.Spec PyProof.Rows
section
variable {X:Cx} {a b c e tg iter elt:Expr} {es:List Expr} {pos:Pos} {ma mb:EM} {mt:TM} {ms mu:SM} {m:AM} {g:GM} {gs:Fc}
theorem dO(C:bG X N' caps scope)(hc:X.calm=true)(hi:SI X tg iter mi)(hg:∀C s₃ H₃ fp pl,SG (mY X N' scope C s₃ H₃ fp pl) tg g)(hif:∀C s₃ H₃ fp pl,NA (mY X N' scope C s₃ H₃ fp pl) ifs mt)(he:∀C s₃ H₃ fp pl,SE (mY X N' scope C s₃ H₃ fp pl) elt ma)(hs:∀x,foldedSetIterable iter X.env x=pure x:=by intro _;ac_nf):
  SE X (.ListComp elt [⟨tg,iter,ifs,0⟩] scope pos) (fX (bW caps mi g mt ma)):=(Dt (g:=K7 X.K g) (tc:=Ie X.K mt) (te:=tM X.K ma) C hc hi hg hif he hs).imp λ_ _ _=>zL
theorem jU(hN:X.N.Nodup)(hi':X.N[i]?=some y)(hy:X.env.scope.names.lookup y=some .local)(C:bG X N' caps scope)(hc:X.calm=true)(hi:SI X tg iter mi)(hg:∀C s₃ H₃ fp pl,SG (mY X N' scope C s₃ H₃ fp pl) tg g)(hif:∀C s₃ H₃ fp pl,NA (mY X N' scope C s₃ H₃ fp pl) ifs mt)(he:∀C s₃ H₃ fp pl,SE (mY X N' scope C s₃ H₃ fp pl) elt ma)(hsw:swapsWith (.ListComp elt [⟨tg,iter,ifs,0⟩] scope pos) (some (.Name y py)) spos.line X.env=pure true:=by ac_nf)(hs:∀x,foldedSetIterable iter X.env x=pure x:=by intro _;ac_nf):
  SS X (.Assign [.Name y py] (.ListComp elt [⟨tg,iter,ifs,0⟩] scope pos) spos) (aQ i (fX (bW caps mi g mt ma))):=
 (Dh (g:=K7 X.K g) (tc:=Ie X.K mt) (te:=tM X.K ma) hN hi' hy C hc hi hg hif he hsw hs).imp λE σ H hh=>by
  have q:=CP hh;exact zL q
end
inductive Nd(K:FR)(n:Nat)(F:Fn)(vs:List V)(H:Hp)(Q:VK):Prop where
 | mk (ρ h ds d h'):bL K ρ h H->aC K ρ H vs ds->(ds.length=n)->(F ds h=some (d,h'))->(∀v H',dG K ρ H h' d v H'->Q v H')->Nd K n F vs H Q
def AO(K:FR)(n:Nat)(F:Fn):Sp:=λvs H Q _=>Nd K n F vs H Q
theorem Fz(G:eZ X.prog X.w X.K X.mg X.base nv k f fd ps (AO X.K n F))(hr:cM k X.A)(hg:Gl X x)(hm:X.mg x=some (.ref f))(hk:PySem.W.keepIn X.K (.ref f)=true)(hb:Binds X.K fd ps [])
  (ha:SA X (e::es) m) (hl:lE m n) (hdb:(x==("__debug__":Str))=false:=by ac_nf) (he:starEach (e::es) X.env=(false,eval e X.env)::starEach es X.env:=by ac_nf) (hpl:(backTo pos (starEach es X.env)).any (·.1)=false:=by ac_nf):
  SE X (.Call (.Name x p) (e::es) [] pos) (ay F m):=(zS (E:=E0) G hr hg hm hk hb .nil L9 ha hdb he hpl).imp λσ H Q ⟨ρ,δ,h,d,h',R,S,e,q⟩=>by
 obtain⟨⟨ds,h1⟩,e1,e2⟩:=bA e;refine⟨ρ,δ,h,ds,h1,R,S,e1,λvs ρ1 H1 T1 S1 r1=>?_⟩;show AO X.K n F (vs++[]) H1 Q E0;rw[QS];exact⟨ρ1,h1,ds,d,h',S1,r1,hl _ _ _ _ e1,e2,λv H' P=>q v H' (P.step T1)⟩
noncomputable def wY(r:Fl×DS×MH):Option (D×MH):=match r.1 with
 | .rt d=>some (d,r.2.2)
 | .nx=>some (.cw,r.2.2)
 | _=>none
noncomputable def entry(len:Nat)(ds:List D):DS:=ds.map some++List.replicate (len-ds.length) none
noncomputable def lG(len:Nat)(body:SM):Fn:=λds h=>(body (entry len ds) h).bind wY
theorem cJ.entry{K:FR}{ρ:Ad}{H:Hp}{vs:List V}{ds:List D}(N:List Str)(l:aC K ρ H vs ds):cJ K ρ H (L2.start N vs) (Sm.entry N.length ds):=by
 refine⟨by simp[L2.start,Sm.entry,l.length],λi d hd=>?_⟩;unfold Sm.entry at hd;unfold L2.start
 by_cases hi:i < ds.length
 ·rw[P8 (by simpa using hi),Qg] at hd;obtain⟨d',e1,e2⟩:=hW hd;cases e2;obtain⟨v,ev,r⟩:=l.got e1;refine⟨v,?_,r⟩;rw[P8 (by rw[PU,l.length];exact hi),Qg,ev];rfl
 ·rw[Qa (by simpa using hi),Ux] at hd
  split at hd <;> cases hd
section
variable {P:Program} {w:World} {K:FR} {mg:Str->Option Value} {base:Heap} {x qual:Str} {st:Stmt} {f:Addr} {fd:FuncData} {N ps:List Str} {k:Nat}
theorem Kb(F:sF K x qual st f fd)(Sc:aE N ps (ak st))(hb:∀(cdv:Value)(A:Around)(outer:List Env)(s:Shared)(H:Hp)(E:XK),cM k (A.deeper (envOfC qual (ak st) s.heap.objs.size f cdv))->Ay (ft nv P w K mg base N qual (ak st) f cdv A outer s H E).DI (dy st) body):
  eZ P w K mg base nv (k+1) f fd ps (AO K ps.length (lG N.length body)):=by
 refine F.ok Sc (λvs H Q E h=>?_) (λcdv A outer s H vs Q E hr h=>?_)
 ·obtain⟨ρ,h,ds,d,h',S,r,hl,_⟩:=h;rw[r.length];exact hl
 ·obtain⟨ρ,h,ds,d,h',S,r,hl,e,q⟩:=h;refine⟨_,hb cdv A outer s H E hr,?_⟩;obtain⟨⟨fl,δ1,h1⟩,e1,e2⟩:=bA e;refine⟨ρ,entry N.length ds,h,fl,δ1,h1,cJ.entry N r,S,e1,λρ1 H1 T1 S1=>?_⟩;cases fl with
  | nx=>cases e2;exactλσ' R'=>q _ _ ⟨ρ1,T1,S1,.cw⟩
  | rt d=>cases e2;exactλv r=>q _ _ ⟨ρ1,T1,S1,r⟩
  | bk=>cases e2
  | ct=>cases e2
end
mutual
noncomputable def g0(n:Nat):D->Bool
 | .tup xs=>fI n xs
 | .lv xs=>fI n xs
 | .ro xs=>fI n xs
 | .dv kvs=>GN n kvs
 | .ob m=>decide (m < n)
 | _=>true
noncomputable def fI(n:Nat):List D->Bool
 | []=>true
 | x::r=>g0 n x&&fI n r
noncomputable def GN(n:Nat):List (Key×D)->Bool
 | []=>true
 |(_,x)::r=>g0 n x&&GN n r
end
noncomputable def yh(n:Nat):MO->Bool
 | .lst xs=>fI n xs
 | .dct kvs=>GN n kvs
 | .dcH kvs=>fI n (kvs.map (·.1))&&fI n (kvs.map (·.2))
 | .exc _=>true
abbrev Ad.cut(ρ:Ad)(n:Nat):Ad:=⟨ρ.ob.take n,ρ.rs⟩
theorem Ad.kg{ρ:Ad}{n:Nat}{a:Addr}(h:(ρ.cut n).has a):ρ.has a:=h.elim (λm=>.inl (Tq m)) .inr
mutual
theorem Rep.cut{K:FR}{ρ:Ad}{H:Hp}{n:Nat}{v:V}{d:D}(r:Rep K ρ H v d)(c:g0 n d=true):Rep K (ρ.cut n) H v d:=by
 cases r with
 | cw=>exact .cw
 | bl b=>exact .bl b
 | int i=>exact .int i
 | str x=>exact .str x
 | ty n=>exact .ty n
 | tup h l=>exact .tup (h.elim (λ⟨a,n⟩=>.inl ⟨a,λm=>n (Ad.kg m)⟩) .inr) (aC.cut l c)
 | lv h n l=>exact .lv h (λm=>n (Ad.kg m)) (aC.cut l c)
 | ro h l=>exact .ro (h.elim (λ⟨a,n⟩=>.inl ⟨a,λm=>n (Ad.kg m)⟩) .inr) (aC.cut l c)
 | dv h n l=>exact .dv h (λm=>n (Ad.kg m)) (bH.cut l c)
 | ob e=>exact .ob ((Qz (QX c)).trans e)
theorem aC.cut{K:FR}{ρ:Ad}{H:Hp}{n:Nat}{v:List V}{d:List D}(r:aC K ρ H v d)(c:fI n d=true):aC K (ρ.cut n) H v d:=by
 cases r with
 | nil=>exact .nil
 | cons r l=>have c:=Qp.mp c;exact .cons (Rep.cut r c.1) (aC.cut l c.2)
theorem bH.cut{K:FR}{ρ:Ad}{H:Hp}{n:Nat}{v:List (Key×V)}{d:List (Key×D)}(r:bH K ρ H v d)(c:GN n d=true):bH K (ρ.cut n) H v d:=by
 cases r with
 | nil=>exact .nil
 | cons r l=>have c:=Qp.mp c;exact .cons (Rep.cut r c.1) (bH.cut l c.2)
end
mutual
theorem Rep.clean{K:FR}{ρ:Ad}{H:Hp}{v:V}{d:D}(r:Rep K ρ H v d):g0 ρ.ob.length d=true:=by
 cases r with
 | tup h l=>exact aC.clean l
 | lv h n l=>exact aC.clean l
 | ro h l=>exact aC.clean l
 | dv h n l=>exact bH.clean l
 | ob e=>exact Qx (PV.mp e).1
 | _=>rfl
theorem aC.clean{K:FR}{ρ:Ad}{H:Hp}{v:List V}{d:List D}(r:aC K ρ H v d):fI ρ.ob.length d=true:=by
 cases r with
 | nil=>rfl
 | cons r l=>exact Qp.mpr ⟨Rep.clean r,aC.clean l⟩
theorem bH.clean{K:FR}{ρ:Ad}{H:Hp}{v:List (Key×V)}{d:List (Key×D)}(r:bH K ρ H v d):GN ρ.ob.length d=true:=by
 cases r with
 | nil=>rfl
 | cons r l=>exact Qp.mpr ⟨Rep.clean r,bH.clean l⟩
end
theorem Az.cut{K:FR}{ρ:Ad}{H:Hp}{n:Nat}{a:Addr}{o:MO}(x:Az K ρ H a o)(c:yh n o=true):Az K (ρ.cut n) H a o:=by
 cases o with
 | lst ds=>obtain⟨vs,e,l⟩:=x;exact⟨vs,e,l.cut c⟩
 | dct ds=>obtain⟨vs,e,l⟩:=x;exact⟨vs,e,l.cut c⟩
 | dcH ds=>obtain⟨us,ps,e,l,l2,p⟩:=x;have c:=Qp.mp c;exact⟨us,ps,e,l.cut c.1,l2.cut c.2,p⟩
 | exc _=>exact x
theorem Az.clean{K:FR}{ρ:Ad}{H:Hp}{a:Addr}{o:MO}(x:Az K ρ H a o):yh ρ.ob.length o=true:=by
 cases o with
 | lst ds=>obtain⟨vs,e,l⟩:=x;exact l.clean
 | dct ds=>obtain⟨vs,e,l⟩:=x;exact l.clean
 | dcH ds=>obtain⟨us,ps,e,l,l2,p⟩:=x;exact Qp.mpr ⟨l.clean,l2.clean⟩
 | exc _=>rfl
noncomputable def yp(n:Nat)(h:MH)(d:D):D:=match d with
 | .ob m=>if m < n then .ob m else match h[m]? with
  | some (.lst xs)=>.lv xs
  | some (.dct kvs)=>.dv kvs
  | _=>.ob m
 | d=>d
noncomputable def leave(h:MH)(d:D)(h':MH):Option (D×MH):=
 if g0 h.length (yp h.length h' d)&&(wb (h'.take h.length) h||(h'.take h.length).all (yh h.length)) then some (yp h.length h' d,h'.take h.length) else none
noncomputable def DL(len:Nat)(body:SM):Fn:=λds h=>((body (entry len ds) h).bind wY).bind λp=>leave h p.1 p.2
theorem dG.leave{K:FR}{ρ:Ad}{H H':Hp}{h h1 h':MH}{d d':D}{v:V}(S:bL K ρ h H)(p:dG K ρ H h1 d v H')(e:Sm.leave h d h1=some (d',h')):dG K ρ H h' d' v H':=by
 obtain⟨ρ1,T,S1,r⟩:=p;unfold Sm.leave at e
 by_cases hc:(g0 h.length (yp h.length h1 d)&&(wb (h1.take h.length) h||(h1.take h.length).all (yh h.length)))=true
 ·rw[P0 hc] at e;cases e;rw[Qw] at hc;obtain⟨c1,c2⟩:=hc;have hle:h.length<=h1.length:=by
   rw[<-S.len,<-S1.len];refine Rq λhlt=>?_;have e1:ρ.ob[ρ1.ob.length]?=some ρ.ob[ρ1.ob.length]:=Qi hlt;have:=(PV.mp (T.pre _ _ e1)).1
   lia
  have hall:∀(m:Nat) o,m < h.length->h1[m]?=some o->yh h.length o=true:=by
   intro m o hm ho;rw[RS] at c2;rcases c2 with c2 | c2
   ·have e1:=Au c2;have e2:h[m]?=some o:=by rw[<-e1,Qz hm];exact ho
    have hm':m < ρ.ob.length:=by rw[S.len];exact hm
    have:=(S.at_ m _ o (Qi hm') e2).clean;rw[S.len] at this;exact this
   ·rw[RI] at c2;exact c2 o (PX (show(h1.take h.length)[m]?=some o by rw[Qz hm];exact ho))
  have Sc:bL K (ρ1.cut h.length) (h1.take h.length) H':=by
   refine⟨by simp[S1.len],S1.nd.sublist (S8 _ _),λn a o e1 e2=>?_,λb hb=>⟨(S1.sM b hb).1,λm=>(S1.sM b hb).2 (Tq m)⟩,λP t=>⟨λz=>(S1.tb P t).1 (Ad.kg z),(S1.tb P t).2⟩⟩;have hn:n < h.length:=by
    have:=(PV.mp e2).1;rw[Qj] at this
    lia
   have e1:(ρ1.ob.take h.length)[n]?=some a:=e1;rw[Qz hn] at e1 e2;exact(S1.at_ n a o e1 e2).cut (hall n o hn e2)
  refine⟨ρ1.cut h.length,⟨⟨λn a e=>?_,λb o n e=>?_⟩,T.rs,T.res⟩,Sc,?_⟩
  ·have hn:n < h.length:=by rw[<-S.len];exact(PV.mp e).1
   show(ρ1.ob.take h.length)[n]?=some a;rw[Qz hn];exact T.pre n a e
  ·obtain⟨n1,e1⟩:=T.old b o n e;exact⟨λm=>n1 (Ad.kg m),e1⟩
  ·cases d with
   | ob m=>
    unfold yp at c1 ⊢;dsimp only at c1 ⊢
    by_cases hm:m < h.length
    ·rw[P0 hm] at c1 ⊢;exact r.cut c1
    ·rw[P7 hm] at c1 ⊢;cases r with
     | ob hn=>
      rename_i a;have na:¬(ρ1.cut h.length).has a:=by
       intro z;rcases z with z | z
       ·obtain⟨j,hj⟩:=Tr z;have hj1:j < h.length:=by
         have:=(PV.mp hj).1;rw[Qj] at this
         lia
        rw[Qz hj1] at hj;have:=(U3 (PV.mp hj).1 S1.nd).mp (hj.trans hn.symm)
        lia
       ·exact(S1.sM a z).2 (PX hn)
      cases q:h1[m]? with
      | none=>rw[q] at c1;exact absurd c1 (by simp[g0];lia)
      | some o=>
       have x:=S1.at_ m a o hn q;cases o with
       | lst xs=>
        rw[q] at c1;obtain⟨vs,e1,l⟩:=x;exact .lv e1 na (l.cut (by simpa [g0] using c1))
       | dct xs=>
        rw[q] at c1;obtain⟨vs,e1,l⟩:=x;exact .dv e1 na (l.cut (by simpa [g0] using c1))
       | dcH xs=>rw[q] at c1;exact absurd c1 (by simp[g0];lia)
       | exc _=>rw[q] at c1;exact absurd c1 (by simp[g0];lia)
   | _=>exact r.cut c1
 ·rw[P7 hc] at e;cases e
section
variable {P:Program} {w:World} {K:FR} {mg:Str->Option Value} {base:Heap} {x qual:Str} {st:Stmt} {f:Addr} {fd:FuncData} {N ps:List Str} {k:Nat}
theorem eS(G:eZ P w K mg base nv k f fd ps (AO K ps.length (lG N.length body))):eZ P w K mg base nv k f fd ps (AO K ps.length (DL N.length body)):=by
 refine G.imp λvs H Q E hh=>?_;obtain⟨ρ,h,ds,d,h',S,r,hl,e,q⟩:=hh;obtain⟨⟨d1,h1⟩,e1,e2⟩:=bA e;exact⟨ρ,h,ds,d1,h1,S,r,hl,e1,λv H' p=>q v H' (p.leave S e2)⟩
end
def spT(K:FR):Sp:=λvs H Q _=>∃(a:Addr)(ns:List Int),vs=[.ref a]/\ia K H a (ns.map V.int)/\ns.length<=63/\(∀b,iJ K b->H b=some .tb)/\∀H',(∀b,iJ K b->H' b=some .tb)->Q (.bl true) H'
theorem Gr{P:Program}{w:World}{K:FR}{mg:Str->Option Value}{base:Heap}{k:Nat}{f:Addr}{fd:FuncData}{ps:List Str}{F:Fn}(G:eZ P w K mg base nv k f fd ps (AO K 1 F))
  (hF:∀ns:List Int,ns.length<=63->∃h',F [.ro (ns.map D.int)] []=some (.bl true,h')):eZ P w K mg base nv k f fd ps (spT K):=by
 refine G.imp λvs H Q E hh=>?_;obtain⟨a,ns,rfl,ha,hl,ht,q⟩:=hh;obtain⟨h',e⟩:=hF ns hl;refine⟨⟨[],[]⟩,[],[.ro (ns.map D.int)],.bl true,h',⟨rfl,List.nodup_nil,λn a o e=>by simp at e,λb hb=>absurd hb (by simp),λP t=>⟨λz=>z.elim (λz=>absurd z (by simp)) λz=>absurd z (by simp),ht P t⟩⟩,.cons (.ro ?_ (nI ns)) .nil,rfl,e,λv H' ⟨ρ',T,S,r⟩=>?_⟩
 ·rcases ha with ha | ha
  ·exact .inl ⟨ha,λz=>z.elim (λz=>absurd z (by simp)) λz=>absurd z (by simp)⟩
  ·exact .inr (.inr ha)
 ·cases r;exact q H' λb t=>(S.tb b t).2
noncomputable def zM(h:MH)(d:D):Option PyData:=match d with
 | .ob n=>match h[n]? with
  | some (.lst xs)=>(lF xs).map .list
  | _=>none
 | d=>tQ d
mutual
theorem Rep.sV{K:FR}{ρ:Ad}{H:Hp}{v:V}{d:D}{p:PyData}(r:Rep K ρ H v d)(e:tQ d=some p):BR K H v p/\p.canLay0=true:=by
 cases r with
 | cw=>cases e;exact⟨.cw,rfl⟩
 | bl b=>cases e;exact⟨.bl b,rfl⟩
 | int i=>cases e;exact⟨.int i,rfl⟩
 | str hs=>cases e;exact⟨.str _,by simpa [PyData.canLay0] using hs⟩
 | tup h l=>obtain⟨q,e1,rfl⟩:=hW e;obtain⟨a,b⟩:=aC.sV l e1;exact⟨.tup h.sq a,by simpa [PyData.canLay0] using b⟩
 | lv h n l=>obtain⟨q,e1,rfl⟩:=hW e;obtain⟨a,b⟩:=aC.sV l e1;exact⟨.lst (ia.of h) a,by simpa [PyData.canLay0] using b⟩
 | ro h l=>obtain⟨q,e1,rfl⟩:=hW e;obtain⟨a,b⟩:=aC.sV l e1;exact⟨.lst h.sq a,by simpa [PyData.canLay0] using b⟩
 | _=>exact bN e
theorem aC.sV{K:FR}{ρ:Ad}{H:Hp}{v:List V}{d:List D}{p:List PyData}(r:aC K ρ H v d)(e:lF d=some p):sC K H v p/\PyData.canLayAll0 p=true:=by
 cases r with
 | nil=>cases e;exact⟨.nil,rfl⟩
 | cons r l=>
  obtain⟨a,e1,e2⟩:=bA e;obtain⟨b,e3,rfl⟩:=hW e2;obtain⟨a1,a2⟩:=Rep.sV r e1;obtain⟨b1,b2⟩:=aC.sV l e3;exact⟨.cons a1 b1,by simp[PyData.canLayAll0,a2,b2]⟩
end
section
variable {K:FR} {ρ:Ad} {H:Hp} {h:MH} {v:V} {d:D}
theorem mj(S:bL K ρ h H)(r:Rep K ρ H v d)(e:zM h d=some p):BR K H v p/\p.canLay0=true:=by
 cases r with
 | @ob a n hn=>
  unfold zM at e;dsimp only at e;cases q:h[n]? with
  | none=>rw[q] at e;cases e
  | some o=>
   rw[q] at e;cases o with
   | dct _=>exact bN e
   | dcH _=>exact bN e
   | exc _=>exact bN e
   | lst xs=>
    obtain⟨vs,e1,l⟩:=S.at_ n a _ hn q;obtain⟨b,e3,e4⟩:=hW e;subst e4;obtain⟨b1,b2⟩:=l.sV e3;exact⟨.lst (ia.of e1) b1,by simpa [PyData.canLay0] using b2⟩
 | cw=>exact Rep.sV (Rep.cw (ρ:=ρ)) e
 | bl b=>exact Rep.sV (Rep.bl (ρ:=ρ) b) e
 | int i=>exact Rep.sV (Rep.int (ρ:=ρ) i) e
 | str x=>exact Rep.sV (Rep.str (ρ:=ρ) x) e
 | ty n=>exact Rep.sV (Rep.ty (ρ:=ρ) n) e
 | tup h l=>exact Rep.sV (.tup h l) e
 | lv h n l=>exact Rep.sV (.lv h n l) e
 | ro h l=>exact Rep.sV (.ro h l) e
 | dv h n l=>exact Rep.sV (.dv h n l) e
noncomputable def eB(d:D)(h:MH):Option (List D):=match d with
 | .lv xs=>some xs
 | .ob n=>match h[n]? with
  | some (.lst xs)=>some xs
  | _=>none
 | _=>none
theorem eR(S:bL K ρ h H)(r:Rep K ρ H v d)(e:eB d h=some xs):∃a vs,v=.ref a/\H a=some (.lst vs)/\aC K ρ H vs xs:=by
 cases r with
 | @ob a n hn=>
  unfold eB at e;dsimp only at e;cases q:h[n]? with
  | none=>rw[q] at e;cases e
  | some o=>
   rw[q] at e;cases o with
   | dct _=>exact bN e
   | dcH _=>exact bN e
   | exc _=>exact bN e
   | lst ys=>
    cases e;obtain⟨vs,e1,l⟩:=S.at_ n a _ hn q;exact⟨a,vs,rfl,e1,l⟩
 | lv h n l=>cases e;exact⟨_,_,rfl,h,l⟩
 | _=>exact bN e
noncomputable def eC(d:D)(h:MH):Option (List (Key×D)):=match d with
 | .dv kvs=>some kvs
 | .ob n=>match h[n]? with
  | some (.dct kvs)=>some kvs
  | _=>none
 | _=>none
theorem ja(S:bL K ρ h H)(r:Rep K ρ H v d)(e:eC d h=some xs):∃a vs,v=.ref a/\H a=some (.dK vs)/\bH K ρ H vs xs:=by
 cases r with
 | @ob a n hn=>
  unfold eC at e;dsimp only at e;cases q:h[n]? with
  | none=>rw[q] at e;cases e
  | some o=>
   rw[q] at e;cases o with
   | lst _=>exact bN e
   | dcH _=>exact bN e
   | exc _=>exact bN e
   | dct ys=>
    cases e;obtain⟨vs,e1,l⟩:=S.at_ n a _ hn q;exact⟨a,vs,rfl,e1,l⟩
 | dv h n l=>cases e;exact⟨_,_,rfl,h,l⟩
 | _=>exact bN e
theorem lK(S:bL K ρ h H)(r:Rep K ρ H v d)(e:dH d h=some (xs,ws)):∃a vs,v=.ref a/\(ia K H a vs\/ko K H a vs)/\aC K ρ H vs xs:=by
 obtain⟨a,e1,⟨vs,q,l⟩,_⟩:=qF S r e;refine⟨a,vs,e1,?_,l⟩;generalize yY d=b at q;cases q with
 | l q=>exact .inl q
 | t q=>exact .inr q
noncomputable def vF:D->Option Key
 | .int i=>some (.inl i)
 | .str x=>some (.inr x)
 | _=>none
noncomputable def pF(kvs:List (Key×D))(k:Key):Option D:=(kvs.find? λkv=>decide (kv.1=k)).map (·.2)
noncomputable def putD(kvs:List (Key×D))(k:Key)(v:D):List (Key×D):=
 if(kvs.any λkv=>decide (kv.1=k))=true then kvs.map (λkv=>if kv.1=k then(kv.1,v) else kv) else kvs++[(k,v)]
theorem j7(r:Rep K ρ H v d)(e:vF d=some k):v=kV k:=by
 cases r with
 | int i=>cases e;rfl
 | str x=>cases e;rfl
 | _=>exact bN e
theorem bH.val:∀{us:List (Key×V)} {kvs:List (Key×D)} (k:Key),bH K ρ H us kvs->(pF kvs k=none/\jq us k=none)\/∃d v,pF kvs k=some d/\jq us k=some v/\Rep K ρ H v d:=by
 intro us
 induction us with
 | nil=>intro kvs k a;cases a;exact .inl ⟨rfl,rfl⟩
 | cons u us ih=>
  intro kvs k a;cases a with | @cons j v _ d ds r l=>
  by_cases z:j=k
  ·exact .inr ⟨d,v,by simp[pF,z],by simp[jq,z],r⟩
  ·have h1:pF ((j,d)::ds) k=pF ds k:=by simp only[pF,RQ,z,decide_false]
   have h2:jq ((j,v)::us) k=jq us k:=lH z;rw[h1,h2];exact ih k l
theorem bH.length:∀{us:List (Key×V)} {kvs:List (Key×D)},bH K ρ H us kvs->us.length=kvs.length:=by
 intro us
 induction us with
 | nil=>intro kvs a;cases a;rfl
 | cons u us ih=>intro kvs a;cases a with | cons _ l=>rw[P2,P2,ih l]
theorem bH.any(k:Key):∀{us:List (Key×V)} {kvs:List (Key×D)},bH K ρ H us kvs->(us.any λkv=>decide (kv.1=k))=(kvs.any λkv=>decide (kv.1=k))
 | _,_,.nil=>rfl
 | _,_,.cons _ l=>by rw[RT,RT,bH.any k l]
theorem bH.map(r:Rep K ρ H v d):∀{us:List (Key×V)} {kvs:List (Key×D)},bH K ρ H us kvs->bH K ρ H (us.map λkv=>if kv.1=k then(kv.1,v) else kv) (kvs.map λkv=>if kv.1=k then(kv.1,d) else kv)
 | _,_,.nil=>.nil
 | _,_,.cons (k:=j) q l=>by
  rw[Qc,Qc]
  by_cases z:j=k
  ·rw[P0 z,P0 z];exact .cons r (bH.map r l)
  ·rw[P7 z,P7 z];exact .cons q (bH.map r l)
theorem bH.append:∀{us vs:List (Key×V)} {ks ls:List (Key×D)},bH K ρ H us ks->bH K ρ H vs ls->bH K ρ H (us++vs) (ks++ls):=by
 intro us vs
 induction us with
 | nil=>intro ks ls a t;cases a;exact t
 | cons u us ih=>intro ks ls a t;cases a with | cons r l=>exact .cons r (ih l t)
theorem bH.put(l:bH K ρ H us kvs)(r:Rep K ρ H v d):bH K ρ H (putK us k v) (putD kvs k d):=by
 unfold putK putD;rw[l.any k]
 by_cases z:(kvs.any λkv=>decide (kv.1=k))=true
 ·rw[P0 z,P0 z];exact l.map r
 ·rw[P7 z,P7 z];exact l.append (.cons r .nil)
end
noncomputable def tx(d e:D)(h:MH):Option (D×MH):=match d,e with
 | .int i,.int j=>some (.int (i+j),h)
 | .str a,.str b=>if a.length+b.length<=sizeLine then some (.str (a++b),h) else none
 | .tup [],.tup _=>none
 | .tup (x::xs),.tup ys=>if xs.length+1+ys.length<=sizeLine then some (.tup (x::xs++ys),h) else none
 | d,e=>(eB d h).bind λxs=>(eB e h).bind λys=>if xs.length+ys.length<=sizeLine then some (.lv (xs++ys),h) else none
noncomputable def y1(d e:D)(h:MH):Option (D×MH):=match d,e with
 | .int i,.int j=>some (.int (i-j),h)
 | _,_=>none
noncomputable def mG(i j:Int):Bool:=(decide (-(2^64) < i)&&decide (i < 2^64))||(decide (-(2^64) < j)&&decide (j < 2^64))
noncomputable def Kd(d e:D)(h:MH):Option (D×MH):=match d,e with
 | .int i,.int j=>if mG i j then some (.int (i*j),h) else none
 | _,_=>none
noncomputable def rP(d e:D)(h:MH):Option (D×MH):=match d,e with
 | .int i,.int j=>if 0 < j then some (.int (i % j),h) else none
 | _,_=>none
noncomputable def Ea(d e:D)(h:MH):Option (D×MH):=match d,e with
 | .int i,.int j=>if 0 < j/\j<=10^40 then some (.int (i / j),h) else none
 | _,_=>none
noncomputable def GA(d e:D)(h:MH):Option (D×MH):=match d,e with
 | .int i,.int j=>if 0<=j/\j<=1000000/\i.natAbs < 2^64 then some (.int (i^j.toNat),h) else none
 | _,_=>none
noncomputable def Et(f:Int->Int->Bool)(d e:D)(h:MH):Option (D×MH):=match d,e with
 | .int i,.int j=>some (.bl (f i j),h)
 | _,_=>none
noncomputable def BP:=Et λi j=>decide (i < j)
noncomputable def K9:=Et λi j=>decide (i<=j)
noncomputable def y9:=Et λi j=>decide (j < i)
noncomputable def MC:=Et λi j=>decide (j<=i)
noncomputable def Hn(d e:D)(h:MH):Option Bool:=(zM h d).bind λa=>(zM h e).bind λb=>if a.depth<=64/\b.depth<=64 then some (PyData.eqv a b) else none
noncomputable def Pc:D->Bool
 | .cw=>true
 | _=>false
noncomputable def Ke(d e:D)(h:MH):Option (D×MH):=match e with
 | .cw=>some (.bl (Pc d),h)
 | _=>none
noncomputable def kK(d:D)(h:MH):Option (D×MH):=match d with
 | .int i=>some (.int (-i),h)
 | _=>none
noncomputable def inD(d e:D)(h:MH):Option Bool:=match eC e h with
 | some kvs=>(vF d).map λk=>(pF kvs k).isSome
 | none=>match d,e with
  | .str x,.str y=>some (!(Builtin.Str.occurrences y x 0 y.length 1).isEmpty)
  | d,e=>(dH e h).bind λp=>(zM h d).bind λa=>(lF p.1).bind λbs=>if a.depth<=60/\PyData.depthAll bs<=60 then some (bs.any λb=>PyData.eqv b a) else none
noncomputable def La(d e:D)(h:MH):Option (D×MH):=(inD d e h).map λc=>(.bl c,h)
noncomputable def gY(d e:D)(h:MH):Option (D×MH):=(inD d e h).map λc=>(.bl (!c),h)
noncomputable def aW(d e:D)(h:MH):Option (D×MH):=match eC d h with
 | some kvs=>(vF e).bind λk=>(pF kvs k).map λz=>(z,h)
 | none=>match d,e with
  | .str z,.int i=>if z.length<=sizeLine then(g9 z.cps.toList i).map λc=>(.str ⟨#[c]⟩,h) else none
  | d,.int i=>(dH d h).bind λp=>(g9 p.1 i).map λz=>(z,h)
  | _,_=>none
theorem jA{K:FR}{ρ:Ad}{H:Hp}{x:V}{i:Int}(r:Rep K ρ H x (.int i)):x=.int i:=by cases r;rfl
theorem yF{K:FR}{ρ:Ad}{H:Hp}{x:V}{i:Str}(r:Rep K ρ H x (.str i)):x=.str i/\PyData.strOk i=true:=by cases r with | str h=>exact⟨rfl,h⟩
theorem CO{K:FR}{ρ:Ad}{H:Hp}{x:V}{ds:List D}(r:Rep K ρ H x (.tup ds)):∃a vs,x=.ref a/\TupAt K ρ H a vs/\aC K ρ H vs ds:=by cases r with | tup h l=>exact⟨_,_,rfl,h,l⟩
theorem vm(ho:oB X g (rI C q))(hf:∀d e h z h',f d e h=some (z,h')->∃i j,d=.int i/\e=.int j/\C i j/\h'=h/\∀ρ H,Rep X.K ρ H (q i j) z):oA X g f:=by
 intro pins s σ H x y v u Q I rx ry hh;obtain⟨ρ,h,d,e,z,h',S,rd,re,ee,k⟩:=hh;obtain⟨i,j,rfl,rfl,c,rfl,rz⟩:=hf _ _ _ _ _ ee;obtain rfl:=jA rd;obtain rfl:=jA re;exact ho pins s σ H _ _ v u Q I rx ry ⟨i,j,rfl,rfl,c,k _ _ (.here S (rz _ _))⟩
theorem mB(ho:oB X g (FK q))(hf:∀d e h z h',f d e h=some (z,h')->∃i j,d=.int i/\e=.int j/\h'=h/\∀ρ H,Rep X.K ρ H (q i j) z):oA X g f:=by
 intro pins s σ H x y v u Q I rx ry hh;obtain⟨ρ,h,d,e,z,h',S,rd,re,ee,k⟩:=hh;obtain⟨i,j,rfl,rfl,rfl,rz⟩:=hf _ _ _ _ _ ee;obtain rfl:=jA rd;obtain rfl:=jA re;exact ho pins s σ H _ _ v u Q I rx ry ⟨i,j,rfl,rfl,k _ _ (.here S (rz _ _))⟩
theorem Dy:oA X (binaryOp .Sub) y1:=mB Jr λd e h z h' ee=>by
 cases d <;> first |(exact bN ee) | skip
 cases e <;> first |(exact bN ee) | skip
 cases ee;exact⟨_,_,rfl,rfl,rfl,λ_ _=>.int _⟩
theorem Jl:oA X (binaryOp .Mult) Kd:=vm Ju λd e h z h' ee=>by
 cases d <;> first |(exact bN ee) | skip
 cases e <;> first |(exact bN ee) | skip
 rename_i i j;unfold Kd at ee;dsimp only at ee
 by_cases c:mG i j=true
 ·rw[P0 c] at ee;cases ee;refine⟨i,j,rfl,rfl,?_,rfl,λ_ _=>.int _⟩;unfold mG at c;simp only[RS,Qw,QM] at c;exact c
 ·rw[P7 c] at ee;cases ee
theorem rl:oA X (binaryOp .Mod) rP:=vm Jv λd e h z h' ee=>by
 cases d <;> first |(exact bN ee) | skip
 cases e <;> first |(exact bN ee) | skip
 rename_i i j;unfold rP at ee;dsimp only at ee
 by_cases c:0 < j
 ·rw[P0 c] at ee;cases ee;exact⟨i,j,rfl,rfl,c,rfl,λ_ _=>.int _⟩
 ·rw[P7 c] at ee;cases ee
theorem Jo:oA X (binaryOp .FloorDiv) Ea:=vm DD λd e h z h' ee=>by
 cases d <;> first |(exact bN ee) | skip
 cases e <;> first |(exact bN ee) | skip
 rename_i i j;unfold Ea at ee;dsimp only at ee
 by_cases c:0 < j/\j<=10^40
 ·rw[P0 c] at ee;cases ee;exact⟨i,j,rfl,rfl,c,rfl,λ_ _=>.int _⟩
 ·rw[P7 c] at ee;cases ee
theorem Dz:oA X (binaryOp .Pow) GA:=vm Jt λd e h z h' ee=>by
 cases d <;> first |(exact bN ee) | skip
 cases e <;> first |(exact bN ee) | skip
 rename_i i j;unfold GA at ee;dsimp only at ee
 by_cases c:0<=j/\j<=1000000/\i.natAbs < 2^64
 ·rw[P0 c] at ee;cases ee;exact⟨i,j,rfl,rfl,c,rfl,λ_ _=>.int _⟩
 ·rw[P7 c] at ee;cases ee
theorem An(ee:Et f d e h=some (z,h')):∃i j,d=.int i/\e=.int j/\h'=h/\z=.bl (f i j):=by
 cases d <;> first |(exact bN ee) | skip
 cases e <;> first |(exact bN ee) | skip
 cases ee;exact⟨_,_,rfl,rfl,rfl,rfl⟩
theorem DB:oA X (compareOp .Lt) BP:=mB Md λd e h z h' ee=>by
 obtain⟨i,j,rfl,rfl,rfl,rfl⟩:=An ee;exact⟨i,j,rfl,rfl,rfl,λ_ _=>.bl _⟩
theorem DC:oA X (compareOp .LtE) K9:=mB Me λd e h z h' ee=>by
 obtain⟨i,j,rfl,rfl,rfl,rfl⟩:=An ee;exact⟨i,j,rfl,rfl,rfl,λ_ _=>.bl _⟩
theorem Mb:oA X (compareOp .Gt) y9:=mB Mf λd e h z h' ee=>by
 obtain⟨i,j,rfl,rfl,rfl,rfl⟩:=An ee;exact⟨i,j,rfl,rfl,rfl,λ_ _=>.bl _⟩
theorem Hj:oA X (compareOp .GtE) MC:=mB Mg λd e h z h' ee=>by
 obtain⟨i,j,rfl,rfl,rfl,rfl⟩:=An ee;exact⟨i,j,rfl,rfl,rfl,λ_ _=>.bl _⟩
theorem uG:M1 X (unaryOp .USub) (rU X.K kK):=by
 intro pins s σ H x v Q I rx hh;obtain⟨ρ,h,d,z,h',S,rd,ee,k⟩:=hh;cases rd <;> first |(exact bN ee) | skip
 cases ee;exact HX pins s σ H _ v Q I rx ⟨_,rfl,k _ _ (.here S (.int _))⟩
noncomputable def Kt(d e:D)(h:MH):Option (D×MH):=(eB d h).bind λxs=>(eB e h).bind λys=>if xs.length+ys.length<=sizeLine then some (D.lv (xs++ys),h) else none
def Np(d e:D)(h:MH)(p:D×MH):Prop:=(∃i j,d=.int i/\e=.int j)\/(∃a b,d=.str a/\e=.str b)\/(∃x xs ys,d=.tup (x::xs)/\e=.tup ys)\/Kt d e h=some p
theorem wu{d e:D}{h:MH}{p:D×MH}(z:Kt d e h=some p):Np d e h p:=.inr (.inr (.inr z))
theorem Eb{d e:D}{h:MH}{p:D×MH}(ee:tx d e h=some p):Np d e h p:=by
 cases d with
 | int i=>cases e with
  | int j=>exact .inl ⟨i,j,rfl,rfl⟩
  | _=>exact wu ee
 | str a=>cases e with
  | str b=>exact .inr (.inl ⟨a,b,rfl,rfl⟩)
  | _=>exact wu ee
 | tup xs=>cases e with
  | tup ys=>cases xs with
   | nil=>exact bN ee
   | cons x xs=>exact .inr (.inr (.inl ⟨x,xs,ys,rfl,rfl⟩))
  | _=>cases xs <;> exact wu ee
 | _=>exact wu ee
theorem Jp:oA X (binaryOp .Add) tx:=by
 intro pins s σ H x y v u Q I rx ry hh;obtain⟨ρ,h,d,e,z,h',S,rd,re,ee,k⟩:=hh;have lists:((eB d h).bind λxs=>(eB e h).bind λys=>if xs.length+ys.length<=sizeLine then some (D.lv (xs++ys),h) else none)=some (z,h')->wpAny (model X.prog X.w) X.A (binaryOp .Add v u) (EP X pins σ Q) X.xe s:=by
  intro ee;obtain⟨xs,e1,e4⟩:=bA ee;obtain⟨ys,e2,e3⟩:=bA e4
  by_cases c:xs.length+ys.length<=sizeLine
  ·rw[P0 c] at e3;cases e3;obtain⟨a,vs,rfl,ha,la⟩:=eR S rd e1;obtain⟨b,us,rfl,hb,lb⟩:=eR S re e2;exact DF pins s σ H _ _ v u Q I rx ry ⟨a,b,vs,us,rfl,rfl,ha,hb,by rw[la.length,lb.length];exact c,λp hp=>k _ _ (.lv S (la.append lb) hp)⟩
  ·rw[P7 c] at e3;cases e3
 rcases(Eb ee:(∃i j,d=.int i/\e=.int j)\/(∃a b,d=.str a/\e=.str b)\/(∃x xs ys,d=.tup (x::xs)/\e=.tup ys)\/Kt d e h=some (z,h')) with⟨i,j,rfl,rfl⟩ |⟨a,b,rfl,rfl⟩ |⟨x0,xs,ys,rfl,rfl⟩ | z
 ·cases ee;obtain rfl:=jA rd;obtain rfl:=jA re;exact Jx pins s σ H _ _ v u Q I rx ry ⟨_,_,rfl,rfl,k _ _ (.here S (.int _))⟩
 ·unfold tx at ee;dsimp only at ee
  by_cases c:a.length+b.length<=sizeLine
  ·rw[P0 c] at ee;cases ee;obtain⟨rfl,h1⟩:=yF rd;obtain⟨rfl,h2⟩:=yF re;exact yL pins s σ H _ _ v u Q I rx ry ⟨a,b,rfl,rfl,c,k _ _ (.here S (.str (ic h1 h2)))⟩
  ·rw[P7 c] at ee;cases ee
 ·unfold tx at ee;dsimp only at ee
  by_cases c:xs.length+1+ys.length<=sizeLine
  ·rw[P0 c] at ee;cases ee;obtain⟨a,vs,rfl,h1,l1⟩:=CO rd;obtain⟨b,us,rfl,h2,l2⟩:=CO re;refine Gf pins s σ H _ _ v u Q I rx ry ⟨a,b,vs,us,rfl,rfl,h1.sq,h2.sq,?_,?_,λz=>?_,λ_ p hp=>k _ _ (.tup S (l1.append l2) hp)⟩
   ·intro z;rw[z] at l1;cases l1
   ·rw[l1.length,l2.length];exact c
   ·rw[z] at l2;cases l2;rw[QS] at k;exact k _ _ (.here S (.tup h1 l1))
  ·rw[P7 c] at ee;cases ee
 ·exact lists z
theorem kd(h1:p.canLay0=true)(h2:p.depth<=64):SeqAt.shaped p=true:=by
 unfold PySem.SeqAt.shaped;rw[h1,Qx h2];rfl
theorem FG{K:FR}{ρ:Ad}{H:Hp}{v:V}{d:D}(r:Rep K ρ H v d):decide (v=V.cw)=Pc d:=by
 cases r <;> rfl
theorem Jm:oA X (compareOp .Is) Ke:=by
 intro pins s σ H x y v u Q I rx ry hh;obtain⟨ρ,h,d,e,z,h',S,rd,re,ee,k⟩:=hh;cases e <;> first |(exact bN ee) | skip
 cases ee;cases re;refine Jw pins s σ H _ _ v u Q I rx ry ⟨rfl,?_⟩;rw[FG rd];exact k _ _ (.here S (.bl _))
theorem uB{us:List Value}{ds:List PyData}{as:List Addr}(H:ReadsAll h us ds as)(hf:∀u d as,u∈us->Reads h u d as->d∈ds->f u=PyData.eqv d p):us.any f=ds.any λb=>PyData.eqv b p:=by
 cases H with
 | nil=>rfl
 | cons r l=>rw[RT,RT,hf _ _ _ P1 r P1,uB l λu d as hu hr hd=>hf u d as (P4 _ hu) hr (P4 _ hd)]
open Classical in
noncomputable def Aj(h:Heap)(p:PyData)(u:Value):Bool:=if q:∃d as,Reads h u d as/\d.canLay0=true then PyData.eqv q.choose p else false
theorem om(r:Reads h u d as)(c:d.canLay0=true):Aj h p u=PyData.eqv d p:=by
 have q:∃d as,Reads h u d as/\d.canLay0=true:=⟨d,as,r,c⟩;unfold Aj;rw[dif_pos q];obtain⟨as',r',c'⟩:=q.choose_spec;rw[PySem.SeqAt.Reads.unique _ _ _ _ _ c' r' r]
theorem cy:∀{ds:List PyData} {d:PyData},PyData.canLayAll0 ds=true->d∈ds->d.canLay0=true
 | x::r,d,c,m=>by
  simp only[PyData.canLayAll0,Qw] at c;rcases P5.mp m with rfl | m
  ·exact c.1
  ·exact cy c.2 m
theorem ke:∀{ds:List PyData} {d:PyData},d∈ds->d.depth<=PyData.depthAll ds
 | x::r,d,m=>by
  simp only[PyData.depthAll];rcases P5.mp m with rfl | m
  ·lia
  ·have:=ke m;lia
theorem jW{us:List Value}{ds:List PyData}{as:List Addr}(H:ReadsAll h us ds as)(y:Value)(hy:y∈us):∃d as,Reads h y d as/\d∈ds:=by
 cases H with
 | nil=>cases hy
 | cons r l=>
  rcases P5.mp hy with rfl | hy
  ·exact⟨_,_,r,P1⟩
  ·obtain⟨d,as,a1,a2⟩:=jW l y hy;exact⟨d,as,a1,P4 _ a2⟩
theorem in_of(hu:X.A.units+64 < cLine)(I:L2.Inv X pins σ H s)(rx:L2.RelV x v)(ry:L2.RelV y u)(S:bL X.K ρ h H)(rd:Rep X.K ρ H x d)(re:Rep X.K ρ H y e){c:Bool}(ee:inD d e h=some c){Q:Bool->Shared->Prop}(hq:∀s',L2.Inv X pins σ H s'->Q c s'):
  wpAny (model X.prog X.w) X.A (compareOp .In v u) (λr s'=>∃c,r=.bool c/\Q c s') X.xe s/\wpAny (model X.prog X.w) X.A (compareOp .NotIn v u) (λr s'=>∃c,r=.bool (!c)/\Q c s') X.xe s:=by
 unfold inD at ee;cases qd:eC e h with
 | some kvs=>
  rw[qd] at ee;obtain⟨k,e1,e2⟩:=hW ee;obtain⟨a,us,rfl,ha,l⟩:=ja S re qd;obtain rfl:u=Value.ref a:=ry;have ek:=j7 rd e1;subst ek;have g:nr H a (kV k) (jq us k):=nr.k ha;have ec:(jq us k).isSome=c:=by
   rw[<-e2];rcases l.val k with⟨h1,h2⟩ |⟨d,v,h1,h2,_⟩
   ·rw[h1,h2];rfl
   ·rw[h1,h2];rfl
  refine⟨OJ (by lia) I g rx λs' I'=>⟨c,by rw[ec],hq s' I'⟩,GG (by lia) I g rx λs' I'=>⟨c,by rw[ec],hq s' I'⟩⟩
 | none=>
  rw[qd] at ee;dsimp only at ee;have seqs:((dH e h).bind λp=>(zM h d).bind λa=>(lF p.1).bind λbs=>if a.depth<=60/\PyData.depthAll bs<=60 then some (bs.any λb=>PyData.eqv b a) else none)=some c->
    wpAny (model X.prog X.w) X.A (compareOp .In v u) (λr s'=>∃c,r=.bool c/\Q c s') X.xe s/\wpAny (model X.prog X.w) X.A (compareOp .NotIn v u) (λr s'=>∃c,r=.bool (!c)/\Q c s') X.xe s:=by
   intro ee;obtain⟨⟨xs,ws⟩,e1,e2⟩:=bA ee;obtain⟨p,e3,e4⟩:=bA e2;obtain⟨bs,e5,e6⟩:=bA e4
   by_cases w:p.depth<=60/\PyData.depthAll bs<=60
   ·rw[P0 w] at e6;cases e6;obtain⟨a,vs,rfl,hq',l⟩:=lK S re e1;obtain rfl:u=Value.ref a:=ry;obtain⟨r1,c1⟩:=mj S rd e3;obtain⟨r2,c2⟩:=l.sV e5;obtain⟨as,ra⟩:=r1.reads I rx;have key:∀its:List Value,Vals vs its->(∀y,y∈its->PySem.SeqAt.EqAt X.A.in1 s y v (Aj s.heap p y))/\its.any (Aj s.heap p)=bs.any λb=>PyData.eqv b p:=by
     intro its rv;obtain⟨bs',rb⟩:=r2.reads I rv;refine⟨λy hy=>?_,uB rb λu d as _ hr hd=>om hr (cy c2 hd)⟩;obtain⟨d,as',hr,hd⟩:=jW rb y hy;rw[om hr (cy c2 hd)];refine Sl d p _ s y v as' as hr ra (cy c2 hd) c1 ?_;have h1:=ke hd;have h2:min d.depth p.depth<=d.depth:=Tj _ _;show X.A.units+1+min d.depth p.depth < cLine;have h3:=w.2
     lia
    rcases hq' with hq' | hq'
    ·obtain⟨its,rv,pl,_⟩:=I.list hq';obtain⟨k1,k2⟩:=key its rv;have k1':∀y,y∈its.toArray->PySem.SeqAt.EqAt X.A.in1 s y v (Aj s.heap p y):=λy hy=>k1 y (by simpa using hy);have k2':its.toArray.any (Aj s.heap p)=bs.any λb=>PyData.eqv b p:=by rw[<-k2];simp
     exact⟨PySem.SeqAt.in_listAt _ pl.isList k1' ⟨_,rfl,by rw[k2'];exact hq s I⟩,PySem.SeqAt.notIn_listAt _ pl.isList k1' ⟨_,rfl,by rw[k2'];exact hq s I⟩⟩
    ·obtain⟨its,rv,pl,_⟩:=I.tuple hq';obtain⟨k1,k2⟩:=key its rv;have k1':∀y,y∈its.toArray->PySem.SeqAt.EqAt X.A.in1 s y v (Aj s.heap p y):=λy hy=>k1 y (by simpa using hy);have k2':its.toArray.any (Aj s.heap p)=bs.any λb=>PyData.eqv b p:=by rw[<-k2];simp
     exact⟨PySem.SeqAt.in_tupleAt _ pl k1' ⟨_,rfl,by rw[k2'];exact hq s I⟩,PySem.SeqAt.notIn_tupleAt _ pl k1' ⟨_,rfl,by rw[k2'];exact hq s I⟩⟩
   ·rw[P7 w] at e6;cases e6
  split at ee
  ·cases ee;cases rd;cases re;obtain⟨t,rfl⟩:=rx;obtain⟨t',rfl⟩:=ry;exact⟨in_str ⟨_,rfl,hq s I⟩,notIn_str ⟨_,rfl,hq s I⟩⟩
  ·exact seqs ee
theorem Ma(hu:X.A.units+64 < cLine):oA X (compareOp .In) La:=by
 intro pins s σ H x y v u Q I rx ry hh;obtain⟨ρ,h,d,e,z,h',S,rd,re,ee,k⟩:=hh;obtain⟨c,e1,e2⟩:=hW ee;cases e2;refine dh (in_of hu I rx ry S rd re e1 (Q:=λc' s'=>c'=c/\L2.Inv X pins σ H s') λs' I'=>⟨rfl,I'⟩).1 λr s' ⟨c',hr,hc,I'⟩=>?_;subst hr;subst hc;exact⟨.bl _,H,I',rfl,k _ _ (.here S (.bl _))⟩
theorem DA(hu:X.A.units+64 < cLine):oA X (compareOp .NotIn) gY:=by
 intro pins s σ H x y v u Q I rx ry hh;obtain⟨ρ,h,d,e,z,h',S,rd,re,ee,k⟩:=hh;obtain⟨c,e1,e2⟩:=hW ee;cases e2;refine dh (in_of hu I rx ry S rd re e1 (Q:=λc' s'=>c'=c/\L2.Inv X pins σ H s') λs' I'=>⟨rfl,I'⟩).2 λr s' ⟨c',hr,hc,I'⟩=>?_;subst hr;subst hc;exact⟨.bl _,H,I',rfl,k _ _ (.here S (.bl _))⟩
theorem GS{K:FR}{ρ:Ad}{H:Hp}{vs:List V}{ds:List D}{i:Int}{d:D}(l:aC K ρ H vs ds)(e:g9 ds i=some d):∃v,g9 vs i=some v/\Rep K ρ H v d:=by
 unfold g9 at e;obtain⟨j,e1,e2⟩:=bA e;obtain⟨v,e3,r⟩:=l.got e2;exact⟨v,by unfold g9;rw[l.length,e1];exact e3,r⟩
theorem Bv{d e z:D}{h h':MH}(ee:aW d e h=some (z,h')):h'=h/\((∃kvs k,eC d h=some kvs/\vF e=some k/\pF kvs k=some z)\/(∃x i c,d=.str x/\e=.int i/\x.length<=sizeLine/\g9 x.cps.toList i=some c/\z=.str ⟨#[c]⟩)\/∃i xs ws,e=.int i/\dH d h=some (xs,ws)/\g9 xs i=some z):=by
 unfold aW at ee
 split at ee
 ·obtain⟨ky,e1,e2⟩:=bA ee;obtain⟨z',e3,e4⟩:=hW e2;cases e4;exact⟨rfl,.inl ⟨_,ky,‹_›,e1,e3⟩⟩
 ·split at ee
  ·split at ee
   ·obtain⟨c,e3,e4⟩:=hW ee;cases e4;exact⟨rfl,.inr (.inl ⟨_,_,c,rfl,rfl,‹_›,e3,rfl⟩)⟩
   ·cases ee
  ·obtain⟨⟨xs,ws⟩,e1,e2⟩:=bA ee;obtain⟨z',e3,e4⟩:=hW e2;cases e4;exact⟨rfl,.inr (.inr ⟨_,xs,ws,rfl,e1,e3⟩)⟩
  ·cases ee
theorem Ms(hu:X.A.units+64 < cLine):Nh X (rS X.K aW):=by
 intro value slice pins s σ H x y v u Q I rx ry hh hs;obtain⟨ρ,h,d,e,z,h',S,rd,re,ee,k⟩:=hh;obtain⟨rfl,hc⟩:=Bv ee;rcases hc with⟨kvs,ky,qd,e1,e3⟩ |⟨x0,i,ch,rfl,rfl,c,e3,rfl⟩ |⟨i,xs,ws,rfl,e1,e3⟩
 ·obtain⟨a,us,rfl,ha,l⟩:=ja S rd qd;obtain rfl:v=Value.ref a:=rx;have ek:=j7 re e1;subst ek;rcases l.val ky with⟨h1,h2⟩ |⟨d',w,h1,h2,r⟩
  ·rw[h1] at e3;cases e3
  ·rw[h1] at e3;cases e3;have g:nr H a (kV ky) (some w):=by rw[<-h2];exact nr.k ha
   exact tail_any (xO I g) Ui.lookup (Bz (by lia) I g ry λw' s3 I3 rw'=>⟨w,H,I3,rw',k _ _ (.here S r)⟩) hs
 ·obtain⟨rfl,hs0⟩:=yF rd;obtain rfl:=jA re;exact JS value slice pins s σ H _ _ v u Q I rx ry ⟨x0,i,ch,rfl,rfl,c,e3,k _ _ (.here S (.str (AL hs0 e3)))⟩ hs
 ·obtain⟨a,vs,rfl,hq',l⟩:=lK S rd e1;obtain⟨w,e5,r⟩:=GS l e3;obtain rfl:=jA re;rcases hq' with hq' | hq'
  ·exact Gv value slice pins s σ H _ _ v u Q I rx ry ⟨a,vs,i,w,rfl,rfl,hq',e5,k _ _ (.here S r)⟩ hs
  ·exact JR value slice pins s σ H _ _ v u Q I rx ry ⟨a,vs,i,w,rfl,rfl,hq',e5,k _ _ (.here S r)⟩ hs
theorem LL(hu:X.A.units+64 < cLine)(ha:SE X a ma)(hb:SE X b mb)(hs:nq b:=by unfold nq;intro _ _;ac_nf):SE X (.Subscript a b pos) (ao aW ma mb):=(L6 (Ms hu) ha hb hs).imp λ_ _ _=>zK
abbrev PM:=DS->MH->Option (Option Int×MH)
noncomputable def wy:PM:=λ_ h=>some (none,h)
noncomputable def wz(e:EM):PM:=λδ h=>(e δ h).bind λp=>match p.1 with
 | .int i=>some (some i,p.2)
 | _=>none
inductive M7(K:FR)(m:PM)(σ:L2.St)(H:Hp)(Q:Option Int->Hp->Prop):Prop where
 | mk (ρ δ h b h'):cJ K ρ H σ δ->bL K ρ h H->(m δ h=some (b,h'))->(∀ρ' H',cY ρ H ρ' H'->bL K ρ' h' H'->Q b H')->M7 K m σ H Q
noncomputable def PC(K:FR)(m:PM):TO:=λσ H Q=>M7 K m σ H Q
def SP'(X:Cx)(e:Option Expr)(m:PM):Prop:=PO X e (PC X.K m)
theorem zD:SP' X none wy:=λpins s σ H Q I hh=>by
 obtain⟨ρ,δ,h,b,h',R,S,e,k⟩:=hh;cases e;exact F1 pins s σ H Q I (k ρ H (.refl _ _) S)
theorem zC(he:SE X e ma):SP' X (some e) (wz ma):=λpins s σ H Q I hh=>by
 obtain⟨ρ,δ,h,b,h',R,S,e,k⟩:=hh;obtain⟨⟨x,h1⟩,e1,e2⟩:=bA e;cases x <;> first |(cases e2;done) | skip
 cases e2;refine FZ he pins s σ H Q I ⟨ρ,δ,h,_,_,R,S,e1,λv H' ⟨ρ',T,S',r⟩=>?_⟩;cases r;exact⟨_,rfl,k ρ' H' T S'⟩
noncomputable def cutD(xs:List D)(lo hi:Option Int):List D:=(xs.drop (HT.cN xs.length 0 lo)).take (HT.cN xs.length xs.length hi-HT.cN xs.length 0 lo)
noncomputable def MB(d:D)(lo hi:Option Int)(h:MH):Option (D×MH):=match d with
 | .str z=>if z.length<=sizeLine then some (.str (Txt.slice z lo hi),h) else none
 | .tup xs=>if HT.cN xs.length 0 lo=0/\HT.cN xs.length xs.length hi=xs.length then none else some (.tup (cutD xs lo hi),h)
 | d=>(dH d h).map λp=>(.lv (cutD p.1 lo hi),h)
inductive Nf(K:FR)(x:V)(lo hi:Option Int)(H:Hp)(Q:VK):Prop where
 | mk (ρ h d z h'):bL K ρ h H->Rep K ρ H x d->(MB d lo hi h=some (z,h'))->(∀v H',dG K ρ H h' z v H'->Q v H')->Nf K x lo hi H Q
def PH(K:FR):V->Option Int->Option Int->Hp->VK->Prop:=λx lo hi H Q=>Nf K x lo hi H Q
theorem aC.sf{K:FR}{ρ:Ad}{H:Hp}{vs:List V}{ds:List D}(l:aC K ρ H vs ds)(lo hi:Option Int):aC K ρ H (L2.sf vs lo hi) (cutD ds lo hi):=by
 unfold L2.sf cutD;rw[l.length];exact(l.drop _).take _
theorem G5:KZ X (PH X.K):=by
 intro pins s σ H x v vl vu lo hi sl Q I rx hs pl pu hh;obtain⟨ρ,h,d,z,h',S,rd,ee,k⟩:=hh;have lists:yY d=true->((dH d h).map λp=>(D.lv (cutD p.1 lo hi),h))=some (z,h')->∃T id,typeLookup (.type T) "__getitem__"=pure (some (.builtin id))/\s.TypeIs v T/\wpAny (model X.prog X.w) X.A (getItem v (.ref sl)) (EP X pins σ Q) X.xe s:=by
  intro nt e2;obtain⟨⟨xs,ws⟩,e1,e2⟩:=hW e2;cases e2;obtain⟨a,rfl,⟨vs,q,l⟩,_⟩:=qF S rd e1;rw[nt] at q;cases q with
  | l q=>exact Ft pins s σ H _ v vl vu lo hi sl Q I rx hs pl pu ⟨a,vs,rfl,q,λp hp=>k _ _ (.lv S (l.sf lo hi) hp)⟩
 cases d with
 | str x0=>
  unfold MB at ee;dsimp only at ee
  by_cases c:x0.length<=sizeLine
  ·rw[P0 c] at ee;cases ee;cases rd with | str hs0=>
   exact Im pins s σ H _ v vl vu lo hi sl Q I rx hs pl pu ⟨x0,rfl,c,k _ _ (.here S (.str (wK _ _ hs0)))⟩
  ·rw[P7 c] at ee;cases ee
 | tup xs=>
  unfold MB at ee;dsimp only at ee
  by_cases c:HT.cN xs.length 0 lo=0/\HT.cN xs.length xs.length hi=xs.length
  ·rw[P0 c] at ee;cases ee
  ·rw[P7 c] at ee;cases ee;cases rd with | tup h0 l0=>
   exact Il pins s σ H _ v vl vu lo hi sl Q I rx hs pl pu ⟨_,_,rfl,h0.sq,by rw[l0.length];exact c,λp hp=>k _ _ (.tup S (l0.sf lo hi) hp)⟩
 | _=>exact lists rfl ee
theorem CK{x:Str}{id:String}{p pos:Pos}{e:Expr}{es:List Expr}{f:Fn}{m:AM}(hc:gU X (.builtin id) f)(hg:Gl X x)(hm:X.mg x=none)(hv:bootBuiltins x=some (.builtin id))(ha:SA X (e::es) m)(hn:x≠"__name__":=by decide)(hdb:(x==("__debug__":Str))=false:=by ac_nf)
  (he:starEach (e::es) X.env=(false,eval e X.env)::starEach es X.env:=by ac_nf) (hpl:(backTo pos (starEach es X.env)).any (·.1)=false:=by ac_nf):SE X (.Call (.Name x p) (e::es) [] pos) (ay f m):=
 (xi hc hg hm hv ha hn hdb he hpl).imp λσ H Q ⟨ρ,δ,h,d,h',R,S,e,k⟩=>by
  obtain⟨⟨ds,h1⟩,e1,e2⟩:=bA e;exact⟨ρ,δ,h,ds,h1,R,S,e1,λvs ρ1 H1 T1 S1 r1=>⟨ρ1,h1,ds,d,h',S1,r1,e2,λv H' P=>k v H' (P.step T1)⟩⟩
theorem CJ{x:Str}{id:String}{p pos:Pos}{e:Expr}{es:List Expr}{f:Fn}{m:AM}(hc:gU X (.type id) f)(hg:Gl X x)(hm:X.mg x=none)(hv:bootBuiltins x=some (.type id))(ha:SA X (e::es) m)(hn:x≠"__name__":=by decide)(hdb:(x==("__debug__":Str))=false:=by ac_nf)
  (he:starEach (e::es) X.env=(false,eval e X.env)::starEach es X.env:=by ac_nf) (hpl:(backTo pos (starEach es X.env)).any (·.1)=false:=by ac_nf):SE X (.Call (.Name x p) (e::es) [] pos) (ay f m):=
 (tS hc hg hm hv ha hn hdb he hpl).imp λσ H Q ⟨ρ,δ,h,d,h',R,S,e,k⟩=>by
  obtain⟨⟨ds,h1⟩,e1,e2⟩:=bA e;exact⟨ρ,δ,h,ds,h1,R,S,e1,λvs ρ1 H1 T1 S1 r1=>⟨ρ1,h1,ds,d,h',S1,r1,e2,λv H' P=>k v H' (P.step T1)⟩⟩
noncomputable def dE:Fn:=λds h=>match ds with
 | [.str z]=>if z.length<=sizeLine then some (.int z.length,h) else none
 | [d]=>match eC d h with
  | some kvs=>some (.int kvs.length,h)
  | none=>(dH d h).map λp=>(.int p.1.length,h)
 | _=>none
noncomputable def Kf:Fn:=λds h=>match ds with
 | [.int i]=>some (.int (if i < 0 then -i else i),h)
 | _=>none
noncomputable def dY:Fn:=λds h=>match ds with
 | [d]=>(dH d h).map λp=>(.tup p.1,h)
 | _=>none
theorem rep1{K:FR}{ρ:Ad}{H:Hp}{vs:List V}{d:D}(l:aC K ρ H vs [d]):∃v,vs=[v]/\Rep K ρ H v d:=by
 cases l with
 | cons r l=>cases l;exact⟨_,rfl,r⟩
theorem rep2{K:FR}{ρ:Ad}{H:Hp}{vs:List V}{d e:D}(l:aC K ρ H vs [d,e]):∃v u,vs=[v,u]/\Rep K ρ H v d/\Rep K ρ H u e:=by
 cases l with
 | cons r l=>cases l with
  | cons r' l=>cases l;exact⟨_,_,rfl,r,r'⟩
theorem Eo:gU X (.builtin "len") dE:=by
 intro pins s σ H xs us Q I r hh;obtain⟨ρ,h,ds,z,h',S,l,ee,k⟩:=hh
 match ds,l,ee with
 | [],_,ee=>cases ee
 | _::_::_,_,ee=>exact absurd ee (by unfold dE;split <;> simp_all)
 | [d],l,ee=>
  obtain⟨v,rfl,rd⟩:=rep1 l;have oth:(match eC d h with | some kvs=>some (D.int kvs.length,h) | none=>(dH d h).map λp=>(D.int p.1.length,h))=some (z,h')->wpAny (model X.prog X.w) X.A (call (.builtin "len") us) (EP X pins σ Q) X.xe s:=by
   intro ee;cases q:eC d h with
   | some kvs=>
    rw[q] at ee;cases ee;obtain⟨a,ws,rfl,ha,lk⟩:=ja S rd q;refine BF pins s σ H _ us Q I r ⟨a,ws,rfl,ha,k _ _ ?_⟩;rw[lk.length];exact .here S (.int _)
   | none=>
    rw[q] at ee;obtain⟨⟨ys,w⟩,e1,e2⟩:=hW ee;cases e2;obtain⟨a,vs,rfl,hq,l2⟩:=lK S rd e1;refine vW pins s σ H _ us Q I r ⟨a,vs,rfl,hq,k _ _ ?_⟩;rw[l2.length];exact .here S (.int _)
  cases d with
  | str x0=>
   unfold dE at ee;dsimp only at ee
   by_cases c:x0.length<=sizeLine
   ·rw[P0 c] at ee;cases ee;cases rd;exact vV pins s σ H _ us Q I r ⟨x0,rfl,c,k _ _ (.here S (.int _))⟩
   ·rw[P7 c] at ee;cases ee
  | _=>exact oth ee
theorem Kp:gU X (.builtin "abs") Kf:=by
 intro pins s σ H xs us Q I r hh;obtain⟨ρ,h,ds,z,h',S,l,ee,k⟩:=hh
 match ds,l,ee with
 | [],_,ee=>cases ee
 | d::_::_,_,ee=>cases d <;> exact bN ee
 | [d],l,ee=>
  obtain⟨v,rfl,rd⟩:=rep1 l;cases rd <;> first |(exact bN ee) | skip
  cases ee;exact EA pins s σ H _ us Q I r ⟨_,rfl,k _ _ (.here S (.int _))⟩
theorem mT:gU X (.type "tuple") dY:=by
 intro pins s σ H xs us Q I r hh;obtain⟨ρ,h,ds,z,h',S,l,ee,k⟩:=hh
 match ds,l,ee with
 | [],_,ee=>cases ee
 | _::_::_,_,ee=>cases ee
 | [d],l,ee=>
  obtain⟨v,rfl,rd⟩:=rep1 l;obtain⟨⟨ys,w⟩,e1,e2⟩:=hW ee;cases e2;obtain⟨a,rfl,⟨vs,q,l2⟩,_⟩:=qF S rd e1;refine tD pins s σ H _ us Q I r ⟨a,vs,rfl,?_⟩;generalize hb:yY d=b at q;cases q with
  | l q=>exact .inl ⟨q,λp hp=>k _ _ (.tup S l2 hp)⟩
  | t q=>
   refine .inr ⟨q,k _ _ ?_⟩;cases rd <;> first |(cases hb;done) | skip
   cases e1;exact .here S (.tup ‹_› ‹_›)
noncomputable def EU(m:AM):AM:=λδ h=>(m δ h).bind λp=>match p.1 with
 | [d]=>(dH d p.2).map λq=>(q.1,p.2)
 | _=>none
theorem Fv(hg:Gl X x)(hm:X.mg x=none)(hv:bootBuiltins x=some (.type "list"))(ha:SA X [e] m)(hl:lE m 1)(hn:x≠"__name__":=by decide)(hdb:(x==("__debug__":Str))=false:=by ac_nf)(he:starEach [e] X.env=(false,eval e X.env)::starEach [] X.env:=by ac_nf)(hpl:(backTo pos (starEach [] X.env)).any (·.1)=false:=by ac_nf):lC X (.Call (.Name x p) [e] [] pos) (EU m):=
 (tS vU hg hm hv ha hn hdb he hpl).imp λσ H Q zz=>by
  obtain⟨ρ,δ,h,d,h',R,S,e,k⟩:=zz;obtain⟨⟨ds,h1⟩,e1,e2⟩:=bA e;refine⟨ρ,δ,h,ds,h1,R,S,e1,λvs ρ1 H1 T1 S1 r1=>?_⟩;obtain⟨d,rfl⟩:=RM.mp (hl _ _ _ _ e1);obtain⟨⟨ys,w⟩,e3,e4⟩:=hW e2;cases e4;obtain⟨v,rfl,rd⟩:=rep1 r1;obtain⟨a,ws,rfl,hq,l2⟩:=lK S1 rd e3;exact⟨a,ws,rfl,hq,λl hl=>k ρ1 H1 l ws T1 S1 hl l2⟩
noncomputable def tw(o i v:D)(h:MH):Option MH:=match o with
 | .ob n=>match h[n]? with
  | some (.lst xs)=>match i with
   | .int j=>(tu xs.length j).map λp=>h.set n (.lst (xs.set p v))
   | _=>none
  | some (.dct kvs)=>(vF i).bind λk=>if kvs.length < sizeLine then some (h.set n (.dct (putD kvs k v))) else none
  | _=>none
 | _=>none
noncomputable def pN(o i:EM):GM:=λv δ h=>(o δ h).bind λp=>(i δ p.2).bind λq=>(tw p.1 q.1 v q.2).map λh'=>(δ,h')
inductive HD(K:FR)(o i v:V)(H:Hp)(Q:Hp->Prop):Prop where
 | mk (ρ h a b c h'):bL K ρ h H->Rep K ρ H o a->Rep K ρ H i b->Rep K ρ H v c->(tw a b c h=some h')->(∀ρ' H',cY ρ H ρ' H'->bL K ρ' h' H'->Q H')->HD K o i v H Q
def Oi(K:FR):V->V->V->Hp->(Hp->Prop)->Prop:=λo i v H Q=>HD K o i v H Q
theorem FW(hu:X.A.units+64 < cLine):K2 X (Oi X.K):=by
 intro pins s σ H o i v ov iv u Q I ro ri rv hh;obtain⟨ρ,h,a,b,c,h',S,ra,rb,rc,ee,k⟩:=hh;cases ra <;> first |(exact bN ee) | skip
 rename_i a n hn;unfold tw at ee;dsimp only at ee;cases q:h[n]? with
 | none=>rw[q] at ee;cases ee
 | some w=>
  rw[q] at ee;have x:=S.at_ n a w hn q;have ma:=PX hn;cases w with
  | lst xs=>
   dsimp only at ee;cases rb <;> first |(exact bN ee) | skip
   rename_i j;obtain⟨p,e1,e2⟩:=hW ee;cases e2;obtain⟨vs,e3,l⟩:=x;have T:cY ρ H ρ (upd H a (.lst (vs.set p v))):=cY.wrote S ma;exact set_list pins s σ H _ _ v ov iv u Q I ro ri rv ⟨a,vs,j,p,rfl,rfl,e3,by rw[l.length];exact e1,k ρ _ T (S.wrote hn ⟨_,aO,(l.set rc p).mono T.toCh⟩)⟩
  | dct kvs=>
   dsimp only at ee;obtain⟨ky,e1,e2⟩:=bA ee
   by_cases z:kvs.length < sizeLine
   ·rw[P0 z] at e2;cases e2;obtain⟨us,e3,l⟩:=x;have ek:=j7 rb e1;subst ek;obtain rfl:ov=Value.ref a:=ro;have T:cY ρ H ρ (upd H a (.dK (putK us ky v))):=cY.wrote S ma;exact By (by lia) I (GZ.k e3 (by rw[l.length];exact z)) ri rv λs' I'=>⟨_,I',k ρ _ T (S.wrote hn ⟨_,aO,(l.put rc).mono T.toCh⟩)⟩
   ·rw[P7 z] at e2;cases e2
  | dcH _=>exact bN ee
  | exc _=>exact bN ee
theorem ju (hu:X.A.units+64 < cLine) (ho:SE X o mo) (hi:SE X i mi) (ha:∀v,assign (.Subscript o i pos) X.env v=(do
   let ov<-holding [v] (eval o X.env);let iv<-holding [v,ov] (eval i X.env)
   standAt pos
   holding [v,ov,iv] (setItem ov iv v)
   release [v,ov,iv] []):=by intro _;ac_nf):SG X (.Subscript o i pos) (pN mo mi):=
 (Jb ho hi (FW hu) ha).imp λv σ H Q ⟨ρ,δ,h,d,δ',h',R,S,r,e,k⟩=>by
  obtain⟨⟨x,h1⟩,e1,e2⟩:=bA e;obtain⟨⟨y,h2⟩,e3,e4⟩:=bA e2;obtain⟨h3,e5,e6⟩:=hW e4;cases e6;exact⟨ρ,δ,h,x,h1,R,S,e1,λov H1 ⟨ρ1,T1,S1,r1⟩=>⟨ρ1,δ,h1,y,h2,R.mono T1,S1,e3,λiv H2 ⟨ρ2,T2,S2,r2⟩=>
   ⟨ρ2,h2,x,y,d,_,S2,r1.mono T2,r2,r.mono (T1.trans T2).toCh,e5,λρ3 H3 T3 S3=>k ρ3 H3 σ (T1.trans (T2.trans T3)) S3 (R.mono (T1.trans (T2.trans T3)).toCh)⟩⟩⟩
abbrev zv:=D->List D->MH->Option (D×MH)
inductive Pl(K:FR)(f:zv)(x:V)(vs:List V)(H:Hp)(Q:VK):Prop where
 | mk (ρ h d ds z h'):bL K ρ h H->Rep K ρ H x d->aC K ρ H vs ds->(f d ds h=some (z,h'))->(∀v H',dG K ρ H h' z v H'->Q v H')->Pl K f x vs H Q
def rM(K:FR)(f:zv):V->List V->Hp->VK->Prop:=λx vs H Q=>Pl K f x vs H Q
noncomputable def eM(isT:D->MH->Bool)(f:zv)(o:EM)(m:AM):EM:=λδ h=>(o δ h).bind λp=>if isT p.1 p.2 then(m δ p.2).bind λq=>f p.1 q.1 q.2 else none
noncomputable def cX(d:D)(h:MH):Bool:=(eB d h).isSome
noncomputable def DW(d:D)(h:MH):Bool:=(eC d h).isSome
noncomputable def du:zv:=λd ds h=>match d,ds with
 | .ob n,[y]=>match h[n]? with
  | some (.lst xs)=>if xs.length < sizeLine then some (.cw,h.set n (.lst (xs++[y]))) else none
  | _=>none
 | _,_=>none
noncomputable def jZ:zv:=λd ds h=>match d,ds with
 | .ob n,[y]=>match h[n]? with
  | some (.lst xs)=>(eB y h).bind λzs=>if xs.length+zs.length<=sizeLine then some (.cw,h.set n (.lst (xs++zs))) else none
  | _=>none
 | _,_=>none
noncomputable def Gm:zv:=λd ds h=>match d,ds with
 | .ob n,[]=>match h[n]? with
  | some (.lst xs)=>(xs[xs.length-1]?).map λy=>(y,h.set n (.lst xs.dropLast))
  | _=>none
 | _,_=>none
theorem iP{K:FR}{ρ:Ad}{H:Hp}{h:MH}{v:V}{d:D}(S:bL K ρ h H)(r:Rep K ρ H v d)(e:cX d h=true):G1 K "list" v H:=by
 obtain⟨xs,e1⟩:=RD.mp e;obtain⟨a,vs,rfl,ha,_⟩:=eR S r e1;exact .inl ⟨rfl,vs,ia.of ha⟩
theorem HY{K:FR}{ρ:Ad}{H:Hp}{h:MH}{v:V}{d:D}(S:bL K ρ h H)(r:Rep K ρ H v d)(e:DW d h=true):G1 K "dict" v H:=by
 obtain⟨xs,e1⟩:=RD.mp e;obtain⟨a,vs,rfl,ha,_⟩:=ja S r e1;exact .inr (.inr (.inl ⟨rfl,.inl ⟨vs,ha⟩⟩))
theorem kl{T id:String}{name:Str}{o e:Expr}{es:List Expr}{apos cpos:Pos}{f:zv}{mo:EM}{m:AM}{isT:D->MH->Bool}(hT:∀{K:FR} {ρ:Ad} {H:Hp} {h:MH} {v:V} {d:D},bL K ρ h H->Rep K ρ H v d->isT d h=true->G1 K T v H)
  (pa:PlainAttrs T) (slot:Slot T name id) (hty:typeOf (.builtin id)=pure (.type "method_descriptor")) (hm:yi X id (rM X.K f)) (ho:SE X o mo) (ha:SA X (e::es) m)
  (hbase:attributeBase o name X.env (eval o X.env)=eval o X.env:=by ac_nf)
  (hfew:((backTo cpos (starEach (e::es) X.env)).all (λx=>!x.1)&&(backToKw cpos (keywordEach [] X.env)).all (λx=>x.1.isSome)
   &&decide ((e::es).length+([]:List Keyword).length+(if([]:List Keyword).isEmpty then 0 else 1) < 30))=true:=by ac_nf)
  (hline:(apos.endLine==cpos.line)=true:=by ac_nf) (hs:starEach (e::es) X.env=(false,eval e X.env)::starEach es X.env:=by ac_nf) (hplain:(backTo cpos (starEach es X.env)).any (·.1)=false:=by ac_nf):
  SE X (.Call (.Attribute o name apos) (e::es) [] cpos) (eM isT f mo m):=(L7 pa slot hty hm ho ha hbase hfew hline hs hplain).imp λσ H Q ⟨ρ,δ,h,d,h',R,S,e,k⟩=>by
 obtain⟨⟨x,h1⟩,e1,e2⟩:=bA e;dsimp only at e2
 by_cases c:isT x h1=true
 ·rw[P0 c] at e2;obtain⟨⟨ds,h2⟩,e3,e4⟩:=bA e2;exact⟨ρ,δ,h,x,h1,R,S,e1,λv H1 ⟨ρ1,T1,S1,r1⟩=>⟨hT S1 r1 c,ρ1,δ,h1,ds,h2,R.mono T1,S1,e3,λvs ρ2 H2 T2 S2 r2=>⟨ρ2,h2,x,ds,d,h',S2,r1.mono T2,r2,e4,λw H3 p=>k w H3 (p.step (T1.trans T2))⟩⟩⟩
 ·rw[P7 c] at e2;cases e2
theorem LK{T id:String}{name:Str}{o:Expr}{apos cpos:Pos}{f:zv}{mo:EM}{isT:D->MH->Bool}(hT:∀{K:FR} {ρ:Ad} {H:Hp} {h:MH} {v:V} {d:D},bL K ρ h H->Rep K ρ H v d->isT d h=true->G1 K T v H)
  (pa:PlainAttrs T) (slot:Slot T name id) (hty:typeOf (.builtin id)=pure (.type "method_descriptor")) (hm:yi X id (rM X.K f)) (ho:SE X o mo)
  (hbase:attributeBase o name X.env (eval o X.env)=eval o X.env:=by ac_nf) (hline:(apos.endLine==cpos.line)=true:=by ac_nf):
  SE X (.Call (.Attribute o name apos) [] [] cpos) (eM isT f mo aR):=(Jj pa slot hty hm ho hbase hline).imp λσ H Q ⟨ρ,δ,h,d,h',R,S,e,k⟩=>by
 obtain⟨⟨x,h1⟩,e1,e2⟩:=bA e;dsimp only at e2
 by_cases c:isT x h1=true
 ·rw[P0 c] at e2;exact⟨ρ,δ,h,x,h1,R,S,e1,λv H1 ⟨ρ1,T1,S1,r1⟩=>⟨hT S1 r1 c,ρ1,h1,x,[],d,h',S1,r1,.nil,e2,λw H3 p=>k w H3 (p.step T1)⟩⟩
 ·rw[P7 c] at e2;cases e2
theorem yP{K:FR}{ρ:Ad}{H:Hp}{h:MH}{n:Nat}{xs:List D}{v:V}(S:bL K ρ h H)(r:Rep K ρ H v (.ob n))(q:h[n]?=some (.lst xs)):∃a vs,v=.ref a/\ρ.ob[n]?=some a/\H a=some (.lst vs)/\aC K ρ H vs xs:=by
 cases r with
 | ob hn=>obtain⟨vs,e,l⟩:=S.at_ n _ _ hn q;exact⟨_,vs,rfl,hn,e,l⟩
theorem jY:yi X "list.append" (rM X.K du):=by
 intro pins s σ H x xs v us Q I rx rs hh;obtain⟨ρ,h,d,ds,z,h',S,rd,l,ee,k⟩:=hh;cases d <;> first |(exact bN ee) | skip
 rename_i n
 match ds,l,ee with
 | [],_,ee=>exact bN ee
 | _::_::_,_,ee=>exact bN ee
 | [y],l,ee=>
  unfold du at ee;dsimp only at ee;cases q:h[n]? with
  | none=>rw[q] at ee;cases ee
  | some w=>
   rw[q] at ee;cases w with
   | dct _=>exact bN ee
   | dcH _=>exact bN ee
   | exc _=>exact bN ee
   | lst ys=>
    dsimp only at ee
    by_cases c:ys.length < sizeLine
    ·rw[P0 c] at ee;cases ee;obtain⟨a,vs,rfl,hn,e1,l1⟩:=yP S rd q;obtain⟨u,rfl,ru⟩:=rep1 l;have T:cY ρ H ρ (upd H a (.lst (vs++[u]))):=cY.wrote S (PX hn);exact tX pins s σ H _ _ v us Q I rx rs ⟨a,vs,u,rfl,rfl,e1,by rw[l1.length];exact c,k _ _ ⟨ρ,T,S.wrote hn ⟨_,aO,(l1.snoc ru).mono T.toCh⟩,.cw⟩⟩
    ·rw[P7 c] at ee;cases ee
theorem tY:yi X "list.extend" (rM X.K jZ):=by
 intro pins s σ H x xs v us Q I rx rs hh;obtain⟨ρ,h,d,ds,z,h',S,rd,l,ee,k⟩:=hh;cases d <;> first |(exact bN ee) | skip
 rename_i n
 match ds,l,ee with
 | [],_,ee=>exact bN ee
 | _::_::_,_,ee=>exact bN ee
 | [y],l,ee=>
  unfold jZ at ee;dsimp only at ee;cases q:h[n]? with
  | none=>rw[q] at ee;cases ee
  | some w=>
   rw[q] at ee;cases w with
   | dct _=>exact bN ee
   | dcH _=>exact bN ee
   | exc _=>exact bN ee
   | lst ys=>
    dsimp only at ee;obtain⟨zs,e2,e3⟩:=bA ee
    by_cases c:ys.length+zs.length<=sizeLine
    ·rw[P0 c] at e3;cases e3;obtain⟨a,vs,rfl,hn,e1,l1⟩:=yP S rd q;obtain⟨u,rfl,ru⟩:=rep1 l;obtain⟨b,ws,rfl,eb,l2⟩:=eR S ru e2;have T:cY ρ H ρ (upd H a (.lst (vs++ws))):=cY.wrote S (PX hn);exact Bg pins s σ H _ _ v us Q I rx rs ⟨a,b,vs,ws,rfl,rfl,e1,eb,by rw[l1.length,l2.length];exact c,k _ _ ⟨ρ,T,S.wrote hn ⟨_,aO,(l1.append l2).mono T.toCh⟩,.cw⟩⟩
    ·rw[P7 c] at e3;cases e3
theorem JE:yi X "list.pop" (rM X.K Gm):=by
 intro pins s σ H x xs v us Q I rx rs hh;obtain⟨ρ,h,d,ds,z,h',S,rd,l,ee,k⟩:=hh;cases d <;> first |(exact bN ee) | skip
 rename_i n
 match ds,l,ee with
 | _::_,_,ee=>exact bN ee
 | [],l,ee=>
  unfold Gm at ee;dsimp only at ee;cases q:h[n]? with
  | none=>rw[q] at ee;cases ee
  | some w=>
   rw[q] at ee;cases w with
   | dct _=>exact bN ee
   | dcH _=>exact bN ee
   | exc _=>exact bN ee
   | lst ys=>
    dsimp only at ee;obtain⟨y,e2,e3⟩:=hW ee;cases e3;obtain⟨a,vs,rfl,hn,e1,l1⟩:=yP S rd q;cases l;obtain⟨u,e4,r4⟩:=l1.got e2;have T:cY ρ H ρ (upd H a (.lst vs.dropLast)):=cY.wrote S (PX hn);exact JC pins s σ H _ _ v us Q I rx rs ⟨a,vs,u,rfl,rfl,e1,by rw[l1.length];exact e4,k _ _ ⟨ρ,T,S.wrote hn ⟨_,aO,l1.dropLast.mono T.toCh⟩,r4.mono T.toCh⟩⟩
end Sm
namespace Sb
open PySem L2 PySem.Spec PyProof.Rows
open Builtin.SmallTypes (nextOf ownedTupleIsFree ownedTupleHandOut)
noncomputable def kn:Bool->String
 | true=>"list_iterator"
 | false=>"tuple_iterator"
def At(b:Bool)(h:Heap)(j l:Addr)(i:Nat):Prop:=∃o,h.get? j=some o/\o.cls=.type (kn b)/\o.data=.fields #[.ref l,.int i 0]
def Of(b:Bool)(h:Heap)(l:Addr)(items:Array Value):Prop:=match b with
 | true=>h.IsList l items
 | false=>h.IsTuple l items
theorem At.up(x:At b h j l i)(k:∀o,h.get? j=some o->h'.get? j=some o):At b h' j l i:=let⟨o,e,r⟩:=x;⟨o,k o e,r⟩
theorem At.lt(x:At b h j l i):j < h.objs.size:=let⟨_,e,_⟩:=x;Qf e
theorem Mj(hj:At b s.heap j l i)(hl:Of b s.heap l items)(hx:items[i]?=some x)(k:∀h',At b h' j l (i+1)->Heap.SameBut j s.heap h'->Q x {s with heap:=h'}):wpAny (model P w) A (nextOf (.ref j)) Q E s:=by
 cases b with
 | true=>exact wpAny_nextOf_list_item (show s.heap.IsListIter j l i from hj) (show s.heap.IsList l items from hl) hx k
 | false=>
  have hj':s.heap.IsTupleIter j l i:=hj;obtain⟨o,eo,ec,ed⟩:=hj';obtain⟨ol,el,_,nl,edl⟩:=(show s.heap.IsTuple l items from hl);unfold nextOf;refine PY (Rp (name:=Str.ofString "__next__") (show s.TypeIs (.ref j) "tuple_iterator" from⟨o,eo,ec⟩) R8
   (Rx R8 (show s.TypeIs (.ref j) "tuple_iterator" from⟨o,eo,ec⟩) UG ?_ (UB _)))
  show wpAny _ _ (field (.ref j) 0 >>=_) _ _ s;refine PY (Q8 eo ed (x:=.ref l) rfl ?_);show wpAny _ _ (if(Value.ref l==Value.none)=true then _ else _) _ _ s;rw[P7 (show ¬((Value.ref l==Value.none)=true) by exact RP)];show wpAny _ _ (field (.ref j) 1 >>=_) _ _ s;refine PY (Q8 eo ed (x:=.int i 0) rfl ?_);show wpAny _ _ (seqItems? (.ref l) >>=_) _ _ s;refine PY (wpAny_seqItems el edl ?_);simp only[RC,hx];refine PY (wpAny_setField eo ed (by simp) (Qh ⟨x,rfl,Qh (k _ ?_ (Heap.SameBut.update ..))⟩));exact⟨_,Heap.get?_update_self _ eo (Obj.isFreed_of_fields (Obj.data_mapFields ed _)),(Obj.cls_mapFields ..).trans ec,by rw[Obj.data_mapFields ed];simp[rawInt]⟩
theorem Mk(hh:A.handled=none)(hj:At b s.heap j l i)(hl:Of b s.heap l items)(hx:items[i]?=none)(k:∀h' e,Heap.ExtBut j s.heap h'->(∃o,h'.get? e=some o/\o.cls=.type "StopIteration")->E (.ref e) {s with heap:=h'}):wpAny (model P w) A (nextOf (.ref j)) Q E s:=by
 cases b with
 | true=>exact wpAny_nextOf_list_end hh (show s.heap.IsListIter j l i from hj) (show s.heap.IsList l items from hl) hx k
 | false=>
  have hj':s.heap.IsTupleIter j l i:=hj;obtain⟨o,eo,ec,ed⟩:=hj';obtain⟨ol,el,_,nl,edl⟩:=(show s.heap.IsTuple l items from hl);unfold nextOf;refine PY (Rp (name:=Str.ofString "__next__") (show s.TypeIs (.ref j) "tuple_iterator" from⟨o,eo,ec⟩) R8
   (Rx R8 (show s.TypeIs (.ref j) "tuple_iterator" from⟨o,eo,ec⟩) UG ?_ (UB _)))
  show wpAny _ _ (field (.ref j) 0 >>=_) _ _ s;refine PY (Q8 eo ed (x:=.ref l) rfl ?_);show wpAny _ _ (if(Value.ref l==Value.none)=true then _ else _) _ _ s;rw[P7 (show ¬((Value.ref l==Value.none)=true) by exact RP)];show wpAny _ _ (field (.ref j) 1 >>=_) _ _ s;refine PY (Q8 eo ed (x:=.int i 0) rfl ?_);show wpAny _ _ (seqItems? (.ref l) >>=_) _ _ s;refine PY (wpAny_seqItems el edl ?_);simp only[RC,hx];refine PY (TY (PY (wpAny_setField eo ed (by simp) ?_)));show wpAny _ _ (newExc (.type "StopIteration") [] >>=_) _ _ _;refine PY ?_;simp only[newExc,newTuple];refine PY (Ro ?_ (by size_fits));refine PY (m:=firstArgMember _ _) (wpAny_of_eq (a:=Value.none) (by first |(simp only[firstArgMember];rfl) | rfl) ?_);refine Ro ?_ (by size_fits);simp only[raiseNew];refine PY (wpAny_handled ?_)
  first | rw[hh] | rw[show A.in1.handled=none from hh]
  refine PY (Qh (wpAny_throw (k _ _ (((Heap.SameBut.update ..).extBut.push _).push _) ⟨_,Qt _ rfl,rfl⟩)))
open Builtin.SmallTypes (nextOf ownedTupleIsFree ownedTupleHandOut)
variable {P:Program} {w:World} {A:Around} {E:Value->Shared->Prop} {s:Shared} {b c:Bool}
theorem Bx{e j l:Addr}{i:Nat}{items:Array Value}{x old:Value}{Q:Option Value->Shared->Prop}(hE:IsEnum s.heap e j i old)(hj:At b s.heap j l i)(hl:Of b s.heap l items)(hx:items[i]?=some x)(ne:e≠j)
  (k:∀h',IsEnumOut h' e j ((i:Int)+1) x s.heap.objs.size->At b h' j l (i+1)->h'.get? s.heap.objs.size=some {cls:=.type "tuple",data:=.seq #[.int i s.toks,x]}->h'.objs.size=s.heap.objs.size+1->
   (∀a o,a≠e->a≠j->s.heap.get? a=some o->h'.get? a=some o)->Q (some (.ref s.heap.objs.size)) {s with heap:=h',toks:=s.toks+1}):wpAny (model P w) A (pyNext (.ref e)) Q E s:=by
 have hT:s.TypeIs (.ref e) "enumerate":=⟨_,hE,rfl⟩;unfold pyNext;refine PY (TX (Rp (name:=Str.ofString "__next__") hT RZ (Rx RZ hT F.entry_enumerate_next ?_ (U0 _))));obtain⟨hp,g,d,tk,os⟩:=s;show wpAny _ _ (field (.ref e) 2 >>=_) _ _ _;refine PY (Q8 hE rfl (x:=.ref j) rfl (PY (Mj hj hl hx λk₁ j₁ t₁=>?_)));replace t₁:Heap.SameBut j hp k₁:=t₁;have E₁:IsEnum k₁ e j i old:=(t₁.2 e ne).trans hE;show wpAny _ _ (field (.ref e) 3 >>=_) _ _ ⟨k₁,g,d,tk,os⟩;refine PY (Q8 E₁ rfl (x:=rawInt i) rfl ?_);show wpAny _ _ (field (.ref e) 4 >>=_) _ _ ⟨k₁,g,d,tk,os⟩;refine PY (Q8 E₁ rfl (x:=.none) rfl ?_);show wpAny _ _ (mkInt i >>=_) _ _ ⟨k₁,g,d,tk,os⟩;refine PY (wpAny_mkInt ?_);show wpAny _ _ (setField (.ref e) 3 (rawInt ((i:Int)+1)) >>=_) _ _ ⟨k₁,g,d,tk+1,os⟩;refine PY (wpAny_setField_rec E₁ (by simp) λk₂ E₂ t₂=>?_);replace t₂:Heap.SameBut e k₁ k₂:=t₂;replace E₂:IsEnum k₂ e j ((i:Int)+1) old:=E₂;show wpAny _ _ (setField (.ref e) 4 .none >>=_) _ _ ⟨k₂,g,d,tk+1,os⟩;refine PY (wpAny_setField_rec E₂ (by simp) λk₃ E₃ t₃=>?_);replace t₃:Heap.SameBut e k₂ k₃:=t₃;replace E₃:IsEnum k₃ e j ((i:Int)+1) old:=E₃;show wpAny _ _ (newTuple [.int i tk,x] >>=_) _ _ ⟨k₃,g,d,tk+1,os⟩;refine PY (wpAny_newTuple ?_);have E₄:IsEnum (k₃.push {cls:=.type "tuple",data:=.seq #[.int i tk,x]}) e j ((i:Int)+1) old:=P9 _ E₃;generalize eq₄:k₃.push {cls:=.type "tuple",data:=.seq #[.int i tk,x]}=k₄ at E₄;have sz:k₃.objs.size=hp.objs.size:=by rw[t₃.1,t₂.1,t₁.1]
 have lte:e < hp.objs.size:=Qf hE;have tp:k₄.get? hp.objs.size=some {cls:=.type "tuple",data:=.seq #[.int i tk,x]}:=by rw[<-eq₄,<-sz];exact Qt _ rfl
 have sz₄:k₄.objs.size=hp.objs.size+1:=by rw[<-eq₄,Td,sz]
 have up₄:∀a o,a≠e->a≠j->hp.get? a=some o->k₄.get? a=some o:=λa o z1 z2 q=>by
  rw[<-eq₄];exact P9 _ (t₃.extBut a o z1 (t₂.extBut a o z1 (t₁.extBut a o z2 q)))
 have j₄:At b k₄ j l (i+1):=j₁.up λo q=>by rw[<-eq₄];exact P9 _ (t₃.extBut j o (Rl ne) (t₂.extBut j o (Rl ne) q))
 show wpAny _ _ (ownedTupleIsFree (.ref e) >>=_) _ _ ⟨k₄,g,d,tk+1,os⟩;rw[sz];clear eq₄ E₃ t₃ E₂ t₂ E₁ t₁ j₁ sz k₃ k₂ k₁;refine PY ?_;unfold ownedTupleIsFree;refine PY (Q8 E₄ rfl (x:=.none) rfl (Qh ?_));simp only[Sj];refine PY (TY (PY (Q8 E₄ rfl (x:=old) rfl (PY (wpAny_setField_rec E₄ (by simp) λk₅ E₅ t₅=>?_)))));replace t₅:Heap.SameBut e k₄ k₅:=t₅;replace E₅:IsEnum k₅ e j ((i:Int)+1) x:=E₅;show wpAny _ _ (ownedTupleHandOut (.ref e) (.ref hp.objs.size) >>=_) _ _ ⟨k₅,g,d,tk+1,os⟩;refine PY ?_;unfold ownedTupleHandOut;refine PY (wpAny_setField_rec E₅ (by simp) λk₆ E₆ t₆=>?_);replace t₆:Heap.SameBut e k₅ k₆:=t₆;replace E₆:IsEnumOut k₆ e j ((i:Int)+1) x hp.objs.size:=E₆;refine wpAny_setField_rec E₆ (by simp) λk₇ E₇ t₇=>?_;replace t₇:Heap.SameBut e k₆ k₇:=t₇;replace E₇:IsEnumOut k₇ e j ((i:Int)+1) x hp.objs.size:=E₇;have up:∀a o,a≠e->k₄.get? a=some o->k₇.get? a=some o:=λa o z q=>t₇.extBut a o z (t₆.extBut a o z (t₅.extBut a o z q));refine PY (wpAny_letGo (Qh ⟨_,rfl,Qh (k k₇ E₇ (j₄.up λo q=>up j o (Rl ne) q) (up _ _ (SR lte) tp) ?_ λa o z1 z2 q=>up a o z1 (up₄ a o z1 z2 q))⟩));rw[t₇.1,t₆.1,t₅.1,sz₄]
theorem Ef{e j l:Addr}{i:Nat}{items:Array Value}{old:Value}{Q:Option Value->Shared->Prop}(hh:A.handled=none)(hE:IsEnum s.heap e j i old)(hj:At b s.heap j l i)(hl:Of b s.heap l items)(hx:items[i]?=none)
  (k:∀h',Heap.ExtBut j s.heap h'->Q none {s with heap:=h'}):wpAny (model P w) A (pyNext (.ref e)) Q E s:=by
 have hT:s.TypeIs (.ref e) "enumerate":=⟨_,hE,rfl⟩;unfold pyNext;refine PY (TX (Rp (name:=Str.ofString "__next__") hT RZ (Rx RZ hT F.entry_enumerate_next ?_ (U0 _))));show wpAny _ _ (field (.ref e) 2 >>=_) _ _ _;refine PY (Q8 hE rfl (x:=.ref j) rfl (PY (Mk hh hj hl hx λh' y he' ⟨o,ho,hc⟩=>?_)));exact PY (wpAny_isInstance (T:="StopIteration") (b:=true) ⟨o,ho,hc⟩ isSubtype_stop (Qh (k _ he')))
theorem Bw(x:Of b s.heap l items)(k:∀h',IsEnum h' (s.heap.objs.size+1) s.heap.objs.size 0 .none->At b h' s.heap.objs.size l 0->h'.objs.size=s.heap.objs.size+2->(∀a o,s.heap.get? a=some o->h'.get? a=some o)->Q (.ref (s.heap.objs.size+1)) {s with heap:=h'}):
  wpAny (model P w) A (call (.type "enumerate") [.ref l]) Q E s:=by
 cases b with
 | true=>exact call_enumerate_list (show s.heap.IsList l items from x) k
 | false=>
  have mt:PySem.Meets (Builtin.«enumerate.__new__» ⟨[.type "enumerate",.ref l],[]⟩) (λ_ R s=>s.heap.IsTuple l items/\
    R (.ok (.ret (.ref (s.heap.push {cls:=.type "tuple_iterator",data:=.fields #[.ref l,.int 0 0]}).objs.size)))
     {s with heap:=(s.heap.push {cls:=.type "tuple_iterator",data:=.fields #[.ref l,.int 0 0]}).push {cls:=.type "enumerate",data:=.fields #[.none,.bool false,.ref s.heap.objs.size,rawInt 0,.none,.none]}}):=
   .of_wp λprog w A R s h=>by
    obtain⟨hp,g,d,tk,os⟩:=s;obtain⟨hl,h⟩:=h;have sub:=sub_enumerate;have hL:Heap.IsTuple (Shared.heap ⟨hp,g,d,tk,os⟩) l items:=hl;obtain⟨o0,e0,c0,n0,d0⟩:=id hL
    wp_walk
    refine wpAny_stack_any λst=>Qh ?_
    split
    ·rename_i c _ _ _ _ _;cases(c==Value.type "enumerate")
     ·wp_walk using Tc hL
      exact⟨_,rfl,h⟩
     ·wp_walk using Tc hL
      exact⟨_,rfl,h⟩
    ·wp_walk using Tc hL
     exact⟨_,rfl,h⟩
  refine callType_new F.called_enumerate (by decide) (F.typeCall_enumerate_1 _) (F.newCall_enumerate_1 _) (λobj=>F.args_object_init_2 obj _) F.entry_enumerate_new mt ⟨x,?_⟩;have z1:(s.heap.push {cls:=.type "tuple_iterator",data:=.fields #[.ref l,.int 0 0]}).objs.size=s.heap.objs.size+1:=Td ..;show _/\_;rw[z1];have eE:IsEnum ((s.heap.push {cls:=.type "tuple_iterator",data:=.fields #[.ref l,.int 0 0]}).push
    {cls:=.type "enumerate",data:=.fields #[.none,.bool false,.ref s.heap.objs.size,rawInt 0,.none,.none]}) (s.heap.objs.size+1) s.heap.objs.size 0 .none:=by
   have q:=Qt (s.heap.push {cls:=.type "tuple_iterator",data:=.fields #[.ref l,.int 0 0]}) (o:={cls:=.type "enumerate",data:=.fields #[.none,.bool false,.ref s.heap.objs.size,rawInt 0,.none,.none]}) rfl;rw[z1] at q;exact q
  refine⟨⟨_,eE,rfl⟩,k _ eE ⟨_,P9 _ (Qt _ rfl),rfl,rfl⟩ (by rw[Td,z1]) λa o q=>P9 _ (P9 _ q)⟩
end Sb
namespace Sb
open PySem L2 PySem.Spec PyProof.Rows
open Builtin.SmallTypes (nextOf ownedTupleIsFree ownedTupleHandOut)
section
variable {X:Cx} {pins:List (Addr×Obj)} {σ:L2.St} {H:Hp} {s:Shared} {h':Heap} {fp:List Addr}
theorem zy(I:L2.Inv X pins σ H s)(k:∀b o,b∉fp->s.heap.get? b=some o->h'.get? b=some o)(hf:∀b∈fp,kr X pins H b):L2.Inv X pins σ H {s with heap:=h',toks:=t'}:=by
 have nit:∀b u,H b=some u->b∉fp:=λb u e z=>by rw[(hf b z).1] at e;cases e
 have nL:X.env.locals∉fp:=λz=>(hf _ z).2.1 rfl;refine I.step (g':=s.gens) (d':=s.drawn) (ch:=fp) (λb hb=>?_) (λb o _ _ hc e _=>k b o hc e) (λb o _ _ hc e _=>⟨o.slots,k b o hc e⟩) (λ_ _ _ _ n=>n)
  (λb o hc e=>⟨o,k b o hc e⟩) (λ_ _ e=>e) (λ_ _ _ e=>e) (λb ps e=>⟨#[],by rw[e];simp⟩) (λm hm=>?_) (λb u e=>?_) I.bare
 ·obtain⟨f0,f1,f2,f3,f4,f5⟩:=hf b hb;exact⟨f3,f1,f4,f5⟩
 ·obtain⟨o,es,ep,ho,r⟩:=hm;exact⟨o,es,ep,k _ o nL ho,r⟩
 ·refine(I.ba b u e).nE (λc v hc q=>k c v ?_ q) (λ_ q=>q) λ_ _ q=>q;rcases hc with z | z
  ·rw[z];exact nit b u e
  ·exact nit c _ z
theorem Fi(I:L2.Inv X pins σ H s)(k:∀b o,b∉fp->s.heap.get? b=some o->h'.get? b=some o)(hf:∀b∈fp,kr X pins H b)(hlt:∀b∈fp,b < s.heap.objs.size)(ht:h'.get? s.heap.objs.size=some {cls:=.type "tuple",data:=.seq us.toArray n})(r:Vals vs us)(hz:vs.length<=sizeLine):L2.Inv X pins σ (upd H s.heap.objs.size (.tup vs)) {s with heap:=h',toks:=t'}:=by
 have nit:∀b u,H b=some u->b∉fp:=λb u e z=>by rw[(hf b z).1] at e;cases e
 have nL:X.env.locals∉fp:=λz=>(hf _ z).2.1 rfl;have hp:H s.heap.objs.size=none:=I.ba.fresh (PZ _);have np:∀b o,s.heap.get? b=some o->b≠s.heap.objs.size:=λb o e=>Qs (Qf e);have nH:∀b u,H b=some u->b≠s.heap.objs.size:=λb u e=>aI e hp;refine I.step (g':=s.gens) (d':=s.drawn) (ch:=fp) (λb hb=>?_) (λb o _ _ hc e _=>k b o hc e) (λb o _ _ hc e _=>⟨o.slots,k b o hc e⟩) (λb o _ e n=>by rw[av (np b o e)];exact n)
  (λb o hc e=>⟨o,k b o hc e⟩) (λb _ e=>by rw[av (nH b _ e)];exact e) (λb _ _ e=>by rw[av (nH b _ e)];exact e) (λb ps e=>⟨#[],by rw[av (nH b _ e),e];simp⟩) (λm hm=>?_) (λb u e=>?_) I.bare
 ·obtain⟨f0,f1,f2,f3,f4,f5⟩:=hf b hb;exact⟨f3,f1,f4,f5⟩
 ·obtain⟨o,es,ep,ho,q⟩:=hm;exact⟨o,es,ep,k _ o nL ho,q⟩
 ·by_cases z:b=s.heap.objs.size
  ·subst z;rw[aO] at e;cases e;exact⟨hz,us,r,⟨_,ht,rfl,⟨n,rfl⟩,rfl⟩⟩
  ·rw[av z] at e;refine(I.ba b u e).nE (λc v hc q=>k c v ?_ q) (λc q=>?_) (λc u q=>?_) λc u q=>?_
   ·rcases hc with y | y
    ·rw[y];exact nit b u e
    ·exact nit c _ y
   ·rw[av (nH _ _ q)];exact q
   ·rw[av (nH _ _ q)];exact q
   ·rw[av (nH _ _ q)];exact q
end
def Fb(b:Bool)(K:FR)(H:Hp)(l:Addr)(xs:List V):Prop:=match b with
 | true=>ia K H l xs
 | false=>ko K H l xs
theorem Fb.of(I:L2.Inv X pins σ H s)(q:Fb b X.K H l xs):∃its:List Value,Vals xs its/\Of b s.heap l its.toArray:=by
 cases b with
 | true=>obtain⟨its,r,p,_⟩:=I.list (show ia X.K H l xs from q);exact⟨its,r,p.isList⟩
 | false=>obtain⟨its,r,p,_⟩:=I.tuple (show ko X.K H l xs from q);exact⟨its,r,p⟩
theorem Fb.inj(I:L2.Inv X pins σ H s)(q:Fb b X.K H l xs)(q':Fb b X.K H l ys):xs=ys:=by
 cases b with
 | true=>exact I.xy q q'
 | false=>exact I.tF q q'
noncomputable def Pq(b:Bool)(K:FR)(l:Addr):It:=
 ⟨λi H=>∃xs x,Fb b K H l xs/\xs[i]?=some x,λi H x H'=>∃p y,H p=none/\x=.ref p/\H'=upd H p (.tup [.int (i:Int),y])/\∀xs,Fb b K H l xs->xs[i]?=some y,λi H=>∃xs,Fb b K H l xs/\xs.length<=i⟩
theorem AH{P:Program}{w:World}{K:FR}{es:List Expr}{k0:Nat}{pos:Pos}(b:Bool)(l e j:Addr)(ne:e≠j):Turn P w K (.Tuple es k0 pos) (Pq b K l) [e,j] e (λi h=>(∃old,IsEnum h e j i old)/\At b h j l i) where
 mem:=by simp
 obj:=λi h st a ha=>by
  obtain⟨⟨old,h1⟩,o,h2,_,d2⟩:=st;simp at ha;rcases ha with rfl | rfl
  ·exact⟨_,h1,λv z=>by cases z⟩
  ·exact⟨o,h2,λv z=>by rw[d2] at z;cases z⟩
 keep:=λi h h' ⟨⟨old,h1⟩,h2⟩ k=>⟨⟨old,k e (by simp) _ h1⟩,h2.up λo q=>k j (by simp) o q⟩
 item:=by
  intro X hP hw hK hc i pins s σ H E I hf st hg;subst hP hw hK;obtain⟨xs,x,hq,hx⟩:=hg;obtain⟨⟨old,h1⟩,h2⟩:=st;obtain⟨its,rv,hO⟩:=hq.of I;obtain⟨u,hu,ru⟩:=rv.get hx;have hlt:∀a∈[e,j],a < s.heap.objs.size:=λa ha=>by
   simp at ha;rcases ha with rfl | rfl
   ·exact Qf h1
   ·exact h2.lt
  refine Bx h1 h2 hO (x:=u) (by simpa using hu) ne λh' a1 a2 a3 a4 a5=>⟨_,rfl,wpAny_letOwnedTupleGo_enum a1 λh'' b1 b2=>?_⟩;have hp:H s.heap.objs.size=none:=I.ba.fresh (PZ _);have I1:=Fi (t':=s.toks+1) (vs:=[.int (i:Int),x]) (us:=[.int i s.toks,u]) (n:=0) I (λa o ha q=>a5 a o (λz=>ha (by simp[z])) (λz=>ha (by simp[z])) q) hf hlt a3 (.cons ⟨_,rfl⟩ (.cons ru .nil)) (show 2<=sizeLine by decide);have hf1:∀a∈[e,j],kr X pins (upd H s.heap.objs.size (.tup [.int (i:Int),x])) a:=λa ha=>by
   obtain⟨f0,f⟩:=hf a ha;exact⟨by rw[av (Qs (hlt a ha))];exact f0,f⟩
  have I2:=zy (t':=s.toks+1) I1 (h':=h'') (λa o ha q=>b2.extBut a o (λz=>ha (by simp[z])) q) hf1;exact⟨.ref s.heap.objs.size,_,I2,rfl,⟨_,x,hp,rfl,rfl,λys hy=>by rw[hy.inj I hq];exact hx⟩,⟨⟨_,by simpa using b1⟩,a2.up λo q=>b2.extBut j o (Rl ne) q⟩,λa ha=>(hf1 a ha).1⟩
 done:=by
  intro X hP hw hK hc i pins s σ H E I hf st hg;subst hP hw hK;obtain⟨xs,hq,hx⟩:=hg;obtain⟨⟨old,h1⟩,h2⟩:=st;obtain⟨its,rv,hO⟩:=hq.of I;have hl:=rv.length;exact Ef (I.ok.hd hc) h1 h2 hO (by simp;lia) λh' eb=>⟨rfl,zy (t':=s.toks) I (λa o ha q=>eb a o (λz=>ha (by simp[z])) q) hf⟩
 self:=λA i s Q E ⟨⟨old,h1⟩,_⟩ q=>by
  have hT:s.TypeIs (.ref e) "enumerate":=⟨_,h1,rfl⟩;refine wpAny_pyIter_slot hT F.slot_enumerate_iter (Rx F.slot_enumerate_iter hT F.entry_enumerate_iter ?_ (F.args_enumerate_iter_1 _));show wpAny _ _ (ret (.ref e)) _ _ s;exact Qh ⟨_,rfl,"enumerate",_,hT,RZ.lookup,q⟩
theorem BI:bootBuiltins "enumerate"=some (.type "enumerate"):=by decide+kernel
theorem F4(hg:Gl X "enumerate")(hm:X.mg "enumerate"=none)(ha:PA X [a] ta)(hs:starEach [a] X.env=[(false,eval a X.env)]:=by ac_nf):
  PI X (.Tuple es k0 tpos) (.Call (.Name "enumerate" p) [a] [] pos) (λσ H R=>ta σ H λvs H1=>∃l b,vs=[.ref l]/\(∃xs,Fb b X.K H1 l xs)/\R (Pq b X.K l) H1):=by
 intro pins s σ H R I h;refine Call_ (k9 I hg hm BI (Rk (dh (ha pos pins s σ H _ I h) λus s1 ⟨vs,H1,I1,r1,q1⟩=>?_) hs rfl));obtain⟨l,b,e,⟨xs,hq⟩,q⟩:=q1;subst e;obtain⟨u,rfl,ru⟩:=Vals.one r1;obtain rfl:u=Value.ref l:=ru;obtain⟨its,rv,hO⟩:=hq.of I1;refine Bw hO λh' a1 a2 a3 a4=>?_;have I2:L2.Inv X pins σ H1 {s1 with heap:=h'}:=I1.kept (t':=s1.toks) a4;have hf:∀c∈[s1.heap.objs.size+1,s1.heap.objs.size],kr X pins H1 c:=λc hc=>by
  simp at hc;rcases hc with rfl | rfl
  ·exact I1.D0 (Se _) (I1.ba.fresh (Se _))
  ·exact I1.D0 (PZ _) (I1.ba.fresh (PZ _))
 have T:=AH (P:=X.prog) (w:=X.w) (K:=X.K) (es:=es) (k0:=k0) (pos:=tpos) b l (s1.heap.objs.size+1) s1.heap.objs.size (Nat.succ_ne_self _);refine T.self X.A 0 {s1 with heap:=h'} _ X.xe ⟨⟨_,a1⟩,a2⟩ ?_;exact⟨_,[s1.heap.objs.size+1,s1.heap.objs.size],_,_,H1,rfl,I2,T,⟨⟨_,a1⟩,a2⟩,hf,q⟩
end Sb
namespace Sm
open PySem L2 PySem.Spec PyProof.Rows
noncomputable def kI:Nat->List D->List D
 | _,[]=>[]
 | k,x::r=>.tup [.int (k:Int),x]::kI (k+1) r
theorem oq:∀(xs:List D)(k i:Nat),(kI k xs)[i]?=(xs[i]?).map λx=>.tup [.int ((k+i:Nat):Int),x]
 | [],k,i=>by simp[kI]
 | x::r,k,0=>by simp[kI]
 | x::r,k,i+1=>by
  show(kI (k+1) r)[i]?=_;rw[oq r (k+1) i];simp only[Rf];congr 1
  funext y
  rw[show k+1+i=k+(i+1) by lia]
theorem cL:∀(xs:List D)(k:Nat),(kI k xs).length=xs.length
 | [],_=>rfl
 | _::r,k=>by simp[kI,cL r (k+1)]
theorem SeqAt.Nv{K:FR}{H:Hp}{a:Addr}{vs:List V}{b:Bool}(q:SeqAt K H a vs b):Sb.Fb b K H a vs:=by
 cases q with
 | l q=>exact q
 | t q=>exact q
noncomputable def rL(m:AM):IM:=λδ h=>(m δ h).bind λp=>match p.1 with
 | [d]=>(dH d p.2).map λq=>(kI 0 q.1,q.2,p.2)
 | _=>none
theorem OA{α:Type}{l:List α}(h:l.length=2):∃a b,l=[a,b]:=by
 cases l with
 | nil=>cases h
 | cons a l=>obtain⟨b,rfl⟩:=RM.mp (Nat.succ.inj h);exact⟨a,b,rfl⟩
theorem lJ(hg:Gl X "enumerate")(hm:X.mg "enumerate"=none)(ha:SA X [a] m)(hl:lE m 1)(hs:starEach [a] X.env=[(false,eval a X.env)]:=by ac_nf):SI X (.Tuple es k0 tpos) (.Call (.Name "enumerate" p) [a] [] pos) (rL m):=
 (Sb.F4 hg hm ha hs).imp λσ H Q zz=>by
  obtain⟨ρ,δ,h,xs,ws,h',R,S,e,k⟩:=zz;obtain⟨⟨ds,h1⟩,e1,e2⟩:=bA e;refine⟨ρ,δ,h,ds,h1,R,S,e1,λvs ρ1 H1 T1 S1 r1=>?_⟩;obtain⟨d,rfl⟩:=RM.mp (hl _ _ _ _ e1);obtain⟨⟨ys,w⟩,e3,e4⟩:=hW e2;cases e4;obtain⟨v,rfl,rd⟩:=rep1 r1;obtain⟨a,rfl,⟨us,q,l⟩,st⟩:=qF S1 rd e3;refine⟨a,yY d,rfl,⟨us,q.Nv⟩,k _ ρ1 H1 T1 S1 ⟨λρ2 H2 h2 T2 S2 hc i=>?_⟩⟩;obtain⟨ws,l2,q2⟩:=st ρ2 H2 h2 T2 S2 hc;refine⟨λhi=>⟨ws,q2.Nv,by rw[l2.length];rw[cL] at hi;exact hi⟩,λx hx=>?_⟩;rw[oq] at hx;obtain⟨y,ey,hx⟩:=hW hx;subst hx;obtain⟨v,ev,rv⟩:=l2.got ey;refine⟨⟨ws,v,q2.Nv,ev⟩,λu H3 ⟨p,y',hp,hu,hH,hy⟩=>?_⟩;subst hu;subst hH;have hy':y'=v:=by have:=hy ws q2.Nv;rw[ev] at this;exact(Option.some.inj this).symm
  subst hy';refine⟨cY.laid S2 hp,S2.laid hp,.tup (.inl ⟨.inl aO,S2.fresh hp⟩) (.cons ?_ (.cons (rv.mono (cY.laid S2 hp).toCh) .nil))⟩;rw[QL];exact .int _
noncomputable def vN(ls:List (Key×D)):List (Key×D)->Option Bool
 | []=>some true
 |(k,v)::r=>match pF ls k with
  | none=>some false
  | some u=>(tQ v).bind λa=>(tQ u).bind λb=>if a.depth<=60/\b.depth<=60 then(vN ls r).map λc=>PyData.eqv a b&&c else none
noncomputable def Ei(ks ls:List (Key×D)):Option Bool:=if ks.length=ls.length then vN ls ks else some false
noncomputable def Ho(d e:D)(h:MH):Option Bool:=match eC d h,eC e h with
 | some ks,some ls=>Ei ks ls
 | _,_=>Hn d e h
noncomputable def cP(d e:D)(h:MH):Option (D×MH):=(Ho d e h).map λc=>(.bl c,h)
noncomputable def iD(d e:D)(h:MH):Option (D×MH):=(Ho d e h).map λc=>(.bl (!c),h)
theorem Gw(hu:X.A.units+64 < cLine)(I:L2.Inv X pins σ H s)(lb:bH X.K ρ H vs ls)(rb:KV vs kb):
  ∀{us:List (Key×V)} {ks:List (Key×D)} {ka:List (Key×Value)} {c:Bool},bH X.K ρ H us ks->KV us ka->vN ls ks=some c->PySem.W.KeqHits X.A.in1 s kb ka c:=by
 intro us
 induction us with
 | nil=>
  intro ks ka c a ra e;cases a;cases ra;cases e;exact .nil
 | cons u0 us ih=>
  intro ks ka c a ra e;cases a with | @cons k v _ d _ r l=>
  cases ra with
  | cons ra rr=>
   rename_i p ka;obtain⟨k',y⟩:=p;obtain⟨ek,ry⟩:=ra;dsimp only at ek ry;subst ek;simp only[vN] at e;have rel:=rb.val k;rcases lb.val k with⟨h1,h2⟩ |⟨d',v',h1,h2,r'⟩
   ·rw[h1] at e;cases e;rw[h2] at rel;refine .miss ?_;cases q:valueAt kb k with
    | none=>rfl
    | some _=>rw[q] at rel;exact rel.elim
   ·rw[h1] at e;obtain⟨a,e1,e⟩:=bA e;obtain⟨b,e2,e⟩:=bA e
    by_cases z:a.depth<=60/\b.depth<=60
    ·rw[P0 z] at e;obtain⟨c',e3,e4⟩:=hW e;subst e4;rw[h2] at rel;cases q:valueAt kb k with
     | none=>rw[q] at rel;exact rel.elim
     | some y'=>
      rw[q] at rel;obtain⟨r1,c1⟩:=r.sV e1;obtain⟨r2,c2⟩:=r'.sV e2;obtain⟨as,ra1⟩:=r1.reads I ry;obtain⟨bs,ra2⟩:=r2.reads I rel;refine .hit q (Sl a b _ s y y' as bs ra1 ra2 c1 c2 ?_) (ih l rr e3);have:min a.depth b.depth<=a.depth:=Tj _ _;show X.A.units+1+min a.depth b.depth < cLine
      lia
    ·rw[P7 z] at e;cases e
theorem Ee(hu:X.A.units+64 < cLine)(I:L2.Inv X pins σ H s)(rx:L2.RelV x v)(ry:L2.RelV y u)(S:bL X.K ρ h H)(rd:Rep X.K ρ H x d)(re:Rep X.K ρ H y e)(ee:Ho d e h=some c):
  (∀Q:Value->Shared->Prop,Q (.bool c) s->wpAny (model X.prog X.w) X.A (compareOp .Eq v u) Q X.xe s)/\∀Q:Value->Shared->Prop,Q (.bool (!c)) s->wpAny (model X.prog X.w) X.A (compareOp .NotEq v u) Q X.xe s:=by
 have data:Hn d e h=some c->(∀Q:Value->Shared->Prop,Q (.bool c) s->wpAny (model X.prog X.w) X.A (compareOp .Eq v u) Q X.xe s)/\∀Q:Value->Shared->Prop,Q (.bool (!c)) s->wpAny (model X.prog X.w) X.A (compareOp .NotEq v u) Q X.xe s:=by
  intro ee;obtain⟨a,e3,e4⟩:=bA ee;obtain⟨b,e5,e6⟩:=bA e4
  by_cases w:a.depth<=64/\b.depth<=64
  ·rw[P0 w] at e6;cases e6;obtain⟨r1,c1⟩:=mj S rd e3;obtain⟨r2,c2⟩:=mj S re e5;obtain⟨as,ra⟩:=r1.reads I rx;obtain⟨bs,rb⟩:=r2.reads I ry;exact⟨λQ q=>eq_dataH ra rb (kd c1 w.1) (kd c2 w.2) hu q,λQ q=>ne_dataH ra rb (kd c1 w.1) (kd c2 w.2) hu q⟩
  ·rw[P7 w] at e6;cases e6
 unfold Ho at ee;cases q1:eC d h with
 | none=>rw[q1] at ee;exact data ee
 | some ks=>
  cases q2:eC e h with
  | none=>rw[q1,q2] at ee;exact data ee
  | some ls=>
   rw[q1,q2] at ee;obtain⟨a,us,rfl,ha,la⟩:=ja S rd q1;obtain⟨b,ws,rfl,hb,lb⟩:=ja S re q2;obtain rfl:v=Value.ref a:=rx;obtain rfl:u=Value.ref b:=ry;obtain⟨_,na,ka,ra,da⟩:=Ak I.ba ha;obtain⟨_,nb,kb,rb,db⟩:=Ak I.ba hb;have l1:ka.length=ks.length:=by rw[<-la.length];exact(Paired.length ra).symm
   have l2:kb.length=ls.length:=by rw[<-lb.length];exact(Paired.length rb).symm
   dsimp only[Ei] at ee
   by_cases z:ks.length=ls.length
   ·rw[P0 z] at ee;have hits:=Gw hu I lb rb la ra ee;have ez:(ka.length==kb.length&&c)=c:=by rw[l1,l2,z,QP,Up]
    exact⟨λQ q=>PySem.W.keq_eq na nb da db (by lia) (λ_=>hits) (by rw[ez];exact q),λQ q=>PySem.W.keq_ne na nb da db (by lia) (λ_=>hits) (by rw[ez];exact q)⟩
   ·rw[P7 z] at ee;cases ee;have ez:(ka.length==kb.length&&false)=false:=Bool.and_false _;have nh:ka.length=kb.length->PySem.W.KeqHits X.A.in1 s kb ka false:=λq=>absurd (by rw[<-l1,<-l2];exact q) z;exact⟨λQ q=>PySem.W.keq_eq na nb da db (by lia) nh (by rw[ez];exact q),λQ q=>PySem.W.keq_ne na nb da db (by lia) nh (by rw[ez];exact q)⟩
theorem Jn(hu:X.A.units+64 < cLine):oA X (compareOp .Eq) cP:=by
 intro pins s σ H x y v u Q I rx ry hh;obtain⟨ρ,h,d,e,z,h',S,rd,re,ee,k⟩:=hh;obtain⟨c,e1,e2⟩:=hW ee;cases e2;exact(Ee hu I rx ry S rd re e1).1 _ ⟨.bl _,H,I,rfl,k _ _ (.here S (.bl _))⟩
theorem nS(hu:X.A.units+64 < cLine):oA X (compareOp .NotEq) iD:=by
 intro pins s σ H x y v u Q I rx ry hh;obtain⟨ρ,h,d,e,z,h',S,rd,re,ee,k⟩:=hh;obtain⟨c,e1,e2⟩:=hW ee;cases e2;exact(Ee hu I rx ry S rd re e1).2 _ ⟨.bl _,H,I,rfl,k _ _ (.here S (.bl _))⟩
noncomputable def yQ(acc:List (Key×D))(ps:List (Key×D)):List (Key×D):=ps.foldl (λa p=>putD a p.1 p.2) acc
theorem bH.merge{K:FR}{ρ:Ad}{H:Hp}:∀{kvs:List (Key×V)} {ps:List (Key×D)} {acc:List (Key×V)} {ac:List (Key×D)},bH K ρ H acc ac->bH K ρ H kvs ps->bH K ρ H (gp acc kvs) (yQ ac ps):=by
 intro kvs
 induction kvs with
 | nil=>intro ps acc ac a b;cases b;exact a
 | cons x kvs ih=>intro ps acc ac a b;cases b with | @cons k v _ d _ r l=>exact ih (acc:=putK acc k v) (ac:=putD ac k d) (a.put r) l
theorem Ar:bootBuiltins "list"=some (.type "list"):=by decide+kernel
theorem mX:bootBuiltins "tuple"=some (.type "tuple"):=by decide+kernel
theorem KA:bootBuiltins "int"=some (.type "int"):=by decide+kernel
theorem ED:bootBuiltins "str"=some (.type "str"):=by decide+kernel
theorem EF:bootBuiltins "len"=some (.builtin "len"):=by decide+kernel
theorem KC:bootBuiltins "abs"=some (.builtin "abs"):=by decide+kernel
noncomputable def HW(sc:Scope)(x:Str):Bool:=match sc.names.lookup x with
 | some .local=>true
 | some .cell=>true
 | some .free=>true
 | _=>false
noncomputable def Gp(sc:Scope)(x:Str):Bool:=match sc.names.lookup x with
 | some .local=>true
 | some .cell=>true
 | _=>false
noncomputable def Nz(X:Cx)(x:Str):Bool:=X.fn x||(match X.env.scope.names.lookup x with
 | some .local=>true
 | _=>false)
theorem HV(h:HW sc x=true):KS sc x:=by
 unfold HW at h
 split at h <;> first |(cases h;done) | skip
 ·exact .inl ‹_›
 ·exact .inr (.inl ‹_›)
 ·exact .inr (.inr ‹_›)
theorem DP(h:Gp sc x=true):Loc sc x:=by
 unfold Gp at h
 split at h <;> first |(cases h;done) | skip
 ·exact .inl ‹_›
 ·exact .inr ‹_›
theorem D3(h:Nz X x=true):X.fn x=true\/X.env.scope.names.lookup x=some .local:=by
 unfold Nz at h;rw[RS] at h;rcases h with h | h
 ·exact .inl h
 ·split at h
  ·exact .inr ‹_›
  ·cases h
theorem sv(i:Nat)(hN:X.N[i]?=some x:=by ac_nf)(hv:HW X.env.scope x=true:=by ac_nf)(hd:(x==("__debug__":Str))=false:=by ac_nf)(hcd:(x==("__classdict__":Str))=false:=by ac_nf):SE X (.Name x pos) (aw i):=Iq hN (HV hv) hd hcd
theorem sset(i:Nat)(hN:X.N.Nodup)(he:SE X e ma)(hi:X.N[i]?=some x:=by ac_nf)(hx:Gp X.env.scope x=true:=by ac_nf)(hs:swapsWith e (some (.Name x pos')) pos.line X.env=pure false:=by ac_nf)(hf:Nz X x=true:=by ac_nf):SS X (.Assign [.Name x pos'] e pos) (aQ i ma):=Ij hN hi (DP hx) he hs (D3 hf)
theorem sgn(i:Nat)(hN:X.N.Nodup)(hi:X.N[i]?=some x:=by ac_nf)(hx:Gp X.env.scope x=true:=by ac_nf)(hf:Nz X x=true:=by ac_nf):SG X (.Name x pos) (gN i):=Fu hN hi (DP hx) (D3 hf)
noncomputable def wX(i j:Nat)(m:AM):SM:=λδ h=>(m δ h).bind λp=>match p.1 with
 | [a,b]=>some (.nx,(δ.set i (some a)).set j (some b),p.2)
 | _=>none
theorem AN(i j:Nat){kt k2 pt2}(hN:X.N.Nodup)(hl:lE m 2)(hc:X.calm=true)(hij:i≠j)(P:PS X (.Assign [.Tuple [.Name x px,.Name y py] kt pt] (.Tuple [a,b] k2 pt2) pos) (Lw i j (O8 X.K m))):
  SS X (.Assign [.Tuple [.Name x px,.Name y py] kt pt] (.Tuple [a,b] k2 pt2) pos) (wX i j m):=P.imp λE σ H zz=>by
 obtain⟨ρ,δ,h,fl,δ',h',R,S,e,k⟩:=zz;obtain⟨⟨ds,h1⟩,e1,e2⟩:=bA e;refine⟨ρ,δ,h,ds,h1,R,S,e1,λvs ρ1 H1 T1 S1 r1=>?_⟩;obtain⟨d,d',rfl⟩:=OA (hl _ _ _ _ e1);cases e2;obtain⟨v,u,rfl,rd,rd'⟩:=rep2 r1;exact⟨v,u,rfl,k ρ1 H1 T1 S1 _ (((R.mono T1.toCh).set rd i).set rd' j)⟩
structure Df(P:Program)(w:World)(K:FR)(mg:Str->Option Value)(base:Heap)(nm:Str)(k:Nat)(ps:List Str)(n:Nat)(F:Fn):Prop where
 ex:∃(f:Addr)(fd:FuncData),eZ P w K mg base nv k f fd ps (AO K n F)/\PySem.W.keepIn K (.ref f)=true/\Binds K fd ps []/\mg nm=some (.ref f)
theorem LN(d:Df X.prog X.w X.K X.mg X.base nm k ps n F)(hr:cM k' X.A)(hk:k<=k')(ha:SA X (e::es) m)(hl:lE m n)(hg:Gl X nm:=by unfold Gl;ac_nf)(hdb:(nm==("__debug__":Str))=false:=by ac_nf)(he:starEach (e::es) X.env=(false,eval e X.env)::starEach es X.env:=by ac_nf)(hpl:(backTo pos (starEach es X.env)).any (·.1)=false:=by ac_nf):SE X (.Call (.Name nm p) (e::es) [] pos) (ay F m):=by
 obtain⟨f,fd,G,kf,bf,mf⟩:=d.ex;exact Fz G (hr.mono hk) hg mf kf bf ha hl hdb he hpl
theorem iY{P:Program}{w:World}{K:FR}{mg:Str->Option Value}{base:Heap}{k n:Nat}{f:Addr}{fd:FuncData}{ps:List Str}:eZ P w K mg base nv k f fd ps (AO K n λ_ _=>none):=
 ⟨λvs H Q E hh=>(by obtain⟨_,_,_,_,_,_,_,_,e,_⟩:=hh;cases e),λA outer s H args us vs Q E _ _ _ _ hh=>(by obtain⟨_,_,_,_,_,_,_,_,e,_⟩:=hh;cases e)⟩
end Sm
namespace L2
open PySem PySem.Spec PyProof.Rows
section
variable {X:Cx} {N':List Str} {caps:List (Option Nat)} {scope:Scope} {e tg iter:Expr} {ifs:List Expr} {p:Pos} {wi:TI} {g:TG} {tc:TT} {tm:Addr->TK} {o:Addr->HO} {na:Sem Value} {act:Addr->Env->Sem Unit}
end
end L2
namespace Sm
open PySem L2 PySem.Spec PyProof.Rows
structure Ac(α:Type)where
 at_:FR->Ad->Hp->Addr->α->Prop
 mono:∀{K:FR} {ρ ρ':Ad} {H H':Hp} {l:Addr} {a:α},at_ K ρ H l a->Ch ρ H ρ' H'->H' l=H l->at_ K ρ' H' l a
abbrev MK(α:Type):=DS->MH->α->Option (DS×MH×α)
section
variable {α:Type} {K:FR} {A:Ac α} {l:Addr} {g:GM} {mt:TM} {m:MK α}
end
section
variable {α:Type} {X:Cx} {A:Ac α} {g:GM} {mt:TM} {m:MK α} {mi:IM} {e tg iter:Expr} {ifs:List Expr} {d:Nat} {p:Pos} {act:Addr->Env->Sem Unit}
end
end Sm
namespace L2
open PySem PySem.Spec PyProof.Rows
section
variable {P:Program} {w:World} {A:Around} {E:Value->Shared->Prop} {s:Shared} {a:Addr} {ks:List Str}
end
noncomputable def BO(a b:Str):Bool:=!ltCps b.cps.toList a.cps.toList
theorem i7:BO a b=true↔strKind.kle a.cps.toList b.cps.toList:=by
 unfold BO KeyOrd.kle;rw[ltCps_eq];simp
theorem t6(a b c:Str)(h1:BO a b=true)(h2:BO b c=true):BO a c=true:=i7.mpr (KeyOrd.kle_trans (i7.mp h1) (i7.mp h2))
theorem Bn(a b:Str):(BO a b||BO b a)=true:=by
 rw[RS]
 by_cases z:strKind.klt b.cps.toList a.cps.toList
 ·exact .inr (i7.mpr (KeyOrd.kle_of_klt z))
 ·exact .inl (i7.mpr (KeyOrd.kle_of_not_klt z))
theorem DQ(a b:Str)(h1:BO a b=true)(h2:BO b a=true):a=b:=by
 have:=KeyOrd.kle_antisymm (i7.mp h1) (i7.mp h2);cases a;cases b;congr 1;exact Array.toList_inj.mp this
noncomputable def jg(ks:List Str):List Str:=ks.mergeSort BO
theorem gd(ks:List Str):(jg ks).Perm ks:=UR _ _
theorem uO(ks:List Str):(jg ks).Pairwise λa b=>BO a b=true:=Uw t6 Bn ks
theorem tR:∀(l:List Str)(p:Str),risingS p l=true->(p::l).Pairwise λa b=>BO a b=true
 | [],p,_=>by simp
 | x::r,p,h=>by
  have h':(!ltCps x.cps.toList p.cps.toList&&risingS x r)=true:=h;rw[Qw] at h';have ih:=tR r x h'.2;refine UW.mpr ⟨λy hy=>?_,ih⟩;rcases P5.mp hy with rfl | hy
  ·exact h'.1
  ·exact t6 _ _ _ h'.1 ((UW.mp ih).1 y hy)
theorem Cz(hp:ss.Perm ks)(h:sortedS ss=true):ss=jg ks:=by
 refine Uo (λa b _ _=>DQ a b) ?_ (uO ks) (hp.trans (gd ks).symm)
 match ss,h with
 | [],_=>exact .nil
 | x::r,h=>exact tR r x h
end L2
namespace Sm
open PySem L2 PySem.Spec PyProof.Rows
theorem bH.len{K:FR}{ρ:Ad}{H:Hp}:∀{us:List (Key×V)} {ks:List (Key×D)},bH K ρ H us ks->us.length=ks.length
 | _,_,.nil=>rfl
 | _,_,.cons _ r=>by rw[P2,P2,r.len]
end Sm
namespace L2
open PySem PySem.Spec PyProof.Rows
theorem AE{us:List Value}{ss:List Str}(a:StrsAre us ss):Vals (ss.map V.str) us:=by
 induction a with
 | nil=>exact .nil
 | cons x t r ih=>exact .cons ⟨t,rfl⟩ ih
end L2
namespace Sm
open PySem L2 PySem.Spec PyProof.Rows
section
variable {α:Type} {K:FR} {A:Ac α} {g:GM} {mt:TM} {m:MK α}
end
section
variable {X:Cx} {k v tg iter elt tg2 iter2:Expr} {pos:Pos} {mk mv me:EM} {mt mt2:TM} {g g2:GM} {N':List Str} {caps:List (Option Nat)} {scope:Scope} {ifs ifs2:List Expr} {mi mi2:IM}
theorem nG{K:FR}{ρ:Ad}{H:Hp}:∀(ss:List Str),(∀k∈ss,PyData.strOk k=true)->aC K ρ H (ss.map V.str) (ss.map D.str)
 | [],_=>.nil
 | x::r,h=>.cons (.str (h x P1)) (nG r λk hk=>h k (P4 _ hk))
end
end Sm
namespace L2
open PySem PySem.Spec PyProof.Rows
section
variable {X:Cx} {e st:Expr} {te ts:TE} {pos p2:Pos}
end
end L2
namespace Sm
open PySem L2 PySem.Spec PyProof.Rows
section
variable {X:Cx} {e st a b c:Expr} {ma ms mb mc:EM} {pos p2:Pos}
abbrev HE:=DS->MH->Option (List (Key×D)×MH)
noncomputable def Gd:HE:=λ_ h=>some ([],h)
noncomputable def fc(k v:EM)(r:HE):HE:=λδ h=>(k δ h).bind λp=>(v δ p.2).bind λq=>(vF p.1).bind λkk=>(r δ q.2).map λz=>((kk,q.1)::z.1,z.2)
inductive M4(K:FR)(m:HE)(σ:L2.St)(H:Hp)(Q:List (V×V)->Hp->Prop):Prop where
 | mk (ρ δ h kvs h'):cJ K ρ H σ δ->bL K ρ h H->(m δ h=some (kvs,h'))->(∀us ρ' H',cY ρ H ρ' H'->bL K ρ' h' H'->bH K ρ' H' us kvs->Q (us.map λkv=>(kV kv.1,kv.2)) H')->M4 K m σ H Q
def PB(K:FR)(m:HE):L2.St->Hp->(List (V×V)->Hp->Prop)->Prop:=λσ H Q=>M4 K m σ H Q
def SP(X:Cx)(pos:Pos)(keys:List (Option Expr))(vals:List Expr)(m:HE):Prop:=∃trs,K3 X pos keys vals trs/\∀σ H Q,PB X.K m σ H Q->uI trs σ H Q
theorem Cv:SP X pos [] [] Gd:=⟨[],FY,λσ H Q ⟨ρ,δ,h,kvs,h',R,S,e,k⟩=>by
 cases e;exact k [] ρ H (.refl _ _) S .nil⟩
theorem eJ(hk:SE X kx mk)(hv:SE X vx mv)(hr:SP X pos ks vs m):SP X pos (some kx::ks) (vx::vs) (fc mk mv m):=by
 obtain⟨trs,h1,h2⟩:=hr;refine⟨_,Dk hk hv h1,λσ H Q ⟨ρ,δ,h,kvs,h',R,S,ee,k⟩=>?_⟩;obtain⟨⟨x,ha⟩,e1,e2⟩:=bA ee;obtain⟨⟨y,hb⟩,e3,e4⟩:=bA e2;obtain⟨kk,e5,e6⟩:=bA e4;obtain⟨⟨zs,hz⟩,e7,e8⟩:=hW e6;cases e8;refine⟨ρ,δ,h,x,ha,R,S,e1,λv H1 ⟨ρ1,T1,S1,r1⟩=>⟨ρ1,δ,ha,y,hb,R.mono T1.toCh,S1,e3,λu H2 ⟨ρ2,T2,S2,r2⟩=>?_⟩⟩;refine h2 σ H2 _ ⟨ρ2,δ,hb,zs,_,(R.mono T1.toCh).mono T2.toCh,S2,e7,λus ρ3 H3 T3 S3 r3=>?_⟩;have ek:=j7 r1 e5;subst ek;exact k ((kk,u)::us) ρ3 H3 ((T1.trans T2).trans T3) S3 (.cons (r2.mono T3.toCh) r3)
noncomputable def Hq(m:HE):EM:=λδ h=>(m δ h).bind λp=>if p.1.length<=15 then some (.dv (yQ [] p.1),p.2) else none
theorem Fy(h:SP X pos keys vals m)(hall:keys.all (·.isSome)=true)(hl:keys.length=vals.length)(h0:keys≠[])(hp:∀trs,K3 X pos keys vals trs->PE X (.Dict keys vals pos) (Co trs)):SE X (.Dict keys vals pos) (Hq m):=by
 obtain⟨trs,h1,h2⟩:=h;refine(hp trs h1).imp λσ H Q ⟨ρ,δ,h,d,h',R,S,ee,k⟩ p hpn=>?_;obtain⟨⟨kvs,ha⟩,e1,e2⟩:=bA ee;dsimp only at e2
 by_cases z:kvs.length<=15
 ·rw[P0 z] at e2;cases e2;have Tl:Ch ρ H (ρ.keep p) (upd H p (.dK [])):=Ch.keep hpn;have nl:¬ρ.has p:=S.fresh hpn;refine h2 σ _ _ ⟨ρ.keep p,δ,h,kvs,_,R.mono Tl,S.keep hpn,e1,λus ρ2 H2 T2 S2 r2=>?_⟩;have hp2:H2 p=some (.dK []):=(T2.res p P1).trans aO;refine⟨hp2,us,rfl,by rw[r2.len];exact z,?_⟩;obtain⟨ob2,rs2⟩:=ρ2;have ers:rs2=p::ρ.rs:=T2.rs;subst ers;have hml:p∈(⟨ob2,p::ρ.rs⟩:Ad).rs:=P1;have hsub:∀b∈ρ.rs,b∈p::ρ.rs:=λb hb=>P4 _ hb;have hne:∀b∈ρ.rs,b≠p:=λb hb z=>nl (.inr (z ▸ hb));have Cp:Ch ⟨ob2,p::ρ.rs⟩ H2 ⟨ob2,p::ρ.rs⟩ (upd H2 p (.dK (gp [] us))):=Ch.put hml;have C2:Ch ⟨ob2,p::ρ.rs⟩ (upd H2 p (.dK (gp [] us))) ⟨ob2,ρ.rs⟩ (upd H2 p (.dK (gp [] us))):=Ch.free hsub;refine k _ _ ⟨⟨ob2,ρ.rs⟩,⟨((Tl.trans T2.toCh).trans Cp).trans C2,rfl,λb hb=>?_⟩,(S2.put hml).free hsub,.dv aO (λz=>?_) ((bH.merge .nil r2).mono (Cp.trans C2))⟩
  ·show upd H2 p _ b=H b;rw[av (hne b hb),T2.res b (hsub b hb)];exact av (hne b hb)
  ·rcases z with z | z
   ·exact(S2.sM p P1).2 z
   ·exact nl (.inr z)
 ·rw[P7 z] at e2;cases e2
end
end Sm
namespace L2
open PySem PySem.Spec PyProof.Rows
open HT in
theorem AI{t sl:Addr}{items:Array Value}{vl vu:Value}{lo hi:Option Int}{Q:Value->Shared->Prop}(ht:IsTup s.heap t items)(hs:s.heap.IsSliceOf sl vl vu .none)(pl:IsPart vl lo)(pu:IsPart vu hi)
  (hw:cN items.size 0 lo=0/\cN items.size items.size hi=items.size) (h:Q (.ref t) s):wpAny (model prog w) A (getItem (.ref t) (.ref sl)) Q E s:=by
 obtain⟨os,hos,hcs,km⟩:=id hs;have hTs:s.TypeIs (.ref sl) "slice":=⟨os,hos,hcs⟩;unfold getItem
 try with_reducible refine Sk ?_
 first | refine PY (Qh ?_) | skip
 refine PY (wpAny_sequenceKey ht.typeIs (by decide) ?_);refine PY (Rp (name:=Str.ofString "__getitem__") ht.typeIs QQ (Rx QQ ht.typeIs entry_tuple_getitem ?_ (args_tuple_getitem _ _)));show wpAny _ _ (Builtin.Tuple.tupleItemsOf (.ref t) >>=_) _ _ s;refine PY (tupleItemsOf_ ht (PY (wpAny_typeOf hTs ?_)));rw[P0 (by decide)];refine PY (ig hs pl pu ?_);show wpAny _ _ (if(((cN items.size 0 lo:Nat):Int)==0&&(1:Int)==1&&(cN items.size items.size hi-cN items.size 0 lo)==items.size)=true then _ else _) _ _ s;rw[P0 (by rw[hw.1,hw.2];simp)];unfold Builtin.Tuple.tupleIsExact;simp only[bind_assoc,pure_bind];refine PY (wpAny_typeOf ht.typeIs ?_);rw[P0 (by decide)]
 first
  | exact PY (TY (Qh ⟨_,rfl,Qh h⟩))
  | exact PY (TY (PY (Qh (Qh ⟨_,rfl,Qh h⟩))))
def Oc(K:FR):V->Option Int->Option Int->Hp->VK->Prop:=λx lo hi H Q=>∃a xs,x=.ref a/\ko K H a xs/\(HT.cN xs.length 0 lo=0/\HT.cN xs.length xs.length hi=xs.length)/\Q (.ref a) H
theorem CA:KZ X (Oc X.K):=by
 intro pins s σ H x v vl vu lo hi sl Q I rx hs pl pu h;obtain⟨a,xs,rfl,hx,hw,q⟩:=h;cases rx;obtain⟨its,r,ht,hz⟩:=I.tuple hx;have hlen:its.toArray.size=xs.length:=by rw[Qe];exact r.length.symm
 exact⟨"tuple",_,QQ.lookup,ht.typeIs,AI ht hs pl pu (by rw[hlen];exact hw) ⟨.ref a,H,I,rfl,q⟩⟩
end L2
namespace Sm
open PySem L2 PySem.Spec PyProof.Rows
section
variable {X:Cx}
noncomputable def i8(d:D)(lo hi:Option Int)(h:MH):Option (D×MH):=match d with
 | .tup xs=>if HT.cN xs.length 0 lo=0/\HT.cN xs.length xs.length hi=xs.length then some (.tup xs,h) else some (.tup (cutD xs lo hi),h)
 | d=>MB d lo hi h
noncomputable def jt(a:EM)(l u:PM):EM:=λδ h=>(a δ h).bind λp=>(l δ p.2).bind λq=>(u δ q.2).bind λr=>i8 p.1 q.1 r.1 r.2
inductive HC(K:FR)(x:V)(lo hi:Option Int)(H:Hp)(Q:VK):Prop where
 | mk (ρ h d z h'):bL K ρ h H->Rep K ρ H x d->(i8 d lo hi h=some (z,h'))->(∀v H',dG K ρ H h' z v H'->Q v H')->HC K x lo hi H Q
def Oh(K:FR):V->Option Int->Option Int->Hp->VK->Prop:=λx lo hi H Q=>HC K x lo hi H Q
theorem Ii:KZ X (Oh X.K):=by
 intro pins s σ H x v vl vu lo hi sl Q I rx hs pl pu hh;obtain⟨ρ,h,d,z,h',S,rd,ee,k⟩:=hh;cases d with
 | tup xs=>
  unfold i8 at ee;dsimp only at ee
  by_cases c:HT.cN xs.length 0 lo=0/\HT.cN xs.length xs.length hi=xs.length
  ·rw[P0 c] at ee;cases ee;have rd0:=rd;cases rd with | tup h0 l0=>
   exact CA pins s σ H _ v vl vu lo hi sl Q I rx hs pl pu ⟨_,_,rfl,h0.sq,by rw[l0.length];exact c,k _ _ (.here S rd0)⟩
  ·rw[P7 c] at ee;exact G5 pins s σ H x v vl vu lo hi sl Q I rx hs pl pu ⟨ρ,h,_,z,h',S,rd,by unfold MB;dsimp only;rw[P7 c];exact ee,k⟩
 | _=>exact G5 pins s σ H x v vl vu lo hi sl Q I rx hs pl pu ⟨ρ,h,_,z,h',S,rd,ee,k⟩
theorem CF{a:Expr}{lo hi:Option Expr}{pos p2:Pos}{ma:EM}{ml mu:PM}(ha:SE X a ma)(hl:SP' X lo ml)(hu:SP' X hi mu):SE X (.Subscript a (.Slice lo hi none p2) pos) (jt ma ml mu):=
 (Dr Ii ha hl hu).imp λσ H Q ⟨ρ,δ,h,d,h',R,S,e,k⟩=>by
  obtain⟨⟨x,h1⟩,e1,e2⟩:=bA e;obtain⟨⟨l,h2⟩,e3,e4⟩:=bA e2;obtain⟨⟨u,h3⟩,e5,e6⟩:=bA e4;exact⟨ρ,δ,h,x,h1,R,S,e1,λv H1 ⟨ρ1,T1,S1,r1⟩=>⟨ρ1,δ,h1,l,h2,R.mono T1.toCh,S1,e3,λρ2 H2 T2 S2=>⟨ρ2,δ,h2,u,h3,(R.mono T1.toCh).mono T2.toCh,S2,e5,λρ3 H3 T3 S3=>
   ⟨ρ3,h3,x,d,h',S3,r1.mono (T2.trans T3).toCh,e6,λw H4 p=>k w H4 (p.step (T1.trans (T2.trans T3)))⟩⟩⟩⟩
noncomputable def oj:Fn:=λds h=>match ds with
 | [.bl b]=>some (.int (if b then 1 else 0),h)
 | _=>none
theorem Ko:gU X (.type "int") oj:=by
 intro pins s σ H xs us Q I r hh;obtain⟨ρ,h,ds,z,h',S,l,ee,k⟩:=hh
 match ds,l,ee with
 | [],_,ee=>exact bN ee
 | _::_::_,_,ee=>exact absurd ee (by unfold oj;split <;> simp_all)
 | [d],l,ee=>
  obtain⟨v,rfl,rd⟩:=rep1 l;cases rd <;> first |(exact bN ee) | skip
  cases ee;obtain⟨u,rfl,ru⟩:=Vals.one r;cases ru;exact call_int_bool ⟨.int _,H,I.kept (t':=s.toks+1) (h':=s.heap) λ_ _ e=>e,⟨_,rfl⟩,k _ _ (.here S (.int _))⟩
noncomputable def iE(d e:D)(h:MH):Option (D×MH):=match d,e with
 | .str x,.int n=>if x.length<=1000/\0<=n/\n<=1000/\PyData.strOk (Txt.mul x n)=true then some (.str (Txt.mul x n),h) else none
 | d,e=>Kd d e h
theorem gI:oA X (binaryOp .Mult) iE:=by
 intro pins s σ H x y v u Q I rx ry hh;obtain⟨ρ,h,d,e,z,h',S,rd,re,ee,k⟩:=hh;unfold iE at ee
 split at ee
 ·rename_i x0 n
  by_cases c:x0.length<=1000/\0<=n/\n<=1000/\PyData.strOk (Txt.mul x0 n)=true
  ·rw[P0 c] at ee;cases ee;cases rd;cases re;obtain⟨t1,rfl⟩:=rx;obtain⟨t2,rfl⟩:=ry;obtain⟨c1,c2,c3,c4⟩:=c;refine SB.mul ⟨?_,λ_ _=>?_,λ_ _=>?_⟩ λt' k'=>⟨.str _,H,I.kept (t':=k') (h':=s.heap) λ_ _ e=>e,⟨t',rfl⟩,k _ _ (.here S (.str c4))⟩
   ·rw[QI (by lia),QI (by lia)];rfl
   ·have h1:(9007199254740991:Int)<=(2^63-1) / n:=by
     refine Int.le_ediv_of_mul_le (by lia) ?_;have:9007199254740991*n<=9007199254740991*1000:=Int.mul_le_mul_of_nonneg_left c3 (by decide)
     lia
    lia
   ·have h1:x0.length*n.toNat<=1000*1000:=Nat.mul_le_mul c1 (by lia);refine QI ?_;have:=Rv
    lia
  ·rw[P7 c] at ee;cases ee
 ·exact Jl pins s σ H x y v u Q I rx ry ⟨ρ,h,_,_,z,h',S,rd,re,ee,k⟩
noncomputable def jJ(f f':D->D->MH->Option (D×MH))(ma mb mc:EM):EM:=λδ h=>(ma δ h).bind λp=>(mb δ p.2).bind λq=>(f p.1 q.1 q.2).bind λr=>match r.1 with
 | .bl true=>(mc δ r.2).bind λu=>f' q.1 u.1 u.2
 | .bl false=>some (.bl false,r.2)
 | _=>none
theorem CQ(hh:tM X.K (jJ f f' ma mb mc) σ H Q):Cr (rS X.K f) (rS X.K f') (tM X.K ma) (tM X.K mb) (tM X.K mc) σ H Q:=by
 obtain⟨ρ,δ,h,d,h',R,S,ee,k⟩:=hh;obtain⟨⟨x,h1⟩,e1,e2⟩:=bA ee;obtain⟨⟨y,h2⟩,e3,e4⟩:=bA e2;obtain⟨⟨z,h3⟩,e5,e6⟩:=bA e4;dsimp only at e3 e5 e6;refine⟨ρ,δ,h,x,h1,R,S,e1,λv H1 ⟨ρ1,T1,S1,r1⟩=>⟨ρ1,δ,h1,y,h2,R.mono T1.toCh,S1,e3,λu H2 ⟨ρ2,T2,S2,r2⟩=>⟨ρ2,h2,x,y,z,h3,S2,r1.mono T2.toCh,r2,e5,λw H3 ⟨ρ3,T3,S3,r3⟩=>?_⟩⟩⟩;cases z with
 | bl b=>
  cases r3;refine⟨b,rfl,?_⟩;cases b with
  | false=>
   cases e6;exact Mr (k _ _ (dG.step (T1.trans (T2.trans T3)) (.here S3 (.bl false))))
  | true=>
   obtain⟨⟨u',h4⟩,e7,e8⟩:=bA e6;have T:=T1.trans (T2.trans T3);exact Mq ⟨ρ3,δ,h3,u',h4,R.mono T.toCh,S3,e7,λv' H4 ⟨ρ4,T4,S4,r4⟩=>⟨ρ4,h4,y,u',d,h',S4,r2.mono (T3.trans T4).toCh,r4,e8,λw' H5 P=>k w' H5 (P.step (T.trans T4))⟩⟩
 | _=>exact bN e6
theorem wL(ho:oA X (compareOp op) f)(ho':oA X (compareOp op') f')(ha:SE X a ma)(hb:SE X b mb)(hc:SE X c mc)(hm:lastMarks [op,op'] [b,c]=false:=by with_unfolding_all rfl):
  ST X (.Compare a [op,op'] [b,c] pos) (aD (jJ f f' ma mb mc)):=(Dd ho ho' ha hb hc hm).imp λσ H Q h=>CQ (FI h)
end
end Sm
namespace L2
open PySem PySem.Spec PyProof.Rows
section
variable {X:Cx} {e st:Expr} {te ts:TE} {pos p2:Pos}
end
end L2
namespace Sm
open PySem L2 PySem.Spec PyProof.Rows
section
variable {X:Cx} {e st:Expr} {ma ms:EM} {pos p2:Pos}
end
end Sm
namespace L2
open PySem PySem.Spec PyProof.Rows
open HT in
theorem Ey{t b:Addr}{vs ws:List Value}{Q:Value->Shared->Prop}(ht:IsTup s.heap t vs.toArray)(hb:IsTup s.heap b ws.toArray)(hv:vs=[])(h:Q (.ref b) s):wpAny (model prog w) A (binaryOp .Add (.ref t) (.ref b)) Q E s:=by
 obtain⟨⟨cls,dd,data,sl⟩,ho,hc,n,hd⟩:=id ht;obtain⟨⟨cls2,dd2,data2,sl2⟩,ho2,hc2,n2,hd2⟩:=id hb;simp only at hc hd hc2 hd2;subst hc hd hc2 hd2;exact concat_meets ⟨_,ho,rfl⟩ ⟨_,ho2,rfl⟩ Uk UT Tf Te (Ta _ _)
   (tuple_addW0 t b vs.toArray ws.toArray n n2 dd dd2 sl sl2 (by simp[hv])) ⟨ho,ho2,h⟩
theorem DE:oB X (binaryOp .Add) (λx y H Q=>∃a b ys,x=.ref a/\y=.ref b/\ko X.K H a []/\ko X.K H b ys/\Q (.ref b) H):=by
 intro pins s σ H x y v u Q I rx ry h;obtain⟨a,b,ys,rfl,rfl,ha,hb,q⟩:=h;cases rx;cases ry;obtain⟨its,r1,p1,_⟩:=I.tuple ha;obtain⟨its2,r2,p2,_⟩:=I.tuple hb;exact Ey p1 p2 (r1.pX.mpr rfl) ⟨.ref b,H,I,rfl,q⟩
end L2
namespace Sm
open PySem L2 PySem.Spec PyProof.Rows
noncomputable def ax(d e:D)(h:MH):Option (D×MH):=match d,e with
 | .tup [],.tup ys=>some (.tup ys,h)
 | d,e=>tx d e h
theorem bq:oA X (binaryOp .Add) ax:=by
 intro pins s σ H x y v u Q I rx ry hh;obtain⟨ρ,h,d,e,z,h',S,rd,re,ee,k⟩:=hh;unfold ax at ee
 split at ee
 ·cases ee;have re0:=re;cases rd with | tup h1 l1=>cases re with | tup h2 l2=>
  cases l1;exact DE pins s σ H _ _ v u Q I rx ry ⟨_,_,_,rfl,rfl,h1.sq,h2.sq,k _ _ (.here S re0)⟩
 ·exact Jp pins s σ H _ _ v u Q I rx ry ⟨ρ,h,_,_,z,h',S,rd,re,ee,k⟩
noncomputable def D8:Fn:=λds h=>match ds with
 | [.int i,.int j]=>some (.int (if j < i then j else i),h)
 | _=>none
noncomputable def rQ:Fn:=λds h=>match ds with
 | [.int i,.int j]=>some (.int (if j > i then j else i),h)
 | _=>none
theorem Kn(hc:X.calm=true):gU X (.builtin "min") D8:=by
 intro pins s σ H xs us Q I r hh;obtain⟨ρ,h,ds,z,h',S,l,ee,k⟩:=hh
 match ds,l,ee with
 | [],_,ee=>exact bN ee
 | [_],_,ee=>exact absurd ee (by unfold D8;split <;> simp_all)
 | _::_::_::_,_,ee=>exact absurd ee (by unfold D8;split <;> simp_all)
 | [d,e],l,ee=>
  obtain⟨v,w,rfl,rd,re⟩:=rep2 l;cases rd <;> first |(exact bN ee) | skip
  cases re <;> first |(exact bN ee) | skip
  cases ee;exact BD hc pins s σ H _ us Q I r ⟨_,_,rfl,k _ _ (.here S (.int _))⟩
theorem Em(hc:X.calm=true):gU X (.builtin "max") rQ:=by
 intro pins s σ H xs us Q I r hh;obtain⟨ρ,h,ds,z,h',S,l,ee,k⟩:=hh
 match ds,l,ee with
 | [],_,ee=>exact bN ee
 | [_],_,ee=>exact absurd ee (by unfold rQ;split <;> simp_all)
 | _::_::_::_,_,ee=>exact absurd ee (by unfold rQ;split <;> simp_all)
 | [d,e],l,ee=>
  obtain⟨v,w,rfl,rd,re⟩:=rep2 l;cases rd <;> first |(exact bN ee) | skip
  cases re <;> first |(exact bN ee) | skip
  cases ee;exact BE hc pins s σ H _ us Q I r ⟨_,_,rfl,k _ _ (.here S (.int _))⟩
noncomputable def JG:zv:=λd ds h=>(eC d h).bind λkvs=>match ds with
 | [k]=>(vF k).map λkey=>((pF kvs key).getD .cw,h)
 | [k,x]=>(vF k).map λkey=>((pF kvs key).getD x,h)
 | _=>none
theorem JF(hu:X.A.units+1 < cLine):yi X "dict.get" (rM X.K JG):=by
 intro pins s σ H x xs v us Q I rx rs hh;obtain⟨ρ,h,d,ds,z,h',S,rd,l,ee,k⟩:=hh;obtain⟨kvs,e1,e2⟩:=bA ee;obtain⟨a,ws,rfl,ha,lk⟩:=ja S rd e1;obtain rfl:v=Value.ref a:=rx
 match ds,l,e2 with
 | [],_,e2=>exact bN e2
 | [y],l,e2=>
  obtain⟨key,e3,e4⟩:=hW e2;cases e4;obtain⟨yv,rfl,ry⟩:=rep1 l;obtain⟨u,rfl,ru⟩:=Vals.one rs;have hy:=j7 ry e3;subst hy;refine Kl hu I (nr.k ha) ru λw' s' I' r'=>⟨_,H,I',r',k _ _ ?_⟩;rcases lk.val key with⟨q1,q2⟩ |⟨d',v',q1,q2,q3⟩
  ·rw[q1,q2];exact .here S .cw
  ·rw[q1,q2];exact .here S q3
 | [y,x0],l,e2=>
  obtain⟨key,e3,e4⟩:=hW e2;cases e4;obtain⟨yv,xv,rfl,ry,rx0⟩:=rep2 l;obtain⟨u,u2,rfl,ru,ru2⟩:=Vals.two rs;have hy:=j7 ry e3;subst hy;refine Kk hu I (nr.k ha) ru ru2 λw' s' I' r'=>⟨_,H,I',r',k _ _ ?_⟩;rcases lk.val key with⟨q1,q2⟩ |⟨d',v',q1,q2,q3⟩
  ·rw[q1,q2];exact .here S rx0
  ·rw[q1,q2];exact .here S q3
 | _::_::_::_,_,e2=>exact absurd e2 (by simp)
noncomputable def Ki(a b:EM):EM:=λδ h=>(a δ h).bind λp=>(yo p.1 p.2).bind λc=>if c=true then some p else b δ p.2
end Sm
namespace L2
open PySem PySem.Spec PyProof.Rows
section
variable {X:Cx} {a b:Expr} {rest:List Expr} {pos:Pos} {ta tb:TE}
theorem Jf(ha:PE X a ta)(hb:PE X (.BoolOp .Or (b::rest) pos) tb):PE X (.BoolOp .Or (a::b::rest) pos) (λσ H Q=>ta σ H λx H1=>∃c,GX X.K x H1 c/\if c=true then Q x H1 else tb σ H1 Q):=by
 intro pins s σ H Q I h;refine BoolOp_or (dh (ha pins s σ H _ I h) λv s1 ⟨x,H1,I1,r1,c,ht,q1⟩=>?_);refine dh (Cj pins s1 σ H1 x v (λc H2=>if c=true then Q x H2 else tb σ H2 Q) I1 r1 ⟨c,ht,q1⟩) λc' s2 ⟨H2,I2,q2⟩=>?_;cases c' with
 | false=>exact hb pins s2 σ H2 Q I2 q2
 | true=>exact⟨x,H2,I2,r1,q2⟩
end
end L2
namespace Sm
open PySem L2 PySem.Spec PyProof.Rows
section
variable {X:Cx} {a b:Expr} {pos:Pos} {ma mb:EM}
theorem Iu{rest:List Expr}(ha:SE X a ma)(hb:SE X (.BoolOp .Or (b::rest) pos) mb):SE X (.BoolOp .Or (a::b::rest) pos) (Ki ma mb):=(Jf ha hb).imp λσ H Q ⟨ρ,δ,h,d,h',R,S,e,k⟩=>by
 obtain⟨⟨x,h1⟩,e1,e2⟩:=bA e;obtain⟨c,e3,e4⟩:=bA e2;refine⟨ρ,δ,h,x,h1,R,S,e1,λv H' ⟨ρ',T,S',r⟩=>⟨c,zA S' r e3,?_⟩⟩;cases c with
 | false=>rw[P7 (by simp)] at e4 ⊢;exact⟨ρ',δ,h1,d,h',R.mono T,S',e4,λv H2 p=>k v H2 (p.step T)⟩
 | true=>rw[P0 rfl] at e4 ⊢;cases e4;exact k _ _ ⟨ρ',T,S',r⟩
end
end Sm
namespace L2
open PySem PySem.Spec PyProof.Rows
end L2
namespace Sm
open PySem L2 PySem.Spec PyProof.Rows
theorem Kz:bootBuiltins "min"=some (.builtin "min"):=by decide+kernel
theorem EE:bootBuiltins "max"=some (.builtin "max"):=by decide+kernel
section
variable {X:Cx} {g:GM} {mt:TM} {ma:EM}
end
end Sm
namespace L2
open PySem PySem.Spec PyProof.Rows
theorem jR:∀{ss:List Str} {us:List Value},Vals (ss.map V.str) us->StrsAre us ss
 | [],_,.nil=>.nil
 | x::r,_,.cons q l=>by obtain⟨t,rfl⟩:=q;exact .cons x t (jR l)
theorem zh:fY X (.builtin "sorted") (λxs H Q=>∃a ss,xs=[.ref a]/\ia X.K H a (ss.map V.str)/\ss.length < 64/\∀l,H l=none->Q (.ref l) (upd H l (.lst ((jg ss).map V.str)))):=by
 intro pins s σ H xs us Q I r h;obtain⟨a,ss,rfl,ha,h64,q⟩:=h;obtain⟨u,rfl,ru⟩:=vals1 r;cases ru;obtain⟨its,rv,p,hz⟩:=I.list ha;have hS:=jR rv;have hlen:its.length=ss.length:=by have:=rv.length;rw[PU] at this;exact this.symm
 refine sorted_strs p.isList hS (by lia) λout ss' h1 h2 h3=>?_;have:=Cz h2 h3;subst this;have hl:s.heap.objs.size<=s.heap.objs.size+1:=Se _;obtain⟨e,ho⟩:=sortedAll_at s.heap its out;have hz':((jg ss).map V.str).length<=sizeLine:=by rw[PU,(gd ss).length_eq,Rv];lia
 refine⟨.ref (s.heap.objs.size+1),_,I.laid (t':=s.toks) (o:=.lst ((jg ss).map V.str)) (λb o q=>sortedAll_old q) hl ⟨hz',out.toList,e,AE h1,?_⟩,rfl,q _ (I.ba.fresh hl)⟩;rw[ho]
end L2
namespace Sm
open PySem L2 PySem.Spec PyProof.Rows
noncomputable def jm:List D->Option (List Int)
 | []=>some []
 | .int i::r=>(jm r).map λis=>i::is
 | _=>none
theorem rK:∀{xs:List D} {ns:List Int},jm xs=some ns->xs=ns.map D.int
 | [],_,e=>by cases e;rfl
 | d::r,ns,e=>by
  cases d <;> first |(exact bN e) | skip
  obtain⟨is,e1,e2⟩:=hW (show(jm r).map _=some ns from e);cases e2;rw[rK e1];rfl
theorem ub:∀(ns:List Int),jm (ns.map D.int)=some ns
 | []=>rfl
 | n::r=>by show(jm (r.map D.int)).map _=_;rw[ub r];rfl
theorem qR{K:FR}{ρ:Ad}{H:Hp}:∀{vs:List V} {ns:List Int},aC K ρ H vs (ns.map D.int)->vs=ns.map V.int:=by
 intro vs ns
 induction ns generalizing vs with
 | nil=>intro a;cases a;rfl
 | cons n r ih=>intro a;cases a with | cons q l=>cases q;rw[ih l];rfl
noncomputable def oD:List D->Option (List Str)
 | []=>some []
 | .str i::r=>(oD r).map λis=>i::is
 | _=>none
theorem qu:∀{xs:List D} {ns:List Str},oD xs=some ns->xs=ns.map D.str
 | [],_,e=>by cases e;rfl
 | d::r,ns,e=>by
  cases d <;> first |(exact bN e) | skip
  obtain⟨is,e1,e2⟩:=hW (show(oD r).map _=some ns from e);cases e2;rw[qu e1];rfl
theorem nD:∀(ns:List Str),oD (ns.map D.str)=some ns
 | []=>rfl
 | n::r=>by show(oD (r.map D.str)).map _=_;rw[nD r];rfl
theorem kR{K:FR}{ρ:Ad}{H:Hp}:∀{vs:List V} {ns:List Str},aC K ρ H vs (ns.map D.str)->vs=ns.map V.str/\∀k∈ns,PyData.strOk k=true
 | _,[],.nil=>⟨rfl,λ_ h=>(nomatch h)⟩
 | _,n::r,.cons q l=>by
  cases q with
  | str h=>
   obtain⟨e,f⟩:=kR l;refine⟨by rw[e];rfl,λk hk=>?_⟩;rcases P5.mp hk with rfl | hk
   ·exact h
   ·exact f k hk
noncomputable def D6:Fn:=λds h=>match ds with
 | [d]=>(eB d h).bind λxs=>(oD xs).bind λns=>if ns.length < 64 then some (.lv ((jg ns).map D.str),h) else none
 | _=>none
theorem Ek:gU X (.builtin "sorted") D6:=by
 intro pins s σ H xs us Q I r hh;obtain⟨ρ,h,ds,z,h',S,l,ee,k⟩:=hh
 match ds,l,ee with
 | [],_,ee=>exact bN ee
 | _::_::_,_,ee=>exact bN ee
 | [d],l,ee=>
  obtain⟨v,rfl,rd⟩:=rep1 l;obtain⟨ys,e1,e2⟩:=bA ee;obtain⟨ns,e3,e4⟩:=bA e2
  by_cases c:ns.length < 64
  ·rw[P0 c] at e4;cases e4;obtain⟨a,vs,rfl,ha,la⟩:=eR S rd e1;have:=qu e3;subst this;obtain⟨e5,f⟩:=kR la;subst e5;refine zh pins s σ H _ us Q I r ⟨a,ns,rfl,ia.of ha,c,λl hl=>k _ _ (.lv S (nG _ λx hx=>f x ((gd ns).mem_iff.mp hx)) hl)⟩
  ·rw[P7 c] at e4;cases e4
section
variable {α:Type} {K:FR} {A:Ac α} {l:Addr} {g:GM} {mt:TM} {m:MK α}
mutual
theorem Rep.calm(hs:∀a,ρ'.has a->ρ.has a){v:V}{d:D}(r:Rep K ρ H v d)(c:g0 0 d=true):Rep K ρ' H v d:=by
 cases r with
 | cw=>exact .cw
 | bl b=>exact .bl b
 | int i=>exact .int i
 | str h=>exact .str h
 | ty n=>exact .ty n
 | tup h l=>exact .tup (h.elim (λ⟨a,n⟩=>.inl ⟨a,λz=>n (hs _ z)⟩) .inr) (aC.calm hs l c)
 | lv h n l=>exact .lv h (λz=>n (hs _ z)) (aC.calm hs l c)
 | ro h l=>exact .ro (h.elim (λ⟨a,n⟩=>.inl ⟨a,λz=>n (hs _ z)⟩) .inr) (aC.calm hs l c)
 | dv h n l=>exact .dv h (λz=>n (hs _ z)) (bH.calm hs l c)
 | ob e=>simp[g0] at c
theorem aC.calm(hs:∀a,ρ'.has a->ρ.has a){vs:List V}{ds:List D}(r:aC K ρ H vs ds)(c:fI 0 ds=true):aC K ρ' H vs ds:=by
 cases r with
 | nil=>exact .nil
 | cons r l=>have c:=Qp.mp c;exact .cons (Rep.calm hs r c.1) (aC.calm hs l c.2)
theorem bH.calm(hs:∀a,ρ'.has a->ρ.has a){vs:List (Key×V)}{ds:List (Key×D)}(r:bH K ρ H vs ds)(c:GN 0 ds=true):bH K ρ' H vs ds:=by
 cases r with
 | nil=>exact .nil
 | cons r l=>have c:=Qp.mp c;exact .cons (Rep.calm hs r c.1) (bH.calm hs l c.2)
end
end
section
variable {X:Cx} {k v tg iter:Expr} {pos:Pos} {mk mv:EM} {mt:TM} {g:GM} {N':List Str} {caps:List (Option Nat)} {scope:Scope} {ifs:List Expr} {mi:IM}
end
theorem ow:bootBuiltins "sorted"=some (.builtin "sorted"):=by decide+kernel
end Sm
namespace L2
open PySem PySem.Spec PyProof.Rows
end L2
namespace Sm
open PySem L2 PySem.Spec PyProof.Rows
end Sm
namespace L2
open PySem PySem.Spec PyProof.Rows
end L2
namespace Sm
open PySem L2 PySem.Spec PyProof.Rows
end Sm
namespace Hd
open PySem PySem.W PySem.Spec PyProof.Rows L2 Sm
noncomputable def lj:Obj->Bool
 |⟨.none,none,.fields vs,sl⟩=>vs.isEmpty&&sl.isEmpty
 | _=>false
noncomputable def xD(o:Obj):Bool:=!lj o
theorem uH(h:lj o=true):o={cls:=.none,data:=.fields #[]}:=by
 unfold lj at h
 split at h
 ·rw[Qw] at h;have e1:=U6.mp h.1;have e2:=U6.mp h.2;subst e1;subst e2;rfl
 ·cases h
theorem gM(h:∀vs,o.data≠.fields vs):xD o=true:=by
 unfold xD;cases q:lj o with
 | false=>rfl
 | true=>exact absurd (by rw[uH q]) (h #[])
theorem D5{o:Obj}{vs:Array Value}{i:Nat}{x:Value}(e:o.data=.fields vs)(h:vs[i]?=some x):xD o=true:=by
 unfold xD;cases q:lj o with
 | false=>rfl
 | true=>rw[uH q] at e;cases e;simp at h
noncomputable def DV(h:Heap)(a:Addr):Option (Addr×Obj):=match h.get? a with
 | some o=>if xD o then some (a,o) else none
 | none=>none
noncomputable def tq(h:Heap):Frag:=(List.range h.objs.size).filterMap (DV h)
noncomputable def qa(h:Heap)(c:Addr):Option Value:=match h.get? c with
 | some ⟨.type "code",_,.fields vs,_⟩=>match (vs[11]?:Option Value) with
  | some (.ref P)=>match h.get? P with
   | some o=>if lj o then some (.ref P) else none
   | none=>none
  | _=>none
 | _=>none
noncomputable def yq(h:Heap):List Value:=(List.range h.objs.size).filterMap (qa h)
noncomputable def aB(h:Heap):Frag:=if((tq h).lookup mainGlobals).isSome=true then tq h++[(mainGlobals,{cls:=.none,data:=.fields (yq h).toArray})] else tq h
theorem j8{h:Heap}{a:Addr}:(aB h).lookup a=(tq h).lookup a:=by
 unfold aB
 split
 ·rename_i hs;rw[List.lookup_append];cases q:(tq h).lookup a with
  | some o=>rfl
  | none=>
   rw[Option.none_or];rw[QD];cases r:a==mainGlobals with
   | false=>rfl
   | true=>rw[Rr.mp r] at q;rw[q] at hs;cases hs
 ·rfl
theorem j5(h:Heap)(a:Addr):∀l:List Addr,(l.filterMap (DV h)).lookup a=if a∈l then(DV h a).map (·.2) else none
 | []=>rfl
 | b::r=>by
  have ih:=j5 h a r
  by_cases hb:a=b
  ·subst hb;rw[P0 P1];rw[QW];cases e:DV h a with
   | none=>
    dsimp only;rw[ih,e]
    split <;> rfl
   | some p=>
    have hp:p.1=a:=by
     unfold DV at e
     split at e
     ·split at e
      ·cases e;rfl
      ·cases e
     ·cases e
    obtain⟨p1,p2⟩:=p;dsimp only at hp;subst hp;simp
  ·have hm:(a∈b::r)↔a∈r:=by simp[hb]
   rw[QW];cases e:DV h b with
   | none=>dsimp only;rw[ih];simp only[hm]
   | some p=>
    have hp:p.1=b:=by
     unfold DV at e
     split at e
     ·split at e
      ·cases e;rfl
      ·cases e
     ·cases e
    obtain⟨p1,p2⟩:=p;dsimp only at hp;subst hp;have hab:(a==p1)=false:=by simpa using hb
    rw[QD,hab];dsimp only;rw[ih];simp only[hm]
theorem bE(e:h.get? a=some o)(f:xD o=true):(aB h).lookup a=some o:=by
 rw[j8];unfold tq;rw[j5,P0]
 ·unfold DV;rw[e];dsimp only;rw[P0 f];rfl
 ·rw[Q1];exact Qf e
theorem Gu(h:Heap):(aB h).In h:=λa o e=>by
 rw[j8] at e;unfold tq at e;rw[j5] at e
 split at e
 ·unfold DV at e;cases g:h.get? a with
  | none=>rw[g] at e;cases e
  | some o'=>
   rw[g] at e;dsimp only at e
   split at e
   ·cases e;rfl
   ·cases e
 ·cases e
theorem ze(e:qa h c=some v):∃P,v=.ref P/\isCodeTable h P/\h.get? P=some {cls:=.none,data:=.fields #[]}:=by
 unfold qa at e
 split at e
 ·rename_i vs sl hc
  split at e
  ·rename_i P h11
   split at e
   ·rename_i o hP
    split at e
    ·rename_i ht;cases e;exact⟨P,rfl,⟨c,_,_,hc,rfl,rfl,h11⟩,by rw[hP,uH ht]⟩
    ·cases e
   ·cases e
  ·cases e
 ·cases e
theorem Ib(g:h.Ns mainGlobals mg)(t:iJ (aB h) b):isCodeTable h b/\h.get? b=some {cls:=.none,data:=.fields #[]}/\(aB h).lookup b=none:=by
 obtain⟨vs,m,hv⟩:=t;have key:.ref b∈yq h:=by
  have nf:∀vs:Array Value,(mainGlobals,({cls:=.none,data:=.fields vs}:Obj))∉tq h:=λvs m=>by
   obtain⟨a,_,e⟩:=Rt.mp m;unfold DV at e
   split at e
   ·rename_i o ho
    split at e
    ·cases e;obtain⟨o',es,ep,g1,g2,_⟩:=g;rw[g1] at ho;cases ho;cases g2
    ·cases e
   ·cases e
  unfold aB at m
  split at m
  ·rcases Qk.mp m with m | m
   ·exact absurd m (nf vs)
   ·have e:=Qd.mp m;cases e
    simpa using hv
  ·exact absurd m (nf vs)
 obtain⟨c,_,e⟩:=Rt.mp key;obtain⟨P,e1,e2,e3⟩:=ze e;cases e1;refine⟨e2,e3,?_⟩;rw[j8];unfold tq;rw[j5]
 split
 ·unfold DV;rw[e3];rfl
 ·rfl
noncomputable def posOf(s:Stmt):Pos:=match s with
 | .FunctionDef _ _ _ _ _ _ _ _ _ p=>p
 | _=>⟨0,0,0,0⟩
noncomputable def mh(n:Str)(s:Stmt):DefRec:=⟨n,mR s,dy s,ak s,posOf s⟩
theorem GJ(r:h.CodeRec cd q):codeIn (aB h) cd q=true:=by
 obtain⟨c,o,vs,t,rfl,g,d,e⟩:=r;have f:xD o=true:=D5 d e;unfold codeIn;dsimp only;rw[bE g f];obtain⟨oc,od,dt,sl⟩:=o;dsimp only at d;subst d;dsimp only;obtain⟨l⟩:=vs;cases l with
 | nil=>cases e
 | cons x l=>cases l with
  | nil=>cases e
  | cons y r=>cases y <;> first |(cases e;simp;done) |(cases e;done)
theorem Ag{q:Program}{loose:List Str}{mean:ExcName->Option Value}{mg mb:Str->Option Value}{h:Heap}(T:Top q loose mean mg mb h){n:Str}{st:Stmt}(e:(recsOf q).find? (λe=>e.name==n)=some (mh n st)):
  ∃f fd,mg n=some (.ref f)/\sF (aB h) n n st f fd:=by
 have hm:mh n st∈recsOf q:=Uj e;obtain⟨a,o,pm,code,doc,m,g,d,c⟩:=T.fn _ hm;have f:xD o=true:=gM λvs z=>by rw[d] at z;cases z
 have lk:=bE g f;have kp:keepIn (aB h) (.ref a)=true:=by
  unfold keepIn;dsimp only;rw[lk];obtain⟨oc,od,dt,sl⟩:=o;dsimp only at d;subst d;rfl
 obtain⟨oc,od,dt,sl⟩:=o;dsimp only at d;subst d;exact⟨a,_,m,⟨oc,od,.none,doc,pm,_,code,_,sl,rfl,lk,GJ c⟩,kp⟩
theorem _root_.L2.sF.one{K:Frag}{x qual:Str}{st:Stmt}{f:Addr}{fd:FuncData}{p:Str}(F:sF K x qual st f fd)
  (h:∀(kV doc pm:Value)(an:Option Addr)(cdv ct:Value)(u:Value),bindArgs (PySem.W.fnOf x qual (mR st) (dy st) (ak st) .none kV doc pm an cdv ct) ⟨[u],[]⟩=pure [(p,u)]) (s:Shared) (u:Value):BindsTo s fd ⟨[u],[]⟩ [(p,u)]:=by
 obtain⟨oc,od,kV,doc,pm,an,cdv,ct,osl,rfl,lk,hcd⟩:=F.ex;exact .of_eq (h kV doc pm an cdv ct u)
theorem JY{l:OpenLaw}{q:Program}{loose:List Str}{XP:(Str->Option Value)->Heap->Prop}{YP:World->Heap->Prop}{d:DefRec}{k:Nat}(hn:l.most=some 63)(hdf:d.params.defaults=[])(hr:cM k callerA)
  (F:∀(w:World)(s₀:Shared)(mg mb:Str->Option Value)(h:Heap),Ground q loose [] XP w s₀ mg mb h->YP w h->∃(fa:Addr)(fd:FuncData),mg d.name=some (.ref fa)/\(∀(s:Shared)(u:Value),BindsTo s fd ⟨[u],[]⟩ [("_law_script",u)])/\
   ∀base:Heap,(aB h).In base->base.Ns mainGlobals mg->eZ l.prog w (aB h) mg base nv k fa fd ["_law_script"] (spT (aB h))):
  WalkO q loose XP YP l.row.toRowW d [] (λf vs=>PySem.call f vs):=by
 refine Att.x8 hn hdf λw s₀ s₁ mg mb fa o pm cd doc a vs ns G Y ho hd hcd hmg hobj hints hlen hg=>?_;obtain⟨fa',fd,e,hb,hF⟩:=F w s₀ mg mb _ G Y;rw[e] at hmg;cases hmg;exact DR (Gu _) G.T.g G.T.b G.T.builtins G.T.nolimit hg hobj hints (P6 hlen (by decide)) hr hF hb (λ_=>Ib G.T.g) (λH hS ht=>⟨a,ns,rfl,hS,hlen,ht,λ_ t=>⟨rfl,t⟩⟩) λ_ _ _ z=>z
noncomputable def freeOk(q:Program)(loose xs:List Str):Bool:=xs.all λx=>!startupNames.contains x&&!(looseW q loose).contains x&&!((recsOf q).map (·.name)).contains x&&!((litsOf q).map (·.1)).contains x&&!((clssOf q (looseW q loose)).map (·.name)).contains x
theorem dw(T:Top q (looseW q loose) mean mg mb h)(e:freeOk q loose xs=true)(hx:x∈xs):mg x=none:=by
 have:=RI.mp e x hx;simp only[Qw,U5,List.contains_eq_mem,Uq] at this;exact T.free x this.1.1.1.1 this.1.1.1.2 this.1.1.2 this.1.2 this.2
end Hd
namespace Sm
open PySem L2
noncomputable def Mp(f:Expr->Option D):List Expr->Option (List D)
 | []=>some []
 | e::es=>(f e).bind λd=>(Mp f es).bind λds=>some (d::ds)
noncomputable def kD:Nat->Expr->Option D
 | 0,_=>none
 | n+1,e=>match e with
  | .Constant .none _ _=>some .cw
  | .Constant (.bool b) _ _=>some (.bl b)
  | .Constant (.int i) _ _=>some (.int i)
  | .Constant (.str x) _ _=>if PyData.strOk x then some (.str x) else none
  | .UnaryOp .USub (.Constant (.int i) _ _) _=>some (.int (-i))
  | .Tuple es _ _=>(Mp (kD n) es).bind λds=>if ds.length<=1000 then some (.tup ds) else none
  | .List es _=>(Mp (kD n) es).bind λds=>if ds.length<=1000 then some (.lv ds) else none
  | .Dict [] [] _=>some (.dv [])
  | _=>none
noncomputable def aK(ds:List D):AM:=λ_ h=>some (ds,h)
theorem MX(ds:List D):lE (aK ds) ds.length:=λδ h xs h' e=>by cases e;rfl
section
variable {X:Cx}
theorem Ct(h:kD n e=some d)(es:List Expr):starEach (e::es) X.env=(false,eval e X.env)::starEach es X.env:=by
 cases n with
 | zero=>exact bN h
 | succ n=>cases e <;> first | rfl |(exfalso;exact(nomatch h))
theorem uZ(hf:∀{e:Expr} {d:D},f e=some d->SE X e (eK d))(hs:∀{e:Expr} {d:D},f e=some d->∀es:List Expr,starEach (e::es) X.env=(false,eval e X.env)::starEach es X.env):
  ∀{es:List Expr} {ds:List D},Mp f es=some ds->SA X es (aK ds)
 | [],ds,h=>by cases h;exact ar
 | e::es,ds,h=>by
  unfold Mp at h;obtain⟨d,e1,h⟩:=bA h;obtain⟨r,e2,h⟩:=bA h;cases h;exact(aa (hf e1) (uZ hf hs e2) (hs e1 es):SA X _ (ah (eK d) (aK r)))
theorem dm:∀(n:Nat) {e:Expr} {d:D},kD n e=some d->SE X e (eK d)
 | 0,_,_,h=>by cases h
 | n+1,e,d,h=>by
  cases e <;> first |(exact bN h) | skip
  case Constant c _ _=>
   cases c <;> first |(exact bN h) | skip
   case none=>cases h;exact CH
   case bool=>cases h;exact G7
   case int=>cases h;exact aM
   case str x=>
    have h:(if PyData.strOk x then some (D.str x) else none)=some d:=h
    by_cases hs:PyData.strOk x=true
    ·rw[P0 hs] at h;cases h;exact bc hs
    ·rw[P7 hs] at h;cases h
  case UnaryOp o e _=>
   cases o <;> first |(exact bN h) | skip
   cases e <;> first |(exact bN h) | skip
   rename_i c _ _;cases c <;> first |(exact bN h) | skip
   cases h;exact(zG uG aM:SE X _ (wC kK (eK _)))
  case Tuple es _ _=>
   obtain⟨ds,e1,e2⟩:=bA h
   by_cases hl:ds.length<=1000
   ·rw[P0 hl] at e2;cases e2;exact(cj (uZ (dm n) Ct e1) (MX ds) (P6 hl (by decide)):SE X _ (ay aY (aK ds)))
   ·rw[P7 hl] at e2;cases e2
  case List es _=>
   obtain⟨ds,e1,e2⟩:=bA h
   by_cases hl:ds.length<=1000
   ·rw[P0 hl] at e2;cases e2;exact(lC.lv (dS (uZ (dm n) Ct e1) (MX ds) (P6 hl (by decide))):SE X _ (fX (aK ds)))
   ·rw[P7 hl] at e2;cases e2
  case Dict ks vs _=>
   cases ks <;> first |(exact bN h) | skip
   cases vs <;> first |(exact bN h) | skip
   cases h;exact LM
end
end Sm
namespace L2
open PySem PySem.Spec PyProof.Rows
noncomputable def dC(ns:List Int):List Int:=ns.mergeSort λa b=>decide (a<=b)
theorem fh(ns:List Int):(dC ns).Perm ns:=UR _ _
theorem uN(ns:List Int):(dC ns).Pairwise (·<=·):=by
 have:=Uw (le:=λa b:Int=>decide (a<=b)) (λa b c h1 h2=>by simp at h1 h2 ⊢;lia) (λa b=>by simp;lia) ns;exact this.imp λh=>by simpa using h
theorem wN(hp:ss.Perm ns)(h:ss.Pairwise (·<=·)):ss=dC ns:=
 Uo (λa b _ _ h1 h2=>Int.le_antisymm h1 h2) h (uN ns) (hp.trans (fh ns).symm)
theorem zi:fY X (.builtin "sorted") (λxs H Q=>∃a ss,xs=[.ref a]/\ia X.K H a (ss.map V.int)/\ss.length < 64/\∀l,H l=none->Q (.ref l) (upd H l (.lst ((dC ss).map V.int)))):=by
 intro pins s σ H xs us Q I r h;obtain⟨a,ss,rfl,ha,h64,q⟩:=h;obtain⟨u,rfl,ru⟩:=vals1 r;cases ru;obtain⟨its,rv,p,hz⟩:=I.list ha;have hS:=intsAre_of rv;have hlen:its.length=ss.length:=by have:=rv.length;rw[PU] at this;exact this.symm
 refine sorted_ints p.isList hS (by lia) λout ss' h1 h2 h3=>?_;have:=wN h2 h3;subst this;have hl:s.heap.objs.size<=s.heap.objs.size+1:=Se _;obtain⟨e,ho⟩:=sortedAll_at s.heap its out;have hz':((dC ss).map V.int).length<=sizeLine:=by rw[PU,(fh ss).length_eq,Rv];lia
 refine⟨.ref (s.heap.objs.size+1),_,I.laid (t':=s.toks) (o:=.lst ((dC ss).map V.int)) (λb o q=>sortedAll_old q) hl ⟨hz',out.toList,e,jQ h1,?_⟩,rfl,q _ (I.ba.fresh hl)⟩;rw[ho]
end L2
namespace Sm
open PySem L2 PySem.Spec PyProof.Rows
noncomputable def D7:Fn:=λds h=>match ds with
 | [d]=>(eB d h).bind λxs=>(jm xs).bind λns=>if ns.length < 64 then some (.lv ((dC ns).map D.int),h) else none
 | _=>none
theorem repL_ints'{K:FR}{ρ:Ad}{H:Hp}:∀(ns:List Int),aC K ρ H (ns.map V.int) (ns.map D.int)
 | []=>.nil
 | n::r=>.cons (.int n) (repL_ints' r)
theorem El:gU X (.builtin "sorted") D7:=by
 intro pins s σ H xs us Q I r hh;obtain⟨ρ,h,ds,z,h',S,l,ee,k⟩:=hh
 match ds,l,ee with
 | [],_,ee=>exact bN ee
 | _::_::_,_,ee=>exact bN ee
 | [d],l,ee=>
  obtain⟨v,rfl,rd⟩:=rep1 l;obtain⟨ys,e1,e2⟩:=bA ee;obtain⟨ns,e3,e4⟩:=bA e2
  by_cases c:ns.length < 64
  ·rw[P0 c] at e4;cases e4;obtain⟨a,vs,rfl,ha,la⟩:=eR S rd e1;have:=rK e3;subst this;have:=qR la;subst this;exact zi pins s σ H _ us Q I r ⟨a,ns,rfl,ia.of ha,c,λl hl=>k _ _ (.lv S (repL_ints' _) hl)⟩
  ·rw[P7 c] at e4;cases e4
noncomputable def zb(m:HE):EM:=λδ h=>(m δ h).bind λp=>if p.1.length<=15 then some (.ob p.2.length,p.2++[.dct (yQ [] p.1)]) else none
theorem CI(h:SP X pos keys vals m)(hall:keys.all (·.isSome)=true)(hl:keys.length=vals.length)(h0:keys≠[])(hp:∀trs,K3 X pos keys vals trs->PE X (.Dict keys vals pos) (Co trs)):SE X (.Dict keys vals pos) (zb m):=by
 obtain⟨trs,h1,h2⟩:=h;refine(hp trs h1).imp λσ H Q ⟨ρ,δ,h,d,h',R,S,ee,k⟩ p hpn=>?_;obtain⟨⟨kvs,ha⟩,e1,e2⟩:=bA ee;dsimp only at e2
 by_cases z:kvs.length<=15
 ·rw[P0 z] at e2;cases e2;have Tl:Ch ρ H (ρ.keep p) (upd H p (.dK [])):=Ch.keep hpn;have nl:¬ρ.has p:=S.fresh hpn;refine h2 σ _ _ ⟨ρ.keep p,δ,h,kvs,_,R.mono Tl,S.keep hpn,e1,λus ρ2 H2 T2 S2 r2=>?_⟩;have hp2:H2 p=some (.dK []):=(T2.res p P1).trans aO;refine⟨hp2,us,rfl,by rw[r2.len];exact z,?_⟩;obtain⟨ob2,rs2⟩:=ρ2;have ers:rs2=p::ρ.rs:=T2.rs;subst ers;have hml:p∈(⟨ob2,p::ρ.rs⟩:Ad).rs:=P1;have npo:p∉ob2:=(S2.sM p hml).2;have hne:∀b∈ρ.rs,b≠p:=λb hb z=>nl (.inr (z ▸ hb));generalize hH3:upd H2 p (.dK (gp [] us))=H3;have at3:∀b,b≠p->H3 b=H2 b:=λb hb=>by rw[<-hH3,av hb]
  have C23:Ch ⟨ob2,p::ρ.rs⟩ H2 ⟨ob2++[p],ρ.rs⟩ H3:=by
   refine⟨λn a e=>?_,λb o nb eb=>⟨λz=>?_,?_⟩⟩
   ·show(ob2++[p])[n]?=_;rw[P8 (PV.mp e).1];exact e
   ·rcases z with z | z
    ·rcases Qk.mp z with z | z
     ·exact nb (.inl z)
     ·exact nb (.inr (by rw[Qd.mp z];exact P1))
    ·exact nb (.inr (P4 _ z))
   ·rw[at3 b (λz=>nb (.inr (by rw[z];exact P1)))];exact eb
  refine k _ _ ⟨⟨ob2++[p],ρ.rs⟩,⟨(Tl.trans T2.toCh).trans C23,rfl,λb hb=>?_⟩,?_,.ob (by show(ob2++[p])[ha.length]?=_;rw[<-S2.len];simp)⟩
  ·rw[at3 b (hne b hb),T2.res b (P4 _ hb)];exact av (hne b hb)
  ·refine⟨by show(ob2++[p]).length=_;simp;exact S2.len,?_,λn a x e1 e2=>?_,λb hb=>?_,S.Ia ((Tl.trans T2.toCh).trans C23)⟩
   ·show(ob2++[p]).Nodup;rw[RX];exact⟨S2.nd,by simp,λa ha b hb z=>npo (by rw[<-Qd.mp hb,<-z];exact ha)⟩
   ·have e1:(ob2++[p])[n]?=some a:=e1;have hlen:ob2.length=ha.length:=S2.len
    by_cases hn:n < ob2.length
    ·rw[P8 hn] at e1;rw[P8 (by lia)] at e2;exact(S2.at_ n a x e1 e2).mono C23 (at3 a λz=>npo (z ▸ PX e1))
    ·have l1:=(PV.mp e1).1;simp at l1;have hn':n=ob2.length:=by lia
     subst hn';rw[Qa (PZ _)] at e1;rw[Qa (by lia),hlen] at e2;simp at e1 e2;subst e1;subst e2;exact⟨gp [] us,by rw[<-hH3];exact aO,(bH.merge .nil r2).mono C23⟩
   ·obtain⟨⟨o,eo⟩,nb⟩:=S2.sM b (P4 _ hb);refine⟨⟨o,by rw[at3 b (hne b hb)];exact eo⟩,λz=>?_⟩;rcases Qk.mp z with z | z
    ·exact nb z
    ·exact hne b hb (Qd.mp z)
 ·rw[P7 z] at e2;cases e2
noncomputable def y4(d e:D)(h:MH):Option (D×MH):=match e with
 | .int n=>(eB d h).bind λxs=>if 0<=n/\n<=1000/\xs.length<=1000 then some (.lv (List.replicate n.toNat xs).flatten,h) else none
 | _=>none
theorem aC.rep{K:FR}{ρ:Ad}{H:Hp}{vs:List V}{ds:List D}(h:aC K ρ H vs ds):∀k:Nat,aC K ρ H (List.replicate k vs).flatten (List.replicate k ds).flatten
 | 0=>.nil
 | k+1=>by
  rw[Rj,Rj,RB,RB];exact h.append (aC.rep h k)
theorem vj:oA X (binaryOp .Mult) y4:=by
 intro pins s σ H x y v u Q I rx ry hh;obtain⟨ρ,h,d,e,z,h',S,rd,re,ee,k⟩:=hh;cases e <;> first |(exact bN ee) | skip
 rename_i n;obtain⟨xs,e1,e2⟩:=bA (show(eB d h).bind _=_ from ee)
 by_cases c:0<=n/\n<=1000/\xs.length<=1000
 ·rw[P0 c] at e2;cases e2;obtain⟨a,vs,rfl,ha,la⟩:=eR S rd e1;cases re;have hb:xs.length*n.toNat<=1000*1000:=Nat.mul_le_mul c.2.2 (by lia);exact Js pins s σ H _ _ v u Q I rx ry ⟨a,n,vs,rfl,rfl,ha,by lia,by lia,by rw[la.length,show sizeLine=16777216 from rfl];lia,λl hl=>k _ _ (.lv S (la.rep _) hl)⟩
 ·rw[P7 c] at e2;cases e2
end Sm
namespace L2
open PySem PySem.Spec PyProof.Rows
theorem tE:∀(us:List Value)(o:Nat),(∀(j:Nat) v,us[j]?=some v->∃t,v=.int ((o:Int)+j) t)->Vals ((List.range' o us.length).map λ(k:Nat)=>V.int k) us
 | [],_,_=>.nil
 | u::r,o,h=>by
  rw[P2,List.range'_succ,Qc];obtain⟨t,e⟩:=h 0 u rfl;refine .cons ⟨t,by rw[e];simp⟩ (tE r (o+1) λj v hv=>?_);obtain⟨t,e⟩:=h (j+1) v (by simpa using hv);exact⟨t,by rw[e];congr 1;lia⟩
theorem AZ(hc:X.calm=true)(hg1:Gl X "list")(hm1:X.mg "list"=none)(hg2:Gl X "range")(hm2:X.mg "range"=none)(hv:bootBuiltins "list"=some (.type "list"))(ha:PA X [a] ta)(hs:starEach [a] X.env=[(false,eval a X.env)]):
  PE X (.Call (.Name "list" p) [.Call (.Name "range" p2) [a] [] pos2] [] pos) (λσ H Q=>ta σ H λvs H1=>∃j:Int,vs=[.int j]/\0<=j/\j<=1000/\∀l,H1 l=none->Q (.ref l) (upd H1 l (.lst ((List.range j.toNat).map λ(k:Nat)=>V.int k)))):=by
 intro pins s σ H Q I h;refine RA (k9 I hg1 hm1 hv ?_);refine Rk ?_ rfl rfl;show wpAny _ _ (spliced ((false,eval (.Call (.Name "range" p2) [a] [] pos2) X.env)::backTo pos (starEach [] X.env))) _ _ s;refine T8 ?_;refine RA (k9 I hg2 hm2 boot_range (Rk (dh (ha pos2 pins s σ H _ I h) λus s1 ⟨vs,H1,I1,r1,q1⟩=>?_) hs rfl));obtain⟨j,e,j0,j1,q⟩:=q1;subst e;cases r1 with
 | cons r rr=>
  cases rr;obtain⟨t,rfl⟩:=r;refine call_range_1 ?_;have I2:Inv X pins σ H1 {s1 with heap:=s1.heap.push {cls:=.type "range",data:=.fields #[.int 0 s1.toks,.int j t,.int 1 (s1.toks+1)]},toks:=s1.toks+1+1}:=I1.kept λb o e=>P9 _ e;refine Ug ?_;refine call_list_range (n:=j.toNat) (I1.ok.hd hc) (IsRange.new ..) (small_one (by lia) (by lia) (by lia) (by lia)) (by rw[rangeSize_one];split <;> lia) (by lia) λh' tk acc' c' hk hS' hacc=>?_;have hlen:acc'.toList.length=j.toNat:=by rw[Q2];exact hacc.1
  have hv:Vals ((List.range j.toNat).map λ(k:Nat)=>V.int k) acc'.toList:=by
   have:=tE acc'.toList 0 λi v hv=>by
    obtain⟨t,e⟩:=hacc.2 i v (by simpa using hv);exact⟨t,by rw[e];congr 1;simp⟩
   rw[hlen] at this;rw[List.range_eq_range'];exact this
  refine⟨.ref _,_,I2.laid (t':=tk) (o:=.lst ((List.range j.toNat).map λ(k:Nat)=>V.int k)) hk (PZ _) ⟨by rw[PU,Qy,Rv];lia,acc'.toList,c',hv,?_⟩,rfl,q _ (I2.ba.fresh (PZ _))⟩;rw[hS']
end L2
namespace Sm
open PySem L2 PySem.Spec PyProof.Rows
noncomputable def KR(m:AM):AM:=λδ h=>(m δ h).bind λp=>match p.1 with
 | [.int j]=>if 0<=j/\j<=1000 then some ((List.range j.toNat).map λ(k:Nat)=>D.int k,p.2) else none
 | _=>none
theorem qQ{K:FR}{ρ:Ad}{H:Hp}:∀l:List Nat,aC K ρ H (l.map λ(k:Nat)=>V.int k) (l.map λ(k:Nat)=>D.int k)
 | []=>.nil
 | n::r=>.cons (.int n) (qQ r)
theorem AR(hc:X.calm=true)(hg1:Gl X "list")(hm1:X.mg "list"=none)(hg2:Gl X "range")(hm2:X.mg "range"=none)(hv:bootBuiltins "list"=some (.type "list"))(ha:SA X [a] m)(hs:starEach [a] X.env=[(false,eval a X.env)]:=by ac_nf):
  lC X (.Call (.Name "list" p) [.Call (.Name "range" p2) [a] [] pos2] [] pos) (KR m):=(AZ hc hg1 hm1 hg2 hm2 hv ha hs).imp λσ H Q ⟨ρ,δ,h,ds,h',R,S,e,k⟩=>by
 obtain⟨⟨xs,h1⟩,e1,e2⟩:=bA e;dsimp only at e2
 split at e2
 ·rename_i j
  split at e2
  ·rename_i c;cases e2;refine⟨ρ,δ,h,_,_,R,S,e1,λvs ρ1 H1 T1 S1 r1=>?_⟩;obtain⟨v,rfl,rd⟩:=rep1 r1;cases rd;exact⟨j,rfl,c.1,c.2,λl hl=>k ρ1 H1 l _ T1 S1 hl (qQ _)⟩
  ·cases e2
 ·cases e2
noncomputable def BK(ma mb:EM):AM:=λδ h=>(ma δ h).bind λp=>(mb δ p.2).bind λq=>(eB p.1 q.2).bind λxs=>(eB q.1 q.2).bind λys=>if xs.length+ys.length<=sizeLine then some (xs++ys,q.2) else none
theorem uT(ha:SE X a ma)(hb:SE X b mb):lC X (.BinOp a .Add b pos) (BK ma mb):=(Hh DF ha hb).imp λσ H Q ⟨ρ,δ,h,ds,h',R,S,e,k⟩=>by
 obtain⟨⟨x,h1⟩,e1,e2⟩:=bA e;obtain⟨⟨y,h2⟩,e3,e4⟩:=bA e2;obtain⟨xs,e5,e6⟩:=bA e4;obtain⟨ys,e7,e8⟩:=bA e6;dsimp only at e3 e5 e7
 split at e8
 ·rename_i c;cases e8;refine⟨ρ,δ,h,x,h1,R,S,e1,λv H1 ⟨ρ1,T1,S1,r1⟩=>⟨ρ1,δ,h1,y,h2,R.mono T1.toCh,S1,e3,λu H2 ⟨ρ2,T2,S2,r2⟩=>?_⟩⟩;obtain⟨a,vs,rfl,hA,lA⟩:=eR S2 (r1.mono T2.toCh) e5;obtain⟨b,us,rfl,hB,lB⟩:=eR S2 r2 e7;exact⟨a,b,vs,us,rfl,rfl,hA,hB,by rw[lA.length,lB.length];exact c,λp hp=>k ρ2 H2 p (vs++us) (T1.trans T2) S2 hp (lA.append lB)⟩
 ·cases e8
end Sm
namespace Sm
open PySem L2
theorem q9:∀cs:List Int,lF (cs.map D.int)=some (cs.map PyData.int)
 | []=>rfl
 | c::r=>by simp only[Qc,lF,tQ,q9 r,Qv,QF]
theorem lr:∀cs:List Int,PyData.depthAll (cs.map PyData.int)=0
 | []=>rfl
 | c::r=>by simp only[Qc,PyData.depthAll,lr r,PyData.depth];rfl
theorem ud{h:MH}{c:Nat}{cs:List Int}(hc:h[c]?=some (.lst (cs.map D.int))):iD (.ob c) (.lv []) h=some (.bl (!cs.isEmpty),h):=by
 simp only[iD,Ho,eC,hc,Hn,zM,q9,tQ,lF,QF,Qv,PyData.depth,lr];cases cs <;> rfl
theorem gZ(hn:h[n]?=some (.lst xs))(e:g9 xs i=some d):aW (.ob n) (.int i) h=some (d,h):=by
 simp only[aW,eC,hn,dH,Qv,e,QF]
theorem vM(hn:h[n]?=some (.lst xs)):dE [.ob n] h=some (.int xs.length,h):=by
 simp only[dE,eC,hn,dH,QF]
theorem mO(hn:h[n]?=some (.lst xs))(e:tu xs.length i=some p):tw (.ob n) (.int i) d h=some (h.set n (.lst (xs.set p d))):=by
 simp only[tw,hn,e,QF]
theorem EN(cs:List Int)(i:Int)(h0:0<=i)(h1:i < cs.length):∃z,g9 (cs.map D.int) i=some (.int z):=by
 have hlt:i.toNat < cs.length:=by lia
 refine⟨cs[i.toNat]'hlt,?_⟩;have e:((i.toNat:Nat):Int)=i:=SO h0;have q:g9 (cs.map D.int) ((i.toNat:Nat):Int)=some (D.int (cs[i.toNat]'hlt)):=qf (by rw[Qg,Qi hlt];rfl);rw[e] at q;exact q
theorem EK(h0:0<=i)(h1:i < xs.length):∃v,g9 xs i=some v/\v∈xs:=by
 have hlt:i.toNat < xs.length:=by lia
 have e:((i.toNat:Nat):Int)=i:=SO h0;have q:g9 xs ((i.toNat:Nat):Int)=some (xs[i.toNat]'hlt):=qf (Qi hlt);rw[e] at q;exact⟨_,q,List.getElem_mem hlt⟩
end Sm
namespace Sm
open PySem
def Rn{α:Type}(o:Option α)(Q:α->Prop):Prop:=∃a,o=some a/\Q a
theorem rv(e:o=some a)(q:Q a):Rn o Q:=⟨a,e,q⟩
theorem Rn.imp(r:Rn o Q)(f:∀a,Q a->Q' a):Rn o Q':=let⟨a,e,q⟩:=r;⟨a,e,f a q⟩
theorem a9(r:Rn o λa=>Rn (f a) Q):Rn (o.bind f) Q:=by
 obtain⟨a,e,b,e2,q⟩:=r;exact⟨b,by rw[e];exact e2,q⟩
theorem CM(r:Rn o λa=>Q (f a)):Rn (o.map f) Q:=by
 obtain⟨a,e,q⟩:=r;exact⟨f a,by rw[e];rfl,q⟩
theorem gi(e:δ[i]?=some (some d))(q:Q (d,h)):Rn (aw i δ h) Q:=⟨(d,h),by unfold aw;rw[e];rfl,q⟩
theorem He(q:Q (d,h)):Rn (eK d δ h) Q:=⟨_,rfl,q⟩
theorem nO(r:Rn (a δ h) λp=>Rn (b δ p.2) λq=>Rn (f p.1 q.1 q.2) Q):Rn (ao f a b δ h) Q:=a9 (r.imp λ_ r=>a9 r)
theorem Oa(r:Rn (a δ h) λp=>Rn (f p.1 p.2) Q):Rn (wC f a δ h) Q:=a9 r
theorem kB(q:Q ([],h)):Rn (aR δ h) Q:=⟨_,rfl,q⟩
theorem cV(r:Rn (a δ h) λp=>Rn (m δ p.2) λq=>Q (p.1::q.1,q.2)):Rn (ah a m δ h) Q:=a9 (r.imp λ_ r=>a9 (r.imp λ_ q=>⟨_,rfl,q⟩))
theorem FJ(r:Rn (m δ h) λp=>Rn (f p.1 p.2) Q):Rn (ay f m δ h) Q:=a9 r
theorem iW(r:Rn (a δ h) λp=>∃c,p.1=.bl c/\Q (c,p.2)):Rn (aD a δ h) Q:=a9 (r.imp λp ⟨c,e,q⟩=>⟨(c,p.2),by rw[e],q⟩)
theorem CW(r:Rn (a δ h) λp=>∃c,yo p.1 p.2=some c/\Q (c,p.2)):Rn (yt a δ h) Q:=a9 (r.imp λp ⟨c,e,q⟩=>⟨(c,p.2),by rw[e];rfl,q⟩)
theorem qY(r:Rn (t δ h) λp=>Q (!p.1,p.2)):Rn (Sm.uJ t δ h) Q:=CM r
theorem IL(r:Rn (a δ h) λp=>(p.1=true->Rn (b δ p.2) Q)/\(p.1=false->Q (false,p.2))):Rn (Sm.nC a b δ h) Q:=a9 (r.imp λp ⟨q1,q2⟩=>by
 obtain⟨c,h⟩:=p;cases c with
 | true=>exact q1 rfl
 | false=>exact⟨_,rfl,q2 rfl⟩)
theorem Hb(r:Rn (a δ h) λp=>(p.1=true->Q (true,p.2))/\(p.1=false->Rn (b δ p.2) Q)):Rn (Sm.Fj a b δ h) Q:=a9 (r.imp λp ⟨q1,q2⟩=>by
 obtain⟨c,h⟩:=p;cases c with
 | true=>exact⟨_,rfl,q1 rfl⟩
 | false=>exact q2 rfl)
theorem LY(r:Rn (a δ h) λp=>∃c,p.1=.bl c/\(c=true->Rn (b δ p.2) Q)/\(c=false->Q (.bl false,p.2))):Rn (Kj a b δ h) Q:=a9 (r.imp λp ⟨c,e,q1,q2⟩=>by
 rw[e];cases c with
 | true=>exact q1 rfl
 | false=>exact⟨_,rfl,q2 rfl⟩)
theorem ve(r:Rn (m δ h) λp=>Q (.lv p.1,p.2)):Rn (fX m δ h) Q:=CM r
theorem Ob(r:Rn (m δ h) λp=>Q (.ob p.2.length,p.2++[.lst p.1])):Rn (xM m δ h) Q:=CM r
theorem IQ(r:Rn (m δ h) λp=>∃d xs ws,p.1=[d]/\dH d p.2=some (xs,ws)/\Q (xs,p.2)):Rn (EU m δ h) Q:=a9 (r.imp λp ⟨d,xs,ws,e,e2,q⟩=>⟨(xs,p.2),by rw[e];dsimp only;rw[e2];rfl,q⟩)
theorem LO(q:Q (none,h)):Rn (wy δ h) Q:=⟨_,rfl,q⟩
theorem LP(r:Rn (a δ h) λp=>∃i,p.1=.int i/\Q (some i,p.2)):Rn (wz a δ h) Q:=a9 (r.imp λp zz=>by obtain⟨c,e,q⟩:=zz;exact⟨_,by rw[e],q⟩)
abbrev SQ:=Fl×DS×MH->Prop
theorem IP(q:Q (.nx,δ,h)):Rn (cA δ h) Q:=⟨_,rfl,q⟩
def zB(b:SM)(Q:SQ):SQ:=λr=>match r.1 with
 | .nx=>Rn (b r.2.1 r.2.2) Q
 | _=>Q r
theorem fU(r:Rn (a δ h) (zB b Q)):Rn (aq a b δ h) Q:=a9 (r.imp λp q=>by
 obtain⟨f,δ',h'⟩:=p;cases f with
 | nx=>exact q
 | bk=>exact⟨_,rfl,q⟩
 | ct=>exact⟨_,rfl,q⟩
 | rt d=>exact⟨_,rfl,q⟩)
theorem zN(r:Rn (e δ h) λp=>Q (.nx,δ.set i (some p.1),p.2)):Rn (aQ i e δ h) Q:=a9 (r.imp λ_ q=>⟨_,rfl,q⟩)
theorem C0(r:Rn (e δ h) λp=>Rn (g p.1 δ p.2) λq=>Q (.nx,q.1,q.2)):Rn (fN e g δ h) Q:=a9 (r.imp λ_ r=>a9 (r.imp λ_ q=>⟨_,rfl,q⟩))
theorem CZ(r:Rn (e δ h) λp=>Q (.nx,δ,p.2)):Rn (fT e δ h) Q:=a9 (r.imp λ_ q=>⟨_,rfl,q⟩)
theorem xb(r:Rn (e δ h) λp=>Q (.rt p.1,δ,p.2)):Rn (bu e δ h) Q:=a9 (r.imp λ_ q=>⟨_,rfl,q⟩)
theorem xa(r:Rn (t δ h) λp=>(p.1=true->Rn (a δ p.2) Q)/\(p.1=false->Rn (b δ p.2) Q)):Rn (gg t a b δ h) Q:=a9 (r.imp λp ⟨q1,q2⟩=>by
 obtain⟨c,h⟩:=p;cases c with
 | true=>exact q1 rfl
 | false=>exact q2 rfl)
theorem LQ(r:Rn (m δ h) λp=>∃a b,p.1=[a,b]/\Q (.nx,(δ.set i (some a)).set j (some b),p.2)):Rn (wX i j m δ h) Q:=a9 (r.imp λp zz=>by obtain⟨a,b,e,q⟩:=zz;exact⟨_,by rw[e],q⟩)
theorem AW(q:Q (δ.set i (some d),h)):Rn (gN i d δ h) Q:=⟨_,rfl,q⟩
theorem IT(r:Rn (o δ h) λp=>Rn (i δ p.2) λq=>Rn (tw p.1 q.1 v q.2) λh'=>Q (δ,h')):Rn (Sm.pN o i v δ h) Q:=a9 (r.imp λ_ r=>a9 (r.imp λ_ r=>CM r))
theorem IS(hn:xs.length=n)(r:Rn (u xs δ h) Q):Rn (gT n u (.tup xs) δ h) Q:=by
 unfold gT;dsimp only;rw[P0 hn];exact r
theorem iu(r:Rn (g d δ h) λp=>Rn (u xs p.1 p.2) Q):Rn (au g u (d::xs) δ h) Q:=a9 r
theorem vf(q:Q (δ,h)):Rn (bV [] δ h) Q:=⟨_,rfl,q⟩
def FF(Q:D×MH->Prop):SQ:=λr=>match r.1 with
 | .rt d=>Q (d,r.2.2)
 | .nx=>Q (.cw,r.2.2)
 | _=>False
theorem Ou(q:Q (d,h)):FF Q (.rt d,δ,h):=q
theorem Ov(q:Q (.cw,h)):FF Q (.nx,δ,h):=q
theorem qt(r:Rn (b δ h) Q):zB b Q (.nx,δ,h):=r
theorem NK(q:Q (.rt d,δ,h)):zB b Q (.rt d,δ,h):=q
def Hl(I:DS->MH->Prop)(Q:SQ):SQ:=λz=>match z.1 with
 | .nx=>I z.2.1 z.2.2
 | .ct=>I z.2.1 z.2.2
 | .bk=>Q (.nx,z.2.1,z.2.2)
 | .rt d=>Q (.rt d,z.2.1,z.2.2)
theorem OB(q:I δ h):Hl I Q (.nx,δ,h):=q
theorem bU(r:Rn (b (entry len ds) h) (FF Q)):Rn (lG len b ds h) Q:=a9 (r.imp λp q=>by
 obtain⟨f,δ',h'⟩:=p;cases f with
 | nx=>exact⟨_,rfl,q⟩
 | rt d=>exact⟨_,rfl,q⟩
 | bk=>exact q.elim
 | ct=>exact q.elim)
theorem LX(r:Rn (i δ h) λp=>Rn (mM p.2.1 g b p.1 δ p.2.2) Q):Rn (ip i g b δ h) Q:=a9 r
theorem cU:∀{xs:List D} {δ:DS} {h:MH} (I:Nat->DS->MH->Prop),I 0 δ h->(∀i δ h,i<=xs.length->I i δ h->mV ws h=true)->
  (∀i x δ h,xs[i]?=some x->I i δ h->Rn (g x δ h) λq=>Rn (b q.1 q.2) (Hl (I (i+1)) Q))->(∀δ h,I xs.length δ h->Q (.nx,δ,h))->Rn (mM ws g b xs δ h) Q
 | [],δ,h,I,h0,hc,_,hq=>by
  unfold mM;rw[P0 (hc 0 δ h (PZ _) h0)];exact⟨_,rfl,hq δ h h0⟩
 | x::xs,δ,h,I,h0,hc,ht,hq=>by
  unfold mM;rw[P0 (hc 0 δ h (RJ _) h0)];obtain⟨q,e1,z,e2,hz⟩:=ht 0 x δ h rfl h0;rw[e1];show Rn ((b q.1 q.2).bind _) Q;rw[e2];obtain⟨f,δ',h'⟩:=z;have next:I 1 δ' h'->Rn (mM ws g b xs δ' h') Q:=λhi=>cU (λi=>I (i+1)) hi (λi δ h hl=>hc (i+1) δ h (Sz hl)) (λi x δ h hx=>ht (i+1) x δ h (by simpa using hx)) hq
  cases f with
  | nx=>exact next hz
  | ct=>exact next hz
  | bk=>exact⟨_,rfl,hz⟩
  | rt d=>exact⟨_,rfl,hz⟩
theorem dU(r:Rn (e δ h) λp=>∃xs ws,dH p.1 p.2=some (xs,ws)/\Q (xs,ws,p.2)):Rn (dI e δ h) Q:=a9 (r.imp λp ⟨xs,ws,e,q⟩=>⟨(xs,ws,p.2),by rw[e];rfl,q⟩)
theorem gj(r:Rn (m δ h) λp=>∃j:Int,p.1=[.int j]/\-(2^62)<=j/\j < 2^62/\Q ((List.range j.toNat).map λ(k:Nat)=>D.int (k:Int),[],p.2)):Rn (n6 m δ h) Q:=a9 (r.imp λp ⟨j,e,h1,h2,q⟩=>by
 rw[e];dsimp only;rw[P0 ⟨h1,h2⟩];exact⟨_,rfl,q⟩)
theorem mn(r:Rn (m δ h) λp=>∃d xs ws,p.1=[d]/\dH d p.2=some (xs,ws)/\Q (kI 0 xs,ws,p.2)):Rn (rL m δ h) Q:=
 a9 (r.imp λp zz=>by obtain⟨d,xs,ws,e1,e2,q⟩:=zz;exact⟨_,by rw[e1];dsimp only;rw[e2];rfl,q⟩)
theorem IU(r:Rn (i δ h) λp=>Rn (bC p.2.1 g c e p.1 (gP caps δ) p.2.2) λq=>q.1.length<=sizeLine/\Q q):Rn (bW caps i g c e δ h) Q:=
 a9 (r.imp λp r=>a9 (r.imp λq ⟨hz,hq⟩=>⟨q,by rw[P0 hz],hq⟩))
theorem vg(hc:mV ws h=true)(f:D->Option D)(J:DS->Prop):∀{xs:List D} {δ:DS},J δ->
  (∀x∈xs,∀δ,J δ->Rn (g x δ h) λq=>q.2=h/\Rn (c q.1 h) λt=>t.2=h/\J q.1/\(t.1=true->∃y,f x=some y/\Rn (e q.1 h) λp=>p=(y,h))/\(t.1=false->f x=none))->
  bC ws g c e xs δ h=some (xs.filterMap f,h)
 | [],δ,_,_=>by unfold bC;rw[P0 hc];rfl
 | x::xs,δ,hJ,ht=>by
  unfold bC;rw[P0 hc];obtain⟨⟨δ1,h1⟩,e1,rfl,⟨t,h2⟩,e2,rfl,J1,q1,q2⟩:=ht x P1 δ hJ;rw[e1];dsimp only[Option.bind_some] at e2 q1 q2 ⊢;rw[e2];dsimp only[Option.bind_some];have ih:=vg hc f J J1 (xs:=xs) λy hy=>ht y (P4 _ hy);cases t with
  | true=>
   obtain⟨y,ef,p,ep,rfl⟩:=q1 rfl;rw[P0 rfl,ep];dsimp only[Option.bind_some];rw[ih,QW,ef];rfl
  | false=>
   rw[P7 (by simp),ih,QW,q2 rfl]
end Sm
namespace Sm
theorem IK(q:Q (d,h))(e:δ[i]?=some (some d):=by with_unfolding_all rfl):Rn (aw i δ h) Q:=gi e q
theorem LW(r:Rn (u xs δ h) Q)(hn:xs.length=n:=by with_unfolding_all rfl):Rn (gT n u (.tup xs) δ h) Q:=IS hn r
end Sm
namespace Sm
open PySem L2
theorem yH(hh:Rn (a δ h) λp=>Rn (l δ p.2) λq=>Rn (u δ q.2) λr=>Rn (i8 p.1 q.1 r.1 r.2) Q):Rn (jt a l u δ h) Q:=a9 (hh.imp λ_ x=>a9 (x.imp λ_ y=>a9 y))
theorem xc(hh:Rn (ma δ h) λp=>Rn (mb δ p.2) λq=>Rn (f p.1 q.1 q.2) λr=>∃b,r.1=.bl b/\if b=true then Rn (mc δ r.2) λu=>Rn (f' q.1 u.1 u.2) Q else Q (.bl false,r.2)):Rn (jJ f f' ma mb mc δ h) Q:=
 a9 (hh.imp λp x=>a9 (x.imp λq y=>a9 (y.imp λr ⟨b,e,k⟩=>by
  rw[e];cases b with
  | true=>rw[P0 rfl] at k;exact a9 k
  | false=>rw[P7 (by simp)] at k;exact⟨_,rfl,k⟩)))
theorem Lh(q:Q (.tup ds,h)):Rn (aY ds h) Q:=⟨_,rfl,q⟩
theorem Lj(q:Q (.int (-a),h)):Rn (kK (.int a) h) Q:=⟨_,rfl,q⟩
theorem w_add(q:Q (.int (a+b),h)):Rn (ax (.int a) (.int b) h) Q:=⟨_,rfl,q⟩
theorem w_sub(q:Q (.int (a-b),h)):Rn (y1 (.int a) (.int b) h) Q:=⟨_,rfl,q⟩
theorem w_lt(q:Q (.bl (decide (a < b)),h)):Rn (BP (.int a) (.int b) h) Q:=⟨_,rfl,q⟩
theorem NG(q:Q (.bl (decide (b < a)),h)):Rn (y9 (.int a) (.int b) h) Q:=⟨_,rfl,q⟩
theorem NH(q:Q (.bl (decide (b<=a)),h)):Rn (MC (.int a) (.int b) h) Q:=⟨_,rfl,q⟩
theorem Lq(q:Q (.bl (a==b),h)):Rn (cP (.int a) (.int b) h) Q:=⟨_,rfl,q⟩
theorem Lp(q:Q (.bl (x==y),h)):Rn (cP (.str x) (.str y) h) Q:=⟨_,rfl,q⟩
theorem Lk(q:Q (.bl (!(x==y)),h)):Rn (iD (.str x) (.str y) h) Q:=⟨_,rfl,q⟩
theorem Lo(q:Q (d,h)):Rn (aW (.tup (d::r)) (.int 0) h) Q:=⟨_,by
 show((g9 (d::r) 0).map λz=>(z,h))=_;have:g9 (d::r) 0=some d:=by unfold g9;rw[show tu (d::r).length 0=some 0 by unfold tu;simp;try lia];rfl
 rw[this];rfl,q⟩
theorem Lm(q:Q (e,h)):Rn (aW (.tup (d::e::r)) (.int 1) h) Q:=⟨_,by
 show((g9 (d::e::r) 1).map λz=>(z,h))=_;have:g9 (d::e::r) 1=some e:=by unfold g9;rw[show tu (d::e::r).length 1=some 1 by unfold tu;simp;try lia];rfl
 rw[this];rfl,q⟩
theorem Ll(q:Q (f,h)):Rn (aW (.tup (d::e::f::r)) (.int 2) h) Q:=⟨_,by
 show((g9 (d::e::f::r) 2).map λz=>(z,h))=_;have:g9 (d::e::f::r) 2=some f:=by unfold g9;rw[show tu (d::e::f::r).length 2=some 2 by unfold tu;simp;try lia];rfl
 rw[this];rfl,q⟩
theorem HR(q:Q (.int r.length,h)):Rn (dE [.tup r] h) Q:=⟨_,rfl,q⟩
theorem HS(q:Q (.int r.length,h)):Rn (dE [.lv r] h) Q:=⟨_,rfl,q⟩
inductive sE{α β:Type}(R:α->β->Prop):List α->List β->Prop where
 | nil:sE R [] []
 | cons {x y xs ys}:R x y->sE R xs ys->sE R (x::xs) (y::ys)
theorem sE.length{xs:List α}{ys:List β}(a:sE R xs ys):ys.length=xs.length:=by
 induction a with
 | nil=>rfl
 | cons _ t ih=>rw[P2,P2,ih]
theorem sE.right{xs:List α}{ys:List β}(a:sE R xs ys):∀y∈ys,∃x∈xs,R x y:=by
 induction a with
 | nil=>exactλ_ h=>(nomatch h)
 | cons r t ih=>
  intro y h;rcases P5.mp h with rfl | h
  ·exact⟨_,P1,r⟩
  ·obtain⟨x,hx,r⟩:=ih y h;exact⟨x,P4 _ hx,r⟩
theorem pW(R:D->D->Prop):∀{xs:List D} {δ:DS} {h:MH} (J:Nat->DS->MH->Prop),J 0 δ h->(∀i δ h,i<=xs.length->J i δ h->mV ws h=true)->
  (∀i x δ h,xs[i]?=some x->J i δ h->Rn (g x δ h) λq=>Rn (e q.1 q.2) λy=>R x y.1/\J (i+1) q.1 y.2)->Rn (bC ws g ej e xs δ h) λp=>sE R xs p.1/\∃δ',J xs.length δ' p.2
 | [],δ,h,J,hJ,hc,_=>by
  unfold bC;rw[P0 (hc 0 δ h (PZ _) hJ)];exact⟨_,rfl,.nil,δ,hJ⟩
 | x::xs,δ,h,J,hJ,hc,ht=>by
  unfold bC;rw[P0 (hc 0 δ h (RJ _) hJ)];obtain⟨⟨δ1,h1⟩,e1,⟨y,h2⟩,e2,r,J1⟩:=ht 0 x δ h rfl hJ;dsimp only at e2 r J1;obtain⟨⟨ys,h3⟩,e3,a,δ',J2⟩:=pW R (xs:=xs) (λi=>J (i+1)) J1 (λi δ h hl=>hc (i+1) δ h (Sz hl)) λi y δ h hy=>ht (i+1) y δ h (by simpa using hy);refine⟨(y::ys,h3),?_,.cons r a,δ',J2⟩;rw[e1];dsimp only[Option.bind_some];show((some (true,h1)).bind _)=_;dsimp only[Option.bind_some];rw[P0 rfl,e2];dsimp only[Option.bind_some];rw[e3];rfl
theorem pV(R:D->D->Prop):∀{xs:List D} {δ:DS} {h:MH} (J:Nat->DS->MH->Prop),J 0 δ h->(∀i δ h,i<=xs.length->J i δ h->mV ws h=true)->
  (∀i x δ h,xs[i]?=some x->J i δ h->Rn (g x δ h) λq=>Rn (c q.1 q.2) λt=>(t.1=true->Rn (e q.1 t.2) λy=>R x y.1/\J (i+1) q.1 y.2)/\(t.1=false->J (i+1) q.1 t.2))->Rn (bC ws g c e xs δ h) λp=>p.1.length<=xs.length/\(∀y∈p.1,∃x∈xs,R x y)/\∃δ',J xs.length δ' p.2
 | [],δ,h,J,hJ,hc,_=>by
  unfold bC;rw[P0 (hc 0 δ h (PZ _) hJ)];exact⟨_,rfl,PZ _,λ_ z=>(nomatch z),δ,hJ⟩
 | x::xs,δ,h,J,hJ,hc,ht=>by
  unfold bC;rw[P0 (hc 0 δ h (RJ _) hJ)];obtain⟨⟨δ1,h1⟩,e1,⟨t,h2⟩,e2,q1,q2⟩:=ht 0 x δ h rfl hJ;dsimp only at e2 q1 q2;rw[e1];dsimp only[Option.bind_some];rw[e2];dsimp only[Option.bind_some];have next:=λ{δ':DS} {h':MH} (J1:J 1 δ' h')=>pV R (xs:=xs) (λi=>J (i+1)) J1 (λi δ h hl=>hc (i+1) δ h (Sz hl)) λi y δ h hy=>ht (i+1) y δ h (by simpa using hy)
  cases t with
  | true=>
   obtain⟨⟨y,h3⟩,e3,r,J1⟩:=q1 rfl;dsimp only at r J1;obtain⟨⟨ys,h4⟩,e4,l,a,δ',J2⟩:=next J1
   refine⟨(y::ys,h4),?_,Sz l,λz hz=>?_,δ',J2⟩
   ·rw[P0 rfl,e3];dsimp only[Option.bind_some];rw[e4];rfl
   ·rcases P5.mp hz with rfl | hz
    ·exact⟨x,P1,r⟩
    ·obtain⟨u,hu,r⟩:=a z hz;exact⟨u,P4 _ hu,r⟩
  | false=>
   obtain⟨⟨ys,h4⟩,e4,l,a,δ',J2⟩:=next (q2 rfl)
   refine⟨(ys,h4),?_,TL l,λz hz=>?_,δ',J2⟩
   ·rw[P7 (by decide),e4]
   ·obtain⟨u,hu,r⟩:=a z hz;exact⟨u,P4 _ hu,r⟩
theorem MG(r:Rn (e δ h) λp=>Rn (b (δ.set i (some p.1)) p.2) Q):Rn (aq (aQ i e) b δ h) Q:=fU (zN (r.imp λ_ q=>qt q))
theorem MN(r:Rn (e δ h) λp=>Rn (g p.1 δ p.2) λq=>Rn (b q.1 q.2) Q):Rn (aq (fN e g) b δ h) Q:=fU (C0 (r.imp λ_ q=>q.imp λ_ q=>qt q))
theorem Kx(r:Rn (e δ h) λp=>Rn (b δ p.2) Q):Rn (aq (fT e) b δ h) Q:=fU (CZ (r.imp λ_ q=>qt q))
theorem PL(r:Rn (m δ h) λq=>Q (d::q.1,q.2))(e:δ[i]?=some (some d):=by with_unfolding_all rfl):Rn (ah (aw i) m δ h) Q:=cV (gi e r)
theorem PN(r:Rn (m δ h) λq=>Q (d::q.1,q.2)):Rn (ah (eK d) m δ h) Q:=cV (He r)
theorem OP(r:Rn (f [d] h) Q)(e:δ[i]?=some (some d):=by with_unfolding_all rfl):Rn (ay f (ah (aw i) aR) δ h) Q:=FJ (cV (gi e (kB r)))
theorem OO(r:Rn (f [d,d'] h) Q)(e:δ[i]?=some (some d):=by with_unfolding_all rfl)(e':δ[j]?=some (some d'):=by with_unfolding_all rfl):Rn (ay f (ah (aw i) (ah (aw j) aR)) δ h) Q:=FJ (cV (gi e (cV (gi e' (kB r)))))
theorem ON(r:Rn (f [d,d',d''] h) Q)(e:δ[i]?=some (some d):=by with_unfolding_all rfl)(e':δ[j]?=some (some d'):=by with_unfolding_all rfl)(e'':δ[k]?=some (some d''):=by with_unfolding_all rfl):Rn (ay f (ah (aw i) (ah (aw j) (ah (aw k) aR))) δ h) Q:=FJ (cV (gi e (cV (gi e' (cV (gi e'' (kB r)))))))
theorem MJ(r:Rn (f d c h) Q)(e:δ[i]?=some (some d):=by with_unfolding_all rfl):Rn (ao f (aw i) (eK c) δ h) Q:=nO (gi e (He r))
theorem MI(r:Rn (f d d' h) Q)(e:δ[i]?=some (some d):=by with_unfolding_all rfl)(e':δ[j]?=some (some d'):=by with_unfolding_all rfl):Rn (ao f (aw i) (aw j) δ h) Q:=nO (gi e (gi e' r))
theorem OL(r:Rn (b δ h) λq=>Rn (f d q.1 q.2) Q)(e:δ[i]?=some (some d):=by with_unfolding_all rfl):Rn (ao f (aw i) b δ h) Q:=nO (gi e r)
theorem OM(r:Rn (a δ h) λq=>Rn (f q.1 c q.2) Q):Rn (ao f a (eK c) δ h) Q:=nO (r.imp λ_ r=>He r)
theorem MM(q:Q ((δ.set i (some a)).set j (some b),h)):Rn (gT 2 (au (gN i) (au (gN j) bV)) (.tup [a,b]) δ h) Q:=IS rfl (iu (AW (iu (AW (vf q)))))
theorem ML(q:Q (((δ.set i (some a)).set j (some b)).set k (some c),h)):Rn (gT 3 (au (gN i) (au (gN j) (au (gN k) bV))) (.tup [a,b,c]) δ h) Q:=IS rfl (iu (AW (iu (AW (iu (AW (vf q)))))))
theorem Ku(q:Q (.rt d,δ,h))(e:δ[i]?=some (some d):=by with_unfolding_all rfl):Rn (bu (aw i) δ h) Q:=xb (gi e q)
theorem Kv(q:Q (.rt d,δ,h)):Rn (bu (eK d) δ h) Q:=xb (He q)
end Sm
namespace L2
open PySem PySem.Spec PyProof.Rows
abbrev Oz:Hp:=λ_=>none
structure Tab(P:Program)(w:World)(K:FR)(mg:Str->Option Value)(nm:Str)(tb:List (Str×List Int)):Prop where
 ex:∃(a:Addr)(o:Obj)(es:Array DictEntry)(ep:Nat)(kvs:List (Str×Value)),mg nm=some (.ref a)/\K.lookup a=some o/\o.ExactDict/\o.data=.dict es ep/\(a==sysModules)=false/\KeysOf (strKind P w) es/\Pairs (strKind P w) es.toList kvs/\(kvs.map (·.1)).Nodup/\
  Sm.sE (λ(x:Str×List Int)(y:Str×Value)=>x.1=y.1/\∃(t:Addr)(u:Obj)(its:Array Value)(n:Nat),y.2=.ref t/\K.lookup t=some u/\u.cls=.type "tuple"/\u.dict=none/\u.data=.seq its n/\its.size<=sizeLine/\IntsAre its.toList x.2) tb kvs
theorem AK{K:FR}:∀{tb:List (Str×List Int)} {kvs:List (Str×Value)},Sm.sE (λ(x:Str×List Int)(y:Str×Value)=>x.1=y.1/\∃(t:Addr)(u:Obj)(its:Array Value)(n:Nat),y.2=.ref t/\K.lookup t=some u/\u.cls=.type "tuple"/\u.dict=none/\u.data=.seq its n/\its.size<=sizeLine/\IntsAre its.toList x.2) tb kvs->∀x:Str,
  (∀is,tb.lookup x=some is->∃t,valueAt kvs x=some (.ref t)/\∀H,ko K H t (is.map V.int))/\(valueAt kvs x).isSome=(tb.lookup x).isSome:=by
 intro tb kvs h
 induction h with
 | nil=>exactλx=>⟨λis e=>(nomatch e),rfl⟩
 | @cons p q tb kvs r l ih=>
  intro x;obtain⟨a,is0⟩:=p;obtain⟨b,v⟩:=q;obtain⟨e0,t,u,its,n,e1,h1,h2,h3,h4,h5,h6⟩:=r;dsimp only at e0 e1 h6;subst e0;subst e1
  by_cases hx:x=a
  ·subst hx;have hv:valueAt ((x,Value.ref t)::kvs) x=some (.ref t):=by unfold valueAt;simp
   have hl:((x,is0)::tb).lookup x=some is0:=by simp
   refine⟨λis e=>?_,by rw[hv,hl];rfl⟩;rw[hl] at e;cases e;exact⟨t,hv,λH=>.inr ⟨u,its,n,h1,h2,h4,h5,jQ h6,h3⟩⟩
  ·have hv:valueAt ((a,Value.ref t)::kvs) x=valueAt kvs x:=by
    unfold valueAt;rw[List.find?_cons_of_neg (by simpa using λz=>hx z.symm)]
   have hl:((a,is0)::tb).lookup x=tb.lookup x:=by
    rw[QD,show(x==a)=false by simpa using hx]
   rw[hv,hl];exact ih x
theorem Tab.dict(T:Tab X.prog X.w X.K X.mg nm tb)(I:Inv X pins σ H s):∃(a:Addr)(kvs:List (Str×Value)),X.mg nm=some (.ref a)/\(a==sysModules)=false/\s.heap.DictOf (strKind X.prog X.w) a kvs/\∀x:Str,
  (∀is,tb.lookup x=some is->∃t,valueAt kvs x=some (.ref t)/\∀H,ko X.K H t (is.map V.int))/\(valueAt kvs x).isSome=(tb.lookup x).isSome:=by
 obtain⟨a,o,es,ep,kvs,h1,h2,h3,h4,h5,h6,h7,h8,h9⟩:=T.ex;exact⟨a,kvs,h1,h5,⟨o,es,ep,I.z7 a o h2,h3,h4,h6,h7,h8⟩,AK h9⟩
theorem Jd(T:Tab X.prog X.w X.K X.mg nm tb)(hg:Gl X nm)(hi:PE X i ti)(hs:GY i)(hd:(nm==("__debug__":Str))=false):
  PE X (.Subscript (.Name nm p) i pos) (λσ H Q=>ti σ H λy H1=>∃x is,y=.str x/\tb.lookup x=some is/\∀t,ko X.K Oz t (is.map V.int)->Q (.ref t) H1):=by
 intro pins s σ H Q I h;obtain⟨a,kvs,hm,hsm,dd,hv⟩:=T.dict I;refine Fp Ui.lookup hs (j6 I hg hm (dh (hi pins s σ H _ I h) λiv s2 ⟨y,H2,I2,ry,x,is,ey,l,q⟩=>?_) hd);subst ey;obtain⟨t,rfl⟩:=ry;obtain⟨a',kvs',hm',hsm',dd',hv'⟩:=T.dict I2;rw[hm] at hm';cases hm';obtain⟨u,e,sq⟩:=(hv' x).1 is l;exact⟨dd'.typeIs,wpAny_getItem_of (by show Value.isStrOf x (.str x t)=true;unfold Value.isStrOf;simp) dd'.mapOf e ⟨.ref u,H2,I2.tok _,rfl,q u (sq _)⟩⟩
end L2
namespace Sm
open PySem L2 PySem.Spec PyProof.Rows
noncomputable def Gz(tb:List (Str×List Int))(d:D)(h:MH):Option (D×MH):=match d with
 | .str x=>(tb.lookup x).map λis=>(.tup (is.map D.int),h)
 | _=>none
theorem CD(T:Tab X.prog X.w X.K X.mg nm tb)(hi:SE X i mi)(hg:Gl X nm:=by unfold Gl;ac_nf)(hs:GY i:=by unfold GY;intro _ _;ac_nf)(hd:(nm==("__debug__":Str))=false:=by ac_nf):SE X (.Subscript (.Name nm p) i pos) (wC (Gz tb) mi):=
 (Jd T hg hi hs hd).imp λσ H Q ⟨ρ,δ,h,d,h',R,S,e,k⟩=>by
  obtain⟨⟨x,h1⟩,e1,e2⟩:=bA e;dsimp only at e2;refine⟨ρ,δ,h,x,h1,R,S,e1,λv H1 ⟨ρ1,T1,S1,r1⟩=>?_⟩;unfold Gz at e2
  split at e2
  ·rename_i y;obtain⟨is,e3,e4⟩:=hW e2;cases e4;cases r1;exact⟨_,is,rfl,e3,λt sq=>k _ _ ⟨ρ1,T1,S1,.tup (.inr sq) (repL_ints' is)⟩⟩
  ·cases e2
end Sm
namespace Hd
open PySem PySem.W PySem.Spec PyProof.Rows L2 Sm
abbrev Sub(h h':Heap):Prop:=∀b o,h.get? b=some o->h'.get? b=some o
theorem yE(k:Sub h h')(x:rowAt h e=some r):rowAt h' e=some r:=by
 unfold rowAt at x ⊢
 split at x
 ·split at x
  ·split at x
   ·rename_i u hu;rw[k _ _ hu];exact x
   ·cases x
  ·cases x
 ·cases x
theorem oO(k:Sub h h'):∀{es:List DictEntry} {r:List (Str×Int×List Int)},kP h es=some r->kP h' es=some r
 | [],_,x=>x
 | e::es,r,x=>by
  unfold kP at x ⊢;obtain⟨y,e1,x⟩:=Sd.mp x;obtain⟨ys,e2,x⟩:=Qo.mp x;rw[yE k e1,oO k e2];exact congrArg some x
theorem yr(k:Sub h h')(x:tabAt h nm=some r):tabAt h' nm=some r:=by
 have hg:∀v,h.nsMap mainGlobals nm=some v->h'.nsMap mainGlobals nm=some v:=λv e=>by
  unfold Heap.nsMap at e ⊢
  split at e
  ·rename_i o ho;rw[k _ _ ho];exact e
  ·cases e
 unfold tabAt at x ⊢
 split at x
 ·rename_i a ha;rw[hg _ ha];dsimp only
  split at x
  ·cases x
  ·rename_i hs;rw[P7 hs]
   split at x
   ·rename_i o ho;rw[k _ _ ho];dsimp only
    split at x
    ·rename_i hc;rw[P0 hc]
     split at x
     ·exact oO k x
     ·cases x
    ·cases x
   ·cases x
 ·cases x
theorem xE:∀{vs:List Value} {is:List Int},z9 vs=some is->IntsAre vs is
 | [],_,e=>by cases e;exact .nil
 | v::r,is,e=>by
  cases v <;> first |(exact bN e) | skip
  obtain⟨js,e1,e2⟩:=Qo.mp (show(z9 r).map _=some is from e);subst e2;exact .cons _ _ (xE e1)
theorem xW(h:Ao v t=true):v=.type t:=by
 unfold Ao at h
 split at h
 ·rw[QX h]
 ·cases h
theorem qP:∀{es:List DictEntry} {tb:List (Str×List Int)},kP h es=some (tb.map λx=>(x.1,hashStr w x.1,x.2))->
  ∃kvs:List (Str×Value),(∀e∈es,∃k,(PySem.strKind P w).is k e.key=true/\e.hash=(PySem.strKind P w).hash k)/\Pairs (PySem.strKind P w) es kvs/\kvs.map (·.1)=tb.map (·.1)/\
   sE (λ(x:Str×List Int)(y:Str×Value)=>x.1=y.1/\∃(t:Addr)(u:Obj)(its:Array Value)(n:Nat),y.2=.ref t/\(aB h).lookup t=some u/\u.cls=.type "tuple"/\u.dict=none/\u.data=.seq its n/\its.size<=sizeLine/\IntsAre its.toList x.2) tb kvs
 | [],tb,x=>by
  have hz:tb=[]:=by
   have:=Option.some.inj x;exact List.map_eq_nil_iff.mp this.symm
  subst hz;exact⟨[],λ_ z=>(nomatch z),.nil,rfl,.nil⟩
 | e::es,tb,x=>by
  unfold kP at x;obtain⟨y,e1,x⟩:=Sd.mp x;obtain⟨ys,e2,x⟩:=Qo.mp x;cases tb with
  | nil=>cases x
  | cons q tb=>
   rw[Qc] at x;obtain⟨rfl,rfl⟩:=List.cons.inj x;obtain⟨kvs,h1,h2,h3,h4⟩:=qP (P:=P) e2;unfold rowAt at e1
   split at e1
   ·rename_i x0 tk hk
    split at e1
    ·rename_i t hv
     split at e1
     ·rename_i u hu
      split at e1
      ·rename_i hc;rw[Qw] at hc
       split at e1
       ·rename_i its n hd
        split at e1
        ·rename_i hs;obtain⟨is,e3,e4⟩:=Qo.mp e1;have e5:x0=q.1:=congrArg (·.1) e4;have e6:e.hash=hashStr w q.1:=congrArg (·.2.1) e4;have e7:is=q.2:=congrArg (·.2.2) e4;have hki:(PySem.strKind P w).is q.1 e.key=true:=by rw[hk,e5];show Value.isStrOf q.1 (.str q.1 tk)=true;unfold Value.isStrOf;simp
         refine⟨(q.1,.ref t)::kvs,λe' he'=>?_,.cons hki hv h2,by rw[Qc,Qc,h3],.cons ⟨rfl,t,u,its,n,rfl,bE hu (gM λvs z=>by rw[hd] at z;cases z),xW hc.1,by simpa using hc.2,hd,P6 hs (by decide),by rw[<-e7];exact xE e3⟩ h4⟩;rcases P5.mp he' with rfl | he'
         ·exact⟨q.1,hki,e6⟩
         ·exact h1 e' he'
        ·cases e1
       ·cases e1
      ·cases e1
     ·cases e1
    ·cases e1
   ·cases e1
theorem tab_of(x:tabAt h nm=some (tb.map λx=>(x.1,hashStr w x.1,x.2)))(g:h.Ns mainGlobals mg)(nd:(tb.map (·.1)).Nodup):Tab P w (aB h) mg nm tb:=by
 unfold tabAt at x
 split at x
 ·rename_i a ha
  split at x
  ·cases x
  ·rename_i hs
   split at x
   ·rename_i o ho
    split at x
    ·rename_i hc;rw[Qw,Qw] at hc
     split at x
     ·rename_i es ep hd;obtain⟨kvs,h1,h2,h3,h4⟩:=qP (P:=P) x;have hm:mg nm=some (.ref a):=by
       obtain⟨o',es',ep',g1,g2,_,g3⟩:=g;rw[<-g3 nm,<-ha];unfold Heap.nsMap;rw[g1];dsimp only;rw[g2]
      exact⟨a,o,es,ep,kvs,hm,bE ho (gM λvs z=>by rw[hd] at z;cases z),⟨xW hc.1.1,by simpa using hc.1.2,QX hc.2⟩,hd,by simpa using hs,λe he=>h1 e (SH.mpr he),h2,by rw[h3];exact nd,h4⟩
     ·cases x
    ·cases x
   ·cases x
 ·cases x
end Hd
namespace L2
open PySem PySem.Spec PyProof.Rows
end L2
namespace Sm
open PySem L2 PySem.Spec PyProof.Rows
end Sm
namespace Sb
open PySem L2 PySem.Spec PyProof.Rows
open Builtin.SmallTypes (nextOf ownedTupleIsFree ownedTupleHandOut)
end Sb
namespace PySem
end PySem
namespace L2
open PySem PySem.Spec PyProof.Rows
end L2
namespace L2
open PySem PySem.Spec PyProof.Rows Sb
end L2
namespace Sm
open PySem L2 PySem.Spec PyProof.Rows Sb
end Sm
namespace Sb
open PySem L2 PySem.Spec PyProof.Rows
variable {P:Program} {w:World} {A:Around} {E:Value->Shared->Prop} {s:Shared} {b c:Bool}
end Sb
namespace Sb
open PySem L2 PySem.Spec PyProof.Rows
variable {P:Program} {w:World} {A:Around} {E:Value->Shared->Prop} {s:Shared} {b c:Bool}
end Sb
namespace L2
open PySem PySem.Spec PyProof.Rows Sb
end L2
namespace Sm
open PySem L2 PySem.Spec PyProof.Rows Sb
end Sm
namespace PySem
end PySem
namespace L2
open PySem PySem.Spec PyProof.Rows
end L2
namespace Sm
open PySem L2 PySem.Spec PyProof.Rows
end Sm
namespace L2
open PySem PySem.Spec PyProof.Rows
end L2
namespace L2
open PySem PySem.Spec PyProof.Rows PySem.SeqAt
end L2
namespace Sm
open PySem L2 PySem.Spec PyProof.Rows
end Sm
namespace Hd
open PySem PySem.W PySem.Spec PyProof.Rows L2 Sm
end Hd
namespace L2
open PySem PySem.Spec PyProof.Rows
end L2
namespace Sm
open PySem L2 PySem.Spec PyProof.Rows
end Sm
namespace L2
open PySem PySem.Spec PyProof.Rows
end L2
namespace Sm
open PySem L2 PySem.Spec PyProof.Rows
end Sm
namespace L2
open PySem PySem.Spec PyProof.Rows
end L2
namespace Sm
open PySem L2
end Sm
namespace Sm
open PySem L2 PySem.Spec PyProof.Rows
end Sm
namespace L2
open PySem PySem.Spec PyProof.Rows
end L2
namespace Sm
open PySem L2 PySem.Spec PyProof.Rows
theorem gf(d:Df X.prog X.w X.K X.mg X.base nm k ps n F)(hr:cM k' X.A)(ha:SA X (e::es) m)(hk:k<=k':=by decide)(hl:lE m n:=by repeat(first | exact aA | refine ag ?_))(hg:Gl X nm:=by unfold Gl;ac_nf)(hdb:(nm==("__debug__":Str))=false:=by ac_nf)(he:starEach (e::es) X.env=(false,eval e X.env)::starEach es X.env:=by ac_nf)(hpl:(backTo pos (starEach es X.env)).any (·.1)=false:=by ac_nf):SE X (.Call (.Name nm p) (e::es) [] pos) (ay F m):=LN d hr hk ha hl hg hdb he hpl
theorem FC{x:Str}{id:String}{p pos:Pos}{e:Expr}{es:List Expr}{f:Fn}{m:AM}(hc:gU X (.builtin id) f)(hm:X.mg x=none)(hv:bootBuiltins x=some (.builtin id))(ha:SA X (e::es) m)(hg:Gl X x:=by unfold Gl;ac_nf)(hn:x≠"__name__":=by decide)(hdb:(x==("__debug__":Str))=false:=by ac_nf)
  (he:starEach (e::es) X.env=(false,eval e X.env)::starEach es X.env:=by ac_nf) (hpl:(backTo pos (starEach es X.env)).any (·.1)=false:=by ac_nf):SE X (.Call (.Name x p) (e::es) [] pos) (ay f m):=CK hc hg hm hv ha hn hdb he hpl
theorem Iz{x:Str}{id:String}{p pos:Pos}{e:Expr}{es:List Expr}{f:Fn}{m:AM}(hc:gU X (.type id) f)(hm:X.mg x=none)(hv:bootBuiltins x=some (.type id))(ha:SA X (e::es) m)(hg:Gl X x:=by unfold Gl;ac_nf)(hn:x≠"__name__":=by decide)(hdb:(x==("__debug__":Str))=false:=by ac_nf)
  (he:starEach (e::es) X.env=(false,eval e X.env)::starEach es X.env:=by ac_nf) (hpl:(backTo pos (starEach es X.env)).any (·.1)=false:=by ac_nf):SE X (.Call (.Name x p) (e::es) [] pos) (ay f m):=CJ hc hg hm hv ha hn hdb he hpl
theorem six(hr:cM k X.A)(ha:SE X a ma)(hb:SE X b mb)(hs:nq b:=by unfold nq;intro _ _;ac_nf):SE X (.Subscript a b pos) (ao aW ma mb):=LL hr.units ha hb hs
end Sm
namespace Hd
open PySem PySem.W PySem.Spec PyProof.Rows L2 Sm
theorem u0{P:List Value->Prop}(h:P [])(us:List Value)(hl:us.length=0):P us:=by cases us with | nil=>exact h | cons _ _=>cases hl
theorem u1{P:List Value->Prop}(h:∀a,P [a])(us:List Value)(hl:us.length=1):P us:=by
 cases us with
 | nil=>cases hl
 | cons a r=>exact u0 (P:=λr=>P (a::r)) (h a) r (Nat.succ.inj hl)
theorem u2{P:List Value->Prop}(h:∀a b,P [a,b])(us:List Value)(hl:us.length=2):P us:=by
 cases us with
 | nil=>cases hl
 | cons a r=>exact u1 (P:=λr=>P (a::r)) (h a) r (Nat.succ.inj hl)
theorem u3{P:List Value->Prop}(h:∀a b c,P [a,b,c])(us:List Value)(hl:us.length=3):P us:=by
 cases us with
 | nil=>cases hl
 | cons a r=>exact u2 (P:=λr=>P (a::r)) (h a) r (Nat.succ.inj hl)
theorem u4{P:List Value->Prop}(h:∀a b c d,P [a,b,c,d])(us:List Value)(hl:us.length=4):P us:=by
 cases us with
 | nil=>cases hl
 | cons a r=>exact u3 (P:=λr=>P (a::r)) (h a) r (Nat.succ.inj hl)
theorem u5{P:List Value->Prop}(h:∀a b c d e,P [a,b,c,d,e])(us:List Value)(hl:us.length=5):P us:=by
 cases us with
 | nil=>cases hl
 | cons a r=>exact u4 (P:=λr=>P (a::r)) (h a) r (Nat.succ.inj hl)
theorem u6{P:List Value->Prop}(h:∀a b c d e f,P [a,b,c,d,e,f])(us:List Value)(hl:us.length=6):P us:=by
 cases us with
 | nil=>cases hl
 | cons a r=>exact u5 (P:=λr=>P (a::r)) (h a) r (Nat.succ.inj hl)
theorem u7{P:List Value->Prop}(h:∀a b c d e f g,P [a,b,c,d,e,f,g])(us:List Value)(hl:us.length=7):P us:=by
 cases us with
 | nil=>cases hl
 | cons a r=>exact u6 (P:=λr=>P (a::r)) (h a) r (Nat.succ.inj hl)
theorem Mm{q:Program}{loose:List Str}{mean:ExcName->Option Value}{mg mb:Str->Option Value}{h base:Heap}{P:Program}{w:World}(T:Top q loose mean mg mb h){n:Str}{st:Stmt}(e:(recsOf q).find? (λe=>e.name==n)=some (mh n st)){ps:List Str}{k N:Nat}{F:Fn}
  (hb:∀{f:Addr} {fd:FuncData},sF (aB h) n n st f fd->Binds (aB h) fd ps []) (ok:∀{f:Addr} {fd:FuncData},sF (aB h) n n st f fd->keepIn (aB h) (.ref f)=true->Binds (aB h) fd ps []->mg n=some (.ref f)->eZ P w (aB h) mg base nv k f fd ps (AO (aB h) N F)):Df P w (aB h) mg base n k ps N F:=by
 obtain⟨f,fd,m,G⟩:=Ag T e;exact⟨f,fd,ok G G.kp (hb G) m,G.kp,hb G,m⟩
end Hd
namespace L2
open PySem PySem.Spec PyProof.Rows Builtin.Str
theorem Gj{X:Cx}:yi X "str.join" (λx vs H Q=>∃p a ss,x=.str p/\vs=[.ref a]/\(ia X.K H a (ss.map V.str)\/ko X.K H a (ss.map V.str))/\(ss.map (·.length)).sum+ss.length*p.length<=16777216/\Q (.str (Txt.join p ss)) H):=by
 intro pins s σ H x xs v us Q I rx rs h;obtain⟨p,a,ss,rfl,rfl,ha,hz,q⟩:=h;obtain⟨t,rfl⟩:=rx;obtain⟨u,rfl,ru⟩:=vals1 rs;cases ru;rcases ha with ha | ha
 ·obtain⟨its,rv,p,_⟩:=I.list ha;exact join_list p.isList (by simpa using jR rv) hz λt' k=>⟨.str _,H,I.kept (t':=k) λ_ _ e=>e,⟨t',rfl⟩,q⟩
 ·obtain⟨its,rv,p,_⟩:=I.tuple ha;exact join_tuple p (by simpa using jR rv) hz λt' k=>⟨.str _,H,I.kept (t':=k) λ_ _ e=>e,⟨t',rfl⟩,q⟩
theorem qo:∀(l:List (Str×Tok)),Vals ((l.map (·.1)).map V.str) (strValues l)
 | []=>.nil
 |(x,t)::r=>.cons ⟨t,rfl⟩ (qo r)
theorem Cu{prog:Program}{w:World}{A:Around}{E:Value->Shared->Prop}{s:Shared}{x y:Str}{t u:Tok}{Q:Value->Shared->Prop}(hy:(y.length==0)=false)
  (hq:∀l k,l.map (·.1)=Txt.split x y->Q (.ref s.heap.objs.size) {s with toks:=k,heap:=s.heap.push {cls:=.type "list",data:=.seq (strValues l).toArray}})
  (hsz:x.length<=sizeLine) (hsz2:(partsBetween x (occurrences x y 0 x.length (x.length+1)) y.length).length<=sizeLine):
  wpAny (model prog w) A (call (.builtin "str.split") [.str x t,.str y u]) Q E s:=by
 cases h1:(decide (x.length < y.length)||decide (strKind x < strKind y))
 ·cases hf:(occurrences x y 0 x.length (x.length+1)).isEmpty
  ·refine R7 Si (Tv _ _ _) Ue (TZ _ _) (meets_str_split_sep x y t u h1 hy hf hsz hsz2) ?_;show wants Q E _ {s with toks:=_,heap:=s.heap.push {cls:=.type "list",data:=.seq (strsFrom s.toks (partsBetween x (occurrences x y 0 x.length (x.length+1)) y.length)).toArray}};rw[strsFrom_eq];exact hq (numbered s.toks _) _ ((numbered_texts _ _).trans ((P7 (Tt h1)).trans (P7 (Tt hf))).symm)
  ·exact R7 Si (Tv _ _ _) Ue (TZ _ _) (meets_str_split_not_found x y t u h1 hy hf)
    (hq [(x,t)] _ ((P7 (Tt h1)).trans (P0 hf)).symm)
 ·exact R7 Si (Tv _ _ _) Ue (TZ _ _) (meets_str_split_cannot_occur x y t u h1)
   (hq [(x,t)] _ (P0 h1).symm)
theorem DK{X:Cx}:yi X "str.split" (λx vs H Q=>∃p y,x=.str p/\vs=[.str y]/\(y.length==0)=false/\p.length<=sizeLine/\(Txt.split p y).length<=sizeLine/\(partsBetween p (occurrences p y 0 p.length (p.length+1)) y.length).length<=sizeLine/\∀l,H l=none->Q (.ref l) (upd H l (.lst ((Txt.split p y).map V.str)))):=by
 intro pins s σ H x xs v us Q I rx rs h;obtain⟨p,y,rfl,rfl,hy,hz,hz1,hz2,q⟩:=h;obtain⟨t,rfl⟩:=rx;obtain⟨u,rfl,ru⟩:=vals1 rs;obtain⟨t',rfl⟩:=ru;refine Cu hy (λl k e=>?_) hz hz2;rw[<-e] at q hz1;exact⟨.ref s.heap.objs.size,_,I.laid (t':=k) (o:=.lst ((l.map (·.1)).map V.str)) (λb ob q=>P9 _ q) (PZ _)
  ⟨by rw[PU];exact hz1,strValues l,_,qo l,Qt _ rfl⟩,rfl,q _ (I.ba.fresh (PZ _))⟩
end L2
namespace L2
open PySem PySem.Spec PyProof.Rows
end L2
namespace Sm
open PySem L2 PySem.Spec PyProof.Rows Builtin.Str
theorem ic{x y:Str}(hx:PyData.strOk x=true)(hy:PyData.strOk y=true):PyData.strOk (x++y)=true:=by
 unfold PyData.strOk at*;show(x.cps++y.cps).all _=true;rw[Array.all_append,hx,hy];rfl
noncomputable def isStr(d:D)(_:MH):Bool:=match d with
 | .str _=>true
 | _=>false
theorem ty_str{K:FR}{ρ:Ad}{H:Hp}{h:MH}{v:V}{d:D}(S:bL K ρ h H)(r:Rep K ρ H v d)(e:isStr d h=true):G1 K "str" v H:=by
 cases r <;> first |(cases e;done) | exact rfl
noncomputable def pe:zv:=λd ds h=>match d,ds with
 | .str x,[y]=>(dH y h).bind λp=>(oD p.1).bind λns=>if(ns.map (·.length)).sum+ns.length*x.length<=16777216 then some (.str (Str.join x ns),h) else none
 | _,_=>none
theorem kM{x:Str}(hx:PyData.strOk x=true):∀ns:List Str,(∀y∈ns,PyData.strOk y=true)->PyData.strOk (Str.join x ns)=true
 | [],_=>by ac_nf
 | [y],h=>h y (.head _)
 | y::z::r,h=>ic (ic (h y (.head _)) hx) (kM hx (z::r) λa ha=>h a (.tail _ ha))
theorem pY{X:Cx}:yi X "str.join" (rM X.K pe):=by
 intro pins s σ H x xs v us Q I rx rs hh;obtain⟨ρ,h,d,ds,z,h',S,rd,l,ee,k⟩:=hh;cases rd <;> first |(exact bN ee) | skip
 rename_i p hp
 match ds,l,ee with
 | [],_,ee=>cases ee
 | _::_::_,_,ee=>cases ee
 | [y],l,ee=>
  obtain⟨⟨ys,w⟩,e1,e2⟩:=bA ee;obtain⟨ns,e3,e4⟩:=bA e2
  by_cases c:(ns.map (·.length)).sum+ns.length*p.length<=16777216
  ·rw[P0 c] at e4;cases e4;obtain⟨v1,rfl,ry⟩:=rep1 l;obtain⟨a,vs,rfl,hq,l2⟩:=lK S ry e1;have:=qu e3;dsimp only at this;subst this;obtain⟨e5,f⟩:=kR l2;subst e5;refine Gj pins s σ H _ _ v us Q I rx rs ⟨p,a,ns,rfl,rfl,hq,c,?_⟩;rw[show Txt.join p ns=Str.join p ns from StrLaws.glued_eq_join p ns];exact k _ _ (.here S (.str (kM hp ns f)))
  ·rw[P7 c] at e4;cases e4
noncomputable def nV:zv:=λd ds h=>match d,ds with
 | .str x,[.str y]=>if(y.length==0)=false/\x.length<=sizeLine/\(Txt.split x y).length<=sizeLine/\(partsBetween x (occurrences x y 0 x.length (x.length+1)) y.length).length<=sizeLine/\(Txt.split x y).all PyData.strOk=true then some (.lv ((Txt.split x y).map D.str),h) else none
 | _,_=>none
theorem xu{X:Cx}:yi X "str.split" (rM X.K nV):=by
 intro pins s σ H x xs v us Q I rx rs hh;obtain⟨ρ,h,d,ds,z,h',S,rd,l,ee,k⟩:=hh;cases rd <;> first |(exact bN ee) | skip
 rename_i p hp
 match ds,l,ee with
 | [],_,ee=>cases ee
 | y::_::_,_,ee=>cases y <;> exact bN ee
 | [y],l,ee=>
  obtain⟨v1,rfl,ry⟩:=rep1 l;cases ry <;> first |(exact bN ee) | skip
  rename_i q hq _;unfold nV at ee;dsimp only at ee
  split at ee
  ·rename_i c;cases ee;exact DK pins s σ H _ _ v us Q I rx rs ⟨p,q,rfl,rfl,c.1,c.2.1,c.2.2.1,c.2.2.2.1,λl hl=>k _ _ (.lv S (nG _ λx hx=>RI.mp c.2.2.2.2 x hx) hl)⟩
  ·cases ee
theorem tG(i:Int):PyData.strOk (Str.ofString (toString i))=true:=by
 unfold PyData.strOk;rw[UZ];intro c hc;refine Qx (Nat.lt_of_not_le λh=>?_);exact int_text_free' c ⟨by lia,.inr (by lia)⟩ i (SH.mpr hc)
noncomputable def xH:Fn:=λds h=>match ds with
 | [.int i]=>if i.natAbs.log2 < 1920 then some (.str (toString i),h) else none
 | _=>none
theorem Al{X:Cx}:gU X (.type "str") xH:=by
 intro pins s σ H xs us Q I r hh;obtain⟨ρ,h,ds,z,h',S,l,ee,k⟩:=hh
 match ds,l,ee with
 | [],_,ee=>cases ee
 | d::_::_,_,ee=>cases d <;> exact bN ee
 | [d],l,ee=>
  obtain⟨v,rfl,rd⟩:=rep1 l;cases rd <;> first |(exact bN ee) | skip
  unfold xH at ee;dsimp only at ee
  split at ee
  ·rename_i c;cases ee;refine vT pins s σ H _ us Q I r ⟨_,rfl,c,k _ _ (.here S (.str ?_))⟩;exact tG _
  ·cases ee
end Sm
namespace L2
open PySem PySem.Spec PyProof.Rows
section
variable {X:Cx}
end
end L2
namespace Sm
open PySem L2 PySem.Spec PyProof.Rows
section
variable {X:Cx}
end
theorem Bq{h:Heap}{f:Value->Bool}{p:PyData}:∀{us:List Value} {ds:List PyData} {as:List Addr},ReadsAll h us ds as->(∀u d as,u∈us->Reads h u d as->d∈ds->f u=PyData.eqv d p)->us.findIdx? f=ds.findIdx? λb=>PyData.eqv b p:=by
 intro us
 induction us with
 | nil=>intro ds as r _;cases r;rfl
 | cons v us ih=>
  intro ds as r hf;cases r with | cons r l=>
  rw[UX,UX,hf _ _ _ P1 r P1,ih l λu d as hu hr hd=>hf u d as (P4 _ hu) hr (P4 _ hd)]
noncomputable def zZ:zv:=λd ds h=>match ds with
 | [x]=>(eB d h).bind λys=>(zM h x).bind λp=>(lF ys).bind λbs=>if p.depth<=60/\PyData.depthAll bs<=60 then(bs.findIdx? λb=>PyData.eqv b p).map λj:Nat=>(D.int (Int.ofNat j),h) else none
 | _=>none
theorem Bi{X:Cx}(hu:X.A.units+64 < cLine):yi X "list.index" (rM X.K zZ):=by
 intro pins s σ H x xs v us Q I rx rs hh;obtain⟨ρ,h,d,ds,z,h',S,rd,l,ee,k⟩:=hh
 match ds,l,ee with
 | [],_,ee=>exact bN ee
 | _::_::_,_,ee=>exact bN ee
 | [y],l,ee=>
  obtain⟨ys,e1,e2⟩:=bA ee;obtain⟨p,e3,e4⟩:=bA e2;obtain⟨bs,e5,e6⟩:=bA e4
  by_cases w:p.depth<=60/\PyData.depthAll bs<=60
  ·rw[P0 w] at e6;obtain⟨j,e7,e8⟩:=hW e6;cases e8;obtain⟨a,vs,rfl,ha,l1⟩:=eR S rd e1;obtain rfl:v=Value.ref a:=rx;obtain⟨yv,rfl,ry⟩:=rep1 l;obtain⟨u,rfl,ru⟩:=Vals.one rs;obtain⟨r1,c1⟩:=mj S ry e3;obtain⟨r2,c2⟩:=l1.sV e5;obtain⟨as,ra⟩:=r1.reads I ru;obtain⟨its,rv,pl,hz⟩:=I.list (.inl (.inl ha));obtain⟨bs',rb⟩:=r2.reads I rv;have hj:=(Bq (f:=Aj s.heap p) rb λu d as _ hr hd=>om hr (cy c2 hd)).trans e7;obtain⟨j1,j2,j3⟩:=List.findIdx?_eq_some_iff_getElem.mp hj;have key:∀y,y∈its.toArray->PySem.SeqAt.EqAt X.A.in1 s y u (Aj s.heap p y):=by
    intro y hy;obtain⟨d,as',hr,hd⟩:=jW rb y (by simpa using hy);rw[om hr (cy c2 hd)];refine Sl d p _ s y u as' as hr ra (cy c2 hd) c1 ?_;have h1:=ke hd;have h2:min d.depth p.depth<=d.depth:=Tj _ _;show X.A.units+1+min d.depth p.depth < cLine;have h3:=w.2
    lia
   obtain⟨o,n,g,o1,o2,o3⟩:=pl;obtain⟨oc,od,oda,os⟩:=o;dsimp only at o1 o2 o3;subst o1 o2 o3;have hz2:=rv.length;rw[Rv] at hz;refine R7 Ur ⟨_,g,rfl⟩ PySem.F.entry_list_index (PySem.F.args_list_index_2 _ _)
    (PySem.SeqAt.list_indexAt a its.toArray n none os u (Aj s.heap p) j (by simpa using j1) (by lia) (by simpa using j2) (λm hm hlt=>by simpa using j3 m hlt)) ⟨g,key,?_⟩
   exact⟨.int _,H,I.kept (t':=s.toks+1) λ_ _ e=>e,⟨_,rfl⟩,k _ _ (.here S (.int _))⟩
  ·rw[P7 w] at e6;cases e6
end Sm
namespace L2
open PySem PySem.Spec PyProof.Rows
end L2
namespace Sm
open PySem L2 PySem.Spec PyProof.Rows
end Sm
namespace L2
open PySem PySem.Spec PyProof.Rows
section
variable {P:Program} {w:World} {A:Around} {E:Value->Shared->Prop} {s:Shared} {a:Addr} {es:Array (Int×Value)}
end
end L2
namespace L2
open PySem PySem.Spec PyProof.Rows PySem.SeqAt
end L2
namespace L2
open PySem PySem.Spec PyProof.Rows
section
variable {P:Program} {w:World} {A:Around} {E:Value->Shared->Prop} {s:Shared} {a:Addr} {ks:List Int}
theorem yz{Q:Value->Shared->Prop}(hV:IntsAre vs ns)(h64:vs.length < 64)
  (h:∀h' n (out:Array Value),(∀b o,s.heap.get? b=some o->h'.get? b=some o)->h'.get? s.heap.objs.size=some (seqObj "list" out n)->IntsAre out.toList (dC ns)->Q (.ref s.heap.objs.size) {s with heap:=h'}):
  wpAny (model P w) A (do let l<-newList vs;let _<-holding [l] (call (.builtin "list.sort") [l] []);ret l) (λfin s'=>∃v,fin=Fin.done (Flow.ret v)/\Q v s') E s:=by
 refine PY (wpAny_newList ?_ (by rw[Rv];lia));have hL:(s.heap.push (seqObj "list" vs.toArray 0)).get? s.heap.objs.size=some (seqObj "list" vs.toArray 0):=Qt _ rfl;show wpAny _ _ _ _ _ {s with heap:=s.heap.push (seqObj "list" vs.toArray 0)};refine PY (Sk (Rx slot_list_sort ⟨_,hL,rfl⟩ entry_list_sort (list_sort_tree (s:={s with heap:=s.heap.push (seqObj "list" vs.toArray 0)}) hL hV h64 λout ns' g1 g2 g3=>⟨_,rfl,?_⟩) (args_list_sort _)));have:=wN g2 g3;subst this;have hlt:s.heap.objs.size < (s.heap.push (seqObj "list" vs.toArray 0)).objs.size:=by rw[Td];exact Nat.lt_succ_self _
 obtain⟨n,hn⟩:=sortedHeap_at (vs:=vs) (out:=out) hL;refine Qh ⟨_,rfl,h _ n _ (λb o e=>?_) hn g1⟩;have hb:=Qf e;rw[sortedHeap_old (Qs hb) (Tg hb hlt)];exact P9 _ e
end
end L2
namespace Sm
open PySem L2 PySem.Spec PyProof.Rows
end Sm
namespace L2
open PySem PySem.Spec PyProof.Rows
end L2
namespace Sm
open PySem L2 PySem.Spec PyProof.Rows
end Sm
namespace L2
open PySem PySem.Spec PyProof.Rows PySem.SeqAt
section
variable {P:Program} {w:World} {E:Value->Shared->Prop}
end
noncomputable local instance:DecidableEq PyData:=λa b=>Classical.propDecidable _
end L2
namespace L2
open PySem PySem.Spec PyProof.Rows PySem.W
section
variable {ks:List PKey} {i j:Nat}
end
section
variable {P:Program} {w:World} {A:Around} {E:Value->Shared->Prop} {s:Shared}
end
end L2
namespace L2
open PySem PySem.Spec PyProof.Rows PySem.W PySem.SeqAt
section
variable {P:Program} {w:World} {A:Around} {E:Value->Shared->Prop} {s:Shared} {a:Addr}
end
end L2
namespace Sm
open PySem L2 PySem.Spec PyProof.Rows
end Sm
namespace L2
open PySem PySem.Spec PyProof.Rows
end L2
namespace Sm
open PySem L2 PySem.Spec PyProof.Rows
end Sm
namespace L2
open PySem PySem.Spec PyProof.Rows PySem.SeqAt
end L2
namespace Sm
open PySem L2 PySem.Spec PyProof.Rows
end Sm
namespace Sm
open PySem L2 PySem.Spec PyProof.Rows PySem.SeqAt
noncomputable local instance:DecidableEq PyData:=λa b=>Classical.propDecidable _
section
variable {K:FR} {ρ ρ':Ad} {H H':Hp}
end
section
variable {X:Cx}
end
end Sm
namespace Sm
open PySem L2 PySem.Spec PyProof.Rows
abbrev v0:EM:=aw 0
abbrev v1:EM:=aw 1
abbrev v2:EM:=aw 2
abbrev v3:EM:=aw 3
abbrev v4:EM:=aw 4
abbrev v5:EM:=aw 5
abbrev v6:EM:=aw 6
abbrev v7:EM:=aw 7
abbrev v8:EM:=aw 8
abbrev v9:EM:=aw 9
abbrev v10:EM:=aw 10
abbrev v11:EM:=aw 11
abbrev NJ:EM:=aw 12
abbrev NI:EM:=aw 13
abbrev O7:EM:=aw 14
abbrev ki(i:Int):EM:=eK (.int i)
abbrev ks(x:Str):EM:=eK (.str x)
abbrev a1(x:EM):AM:=ah x aR
abbrev a2(x y:EM):AM:=ah x (ah y aR)
abbrev a3(x y z:EM):AM:=ah x (ah y (ah z aR))
abbrev a4(x y z u:EM):AM:=ah x (ah y (ah z (ah u aR)))
section
variable {P:Program} {w:World} {K:FR} {mg:Str->Option Value} {base:Heap} {x qual:Str} {st:Stmt} {f:Addr} {fd:FuncData} {N ps:List Str} {k:Nat}
theorem aV(F:sF K x qual st f fd)(Sc:aE N ps (ak st))(hb:∀(cdv:Value)(A:Around)(outer:List Env)(s:Shared)(H:Hp)(E:XK),cM k (A.deeper (envOfC qual (ak st) s.heap.objs.size f cdv))->N.Nodup->Ay (ft nv P w K mg base N qual (ak st) f cdv A outer s H E).DI (dy st) body):
  eZ P w K mg base nv (k+1) f fd ps (AO K ps.length (lG N.length body)):=Kb F Sc λc A o s H E hr=>hb c A o s H E hr Sc.nd
end
theorem LF{op:CmpOp}(ho:oA X (compareOp op) f)(ha:SE X a ma)(hb:SE X b mb)(hm:behindInMarks op b=false:=by first | exact jG _ | ac_nf):ST X (.Compare a [op] [b] pos) (aD (ao f ma mb)):=kN ho ha hb hm
theorem LJ{op:CmpOp}(ho:oA X (compareOp op) f)(ha:SE X a ma)(hb:SE X b mb)(hm:behindInMarks op b=false:=by first | exact jG _ | ac_nf):SE X (.Compare a [op] [b] pos) (ao f ma mb):=Iw ho ha hb hm
theorem N0{x1}(h:SA X es aR):SE X (.Tuple es x1 pos) (ay aY aR):=cj h aA
theorem NZ{x1}(h:SA X es (ah m0 aR)):SE X (.Tuple es x1 pos) (ay aY (ah m0 aR)):=cj h (ag aA)
theorem NY{x1}(h:SA X es (ah m0 (ah m1 aR))):SE X (.Tuple es x1 pos) (ay aY (ah m0 (ah m1 aR))):=cj h (ag (ag aA))
theorem NX{x1}(h:SA X es (ah m0 (ah m1 (ah m2 aR)))):SE X (.Tuple es x1 pos) (ay aY (ah m0 (ah m1 (ah m2 aR)))):=cj h (ag (ag (ag aA)))
theorem NW{x1}(h:SA X es (ah m0 (ah m1 (ah m2 (ah m3 aR))))):SE X (.Tuple es x1 pos) (ay aY (ah m0 (ah m1 (ah m2 (ah m3 aR))))):=cj h (ag (ag (ag (ag aA))))
theorem NV{x1}(h:SA X es (ah m0 (ah m1 (ah m2 (ah m3 (ah m4 (ah m5 aR))))))):SE X (.Tuple es x1 pos) (ay aY (ah m0 (ah m1 (ah m2 (ah m3 (ah m4 (ah m5 aR))))))):=cj h (ag (ag (ag (ag (ag (ag aA))))))
theorem N8(h:SA X es aR):lC X (.List es pos) aR:=dS h aA
theorem N7(h:SA X es (ah m0 aR)):lC X (.List es pos) (ah m0 aR):=dS h (ag aA)
theorem N6(h:SA X es (ah m0 (ah m1 aR))):lC X (.List es pos) (ah m0 (ah m1 aR)):=dS h (ag (ag aA))
theorem N5(h:SA X es (ah m0 (ah m1 (ah m2 aR)))):lC X (.List es pos) (ah m0 (ah m1 (ah m2 aR))):=dS h (ag (ag (ag aA)))
theorem N4(h:SA X es (ah m0 (ah m1 (ah m2 (ah m3 (ah m4 (ah m5 (ah m6 (ah m7 aR))))))))):lC X (.List es pos) (ah m0 (ah m1 (ah m2 (ah m3 (ah m4 (ah m5 (ah m6 (ah m7 aR)))))))):=dS h (ag (ag (ag (ag (ag (ag (ag (ag aA))))))))
end Sm
namespace Hd
open PySem PySem.W PySem.Spec PyProof.Rows L2 Sm
theorem bB{q:Program}{loose:List Str}{mean:ExcName->Option Value}{mg mb:Str->Option Value}{h base:Heap}{P:Program}{w:World}(T:Top q loose mean mg mb h){n:Str}{st:Stmt}(e:(recsOf q).find? (λe=>e.name==n)=some (mh n st)){ps:List Str}{k N:Nat}{F:Fn}
  (ok:∀{f:Addr} {fd:FuncData},sF (aB h) n n st f fd->keepIn (aB h) (.ref f)=true->Binds (aB h) fd ps []->mg n=some (.ref f)->eZ P w (aB h) mg base nv k f fd ps (AO (aB h) N F)) (hb:∀{f:Addr} {fd:FuncData},sF (aB h) n n st f fd->Binds (aB h) fd ps []:=by walk_at "b"):Df P w (aB h) mg base n k ps N F:=Mm T e hb ok
end Hd
namespace L2
open PySem PySem.Spec PyProof.Rows
section
variable {P:Program} {w:World} {A:Around} {E:Value->Shared->Prop} {s:Shared} {d J:Addr} {o:Obj} {es:Array DictEntry} {ep:Nat}
end
end L2
namespace Sm
open PySem L2 PySem.Spec PyProof.Rows PySem.SeqAt
end Sm
namespace Sb
open PySem L2 PySem.Spec PyProof.Rows
open Builtin.SmallTypes (nextOf ownedTupleIsFree ownedTupleHandOut)
section
variable {P:Program} {w:World} {A:Around} {E:Value->Shared->Prop} {s:Shared} {b c:Bool}
end
section
variable {P:Program} {w:World} {A:Around} {E:Value->Shared->Prop} {s:Shared}
end
end Sb
namespace Sm
open PySem L2 PySem.Spec PyProof.Rows
end Sm
namespace L2
open PySem PySem.Spec PyProof.Rows
end L2
namespace Sm
open PySem L2 PySem.Spec PyProof.Rows
mutual
noncomputable def Hf:D->Bool
 | .cw=>true
 | .bl _=>true
 | .int _=>true
 | .str _=>true
 | .tup xs=>C8 xs
 | _=>false
noncomputable def C8:List D->Bool
 | []=>true
 | x::r=>Hf x&&C8 r
end
section
variable {K:FR} {ρ ρ':Ad} {H H':Hp} (hh:∀b vs,Rd H b (.tup vs)->¬ρ.has b->Rd H' b (.tup vs)/\¬ρ'.has b)
include hh
mutual
theorem CN{v:V}{d:D}(r:Rep K ρ H v d)(f:Hf d=true):Rep K ρ' H' v d:=by
 cases r with
 | cw=>exact .cw
 | bl b=>exact .bl b
 | int i=>exact .int i
 | str h=>exact .str h
 | tup h l=>exact .tup (h.elim (λ⟨a,n⟩=>.inl (hh _ _ a n)) .inr) (tN l f)
 | _=>cases f
theorem tN{vs:List V}{ds:List D}(r:aC K ρ H vs ds)(f:C8 ds=true):aC K ρ' H' vs ds:=by
 cases r with
 | nil=>exact .nil
 | cons h t=>
  have f:=Qp.mp f;exact .cons (CN h f.1) (tN t f.2)
end
end
end Sm
namespace L2
open PySem PySem.Spec PyProof.Rows
def Pe(h:Heap)(x T:Addr)(C:Value):Prop:=
 ∃oe vs oT ts,h.get? x=some oe/\oe.cls=C/\oe.data=.fields vs/\vs[1]?=some (.ref T)/\T≠x/\h.get? T=some oT/\oT.data=.fields ts/\ts[3]?=some .none
noncomputable def iN(P:Program)(w:World):AB:=λouter H s E e s'=>∃x T C H',e=.ref x/\s.heap.get? x=none/\s.heap.get? T=none/\H' x=none/\H' T=none/\Pe s'.heap x T C/\s'.os=s.os/\AllBare s'.gens/\
 Un (kc outer) [] H H' s.heap s'.heap/\kh P w H' s'.heap/\E C none H'
theorem cg.ex(x:cg P w H h a o):∃u,h.get? a=some u:=by
 cases o with
 | lst xs=>obtain⟨_,_,_,_,e⟩:=x;exact⟨_,e⟩
 | tup xs=>obtain⟨_,_,_,o,e,_⟩:=x;exact⟨_,e⟩
 | dK kvs=>obtain⟨_,_,_,_,o,_,_,e,_⟩:=x;exact⟨_,e⟩
 | dT kvs=>obtain⟨_,_,_,_,o,_,_,e,_⟩:=x;exact⟨_,e⟩
 | set S n=>obtain⟨o,_,_,_,e,_⟩:=x;exact⟨_,e⟩
 | ins C dx fs=>obtain⟨_,_,_,e,_⟩:=x;exact⟨_,e⟩
 | own y=>exact x
 | xd fs=>obtain⟨_,⟨_,_,_,e,_⟩,_⟩:=x;exact⟨_,e⟩
 | tL lo hi=>obtain⟨_,_,_,e⟩:=x;exact⟨_,e⟩
 | ph ob u=>exact⟨_,x.1⟩
 | G2 ps=>exact⟨_,x⟩
 | met f y=>exact⟨_,x⟩
 | ext φ=>exact x.2.1
 | Ah φ=>exact x.2.1
 | tb=>obtain⟨_,e,_⟩:=x;exact⟨_,e⟩
theorem p0{h base base':Heap}:∀{l:List Env},h.FunFrames base l->(∀b∈kc l,base'.get? b=none)->h.FunFrames base' l
 | [],_,_=>trivial
 | env::r,⟨hk,⟨L,o,hf,hn,ho,hd⟩,hr⟩,k=>by
  have k':∀b,b=L\/b∈kc r->base'.get? b=none:=λb hb=>k b (by unfold kc;rw[QW,hf];exact P5.mpr hb);exact⟨hk,⟨L,o,hf,k' L (.inl rfl),ho,hd⟩,p0 hr λb hb=>k' b (.inr hb)⟩
abbrev Km(CX:AB)(P:Program)(w:World)(K:FR)(mg:Str->Option Value)(base:Heap)(N:List Str)(qual:Str)(scope:Scope)(fn:Str->Bool)(cl:List (Str×Addr))(f:Addr)(cd:Value)(A:Around)(outer:List Env)(s:Shared)(H:Hp)(E:XK):Cx where
 prog:=P
 w:=w
 K:=K
 mg:=mg
 base:=base
 A:=A.deeper (PySem.W.envX qual scope s.heap.objs.size f cd cl)
 N:=N
 s₀:=s
 H₀:=H
 env:=PySem.W.envX qual scope s.heap.objs.size f cd cl
 outer:=outer
 stack:=PySem.W.envX qual scope s.heap.objs.size f cd cl::outer
 ex:=[]
 calm:=true
 fn:=fn
 pn:=[]
 xe:=λe s'=>wpAny (model P w) (A.deeper (PySem.W.envX qual scope s.heap.objs.size f cd cl)) (leaving (PySem.W.envX qual scope s.heap.objs.size f cd cl) e) (λ_ s''=>CX outer H s E e s'') (λe' s''=>CX outer H s E e' s'') s'
section
variable {CX:AB} {P:Program} {w:World} {K:FR} {mg:Str->Option Value} {base:Heap} {N:List Str} {qual:Str} {scope:Scope} {fn:Str->Bool} {cl:List (Str×Addr)} {f:Addr} {cd:Value} {A:Around} {outer:List Env} {s₀:Shared} {H₀:Hp} {E:XK} {pins:List (Addr×Obj)} {σ:St} {H:Hp} {s:Shared} {x T:Addr} {C:Value}
theorem xC(J:Inv (Km (iN P w) P w K mg base N qual scope fn cl f cd A outer s₀ H₀ E) pins σ H s)(hx0:s₀.heap.get? x=none)(hHx:H x=none)(hT:∀b,b∈(x::ts)->H b=none/\s₀.heap.get? b=none){h':Heap}
  (hl:Heap.Left (PySem.W.hideAll s.heap ((x::ts)++kc (PySem.W.envX qual scope s₀.heap.objs.size f cd cl::outer))) (PySem.W.envX qual scope s₀.heap.objs.size f cd cl::outer) x C s.heap h') (e:E C none H):iN P w outer H₀ s₀ E (.ref x) {s with heap:=h'}:=by
 obtain⟨st,ff,⟨oe,vs,T,oT,tr,he,hc,hd,h1,hbT,hTx,hgT,hdT,h3⟩,sl⟩:=hl;have keep:∀b o,s.heap.get? b=some o->b∉(x::ts)->b∉kc (PySem.W.envX qual scope s₀.heap.objs.size f cd cl::outer)->h'.get? b=some o:=λb o eb n1 n2=>
  st b o (SN _ eb λz=>(Qk.mp z).elim n1 n2)
 have fr:∀b∈kc (PySem.W.envX qual scope s₀.heap.objs.size f cd cl::outer),H b=none:=J.pS;have fo:∀b o,s₀.heap.get? b=some o->b∉kc outer->b∉kc (PySem.W.envX qual scope s₀.heap.objs.size f cd cl::outer):=λb o eb n z=>by
  rcases P5.mp (show b∈s₀.heap.objs.size::kc outer from z) with z | z
  ·rw[z] at eb;exact absurd (Qf eb) (R9 _)
  ·exact n z
 have hTT:H T=none/\s₀.heap.get? T=none:=by
  by_cases z:T∈x::ts
  ·exact hT T z
  ·by_cases z2:T∈kc (PySem.W.envX qual scope s₀.heap.objs.size f cd cl::outer)
   ·obtain⟨_,o,eo,hn⟩:=ff.mem z2;rw[hgT] at eo;cases eo;exact absurd hdT (hn _)
   ·have hn:s.heap.get? T=none:=by
     cases q:s.heap.get? T with
     | none=>rfl
     | some o=>rw[SN _ q λy=>(Qk.mp y).elim z z2] at hbT;cases hbT
    refine⟨?_,?_⟩
    ·cases q:H T with
     | none=>rfl
     | some u=>obtain⟨o,eo⟩:=(J.ba T u q).ex;rw[hn] at eo;cases eo
    ·cases q:s₀.heap.get? T with
     | none=>rfl
     | some o=>obtain⟨o',eo⟩:=J.base.there T o q (λy=>(nomatch y));rw[hn] at eo;cases eo
 have sx:∀b o,s₀.heap.get? b=some o->b∉x::ts:=λb o eb z=>by rw[(hT b z).2] at eb;cases eb
 refine⟨x,T,C,H,rfl,hx0,hTT.2,hHx,hTT.1,⟨oe,vs,oT,tr,he,hc,hd,h1,hTx,hgT,hdT,h3⟩,J.os,J.bare,⟨λb o eb n hb _=>?_,λb o eb n hb _=>?_,λb o eb n _=>J.base.free b o eb n (λy=>(nomatch y)),λb o eb _=>?_,J.base.nA,J.base.mL,J.base.nB⟩,?_,e⟩
 ·exact keep b o (J.base.keep b o eb n hb (λy=>(nomatch y))) (sx b o eb) (fo b o eb hb)
 ·obtain⟨sl1,e1⟩:=J.base.slot b o eb n hb (λy=>(nomatch y));obtain⟨_,o',eo,hn⟩:=J.stack.mem (P4 _ hb);rw[e1] at eo;cases eo;obtain⟨sl2,e2⟩:=sl b _ e1 hn;exact⟨sl2,e2⟩
 ·obtain⟨o1,e1⟩:=J.base.there b o eb (λy=>(nomatch y))
  by_cases z:b∈kc (PySem.W.envX qual scope s₀.heap.objs.size f cd cl::outer)
  ·obtain⟨_,o',eo,hn⟩:=J.stack.mem z;obtain⟨sl2,e2⟩:=sl b _ eo hn;exact⟨_,e2⟩
  ·exact⟨_,keep b _ e1 (sx b o eb) z⟩
 ·have nt:∀b u,H b=some u->b∉x::ts/\b∉kc (PySem.W.envX qual scope s₀.heap.objs.size f cd cl::outer):=λb u eb=>⟨λz=>(by rw[(hT b z).1] at eb;cases eb),λz=>(by rw[fr b z] at eb;cases eb)⟩;intro b u eb;refine(J.ba b u eb).nE (λc v hc q=>?_) (λ_ q=>q) λ_ _ q=>q;have:∃u,H c=some u:=by
   rcases hc with rfl | hc
   ·exact⟨u,eb⟩
   ·exact⟨_,hc⟩
  obtain⟨u',eu⟩:=this;exact keep c v q (nt c u' eu).1 (nt c u' eu).2
theorem AD(J:Inv (Km (iN P w) P w K mg base N qual scope fn cl f cd A outer s₀ H₀ E) pins σ H s)(hx0:s₀.heap.get? x=none)(hHx:H x=none){oe:Obj}{vs:Array Value}(he:s.heap.get? x=some oe)(hd:oe.data=.fields vs)(h1:vs[1]?=some .none)(e:E oe.cls none H):
  (Km (iN P w) P w K mg base N qual scope fn cl f cd A outer s₀ H₀ E).xe (.ref x) s:=by
 refine wpAny_leaving_first (base:=PySem.W.hideAll s.heap ([x]++kc (PySem.W.envX qual scope s₀.heap.objs.size f cd cl::outer))) J.ok.frames (p0 J.stack λb hb=>Rb _ (Qm _ hb)) rfl he (λb o eb=>SU _ eb) (Rb _ (QV _ P1)) hd h1 λh' hl=>?_;refine xC (ts:=[]) J hx0 hHx (λb hb=>?_) hl e;rw[Qd.mp hb];exact⟨hHx,hx0⟩
theorem BX(J:Inv (Km (iN P w) P w K mg base N qual scope fn cl f cd A outer s₀ H₀ E) pins σ H s)(hx0:s₀.heap.get? x=none)(hT0:s₀.heap.get? T=none)(hHx:H x=none)(hHT:H T=none)(hX:Pe s.heap x T C)(e:E C none H):
  (Km (iN P w) P w K mg base N qual scope fn cl f cd A outer s₀ H₀ E).xe (.ref x) s:=by
 obtain⟨oe,vs,oT,tr,he,hc,hd,h1,hTx,hgT,hdT,h3⟩:=hX;refine wpAny_leaving_next (cls:=C) (base:=PySem.W.hideAll s.heap ([x,T]++kc (PySem.W.envX qual scope s₀.heap.objs.size f cd cl::outer))) J.ok.frames (p0 J.stack λb hb=>Rb _ (Qm _ hb)) rfl ⟨oe,vs,T,oT,tr,he,hc,hd,h1,Rb _ (QV _ (P4 _ P1)),hTx,hgT,hdT,h3⟩ (λb o eb=>SU _ eb) (Rb _ (QV _ P1)) λh' hl=>?_;refine xC (ts:=[T]) J hx0 hHx (λb hb=>?_) hl e;rcases P5.mp hb with rfl | hb
 ·exact⟨hHx,hx0⟩
 ·rw[Qd.mp hb];exact⟨hHT,hT0⟩
theorem zT:Passes (iN P w) (Km (iN P w) P w K mg base N qual scope fn cl f cd A outer s₀ H₀ E) E:=λpins σ H s e s' I h=>by
 obtain⟨x,T,C,H',rfl,nx,nT,hx,hT,X,os,bare,un,ba,q⟩:=h;have J:Inv (Km (iN P w) P w K mg base N qual scope fn cl f cd A outer s₀ H₀ E) pins σ H' s':=I.call' os un ba bare λb z=>(nomatch z);have old:∀b,s.heap.get? b=none->s₀.heap.get? b=none:=λb hb=>by
  cases q:s₀.heap.get? b with
  | none=>rfl
  | some o=>obtain⟨o',eo⟩:=I.base.there b o q (λy=>(nomatch y));rw[hb] at eo;cases eo
 exact BX J (old x nx) (old T nT) hx hT X q
end
section
variable {P:Program} {w:World} {K:FR} {mg:Str->Option Value} {base:Heap} {N:List Str} {qual:Str} {scope:Scope} {f:Addr} {cd:Value} {A:Around} {outer:List Env} {s₀:Shared} {H₀:Hp} {E:XK} {pins:List (Addr×Obj)} {σ:St} {H:Hp} {s:Shared} {x T:Addr} {C:Value}
theorem BY(J:Inv (ft (iN P w) P w K mg base N qual scope f cd A outer s₀ H₀ E) pins σ H s)(hx0:s₀.heap.get? x=none)(hHx:H x=none){oe:Obj}{vs:Array Value}(he:s.heap.get? x=some oe)(hd:oe.data=.fields vs)(h1:vs[1]?=some .none)(e:E oe.cls none H):
  (ft (iN P w) P w K mg base N qual scope f cd A outer s₀ H₀ E).xe (.ref x) s:=AD (fn:=λ_=>true) (cl:=cellsFrom (s₀.heap.objs.size+1) scope.names []) J hx0 hHx he hd h1 e
theorem Gb:Passes (iN P w) (ft (iN P w) P w K mg base N qual scope f cd A outer s₀ H₀ E) E:=zT (fn:=λ_=>true) (cl:=cellsFrom (s₀.heap.objs.size+1) scope.names [])
end
structure EW(mg:Str->Option Value)(base:Heap)(nm:Str)(C:Addr):Prop where
 own:OwnCls nm C [.type "ValueError",.type "Exception",.type "BaseException",.type "object"] "ValueError.__new__" mg base
section
variable {P:Program} {w:World} {K:FR} {mg:Str->Option Value} {base:Heap} {N:List Str} {qual:Str} {scope:Scope} {f:Addr} {cd:Value} {A:Around} {outer:List Env} {s₀:Shared} {H₀:Hp} {E:XK}
theorem De{nm:Str}{C:Addr}{a:Expr}{np cpos pos:Pos}{ta:TA}(O:EW mg base nm C)(hg:Gl (ft (iN P w) P w K mg base N qual scope f cd A outer s₀ H₀ E) nm)(ha:PA (ft (iN P w) P w K mg base N qual scope f cd A outer s₀ H₀ E) [a] ta)
  (he:starEach [a] (envOfC qual scope s₀.heap.objs.size f cd)=[(false,eval a (envOfC qual scope s₀.heap.objs.size f cd))]) (hdb:(nm==("__debug__":Str))=false):
  PS (ft (iN P w) P w K mg base N qual scope f cd A outer s₀ H₀ E) (.Raise (some (.Call (.Name nm np) [a] [] cpos)) none pos) (λ_ σ H=>ta σ H λvs H1=>vs.length<=sizeLine/\E (.ref C) none H1):=by
 intro pins s σ H D I h;obtain⟨tl,Nn,nm',q,bs,hdct,sn,sub,ab,col,dd,k0,k1,k2,k3,k5,mN,hC,hN,hni,T⟩:=O.own.obj;refine wpAny_Raise_call_subU (C:=C) (nm:=nm') (q:=q) (N:=Nn) (bs:=bs) (bm:=tl) (hdct:=hdct) (sn:=sn) (sub:=sub) (ab:=ab) (col:=col) (dd:=dd) (k0:=k0) (k1:=k1) (k2:=k2) (k3:=k3) (k5:=k5)
  SV (by decide) SV (mN:=mN) (T.hasType SV.hasBase) (I.ok.hd rfl) (by
   show(backTo cpos (starEach [a] (envOfC qual scope s₀.heap.objs.size f cd))).any (·.1)=false;rw[he];rfl) hni (j6 I hg O.own.bound ⟨rfl,?_⟩ hdb)
 show wpAny _ _ (evalArgs (.ref C) true (backTo cpos (starEach [a] (envOfC qual scope s₀.heap.objs.size f cd))) []) _ _ s;have hh:=ha cpos pins s σ H _ I h;have hh:wpAny _ _ (spliced (backTo cpos (starEach [a] (envOfC qual scope s₀.heap.objs.size f cd)))) _ _ s:=hh;rw[he] at hh ⊢;refine Calls.evalArgs_plain (QO hh (λus s2 hq=>?_) λ_ _ y=>y);obtain⟨vs,H1,I1,r1,hl,q1⟩:=hq;refine⟨rfl,by rw[<-r1.length];exact hl,I1.bk _ _ hC,hN.keeps I1.bk,T.keeps I1.bk,λh' e hm=>?_⟩;have I2:Inv (ft (iN P w) P w K mg base N qual scope f cd A outer s₀ H₀ E) pins σ H1 {s2 with heap:=h'}:=I1.kept (t':=s2.toks) hm.keeps;obtain⟨t,ht,_,_⟩:=hm.there;refine BY I2 ?_ ?_ ht rfl rfl q1
 ·cases q:s₀.heap.get? e with
  | none=>rfl
  | some o=>obtain⟨o',eo⟩:=I1.base.there e o q (λy=>(nomatch y));rw[hm.new] at eo;cases eo
 ·cases q:H1 e with
  | none=>rfl
  | some u=>obtain⟨o,eo⟩:=(I1.ba e u q).ex;rw[hm.new] at eo;cases eo
end
end L2
namespace Sm
open PySem L2 PySem.Spec PyProof.Rows
abbrev XM:=DS->MH->Option (Str×MH)
abbrev Xn:=List D->MH->Option (Str×MH)
def M0(K:FR)(mg:Str->Option Value)(E:XK)(ρ:Ad)(H:Hp)(c:Str)(h':MH):Prop:=∀C ρ' H',mg c=some C->cY ρ H ρ' H'->bL K ρ' h' H'->E C none H'
theorem M0.step{K:FR}{mg:Str->Option Value}{E:XK}{ρ ρ1:Ad}{H H1:Hp}{c:Str}{h':MH}(k:M0 K mg E ρ H c h')(T:cY ρ H ρ1 H1):M0 K mg E ρ1 H1 c h':=λC ρ' H' m T' S=>k C ρ' H' m (T.trans T') S
inductive HA(K:FR)(mg:Str->Option Value)(E:XK)(x:XM)(σ:L2.St)(H:Hp):Prop where
 | mk (ρ δ h c h'):cJ K ρ H σ δ->bL K ρ h H->x δ h=some (c,h')->M0 K mg E ρ H c h'->HA K mg E x σ H
def XE(X:Cx)(E:XK)(e:Expr)(x:XM):Prop:=PE X e λσ H _=>HA X.K X.mg E x σ H
def XS(X:Cx)(E:XK)(s:Stmt)(x:XM):Prop:=PS X s λ_ σ H=>HA X.K X.mg E x σ H
def EV(X:Cx)(E:XK)(s:List Stmt)(x:XM):Prop:=wF X s λ_ σ H=>HA X.K X.mg E x σ H
noncomputable def Nq:XM:=λ_ _=>none
noncomputable def E5(a b:XM):XM:=λδ h=>match a δ h with
 | some r=>some r
 | none=>b δ h
noncomputable def HM(t:TM)(a b:XM):XM:=λδ h=>(t δ h).bind λp=>if p.1 then a δ p.2 else b δ p.2
noncomputable def wG(a:SM)(b:XM):XM:=λδ h=>(a δ h).bind λr=>match r.1 with
 | .nx=>b r.2.1 r.2.2
 | _=>none
noncomputable def K6(f:Xn)(a:AM):XM:=λδ h=>(a δ h).bind λp=>f p.1 p.2
noncomputable def ny(c:Str)(a:AM):XM:=λδ h=>(a δ h).map λp=>(c,p.2)
noncomputable def Mn(len:Nat)(body:XM):Xn:=λds h=>body (entry len ds) h
inductive Nc(K:FR)(mg:Str->Option Value)(n:Nat)(F:Xn)(vs:List V)(H:Hp)(E:XK):Prop where
 | mk (ρ h ds c h'):bL K ρ h H->aC K ρ H vs ds->ds.length=n->F ds h=some (c,h')->M0 K mg E ρ H c h'->Nc K mg n F vs H E
def LG(K:FR)(mg:Str->Option Value)(n:Nat)(F:Xn):Sp:=λvs H _ E=>Nc K mg n F vs H E
section
variable {X:Cx} {E:XK} {a b c e tg iter elt:Expr} {es:List Expr} {st:Stmt} {sa sb sts:List Stmt} {pos:Pos} {ma mb:EM} {mt:TM} {ms mu:SM} {m:AM} {x y:XM}
theorem BV:EV X E sts Nq:=λ_ _ _ _ _ _ h=>by obtain⟨_,_,_,_,_,_,_,z,_⟩:=h;cases z
theorem HI(ha:EV X E sts x)(hb:EV X E sts y):EV X E sts (E5 x y):=λpins s σ H D I ⟨ρ,δ,h,c,h',R,S,z,k⟩=>by
 unfold E5 at z;cases q:x δ h with
 | none=>rw[q] at z;exact hb pins s σ H D I ⟨ρ,δ,h,c,h',R,S,z,k⟩
 | some r=>rw[q] at z;cases z;exact ha pins s σ H D I ⟨ρ,δ,h,c,h',R,S,q,k⟩
theorem ib(h1:XS X E st x):EV X E (st::sts) x:=λpins s σ H D I h=>
 Rw (dh (h1 pins s σ H {nx:=λ_ _=>False,rt:=λ_ _=>False,bk:=λ_ _=>False,ct:=λ_ _=>False} I h) λf s1 q=>by
  cases f with
  | next=>obtain⟨_,_,_,q⟩:=q;exact q.elim
  | ret v=>obtain⟨_,_,_,_,_,q⟩:=q;exact q.elim
  | brk=>obtain⟨_,_,_,q⟩:=q;exact q.elim
  | cont=>obtain⟨_,_,_,q⟩:=q;exact q.elim)
theorem qi(h1:SS X st ms)(h2:EV X E sts x):EV X E (st::sts) (wG ms x):=(xg h1 h2).imp λD σ H ⟨ρ,δ,h,c,h',R,S,z,k⟩=>by
 obtain⟨⟨fl,δ1,h1⟩,e1,e2⟩:=bA z;refine⟨ρ,δ,h,fl,δ1,h1,R,S,e1,λρ1 H1 T1 S1=>?_⟩;cases fl with
 | nx=>exactλσ' R'=>⟨ρ1,δ1,h1,c,h',R',S1,e2,k.step T1⟩
 | bk=>cases e2
 | ct=>cases e2
 | rt d=>cases e2
theorem G0(hc:ST X c mt)(ha:EV X E sa x)(hb:EV X E sb y):XS X E (.If c sa sb pos) (HM mt x y):=(Hg hc ha hb).imp λD σ H ⟨ρ,δ,h,c,h',R,S,z,k⟩=>by
 obtain⟨⟨b,h1⟩,e1,e2⟩:=bA z;refine⟨ρ,δ,h,b,h1,R,S,e1,λρ1 H1 T1 S1=>?_⟩;cases b with
 | true=>rw[P0 rfl] at e2 ⊢;exact⟨ρ1,δ,h1,c,h',R.mono T1.toCh,S1,e2,k.step T1⟩
 | false=>rw[P7 (by simp)] at e2 ⊢;exact⟨ρ1,δ,h1,c,h',R.mono T1.toCh,S1,e2,k.step T1⟩
theorem HK(he:XE X E e x)(hs:swapsWithSole [tg] e pos.line X.env=pure false:=by ac_nf)(hw:swappedStores [tg] e X.env=pure none:=by ac_nf)(h1:(assignEach [tg] X.env).map (·.2)=[assign tg X.env]:=by ac_nf)
  (hg:PG X tg g):XS X E (.Assign [tg] e pos) x:=Dj he hg hs hw h1
theorem Fd(G:eZ X.prog X.w X.K X.mg X.base (iN X.prog X.w) k f fd ps (LG X.K X.mg n F))(hp:Passes (iN X.prog X.w) X E)(hr:cM k X.A)(hg:Gl X nm)(hm:X.mg nm=some (.ref f))(hk:PySem.W.keepIn X.K (.ref f)=true)(hb:Binds X.K fd ps [])
  (ha:SA X (e::es) m) (hl:lE m n) (hdb:(nm==("__debug__":Str))=false:=by ac_nf) (he:starEach (e::es) X.env=(false,eval e X.env)::starEach es X.env:=by ac_nf) (hpl:(backTo pos (starEach es X.env)).any (·.1)=false:=by ac_nf):
  XE X E (.Call (.Name nm p) (e::es) [] pos) (K6 F m):=(zS (E:=E) G hr hg hm hk hb .nil hp ha hdb he hpl).imp λσ H Q ⟨ρ,δ,h,c,h',R,S,z,q⟩=>by
 obtain⟨⟨ds,h1⟩,e1,e2⟩:=bA z;refine⟨ρ,δ,h,ds,h1,R,S,e1,λvs ρ1 H1 T1 S1 r1=>?_⟩;show LG X.K X.mg n F (vs++[]) H1 Q E;rw[QS];exact⟨ρ1,h1,ds,c,h',S1,r1,hl _ _ _ _ e1,e2,q.step T1⟩
end
section
variable {P:Program} {w:World} {K:FR} {mg:Str->Option Value} {base:Heap} {N:List Str} {qual:Str} {scope:Scope} {f:Addr} {cd:Value} {A:Around} {outer:List Env} {s₀:Shared} {H₀:Hp} {E:XK}
theorem BW{nm:Str}{C:Addr}{a:Expr}{np cpos pos:Pos}{ma:EM}(O:EW mg base nm C)(hg:Gl (ft (iN P w) P w K mg base N qual scope f cd A outer s₀ H₀ E) nm)(ha:SE (ft (iN P w) P w K mg base N qual scope f cd A outer s₀ H₀ E) a ma)
  (he:starEach [a] (envOfC qual scope s₀.heap.objs.size f cd)=[(false,eval a (envOfC qual scope s₀.heap.objs.size f cd))]:=by ac_nf) (hdb:(nm==("__debug__":Str))=false:=by ac_nf):
  XS (ft (iN P w) P w K mg base N qual scope f cd A outer s₀ H₀ E) E (.Raise (some (.Call (.Name nm np) [a] [] cpos)) none pos) (ny nm (ah ma aR)):=
 (De O hg (aa ha ar he) he hdb).imp λD σ H ⟨ρ,δ,h,c,h',R,S,z,k⟩=>by
  obtain⟨⟨ds,h1⟩,e1,e2⟩:=Qo.mp z;cases e2;refine⟨ρ,δ,h,ds,h1,R,S,e1,λvs ρ1 H1 T1 S1 r1=>⟨?_,k _ ρ1 H1 O.own.bound T1 S1⟩⟩;rw[r1.length];obtain⟨⟨d,h2⟩,f1,f2⟩:=bA e1;cases f2;exact(by decide:1<=sizeLine)
end
section
variable {P:Program} {w:World} {K:FR} {mg:Str->Option Value} {base:Heap} {x qual:Str} {st:Stmt} {f:Addr} {fd:FuncData} {N ps:List Str} {k:Nat} {body:XM}
theorem MA(F:sF K x qual st f fd)(Sc:aE N ps (ak st))(hb:∀(cdv:Value)(A:Around)(outer:List Env)(s:Shared)(H:Hp)(E:XK),cM k (A.deeper (envOfC qual (ak st) s.heap.objs.size f cdv))->N.Nodup->EV (ft (iN P w) P w K mg base N qual (ak st) f cdv A outer s H E) E (dy st) body):
  eZ P w K mg base (iN P w) (k+1) f fd ps (LG K mg ps.length (Mn N.length body)):=by
 obtain⟨oc,od,kV,doc,pm,an,cdv,ct,osl,rfl,lk,hcd⟩:=F.ex;refine D2 lk hcd Sc (λvs H Q E h=>?_) λA outer s H vs Q E hr h=>?_
 ·obtain⟨ρ,h,ds,c,h',S,r,hl,_⟩:=h;rw[r.length];exact hl
 ·obtain⟨ρ,h,ds,c,h',S,r,hl,e,q⟩:=h;exact⟨_,hb cdv A outer s H E hr Sc.nd,ρ,entry N.length ds,h,c,h',cJ.entry N r,S,e,q⟩
end
end Sm
namespace L2
open PySem PySem.Spec PyProof.Rows PySem.F
def yb(h:Heap)(C:Addr)(bm:List Value):Prop:=∃nm q N bs hdct sn sub ab col dd k0 k1 k2 k3 k5 newId,h.get? C=some (excClassObj nm q C N bs bm hdct sn sub ab col dd k0 k1 k2 k3 k5 newId)
section
variable {M:Model} {A:Around} {E:Value->Shared->Prop}
theorem Le{h:Heap}{g:Array GenState}{d:Drawn}{t:Nat}{os:OsState}{e C D:Addr}{oe:Obj}{bm bmC:List Value}{Q:Bool->Shared->Prop}
  (hD:yb h D bm) (hC:yb h C bmC) (he:h.get? e=some oe) (hcls:oe.cls=.ref D) (hbase:bmC.contains (.type "BaseException")=true) {b:Bool} (hb:(Value.ref D::bm).contains (.ref C)=b)
  (hq:Q b ⟨h,g,d,t,os⟩):wpAny M A (excMatches (.ref e) (.ref C)) Q E ⟨h,g,d,t,os⟩:=by
 obtain⟨_,_,_,_,_,_,_,_,_,_,_,_,_,_,_,_,hD⟩:=hD;obtain⟨_,_,_,_,_,_,_,_,_,_,_,_,_,_,_,_,hC⟩:=hC;have hcB:(Value.ref C::bmC).contains (.type "BaseException")=true:=by rw[List.contains_cons,hbase,Bool.or_true]
 have f:=tc_notTuple;unfold excMatches
 repeat(first |(with_reducible refine Ub he ?_;rw[hcls]) | with_reducible refine Ub hC ?_ | with_reducible refine Ub hD ?_ |(with_reducible refine wpAny_isSubtype_exc hC ?_;rw[hcB]) |(with_reducible refine wpAny_isSubtype_exc hD ?_;rw[hb]) | wp_step)
 cases b with
 | true=>repeat(first | exact hq | wp_step)
 | false=>repeat(first | exact hq | wp_step)
end
end L2
namespace L2
open PySem PySem.Spec PySem.W PySem.Calls PyProof.Rows Builtin Builtin.ObjectAttr Builtin.Getset_descriptor
section
variable {prog:Program} {w:World} {A:Around} {E:Value->Shared->Prop} {s:Shared} {K:Frag} {x D:Addr}
structure XQ(K:Frag)(D:Addr):Prop where
 ga:findIn K (.ref D) "__getattribute__"=some (some (.builtin "BaseException.__getattribute__"))
 gr:findIn K (.ref D) "__getattr__"=some none
 cl:findIn K (.ref D) "__class__"=some (some (.builtin "object.__class__"))
 ob:mroIn K D (.type "object")=some true
 be:mroIn K D (.type "BaseException")=some true
theorem yj.type{M:Model}{h:Heap}(I:yj h x D):Looks M h (typeOf (.ref x)) (.ref D):=by
 obtain⟨o,h1,h2⟩:=I;exact h2 ▸ (Looks.ld h1).andThen .now
theorem HL{R:Result->Shared->Prop}{tp:Value}(X:K.In s.heap)(I:yj s.heap x D)(hm:mroIn K D (.type "object")=some true)(h:R (.ok (.ret (.ref D))) s):
  codeAny (model prog w) A (.call (.builtin "getset_descriptor.__get__") ⟨[.builtin "object.__class__",.ref x,tp],[]⟩) R s:=by
 obtain⟨hh,g,dr,t,os⟩:=s;have L0:=I.type (M:=model prog w);have L1:=looks_mroIn (M:=model prog w) X hm;refine codeAny_call_builtin KF.slot_gs.plain KF.entry_gs (KF.slot_gs.check _ _ _ _ _ _ _ _ KF.type_class (KF.args_gs _ _ _) ?_);unfold Builtin.«getset_descriptor.__get__» descrGet;rw[dga_obj];refine PY (Qh ?_);unfold descrGetter descrCheckInstance descrNameAndClass isInstance;simp only[KF.owner_class]
 repeat lk
 refine⟨Code.quiet_builtin _ (by decide+kernel),codeAny_builtin KF.entry_class ?_⟩;unfold Builtin.«object.__class__» shownTypeOf
 repeat lk
 exact h
theorem BZ{tk:Tok}{Q:Fin->Shared->Prop}(C:XQ K D)(X:K.In s.heap)(I:yj s.heap x D)(hq:Q (.done (.ret (.ref D))) s):
  wpAny (model prog w) A (Builtin.«object.__getattribute__» ⟨[.ref x,.str "__class__" tk],[]⟩) Q E s:=by
 obtain⟨h,g,d,t,os⟩:=s;have L0:=I.type (M:=model prog w);have L1:=looks_findIn (M:=model prog w) X C.cl;unfold Builtin.«object.__getattribute__»
 repeat(any_goals (first | assumption | lk | wp_step))
 show wpAny _ _ (run (.call (.builtin "getset_descriptor.__get__") ⟨[.builtin "object.__class__",.ref x,.ref D],[]⟩) none) _ _ _;refine wpAny_run (HL X I C.ob ?_);exact Qh (Qh hq)
theorem B2{M:Model}{nameV:Value}{Q:Unit->Shared->Prop}(C:XQ K D)(X:K.In s.heap)(I:yj s.heap x D)(hq:Q () s):wpAny M A (checkBuiltinCall "BaseException.__getattribute__" ⟨[.ref x,nameV],[]⟩) Q E s:=by
 obtain⟨h,g,d,t,os⟩:=s;have hk:builtinKind "BaseException.__getattribute__"=some .slot:=by decide+kernel
 have hsplit:splitId "BaseException.__getattribute__"=some ("BaseException","__getattribute__"):=by decide+kernel
 have ha:=F.args_bexc_ga (.ref x) nameV;have L0:=I.type (M:=M);have L1:=looks_mroIn (M:=M) X C.be;simp only[checkBuiltinCall,hk,hsplit];refine PY ?_
 ·unfold isInstance
  repeat(first | lk | wp_step)
  exact hq
theorem Lg{tk:Tok}{fill expr:Bool}{Q:Value->Shared->Prop}(C:XQ K D)(X:K.In s.heap)(I:yj s.heap x D)(hq:Q (.ref D) s):
  wpAny (model prog w) A (getAttrBy (.ref x) (.str "__class__" tk) fill expr) Q E s:=by
 obtain⟨h,g,d,t,os⟩:=s;have hx0:(expr&&onTheHeap (Value.builtin "BaseException.__getattribute__"))=false:=by cases expr <;> rfl
 have hx2:(Value.builtin "BaseException.__getattribute__"==Value.builtin "object.__getattribute__")=false:=by decide+kernel
 have hx1:(onTheHeap (Value.ref D)&&Value.builtin "BaseException.__getattribute__"==Value.builtin "object.__getattribute__")=false:=by rw[hx2];rfl
 have f3:=F.excAttr_ValueError.ga.bind (.ref x);have L0:=I.type (M:=model prog w);have L1:=looks_findIn (M:=model prog w) X C.ga;have L2:=looks_findIn (M:=model prog w) X C.gr;unfold getAttrBy
 repeat(any_goals (first | assumption | lk | wp_step))
 show wpAny _ _ (Sem.attempt (holding _ (callGetattribute (.ref x) (.str "__class__" tk) (.builtin "BaseException.__getattribute__") expr))) _ _ _;refine TX (Sk ?_);unfold callGetattribute
 repeat(any_goals (first | assumption | lk | wp_step))
 show wpAny _ _ (run (.call (.builtin "BaseException.__getattribute__") ⟨[.ref x,.str "__class__" tk],[]⟩) none) _ _ _;refine wpAny_run (codeAny_call_builtin F.attrBase_ValueError.ga.plain F.entry_bexc_ga (B2 C X I (BZ C X I ?_)));exact Qh (handed_on rfl hq)
theorem B1{Q:Option Value->Shared->Prop}(C:XQ K D)(X:K.In s.heap)(I:yj s.heap x D)(h:Q (some (.ref D)) {s with toks:=s.toks+1}):wpAny (model prog w) A (getAttr? (.ref x) "__class__") Q E s:=by
 obtain⟨hh,g,d,t,os⟩:=s;unfold getAttr? getAttrBy?;refine PY (wpAny_mkText (PY (TX (Lg (s:=⟨hh,g,d,t+1,os⟩) C X I ?_))));exact Qh h
end
theorem DU{K:Frag}{x D:Addr}(C:XQ K D)(hdct:(clsIn K D).isSome=true):KitX K (.ref x) (.ref D) (λh=>yj h x D) where
 ty:=λ_ _ _ I=>I.type
 it:=λ_ _ X _=>by
  obtain⟨cdD,hcD⟩:=RD.mp hdct;unfold clsIn at hcD
  split at hcD
  ·rename_i c' d' cd' sl' ho;intro A' Q' E' s' k q;unfold isType loadHead;exact PY (wpAny_loadPart (k _ _ (X _ _ ho)) (Qh q))
  ·cases hcD
 ne:=λh tp dd its n sl X htp=>by
  obtain⟨cdD,hcD⟩:=RD.mp hdct;refine Bool.eq_false_iff.mpr λq=>?_;have e:D=tp:=Value.ref.inj (Rr.mp q);subst e;unfold clsIn at hcD
  split at hcD
  ·rename_i c' d' cd' sl' ho;have z:=(X _ _ ho).symm.trans htp;cases z
  ·cases hcD
 ca:=λX I k=>B1 C X I k
theorem yX{prog:Program}{w:World}{A:Around}{E:Value->Shared->Prop}{s:Shared}{Q:Value->Shared->Prop}{K:Frag}{x D:Addr}{c:Value}{b:Bool}(C:XQ K D)(hdct:(clsIn K D).isSome=true)(X:K.In s.heap)(I:yj s.heap x D)(e:kitOne K (.ref D) c=some b)
  (h:∀tk,Q (.bool b) {s with toks:=tk}):wpAny (model prog w) A (call (.builtin "isinstance") [.ref x,c]) Q E s:=kia_one (DU C hdct) X I e (λz=>nomatch z) h
end L2
namespace L2
open PySem PySem.Spec PyProof.Rows
section
variable {X:Cx} {pins:List (Addr×Obj)} {σ:St} {H:Hp} {s s':Shared} {E:XK} {e:Value} {L:Addr} {rest:List Env}
theorem so(I:Inv X pins σ H s)(hs:X.stack=X.env::rest)(hf:X.env.frame=some L)(h:iN X.prog X.w X.stack H s E e s'):
  ∃x C H',e=.ref x/\E C none H'/\∀{M:Model} {B:Around} {F:Value->Shared->Prop} {Q:Unit->Shared->Prop},B.frames=some X.stack->
   (∀s3,Inv X pins σ H' s3->(∃o vs,s3.heap.get? x=some o/\o.cls=C/\o.data=.fields vs)->H' x=none->s.heap.get? x=none->
    (∀{M':Model} {B':Around} {F':Value->Shared->Prop} {Q':Unit->Shared->Prop},(∀s4,Inv X pins σ H' s4->(∃o vs,s4.heap.get? x=some o/\o.cls=C/\o.data=.fields vs)->Q' () s4)->wpAny M' B' (setFlight (.ref x) none) Q' F' s3)->Q () s3)->
   wpAny M B (noteFrame (.ref x) X.env) (λ_ s2=>wpAny M B (setFlight (.ref x) none) Q F s2) F s':=by
 obtain⟨x,T,C,H',rfl,nx,nT,hx,hT,⟨oe,vs,oT,tr,he,hc,hd,h1,hTx,hgT,hdT,h3⟩,os,bare,un,ba,q⟩:=h;have J:Inv X pins σ H' s':=I.call' os un ba bare λb z=>(nomatch z);refine⟨x,C,H',rfl,q,λ{M B F Q} hfr k=>?_⟩;have h0:vs[0]?=some (vs[0]'(Tg (by decide) (SX.mp h1).1)):=Array.getElem?_eq_getElem _;have hide:∀b,b∈[x,T]++kc X.stack->(PySem.W.hideAll s'.heap ([x,T]++kc X.stack)).get? b=none:=λb hb=>Rb _ hb;have FL:Heap.FlyingW (PySem.W.hideAll s'.heap ([x,T]++kc X.stack)) (X.env::rest) x C (vs[0]'(Tg (by decide) (SX.mp h1).1)) s'.heap:=
  ⟨λb o eb=>SU _ eb,hide x (QV _ P1),hs ▸ p0 J.stack (λb hb=>hide b (Qm _ hb)),oe,vs,T,oT,tr,he,⟨hc,h0⟩,hd,h1,hide T (QV _ (P4 _ P1)),hTx,hgT,hdT,h3⟩
 have fr:∀b∈kc X.stack,H' b=none:=J.pS;have sx:∀b o,s.heap.get? b=some o->b≠x/\b≠T:=λb o eb=>⟨λz=>(by rw[z,nx] at eb;cases eb),λz=>(by rw[z,nT] at eb;cases eb)⟩;have fin:∀h3',Heap.FlyingW (PySem.W.hideAll s'.heap ([x,T]++kc X.stack)) (X.env::rest) x C (vs[0]'(Tg (by decide) (SX.mp h1).1)) h3'->s'.heap.UpToSlots h3'->
   Inv X pins σ H' {s' with heap:=h3'}/\∃o vs,h3'.get? x=some o/\o.cls=C/\o.data=.fields vs:=λh3' fl U=>by
  obtain⟨st,_,ff,tr⟩:=fl;have keep:∀b o,s'.heap.get? b=some o->b≠x->b≠T->b∉kc X.stack->h3'.get? b=some o:=λb o eb n1 n2 n3=>st b o (SN _ eb λz=>by
   rcases Qk.mp z with z | z
   ·rcases P5.mp z with z | z
    ·exact n1 z
    ·exact n2 (Qd.mp z)
   ·exact n3 z)
  refine⟨I.call' (ch:=[]) os ⟨λb o eb n hb hx'=>keep b o (un.keep b o eb n hb hx') (sx b o eb).1 (sx b o eb).2 hb,λb o eb n hb hx'=>?_,un.free,λb o eb hx'=>?_,un.nA,un.mL,un.nB⟩ (λb u eb=>?_) bare λb z=>(nomatch z),?_⟩
  ·obtain⟨sl1,e1⟩:=un.slot b o eb n hb hx';obtain⟨_,o',eo,hn⟩:=J.stack.mem hb;rw[e1] at eo;cases eo;obtain⟨sl2,e2⟩:=U b _ e1 hn;exact⟨sl2,e2⟩
  ·obtain⟨o1,e1⟩:=un.there b o eb hx'
   by_cases z:b∈kc X.stack
   ·obtain⟨_,o',eo,hn⟩:=J.stack.mem z;obtain⟨sl2,e2⟩:=U b _ eo hn;exact⟨_,e2⟩
   ·exact⟨_,keep b _ e1 (sx b o eb).1 (sx b o eb).2 z⟩
  ·refine(ba b u eb).nE (λc v hc' q'=>?_) (λ_ q'=>q') λ_ _ q'=>q';have:∃u,H' c=some u:=by
    rcases hc' with rfl | hc'
    ·exact⟨u,eb⟩
    ·exact⟨_,hc'⟩
   obtain⟨u',eu⟩:=this;exact keep c v q' (λz=>by rw[z,hx] at eu;cases eu) (λz=>by rw[z,hT] at eu;cases eu) λz=>by rw[fr c z] at eu;cases eu
  ·obtain⟨oe',vs',_,_,_,he',hc',hd',_⟩:=tr;exact⟨oe',vs',he',hc'.1,hd'⟩
 refine wpAny_looks_onW (hs ▸ hfr) hf FL λh2 hh u1=>wpAny_landsW hh λh3' fl u2=>?_;obtain⟨J3,x3⟩:=fin h3' fl (u1.trans u2);refine k _ J3 x3 hx nx λ{M' B' F' Q'} k'=>?_;obtain⟨st,fb,ff,tr⟩:=id fl;refine wpAny_setFlight_noneW (s:={s' with heap:=h3'}) st ff tr λh4' k1 k2 k3 k4=>?_;obtain⟨J4,x4⟩:=fin h4' ⟨k1,fb,k2,k3⟩ ((u1.trans u2).trans λb o hb hn=>⟨o.slots,k4 b o hb hn⟩);exact k' _ J4 x4
end
end L2
namespace L2
open PySem PySem.Spec PySem.Calls PyProof.Rows
section
variable {prog:Program} {w:World} {A:Around} {E:Value->Shared->Prop} {s:Shared} {env:Env}
theorem Bt{e C D:Addr}{bm bmC:List Value}{t:Expr}{n:Str}{b₀:Stmt}{suite:List Stmt}{pos:Pos}{rest:List ExceptHandler}{Q:Flow->Shared->Prop}(hbase:bmC.contains (.type "BaseException")=true)(hb:(Value.ref D::bm).contains (.ref C)=true)
  (h:wpAny (model prog w) (A.mark (some (.ref e))) (eval t env) (λc s₁=>c=.ref C/\yb s₁.heap D bm/\yb s₁.heap C bmC/\(∃oe,s₁.heap.get? e=some oe/\oe.cls=.ref D)/\
   wpAny (model prog w) (A.mark (some (.ref e))) (setFlight (.ref e) none) (λ_ s₂=>
     wpAny (model prog w) (A.mark (some (.ref e))) (storeName env n (.ref e)) (λ_ s₃=>
      wpAny (model prog w) (A.mark (some (.ref e))) (execs (b₀::suite) env)
       (λf s₄=>wpAny (model prog w) A (do bindName env n .none;unbindBehindTheSuite env n pos) (λ_ s₅=>Q f s₅) E s₄)
       (AsSuiteRaised (model prog w) (A.mark (some (.ref e))) env n pos (notedBy (model prog w) (A.mark (some (.ref e))) env (cameBackBy (model prog w) A env E))) s₃) (notedBy (model prog w) (A.mark (some (.ref e))) env (cameBackBy (model prog w) A env E)) s₂) (notedBy (model prog w) (A.mark (some (.ref e))) env (cameBackBy (model prog w) A env E)) s₁) (notedBy (model prog w) (A.mark (some (.ref e))) env (cameBackBy (model prog w) A env E)) s):
  wpAny (model prog w) A (handleBy (.ref e) env (.ExceptHandler (some t) (some n) (b₀::suite) pos::rest)) Q E s:=by
 refine wpAny_handleBy_cons (codeAny_handlers_test (QO h (λc s₁ h₁=>?_) λ_ _ y=>y)) (by intro q;cases q);obtain⟨rfl,OD,OC,⟨oe,he,hcls⟩,hk⟩:=h₁;obtain⟨hh,g,d,tk,os⟩:=s₁;exact Le OD OC he hcls hbase hb (codeAny_handlers_suite_as hk)
end
abbrev Cx.E7(X:Cx)(v:Value)(E:Value->Shared->Prop):Cx:={X with A:=X.A.mark (some v),calm:=false,xe:=E}
section
variable {X:Cx} {v:Value} {E:Value->Shared->Prop} {pins:List (Addr×Obj)} {σ:St} {H:Hp} {s:Shared}
theorem Cx.Ok.E7(ok:X.Ok):(X.E7 v E).Ok:=
 ⟨ok.mod,ok.kind,ok.glob,ok.blt,ok.above,ok.inj,ok.has,ok.Lb,(λz=>nomatch z),ok.frames,ok.LD,ok.OI,ok.bs,ok.E8,ok.Be,ok.Ec,ok.oh,ok.Hm⟩
theorem Inv.E7(I:Inv X pins σ H s):Inv (X.E7 v E) pins σ H s:=⟨I.ok.E7,I.os,I.bare,I.base,I.loc,I.cell,I.free,I.gq,I.pin,I.ba,I.len⟩
theorem Inv.Ow(I:Inv X pins σ H s){s':Shared}{σ':St}{H':Hp}(J:Inv (X.E7 v E) pins σ' H' s'):Inv X pins σ' H' s':=⟨I.ok,J.os,J.bare,J.base,J.loc,J.cell,J.free,J.gq,J.pin,J.ba,J.len⟩
end
section
variable {X:Cx} {pins:List (Addr×Obj)} {σ:St} {H:Hp} {s:Shared}
theorem AF{M:Model}{A:Around}{E:Value->Shared->Prop}{i:Nat}{x:Str}{v:V}{Q:Unit->Shared->Prop}(I:Inv X pins σ H s)(hN:X.N.Nodup)(hi:X.N[i]?=some x)(hk:X.env.scope.names.lookup x=some .local)(hv:σ[i]?=some (some v))
  (h:∀s',Inv X pins (σ.set i none) H s'->Q () s'):wpAny M A (unbindName X.env x) Q E s:=by
 obtain⟨m,hn,hl⟩:=id I.loc;have hcls:(X.env.scope.kind==.class||(X.env.scope.kind==.module&&X.env.locals !=X.env.globals))=false:=by rw[I.ok.kind];rfl
 have hiσ:i < σ.length:=by rw[I.len];exact(PV.mp hi).1
 have Es:=I.Es;have tracked:∀{a:Addr} {h':Heap},(∃o,s.heap.get? a=some o/\H a=none)->Heap.SameBut a s.heap h'->kh X.prog X.w H h':=λ{a h'} ha hs b ob e=>by
  obtain⟨_,_,hfree⟩:=ha;refine(I.ba b ob e).nE (λc w' hc q=>(hs.2 c ?_).trans q) (λ_ q=>q) λ_ _ q=>q;rintro rfl;rcases hc with rfl | hc
  ·rw[hfree] at e;cases e
  ·rw[hfree] at hc;cases hc
 obtain⟨u0,_,q0⟩:=hl i x v hi hv (.inl hk);have hm:m x=some u0:=by
  rcases q0 with⟨_,e⟩ |⟨k,_⟩
  ·exact e
  ·have hk':X.env.kindOf x=some .local:=hk;rw[hk'] at k;rcases k with k | k <;> cases k
 refine wpAny_unbindName_local (m:=m) hk hn hm hcls λh' u' hn' hs=>?_;obtain⟨oL,_,_,hoL,_⟩:=id hn;refine h _ ⟨I.ok,I.os,I.bare,⟨λb o e n hb hx=>?_,λb o e n hb hx=>?_,I.base.free,λb o e hx=>?_,I.base.nA,I.base.mL,I.base.nB⟩,⟨_,hn',λj y v' e1 e2 e3=>?_⟩,λy c e=>?_,I.free,I.gq,λp hp=>?_,tracked ⟨oL,hoL,I.free⟩ hs,by simpa using I.len⟩
 ·exact(hs.2 b (Qs (Qq (Qf e) I.ok.above))).trans (I.base.keep b o e n hb hx)
 ·obtain⟨sl,e1⟩:=I.base.slot b o e n hb hx;exact⟨sl,(hs.2 b (Qs (Qq (Qf e) I.ok.above))).trans e1⟩
 ·obtain⟨o',e1⟩:=I.base.there b o e hx;exact⟨o',(hs.2 b (Qs (Qq (Qf e) I.ok.above))).trans e1⟩
 ·by_cases hj:j=i
  ·subst hj;rw[QA hiσ] at e2;cases e2
  ·rw[QK (Rl hj)] at e2;obtain⟨u',r',q⟩:=hl j y v' e1 e2 e3;refine⟨u',r',?_⟩;rcases q with⟨k,e⟩ |⟨k,c,e,z⟩
   ·refine .inl ⟨k,?_⟩;have:y≠x:=λe=>hj (rp hN e1 (e ▸ hi));simp[this,e]
   ·exact .inr ⟨k,c,e,z.sameBut hs (Es y c e)⟩
 ·obtain⟨w',z⟩:=I.cell y c e;exact⟨w',z.sameBut hs (Es y c e)⟩
 ·obtain⟨e,n,ne,nf,d⟩:=I.pin p hp;exact⟨(hs.2 p.1 ne).trans e,n,ne,nf,d⟩
end
end L2
namespace L2
open PySem PySem.Spec PySem.W PySem.Calls PyProof.Rows
structure BM(K:Frag)(mg:Str->Option Value)(cd:Value)(P:Addr):Prop where
 hd:∃c o vs file tf flags tg inF text tt,cd=.ref c/\K.lookup c=some o/\o.cls=.type "code"/\o.data=.fields vs/\vs[11]?=some (.ref P)/\vs.getD 11 .none=.ref P/\vs.getD 18 .none=.str file tf/\
  vs.getD 7 .none=.int flags tg/\vs.getD 9 .none=.bool inF/\vs.getD 10 .none=.int text tt/\c≠P
 tab:iJ K P
 bm:∃bm ob,mg "__builtins__"=some (.ref bm)/\bm≠builtinsNs/\K.lookup bm=some ob/\ob.cls=.type "module"/\ob.dict=some builtinsNs/\ob.data=.plain
theorem zm{pos:Pos}{x c:Value}{a b:Int}:∀(l:List Value),TriplesOk l->codeAmong pos (l++[rawInt a,rawInt b,c])=some x->codeAmong pos l=some x\/x=c:=by
 intro l
 fun_induction TriplesOk l with
 | case1=>
  intro _ h;right;simp only[Q3,codeAmong,rawInt] at h
  split at h
  ·exact(Option.some.inj h).symm
  ·cases h
 | case2 a' t b' u y rest ih=>
  intro ht h;simp only[QE,codeAmong] at h ⊢
  split at h
  ·left;rename_i hc;rw[P0 hc];exact h
  ·rename_i hc;rw[P7 hc];exact ih ht h
 | case3 l h1 h2=>exactλh=>h.elim
section
variable {X:Cx} {pins:List (Addr×Obj)} {σ:St} {H:Hp} {s:Shared} {P:Addr} {params:Arguments} {body:Expr} {scope:Scope} {pos:Pos} {cl:List (Str×Addr)} {Q:Value->Shared->Prop} {E:Value->Shared->Prop}
structure Pp(K:Frag)(mg:Str->Option Value)(P:Addr)(params:Arguments)(body:Expr)(scope:Scope)(cl:List (Str×Addr))(H:Hp)(f:Addr):Prop where
 ex:∃qn c' ctv oc vs q t,H f=some (.ph (kla_obj "<lambda>" qn params body scope cl ((mg "__name__").getD .none) c' ctv) (.own f))/\H c'=some (.ph oc (.own P))/\oc.data=.fields vs/\vs[1]?=some (.str q t)
theorem JL(I:Inv X pins σ H s)(L:BM X.K X.mg X.env.code P)(tP:H P=some .tb)(hd:defaultsOf params X.env=([],[]))(hcl:closureFor scope X.env=pure cl)
  (h:∀s' H' f,Inv X pins σ H' s'->(∀b o,H b=some o->H' b=some o)->(∀b,s.heap.objs.size<=b\/H' b=H b)->s.heap.objs.size<=f->Pp X.K X.mg P params body scope cl H' f->Q (.ref f) s'):
  wpAny (model X.prog X.w) X.A (eval (.Lambda params body scope pos) X.env) Q E s:=by
 obtain⟨c,oc,vsc,file,tf,flags,tg,inF,text,tt,ec,hc,c1,c2,c3,c4,c5,c6,c7,c8,c9⟩:=L.hd;have C:CodeHd s.heap c P:=⟨oc,vsc,file,tf,flags,tg,inF,text,tt,I.z7 _ _ hc,c1,c2,c3,c4,c5,c6,c7,c8,c9⟩;obtain⟨ps,hP,ht,hcodes⟩:=(show cg X.prog X.w H s.heap P .tb from I.ba P _ tP);have hg:s.heap.Ns mainGlobals X.mg:=I.mod.glob.keeps I.bk;obtain⟨bm,ob,b1,b2,b3,b4,b5,b6⟩:=L.bm;have hbm:=I.z7 _ _ b3;have hgP:mainGlobals≠P:=λq=>by
  obtain⟨o,es,ep,e,hd,_⟩:=hg;rw[q,hP] at e;cases e;cases hd
 have hbP:bm≠P:=λq=>by rw[q,hP] at hbm;cases hbm;cases b4
 have hbG:bm≠mainGlobals:=λq=>by
  obtain⟨o,es,ep,e,hd,_⟩:=hg;rw[<-q,hbm] at e;cases e;rw[hd] at b6;cases b6
 have hB:s.heap.BuiltinsAt X.mg P:=⟨bm,ob,b1,b2,hbG,hbP,hbm,b4,b5,b6⟩;refine kla_eval hd ?_;have old:∀b o,H b=some o->b < s.heap.objs.size:=λb o e=>I.ba.lt e;cases hf:codeAmong pos ps.toList with
 | some cv=>
  obtain⟨c',oc',vs',q',t',rfl,e1,e2,e3⟩:=hcodes pos cv hf;refine kla_makeFunctionHit (mg:=X.mg) hcl I.ok.glob hg ec C hP ht hf hB λctv h' tk hk hsz=>?_;have hn:H h'.objs.size=none:=I.ba.fresh hsz;refine h _ (upd H h'.objs.size (.ph (kla_obj "<lambda>" (X.env.qual++"<lambda>") params body scope cl ((X.mg "__name__").getD .none) c' ctv) (.own h'.objs.size))) _ (I.laid (t':=tk) (λb o e=>P9 _ (hk b o e)) hsz ?_) (λb o e=>by rw[av (aI e hn)];exact e) (λb=>?_) hsz ⟨_,c',ctv,oc',vs',q',t',aO,by rw[av (aI e1 hn)];exact e1,e2,e3⟩
  ·exact⟨Qt _ rfl,_,Qt _ rfl⟩
  ·by_cases hb:b=h'.objs.size
   ·exact .inl (hb ▸ hsz)
   ·exact .inr (av hb)
 | none=>
  refine kla_makeFunction (mg:=X.mg) hcl I.ok.glob hg ec C hP ht hf hgP hB λc' ctv h' tk hx hge hlt hrec htb=>?_;obtain⟨c₂,oc',vs',t',e2,hoc,hd',hv⟩:=hrec;cases e2;have hPs:P < s.heap.objs.size:=Qf hP;have hszf:s.heap.objs.size<=h'.objs.size:=P6 hge (RK hlt);have n1:H c'=none:=I.ba.fresh hge;have n2:H h'.objs.size=none:=I.ba.fresh hszf;have nf:c'≠h'.objs.size:=Qs hlt;generalize hfo:kla_obj "<lambda>" (X.env.qual++"<lambda>") params body scope cl ((X.mg "__name__").getD .none) c' ctv=fo;have hfr:fo.isFreed=false:=by rw[<-hfo];rfl
  have nn:∀{b o},H b=some o->upd (upd H c' (.ph oc' (.own P))) h'.objs.size (.ph fo (.own h'.objs.size)) b=some o:=λ{b o} e=>by
   rw[av (aI e n2),av (aI e n1)];exact e
  have nb:∀{b},b < s.heap.objs.size->upd (upd H c' (.ph oc' (.own P))) h'.objs.size (.ph fo (.own h'.objs.size)) b=H b:=λ{b} e=>by
   rw[av (Qs (Qq e hszf)),av (Qs (Qq e hge))]
  have kp:∀b o,b≠P->s.heap.get? b=some o->(h'.push fo).get? b=some o:=λb o hb e=>P9 _ (hx b o hb e);have I':Inv X pins σ (upd (upd H c' (.ph oc' (.own P))) h'.objs.size (.ph fo (.own h'.objs.size))) {s with heap:=h'.push fo,toks:=tk}:=by
   refine I.step (g':=s.gens) (d':=s.drawn) (t':=tk) (ch:=[]) (λ_ z=>nomatch z) (λb o _ _ _ e n=>kp b o (λz=>by rw[z,tP] at n;cases n) e) (λb o _ _ _ e n=>⟨o.slots,kp b o (λz=>by rw[z,tP] at n;cases n) e⟩)
    (λb o _ e n=>by rw[nb (Qf e)];exact n) (λb o _ e=>?_) (λb xs e=>nn e) (λb o u e=>nn e) (λb qs e=>⟨#[],by rw[nn e];simp⟩) (λm hm=>?_) (λb u e=>?_) I.bare
   ·by_cases hb:b=P
    ·exact⟨_,P9 _ (hb ▸ htb)⟩
    ·exact⟨o,kp b o hb e⟩
   ·obtain⟨o,es,ep,ho,r⟩:=hm;exact⟨o,es,ep,kp _ o (λz=>by have:=I.free;rw[z,tP] at this;cases this) ho,r⟩
   ·by_cases h1:b=h'.objs.size
    ·subst h1;rw[aO] at e;cases e;exact⟨Qt _ hfr,_,Qt _ hfr⟩
    ·rw[av h1] at e
     by_cases h2:b=c'
     ·subst h2;rw[aO] at e;cases e;exact⟨P9 _ hoc,_,P9 _ hoc⟩
     ·rw[av h2] at e
      by_cases h3:b=P
      ·subst h3;rw[tP] at e;cases e;refine⟨_,P9 _ htb,?_,λpos' x ex=>?_⟩
       ·rw[show(ps++#[rawInt pos.line,rawInt pos.col,Value.ref c']).toList=ps.toList++[rawInt pos.line,rawInt pos.col,.ref c'] by simp];exact TriplesOk_snoc _ _ _ _ ht
       ·rw[show(ps++#[rawInt pos.line,rawInt pos.col,Value.ref c']).toList=ps.toList++[rawInt pos.line,rawInt pos.col,.ref c'] by simp] at ex;rcases zm _ ht ex with z | z
        ·obtain⟨c₃,o₃,v₃,q₃,t₃,f1,f2,f3⟩:=hcodes pos' x z;exact⟨c₃,o₃,v₃,q₃,t₃,f1,nn f2,f3⟩
        ·exact⟨c',oc',vs',_,t',z,by rw[av nf,aO],hd',hv⟩
      ·refine(I.ba b u e).nE (λc v hc' q=>?_) (λ_ q=>nn q) (λ_ _ q=>nn q) λ_ _ q=>nn q;refine kp c v ?_ q;rcases hc' with rfl | hc'
       ·exact h3
       ·intro z;rw[z,tP] at hc';cases hc'
  refine h _ _ _ I' (λb o e=>nn e) (λb=>?_) hszf ⟨_,c',ctv,oc',vs',_,t',by rw[hfo];exact aO,by rw[av nf,aO],hd',hv⟩
  by_cases hb:b < s.heap.objs.size
  ·exact .inr (nb hb)
  ·exact .inl (Rq hb)
end
abbrev GH(CX:AB)(P:Program)(w:World)(K:FR)(mg:Str->Option Value)(base:Heap)(N:List Str)(qual:Str)(scope:Scope)(cl:List (Str×Addr))(f:Addr)(cd:Value)(A:Around)(outer:List Env)(s:Shared)(H:Hp)(E:XK):Cx where
 prog:=P
 w:=w
 K:=K
 mg:=mg
 base:=base
 A:=A.deeper (envX qual scope s.heap.objs.size f cd cl)
 N:=N
 s₀:=s
 H₀:=H
 env:=envX qual scope s.heap.objs.size f cd cl
 outer:=outer
 stack:=envX qual scope s.heap.objs.size f cd cl::outer
 ex:=[]
 calm:=true
 fn:=λ_=>false
 pn:=[]
 xe:=λe s'=>wpAny (model P w) (A.deeper (envX qual scope s.heap.objs.size f cd cl)) (leaving (envX qual scope s.heap.objs.size f cd cl) e) (λ_ s''=>CX outer H s E e s'') (λe' s''=>CX outer H s E e' s'') s'
structure Nk(H:Hp)(h:Heap)(N:List Str)(scope:Scope)(cl:List (Str×Addr))(σ:St):Prop where
 inj:∀x y c,cl.lookup x=some c->cl.lookup y=some c->x=y
 has:∀x,scope.names.lookup x=some .free->∃c,cl.lookup x=some c
 cell:∀x c,cl.lookup x=some c->H c=none/\∃v,h.IsCell c v
 val:∀(j:Nat) x v,N[j]?=some x->σ[j]?=some (some v)->∃u c,RelV v u/\scope.names.lookup x=some .free/\cl.lookup x=some c/\h.IsCell c (some u)
 len:σ.length=N.length
theorem Nk.keep(C:Nk H h N scope cl σ)(k:∀b o,H b=none->h.get? b=some o->(∃sl,h'.get? b=some {o with slots:=sl})/\H' b=none):Nk H' h' N scope cl σ:=
 ⟨C.inj,C.has,λx c e=>by
  obtain⟨n,v,o,ho,hd⟩:=C.cell x c e;obtain⟨⟨sl,a⟩,b⟩:=k c o n ho;exact⟨b,v,_,a,hd⟩,λj x v e1 e2=>by
  obtain⟨u,c,r,f,l,o,ho,hd⟩:=C.val j x v e1 e2;obtain⟨⟨sl,a⟩,b⟩:=k c o (C.cell x c l).1 ho;exact⟨u,c,r,f,l,_,a,hd⟩,C.len⟩
structure sD(N:List Str)(sc:Scope):Prop where
 kind:sc.kind=.function
 co:sc.isCoroutine=false
 gen:sc.isGenerator=false
 rq:∀y∈sc.names,y.2≠.cell
section
variable {CX:AB} {P:Program} {w:World} {K:FR} {mg:Str->Option Value} {base:Heap} {N:List Str} {scope:Scope} {f Pt:Addr} {A:Around} {outer:List Env} {s:Shared} {H:Hp} {E:XK} {Q:VK} {params:Arguments} {body:Expr} {cl:List (Str×Addr)} {σ:St} {t:TE}
theorem DT(S:sD N scope)(hp:∀fd:FuncData,fd.params=params->fd.defaults=.none->fd.kwdefaults=.none->bindArgs fd ⟨[],[]⟩=pure [])(e0:E3 P w K mg base A outer s H)(hr:A.handled=none)(hdep:A.depth < recursionLimit)(F:Pp K mg Pt params body scope cl H f)(C:Nk H s.heap N scope cl σ)
  (hb:∀q cd,PE (GH CX P w K mg base N q scope cl f cd A outer s H E) body t) (ht:t σ H Q):
  codeAny (model P w) A (.call (.ref f) ⟨[],[]⟩) (CR CX outer P w H s Q E) s:=by
 obtain⟨qn,c',ctv,oc,vs,q,tk,h1,h2,h3,h4⟩:=F.ex;obtain⟨ho,_⟩:=(show cg P w H s.heap f _ from e0.ba f _ h1);obtain⟨hoc,_⟩:=(show cg P w H s.heap c' _ from e0.ba c' _ h2);have lim:s.heap.NoLimit:=e0.mod.nolimit.keeps λb o e=>(e0.bs b o e).1;refine codeAny_of_tree ?_;show wpAny _ A.in1 (callAny (.ref f) ⟨[],[]⟩) _ _ s;simp only[callAny];refine PY (wpAny_load ho ?_);simp only[callFunction,S.co,S.gen];refine PY (m:=field (.ref c') 1) (Q8 hoc h3 h4 (PY (Qh ?_)));rw[hp _ rfl rfl rfl];refine PY (Qh ?_);refine PY (wpAny_newFunctionEnv S.rq (λx hx=>nomatch hx) (λh₁ hns hsb=>?_) S.kind);have hk₁:∀b o,s.heap.get? b=some o->h₁.get? b=some o:=λb o e=>hsb.extBut b o (Qs (Qf e)) (P9 _ e);refine PY (wpAny_enterFrame (lim.keeps hk₁) hdep (Qh (And.intro rfl ?_)));show codeAny _ A (.expr body (envX q scope s.heap.objs.size f (.ref c') cl)) _ _;have noA:∀b:Addr,b∉(GH CX P w K mg base N q scope cl f (.ref c') A outer s H E).ex:=λb z=>absurd (show b∈([]:List Addr) from z) (by simp);have I:Inv (GH CX P w K mg base N q scope cl f (.ref c') A outer s H E) [] σ H {s with heap:=h₁,toks:=s.toks+([]:List (Str×Value)).length}:=by
  refine⟨⟨e0.mod,S.kind,rfl,rfl,PZ _,C.inj,λx hx=>?_,λy c h _=>absurd (show false=true from h) (by decide),λ_=>hr,Around.frames_deeper e0.frames,.inr ⟨rfl,rfl⟩,λb z=>absurd z (noA b),e0.bs,e0.E8,λb _ _=>noA b,λb z=>absurd z (noA b),e0.oh,e0.Hm⟩,
   rfl,e0.bare,Un.kept hk₁,⟨_,hns,λj x v e1 e2 e3=>?_⟩,λx c e=>?_,e0.ba.fresh (PZ _),λx c e=>(C.cell x c e).1,λp hp=>absurd (show p∈([]:List (Addr×Obj)) from hp) (by simp),e0.ba.kept hk₁,C.len⟩
  ·have hx:scope.names.lookup x=some .cell\/scope.names.lookup x=some .free:=hx;rcases hx with z | z
   ·exact absurd rfl (S.rq _ (QB z))
   ·exact C.has x z
  ·obtain⟨u,c,r,fr,l,o,ho',hd⟩:=C.val j x v e1 e2;exact⟨u,r,.inr ⟨.inr fr,c,l,o,hk₁ _ _ ho',hd⟩⟩
  ·obtain⟨_,v,o,ho',hd⟩:=C.cell x c e;exact⟨v,o,hk₁ _ _ ho',hd⟩
 refine kla_codeExpr (QO (hb q (.ref c') [] _ σ H Q I ht) (λu s' hs=>?_) λe s' hs=>hs);obtain⟨v,H',J,rv,qv⟩:=hs;exact⟨v,H',J.os,J.bare,J.base,J.ba,rv,qv⟩
end
section
variable {X:Cx} {pins:List (Addr×Obj)} {σ:St} {H:Hp} {s:Shared}
theorem Inv.Lr{a:Addr}{u:HO}(I:Inv X pins σ H s)(n:H a=none)(h0:X.s₀.heap.get? a=none)(hd:∃o vs,s.heap.get? a=some o/\o.data=.fields vs)(hp:∀p∈X.pn++pins,p.1≠a)(new:cg X.prog X.w (upd H a u) s.heap a u):
  Inv X pins σ (upd H a u) s:=by
 obtain⟨oa,va,ha,hda⟩:=hd;have old:∀b o,X.s₀.heap.get? b=some o->b≠a:=λb o e z=>by rw[z,h0] at e;cases e
 have nn:∀{b o},H b=some o->upd H a u b=some o:=λ{b o} e=>by rw[av (aI e n)];exact e
 refine⟨I.ok,I.os,I.bare,⟨I.base.keep,I.base.slot,λb o e m hx=>?_,I.base.there,λb xs e=>nn (I.base.nA b xs e),λb o u e=>nn (I.base.mL b o u e),λb ps e=>?_⟩,I.loc,I.cell,?_,λx c e=>?_,λp hq=>?_,λb v e=>?_,I.len⟩
 ·rw[av (old b o e)];exact I.base.free b o e m hx
 ·obtain⟨more,e1⟩:=I.base.nB b ps e;exact⟨more,nn e1⟩
 ·obtain⟨m,⟨o,es,ep,ho,hdl,_⟩,_⟩:=I.loc;rw[av (λz=>by rw[z,ha] at ho;cases ho;rw[hda] at hdl;cases hdl)];exact I.free
 ·obtain⟨v,o,ho,hdc⟩:=I.cell x c e;rw[av (λz=>by rw[z,ha] at ho;cases ho;rw[hda] at hdc;cases hdc)];exact I.gq x c e
 ·obtain⟨e,m,r⟩:=I.pin p hq;exact⟨e,by rw[av (hp p hq)];exact m,r⟩
 ·by_cases z:b=a
  ·subst z;rw[aO] at e;cases e;exact new
  ·rw[av z] at e;exact(I.ba b v e).nE (λ_ _ _ q=>q) (λ_ q=>nn q) (λ_ _ q=>nn q) λ_ _ q=>nn q
theorem Kg{cn:Str}{f:Addr}{p1 p2:Pos}{i:Nat}{ho:Obj}{fd:FuncData}{Q:Value->Shared->Prop}{E:Value->Shared->Prop}(I:Inv X pins σ H s)(hN:X.N[i]?=some cn)(hv:KS X.env.scope cn)(hσ:σ[i]?=some (some (.ref f)))(hf:s.heap.get? f=some ho)(hd:ho.data=.func fd)
  (h:wpAny (model X.prog X.w) X.A (call (.ref f) []) Q E s) (hdb:(cn==("__debug__":Str))=false) (hcd:(cn==("__classdict__":Str))=false):
  wpAny (model X.prog X.w) X.A (eval (.Call (.Name cn p1) [] [] p2) X.env) Q E s:=by
 refine RA ?_;obtain⟨m,hn,hl⟩:=I.loc;obtain⟨u,r,l⟩:=hl i cn _ hN hσ hv;obtain rfl:u=Value.ref f:=r;have fin:wpAny (model X.prog X.w) X.A (callWith p2 (.ref f) [] (backTo p2 (starEach [] X.env)) (backToKw p2 (keywordEach [] X.env))) Q E s:=by
  refine callWith_of (P:=λh=>∃o,h.get? f=some o/\o.data=.func fd) rfl (λh ⟨o,e1,e2⟩=>⟨.frame,.inl rfl,(Looks.ld (part:=none) e1).andThen ?_⟩) (evalArgs_nil3 ⟨⟨ho,hf,hd⟩,h⟩);rw[e2];exact .now
 rcases l with⟨hk,hm⟩ |⟨hk,c,hc,hcell⟩
 ·exact Tu (wpAny_loadName_local I.ok.kind hk hn hm fin) hdb
 ·rcases hk with hk | hk
  ·exact Tu (wpAny_loadName_cell I.ok.kind hk hc hcell fin) hdb
  ·exact Tu (wpAny_loadName_free I.ok.kind hk hc hcell fin hcd) hdb
end
section
variable {X:Cx} {pins:List (Addr×Obj)} {σ:St} {H:Hp} {s:Shared}
theorem Ci{L:Addr}{rest:List Env}{cau en:Str}{CS:Addr}{p4 p5 p6 p7 p8 p9:Pos}{body:List Stmt}{Qn:Hp->Prop}{E1:XK}{Q:Flow->Shared->Prop}{E:Value->Shared->Prop}
  (I:Inv X pins σ H s) (hs:X.stack=X.env::rest) (hf:X.env.frame=some L) (hNd:X.N.Nodup) (h1:X.N[1]?=some cau) (h2:X.N[2]?=some en) (l1:X.env.scope.names.lookup cau=some .local) (l2:X.env.scope.names.lookup en=some .local)
  (hg:Gl X "StuckError") (hm:X.mg "StuckError"=some (.ref CS)) (hsw:swapsWith (.Name en p6) (some (.Name cau p5)) p7.line X.env=pure false) (hd:(en==("__debug__":Str))=false) (hcd:(en==("__classdict__":Str))=false)
  (hcall:wpAny (model X.prog X.w) X.A (execs body X.env) (λf s'=>f=.next/\∃H',Inv X pins σ H' s'/\Qn H') (λe s'=>iN X.prog X.w X.stack H s E1 e s') s)
  (hE:∀C H',E1 C none H'->∃D bm bmC,C=.ref D/\(∀h,X.K.In h->yb h D bm/\yb h CS bmC)/\bmC.contains (.type "BaseException")=true/\(Value.ref D::bm).contains (.ref CS)=true)
  (hz:∀b,s.heap.get? b=none->X.s₀.heap.get? b=none)
  (k1:∀s' H',Inv X pins σ H' s'->Qn H'->Q .next s')
  (k2:∀s' H' x D,Inv X pins ((((σ.set 2 (some (.ref x))).set 1 (some (.ref x))).set 2 (some .cw)).set 2 none) (upd H' x (.Ah λ_ h=>yj h x D)) s'->E1 (.ref D) none H'->H' x=none->Q .next s'):
  wpAny (model X.prog X.w) X.A (exec (.Try body [.ExceptHandler (some (.Name "StuckError" p4)) (some en) [.Assign [.Name cau p5] (.Name en p6) p7] p8] [] [] p9) X.env) Q E s:=by
 refine wpAny_Try_except (QO hcall (λf s' hq=>?_) λe s' hx=>?_)
 ·obtain⟨rfl,H',I',q⟩:=hq;exact Ss (k1 _ _ I' q)
 ·obtain⟨x,C,H',rfl,e1,kk⟩:=so I hs hf hx;refine kk I.ok.frames λs3 I3 fx nx n0 fl2=>?_;obtain⟨D,bm,bmC,rfl,ho,hb1,hb2⟩:=hE _ _ e1;obtain⟨o,vs,e3,e4,e5⟩:=fx;refine Bt hb1 hb2 ?_;refine j6 (X:=X.E7 (.ref x) E) I3.E7 hg hm ?_;refine⟨rfl,(ho _ I3.z7).1,(ho _ I3.z7).2,⟨o,e3,e4⟩,fl2 λs4 I4 ⟨o4,vs4,f3,f4,f5⟩=>?_⟩;have I4':Inv X pins σ (upd H' x (.Ah λ_ h=>yj h x D)) s4:=I4.Lr nx (hz x n0) ⟨o4,vs4,f3,f5⟩ (λp hp z=>by
   obtain⟨e,_⟩:=I.pin p hp;rw[z,n0] at e;cases e) ⟨⟨o4,f3,f4⟩,⟨o4,f3⟩,λh1 h2 ⟨o,a,b⟩ k=>⟨o,k o a,b⟩⟩
  have hl2:2 < σ.length:=by rw[I.len];exact(PV.mp h2).1
  refine ie (v:=.ref x) I4' hNd h2 (.inl l2) rfl (λs5 I5=>?_) (.inr l2);refine Rw (dh (yI (X:=X.E7 (.ref x) (AsSuiteRaised (model X.prog X.w) (X.A.mark (some (.ref x))) X.env en p8 (notedBy (model X.prog X.w) (X.A.mark (some (.ref x))) X.env (cameBackBy (model X.prog X.w) X.A X.env E)))) (i:=1) hNd h1 (.inl l1) (Dq (i:=2) h2 (.inl l2) hd hcd) hsw (.inr l1) pins s5 _ _
   {nx:=λσ' H2=>σ'=(σ.set 2 (some (.ref x))).set 1 (some (.ref x))/\H2=upd H' x (.Ah λ_ h=>yj h x D),rt:=λ_ _=>False,bk:=λ_ _=>False,ct:=λ_ _=>False} I5.E7 ⟨.ref x,by rw[QA hl2],rfl,rfl⟩) λf s6 q=>?_)
  cases f with
  | ret v=>obtain⟨_,_,_,_,_,q⟩:=q;exact q.elim
  | brk=>obtain⟨_,_,_,q⟩:=q;exact q.elim
  | cont=>obtain⟨_,_,_,q⟩:=q;exact q.elim
  | next=>
   obtain⟨σ6,H6,I6,rfl,rfl⟩:=q;have I6:=I4.Ow I6;refine Ss ?_;refine PY (UM (ie (v:=.cw) I6 hNd h2 (.inl l2) rfl (λs7 I7=>?_) (.inr l2)));unfold unbindBehindTheSuite;refine wpAny_onRaise (AF (v:=.cw) I7 hNd h2 l2 (by rw[QA];simpa using hl2) λs8 I8=>?_);exact k2 _ _ x D I8 e1 nx
end
section
variable {X:Cx} {pins:List (Addr×Obj)} {σ:St} {H:Hp} {s:Shared} {N':List Str} {caps:List (Option Nat)} {scope:Scope}
theorem Inv.cells(S:bG X N' caps scope)(I:Inv X pins σ H s):Nk H s.heap N' scope (gu X.env scope.names []) (mW caps σ):=by
 refine⟨λx y c h1 h2=>I.ok.inj x y c (S.look I.ok h1) (S.look I.ok h2),λx h=>iH (env:=X.env) scope.names [] (QB h),λx c e=>⟨I.gq x c (S.look I.ok e),I.cell x c (S.look I.ok e)⟩,λj x v e1 e2=>?_,by
  show(caps.map _).length=N'.length;rw[PU];exact S.len⟩
 have e2':(caps.map λo=>o.bind λi=>(σ[i]?).join)[j]?=some (some v):=e2;rw[Qg] at e2';cases hcj:caps[j]? with
 | none=>rw[hcj] at e2';cases e2'
 | some oi=>
  rw[hcj] at e2';have e2'':(oi.bind λi=>(σ[i]?).join)=some v:=Option.some.inj e2';cases oi with
  | none=>cases e2''
  | some i=>
   have hσ:(σ[i]?).join=some v:=e2'';have hσ':σ[i]?=some (some v):=by
    cases hs:σ[i]? with
    | none=>rw[hs] at hσ;cases hσ
    | some w=>rw[hs] at hσ;rw[show w=some v from hσ]
   obtain⟨hX,hfr⟩:=S.Pd j i x hcj e1;obtain⟨m,_,hl⟩:=I.loc;have hcgt:=S.so _ (QB hfr) rfl;have hvis:KS X.env.scope x:=by
    rcases hcgt with z | z
    ·exact .inr (.inl z)
    ·exact .inr (.inr z)
   obtain⟨u,ru,lk⟩:=hl i x v hX hσ' hvis;obtain⟨c,hcc⟩:=iH (env:=X.env) scope.names [] (QB hfr);refine⟨u,c,ru,hfr,hcc,?_⟩;rcases lk with⟨z,_⟩ |⟨_,c',hc',hcell⟩
   ·have z':X.env.kindOf x=some .local:=z;rcases hcgt with q | q
    ·rw[z'] at q;cases q
    ·rw[z'] at q;cases q
   ·have:=S.look I.ok hcc;rw[this] at hc';cases hc';exact hcell
end
abbrev wD(X:Cx)(ns:List Str)(fn:Str)(st:Stmt)(fr:Addr)(cdv:Value)(s1:Shared)(H1:Hp):Cx:=ft nv X.prog X.w X.K X.mg X.base ns fn (ak st) fr cdv X.A X.stack s1 H1 λ_ _ _=>False
end L2
namespace Sm
open PySem L2 PySem.Spec PySem.W PySem.Calls PyProof.Rows
noncomputable def Cm(mt:SM)(c:Str)(h:MH):Option (D×MH):=((mt [none,some (.ob h.length),none,none] (h++[.exc c])).bind wY).bind λp=>leave h p.1 p.2
noncomputable def Ls(mt:SM)(h:MH):Option (D×MH):=((mt [none,some .cw,none,none] h).bind wY).bind λp=>leave h p.1 p.2
noncomputable def iF(cls:List Str)(caps:List (Option Nat))(mt:SM)(x:XM)(m:EM):EM:=λδ h=>match x (gP caps δ) h with
 | some (c,h')=>if c∈cls then Cm mt c h' else none
 | none=>(m (gP caps δ) h).bind λp=>Ls mt p.2
structure XC(K:Frag)(mg:Str->Option Value)(CS:Addr)(c:Str):Prop where
 ex:∃D bm bmC,mg c=some (.ref D)/\Ka K c=some (.ref D)/\(∀h,K.In h->yb h D bm/\yb h CS bmC)/\bmC.contains (.type "BaseException")=true/\(Value.ref D::bm).contains (.ref CS)=true
section
variable {X:Cx} {fn cn cau en mk:Str} {fr CS Pt:Addr} {fd:FuncData} {st:Stmt} {tail:List Stmt} {mt:SM} {k:Nat} {x:XM} {m:EM} {Nl:List Str} {caps:List (Option Nat)} {scope:Scope} {params:Arguments} {body:Expr} {cls:List Str}
 {pa pb' pc p1 p2 p3 p4 p5 p6 p7 p8 p9 pn lpos pos:Pos} {j:Nat}
theorem yB(F:sF X.K fn fn st fr fd)(Sc:aE [cn,cau,en,mk] [cn] (ak st))(hmf:X.mg fn=some (.ref fr))(hkf:keepIn X.K (.ref fr)=true)
  (hbind:∀(s:Shared)(u:Value),BindsTo s fd ⟨[u],[]⟩ [(cn,u)])
  (hbody:dy st=.Assign [.Name cau pa] (.Constant .none j pb') pc::.Try [.Expr (.Call (.Name cn p1) [] [] p2) p3] [.ExceptHandler (some (.Name "StuckError" p4)) (some en) [.Assign [.Name cau p5] (.Name en p6) p7] p8] [] [] p9::tail)
  (l0:(ak st).names.lookup cn=some .local) (l1:(ak st).names.lookup cau=some .local) (l2:(ak st).names.lookup en=some .local) (lg:(ak st).names.lookup ("StuckError":Str)=some .globalImplicit)
  (hms:X.mg "StuckError"=some (.ref CS)) (hC:∀c∈cls,XC X.K X.mg CS c)
  (n0:(cn==("__debug__":Str))=false) (n0':(cn==("__classdict__":Str))=false) (n2:(en==("__debug__":Str))=false) (n2':(en==("__classdict__":Str))=false)
  (sw1:∀env,swapsWith (.Constant .none j pb') (some (.Name cau pa)) pc.line env=pure false) (sw2:∀env,swapsWith (.Name en p6) (some (.Name cau p5)) p7.line env=pure false) (sw3:∀env,swapsWith (.Call (.Name cn p1) [] [] p2) none p3.line env=pure false)
  (htail:∀(cdv:Value)(A:Around)(outer:List Env)(s:Shared)(H:Hp)(E:XK),cM (k+1) (A.deeper (envOfC fn (ak st) s.heap.objs.size fr cdv))->Ay (ft nv X.prog X.w X.K X.mg X.base [cn,cau,en,mk] fn (ak st) fr cdv A outer s H E).DI tail mt)
  (hr:cM (k+2) X.A) (L:BM X.K X.mg X.env.code Pt) (hd:defaultsOf params X.env=([],[])) (hp:∀fd:FuncData,fd.params=params->fd.defaults=.none->fd.kwdefaults=.none->bindArgs fd ⟨[],[]⟩=pure []) (LS:sD Nl scope) (C:bG X Nl caps scope)
  (hx:∀(q:Str)(cd:Value)(f:Addr)(cl:List (Str×Addr)) (A:Around) (outer:List Env) (s:Shared) (H:Hp) (E:XK),cM k (A.deeper (envX q scope s.heap.objs.size f cd cl))->XE (GH (iN X.prog X.w) X.prog X.w X.K X.mg X.base Nl q scope cl f cd A outer s H E) E body x)
  (hm:∀(q:Str)(cd:Value)(f:Addr)(cl:List (Str×Addr)) (A:Around) (outer:List Env) (s:Shared) (H:Hp) (E:XK),cM k (A.deeper (envX q scope s.heap.objs.size f cd cl))->SE (GH (iN X.prog X.w) X.prog X.w X.K X.mg X.base Nl q scope cl f cd A outer s H E) body m)
  (hg:Gl X fn) (hdb:(fn==("__debug__":Str))=false) (hst:starEach [.Lambda params body scope lpos] X.env=[(false,eval (.Lambda params body scope lpos) X.env)]):
  SE X (.Call (.Name fn pn) [.Lambda params body scope lpos] [] pos) (iF cls caps mt x m):=by
 intro pins s σ H Q I ⟨ρ,δ,h,d,h',R,S,ee,kq⟩;refine RA (j6 I hg hmf ?_ hdb);refine UU (h₀:=X.base) (rest:=[]) I.ok.mod.Ny hkf ?_ hst (by rfl);rw[hst];show wpAny _ _ (spliced ((false,eval (.Lambda params body scope lpos) X.env)::backTo pos [])) _ _ s;have tP:H Pt=some .tb:=(S.tb Pt L.tab).2;refine T8 (JL I L tP hd (lu (C.has I.ok)) λs1 H1 f I1 hext hnew hfs Fl=>Ug ⟨I1.z7,?_⟩);have T1:cY ρ H ρ H1:=⟨⟨λ_ _ e=>e,λb o n e=>⟨n,hext b o e⟩⟩,rfl,λb hb=>by
  obtain⟨u,e⟩:=(S.sM b hb).1;rw[e,hext b u e]⟩
 have S1:bL X.K ρ h H1:=S.same T1 λa ha=>by
  obtain⟨u,e⟩:=S.has (.inl ha);rw[e,hext a u e]
 have R1:cJ X.K ρ H1 (mW caps σ) (gP caps δ):=(R.mono T1.toCh).mW caps;have Cl1:=I1.cells C;have e0:=I1.Kh;obtain⟨oc,od,kV,doc,pm,an,cdv,ct,osl,rfl,lk,hcd⟩:=F.ex;have KX:X.K.In s1.heap:=I1.z7;have lim:s1.heap.NoLimit:=I1.nolimit;have hkind:∀y∈[(cn,Value.ref f)],(ak st).names.lookup y.1=some .local\/((ak st).names.lookup y.1=some .cell/\((cellsFrom (s1.heap.objs.size+1) (ak st).names []).lookup y.1).isSome=true):=λy hy=>by
  rw[Qd.mp hy];exact .inl l0
 show wpAny _ _ (call (.ref fr) [.ref f]) _ _ s1;refine wpAny_call (Tw (R:=CR nv X.stack X.prog X.w H1 s1 Q (λ_ _ _=>False)) (codeAny_call_function hr.depth (KX _ _ lk) rfl Sc.co Sc.gen rfl (codeRec_of KX hcd) (hbind _ _ _ _ _ _ ?_)) λr s' hq=>?_);rotate_left
 ·cases r with
  | error e=>exact False.elim hq
  | ok fl=>
   cases fl with
   | ret u=>exact I1.after hq
   | next=>exact False.elim hq
   | brk=>exact False.elim hq
   | cont=>exact False.elim hq
 refine UL Sc.kind hkind λenv he s2 z=>?_;subst he;refine⟨lim.keeps z.toInCall.keep,codeAny_func ?_⟩;have Ir:Inv (wD X [cn,cau,en,mk] fn st fr cdv s1 H1) [] (start [cn,cau,en,mk] [.ref f]) H1 s2:=t9 (us:=[.ref f]) (vs:=[.ref f]) Sc hr.hd e0 rfl (.cons rfl .nil) z;have hr1:cM (k+1) (wD X [cn,cau,en,mk] fn st fr cdv s1 H1).A:=hr.deeper _;rw[hbody];refine Rw (QO (yI (X:=wD X [cn,cau,en,mk] fn st fr cdv s1 H1) (i:=1) Sc.nd rfl (.inl l1) Ds (sw1 _) (.inl rfl) [] s2 _ H1
  {nx:=λσ' H2=>σ'=[some (.ref f),some .cw,none,none]/\H2=H1,rt:=λ_ _=>False,bk:=λ_ _=>False,ct:=λ_ _=>False} Ir ⟨rfl,rfl⟩) (λfl s3 q=>?_) λe s' hq=>hq)
 cases fl with
 | ret v=>obtain⟨_,_,_,_,_,q⟩:=q;exact q.elim
 | brk=>obtain⟨_,_,_,q⟩:=q;exact q.elim
 | cont=>obtain⟨_,_,_,q⟩:=q;exact q.elim
 | next=>
 obtain⟨σ3,H3,I3,rfl,rfl⟩:=q;have fin:∀{s':Shared} {σ':L2.St} {H':Hp} {v:V} {u:Value},Inv (wD X [cn,cau,en,mk] fn st fr cdv s1 H3) [] σ' H' s'->RelV v u->Q v H'->CE X.stack X.prog X.w H3 s1 Q u s':=
  λ{s' σ' H' v u} J rv q=>⟨v,H',J.os,J.bare,J.base,J.ba,rv,q⟩
 have tl:∀{s4:Shared} {σ4:L2.St} {H4:Hp} {ρ4:Ad} {δ4:DS} {h4:MH} {d4:D} {h5:MH},Inv (wD X [cn,cau,en,mk] fn st fr cdv s1 H3) [] σ4 H4 s4->cJ X.K ρ4 H4 σ4 δ4->bL X.K ρ4 h4 H4->(mt δ4 h4).bind wY=some (d4,h5)->(∀v H',dG X.K ρ4 H4 h5 d4 v H'->Q v H')->
   wpAny (model X.prog X.w) (wD X [cn,cau,en,mk] fn st fr cdv s1 H3).A (execs tail (wD X [cn,cau,en,mk] fn st fr cdv s1 H3).env) (λfl s'=>CR nv X.stack X.prog X.w H3 s1 Q (λ_ _ _=>False) (.ok (.ret (match fl with | .ret v=>v | _=>.none))) s') (wD X [cn,cau,en,mk] fn st fr cdv s1 H3).xe s4:=λ{s4 σ4 H4 ρ4 δ4 h4 d4 h5} I4 R4 S4 e4 k4=>by
  obtain⟨⟨fl,δ5,h6⟩,e5,e6⟩:=bA e4;refine QO (htail cdv X.A X.stack s1 H3 (λ_ _ _=>False) hr1 [] s4 σ4 H4 {nx:=λ_ H'=>Q .cw H',rt:=Q} (I4.qm _) ⟨ρ4,δ4,h4,fl,δ5,h6,R4,S4,e5,λρ6 H6 T6 S6=>?_⟩) (λf' s' hs=>?_) λe s' hq=>hq.elim
  ·cases fl with
   | nx=>cases e6;exactλσ' R'=>k4 _ _ ⟨ρ6,T6,S6,.cw⟩
   | rt d=>cases e6;exactλv r=>k4 _ _ ⟨ρ6,T6,S6,r⟩
   | bk=>cases e6
   | ct=>cases e6
  ·cases f' with
   | ret u=>obtain⟨v,σ',H',J,rv,q⟩:=hs;exact fin J.gV rv q
   | next=>obtain⟨σ',H',J,q⟩:=hs;exact fin (v:=V.cw) (u:=Value.none) J.gV rfl q
   | brk=>obtain⟨_,_,_,q⟩:=hs;exact False.elim q
   | cont=>obtain⟨_,_,_,q⟩:=hs;exact False.elim q
 have run:∀{t:TE} {Qn:VK} {E1:XK},(∀q cd,PE (GH (iN X.prog X.w) X.prog X.w X.K X.mg X.base Nl q scope (gu X.env scope.names []) f cd (wD X [cn,cau,en,mk] fn st fr cdv s1 H3).A (wD X [cn,cau,en,mk] fn st fr cdv s1 H3).stack s3 H3 E1) body t)->t (mW caps σ) H3 Qn->
   wpAny (model X.prog X.w) (wD X [cn,cau,en,mk] fn st fr cdv s1 H3).A (execs [.Expr (.Call (.Name cn p1) [] [] p2) p3] (wD X [cn,cau,en,mk] fn st fr cdv s1 H3).env) (λf' s'=>f'=.next/\∃H',Inv (wD X [cn,cau,en,mk] fn st fr cdv s1 H3) [] [some (.ref f),some .cw,none,none] H' s'/\∃v,Qn v H') (λe s'=>iN X.prog X.w (wD X [cn,cau,en,mk] fn st fr cdv s1 H3).stack H3 s3 E1 e s') s3:=λ{t Qn E1} hb ht=>by
  obtain⟨qn,c',ctv',oc',vs',q',tk',f1,f2,f3,f4⟩:=Fl.ex;obtain⟨hof,_⟩:=(show cg X.prog X.w H3 s3.heap f _ from I3.ba f _ f1);refine Rw (wpAny_Expr_any (Kg (X:=(wD X [cn,cau,en,mk] fn st fr cdv s1 H3)) (i:=0) I3 rfl (.inl l0) rfl hof rfl (wpAny_call (Tw (DT LS hp I3.Kh hr1.hd hr1.depth Fl (Cl1.keep λb o n e=>⟨I3.base.any e n (λz=>nomatch z),n⟩) hb ht) λr s' hq=>?_)) n0 n0') I3.quiet (sw3 _));cases r with
  | error e=>exact hq
  | ok fl=>
   cases fl with
   | ret u=>
    obtain⟨v,H',I',_,q⟩:=I3.after hq;exact Ss ⟨rfl,H',I',v,q⟩
   | next=>exact False.elim hq
   | brk=>exact False.elim hq
   | cont=>exact False.elim hq
 have hz:∀b,s3.heap.get? b=none->s1.heap.get? b=none:=λb hb=>by
  cases q:s1.heap.get? b with
  | none=>rfl
  | some o=>obtain⟨o',e⟩:=I3.base.there b o q (λz=>nomatch z);rw[hb] at e;cases e
 have hrl:∀(q:Str)(cd:Value),cM k ((wD X [cn,cau,en,mk] fn st fr cdv s1 H3).A.deeper (envX q scope s3.heap.objs.size f cd (gu X.env scope.names []))):=λq cd=>hr1.deeper _;unfold iF at ee;cases hq:x (gP caps δ) h with
 | some p=>
  obtain⟨c,h1⟩:=p;rw[hq] at ee;dsimp only at ee
  by_cases hc:c∈cls
  ·rw[P0 hc] at ee;obtain⟨⟨d4,h5⟩,e4,e6⟩:=bA ee;obtain⟨D,bm,bmC,mD,gD,hob,hb1,hb2⟩:=(hC c hc).ex;refine Rw (Ci (X:=(wD X [cn,cau,en,mk] fn st fr cdv s1 H3)) (rest:=X.stack) (L:=s1.heap.objs.size) (E1:=λC _ H'=>∃ρ',X.mg c=some C/\cY ρ H3 ρ' H'/\bL X.K ρ' h1 H') (Qn:=λH'=>∃v:V,(λ_ _=>False:VK) v H') I3 rfl rfl Sc.nd rfl rfl l1 l2 lg hms (sw2 _) n2 n2'
    (run (t:=λσ H _=>HA X.K X.mg (λC _ H'=>∃ρ',X.mg c=some C/\cY ρ H3 ρ' H'/\bL X.K ρ' h1 H') x σ H) (Qn:=λ_ _=>False) (E1:=(λC _ H'=>∃ρ',X.mg c=some C/\cY ρ H3 ρ' H'/\bL X.K ρ' h1 H')) (λq cd=>hx q cd f _ _ _ s3 H3 _ (hrl q cd)) ⟨ρ,_,h,c,h1,R1,S1,hq,λC ρ' H' m T S=>⟨ρ',m,T,S⟩⟩) (λC H' hh=>?_) hz (λs4 H4 _ hh=>?_) λs4 H4 y D4 I4 hh hn=>?_)
   ·obtain⟨ρ',m,_⟩:=hh;rw[mD] at m;cases m;exact⟨D,bm,bmC,rfl,hob,hb1,hb2⟩
   ·obtain⟨_,q⟩:=hh;exact q.elim
   ·obtain⟨ρ',m,T,S4⟩:=hh;rw[mD] at m;cases m;have S5:bL X.K (ρ'.more y) (h1++[.exc c]) (upd H4 y (.Ah λ_ h=>yj h y D)):=S4.made hn ⟨D,gD,aO⟩;refine QO (tl I4 (ρ4:=ρ'.more y) (δ4:=[none,some (.ob h1.length),none,none]) ⟨rfl,λi d hd=>?_⟩ S5 e4 λv H' pp=>?_) (λ_ _ q=>q) λ_ _ q=>q
    ·match i,hd with
     | 0,hd=>cases hd
     | 1,hd=>cases hd;exact⟨.ref y,rfl,.ob (by show(ρ'.ob++[y])[h1.length]?=_;rw[<-S4.len];simp)⟩
     | 2,hd=>cases hd
     | 3,hd=>cases hd
     | _+4,hd=>cases hd
    ·obtain⟨ρ6,T6,S6,r6⟩:=pp;have p2:dG X.K ρ' H4 h5 d4 v H':=⟨ρ6,(cY.made S4 hn).trans T6,S6,r6⟩;obtain⟨ρ7,T7,S7,r7⟩:=p2.leave S4 e6;exact kq v H' ⟨ρ7,(T1.trans T).trans T7,S7,r7⟩
  ·rw[P7 hc] at ee;cases ee
 | none=>
  rw[hq] at ee;dsimp only at ee;obtain⟨⟨d1,h1⟩,e1,e2⟩:=bA ee;obtain⟨⟨d4,h5⟩,e4,e6⟩:=bA e2;refine Rw (Ci (X:=(wD X [cn,cau,en,mk] fn st fr cdv s1 H3)) (rest:=X.stack) (L:=s1.heap.objs.size) (E1:=λ_ _ _=>False) (Qn:=λH'=>∃v:V,dG X.K ρ H3 h1 d1 v H') I3 rfl rfl Sc.nd rfl rfl l1 l2 lg hms (sw2 _) n2 n2'
    (run (t:=tM X.K m) (Qn:=dG X.K ρ H3 h1 d1) (E1:=λ_ _ _=>False) (λq cd=>hm q cd f _ _ _ s3 H3 _ (hrl q cd)) ⟨ρ,_,h,d1,h1,R1,S1,e1,λv H' p=>p⟩) (λC H' hh=>hh.elim) hz (λs4 H4 I4 hh=>?_) λs4 H4 y D4 I4 hh hn=>hh.elim)
  obtain⟨v0,ρ',T,S4,r0⟩:=hh;refine QO (tl I4 (ρ4:=ρ') (δ4:=[none,some .cw,none,none]) ⟨rfl,λi d hd=>?_⟩ S4 e4 λv H' pp=>?_) (λ_ _ q=>q) λ_ _ q=>q
  ·match i,hd with
   | 0,hd=>cases hd
   | 1,hd=>cases hd;exact⟨.cw,rfl,.cw⟩
   | 2,hd=>cases hd
   | 3,hd=>cases hd
   | _+4,hd=>cases hd
  ·obtain⟨ρ7,T7,S7,r7⟩:=dG.leave S4 pp e6;exact kq v H' ⟨ρ7,(T1.trans T).trans T7,S7,r7⟩
end
structure EX(K:Frag)(mg:Str->Option Value)(tb:List (Str×List Str))(ns:List Str):Prop where
 own:∀c as,tb.lookup c=some as->∃D,mg c=some (.ref D)/\Ka K c=some (.ref D)/\XQ K D/\(clsIn K D).isSome=true/\(∀n∈ns,∃N,mg n=some (.ref N)/\kitOne K (.ref D) (.ref N)=some (decide (n∈as)))/\kitOne K (.ref D) (.type "ValueError")=some true
noncomputable def ot(tb:List (Str×List Str))(n:Str)(m:EM):EM:=λδ h=>(m δ h).bind λp=>match p.1 with
 | .ob k=>match p.2[k]? with
  | some (.exc c)=>(tb.lookup c).map λas=>(.bl (decide (n∈as)),p.2)
  | _=>none
 | _=>none
section
variable {X:Cx} {a b:Expr} {m:EM} {tb:List (Str×List Str)} {ns:List Str} {n:Str} {pn pb pos:Pos}
theorem JW{ρ:Ad}{H:Hp}{h:MH}{k:Nat}{c:Str}{v:V}(S:bL X.K ρ h H)(r:Rep X.K ρ H v (.ob k))(e:h[k]?=some (.exc c)):∃x C,v=.ref x/\Ka X.K c=some (.ref C)/\H x=some (.Ah λ_ h=>yj h x C):=by
 cases r with
 | ob er=>
  obtain⟨C,g,x⟩:=S.at_ _ _ _ er e;exact⟨_,C,rfl,g,x⟩
theorem Ez:fY X (.builtin "isinstance") (λvs H Q=>∃x D cv b,vs=[.ref x,cv]/\H x=some (.Ah λ_ h=>yj h x D)/\XQ X.K D/\(clsIn X.K D).isSome=true/\(∀u,RelV cv u->kitOne X.K (.ref D) u=some b)/\Q (.bl b) H):=by
 intro pins s σ H vs us Q I r ⟨x,D,cv,b,e,hx,xq,hcl,hk,q⟩;subst e;obtain⟨u1,u2,rfl,r1,r2⟩:=Vals.two r;obtain rfl:u1=Value.ref x:=r1;obtain⟨⟨o,f1,f2⟩,_,_⟩:=(show cg X.prog X.w H s.heap x _ from I.ba x _ hx);exact yX xq hcl I.z7 ⟨o,f1,f2⟩ (hk u2 r2) λtk=>⟨.bl _,H,I.tok tk,rfl,q⟩
theorem tI{cv:V}(ha:SE X a m)(hb:PE X b (tC cv))(hk:∀c as,tb.lookup c=some as->∃D,Ka X.K c=some (.ref D)/\XQ X.K D/\(clsIn X.K D).isSome=true/\∀u,RelV cv u->kitOne X.K (.ref D) u=some (decide (n∈as)))
  (hg:Gl X "isinstance") (hm:X.mg "isinstance"=none) (he:starEach [a,b] X.env=(false,eval a X.env)::starEach [b] X.env) (he2:starEach [b] X.env=[(false,eval b X.env)]) (hpl:(backTo pos (starEach [b] X.env)).any (·.1)=false):
  SE X (.Call (.Name "isinstance" pn) [a,b] [] pos) (ot tb n m):=
 (xi (Ez (X:=X)) hg hm boot_isinstance (vi ha (vi hb Dv he2) he) (by decide) (by decide) he hpl).imp λσ H Q ⟨ρ,δ,h,d,h',R,S,ee,kq⟩=>by
  obtain⟨⟨d1,h1⟩,e1,e2⟩:=bA ee;cases d1 with
  | ob k=>
   dsimp only at e2;cases hq:h1[k]? with
   | none=>rw[hq] at e2;cases e2
   | some o=>
    rw[hq] at e2;cases o with
    | exc c=>
     obtain⟨as,e3,e4⟩:=hW e2;cases e4;obtain⟨D,gD,xq,hcl,hkit⟩:=hk c as e3;refine⟨ρ,δ,h,.ob k,_,R,S,e1,λv H1 ⟨ρ1,T1,S1,rv⟩=>?_⟩;obtain⟨x,C,rfl,gC,hx⟩:=JW S1 rv hq;rw[gD] at gC;cases gC;exact⟨x,D,cv,_,rfl,hx,xq,hcl,hkit,kq _ _ ⟨ρ1,T1,S1,.bl _⟩⟩
    | _=>cases e2
  | _=>cases e2
theorem Iv(E:EX X.K X.mg tb ns)(ha:SE X a m)(h0:∃c as,tb.lookup c=some as)(hn:n∈ns)(hgn:Gl X n)(hg:Gl X "isinstance")(hm:X.mg "isinstance"=none)(hd:(n==("__debug__":Str))=false)(he:starEach [a,.Name n pb] X.env=(false,eval a X.env)::starEach [.Name n pb] X.env)(he2:starEach [.Name n pb] X.env=[(false,eval (.Name n pb) X.env)])
  (hpl:(backTo pos (starEach [.Name n pb] X.env)).any (·.1)=false):SE X (.Call (.Name "isinstance" pn) [a,.Name n pb] [] pos) (ot tb n m):=by
 obtain⟨c0,as0,e0⟩:=h0;obtain⟨_,_,_,_,_,h5,_⟩:=E.own c0 as0 e0;obtain⟨N,mN,_⟩:=h5 n hn;refine tI (cv:=.ref N) ha (F7 hgn mN rfl hd) (λc as e=>?_) hg hm he he2 hpl;obtain⟨D,mD,gD,xq,hcl,h5,_⟩:=E.own c as e;obtain⟨N',mN',hk⟩:=h5 n hn;rw[mN] at mN';cases mN';exact⟨D,gD,xq,hcl,λu ru=>by cases(show u=Value.ref N from ru);exact hk⟩
theorem Fx(E:EX X.K X.mg tb ns)(ha:SE X a m)(hv:∀c as,tb.lookup c=some as->decide (("ValueError":Str)∈as)=true)(hgn:Gl X "ValueError")(hmn:X.mg "ValueError"=none)(hg:Gl X "isinstance")(hm:X.mg "isinstance"=none)
  (he:starEach [a,.Name "ValueError" pb] X.env=(false,eval a X.env)::starEach [.Name "ValueError" pb] X.env) (he2:starEach [.Name "ValueError" pb] X.env=[(false,eval (.Name "ValueError" pb) X.env)])
  (hpl:(backTo pos (starEach [.Name "ValueError" pb] X.env)).any (·.1)=false):SE X (.Call (.Name "isinstance" pn) [a,.Name "ValueError" pb] [] pos) (ot tb "ValueError" m):=by
 refine tI (cv:=.ty "ValueError") ha (F9 hgn hmn (u:=.type "ValueError") (by ac_nf) rfl) (λc as e=>?_) hg hm he he2 hpl;obtain⟨D,mD,gD,xq,hcl,_,h6⟩:=E.own c as e;exact⟨D,gD,xq,hcl,λu ru=>by cases(show u=Value.type "ValueError" from ru);rw[hv c as e];exact h6⟩
end
noncomputable def z3:zv:=λd ds h=>match ds with
 | [x]=>(eB d h).bind λys=>(zM h x).bind λp=>(lF ys).bind λbs=>if p.depth<=60/\PyData.depthAll bs<=60 then some (D.int (Int.ofNat (bs.countP λb=>PyData.eqv b p)),h) else none
 | _=>none
theorem BC{h:Heap}{f:Value->Bool}{p:PyData}:∀{us:List Value} {ds:List PyData} {as:List Addr},ReadsAll h us ds as->(∀u d as,u∈us->Reads h u d as->d∈ds->f u=PyData.eqv d p)->us.countP f=ds.countP λb=>PyData.eqv b p:=by
 intro us
 induction us with
 | nil=>intro ds as r _;cases r;rfl
 | cons v us ih=>
  intro ds as r hf;cases r with | cons r l=>
  rw[List.countP_cons,List.countP_cons,hf _ _ _ P1 r P1,ih l λu d as hu hr hd=>hf u d as (P4 _ hu) hr (P4 _ hd)]
theorem Bj{X:Cx}(hu:X.A.units+64 < cLine):yi X "list.count" (rM X.K z3):=by
 intro pins s σ H x xs v us Q I rx rs hh;obtain⟨ρ,h,d,ds,z,h',S,rd,l,ee,k⟩:=hh
 match ds,l,ee with
 | [],_,ee=>exact bN ee
 | _::_::_,_,ee=>exact bN ee
 | [y],l,ee=>
  obtain⟨ys,e1,e2⟩:=bA ee;obtain⟨p,e3,e4⟩:=bA e2;obtain⟨bs,e5,e6⟩:=bA e4
  by_cases w:p.depth<=60/\PyData.depthAll bs<=60
  ·rw[P0 w] at e6;cases e6;obtain⟨a,vs,rfl,ha,l1⟩:=eR S rd e1;obtain rfl:v=Value.ref a:=rx;obtain⟨yv,rfl,ry⟩:=rep1 l;obtain⟨u,rfl,ru⟩:=Vals.one rs;obtain⟨r1,c1⟩:=mj S ry e3;obtain⟨r2,c2⟩:=l1.sV e5;obtain⟨as,ra⟩:=r1.reads I ru;obtain⟨its,rv,pl,hz⟩:=I.list (.inl (.inl ha));obtain⟨bs',rb⟩:=r2.reads I rv;have hj:=BC (f:=Aj s.heap p) rb λu d as _ hr hd=>om hr (cy c2 hd);have key:∀y,y∈its.toArray->PySem.SeqAt.EqAt X.A.in1 s y u (Aj s.heap p y):=by
    intro y hy;obtain⟨d,as',hr,hd⟩:=jW rb y (by simpa using hy);rw[om hr (cy c2 hd)];refine Sl d p _ s y u as' as hr ra (cy c2 hd) c1 ?_;have h1:=ke hd;have h2:min d.depth p.depth<=d.depth:=Tj _ _;show X.A.units+1+min d.depth p.depth < cLine;have h3:=w.2
    lia
   obtain⟨o,n,g,o1,o2,o3⟩:=pl;obtain⟨oc,od,oda,os⟩:=o;dsimp only at o1 o2 o3;subst o1 o2 o3;refine R7 Us ⟨_,g,rfl⟩ PySem.F.entry_list_count (PySem.F.args_list_count_2 _ _)
    (PySem.SeqAt.list_countAt a its.toArray n none os u (Aj s.heap p)) ⟨g,key,?_⟩
   exact⟨.int _,H,I.kept (t':=s.toks+1) λ_ _ e=>e,⟨s.toks,by rw[<-hj];rfl⟩,k _ _ (.here S (.int _))⟩
  ·rw[P7 w] at e6;cases e6
end Sm
namespace Hd
open PySem PySem.W PySem.Spec PyProof.Rows L2 Sm
section
variable {h:Heap}
theorem JA{ns:Addr}{name:Str}{r:Option Value}(e:tW h ns name=some r):nsIn (aB h) ns name=some r:=by
 unfold tW at e;unfold nsIn
 split at e
 ·rename_i c d es n sl ho;rw[bE ho (gM λvs z=>by cases z)];exact e
 ·cases e
theorem Ge{v:Value}{name:Str}{r:Option Value}(e:jF h name v=some r):ownIn (aB h) name v=some r:=by
 cases v with
 | ref a=>
  unfold jF at e;unfold ownIn;dsimp only at e ⊢
  split at e
  ·rename_i c d cd sl ho;rw[bE ho (gM λvs z=>by cases z)];exact JA e
  ·cases e
 | _=>exact e
theorem uC{name:Str}{r:Option Value}:∀{vs:List Value},cH h name vs=some r->alongIn (aB h) name vs=some r
 | [],e=>e
 | c::vs,e=>by
  unfold cH at e;unfold alongIn;cases q:jF h name c with
  | none=>rw[q] at e;cases e
  | some w=>
   rw[q] at e;rw[Ge q];cases w with
   | some v=>exact e
   | none=>exact uC (vs:=vs) e
theorem qb{c:Str}{C:Addr}{cd:ClassData}(e:clsAt h c=some (C,cd)):h.nsMap mainGlobals c=some (.ref C)/\∃d sl,(aB h).lookup C=some ⟨.type "type",d,.cls cd,sl⟩:=by
 unfold clsAt at e
 split at e
 ·rename_i C' hg
  split at e
  ·rename_i d cd' sl ho;cases e;exact⟨hg,d,sl,bE ho (gM λvs z=>by cases z)⟩
  ·cases e
 ·cases e
theorem My{mg:Str->Option Value}{c:Str}{v:Value}(g:h.Ns mainGlobals mg)(e:mg c=some v):Ka (aB h) c=some v:=by
 obtain⟨o,es,ep,ho,hd,sk,hm⟩:=g;unfold Ka;rw[bE ho (gM λvs z=>by rw[hd] at z;cases z)];dsimp only;rw[hd];dsimp only;rw[<-hm c] at e;unfold nsFind findBy at e;rw[<-Array.find?_toList] at e;rw[show(λe:DictEntry=>e.key.isStr c)=λe=>Value.isStrOf c e.key from funext λx=>by cases x.key <;> rfl] at e;exact e
theorem vA{o:Obj}(hd:∀vs,o.data≠.fields vs){a:Addr}{base:Heap}(X:(aB h).In base)(e:h.get? a=some o):base.get? a=some o:=X _ _ (bE e (gM hd))
theorem zW{base:Heap}(X:(aB h).In base){N:Addr}{m:Str->Option Value}(x:h.Ns N m):base.Ns N m:=by
 obtain⟨o,es,ep,ho,hd,r⟩:=x;exact⟨o,es,ep,vA (λvs z=>by rw[hd] at z;cases z) X ho,hd,r⟩
theorem AJ{base:Heap}(X:(aB h).In base){bmB tl:List Value}(T:OwnTail h bmB tl):OwnTail base bmB tl:=by
 induction T with
 | base=>exact .base
 | own hA hN hni _ ih=>exact .own (vA (λvs z=>by cases z) X hA) (zW X hN) hni ih
abbrev Ce:List Value:=[.type "ValueError",.type "Exception",.type "BaseException",.type "object"]
section
variable {q:Program} {loose:List Str} {mean:ExcName->Option Value} {mg mb:Str->Option Value} {c:Str}
theorem Fe{base:Heap}(T:Top q loose mean mg mb h)(hs:specOf q c=some ("ValueError.__new__",Ce))(X:(aB h).In base):∃C,EW mg base c C:=by
 obtain⟨C,O,_⟩:=T.ownAt hs;have O:=O.own;obtain⟨bm,N,nm,q',bs,hdct,sn,sub,ab,col,dd,k0,k1,k2,k3,k5,mN,hC,hN,hni,T'⟩:=O.obj;exact⟨C,⟨O.bound,bm,N,nm,q',bs,hdct,sn,sub,ab,col,dd,k0,k1,k2,k3,k5,mN,vA (λvs z=>by cases z) X hC,zW X hN,hni,AJ X T'⟩⟩
theorem vb{cs ns:List Str}{tab:List (Option (List (Option Bool)))}(Y:pO h cs ns=tab){i:Nat}(hi:cs[i]?=some c){r:List (Option Bool)}(hr:tab[i]?=some (some r)):kH h ns c=some r:=by
 subst Y;unfold pO at hr;rw[Qg,hi] at hr;exact Option.some.inj hr
theorem rY{ns:List Str}{r:List (Option Bool)}(e:kH h ns c=some r):∃C cd,clsAt h c=some (C,cd)/\cH h "__getattribute__" cd.mro=some (some (.builtin "BaseException.__getattribute__"))/\cH h "__getattr__" cd.mro=some none/\cH h "__class__" cd.mro=some (some (.builtin "object.__class__"))/\
  cd.mro.contains (.type "object")=true/\cd.mro.contains (.type "BaseException")=true/\cd.mro.contains (.type "ValueError")=true/\cd.mro.contains (.ref C)=true/\r=ns.map (isAt h cd):=by
 unfold kH at e;obtain⟨⟨C,cd⟩,e1,e2⟩:=Sd.mp e;dsimp only at e2
 split at e2
 ·rename_i hh;simp only[Qw] at hh;cases e2;exact⟨C,cd,e1,Rr.mp hh.1.1.1.1.1.1,Rr.mp hh.1.1.1.1.1.2,Rr.mp hh.1.1.1.1.2,hh.1.1.1.2,hh.1.1.2,hh.1.2,hh.2,rfl⟩
 ·cases e2
theorem zX{C:Addr}{cd:ClassData}{d:Option Addr}{sl:Array (Option Value)}(lk:(aB h).lookup C=some ⟨.type "type",d,.cls cd,sl⟩){v:Value}{b:Bool}(e:cd.mro.contains v=b)(hn:cd.mro.contains (.type "object")=true):mroIn (aB h) C v=some b:=by
 have hc:clsIn (aB h) C=some cd:=by unfold clsIn;rw[lk]
 unfold mroIn;rw[hc];show(if cd.mro.isEmpty then none else some (cd.mro.contains v))=some b;rw[P7 (λz=>by rw[List.isEmpty_iff.mp z] at hn;cases hn),e]
theorem mg_of{mg:Str->Option Value}{n:Str}{v:Value}(g:h.Ns mainGlobals mg)(e:h.nsMap mainGlobals n=some v):mg n=some v:=by
 obtain⟨o,es,ep,g1,g2,_,g3⟩:=g;rw[<-g3 n,<-e];unfold Heap.nsMap;rw[g1];dsimp only;rw[g2]
theorem MD{tb:List (Str×List Str)}{ns:List Str}(T:Top q loose mean mg mb h)(Y:pO h (tb.map (·.1)) ns=tb.map λp=>some (ns.map λn=>some (decide (n∈p.2)))):EX (aB h) mg tb ns:=by
 refine⟨λc as e=>?_⟩;obtain⟨i,hi⟩:=Tr (QB e);have hr:=vb (c:=c) Y (i:=i) (by rw[Qg,hi];rfl) (r:=ns.map λn=>some (decide (n∈as))) (by rw[Qg,hi];rfl);obtain⟨D,cd,hc,a1,a2,a3,b1,b2,b3,b4,hn⟩:=rY hr;obtain⟨g,d,sl,lk⟩:=qb hc;have mD:=mg_of T.g g;have hcl:clsIn (aB h) D=some cd:=by unfold clsIn;rw[lk]
 have fi:∀{nm:Str} {r:Option Value},cH h nm cd.mro=some r->findIn (aB h) (.ref D) nm=some r:=λ{nm r} e=>by
  unfold findIn;dsimp only;rw[lk];exact uC e
 refine⟨D,mD,My T.g mD,⟨fi a1,fi a2,fi a3,zX lk b1 b1,zX lk b2 b1⟩,by rw[hcl];rfl,λn hnn=>?_,?_⟩
 ·have hx:=U2.mp hn n hnn;obtain⟨⟨N,cdN⟩,e1,e2⟩:=Qo.mp hx.symm;obtain⟨gN,dN,slN,lkN⟩:=qb e1;refine⟨N,mg_of T.g gN,?_⟩;dsimp only at e2;unfold kitOne
  by_cases z:N=D
  ·subst z;rw[P0 (by simp),<-e2,b4]
  ·rw[P7 (by simpa using λy=>z y.symm)];unfold kitCls;dsimp only;rw[P0 (by
    have:clsIn (aB h) N=some cdN:=by unfold clsIn;rw[lkN]
    have t2:typeIn (aB h) (.ref N)=some (.type "type"):=by unfold typeIn;dsimp only;rw[lkN];rfl
    rw[this,t2];rfl)]
   rw[<-e2];exact zX lk rfl b1
 ·unfold kitOne;rw[P7 (by simp)];unfold kitCls;dsimp only;rw[P0 (by decide+kernel)];exact zX lk b3 b1
theorem Lf{tb:List (Str×List Str)}{ns:List Str}{i1 i2:String}{CS:Addr}(T:Top q loose mean mg mb h)(Y:pO h (tb.map (·.1)) ns=tb.map λp=>some (ns.map λn=>some (decide (n∈p.2))))(mS:mg "StuckError"=some (.ref CS))(hS:specOf q "StuckError"=some (i2,Ce))(hn:("StuckError":Str)∈ns)
  (hs:specOf q c=some (i1,Ce)) (he:∃as,tb.lookup c=some as/\("StuckError":Str)∈as):XC (aB h) mg CS c:=by
 obtain⟨as,e,hm⟩:=he;obtain⟨i,hi⟩:=Tr (QB e);have hr:=vb (c:=c) Y (i:=i) (by rw[Qg,hi];rfl) (r:=ns.map λn=>some (decide (n∈as))) (by rw[Qg,hi];rfl);obtain⟨D,cd,hc,_,_,_,_,b2,_,_,hnn⟩:=rY hr;obtain⟨g,d,sl,lk⟩:=qb hc;have mD:=mg_of T.g g;have hx:=U2.mp hnn _ hn;obtain⟨⟨N,cdN⟩,e1,e2⟩:=Qo.mp hx.symm;obtain⟨gN,_⟩:=qb e1;have mN:=mg_of T.g gN;rw[mS] at mN;cases mN;obtain⟨C1,O1,_⟩:=T.ownAt hs;obtain⟨C2,O2,_⟩:=T.ownAt hS;have z1:=O1.bound;rw[mD] at z1;cases z1;have z2:=O2.bound;rw[mS] at z2;cases z2;obtain⟨bm1,N1,nm1,q1,bs1,hd1,sn1,sb1,ab1,col1,dd1,k10,k11,k12,k13,k15,mN1,hC1,_,_,T1⟩:=O1.obj;obtain⟨bm2,N2,nm2,q2,bs2,hd2,sn2,sb2,ab2,col2,dd2,k20,k21,k22,k23,k25,mN2,hC2,_,_,T2⟩:=O2.obj;have l1:=bE hC1 (gM λvs z=>by cases z);have l2:=bE hC2 (gM λvs z=>by cases z);rw[lk] at l1;refine⟨D,bm1,bm2,mD,My T.g mD,λh' X=>⟨⟨_,_,_,_,_,_,_,_,_,_,_,_,_,_,_,_,X _ _ (bE hC1 (gM λvs z=>by cases z))⟩,⟨_,_,_,_,_,_,_,_,_,_,_,_,_,_,_,_,X _ _ l2⟩⟩,T2.tail.hasType (by decide),?_⟩;have ec:cd.mro=.ref D::bm1:=by injection l1 with l1;injection l1 with _ _ l1 _;injection l1 with l1;rw[l1]
 rw[<-ec];dsimp only at e2;rw[e2];exact Qx hm
theorem Gs{n:Str}{st:Stmt}{f:Addr}{fd:FuncData}(T:Top q loose mean mg mb h)(e:(recsOf q).find? (λe=>e.name==n)=some (mh n st))(F:sF (aB h) n n st f fd)(m:mg n=some (.ref f)):∃P,BM (aB h) mg fd.code P:=by
 obtain⟨a,o,fd',c,P,m',ho,hd,hcd,hi,ht⟩:=T.tab _ (Uj e);have m':mg n=some (.ref a):=m';rw[m] at m';cases m';obtain⟨oc,od,kV,doc,pm,an,cdv,ct,osl,rfl,lk,_⟩:=F.ex;have lk2:=bE ho (gM λvs z=>by rw[hd] at z;cases z);rw[lk] at lk2;cases lk2;cases hd;obtain⟨oC,vs,file,tf,flags,tg,inF,text,tt,op,f1,f2,f3,f4,f5,f6,f7,_,_,_,f11⟩:=hi;obtain⟨⟨oC',vs',g1,g2,g3,g4⟩,hP⟩:=ht;rw[f1] at g1;cases g1;rw[f2] at g3;cases g3;obtain⟨bm,ob,b1,b2,b3,b4,b5,b6⟩:=T.bmain;refine⟨P,⟨c,oC,vs,file,tf,flags,tg,inF,text,tt,hcd,bE f1 (D5 f2 g4),g2,f2,g4,f3,f4,f5,f6,f7,f11⟩,?_,⟨bm,ob,b1,b2,bE b3 (gM λvs z=>by rw[b6] at z;cases z),b4,b5,b6⟩⟩;have hin:.ref P∈yq h:=by
  refine Rt.mpr ⟨c,Q1.mpr (Qf f1),?_⟩;obtain⟨k0,k1,k2,k3⟩:=oC;dsimp only at g2 f2;subst g2 f2;simp[qa,f1,g4,hP,lj]
 unfold aB;have hs:((tq h).lookup mainGlobals).isSome=true:=by
  obtain⟨o,es,ep,g1,g2,_⟩:=T.g;rw[<-j8,bE g1 (gM λvs z=>by rw[g2] at z;cases z)];rfl
 rw[P0 hs];exact⟨_,Qm _ (Qd.mpr rfl),by simpa using hin⟩
end
end
section
variable {h h':Heap}
theorem DH(k:Sub h h'){n:Str}{v:Value}(e:h.nsMap mainGlobals n=some v):h'.nsMap mainGlobals n=some v:=by
 unfold Heap.nsMap at e ⊢
 split at e
 ·rename_i o ho;rw[k _ _ ho];exact e
 ·cases e
theorem xV(k:Sub h h'){c:Str}{p:Addr×ClassData}(e:clsAt h c=some p):clsAt h' c=some p:=by
 unfold clsAt at e ⊢
 split at e
 ·rename_i C' hg;rw[DH k hg];dsimp only
  split at e
  ·rename_i d cd' sl ho;rw[k _ _ ho];exact e
  ·cases e
 ·cases e
theorem Bc(k:Sub h h'){ns:Addr}{name:Str}{r:Option Value}(e:tW h ns name=some r):tW h' ns name=some r:=by
 unfold tW at e ⊢
 split at e
 ·rename_i c d es n sl ho;rw[k _ _ ho];exact e
 ·cases e
theorem Dw(k:Sub h h'){v:Value}{name:Str}{r:Option Value}(e:jF h name v=some r):jF h' name v=some r:=by
 cases v with
 | ref a=>
  unfold jF at e ⊢;dsimp only at e ⊢
  split at e
  ·rename_i c d cd sl ho;rw[k _ _ ho];exact Bc k e
  ·cases e
 | _=>exact e
theorem jd(k:Sub h h'){name:Str}{r:Option Value}:∀{vs:List Value},cH h name vs=some r->cH h' name vs=some r
 | [],e=>e
 | c::vs,e=>by
  unfold cH at e ⊢;cases q:jF h name c with
  | none=>rw[q] at e;cases e
  | some w=>
   rw[q] at e;rw[Dw k q];cases w with
   | some v=>exact e
   | none=>exact jd k (vs:=vs) e
theorem CL(k:Sub h h'){ns:List Str}{c:Str}{bs:List Bool}(e:kH h ns c=some (bs.map some)):kH h' ns c=some (bs.map some):=by
 obtain⟨C,cd,hc,a1,a2,a3,b1,b2,b3,b4,hn⟩:=rY e;unfold kH;rw[xV k hc];show(if _ then some (ns.map (isAt h' cd)) else none)=_;rw[P0 (by rw[jd k a1,jd k a2,jd k a3,b1,b2,b3,b4];rfl)];congr 1;rw[hn];refine Tz λn hnn=>?_;have:∃b,isAt h cd n=some b:=by
  have:isAt h cd n∈bs.map some:=by rw[hn];exact Tx hnn
  obtain⟨b,_,e⟩:=QG.mp this;exact⟨b,e.symm⟩
 obtain⟨b,eb⟩:=this;unfold isAt at eb ⊢;obtain⟨p,e1,e2⟩:=Qo.mp eb;rw[e1,xV k e1]
abbrev xK(tb:List (Str×List Str))(ns:List Str):List (Option (List (Option Bool))):=tb.map λp=>some (ns.map λn=>some (decide (n∈p.2)))
theorem ug(k:Sub h h'){ns:List Str}:∀{tb:List (Str×List Str)},pO h (tb.map (·.1)) ns=xK tb ns->pO h' (tb.map (·.1)) ns=xK tb ns
 | [],_=>rfl
 | p::tb,e=>by
  obtain⟨e1,e2⟩:=List.cons.inj (show kH h ns p.1::pO h (tb.map (·.1)) ns=some (ns.map λn=>some (decide (n∈p.2)))::xK tb ns from e);have e1:kH h ns p.1=some ((ns.map λn=>decide (n∈p.2)).map some):=by rw[e1,Q9];rfl
  show kH h' ns p.1::pO h' (tb.map (·.1)) ns=_;rw[ug k e2,CL k e1,Q9];rfl
end
structure Dx(P:Program)(w:World)(K:FR)(mg:Str->Option Value)(base:Heap)(nm:Str)(k:Nat)(ps:List Str)(n:Nat)(F:Xn):Prop where
 ex:∃(f:Addr)(fd:FuncData),eZ P w K mg base (iN P w) k f fd ps (LG K mg n F)/\PySem.W.keepIn K (.ref f)=true/\Binds K fd ps []/\mg nm=some (.ref f)
theorem Hk{q:Program}{loose:List Str}{mean:ExcName->Option Value}{mg mb:Str->Option Value}{h base:Heap}{P:Program}{w:World}{n:Str}{st:Stmt}{k N:Nat}{ps:List Str}{F:Xn}(T:Top q loose mean mg mb h)(e:(recsOf q).find? (λe=>e.name==n)=some (mh n st))
  (ok:∀{f:Addr} {fd:FuncData},sF (aB h) n n st f fd->eZ P w (aB h) mg base (iN P w) k f fd ps (LG (aB h) mg N F)) (hb:∀{f:Addr} {fd:FuncData},sF (aB h) n n st f fd->Binds (aB h) fd ps []:=by walk_at "b"):Dx P w (aB h) mg base n k ps N F:=by
 obtain⟨f,fd,m,Fn⟩:=Ag T e;exact⟨f,fd,ok Fn,Fn.kp,hb Fn,m⟩
end Hd
namespace Sm
open PySem L2 PySem.Spec PySem.W PySem.Calls PyProof.Rows
section
variable {X:Cx} {E:XK} {e:Expr} {es:List Expr} {m:AM} {nm:Str} {k k' n:Nat} {ps:List Str} {F:Xn} {p pos:Pos}
theorem O6(d:Hd.Dx X.prog X.w X.K X.mg X.base nm k ps n F)(hr:cM k' X.A)(hp:Passes (iN X.prog X.w) X E)(ha:SA X (e::es) m)(hk:k<=k':=by decide)(hl:lE m n:=by repeat(first | exact aA | refine ag ?_))(hg:Gl X nm:=by unfold Gl;ac_nf)(hdb:(nm==("__debug__":Str))=false:=by ac_nf)(he:starEach (e::es) X.env=(false,eval e X.env)::starEach es X.env:=by ac_nf)(hpl:(backTo pos (starEach es X.env)).any (·.1)=false:=by ac_nf):
  XE X E (.Call (.Name nm p) (e::es) [] pos) (K6 F m):=by
 obtain⟨f,fd,G,kf,bf,mf⟩:=d.ex;exact Fd G hp (hr.mono hk) hg mf kf bf ha hl hdb he hpl
end
theorem NF{X:Cx}{E:XK}{e tg:Expr}{pos:Pos}{x:XM}{g:GM}(he:XE X E e x)(hg:SG X tg g)(hs:swapsWithSole [tg] e pos.line X.env=pure false:=by ac_nf)(hw:swappedStores [tg] e X.env=pure none:=by ac_nf)(h1:(assignEach [tg] X.env).map (·.2)=[assign tg X.env]:=by ac_nf):XS X E (.Assign [tg] e pos) x:=HK he hs hw h1 hg
section
variable {P:Program} {w:World} {K:FR} {mg:Str->Option Value} {base:Heap} {N:List Str} {qual:Str} {scope:Scope} {f:Addr} {cd:Value} {A:Around} {outer:List Env} {s₀:Shared} {H₀:Hp} {E:XK} {cl:List (Str×Addr)}
theorem Ga:Passes (iN P w) (GH (iN P w) P w K mg base N qual scope cl f cd A outer s₀ H₀ E) E:=zT (fn:=λ_=>false) (cl:=cl)
theorem O5{nm:Str}{a:Expr}{np cpos pos:Pos}{ma:EM}(O:∃C,EW mg base nm C)(ha:SE (ft (iN P w) P w K mg base N qual scope f cd A outer s₀ H₀ E) a ma)(hg:Gl (ft (iN P w) P w K mg base N qual scope f cd A outer s₀ H₀ E) nm:=by unfold Gl;ac_nf)
  (he:starEach [a] (envOfC qual scope s₀.heap.objs.size f cd)=[(false,eval a (envOfC qual scope s₀.heap.objs.size f cd))]:=by ac_nf) (hdb:(nm==("__debug__":Str))=false:=by ac_nf):
  XS (ft (iN P w) P w K mg base N qual scope f cd A outer s₀ H₀ E) E (.Raise (some (.Call (.Name nm np) [a] [] cpos)) none pos) (ny nm (ah ma aR)):=by
 obtain⟨C,O⟩:=O;exact BW O hg ha he hdb
end
section
variable {P:Program} {w:World} {K:FR} {mg:Str->Option Value} {base:Heap} {x qual:Str} {st:Stmt} {f:Addr} {fd:FuncData} {N ps:List Str} {k:Nat} {body:SM}
theorem Gy(F:sF K x qual st f fd)(hL:∃Pt,BM K mg fd.code Pt)(Sc:aE N ps (ak st))(hb:∀(cdv:Value)(A:Around)(outer:List Env)(s:Shared)(H:Hp)(E:XK),(∃Pt,BM K mg cdv Pt)->cM k (A.deeper (envOfC qual (ak st) s.heap.objs.size f cdv))->Ay (ft nv P w K mg base N qual (ak st) f cdv A outer s H E).DI (dy st) body):
  eZ P w K mg base nv (k+1) f fd ps (AO K ps.length (lG N.length body)):=by
 obtain⟨oc,od,kV,doc,pm,an,cdv,ct,osl,rfl,lk,hcd⟩:=F.ex;refine D2 lk hcd Sc (λvs H Q E h=>?_) λA outer s H vs Q E hr h=>?_
 ·obtain⟨ρ,h,ds,d,h',S,r,hl,_⟩:=h;rw[r.length];exact hl
 ·obtain⟨ρ,h,ds,d,h',S,r,hl,e,q⟩:=h;refine⟨_,wF.DI (hb cdv A outer s H E hL hr),?_⟩;obtain⟨⟨fl,δ1,h1⟩,e1,e2⟩:=bA e;refine⟨ρ,entry N.length ds,h,fl,δ1,h1,cJ.entry N r,S,e1,λρ1 H1 T1 S1=>?_⟩;cases fl with
  | nx=>cases e2;exactλσ' R'=>q _ _ ⟨ρ1,T1,S1,.cw⟩
  | rt d=>cases e2;exactλv r=>q _ _ ⟨ρ1,T1,S1,r⟩
  | bk=>cases e2
  | ct=>cases e2
end
structure Ph(P:Program)(w:World)(K:Frag)(mg:Str->Option Value)(base:Heap)(fn:Str)(mt:SM)(cls:List Str):Prop where
 ex:∃(fr CS:Addr)(fd:FuncData)(st:Stmt)(cn cau en mk:Str)(tail:List Stmt)(pa pb' pc p1 p2 p3 p4 p5 p6 p7 p8 p9:Pos)(j:Nat),sF K fn fn st fr fd/\aE [cn,cau,en,mk] [cn] (ak st)/\mg fn=some (.ref fr)/\keepIn K (.ref fr)=true/\
  (∀(s:Shared)(u:Value),BindsTo s fd ⟨[u],[]⟩ [(cn,u)])/\
  (dy st=.Assign [.Name cau pa] (.Constant .none j pb') pc::.Try [.Expr (.Call (.Name cn p1) [] [] p2) p3] [.ExceptHandler (some (.Name "StuckError" p4)) (some en) [.Assign [.Name cau p5] (.Name en p6) p7] p8] [] [] p9::tail)/\
  ((ak st).names.lookup cn=some .local/\(ak st).names.lookup cau=some .local/\(ak st).names.lookup en=some .local/\(ak st).names.lookup ("StuckError":Str)=some .globalImplicit)/\
  (mg "StuckError"=some (.ref CS)/\∀c∈cls,XC K mg CS c)/\
  ((cn==("__debug__":Str))=false/\(cn==("__classdict__":Str))=false/\(en==("__debug__":Str))=false/\(en==("__classdict__":Str))=false)/\
  ((∀env,swapsWith (.Constant .none j pb') (some (.Name cau pa)) pc.line env=pure false)/\(∀env,swapsWith (.Name en p6) (some (.Name cau p5)) p7.line env=pure false)/\(∀env,swapsWith (.Call (.Name cn p1) [] [] p2) none p3.line env=pure false))/\
  (∀(k:Nat)(cdv:Value)(A:Around)(outer:List Env)(s:Shared)(H:Hp)(E:XK),cM k (A.deeper (envOfC fn (ak st) s.heap.objs.size fr cdv))->Ay (ft nv P w K mg base [cn,cau,en,mk] fn (ak st) fr cdv A outer s H E).DI tail mt)
theorem MQ(fd:FuncData)(h:fd.params={posonlyargs:=[],args:=[],vararg:=none,kwonlyargs:=[],kw_defaults:=[],kwarg:=none,defaults:=[]})(h2:fd.defaults=.none)(h3:fd.kwdefaults=.none):bindArgs fd ⟨[],[]⟩=pure []:=by
 cases fd;dsimp only at h h2 h3;subst h h2 h3;rfl
theorem N3{X:Cx}{fn:Str}{mt:SM}{k k':Nat}{x:XM}{m:EM}{Nl:List Str}{caps:List (Option Nat)}{scope:Scope}{params:Arguments}{body:Expr}{cls:List Str}{pn lpos pos:Pos}{cdv:Value}(R:Ph X.prog X.w X.K X.mg X.base fn mt cls)(hL:∃Pt,BM X.K X.mg cdv Pt)
  (hr:cM k' X.A) (hk:k+2<=k') (C:bG X Nl caps scope)
  (hx:∀(q:Str)(cd:Value)(f:Addr)(cl:List (Str×Addr)) (A:Around) (outer:List Env) (s:Shared) (H:Hp) (E:XK),cM k (A.deeper (envX q scope s.heap.objs.size f cd cl))->XE (GH (iN X.prog X.w) X.prog X.w X.K X.mg X.base Nl q scope cl f cd A outer s H E) E body x)
  (hm:∀(q:Str)(cd:Value)(f:Addr)(cl:List (Str×Addr)) (A:Around) (outer:List Env) (s:Shared) (H:Hp) (E:XK),cM k (A.deeper (envX q scope s.heap.objs.size f cd cl))->SE (GH (iN X.prog X.w) X.prog X.w X.K X.mg X.base Nl q scope cl f cd A outer s H E) body m)
  (hcd:X.env.code=cdv:=by ac_nf) (hd:defaultsOf params X.env=([],[]):=by ac_nf) (hp:∀fd:FuncData,fd.params=params->fd.defaults=.none->fd.kwdefaults=.none->bindArgs fd ⟨[],[]⟩=pure []:=by exact MQ)
  (LS:sD Nl scope:=by exact⟨rfl,rfl,rfl,by decide+kernel⟩) (hg:Gl X fn:=by unfold Gl;ac_nf) (hdb:(fn==("__debug__":Str))=false:=by ac_nf) (hst:starEach [.Lambda params body scope lpos] X.env=[(false,eval (.Lambda params body scope lpos) X.env)]:=by ac_nf):
  SE X (.Call (.Name fn pn) [.Lambda params body scope lpos] [] pos) (iF cls caps mt x m):=by
 obtain⟨fr,CS,fd,st,cn,cau,en,mk,tail,pa,pb',pc,p1,p2,p3,p4,p5,p6,p7,p8,p9,j,F,Sc,hmf,hkf,hb,hbody,⟨l0,l1,l2,lg⟩,⟨hms,hC⟩,⟨n0,n0',n2,n2'⟩,⟨s1,s2,s3⟩,ht⟩:=R.ex;obtain⟨Pt,L⟩:=hL;rw[<-hcd] at L;exact yB F Sc hmf hkf hb hbody l0 l1 l2 lg hms hC n0 n0' n2 n2' s1 s2 s3 (λcdv A outer s H E hr=>ht _ cdv A outer s H E hr) (hr.mono hk) L hd hp LS C hx hm hg hdb hst
section
variable {X:Cx} {a:Expr} {m:EM} {tb:List (Str×List Str)} {ns:List Str} {n:Str} {pn pb pos:Pos}
theorem CB(E:EX X.K X.mg tb ns)(hm:X.mg "isinstance"=none)(ha:SE X a m)(h0:tb.isEmpty=false:=by ac_nf)(hn:n∈ns:=by decide+kernel)(hgn:Gl X n:=by unfold Gl;ac_nf)(hg:Gl X "isinstance":=by unfold Gl;ac_nf)(hd:(n==("__debug__":Str))=false:=by ac_nf)
  (he:starEach [a,.Name n pb] X.env=(false,eval a X.env)::starEach [.Name n pb] X.env:=by ac_nf) (he2:starEach [.Name n pb] X.env=[(false,eval (.Name n pb) X.env)]:=by ac_nf) (hpl:(backTo pos (starEach [.Name n pb] X.env)).any (·.1)=false:=by ac_nf):SE X (.Call (.Name "isinstance" pn) [a,.Name n pb] [] pos) (ot tb n m):=
 Iv E ha (by cases tb with | nil=>cases h0 | cons p r=>obtain⟨c0,a0⟩:=p;exact⟨c0,a0,by simp[QD]⟩) hn hgn hg hm hd he he2 hpl
theorem LH(E:EX X.K X.mg tb ns)(hm:X.mg "isinstance"=none)(hmn:X.mg "ValueError"=none)(ha:SE X a m)(hv:∀c as,tb.lookup c=some as->decide (("ValueError":Str)∈as)=true)(hgn:Gl X "ValueError":=by unfold Gl;ac_nf)(hg:Gl X "isinstance":=by unfold Gl;ac_nf)
  (he:starEach [a,.Name "ValueError" pb] X.env=(false,eval a X.env)::starEach [.Name "ValueError" pb] X.env:=by ac_nf) (he2:starEach [.Name "ValueError" pb] X.env=[(false,eval (.Name "ValueError" pb) X.env)]:=by ac_nf) (hpl:(backTo pos (starEach [.Name "ValueError" pb] X.env)).any (·.1)=false:=by ac_nf):
  SE X (.Call (.Name "isinstance" pn) [a,.Name "ValueError" pb] [] pos) (ot tb "ValueError" m):=Fx E ha hv hgn hmn hg hm he he2 hpl
theorem Px(h:tb.all (λp=>decide (("ValueError":Str)∈p.2))=true):∀c as,tb.lookup c=some as->decide (("ValueError":Str)∈as)=true:=λc as e=>RI.mp h _ (QB e)
end
end Sm
namespace Hd
open PySem PySem.W PySem.Spec PyProof.Rows L2 Sm
theorem N9{q:Program}{loose:List Str}{mean:ExcName->Option Value}{mg mb:Str->Option Value}{h:Heap}{tb:List (Str×List Str)}{ns cls:List Str}(T:Top q loose mean mg mb h)(Y:pO h (tb.map (·.1)) ns=xK tb ns)(hS:specOf q "StuckError"=some ("ValueError.__new__",Ce))(hn:("StuckError":Str)∈ns)
  (hc:∀c∈cls,specOf q c=some ("ValueError.__new__",Ce)/\∃as,tb.lookup c=some as/\("StuckError":Str)∈as):∃CS,mg "StuckError"=some (.ref CS)/\∀c∈cls,XC (aB h) mg CS c:=by
 obtain⟨CS,O,_⟩:=T.ownAt hS;exact⟨CS,O.bound,λc hcm=>Lf T Y O.bound hS hn (hc c hcm).1 (hc c hcm).2⟩
end Hd
namespace Sb
open PySem L2 PySem.Spec PyProof.Rows
open Sem (wp)
section
variable {prog:Program} {w:World} {A:Around} {R:Result->Shared->Prop} {I:Addr} {fp wr:List Addr} {n:Nat} {P:Nat->Value->Prop} {St:Nat->Heap->Prop} {kw:List (Str×Value)}
end
section
variable {prog:Program} {w:World} {A:Around} {E:Value->Shared->Prop} {s:Shared} {l:Addr} {xs:Array (Int×Tok)}
end
section
variable {X:Cx}
end
end Sb
namespace Sm
open PySem L2 PySem.Spec PyProof.Rows
end Sm
namespace L2
open PySem PySem.Spec PyProof.Rows Builtin.Str
theorem Bf{X:Cx}:yi X "str.startswith" (λx vs H Q=>∃p y,x=.str p/\vs=[.str y]/\Q (.bl (Txt.startswith p y)) H):=by
 intro pins s σ H x xs v us Q I rx rs h;obtain⟨p,y,rfl,rfl,q⟩:=h;obtain⟨t,rfl⟩:=rx;obtain⟨u,rfl,ru⟩:=vals1 rs;obtain⟨t',rfl⟩:=ru;exact SC.startswith ⟨.bl _,H,I,rfl,q⟩
end L2
namespace Sm
open PySem L2 PySem.Spec PyProof.Rows
noncomputable def zY:zv:=λd ds h=>match d,ds with
 | .str x,[.str y]=>some (.bl (Txt.startswith x y),h)
 | _,_=>none
theorem Bh{X:Cx}:yi X "str.startswith" (rM X.K zY):=by
 intro pins s σ H x xs v us Q I rx rs hh;obtain⟨ρ,h,d,ds,z,h',S,rd,l,ee,k⟩:=hh;cases rd <;> first |(exact bN ee) | skip
 match ds,l,ee with
 | [],_,ee=>cases ee
 | y::_::_,_,ee=>cases y <;> exact bN ee
 | [y],l,ee=>
  obtain⟨v1,rfl,ry⟩:=rep1 l;cases ry <;> first |(exact bN ee) | skip
  cases ee;exact Bf pins s σ H _ _ v us Q I rx rs ⟨_,_,rfl,rfl,k _ _ (.here S (.bl _))⟩
noncomputable def qk(ws:W)(g:GM)(x:XM)(ms:SM):List D->DS->MH->Option (Str×MH)
 | [],_,_=>none
 | d::r,δ,h=>if mV ws h then(g d δ h).bind λq=>match x q.1 q.2 with
  | some p=>some p
  | none=>(ms q.1 q.2).bind λy=>match y.1 with
   | .nx=>qk ws g x ms r y.2.1 y.2.2
   | .ct=>qk ws g x ms r y.2.1 y.2.2
   | _=>none
  else none
noncomputable def HN(i:IM)(g:GM)(x:XM)(ms:SM):XM:=λδ h=>(i δ h).bind λp=>qk p.2.1 g x ms p.1 δ p.2.2
section
variable {X:Cx} {E:XK} {tg iter:Expr} {body:List Stmt} {pos:Pos} {mi:IM} {g:GM} {x:XM} {ms:SM} {σ:L2.St} {H:Hp}
theorem FH{D:Ends}(hh:HA X.K X.mg E (HN mi g x ms) σ H):Ig (Nu X.K mi) (K7 X.K g) (λD σ H=>E6 X.K ms D σ H\/HA X.K X.mg E x σ H) D σ H:=by
 obtain⟨ρ,δ,h,c,h',R,S,e,k⟩:=hh;obtain⟨⟨xs,ws,h1⟩,e1,e2⟩:=bA e;refine⟨ρ,δ,h,xs,ws,h1,R,S,e1,λJ ρ1 H1 T1 S1 It=>?_⟩;refine⟨λi m σ2 H2=>∃ρ2 δ2 h2,m=xs.length-i/\i<=xs.length/\cY ρ1 H1 ρ2 H2/\cJ X.K ρ2 H2 σ2 δ2/\bL X.K ρ2 h2 H2/\qk ws g x ms (xs.drop i) δ2 h2=some (c,h'),⟨_,ρ1,δ,h1,rfl,RJ _,.refl _ _,R.mono T1,S1,e2⟩,?_⟩;rintro i m σ2 H2 ⟨ρ2,δ2,h2,rfl,hi,T2,R2,S2,e3⟩;cases q:xs.drop i with
 | nil=>rw[q] at e3;cases e3
 | cons d r=>
  rw[q] at e3;unfold qk at e3
  by_cases hc:mV ws h2=true
  ·rw[P0 hc] at e3;have hx:xs[i]?=some d:=by
    have:=congrArg (λl=>l[0]?) q
    simpa using this
   have hlt:i < xs.length:=(PV.mp hx).1;have hr:xs.drop (i+1)=r:=by
    have:=congrArg List.tail q
    simpa using this
   obtain⟨⟨δ3,h3⟩,e4,e5⟩:=bA e3;obtain⟨hgo,hy⟩:=(It.run ρ2 H2 h2 T2 S2 hc i).2 d hx;refine .inr ⟨hgo,λσ5 H5=>∃ρ5 δ5 h5,cY ρ2 H2 ρ5 H5/\bL X.K ρ5 h5 H5/\cJ X.K ρ5 H5 σ5 δ5/\qk ws g x ms r δ5 h5=some (c,h'),λσ5 H5 ⟨ρ5,δ5,h5,T5,S5,R5,e8⟩=>⟨xs.length-(i+1),by lia,ρ5,δ5,h5,rfl,hlt,T2.trans T5,R5,S5,by rw[hr];exact e8⟩,λv H3 y3=>?_⟩;obtain⟨T3,S3,r3⟩:=hy v H3 y3;refine⟨ρ2,δ2,h2,d,δ3,h3,R2.mono T3,S3,r3,e4,λρ4 H4 σ4 T4 S4 R4=>?_⟩;dsimp only at e5;cases qx:x δ3 h3 with
   | some p=>
    rw[qx] at e5;cases e5;exact .inr ⟨ρ4,δ3,h3,c,h',R4,S4,qx,k.step (T1.trans (T2.trans (T3.trans T4)))⟩
   | none=>
    rw[qx] at e5;obtain⟨⟨f4,δ4,h4⟩,e6,e7⟩:=bA e5;refine .inl ⟨ρ4,δ3,h3,f4,δ4,h4,R4,S4,e6,λρ5 H5 T5 S5=>?_⟩;have T25:cY ρ2 H2 ρ5 H5:=T3.trans (T4.trans T5);cases f4 with
    | nx=>exactλσ' R'=>⟨ρ5,δ4,h4,T25,S5,R',e7⟩
    | ct=>exactλσ' R'=>⟨ρ5,δ4,h4,T25,S5,R',e7⟩
    | bk=>cases e7
    | rt v=>cases e7
  ·rw[P7 hc] at e3;cases e3
theorem HJ(hp:PassesOwn (model X.prog X.w) X.A X.env X.xe)(hc:X.calm=true)(hi:SI X tg iter mi)(hg:SG X tg g)(hb:Ay X body ms)(hx:EV X E body x)(hs:∀x,foldedSetIterable iter X.env x=pure x:=by intro _;ac_nf):XS X E (.For tg iter body [] pos) (HN mi g x ms):=
 (Di (tb:=λD σ H=>E6 X.K ms D σ H\/HA X.K X.mg E x σ H) hp hc hi hg (λpins s σ H D I h=>h.elim (hb pins s σ H D I) (hx pins s σ H D I)) hs).imp λ_ _ _=>FH
end
end Sm
namespace L2
open PySem PySem.Spec PyProof.Rows
theorem x6{X:Cx}:fY X (.builtin "sorted") (λxs H Q=>∃a ss,xs=[.ref a]/\ko X.K H a (ss.map V.int)/\ss.length < 64/\∀l,H l=none->Q (.ref l) (upd H l (.lst ((dC ss).map V.int)))):=by
 intro pins s σ H xs us Q I r h;obtain⟨a,ss,rfl,ha,h64,q⟩:=h;obtain⟨u,rfl,ru⟩:=vals1 r;cases ru;obtain⟨its,rv,p,hz⟩:=I.tuple ha;have hS:=intsAre_of rv;have hlen:its.length=ss.length:=by have:=rv.length;rw[PU] at this;exact this.symm
 obtain⟨o,e1,e2,n,e3⟩:=id p;refine Calls.call_function_entry kind_sorted plain_sorted entry_sorted (args_sorted1 _) ?_;unfold Builtin.«sorted»;refine PY (m:=checkCount "sorted" 1 1 _) (Qh ?_);refine PY (wpAny_collect_seq a (.inr rfl) e1 e2 e3 (λh1 k1=>?_) (by simp;rw[Rv];lia));refine yz (s:={s with heap:=h1}) hS (by rw[hlen];exact h64) λh' n out hk hl ho=>?_;have hz':((dC ss).map V.int).length<=sizeLine:=by rw[PU,(fh ss).length_eq,Rv];lia
 have I1:Inv X pins σ H {s with heap:=h1}:=I.kept (t':=s.toks) k1;refine⟨.ref h1.objs.size,_,I1.laid (t':=s.toks) (o:=.lst ((dC ss).map V.int)) hk (PZ _) ⟨hz',out.toList,n,jQ ho,?_⟩,rfl,q _ (I1.ba.fresh (PZ _))⟩;rw[hl]
end L2
namespace Sm
open PySem L2 PySem.Spec PyProof.Rows
section
variable {X:Cx}
noncomputable def vK:Fn:=λds h=>match ds with
 | [.tup xs]=>(jm xs).bind λns=>if ns.length < 64 then some (.lv ((dC ns).map D.int),h) else none
 | _=>none
theorem BA:gU X (.builtin "sorted") vK:=by
 intro pins s σ H xs us Q I r hh;obtain⟨ρ,h,ds,z,h',S,l,ee,k⟩:=hh
 match ds,l,ee with
 | [],_,ee=>exact bN ee
 | d::_::_,_,ee=>cases d <;> exact bN ee
 | [d],l,ee=>
  obtain⟨v,rfl,rd⟩:=rep1 l;cases rd <;> first |(exact bN ee) | skip
  rename_i a vs ds ht la _;obtain⟨ns,e3,e4⟩:=bA (show((jm ds).bind λns=>if ns.length < 64 then some (D.lv ((dC ns).map D.int),h) else none)=some (z,h') from ee)
  by_cases c:ns.length < 64
  ·rw[P0 c] at e4;cases e4;have:=rK e3;subst this;have:=qR la;subst this;exact x6 pins s σ H _ us Q I r ⟨a,ns,rfl,ht.sq,c,λl hl=>k _ _ (.lv S (repL_ints' _) hl)⟩
  ·rw[P7 c] at e4;cases e4
end
end Sm
namespace Pg
open PySem Sm L2
abbrev Term:=Str×Int
abbrev Lock:=Str×Term
inductive Row where
 | say (w:Str)
 | call (d:Str) (ts:List Term)
 | within (l:Lock) (b:List Row)
 | all (ls:List Lock) (b:List Row)
 | ask (l:Lock) (b e:List Row)
 | gQ (s t:Term) (a b c:List Row)
 | either (a b:List Row)
 | again (a:List Row)
noncomputable def br(t:Term):D:=.tup [.str t.1,.int t.2]
noncomputable def aL(l:Lock):D:=.tup [.str l.1,br l.2]
mutual
noncomputable def az:Row->D
 | .say w=>.tup [.str "say",.str w]
 | .call d ts=>.tup [.str "call",.str d,.tup (ts.map br)]
 | .within l b=>.tup [.str "within",aL l,.tup (cx b)]
 | .all ls b=>.tup [.str "all",.tup (ls.map aL),.tup (cx b)]
 | .ask l b e=>.tup [.str "ask",aL l,.tup (cx b),.tup (cx e)]
 | .gQ s t a b c=>.tup [.str "by",br s,br t,.tup (cx a),.tup (cx b),.tup (cx c)]
 | .either a b=>.tup [.str "either",.tup (cx a),.tup (cx b)]
 | .again a=>.tup [.str "again",.tup (cx a)]
noncomputable def cx:List Row->List D
 | []=>[]
 | r::rs=>az r::cx rs
end
theorem bK:∀l:List Row,cx l=l.map az
 | []=>by simp[cx]
 | r::rs=>by simp[cx,bK rs]
mutual
noncomputable def cnt:Row->Nat
 | .say _=>1
 | .call _ _=>1
 | .within _ b=>1+aj b
 | .all _ b=>1+aj b
 | .ask _ b e=>1+aj b+aj e
 | .gQ _ _ a b c=>1+aj a+aj b+aj c
 | .either a b=>1+aj a+aj b
 | .again a=>1+aj a
noncomputable def aj:List Row->Nat
 | []=>0
 | r::rs=>cnt r+aj rs
end
theorem iG:∀a b:List Row,aj (a++b)=aj a+aj b
 | [],b=>by simp[aj]
 | r::a,b=>by simp[aj,iG a b];lia
theorem sh:∀a:List Row,a.length<=aj a
 | []=>by simp
 | r::a=>by
  have:=sh a;have:1<=cnt r:=by cases r <;> simp[cnt] <;> lia
  simp[aj];lia
structure Wd where
 names:List Str
 ai:List Str
 params:List (List Str)
def dD(ps:List Str)(t:Term):Prop:=(t.1=Str.ofString ""\/t.1∈ps)/\-99<=t.2/\t.2<=99
def dX(W:Wd)(ps:List Str)(l:Lock):Prop:=l.1∈W.names/\dD ps l.2
mutual
def aJ(W:Wd)(ps:List Str):Nat->Row->Prop
 | _,.say w=>w∈W.names++W.ai
 | _,.call d ts=>(∃(j:Nat)(qs:List Str),W.ai[j]?=some d/\W.params[j]?=some qs/\ts.length=qs.length)/\∀t∈ts,dD ps t
 | n,.within l b=>dX W ps l/\n < 5/\b.length<=12/\bt W ps (n+1) b
 | n,.all ls b=>(2<=ls.length/\ls.length<=4/\ls.Nodup/\∀l∈ls,dX W ps l)/\n < 5/\b.length<=12/\bt W ps (n+1) b
 | n,.ask l b e=>dX W ps l/\n < 5/\b.length<=12/\e.length<=12/\bt W ps (n+1) b/\bt W ps (n+1) e
 | n,.gQ s t a b c=>dD ps s/\dD ps t/\n < 5/\a.length<=12/\b.length<=12/\c.length<=12/\bt W ps (n+1) a/\bt W ps (n+1) b/\bt W ps (n+1) c
 | n,.either a b=>n < 5/\a.length<=12/\b.length<=12/\bt W ps (n+1) a/\bt W ps (n+1) b
 | n,.again a=>n < 5/\a.length<=12/\bt W ps (n+1) a
def bt(W:Wd)(ps:List Str):Nat->List Row->Prop
 | _,[]=>True
 | n,r::rs=>aJ W ps n r/\bt W ps n rs
end
theorem tV{W:Wd}{ps:List Str}{n:Nat}:∀{a b:List Row},bt W ps n a->bt W ps n b->bt W ps n (a++b)
 | [],b,_,h=>h
 | r::a,b,h,h'=>by
  unfold bt at h;show bt W ps n (r::(a++b));unfold bt;exact⟨h.1,tV h.2 h'⟩
theorem jX{W:Wd}{ps:List Str}{n:Nat}:∀{a:List Row},bt W ps n a->∀r∈a,aJ W ps n r
 | [],_,_,z=>by cases z
 | r::a,h,x,hx=>by
  unfold bt at h;rcases P5.mp hx with rfl | hx
  ·exact h.1
  ·exact jX h.2 x hx
end Pg
set_option hygiene false in
local macro_rules | `(tactic| ac_rfl) => do {let t <- (("|Sm.sv _|Sm.aM|Sm.ar|Sm.aa ? ?|Sm.ae ? ?|Sm.aH ?|Sm.b9 ?|Sm.sset _ @ ?|Sm.cm ? ? ?|Sm.bP|Sm.six hr ? ?|Sm.gf @ hr ?|Sm.bc|Sm.CH|Sm.G7|Sm.NY ?|Sm.NZ ?|Sm.NX ?|Sm.N0 ?|Sm.NW ?|Sm.stp5 ?|Sm.NV ?|Sm.LF ? ? ?|Sm.bj ? ? ?|Sm.bq|Sm.Jn hr.units|Sm.nS hr.units|Sm.DB|Sm.Mb|Sm.DC|Sm.Hj|Sm.Jm|Sm.os_notN|Sm.Ma hr.units|Sm.DA hr.units|Sm.Dy|Sm.rl|Sm.zG Sm.uG ?|Sm.CF ? ? ?|Sm.zD|Sm.zC ?|Sm.eI ? ?|Sm.kO rfl ?|Sm.bR ? ?|Sm.iR|Sm.sgn _ @|Sm.FC Sm.Eo B.Hw Sm.EF ?|Sm.Iz Sm.mT B.qe Sm.mX ?|Sm.yw ?|Sm.uM ?|Sm.se_if ? ? ?|Sm.jT ?|Sm.kl Sm.iP PySem.F.plainAttrs_list PySem.F.slot_list_append PySem.F.type_list_append Sm.jY ? ?|Sm.LK Sm.iP PySem.F.plainAttrs_list PySem.F.slot_list_pop PySem.F.type_list_pop Sm.JE ?|Sm.lC.lv ?|Sm.lC.ob ?|Sm.N8 ?|Sm.N7 ?|Sm.N6 ?|Sm.N5 ?|Sm.sfl4 ?|Sm.sfl5 ?|Sm.sfl6 ?|Sm.sfl7 ?|Sm.N4 ?|Sm.yu ? ?|Sm.G4 ? ?|Sm.uK ?|Sm.Cs ?|Sm.cS PassesOwn.never rfl ? ? ?|Sm.eP ?|Sm.ss_brk|Sm.FC Sm.Em~rfl B.Hv Sm.EE ?|Sm.FC Sm.Kn~rfl B.MR Sm.Kz ?|Sm.Iz Sm.Ko B.MS Sm.KA ?|Sm.FC Sm.Kp B.MT Sm.KC ?|Sm.LJ ? ? ?|Sm.SW.st ?".splitOn "|").drop 1).toArray.mapM (λl => do {let x <- (l.splitOn " ").toArray.mapM (λz => if z == "?" then `(?_) else if z == "_" then `(_) else if z == "@" then `(‹_›) else(let y := (z.splitOn "~").toArray.map (λw => (Lean.mkIdent w.toName : Lean.TSyntax `term));pure (Lean.Syntax.mkApp y[0]! (y.extract 1 y.size))));`(Lean.Parser.Tactic.tacticSeq| refine $(Lean.Syntax.mkApp x[0]! (x.extract 1 x.size)) <;> ac_rfl)});`(tactic| with_reducible first $[| $t]*)}
local macro_rules | `(tactic| walk_at "v") => `(tactic|(conv => arg 2;whnf))
local macro_rules | `(tactic| walk_at "u") => `(tactic|(walk_at "v";ac_rfl))
namespace Mi
open PySem L2 Sm PySem.Spec PyProof.Rows
local macro_rules | `(tactic| walk_at "b") => `(tactic| first | exactλF => F.binds λ_ _ _ _ _ _ => Hd.u1 (λ_ => rfl) | exactλF => F.binds λ_ _ _ _ _ _ => Hd.u2 (λ_ _ => rfl) | exactλF => F.binds λ_ _ _ _ _ _ => Hd.u3 (λ_ _ _ => rfl) | exactλF => F.binds λ_ _ _ _ _ _ => Hd.u4 (λ_ _ _ _ => rfl) | exactλF => F.binds λ_ _ _ _ _ _ => Hd.u5 (λ_ _ _ _ _ => rfl) | exactλF => F.binds λ_ _ _ _ _ _ => Hd.u6 (λ_ _ _ _ _ _ => rfl) | exactλF => F.binds λ_ _ _ _ _ _ => Hd.u7 (λ_ _ _ _ _ _ _ => rfl))
structure Bs(P:Program)(w:World)(K:FR)(mg:Str->Option Value):Prop where
 wc:mg "ValueError"=none
 MT:mg "abs"=none
 fJ:mg "enumerate"=none
 MS:mg "int"=none
 dz:mg "isinstance"=none
 Hw:mg "len"=none
 EJ:mg "list"=none
 Hv:mg "max"=none
 MR:mg "min"=none
 dQ:mg "range"=none
 su:mg "sorted"=none
 Hu:mg "str"=none
 qe:mg "tuple"=none
 yd:Tab P w K mg "SHAPES" fg
 Ld:EX K mg gz pL
 S_:∃CS,mg "StuckError"=some (.ref CS)/\∀c∈xU,XC K mg CS c
abbrev Rc(x:Str)(s:Stmt):Prop:=(recsOf view).find? (λe=>e.name==x)=some (Hd.mh x s)
abbrev lT:Stmt:=top 20
abbrev my:List Str:=["_law_script"]
theorem sJ:aE ["_law_script"] my (ak lT):=by walk_at "s"
theorem qW:Rc "_law_drawn" lT:=by ac_nf
noncomputable def gc:Fn:=lG 1
  (bu (xM (a3 (ki 0) (xM (EU (a1 (jt v0 wy (wz (ki 63)))))) (ki 0))))
abbrev oK:Stmt:=top 21
abbrev oW:List Str:=["_law_state"]
theorem iS:aE ["_law_state","_law_cells","_law_tour","_law_cell","_law_mixed"] oW (ak oK):=by walk_at "s"
theorem sS:Rc "_law_load" oK:=by ac_nf
noncomputable def jO:Fn:=lG 5
  (aq (aQ 1 (ao aW v0 (ki 1)))
  (aq (aQ 2 (ao aW v0 (ki 2)))
  (aq (fN (ao ax v2 (ki 1)) (pN v0 (ki 2)))
  (aq (aQ 3 (ki 0))
  (aq (gg (aD (ao iD v1 (fX aR))) (aQ 3 (ao aW v1 (ao rP v2 (ay dE (a1 v1))))) cA)
  (gg (nC (aD (ao BP v2 (ay dE (a1 v1)))) (aD (ao MC (ay Kf (a1 v3)) (ao GA (ki 10) (ki 18))))) (fN (ay Kf (a1 v3)) (pN v0 (ki 0))) (aq (aQ 4 (ao rP (ao iE (ao ax (ao ax (ao rP v3 (ki 2305843009213693951)) (ao iE (ao iE (ki 7919) v2) v2)) (ki 11)) (ki 48271)) (ki 2305843009213693951)))
  (aq (aQ 4 (ao rP (ao iE v4 v4) (ki 2305843009213693921)))
  (fN (ao ax (ao rP (ao ax (ao ax (ao iE v4 (ki 69621)) v2) (ki 104729)) (ki 2305843009213693951)) (ao GA (ki 10) (ki 9))) (pN v0 (ki 0)))))))))))
abbrev oI:Stmt:=top 22
abbrev oU:List Str:=["_law_state","_law_many"]
theorem uX:aE ["_law_state","_law_many","_law_found"] oU (ak oI):=by walk_at "s"
theorem sQ:Rc "_law_next" oI:=by ac_nf
noncomputable def aP:Fn:=lG 3
  (aq (gg (aD (ao BP (ao aW v0 (ki 0)) v1)) (fT (ay jO (a1 v0))) cA)
  (aq (aQ 2 (ao rP (ao aW v0 (ki 0)) v1))
  (aq (fN (ao Ea (ao aW v0 (ki 0)) v1) (pN v0 (ki 0)))
  (bu v2))))
abbrev tK:Stmt:=top 23
abbrev tU:List Str:=["_law_state","_law_some"]
theorem yD:aE ["_law_state","_law_some"] tU (ak tK):=by walk_at "s"
theorem w5:Rc "_law_of" tK:=by ac_nf
noncomputable def aT:Fn:=lG 2
  (bu (ao aW v1 (ay aP (a2 v0 (ay dE (a1 v1))))))
abbrev lQ:Stmt:=top 24
abbrev mr:List Str:=["_law_state","_law_many"]
theorem ku:aE ["_law_state","_law_many","_law_letters","_law_stem","_law_k","_law_at","_law_first","_law_stride"] mr (ak lQ):=by walk_at "s"
theorem qT:Rc "_law_words" lQ:=by ac_nf
noncomputable def eW:Fn:=lG 8
  (aq (aQ 2 (ks "abcdefghijklmnopqrstuvwxyz"))
  (aq (aQ 3 (ks ""))
  (aq (ip (n6 (a1 (ay aT (a2 v0 (eK (.lv [.int 0,.int 1,.int 1,.int 2,.int 3,.int 6])))))) (gN 4) (aQ 3 (ao ax v3 (ao aW v2 (ay aP (a2 v0 (ki 26)))))))
  (aq (aQ 5 (ay aP (a2 v0 (ao ax (ay dE (a1 v3)) (ki 1)))))
  (aq (aQ 6 (ay aP (a2 v0 (ki 26))))
  (aq (aQ 7 (ay aT (a2 v0 (eK (.lv [.int 1,.int 3,.int 5,.int 7,.int 9,.int 11])))))
  (bu (fX (bW [none,some 5,some 6,some 2,some 3,some 7] (n6 (a1 v1)) (gN 0) ej (ao ax (ao ax (jt v4 wy (wz v1)) (ao aW v3 (ao rP (ao ax v2 (ao iE v5 v0)) (ki 26)))) (jt v4 (wz v1) wy)))))))))))
abbrev lP:Stmt:=top 25
abbrev mq:List Str:=["_law_state","_law_most","_law_odd"]
theorem cR:aE ["_law_state","_law_most","_law_odd","_law_names","_law_deeds","_law_params","_law_many","_law_floors"] mq (ak lP):=by walk_at "s"
theorem qS:Rc "_law_world" lP:=by ac_nf
noncomputable def je:Fn:=lG 8
  (aq (aQ 3 (ay eW (a2 v0 (ay aT (a2 v0 (eK (.lv [.int 1,.int 2,.int 2,.int 3,.int 4,.int 6])))))))
  (aq (aQ 4 (ay eW (a2 v0 (ay aT (a2 v0 (eK (.lv [.int 1,.int 1,.int 2,.int 2,.int 3,.int 4,.int 6])))))))
  (aq (aQ 5 (ay eW (a2 v0 (ki 3))))
  (aq (aQ 6 (fX (bW [none,some 0] (dI v4) (gN 0) ej (ay aT (a2 v1 (eK (.lv [.int 0,.int 1,.int 1,.int 2,.int 2,.int 3])))))))
  (aq (aQ 7 (ay D7 (a1 (fX (bW [none,some 3,some 0] (dI v4) (gN 0) ej (ay aP (a2 v2 (ay dE (a1 v1)))))))))
  (aq (aQ 5 (fX (bW [none,some 5] (dI v6) (gN 0) ej (jt v1 wy (wz v0)))))
  (bu (zb (fc (ks "names") v3 (fc (ks "deeds") v4 (fc (ks "params") v5 (fc (ks "floors") v7 (fc (ks "left") v1 (fc (ks "odd") v2 Gd))))))))))))))
abbrev kA:Stmt:=top 26
abbrev kC:List Str:=["_law_state","_law_world_here"]
theorem qH:aE ["_law_state","_law_world_here"] kC (ak kA):=by walk_at "s"
theorem pH:Rc "_law_is_odd" kA:=by ac_nf
noncomputable def dM:Fn:=lG 2
  (bu (Kj (ao y9 (ao aW v1 (ks "odd")) (ki 0)) (ao cP (ay aP (a2 v0 (ao aW v1 (ks "odd")))) (ki 0))))
abbrev oG:Stmt:=top 27
abbrev oR:List Str:=["_law_state","_law_params"]
theorem uV:aE ["_law_state","_law_params","_law_far"] oR (ak oG):=by walk_at "s"
theorem sO:Rc "_law_term" oG:=by ac_nf
noncomputable def bX:Fn:=lG 3
  (aq (aQ 2 (ao y1 (ay aP (a2 v0 (ki 81))) (ki 40)))
  (aq (gg (nC (aD (ao y9 (ay dE (a1 v1)) (ki 0))) (aD (ao y9 (ay aP (a2 v0 (ki 5))) (ki 0)))) (bu (ay aY (a2 (ay aT (a2 v0 v1)) (ay aT (a2 v0 (fX (ah (ki 0) (ah (ki 0) (ah (ki 0) (ah (ki 0) (ah (ki 1) (a4 (ki 1) (wC kK (ki 1)) (ki 2) v2)))))))))))) cA)
  (bu (ay aY (a2 (ks "") (ay aT (a2 v0 (fX (ah (ki 0) (ah (ki 0) (ah (ki 1) (ah (ki 1) (a4 (ki 2) (ki 3) (wC kK (ki 1)) v2)))))))))))))
abbrev oN:Stmt:=top 29
abbrev oY:List Str:=["_law_state","_law_world_here","_law_deed","_law_top"]
theorem f9:aE ["_law_state","_law_world_here","_law_deed","_law_top","_law_some","_law_other","_law_terms"] oY (ak oN):=by walk_at "s"
theorem sU:Rc "_law_call" oN:=by ac_nf
noncomputable def gS:Fn:=lG 7
  (aq (aQ 4 (fX (bW [none,some 2,some 3,some 1] (n6 (a1 (ay dE (a1 (ao aW v1 (ks "deeds")))))) (gN 0) (nC (aD (ao y9 (ao aW (ao aW v3 (ks "floors")) v0) v2)) (aD (ao MC v0 v1))) v0)))
  (aq (gg (yt (ay dM (a2 v0 v1))) (aQ 4 (fX (KR (a1 (ay dE (a1 (ao aW v1 (ks "deeds")))))))) cA)
  (aq (gg (aD (ao cP v4 (fX aR))) (bu (ay aY (a2 (ks "say") (ao aW (ao aW v1 (ks "deeds")) v2)))) cA)
  (aq (aQ 5 (ay aT (a2 v0 v4)))
  (aq (aQ 6 (fX (bW [none,some 2,some 0,some 1] (dI (ao aW (ao aW v1 (ks "params")) v5)) (gN 0) ej (ay bX (a2 v2 (ao aW (ao aW v3 (ks "params")) v1))))))
  (bu (ay aY (a3 (ks "call") (ao aW (ao aW v1 (ks "deeds")) v5) (ay dY (a1 v6))))))))))
abbrev oJ:Stmt:=top 28
abbrev oV:List Str:=["_law_state","_law_world_here","_law_deed","_law_top","_law_held"]
theorem lN:aE ["_law_state","_law_world_here","_law_deed","_law_top","_law_held","_law_low","_law_at","_law_name","_law_same","_law_word","_law_more"] oV (ak oJ):=by walk_at "s"
theorem sR:Rc "_law_lock" oJ:=by ac_nf
noncomputable def fL:Fn:=lG 11
  (aq (aQ 5 (ay rQ (a2 v3 (ao aW (ao aW v1 (ks "floors")) v2))))
  (aq (gg (aD (ao cP v5 (ay dE (a1 (ao aW v1 (ks "names")))))) (bu (ay aY (a2 (eK .cw) (eK .cw)))) cA)
  (aq (aQ 6 (ao ax v5 (ay aP (a2 v0 (ao y1 (ay dE (a1 (ao aW v1 (ks "names")))) v5)))))
  (aq (gg (yt (ay dM (a2 v0 v1))) (aQ 6 (ay aP (a2 v0 (ay dE (a1 (ao aW v1 (ks "names"))))))) cA)
  (aq (aQ 7 (ao aW (ao aW v1 (ks "names")) v6))
  (aq (aQ 8 (fX (bW [none,some 7] (dI v4) (gN 0) (aD (ao cP (ao aW v0 (ki 0)) v1)) (ao aW v0 (ki 1)))))
  (aq (gg (nC (aD (ao iD v8 (fX aR))) (uJ (yt (ay dM (a2 v0 v1))))) (aq (fN (ao aW v8 (wC kK (ki 1))) (gT 2 (au (gN 9) (au (gN 10) bV))))
  (bu (ay aY (a2 v6 (ay aY (a2 v7 (ay aY (a2 v9 (ay D8 (a2 (ki 99) (ao ax (ao ax v10 (ki 1)) (ay aP (a2 v0 (ki 2)))))))))))))) cA)
  (bu (ay aY (a2 v6 (ay aY (a2 v7 (ay bX (a2 v0 (ao aW (ao aW v1 (ks "params")) v2)))))))))))))))
abbrev qM:Stmt:=top 33
abbrev kZ:List Str:=["_law_state","_law_world_here","_law_deed","_law_deep","_law_top","_law_held","_law_most"]
theorem wU:aE ["_law_state","_law_world_here","_law_deed","_law_deep","_law_top","_law_held","_law_most","_law_rows","_law_k"] kZ (ak qM):=by walk_at "s"
theorem md:Rc "_law_lot" qM:=by ac_nf
abbrev qL:Stmt:=top 32
abbrev kY:List Str:=["_law_state","_law_world_here","_law_deed","_law_deep","_law_top","_law_held"]
theorem cZ:aE ["_law_state","_law_world_here","_law_deed","_law_deep","_law_top","_law_held","_law_way","_law_one","_law_other","_law_lots","_law_sort_here"] kY (ak qL):=by walk_at "s"
theorem l9:Rc "_law_row" qL:=by ac_nf
abbrev kz:Stmt:=top 31
abbrev gW:List Str:=["_law_state","_law_world_here","_law_deed","_law_deep","_law_top","_law_held","_law_way"]
theorem dc:aE ["_law_state","_law_world_here","_law_deed","_law_deep","_law_top","_law_held","_law_way","_law_at","_law_lock_here","_law_some","_law_high","_law_turn","_law_low","_law_other","_law_lot_here"] gW (ak kz):=by walk_at "s"
theorem jk:Rc "_law_locked" kz:=by ac_nf
abbrev jj:Stmt:=top 30
abbrev fP:List Str:=["_law_state","_law_world_here","_law_deed","_law_deep","_law_top","_law_held"]
theorem dq:aE ["_law_state","_law_world_here","_law_deed","_law_deep","_law_top","_law_held","_law_low","_law_name","_law_one","_law_other","_law_lots","_law_first","_law_second","_law_inner"] fP (ak jj):=by walk_at "s"
theorem gG:Rc "_law_two_ways" jj:=by ac_nf
mutual
noncomputable def bJ:Nat->Fn
 | 0=>λ_ _=>none
 | n+1=>DL 9
  (aq (aQ 7 (xM aR))
  (aq (ip (n6 (a1 (ay aP (a2 v0 (ao ax (ay aT (a2 v0 (ao ax (ao y4 (fX (a1 v6)) (ki 15)) (fX (a1 (ki 12)))))) (ki 1)))))) (gN 8) (gg (aD (ao y9 (ao aW v1 (ks "left")) (ki 0))) (aq (fN (ao y1 (ao aW v1 (ks "left")) (ki 1)) (pN v1 (ks "left")))
  (fT (eM cX du v7 (a1 (ay (gx n) (ah v0 (ah v1 (a4 v2 v3 v4 v5)))))))) cA))
  (bu (ay dY (a1 v7)))))
noncomputable def gx:Nat->Fn
 | 0=>λ_ _=>none
 | n+1=>lG 11
  (aq (aQ 6 (ay aP (a2 v0 (ki 16))))
  (aq (gg (Fj (aD (ao BP v6 (ki 2))) (nC (aD (ao cP v3 (ki 5))) (aD (ao BP v6 (ki 11))))) (bu (ay aY (a2 (ks "say") (ay aT (a2 v0 (ao ax (ao aW v1 (ks "names")) (ao aW v1 (ks "deeds")))))))) cA)
  (aq (gg (Fj (aD (ao y9 v6 (ki 12))) (aD (ao cP v3 (ki 5)))) (bu (ay gS (a4 v0 v1 v2 v4))) cA)
  (aq (gg (nC (aD (ao cP v6 (ki 12))) (nC (aD (ao BP v3 (ki 3))) (aD (ao y9 (ao aW v1 (ks "left")) (ki 5))))) (bu (ay (cQ n) (ah v0 (ah v1 (a4 v2 v3 v4 v5))))) cA)
  (aq (gg (Fj (aD (ao cP v6 (ki 11))) (aD (ao cP v6 (ki 12)))) (aq (wX 7 8 (a2 (ay bX (a2 v0 (ao aW (ao aW v1 (ks "params")) v2))) (ay bX (a2 v0 (ao aW (ao aW v1 (ks "params")) v2)))))
  (aq (aQ 9 (fX (bW [none,some 2,some 3,some 5,some 0,some 4,some 1] (n6 (a1 (ki 3))) (gN 0) ej (ay (bJ n) (ah v4 (ah v6 (ah v1 (a4 (ao ax v2 (ki 1)) v5 v3 (ki 2)))))))))
  (bu (ao ax (ay aY (a3 (ks "by") v7 v8)) (ay dY (a1 v9)))))) cA)
  (aq (gg (aD (ao cP v6 (ki 10))) (aq (aQ 9 (fX (bW [none,some 2,some 3,some 5,some 0,some 4,some 1] (n6 (a1 (ki 2))) (gN 0) ej (ay (bJ n) (ah v4 (ah v6 (ah v1 (a4 (ao ax v2 (ki 1)) v5 v3 (ki 2)))))))))
  (bu (ao ax (ay aY (a1 (ks "either"))) (ay dY (a1 v9))))) cA)
  (aq (gg (aD (ao cP v6 (ki 9))) (bu (ay aY (a2 (ks "again") (ay (bJ n) (ah v0 (ah v1 (ah v2 (a4 (ao ax v3 (ki 1)) v4 v5 (ki 2))))))))) cA)
  (aq (aQ 10 (ay aT (a2 v0 (eK (.lv [.str "within",.str "within",.str "within",.str "within",.str "ask",.str "all"])))))
  (bu (ay (dJ n) (ah v0 (ah v1 (ah v2 (a4 v3 v4 v5 v10))))))))))))))
noncomputable def dJ:Nat->Fn
 | 0=>λ_ _=>none
 | n+1=>DL 15
  (aq (fN (ay fL (ah v0 (a4 v1 v2 v4 v5))) (gT 2 (au (gN 7) (au (gN 8) bV))))
  (aq (gg (aD (ao Ke v7 (eK .cw))) (bu (ay aY (a2 (ks "say") (ao aW (ao aW v1 (ks "deeds")) v2)))) cA)
  (aq (gg (aD (ao cP v6 (ks "all"))) (aq (wX 9 10 (a2 (xM (a1 v8)) v7))
  (aq (ip (n6 (a1 (ay aT (a2 v0 (eK (.lv [.int 1,.int 1,.int 2,.int 3])))))) (gN 11) (aq (fN (ay fL (ah v0 (a4 v1 v2 v4 v5))) (gT 2 (au (gN 12) (au (gN 13) bV))))
  (aq (aQ 10 (ay rQ (a2 v10 NJ)))
  (aQ 9 (xM (BK v9 (ao y4 (fX (a1 NI)) (ay oj (a1 (ao gY NI v9))))))))))
  (aq (gg (aD (ao cP (ay dE (a1 v9)) (ki 1))) (fT (eM cX du v9 (a1 (ay aY (a2 (ao aW v8 (ki 0)) (ay aY (a2 (ao aW (ao aW v8 (ki 1)) (ki 0)) (ao y1 (ao ax (ao aW (ao aW v8 (ki 1)) (ki 1)) (ki 1)) (ao iE (ki 2) (ay oj (a1 (ao y9 (ao aW (ao aW v8 (ki 1)) (ki 1)) (ki 90))))))))))))) cA)
  (aq (aQ 10 (ao ax v10 (ay oj (a1 (ao cP (ao aW v1 (ks "odd")) (ki 0))))))
  (bu (ay aY (a3 (ks "all") (ay dY (a1 v9)) (ay (bJ n) (ah v0 (ah v1 (ah v2 (a4 (ao ax v3 (ki 1)) (ay rQ (a2 v4 v10)) (ao ax v5 v9) (ki 3))))))))))))) cA)
  (aq (aQ 14 (ay (bJ n) (ah v0 (ah v1 (ah v2 (a4 (ao ax v3 (ki 1)) (ay rQ (a2 v4 v7)) (ao ax v5 (fX (a1 v8))) (ki 3)))))))
  (aq (gg (aD (ao cP v6 (ks "ask"))) (bu (ay aY (a4 (ks "ask") v8 O7 (ay (bJ n) (ah v0 (ah v1 (ah v2 (a4 (ao ax v3 (ki 1)) v4 v5 (ki 2))))))))) cA)
  (bu (ay aY (a3 (ks "within") v8 O7))))))))
noncomputable def cQ:Nat->Fn
 | 0=>λ_ _=>none
 | n+1=>DL 14
  (aq (aQ 6 (ay rQ (a2 v4 (ao aW (ao aW v1 (ks "floors")) v2))))
  (aq (gg (aD (ao cP v6 (ay dE (a1 (ao aW v1 (ks "names")))))) (bu (ay aY (a2 (ks "say") (ao aW (ao aW v1 (ks "deeds")) v2)))) cA)
  (aq (gg (aD (ao iD (fX (bW [none,some 6,some 1] (dI v5) (gN 0) (aD (ao cP (ao aW v0 (ki 0)) (ao aW (ao aW v2 (ks "names")) v1))) v0)) (fX aR))) (bu (ay aY (a2 (ks "say") (ao aW (ao aW v1 (ks "deeds")) v2)))) cA)
  (aq (aQ 7 (ao aW (ao aW v1 (ks "names")) v6))
  (aq (fN (ao y1 (ao aW v1 (ks "left")) (ki 5)) (pN v1 (ks "left")))
  (aq (wX 8 9 (a2 (ay bX (a2 v0 (ao aW (ao aW v1 (ks "params")) v2))) (ay bX (a2 v0 (ao aW (ao aW v1 (ks "params")) v2)))))
  (aq (aQ 10 (xM aR))
  (aq (ip (dI (fX (a2 (ay aY (a2 v8 v9)) (ay aY (a2 v9 v8))))) (gT 2 (au (gN 11) (au (gN 12) bV))) (aq (aQ 13 (ay (bJ n) (ah v0 (ah v1 (ah v2 (a4 (ao ax v3 (ki 3)) v6 (ao ax v5 (fX (a2 (ay aY (a2 v7 v11)) (ay aY (a2 v7 NJ))))) (ki 2)))))))
  (fT (eM cX du v10 (a1 (ay aY (a1 (ay aY (a3 (ks "within") (ay aY (a2 v7 v11)) (ay aY (a1 (ay aY (a3 (ks "within") (ay aY (a2 v7 NJ)) NI)))))))))))))
  (bu (ay aY (ah (ks "by") (ah v8 (a4 v9 (ao aW v10 (ki 0)) (ay aY (a1 (ay aY (a3 (ks "within") (ay aY (a2 v7 v8)) (ay aY aR))))) (ao aW v10 (ki 1)))))))))))))))
end
abbrev jy:Stmt:=top 34
abbrev jD:List Str:=["_law_state","_law_most","_law_odd"]
theorem jh:aE ["_law_state","_law_most","_law_odd","_law_world_here","_law_deeds","_law_k","_law_deed","_law_rows"] jD (ak jy):=by walk_at "s"
theorem nM:Rc "_law_program" jy:=by ac_nf
noncomputable def gy:Fn:=DL 8
  (aq (aQ 3 (ay je (a3 v0 v1 v2)))
  (aq (aQ 4 (xM aR))
  (aq (ip (rL (a1 (ao aW v3 (ks "deeds")))) (gT 2 (au (gN 5) (au (gN 6) bV))) (aq (aQ 7 (ay (bJ 20) (ah v0 (ah v3 (ah v5 (a4 (ki 1) (wC kK (ki 1)) (fX aR) (ay aT (a2 v0 (eK (.lv [.int 1,.int 2,.int 3,.int 4,.int 12]))))))))))
  (fT (eM cX du v4 (a1 (ay aY (a3 v6 (ay dY (a1 (ao aW (ao aW v3 (ks "params")) v5))) v7)))))))
  (bu (ay aY (a2 (ay dY (a1 (ay D6 (a1 (ao aW v3 (ks "names")))))) (ay dY (a1 v4))))))))
abbrev qN:Stmt:=top 35
abbrev rj:List Str:=["_law_state"]
theorem wV:aE ["_law_state"] rj (ak qN):=by walk_at "s"
theorem vc:Rc "_law_any" qN:=by ac_nf
noncomputable def lD:Fn:=lG 1
  (bu (ay gy (a3 v0 (ay aT (a2 v0 (eK (.lv [.int 4,.int 8,.int 12,.int 20,.int 40,.int 60])))) (ay aT (a2 v0 (eK (.lv [.int 0,.int 2,.int 5,.int 9])))))))
abbrev ij:Stmt:=top 36
abbrev iw:List Str:=["_law_term_here"]
theorem lL:aE ["_law_term_here","_law_word","_law_more"] iw (ak ij):=by walk_at "s"
theorem kS:Rc "_law_term_text" ij:=by ac_nf
noncomputable def bw:Fn:=lG 3
  (aq (fN v0 (gT 2 (au (gN 1) (au (gN 2) bV))))
  (aq (gg (Fj (aD (ao cP v1 (ks ""))) (aD (ao cP v2 (ki 0)))) (bu (Ki v1 (ay xH (a1 v2)))) cA)
  (bu (ao ax (ao ax v1 (ao iE (ks "+") (ay oj (a1 (ao y9 v2 (ki 0)))))) (ay xH (a1 v2))))))
abbrev il:Stmt:=top 37
abbrev ix:List Str:=["_law_lock_here"]
theorem lM:aE ["_law_lock_here"] ix (ak il):=by walk_at "s"
theorem kT:Rc "_law_lock_text" il:=by ac_nf
noncomputable def b7:Fn:=lG 1
  (bu (ao ax (ao ax (ao aW v0 (ki 0)) (ks ":")) (ay bw (a1 (ao aW v0 (ki 1))))))
abbrev oM:Stmt:=top 38
abbrev oX:List Str:=["_law_row_here"]
theorem uY:aE ["_law_row_here"] oX (ak oM):=by walk_at "s"
theorem sT:Rc "_law_head" oM:=by ac_nf
noncomputable def jP:Fn:=lG 1
  (aq (gg (aD (ao cP (ao aW v0 (ki 0)) (ks "say"))) (bu (ao ax (ks "say ") (ao aW v0 (ki 1)))) cA)
  (aq (gg (aD (ao cP (ao aW v0 (ki 0)) (ks "call"))) (bu (eM isStr pe (ks " ") (a1 (ao ax (fX (a2 (ks "call") (ao aW v0 (ki 1)))) (fX (bW [none] (dI (ao aW v0 (ki 2))) (gN 0) ej (ay bw (a1 v0)))))))) cA)
  (aq (gg (aD (ao cP (ao aW v0 (ki 0)) (ks "all"))) (bu (eM isStr pe (ks " ") (a1 (ao ax (fX (a1 (ks "all"))) (fX (bW [none] (dI (ao aW v0 (ki 1))) (gN 0) ej (ay b7 (a1 v0)))))))) cA)
  (aq (gg (aD (ao La (ao aW v0 (ki 0)) (ay aY (a2 (ks "within") (ks "ask"))))) (bu (ao ax (ao ax (ao aW v0 (ki 0)) (ks " ")) (ay b7 (a1 (ao aW v0 (ki 1)))))) cA)
  (aq (gg (aD (ao cP (ao aW v0 (ki 0)) (ks "by"))) (bu (ao ax (ao ax (ao ax (ks "by ") (ay bw (a1 (ao aW v0 (ki 1))))) (ks " ")) (ay bw (a1 (ao aW v0 (ki 2)))))) cA)
  (bu (ao aW v0 (ki 0))))))))
abbrev ik:Stmt:=top 39
abbrev fk:List Str:=["_law_lot_here","_law_first"]
theorem bD:aE ["_law_lot_here","_law_first","_law_found","_law_number","_law_row_here","_law_mine","_law_first_lot","_law_lots","_law_place","_law_inner","_law_lines_here"] fk (ak ik):=by walk_at "s"
theorem gh:Rc "_law_lot_lines" ik:=by ac_nf
noncomputable def bZ:Nat->Fn
 | 0=>λ_ _=>none
 | n+1=>lG 11
  (aq (wX 2 3 (a2 (xM aR) v1))
  (aq (ip (dI v0) (gN 4) (aq (aQ 5 v3)
  (aq (fT (eM cX du v2 (a1 (ay aY (a2 v5 (ay jP (a1 v4)))))))
  (aq (aQ 3 (ao ax v3 (ki 1)))
  (aq (aQ 6 (eM DW JG (Hq (fc (ks "say") (ki 2) (fc (ks "call") (ki 3) (fc (ks "by") (ki 3) (fc (ks "either") (ki 1) (fc (ks "again") (ki 1) Gd)))))) (a2 (ao aW v4 (ki 0)) (ki 2))))
  (aq (aQ 7 (jt v4 (wz v6) wy))
  (aq (ip (rL (a1 v7)) (gT 2 (au (gN 8) (au (gN 9) bV))) (aq (aQ 2 (xM (BK v2 (ao y4 (fX (a1 (ay aY (a2 v5 (ks "or"))))) (ay oj (a1 (ao y9 v8 (ki 0))))))))
  (aq (fN (ay (bZ n) (a2 v9 v3)) (gT 2 (au (gN 10) (au (gN 3) bV))))
  (aQ 2 (xM (BK v2 v10))))))
  (aQ 2 (xM (BK v2 (ao y4 (fX (a1 (ay aY (a2 v5 (ks "end"))))) (ay oj (a1 (ao y9 (ay dE (a1 v7)) (ki 0)))))))))))))))
  (bu (ay aY (a2 v2 v3)))))
abbrev lS:Stmt:=top 40
abbrev mx:List Str:=["_law_program_here"]
theorem fD:aE ["_law_program_here","_law_found","_law_number","_law_deed","_law_params","_law_rows","_law_lines_here"] mx (ak lS):=by walk_at "s"
theorem qV:Rc "_law_lines" lS:=by ac_nf
noncomputable def gb:Fn:=DL 7
  (aq (wX 1 2 (a2 (fX (a1 (ay aY (a2 (wC kK (ki 1)) (eM isStr pe (ks " ") (a1 (ao ax (ay aY (a1 (ks "locks"))) (ao aW v0 (ki 0))))))))) (ki 0)))
  (aq (ip (dI (ao aW v0 (ki 1))) (gT 3 (au (gN 3) (au (gN 4) (au (gN 5) bV)))) (aq (fN (ay (bZ 8) (a2 v5 v2)) (gT 2 (au (gN 6) (au (gN 2) bV))))
  (aQ 1 (ao ax (ao ax (ao ax v1 (fX (a1 (ay aY (a2 (wC kK (ki 1)) (eM isStr pe (ks " ") (a1 (ao ax (ay aY (a2 (ks "deed") v3)) v4)))))))) v6) (fX (a1 (ay aY (a2 (wC kK (ki 1)) (ks "end")))))))))
  (bu v1)))
abbrev jz:Stmt:=top 42
abbrev jE:List Str:=["_law_texts_here"]
theorem dP:aE ["_law_texts_here","_law_counts","_law_most","_law_deep","_law_rows","_law_text","_law_word"] jE (ak jz):=by walk_at "s"
theorem nN:Rc "_law_measure" jz:=by ac_nf
noncomputable def eY:Fn:=DL 7
  (aq (fN (ay aY (a4 (xM aR) (ki 0) (ki 0) (ki 0))) (gT 4 (au (gN 1) (au (gN 2) (au (gN 3) (au (gN 4) bV))))))
  (aq (ip (dI (jt v0 (wz (ki 1)) wy)) (gN 5) (aq (aQ 6 (ao aW (eM isStr nV v5 (a1 (ks " "))) (ki 0)))
  (gg (aD (ao cP v5 (ks "or"))) (fN (ki 0) (pN v1 (wC kK (ki 1)))) (gg (aD (ao cP v5 (ks "end"))) (fT (eM cX Gm v1 aR)) (aq (gg (aD (ao iD v1 (fX aR))) (aq (fN (ao ax (ao aW v1 (wC kK (ki 1))) (ki 1)) (pN v1 (wC kK (ki 1))))
  (wX 4 2 (a2 (ao ax v4 (ki 1)) (ay rQ (a2 v2 (ao aW v1 (wC kK (ki 1)))))))) cA)
  (gg (aD (ao gY v6 (ay aY (a2 (ks "say") (ks "call"))))) (aq (fT (eM cX du v1 (a1 (ki 0))))
  (aQ 3 (ay rQ (a2 v3 (ay dE (a1 v1)))))) cA))))))
  (bu (ay aY (a3 v2 v3 v4)))))
abbrev lR:Stmt:=top 41
abbrev mw:List Str:=["_law_lines_here"]
theorem sI:aE ["_law_lines_here"] mw (ak lR):=by walk_at "s"
theorem qU:Rc "_law_texts" lR:=by ac_nf
noncomputable def eX:Fn:=lG 1
  (bu (fX (bW [none,none] (dI v0) (gT 2 (au (gN 0) (au (gN 1) bV))) ej v1)))
abbrev oH:Stmt:=top 43
abbrev oS:List Str:=["_law_lines_here","_law_number"]
theorem uW:aE ["_law_lines_here","_law_number"] oS (ak oH):=by walk_at "s"
theorem sP:Rc "_law_sort" oH:=by ac_nf
noncomputable def fK:Fn:=lG 2
  (bu (ao aW (eM isStr nV (ao aW (fX (bW [none,none,some 1] (dI v0) (gT 2 (au (gN 0) (au (gN 1) bV))) (aD (ao cP v0 v2)) v1)) (ki 0)) (a1 (ks " "))) (ki 0)))
abbrev lU:Stmt:=top 45
abbrev mz:List Str:=["_law_lines_here","_law_some"]
theorem sL:aE ["_law_lines_here","_law_some","_law_found","_law_mine","_law_text"] mz (ak lU):=by walk_at "s"
theorem qX:Rc "_law_asked" lU:=by ac_nf
noncomputable def jf:Fn:=DL 5
  (aq (aQ 2 (xM aR))
  (aq (ip (dI v0) (gT 2 (au (gN 3) (au (gN 4) bV))) (aq (gg (nC (aD (ao La v3 v1)) (yt (eM isStr zY v4 (a1 (ks "within "))))) (aQ 4 (ao ax (ks "ask ") (jt v4 (wz (ki 7)) wy))) (gg (aD (ao La v3 v1)) (fT (eM cX du v2 (a1 (ay aY (a2 v3 (ks "or")))))) cA))
  (fT (eM cX du v2 (a1 (ay aY (a2 v3 v4)))))))
  (bu v2)))
abbrev tJ:Stmt:=top 2
abbrev tT:List Str:=["row"]
theorem yC:aE ["row"] tT (ak tJ):=by walk_at "s"
theorem wZ:Rc "lots_of" tJ:=by ac_nf
noncomputable def kj:Fn:=lG 1
  (bu (jt v0 (wz (ao aW (wC (Gz fg) (ao aW v0 (ki 0))) (ki 0))) wy))
abbrev qJ:Stmt:=top 3
abbrev kW:List Str:=["lot","ahead"]
theorem wR:aE ["lot","ahead","found","number","row","path","at","inner"] kW (ak qJ):=by walk_at "s"
theorem lY:Rc "paths_in" qJ:=by ac_nf
noncomputable def dZ:Nat->Fn
 | 0=>λ_ _=>none
 | n+1=>DL 8
  (aq (aQ 2 (xM aR))
  (aq (ip (rL (a1 v0)) (gT 2 (au (gN 3) (au (gN 4) bV))) (aq (aQ 5 (ao ax v1 (ay aY (a1 v3))))
  (aq (fT (eM cX du v2 (a1 (ay aY (a2 v5 v4)))))
  (ip (rL (a1 (ay kj (a1 v4)))) (gT 2 (au (gN 6) (au (gN 7) bV))) (fT (eM cX jZ v2 (a1 (ay (dZ n) (a2 v7 (ao ax v5 (ay aY (a1 v6))))))))))))
  (bu v2)))
abbrev oF:Stmt:=top 4
abbrev oQ:List Str:=["program"]
theorem uU:aE ["program","found","deed","name","params","rows"] oQ (ak oF):=by walk_at "s"
theorem sN:Rc "places_of" oF:=by ac_nf
noncomputable def eh:Fn:=DL 6
  (aq (aQ 1 (xM aR))
  (aq (ip (rL (a1 (ao aW v0 (ki 1)))) (gT 2 (au (gN 2) (au (gT 3 (au (gN 3) (au (gN 4) (au (gN 5) bV)))) bV))) (fT (eM cX jZ v1 (a1 (fX (bW [none,none,some 2] (dI (ay (dZ 8) (a2 v5 (ay aY aR)))) (gT 2 (au (gN 0) (au (gN 1) bV))) ej (ay aY (a3 v2 v0 v1))))))))
  (bu v1)))
abbrev qI:Stmt:=top 13
abbrev kU:List Str:=["program","number"]
theorem jv:aE ["program","number","places"] kU (ak qI):=by walk_at "s"
theorem lX:Rc "place_of" qI:=by ac_nf
noncomputable def fC:Fn:=lG 3
  (aq (aQ 2 (ay eh (a1 v0)))
  (aq (gg (uJ (aD (jJ K9 BP (ki 0) v1 (ay dE (a1 v2))))) qO cA)
  (bu (ao aW v2 v1))))
abbrev qK:Stmt:=top 14
abbrev kX:List Str:=["lot","path","some"]
theorem jw:aE ["lot","path","some","at","row","place"] kX (ak qK):=by walk_at "s"
theorem lZ:Rc "lot_with" qK:=by ac_nf
noncomputable def eg:Nat->Fn
 | 0=>λ_ _=>none
 | n+1=>lG 6
  (aq (aQ 3 (ao aW v1 (ki 0)))
  (aq (gg (aD (ao y9 (ay dE (a1 v1)) (ki 1))) (aq (aQ 4 (ao aW v0 v3))
  (aq (aQ 5 (ao ax (ao aW (wC (Gz fg) (ao aW v4 (ki 0))) (ki 0)) (ao aW v1 (ki 1))))
  (aQ 2 (ay aY (a1 (ao ax (ao ax (jt v4 wy (wz v5)) (ay aY (a1 (ay (eg n) (a3 (ao aW v4 v5) (jt v1 (wz (ki 2)) wy) v2))))) (jt v4 (wz (ao ax v5 (ki 1))) wy))))))) cA)
  (bu (ao ax (ao ax (jt v0 wy (wz v3)) v2) (jt v0 (wz (ao ax v3 (ki 1))) wy)))))
abbrev jx:Stmt:=top 15
abbrev jC:List Str:=["program","deed","path","some"]
theorem pG:aE ["program","deed","path","some","names","deeds","name","params","rows"] jC (ak jx):=by walk_at "s"
theorem nJ:Rc "program_with" jx:=by ac_nf
noncomputable def dg:Fn:=lG 9
  (aq (fN v0 (gT 2 (au (gN 4) (au (gN 5) bV))))
  (aq (fN (ao aW v5 v1) (gT 3 (au (gN 6) (au (gN 7) (au (gN 8) bV)))))
  (bu (ay aY (a2 v4 (ao ax (ao ax (jt v5 wy (wz v1)) (ay aY (a1 (ay aY (a3 v6 v7 (ay (eg 6) (a3 v8 v2 v3))))))) (jt v5 (wz (ao ax v1 (ki 1))) wy)))))))
abbrev wW:Stmt:=top 17
abbrev xl:List Str:=["row"]
theorem AU:aE ["row","sort","lock","lot"] xl (ak wW):=by walk_at "s"
theorem yG:Rc "as_ask" wW:=by ac_nf
noncomputable def jN:Fn:=lG 4
  (aq (fN v0 (gT 3 (au (gN 1) (au (gN 2) (au (gN 3) bV)))))
  (bu (ay aY (a4 (ks "ask") v2 v3 (ay aY aR)))))
abbrev ji:Stmt:=top 18
abbrev fO:List Str:=["program","some"]
theorem aG:aE ["program","some","asked","number","deed","path","row"] fO (ak ji):=by walk_at "s"
theorem gF:Rc "asked_instead" ji:=by ac_nf
noncomputable def dR:Fn:=lG 7
  (aq (aQ 2 v0)
  (aq (ip (dI v1) (gN 3) (aq (fN (ay fC (a2 v2 v3)) (gT 3 (au (gN 4) (au (gN 5) (au (gN 6) bV)))))
  (aq (gg (aD (ao iD (ao aW v6 (ki 0)) (ks "within"))) qO cA)
  (aQ 2 (ay dg (a4 v2 v4 v5 (ay aY (a1 (ay jN (a1 v6))))))))))
  (bu v2)))
abbrev lO:Stmt:=top 46
abbrev Hi:List Str:=["_law_script"]
theorem qG:aE ["_law_script","_law_state","_law_turn","_law_program_here","_law_lines_here","_law_many","_law_waiting","_law_others","_law_some","_law_due","_law_again","_law_spoilt"] Hi (ak lO):=by walk_at "s"
theorem zJ:Rc "law" lO:=by ac_nf
abbrev cD:Stmt:=top 44
abbrev rh:List Str:=["_law_call_here"]
theorem fM:aE ["_law_call_here","_law_caught","e","_law_marks"] rh (ak cD):=by walk_at "s"
theorem nK:Rc "_law_refused" cD:=by ac_nf
noncomputable def ye:SM:=
 (aq (gg (Fj (aD (ao Ke (aw 1) (eK .cw))) (uJ (yt (ot gz "ValueError" (aw 1))))) (bu (eK (.str ""))) cA)
  (aq (aQ 3 (fX (ah (ot gz "NoRow" (aw 1)) (ah (ot gz "NoLock" (aw 1)) (ah (ot gz "NoText" (aw 1)) aR)))))
  (aq (aQ 3 (ao ax (aw 3) (fX (ah (ot gz "NoLine" (aw 1)) (ah (ot gz "NoStep" (aw 1)) aR)))))
  (aq (gg (aD (ao iD (eM cX z3 (aw 3) (ah (eK (.bl true)) aR)) (eK (.int 1)))) (bu (eK (.str "two"))) cA)
  (bu (ao aW (eK (.lv [.str "NoRow",.str "NoLock",.str "NoText",.str "NoLine",.str "NoStep"])) (eM cX zZ (aw 3) (ah (eK (.bl true)) aR))))))))
noncomputable def fA:Xn:=Mn 3
  (wG (aQ 2 (ay eh (ah (aw 0) aR)))
  (HM (uJ (aD (jJ K9 BP (eK (.int 0)) (aw 1) (ay dE (ah (aw 2) aR))))) (ny "NoRow" (ah (eK (.str "there is no row of this number")) aR)) Nq))
noncomputable def fS:Xn:=Mn 7
  (wG (aQ 2 (aw 0))
  (HN (dI (aw 1)) (gN 3) (E5 (K6 fA (ah (aw 2) (ah (aw 3) aR))) (wG (fN (ay fC (ah (aw 2) (ah (aw 3) aR))) (gT 3 (au (gN 4) (au (gN 5) (au (gN 6) bV)))))
  (HM (aD (ao iD (ao aW (aw 6) (eK (.int 0))) (eK (.str "within")))) (ny "NoRow" (ah (eK (.str "the row of this number is no within")) aR)) Nq))) (aq (fN (ay fC (ah (aw 2) (ah (aw 3) aR))) (gT 3 (au (gN 4) (au (gN 5) (au (gN 6) bV)))))
  (aq (gg (aD (ao iD (ao aW (aw 6) (eK (.int 0))) (eK (.str "within")))) qO cA)
  (aQ 2 (ay dg (ah (aw 2) (ah (aw 4) (ah (aw 5) (ah (ay aY (ah (ay jN (ah (aw 6) aR)) aR)) aR))))))))))
noncomputable def yf:Fn:=lG 12
  (aq (aQ 1 (ay gc (a1 v0)))
  (aq (ip (n6 (a1 (ki 2))) (gN 2) (aq (aQ 3 (ay lD (a1 v1)))
  (aq (aQ 4 (ay gb (a1 v3)))
  (aq (aQ 5 (ao aW (ay eY (a1 (ay eX (a1 v4)))) (ki 2)))
  (aq (aQ 6 (fX (bW [none,some 4] (n6 (a1 v5)) (gN 0) (aD (ao cP (ay fK (a2 v1 v0)) (ks "within"))) v0)))
  (aq (aQ 7 (ao ax (fX (bW [none,some 6] (n6 (a1 v5)) (gN 0) (aD (ao gY v0 v1)) v0)) (fX (a3 v5 (ao ax v5 (ki 7)) (wC kK (ki 1))))))
  (ip (dI (fX (a3 (ay aY aR) (ay dY (a1 v6)) (ay dY (a1 (fX (bW [none,some 1] (dI v6) (gN 0) (aD (ao cP (ay aP (a2 v1 (ki 2))) (ki 0))) v0))))))) (gN 8) (aq (aQ 9 (ay eX (a1 (ay jf (a2 v4 v8)))))
  (aq (ip (n6 (a1 (ki 2))) (gN 10) (gg (aD (ao iD (ay eX (a1 (ay gb (a1 (ay dR (a2 v3 v8)))))) v9)) (bu (eK (.bl false))) cA))
  (aq (aQ 11 (ay dY (a1 (ay vK (a1 (ao ax v8 (ay aY (a1 (ay aT (a2 v1 v7))))))))))
  (gg (aD (ao iD (iF xU [some 3,some 11] ye (K6 fS (a2 v0 v1)) (ay dR (a2 v0 v1))) (ks "NoRow"))) (bu (eK (.bl false))) cA)))))))))))
  (bu (eK (.bl true)))))
structure Cc where
 l:PySem.W.OpenLaw
 w:World
 h:Heap
 mg:Str->Option Value
 base:Heap
section
variable (c:Cc)
abbrev ni:Prop:=Df c.l.prog c.w (Hd.aB c.h) c.mg c.base "_law_drawn" 1 my 1 gc
abbrev pB:Prop:=Df c.l.prog c.w (Hd.aB c.h) c.mg c.base "_law_load" 1 oW 1 jO
abbrev cu:Prop:=Df c.l.prog c.w (Hd.aB c.h) c.mg c.base "_law_next" 2 oU 2 aP
abbrev dB:Prop:=Df c.l.prog c.w (Hd.aB c.h) c.mg c.base "_law_of" 3 tU 2 aT
abbrev m8:Prop:=Df c.l.prog c.w (Hd.aB c.h) c.mg c.base "_law_words" 4 mr 2 eW
abbrev mZ:Prop:=Df c.l.prog c.w (Hd.aB c.h) c.mg c.base "_law_world" 5 mq 3 je
abbrev hU:Prop:=Df c.l.prog c.w (Hd.aB c.h) c.mg c.base "_law_is_odd" 3 kC 2 dM
abbrev gR:Prop:=Df c.l.prog c.w (Hd.aB c.h) c.mg c.base "_law_term" 4 oR 2 bX
abbrev pD:Prop:=Df c.l.prog c.w (Hd.aB c.h) c.mg c.base "_law_call" 5 oY 4 gS
abbrev pA:Prop:=Df c.l.prog c.w (Hd.aB c.h) c.mg c.base "_law_lock" 5 oV 5 fL
abbrev zu:Prop:=Df c.l.prog c.w (Hd.aB c.h) c.mg c.base "_law_lot" 26 kZ 7 (bJ 20)
abbrev KW:Prop:=Df c.l.prog c.w (Hd.aB c.h) c.mg c.base "_law_row" 26 kY 6 (gx 20)
abbrev E9:Prop:=Df c.l.prog c.w (Hd.aB c.h) c.mg c.base "_law_locked" 26 gW 7 (dJ 20)
abbrev BQ:Prop:=Df c.l.prog c.w (Hd.aB c.h) c.mg c.base "_law_two_ways" 26 fP 6 (cQ 20)
abbrev jL:Prop:=Df c.l.prog c.w (Hd.aB c.h) c.mg c.base "_law_program" 27 jD 3 gy
abbrev sA:Prop:=Df c.l.prog c.w (Hd.aB c.h) c.mg c.base "_law_any" 28 rj 1 lD
abbrev fB:Prop:=Df c.l.prog c.w (Hd.aB c.h) c.mg c.base "_law_term_text" 1 iw 1 bw
abbrev iK:Prop:=Df c.l.prog c.w (Hd.aB c.h) c.mg c.base "_law_lock_text" 2 ix 1 b7
abbrev pC:Prop:=Df c.l.prog c.w (Hd.aB c.h) c.mg c.base "_law_head" 3 oX 1 jP
abbrev oz:Prop:=Df c.l.prog c.w (Hd.aB c.h) c.mg c.base "_law_lot_lines" 12 fk 2 (bZ 8)
abbrev ng:Prop:=Df c.l.prog c.w (Hd.aB c.h) c.mg c.base "_law_lines" 13 mx 1 gb
abbrev jM:Prop:=Df c.l.prog c.w (Hd.aB c.h) c.mg c.base "_law_measure" 1 jE 1 eY
abbrev m9:Prop:=Df c.l.prog c.w (Hd.aB c.h) c.mg c.base "_law_texts" 1 mw 1 eX
abbrev pz:Prop:=Df c.l.prog c.w (Hd.aB c.h) c.mg c.base "_law_sort" 1 oS 2 fK
abbrev nj:Prop:=Df c.l.prog c.w (Hd.aB c.h) c.mg c.base "_law_asked" 1 mz 2 jf
abbrev uE:Prop:=Df c.l.prog c.w (Hd.aB c.h) c.mg c.base "lots_of" 1 tT 1 kj
abbrev zr:Prop:=Df c.l.prog c.w (Hd.aB c.h) c.mg c.base "paths_in" 10 kW 2 (dZ 8)
abbrev jK:Prop:=Df c.l.prog c.w (Hd.aB c.h) c.mg c.base "places_of" 11 oQ 1 eh
abbrev lz:Prop:=Df c.l.prog c.w (Hd.aB c.h) c.mg c.base "place_of" 12 kU 2 fC
abbrev zt:Prop:=Df c.l.prog c.w (Hd.aB c.h) c.mg c.base "lot_with" 7 kX 3 (eg 6)
abbrev gw:Prop:=Df c.l.prog c.w (Hd.aB c.h) c.mg c.base "program_with" 8 jC 4 dg
abbrev sy:Prop:=Df c.l.prog c.w (Hd.aB c.h) c.mg c.base "as_ask" 1 xl 1 jN
abbrev jo:Prop:=Df c.l.prog c.w (Hd.aB c.h) c.mg c.base "asked_instead" 13 fO 2 dR
abbrev Pn:Prop:=Ph c.l.prog c.w (Hd.aB c.h) c.mg c.base "_law_refused" ye xU
abbrev pE:Prop:=Hd.Dx c.l.prog c.w (Hd.aB c.h) c.mg c.base "place_of" 12 kU 2 fA
abbrev iL:Prop:=Hd.Dx c.l.prog c.w (Hd.aB c.h) c.mg c.base "asked_instead" 13 fO 2 fS
structure Xr:Prop where
 AA:∃C,EW c.mg c.base "NoRow" C
end
section
variable {c:Cc} {mb:Str->Option Value} {mean:ExcName->Option Value} (T:Top view (PySem.W.looseW view (["SHAPES"]:List Str)) mean c.mg mb c.h) (B:Bs c.l.prog c.w (Hd.aB c.h) c.mg)
include T B
theorem td:ni c:=Hd.bB T qW λF _ _ _=>
 (aV F sJ λ_ _ _ _ _ _ hr _=>by walk_at "v";with_reducible exact(aH (b9 (lC.ob (dS (aa aM (aa (lC.ob (Fv (by unfold Gl;ac_nf) B.EJ Ar (by ac_rfl) (ag aA))) (by ac_rfl))) (ag (ag (ag aA))))))))
theorem vw:pB c:=Hd.bB T sS λF _ _ _=>
 (aV F iS λ_ _ _ _ _ _ hr _=>by walk_at "v";with_reducible exact(ae (by ac_rfl)
   (ae (by ac_rfl)
   (ae (eI (by ac_rfl) (ju hr.units (sv 0) aM))
   (ae (by ac_rfl)
   (ae (by ac_rfl)
   (aH (cm (SW.st (yu (by ac_rfl) (uK (kN Hj (by ac_rfl) (bj Dz aM aM) (jG _))))) (aH (eI (by ac_rfl) (ju hr.units (sv 0) aM))) (ae (sset 4 iS.nd (bj rl (bj gI (bj bq (bj bq (by ac_rfl) (bj gI (bj gI aM (sv 2)) (sv 2))) aM) aM) aM))
   (ae (sset 4 iS.nd (bj rl (bj gI (sv 4) (sv 4)) aM))
   (aH (eI (bj bq (bj rl (bj bq (bj bq (bj gI (sv 4) aM) (sv 2)) aM) aM) (bj Dz aM aM)) (ju hr.units (sv 0) aM)))))))))))))
theorem vt(d9:pB c):cu c:=Hd.bB T sQ λF _ _ _=>
 (aV F uX λ_ _ _ _ _ _ hr _=>by walk_at "v";with_reducible exact(ae (by ac_rfl)
   (ae (by ac_rfl)
   (ae (eI (bj Jo (by ac_rfl) (sv 1)) (ju hr.units (sv 0) aM))
   (by ac_rfl)))))
theorem yN(d10:cu c):dB c:=Hd.bB T w5 λF _ _ _=>
 (aV F yD λ_ _ _ _ _ _ hr _=>by walk_at "u")
theorem sX(d11:dB c)(d10:cu c):m8 c:=Hd.bB T qT λF _ _ _=>
 (aV F ku λ_ _ _ _ _ _ hr _=>by walk_at "v";with_reducible exact(ae (by ac_rfl)
   (ae (by ac_rfl)
   (ae (cS QJ rfl (cC (by unfold Gl;ac_nf) B.dQ (aa (gf d11 hr (aa (sv 0) (aa (dm 9 (by ac_nf)) ar))) ar) (hl:=(ag aA))) (by ac_rfl) (by ac_rfl))
   (ae (by ac_rfl)
   (ae (by ac_rfl)
   (ae (sset 7 ku.nd (gf d11 hr (aa (sv 0) (aa (dm 9 (by ac_nf)) ar))))
   (aH (b9 (dO (N':=["_law_k","_law_at","_law_first","_law_letters","_law_stem","_law_stride"]) (caps:=[none,some 5,some 6,some 2,some 3,some 7]) (bh (by ac_nf)) rfl (cC (by unfold Gl;ac_nf) B.dQ (by ac_rfl) (hl:=(ag aA))) (λ_ _ _ _ _=>(sgn 0 (by show(["_law_k","_law_at","_law_first","_law_letters","_law_stem","_law_stride"]:List Str).Nodup;decide+kernel))) (λ_ _ _ _ _=>eO) (λ_ _ _ _ _=>(bj bq (bj bq (by ac_rfl) (six hr (sv 3) (bj rl (bj bq (sv 2) (bj gI (sv 5) (sv 0))) aM))) (by ac_rfl)))))))))))))
theorem sW(d12:m8 c)(d11:dB c)(d10:cu c):mZ c:=Hd.bB T qS λF _ _ _=>
 (aV F cR λ_ _ _ _ _ _ hr _=>by walk_at "v";with_reducible exact(ae (sset 3 cR.nd (gf d12 hr (aa (sv 0) (aa (gf d11 hr (aa (sv 0) (aa (dm 9 (by ac_nf)) ar))) ar))))
   (ae (sset 4 cR.nd (gf d12 hr (aa (sv 0) (aa (gf d11 hr (aa (sv 0) (aa (dm 9 (by ac_nf)) ar))) ar))))
   (ae (by ac_rfl)
   (ae (jU (i:=6) cR.nd (by ac_nf) (by ac_nf) (N':=["_law_deed","_law_state"]) (caps:=[none,some 0]) (bh (by ac_nf)) rfl (eP (sv 4)) (λ_ _ _ _ _=>(sgn 0 (by show(["_law_deed","_law_state"]:List Str).Nodup;decide+kernel))) (λ_ _ _ _ _=>eO) (λ_ _ _ _ _=>(gf d11 hr (aa (sv 1) (aa (dm 9 (by ac_nf)) ar)))))
   (ae (sset 7 cR.nd (FC El B.su ow (aa (dO (N':=["_law_deed","_law_names","_law_state"]) (caps:=[none,some 3,some 0]) (bh (by ac_nf)) rfl (eP (sv 4)) (λ_ _ _ _ _=>(sgn 0 (by show(["_law_deed","_law_names","_law_state"]:List Str).Nodup;decide+kernel))) (λ_ _ _ _ _=>eO) (λ_ _ _ _ _=>(by ac_rfl))) ar)))
   (ae (sset 5 cR.nd (dO (N':=["_law_k","_law_params"]) (caps:=[none,some 5]) (bh (by ac_nf)) rfl (eP (sv 6)) (λ_ _ _ _ _=>(sgn 0 (by show(["_law_k","_law_params"]:List Str).Nodup;decide+kernel))) (λ_ _ _ _ _=>eO) (λ_ _ _ _ _=>(by ac_rfl))))
   (aH (b9 (CI (eJ bc (sv 3) (eJ bc (sv 4) (eJ bc (sv 5) (eJ bc (sv 7) (eJ bc (sv 1) (eJ bc (sv 2) Cv)))))) (by ac_nf) (by ac_nf) (by simp) λtrs h=>zR h (by ac_nf) (by ac_nf) (by simp) (by decide)))))))))))
theorem rm(d10:cu c):hU c:=Hd.bB T pH λF _ _ _=>
 (aV F qH λ_ _ _ _ _ _ hr _=>by walk_at "v";with_reducible exact(aH (b9 (Iy (by ac_rfl) (CG (by ac_rfl))))))
theorem vp(d10:cu c)(d11:dB c):gR c:=Hd.bB T sO λF _ _ _=>
 (aV F uV λ_ _ _ _ _ _ hr _=>by walk_at "v";with_reducible exact(ae (by ac_rfl)
   (ae (cm (by ac_rfl) (aH (b9 (cj (aa (by ac_rfl) (aa (gf d11 hr (aa (sv 0) (aa (lC.lv (dS (by ac_rfl) (ag (ag (ag (ag (ag (ag (ag (ag (ag aA))))))))))) ar))) ar)) (ag (ag aA))))) bP)
   (by ac_rfl))))
theorem vz(d14:hU c)(d11:dB c)(d15:gR c):pD c:=Hd.bB T sU λF _ _ _=>
 (aV F f9 λ_ _ _ _ _ _ hr _=>by walk_at "v";with_reducible exact(ae (jU (i:=4) f9.nd (by ac_nf) (by ac_nf) (N':=["_law_k","_law_deed","_law_top","_law_world_here"]) (caps:=[none,some 2,some 3,some 1]) (bh (by ac_nf)) rfl (cC (by unfold Gl;ac_nf) B.dQ (by ac_rfl) (hl:=(ag aA))) (λ_ _ _ _ _=>(sgn 0 (by show(["_law_k","_law_deed","_law_top","_law_world_here"]:List Str).Nodup;decide+kernel))) (λ_ _ _ _ _=>(iQ (by ac_rfl))) (λ_ _ _ _ _=>(sv 0)))
   (ae (cm (by ac_rfl) (aH (sset 4 f9.nd (lC.lv (AR rfl (by unfold Gl;ac_nf) B.EJ (by unfold Gl;ac_nf) B.dQ Ar (by ac_rfl))))) bP)
   (ae (by ac_rfl)
   (ae (by ac_rfl)
   (ae (jU (i:=6) f9.nd (by ac_nf) (by ac_nf) (N':=["_law_one","_law_deed","_law_state","_law_world_here"]) (caps:=[none,some 2,some 0,some 1]) (bh (by ac_nf)) rfl (by ac_rfl) (λ_ _ _ _ _=>(sgn 0 (by show(["_law_one","_law_deed","_law_state","_law_world_here"]:List Str).Nodup;decide+kernel))) (λ_ _ _ _ _=>eO) (λ_ _ _ _ _=>(by ac_rfl)))
   (by ac_rfl)))))))
theorem vv(d10:cu c)(d14:hU c)(d15:gR c):pA c:=Hd.bB T sR λF _ _ _=>
 (aV F lN λ_ _ _ _ _ _ hr _=>by walk_at "v";with_reducible exact(ae (by ac_rfl)
   (ae (by ac_rfl)
   (ae (by ac_rfl)
   (ae (by ac_rfl)
   (ae (by ac_rfl)
   (ae (jU (i:=8) lN.nd (by ac_nf) (by ac_nf) (N':=["_law_lock_here","_law_name"]) (caps:=[none,some 7]) (bh (by ac_nf)) rfl (eP (sv 4)) (λ_ _ _ _ _=>(sgn 0 (by show(["_law_lock_here","_law_name"]:List Str).Nodup;decide+kernel))) (λ_ _ _ _ _=>(iQ (by ac_rfl))) (λ_ _ _ _ _=>(by ac_rfl)))
   (by ac_rfl))))))))
theorem zV(d10:cu c)(d11:dB c)(d17:pD c)(d15:gR c)(d16:pA c):∀n,Df c.l.prog c.w (Hd.aB c.h) c.mg c.base "_law_lot" (6+n) kZ 7 (bJ n)/\Df c.l.prog c.w (Hd.aB c.h) c.mg c.base "_law_row" (6+n) kY 6 (gx n)/\Df c.l.prog c.w (Hd.aB c.h) c.mg c.base "_law_locked" (6+n) gW 7 (dJ n)/\Df c.l.prog c.w (Hd.aB c.h) c.mg c.base "_law_two_ways" (6+n) fP 6 (cQ n)
 | 0=>⟨Hd.bB T md λ_ _ _ _=>iY,Hd.bB T l9 λ_ _ _ _=>iY,Hd.bB T jk λ_ _ _ _=>iY,Hd.bB T gG λ_ _ _ _=>iY⟩
 | n+1=>by
  obtain⟨d21,d20,d19,d18⟩:=zV d10 d11 d17 d15 d16 n;refine⟨?_,?_,?_,?_⟩
  ·exact Hd.bB T md λF _ _ _=>eS (aV F wU λ_ _ _ _ _ _ hr _=>by walk_at "v";with_reducible exact(ae (by ac_rfl)
   (ae (cS QJ rfl (cC (by unfold Gl;ac_nf) B.dQ (aa (gf d10 hr (aa (sv 0) (aa (bj bq (gf d11 hr (aa (sv 0) (aa (bj bq (bj vj (by ac_rfl) aM) (by ac_rfl)) ar)) (P6 (by decide) (Qr _ _))) aM) ar)) (P6 (by decide) (Qr _ _))) ar) (hl:=(ag aA))) (by ac_rfl) (aH (cm (by ac_rfl) (ae (eI (by ac_rfl) (ju hr.units (sv 1) bc))
   (aH (jT (kl (isT:=cX) iP QZ Sn S9 jY (sv 7) (aa (gf d20 hr (by ac_rfl) (PZ _)) ar))))) bP)))
   (by ac_rfl))))
  ·exact Hd.bB T l9 λF _ _ _=>(aV F cZ λ_ _ _ _ _ _ hr _=>by walk_at "v";with_reducible exact(ae (sset 6 cZ.nd (gf d10 hr (by ac_rfl) (P6 (by decide) (Qr _ _))))
   (ae (cm (by ac_rfl) (aH (b9 (cj (aa bc (aa (gf d11 hr (by ac_rfl) (P6 (by decide) (Qr _ _))) ar)) (ag (ag aA))))) bP)
   (ae (cm (by ac_rfl) (aH (b9 (gf d17 hr (by ac_rfl) (P6 (by decide) (Qr _ _))))) bP)
   (ae (cm (by ac_rfl) (aH (b9 (gf d18 hr (by ac_rfl) (PZ _)))) bP)
   (ae (cm (by ac_rfl) (ae (AN 7 8 cZ.nd (ag (ag aA)) rfl (by decide) (by with_unfolding_all exact(nQ rfl cZ.nd rfl rfl (by decide) rfl rfl (aa (gf d15 hr (aa (sv 0) (aa (six hr (six hr (sv 1) bc) (sv 2)) ar)) (P6 (by decide) (Qr _ _))) (aa (gf d15 hr (aa (sv 0) (aa (six hr (six hr (sv 1) bc) (sv 2)) ar)) (P6 (by decide) (Qr _ _))) ar)) rfl)))
   (ae (jU (i:=9) cZ.nd (by ac_nf) (by ac_nf) (N':=["_law_k","_law_deed","_law_deep","_law_held","_law_state","_law_top","_law_world_here"]) (caps:=[none,some 2,some 3,some 5,some 0,some 4,some 1]) (bh (by ac_nf)) rfl (cC (by unfold Gl;ac_nf) B.dQ (by ac_rfl) (hl:=(ag aA))) (λ_ _ _ _ _=>(sgn 0 (by show(["_law_k","_law_deed","_law_deep","_law_held","_law_state","_law_top","_law_world_here"]:List Str).Nodup;decide+kernel))) (λ_ _ _ _ _=>eO) (λ_ _ _ _ _=>(gf d21 hr (by ac_rfl) (PZ _))))
   (by ac_rfl))) bP)
   (ae (cm (by ac_rfl) (ae (jU (i:=9) cZ.nd (by ac_nf) (by ac_nf) (N':=["_law_k","_law_deed","_law_deep","_law_held","_law_state","_law_top","_law_world_here"]) (caps:=[none,some 2,some 3,some 5,some 0,some 4,some 1]) (bh (by ac_nf)) rfl (cC (by unfold Gl;ac_nf) B.dQ (by ac_rfl) (hl:=(ag aA))) (λ_ _ _ _ _=>(sgn 0 (by show(["_law_k","_law_deed","_law_deep","_law_held","_law_state","_law_top","_law_world_here"]:List Str).Nodup;decide+kernel))) (λ_ _ _ _ _=>eO) (λ_ _ _ _ _=>(gf d21 hr (by ac_rfl) (PZ _))))
   (by ac_rfl)) bP)
   (ae (cm (by ac_rfl) (aH (b9 (cj (aa bc (aa (gf d21 hr (by ac_rfl) (PZ _)) ar)) (ag (ag aA))))) bP)
   (ae (sset 10 cZ.nd (gf d11 hr (aa (sv 0) (aa (dm 9 (by ac_nf)) ar)) (P6 (by decide) (Qr _ _))))
   (aH (b9 (gf d19 hr (by ac_rfl) (PZ _)))))))))))))
  ·exact Hd.bB T jk λF _ _ _=>eS (aV F dc λ_ _ _ _ _ _ hr _=>by walk_at "v";with_reducible exact(ae (eI (gf d16 hr (by ac_rfl) (P6 (by decide) (Qr _ _))) (by ac_rfl))
   (ae (by ac_rfl)
   (ae (cm (by ac_rfl) (ae (AN 9 10 dc.nd (ag (ag aA)) rfl (by decide) (by with_unfolding_all exact(nQ rfl dc.nd rfl rfl (by decide) rfl rfl (aa (lC.ob (dS (aa (sv 8) ar) (ag aA))) (aa (sv 7) ar)) rfl)))
   (ae (cS QJ rfl (cC (by unfold Gl;ac_nf) B.dQ (aa (gf d11 hr (aa (sv 0) (aa (dm 9 (by ac_nf)) ar)) (P6 (by decide) (Qr _ _))) ar) (hl:=(ag aA))) (by ac_rfl) (ae (eI (gf d16 hr (by ac_rfl) (P6 (by decide) (Qr _ _))) (by ac_rfl))
   (ae (by ac_rfl)
   (aH (sset 9 dc.nd (lC.ob (uT (sv 9) (bj vj (by ac_rfl) (by ac_rfl)))))))))
   (ae (cm (by ac_rfl) (aH (jT (kl (isT:=cX) iP QZ Sn S9 jY (sv 9) (aa (cj (aa (by ac_rfl) (aa (cj (aa (by ac_rfl) (aa (bj Dy (by ac_rfl) (bj gI aM (by ac_rfl))) ar)) (ag (ag aA))) ar)) (ag (ag aA))) ar)))) bP)
   (ae (by ac_rfl)
   (aH (b9 (cj (aa bc (aa (by ac_rfl) (aa (gf d21 hr (by ac_rfl) (PZ _)) ar))) (ag (ag (ag aA)))))))))) bP)
   (ae (sset 14 dc.nd (gf d21 hr (by ac_rfl) (PZ _)))
   (ae (cm (by ac_rfl) (aH (b9 (cj (aa bc (aa (sv 8) (aa (sv 14) (aa (gf d21 hr (by ac_rfl) (PZ _)) ar)))) (ag (ag (ag (ag aA))))))) bP)
   (by ac_rfl)))))))
  ·exact Hd.bB T gG λF _ _ _=>eS (aV F dq λ_ _ _ _ _ _ hr _=>by walk_at "v";with_reducible exact(ae (by ac_rfl)
   (ae (by ac_rfl)
   (ae (cm (kN (nS hr.units) (dO (N':=["_law_lock_here","_law_low","_law_world_here"]) (caps:=[none,some 6,some 1]) (bh (by ac_nf)) rfl (eP (sv 5)) (λ_ _ _ _ _=>(sgn 0 (by show(["_law_lock_here","_law_low","_law_world_here"]:List Str).Nodup;decide+kernel))) (λ_ _ _ _ _=>(iQ (by ac_rfl))) (λ_ _ _ _ _=>(sv 0))) (by ac_rfl) (jG _)) (by ac_rfl) bP)
   (ae (by ac_rfl)
   (ae (eI (by ac_rfl) (ju hr.units (sv 1) bc))
   (ae (AN 8 9 dq.nd (ag (ag aA)) rfl (by decide) (by with_unfolding_all exact(nQ rfl dq.nd rfl rfl (by decide) rfl rfl (aa (gf d15 hr (aa (sv 0) (aa (six hr (six hr (sv 1) bc) (sv 2)) ar)) (P6 (by decide) (Qr _ _))) (aa (gf d15 hr (aa (sv 0) (aa (six hr (six hr (sv 1) bc) (sv 2)) ar)) (P6 (by decide) (Qr _ _))) ar)) rfl)))
   (ae (by ac_rfl)
   (ae (cS QJ rfl (by ac_rfl) (by ac_rfl) (ae (sset 13 dq.nd (gf d21 hr (by ac_rfl) (PZ _)))
   (by ac_rfl)))
   (by ac_rfl))))))))))
theorem pJ(d13:mZ c)(d21:zu c)(d11:dB c):jL c:=Hd.bB T nM λF _ _ _=>
 eS (aV F jh λ_ _ _ _ _ _ hr _=>by walk_at "v";with_reducible exact(ae (by ac_rfl)
   (ae (by ac_rfl)
   (ae (cS QJ rfl (lJ (by unfold Gl;ac_nf) B.fJ (by ac_rfl) (ag aA)) (by ac_rfl) (ae (sset 7 jh.nd (gf d21 hr (aa (sv 0) (aa (sv 3) (aa (sv 5) (aa aM (aa (by ac_rfl) (aa (by ac_rfl) (aa (gf d11 hr (aa (sv 0) (aa (dm 9 (by ac_nf)) ar))) ar)))))))))
   (by ac_rfl)))
   (aH (b9 (cj (aa (Iz mT B.qe mX (aa (FC Ek B.su ow (by ac_rfl)) ar)) (by ac_rfl)) (ag (ag aA)))))))))
theorem xn(d22:jL c)(d11:dB c):sA c:=Hd.bB T vc λF _ _ _=>
 (aV F wV λ_ _ _ _ _ _ hr _=>by walk_at "v";with_reducible exact(aH (b9 (gf d22 hr (aa (sv 0) (aa (gf d11 hr (aa (sv 0) (aa (dm 9 (by ac_nf)) ar))) (aa (gf d11 hr (aa (sv 0) (aa (dm 9 (by ac_nf)) ar))) ar)))))))
theorem mE:fB c:=Hd.bB T kS λF _ _ _=>
 (aV F lL λ_ _ _ _ _ _ hr _=>by walk_at "v";with_reducible exact(ae (by ac_rfl)
   (ae (cm (by ac_rfl) (aH (b9 (Iu (sv 1) (CG (Iz Al B.Hu ED (by ac_rfl)))))) bP)
   (aH (b9 (bj bq (bj bq (sv 1) (bj gI bc (by ac_rfl))) (Iz Al B.Hu ED (by ac_rfl))))))))
theorem mF(d24:fB c):iK c:=Hd.bB T kT λF _ _ _=>
 (aV F lM λ_ _ _ _ _ _ hr _=>by walk_at "u")
theorem vy(d24:fB c)(d25:iK c):pC c:=Hd.bB T sT λF _ _ _=>
 (aV F uY λ_ _ _ _ _ _ hr _=>by walk_at "v";with_reducible exact(ae (by ac_rfl)
   (ae (cm (by ac_rfl) (aH (b9 (kl (isT:=isStr) ty_str Q0 Sw Sv pY bc (aa (bj bq (by ac_rfl) (dO (N':=["_law_term_here"]) (caps:=[none]) (bh (by ac_nf)) rfl (by ac_rfl) (λ_ _ _ _ _=>(sgn 0 (by show(["_law_term_here"]:List Str).Nodup;decide+kernel))) (λ_ _ _ _ _=>eO) (λ_ _ _ _ _=>(by ac_rfl)))) ar)))) bP)
   (ae (cm (by ac_rfl) (aH (b9 (kl (isT:=isStr) ty_str Q0 Sw Sv pY bc (aa (bj bq (by ac_rfl) (dO (N':=["_law_lock_here"]) (caps:=[none]) (bh (by ac_nf)) rfl (by ac_rfl) (λ_ _ _ _ _=>(sgn 0 (by show(["_law_lock_here"]:List Str).Nodup;decide+kernel))) (λ_ _ _ _ _=>eO) (λ_ _ _ _ _=>(by ac_rfl)))) ar)))) bP)
   (by ac_rfl)))))
theorem gJ(d26:pC c):∀n,Df c.l.prog c.w (Hd.aB c.h) c.mg c.base "_law_lot_lines" (4+n) fk 2 (bZ n)
 | 0=>Hd.bB T gh λ_ _ _ _=>iY
 | n+1=>by
  have d27:=gJ d26 n;exact Hd.bB T gh λF _ _ _=>(aV F bD λ_ _ _ _ _ _ hr _=>by walk_at "v";with_reducible exact(ae (AN 2 3 bD.nd (ag (ag aA)) rfl (by decide) (by with_unfolding_all exact(nQ rfl bD.nd rfl rfl (by decide) rfl rfl (aa (lC.ob (dS ar aA)) (aa (sv 1) ar)) rfl)))
   (ae (cS QJ rfl (eP (sv 0)) (by ac_rfl) (ae (by ac_rfl)
   (ae (jT (kl (isT:=cX) iP QZ Sn S9 jY (sv 2) (aa (cj (aa (sv 5) (aa (gf d26 hr (by ac_rfl) (P6 (by decide) (Qr _ _))) ar)) (ag (ag aA))) ar)))
   (ae (by ac_rfl)
   (ae (sset 6 bD.nd (kl (isT:=DW) HY PySem.F.plainAttrs_dict RU PySem.F.type_dict_get (JF (Mu hr)) (Fy (eJ bc aM (eJ bc aM (eJ bc aM (eJ bc aM (eJ bc aM Cv))))) (by ac_nf) (by ac_nf) (by simp) λtrs h=>zR h (by ac_nf) (by ac_nf) (by simp) (by decide)) (by ac_rfl)))
   (ae (by ac_rfl)
   (ae (cS QJ rfl (lJ (by unfold Gl;ac_nf) B.fJ (by ac_rfl) (ag aA)) (by ac_rfl) (ae (sset 2 bD.nd (lC.ob (uT (sv 2) (bj vj (by ac_rfl) (by ac_rfl)))))
   (ae (eI (gf d27 hr (by ac_rfl) (PZ _)) (by ac_rfl))
   (aH (sset 2 bD.nd (lC.ob (uT (sv 2) (sv 10))))))))
   (aH (sset 2 bD.nd (lC.ob (uT (sv 2) (bj vj (by ac_rfl) (by ac_rfl)))))))))))))
   (by ac_rfl))))
theorem sZ(d27:oz c):ng c:=Hd.bB T qV λF _ _ _=>
 eS (aV F fD λ_ _ _ _ _ _ hr _=>by walk_at "v";with_reducible exact(ae (AN 1 2 fD.nd (ag (ag aA)) rfl (by decide) (by with_unfolding_all exact(nQ rfl fD.nd rfl rfl (by decide) rfl rfl (aa (lC.lv (dS (aa (cj (aa (zG uG aM) (aa (kl (isT:=isStr) ty_str Q0 Sw Sv pY bc (aa (bj bq (cj (aa bc ar) (ag aA)) (six hr (sv 0) aM)) ar)) ar)) (ag (ag aA))) ar) (ag aA))) (aa aM ar)) rfl)))
   (ae (cS QJ rfl (by ac_rfl) (by ac_rfl) (ae (by ac_rfl)
   (aH (sset 1 fD.nd (bj bq (bj bq (bj bq (sv 1) (lC.lv (dS (aa (cj (aa (by ac_rfl) (aa (kl (isT:=isStr) ty_str Q0 Sw Sv pY bc (by ac_rfl)) ar)) (ag (ag aA))) ar) (ag aA)))) (sv 6)) (by ac_rfl))))))
   (by ac_rfl))))
theorem pK:jM c:=Hd.bB T nN λF _ _ _=>
 eS (aV F dP λ_ _ _ _ _ _ hr _=>by walk_at "v";with_reducible exact(ae (by ac_rfl)
   (ae (cS QJ rfl (by ac_rfl) (by ac_rfl) (ae (sset 6 dP.nd (six hr (kl (isT:=isStr) ty_str Q0 Si UA xu (sv 5) (by ac_rfl)) aM))
   (aH (cm (by ac_rfl) (aH (eI aM (ju hr.units (sv 1) (by ac_rfl)))) (aH (cm (by ac_rfl) (by ac_rfl) (ae (cm (by ac_rfl) (ae (eI (by ac_rfl) (ju hr.units (sv 1) (by ac_rfl)))
   (aH (AN 4 2 dP.nd (ag (ag aA)) rfl (by decide) (by with_unfolding_all exact(nQ rfl dP.nd rfl rfl (by decide) rfl rfl (aa (bj bq (sv 4) aM) (aa (FC (Em rfl) B.Hv EE (aa (sv 2) (aa (six hr (sv 1) (zG uG aM)) ar))) ar)) rfl))))) bP)
   (by ac_rfl))))))))
   (by ac_rfl))))
theorem sY:m9 c:=Hd.bB T qU λF _ _ _=>
 (aV F sI λ_ _ _ _ _ _ hr _=>by walk_at "v";with_reducible exact(aH (b9 (dO (N':=["_law_number","_law_text"]) (caps:=[none,none]) (bh (by ac_nf)) rfl (eP (sv 0)) (λ_ _ _ _ _=>(kO rfl (bR (sgn 0 (by show(["_law_number","_law_text"]:List Str).Nodup;decide+kernel)) (bR (sgn 1 (by show(["_law_number","_law_text"]:List Str).Nodup;decide+kernel)) iR)))) (λ_ _ _ _ _=>eO) (λ_ _ _ _ _=>(sv 1))))))
theorem vq:pz c:=Hd.bB T sP λF _ _ _=>
 (aV F uW λ_ _ _ _ _ _ hr _=>by walk_at "v";with_reducible exact(aH (b9 (six hr (kl (isT:=isStr) ty_str Q0 Si UA xu (six hr (dO (N':=["_law_mine","_law_text","_law_number"]) (caps:=[none,none,some 1]) (bh (by ac_nf)) rfl (eP (sv 0)) (λ_ _ _ _ _=>(kO rfl (bR (sgn 0 (by show(["_law_mine","_law_text","_law_number"]:List Str).Nodup;decide+kernel)) (bR (sgn 1 (by show(["_law_mine","_law_text","_law_number"]:List Str).Nodup;decide+kernel)) iR)))) (λ_ _ _ _ _=>(iQ (by ac_rfl))) (λ_ _ _ _ _=>(sv 1))) aM) (by ac_rfl)) aM))))
theorem tj:nj c:=Hd.bB T qX λF _ _ _=>
 eS (aV F sL λ_ _ _ _ _ _ hr _=>by walk_at "v";with_reducible exact(ae (by ac_rfl)
   (ae (cS QJ rfl (eP (sv 0)) (by ac_rfl) (ae (cm (SW.st (yu (by ac_rfl) (uK (yw (kl (isT:=isStr) ty_str Q0 PySem.F.slot_str_startswith PySem.F.type_str_startswith Bh (sv 4) (by ac_rfl)))))) (by ac_rfl) (by ac_rfl))
   (by ac_rfl)))
   (by ac_rfl))))
theorem yM:uE c:=Hd.bB T wZ λF _ _ _=>
 (aV F yC λ_ _ _ _ _ _ hr _=>by walk_at "v";with_reducible exact(aH (b9 (CF (sv 0) (zC (six hr (CD B.yd (by ac_rfl)) aM)) zD))))
theorem oZ(d0:uE c):∀n,Df c.l.prog c.w (Hd.aB c.h) c.mg c.base "paths_in" (2+n) kW 2 (dZ n)
 | 0=>Hd.bB T lY λ_ _ _ _=>iY
 | n+1=>by
  have d1:=oZ d0 n;exact Hd.bB T lY λF _ _ _=>eS (aV F wR λ_ _ _ _ _ _ hr _=>by walk_at "v";with_reducible exact(ae (by ac_rfl)
   (ae (cS QJ rfl (lJ (by unfold Gl;ac_nf) B.fJ (by ac_rfl) (ag aA)) (by ac_rfl) (ae (by ac_rfl)
   (ae (by ac_rfl)
   (aH (cS QJ rfl (lJ (by unfold Gl;ac_nf) B.fJ (aa (gf d0 hr (by ac_rfl) (P6 (by decide) (Qr _ _))) ar) (ag aA)) (by ac_rfl) (aH (jT (kl (isT:=cX) iP QZ To Ul tY (sv 2) (aa (gf d1 hr (by ac_rfl) (PZ _)) ar)))))))))
   (by ac_rfl))))
theorem vo(d1:zr c):jK c:=Hd.bB T sN λF _ _ _=>
 eS (aV F uU λ_ _ _ _ _ _ hr _=>by walk_at "v";with_reducible exact(ae (by ac_rfl)
   (ae (cS QJ rfl (lJ (by unfold Gl;ac_nf) B.fJ (by ac_rfl) (ag aA)) (by ac_rfl) (aH (jT (kl (isT:=cX) iP QZ To Ul tY (sv 1) (aa (dO (N':=["path","row","deed"]) (caps:=[none,none,some 2]) (bh (by ac_nf)) rfl (by ac_rfl) (λ_ _ _ _ _=>(kO rfl (bR (sgn 0 (by show(["path","row","deed"]:List Str).Nodup;decide+kernel)) (bR (sgn 1 (by show(["path","row","deed"]:List Str).Nodup;decide+kernel)) iR)))) (λ_ _ _ _ _=>eO) (λ_ _ _ _ _=>(by ac_rfl))) ar)))))
   (by ac_rfl))))
theorem xm(d2:jK c):lz c:=Hd.bB T lX λF _ _ _=>
 (aV F jv λ_ _ _ _ _ _ hr _=>by walk_at "v";with_reducible exact(ae (by ac_rfl)
   (ae (cm (uM (wL DC DB aM (sv 1) (by ac_rfl))) (aH qy) bP)
   (by ac_rfl))))
theorem pd:∀n,Df c.l.prog c.w (Hd.aB c.h) c.mg c.base "lot_with" (1+n) kX 3 (eg n)
 | 0=>Hd.bB T lZ λ_ _ _ _=>iY
 | n+1=>by
  have d4:=pd  n;exact Hd.bB T lZ λF _ _ _=>(aV F jw λ_ _ _ _ _ _ hr _=>by walk_at "v";with_reducible exact(ae (by ac_rfl)
   (ae (cm (by ac_rfl) (ae (by ac_rfl)
   (ae (sset 5 jw.nd (bj bq (six hr (CD B.yd (by ac_rfl)) aM) (by ac_rfl)))
   (aH (sset 2 jw.nd (cj (aa (bj bq (bj bq (by ac_rfl) (cj (aa (gf d4 hr (by ac_rfl) (PZ _)) ar) (ag aA))) (by ac_rfl)) ar) (ag aA)))))) bP)
   (by ac_rfl))))
theorem pI(d4:zt c):gw c:=Hd.bB T nJ λF _ _ _=>
 (aV F pG λ_ _ _ _ _ _ hr _=>by walk_at "u")
theorem A9:sy c:=Hd.bB T yG λF _ _ _=>
 (aV F AU λ_ _ _ _ _ _ hr _=>by walk_at "u")
theorem nU(d3:lz c)(d5:gw c)(d6:sy c):jo c:=Hd.bB T gF λF _ _ _=>
 (aV F aG λ_ _ _ _ _ _ hr _=>by walk_at "v";with_reducible exact(ae (by ac_rfl)
   (ae (cS QJ rfl (eP (sv 1)) (by ac_rfl) (ae (by ac_rfl)
   (ae (cm (by ac_rfl) (aH qy) bP)
   (by ac_rfl))))
   (by ac_rfl))))
theorem Jy:Pn c:=by
 obtain⟨f,fd,m,F⟩:=Hd.Ag T nK;obtain⟨CS,h1,h2⟩:=B.S_;have hb:∃(tail:List Stmt)(pa pb pc p1 p2 p3 p4 p5 p6 p7 p8 p9:Pos)(j:Nat),dy cD=.Assign [.Name "_law_caught" pa] (.Constant .none j pb) pc::.Try [.Expr (.Call (.Name "_law_call_here" p1) [] [] p2) p3] [.ExceptHandler (some (.Name "StuckError" p4)) (some "e") [.Assign [.Name "_law_caught" p5] (.Name "e" p6) p7] p8] [] [] p9::tail/\∀(k:Nat)(cdv:Value)(A:Around)(outer:List Env)(s:Shared)(H:Hp)(E:XK),cM k (A.deeper (envOfC "_law_refused" (ak cD) s.heap.objs.size f cdv))->Ay (ft nv c.l.prog c.w (Hd.aB c.h) c.mg c.base ["_law_call_here","_law_caught","e","_law_marks"] "_law_refused" (ak cD) f cdv A outer s H E).DI tail ye:=by
  refine⟨_,_,_,_,_,_,_,_,_,_,_,_,_,_,by(conv=>lhs;whnf),λk cdv A outer s H E hr=>?_⟩;unfold ye;(conv=>arg 2;whnf);with_reducible exact(ae (cm (SW.st (G4 (by ac_rfl) (Cs (uM (yw (LH (tb:=gz) (ns:=pL) B.Ld B.dz B.wc (sv 1) (Px (by decide+kernel)))))))) (by ac_rfl) bP)
   (ae (sset 3 fM.nd (lC.lv (dS (aa (CB (tb:=gz) (ns:=pL) B.Ld B.dz (sv 1)) (aa (CB (tb:=gz) (ns:=pL) B.Ld B.dz (sv 1)) (aa (CB (tb:=gz) (ns:=pL) B.Ld B.dz (sv 1)) ar))) (ag (ag (ag aA))))))
   (ae (sset 3 fM.nd (bj bq (sv 3) (lC.lv (dS (aa (CB (tb:=gz) (ns:=pL) B.Ld B.dz (sv 1)) (aa (CB (tb:=gz) (ns:=pL) B.Ld B.dz (sv 1)) ar)) (ag (ag aA))))))
   (ae (cm (kN (nS hr.units) (kl (isT:=cX) iP QZ Us PySem.F.type_list_count (Bj hr.units) (sv 3) (by ac_rfl)) aM (jG _)) (by ac_rfl) bP)
   (aH (b9 (six hr (dm 9 (by ac_nf)) (kl (isT:=cX) iP QZ Ur PySem.F.type_list_index (Bi hr.units) (sv 3) (by ac_rfl)))))))))
 obtain⟨tail,pa,pb,pc,p1,p2,p3,p4,p5,p6,p7,p8,p9,j,e,ht⟩:=hb;exact⟨f,CS,fd,cD,"_law_call_here","_law_caught","e","_law_marks",tail,pa,pb,pc,p1,p2,p3,p4,p5,p6,p7,p8,p9,j,F,fM,m,F.kp,F.one (λ_ _ _ _ _ _ _=>rfl),e,⟨by ac_nf,by ac_nf,by ac_nf,by ac_nf⟩,⟨h1,h2⟩,⟨by ac_nf,by ac_nf,by ac_nf,by ac_nf⟩,⟨λ_=>by ac_nf,λ_=>by ac_nf,λ_=>by ac_nf⟩,ht⟩
theorem vn(R:Xr c)(d2:jK c):pE c:=Hd.Hk T lX λF=>
 MA F jv λcdv A outer s H E hr _=>by(conv=>arg 3;whnf);with_reducible exact(qi (sset 2 jv.nd (gf d2 hr (aa (sv 0) ar)))
   (ib (G0 (uM (wL DC DB aM (sv 1) (FC Eo B.Hw EF (aa (sv 2) ar)))) (ib (O5 R.AA bc)) BV)))
theorem mC(R:Xr c)(d3:lz c)(d5:gw c)(d6:sy c)(x3:pE c):iL c:=Hd.Hk T gF λF=>
 MA F aG λcdv A outer s H E hr _=>by(conv=>arg 3;whnf);with_reducible exact(qi (sset 2 aG.nd (sv 0))
   (ib (HJ PassesOwn.leaving rfl (eP (sv 1)) (sgn 3 aG.nd) (ae (eI (gf d3 hr (aa (sv 2) (aa (sv 3) ar))) (kO rfl (bR (sgn 4 aG.nd) (bR (sgn 5 aG.nd) (bR (sgn 6 aG.nd) iR)))))
   (ae (cm (kN (nS hr.units) (six hr (sv 6) aM) bc (jG _)) (aH qy) bP)
   (aH (sset 2 aG.nd (gf d5 hr (aa (sv 2) (aa (sv 4) (aa (sv 5) (aa (cj (aa (gf d6 hr (aa (sv 6) ar)) ar) (ag aA)) ar))))))))) (HI (ib (NF (g:=(gT 3 (au (gN 4) (au (gN 5) (au (gN 6) bV))))) (O6 x3 hr Gb (aa (sv 2) (aa (sv 3) ar))) (kO rfl (bR (sgn 4 aG.nd) (bR (sgn 5 aG.nd) (bR (sgn 6 aG.nd) iR)))))) (qi (eI (gf d3 hr (aa (sv 2) (aa (sv 3) ar))) (kO rfl (bR (sgn 4 aG.nd) (bR (sgn 5 aG.nd) (bR (sgn 6 aG.nd) iR)))))
   (ib (G0 (kN (nS hr.units) (six hr (sv 6) aM) bc (jG _)) (ib (O5 R.AA bc)) BV)))))))
theorem Jz(F:sF (Hd.aB c.h) "law" "law" lO f fd)(m:c.mg "law"=some (.ref f))(RF:Pn c)(d8:ni c)(d23:sA c)(d28:ng c)(d30:jM c)(d29:m9 c)(d31:pz c)(d10:cu c)(d33:nj c)(d7:jo c)(d11:dB c)(x7:iL c):eZ c.l.prog c.w (Hd.aB c.h) c.mg c.base nv 29 f fd Hi (AO (Hd.aB c.h) 1 yf):=
 (Gy F (Hd.Gs T zJ F m) qG λcdv A outer s H E hL hr=>by have:=qG.nd;(conv=>arg 2;whnf);with_reducible exact(ae (by ac_rfl)
   (ae (cS QJ rfl (cC (by unfold Gl;ac_nf) B.dQ (by ac_rfl) (hl:=(ag aA))) (by ac_rfl) (ae (by ac_rfl)
   (ae (by ac_rfl)
   (ae (by ac_rfl)
   (ae (sset 6 qG.nd (dO (N':=["_law_number","_law_lines_here"]) (caps:=[none,some 4]) (bh (by ac_nf)) rfl (cC (by unfold Gl;ac_nf) B.dQ (by ac_rfl) (hl:=(ag aA))) (λ_ _ _ _ _=>(sgn 0 (by show(["_law_number","_law_lines_here"]:List Str).Nodup;decide+kernel))) (λ_ _ _ _ _=>(iQ (by ac_rfl))) (λ_ _ _ _ _=>(sv 0))))
   (ae (sset 7 qG.nd (bj bq (dO (N':=["_law_number","_law_waiting"]) (caps:=[none,some 6]) (bh (by ac_nf)) rfl (cC (by unfold Gl;ac_nf) B.dQ (by ac_rfl) (hl:=(ag aA))) (λ_ _ _ _ _=>(sgn 0 (by show(["_law_number","_law_waiting"]:List Str).Nodup;decide+kernel))) (λ_ _ _ _ _=>(iQ (by ac_rfl))) (λ_ _ _ _ _=>(sv 0))) (by ac_rfl)))
   (aH (cS QJ rfl (eP (lC.lv (dS (aa (by ac_rfl) (aa (by ac_rfl) (aa (Iz mT B.qe mX (aa (dO (N':=["_law_one","_law_state"]) (caps:=[none,some 1]) (bh (by ac_nf)) rfl (eP (sv 6)) (λ_ _ _ _ _=>(sgn 0 (by show(["_law_one","_law_state"]:List Str).Nodup;decide+kernel))) (λ_ _ _ _ _=>(iQ (by ac_rfl))) (λ_ _ _ _ _=>(sv 0))) ar)) ar))) (ag (ag (ag aA)))))) (by ac_rfl) (ae (by ac_rfl)
   (ae (cS QJ rfl (cC (by unfold Gl;ac_nf) B.dQ (by ac_rfl) (hl:=(ag aA))) (by ac_rfl) (by ac_rfl))
   (ae (sset 11 qG.nd (Iz mT B.qe mX (aa (FC BA B.su ow (by ac_rfl)) ar)))
   (aH (cm (kN (nS hr.units) (N3 (k:=13) (Nl:=["_law_program_here","_law_spoilt"]) (caps:=[some 3,some 11]) RF hL hr (by decide) (bh (by ac_nf)) (λ_ _ _ _ _ _ _ _ _ hr=>(O6 x7 hr Ga (by ac_rfl))) (λ_ _ _ _ _ _ _ _ _ hr=>(by ac_rfl))) bc (jG _)) (by ac_rfl) bP)))))))))))))
   (by ac_rfl))))
theorem MW(R:Xr c)(m:c.mg "law"=some (.ref f))(F:sF (Hd.aB c.h) "law" "law" lO f fd)(hF:∀ns:List Int,ns.length<=63->∃h',yf [.ro (ns.map D.int)] []=some (.bl true,h')):eZ c.l.prog c.w (Hd.aB c.h) c.mg c.base nv 29 f fd ["_law_script"] (spT (Hd.aB c.h)):=by
 have d8:=td T B;have d9:=vw T B;have d10:=vt T B d9;have d11:=yN T B d10;have d12:=sX T B d11 d10;have d13:=sW T B d12 d11 d10;have d14:=rm T B d10;have d15:=vp T B d10 d11;have d17:=vz T B d14 d11 d15;have d16:=vv T B d10 d14 d15;obtain⟨d21,d20,d19,d18⟩:=zV T B d10 d11 d17 d15 d16 20;have d22:=pJ T B d13 d21 d11;have d23:=xn T B d22 d11;have d24:=mE T B;have d25:=mF T B d24;have d26:=vy T B d24 d25;have d27:=gJ T B d26 8;have d28:=sZ T B d27;have d30:=pK T B;have d29:=sY T B;have d31:=vq T B;have d33:=tj T B;have d0:=yM T B;have d1:=oZ T B d0 8;have d2:=vo T B d1;have d3:=xm T B d2;have d4:=pd T B  6;have d5:=pI T B d4;have d6:=A9 T B;have d7:=nU T B d3 d5 d6;have RF:=Jy T B;have x3:=vn T B R d2;have x7:=mC T B R d3 d5 d6 x3;exact Gr (Jz T B F m RF d8 d23 d28 d30 d29 d31 d10 d33 d7 d11 x7) hF
end
theorem iC:Hd.freeOk view (["SHAPES"]:List Str) ["ValueError","abs","enumerate","int","isinstance","len","list","max","min","range","sorted","str","tuple"]=true:=by decide+kernel
theorem all_mk{l:PySem.W.OpenLaw}{w:World}{h:Heap}{mg mb:Str->Option Value}{mean:ExcName->Option Value}(T:Top view (PySem.W.looseW view (["SHAPES"]:List Str)) mean mg mb h)
  (Y_SHAPES:Hd.tabAt h "SHAPES"=some (fg.map λx=>(x.1,hashStr w x.1,x.2)))
  (Y_x:Hd.pO h (gz.map (·.1)) pL=Hd.xK gz pL)
  (hF:∀ns:List Int,ns.length<=63->∃h',yf [.ro (ns.map D.int)] []=some (.bl true,h')):
  ∃(fa:Addr)(fd:FuncData),mg "law"=some (.ref fa)/\(∀(s:Shared)(v:Value),BindsTo s fd ⟨[v],[]⟩ [("_law_script",v)])/\∀base:Heap,(Hd.aB h).In base->base.Ns mainGlobals mg->eZ l.prog w (Hd.aB h) mg base nv 29 fa fd ["_law_script"] (spT (Hd.aB h)):=by
 have B:Bs l.prog w (Hd.aB h) mg:=⟨Hd.dw T iC (PX (i:=0) rfl),Hd.dw T iC (PX (i:=1) rfl),Hd.dw T iC (PX (i:=2) rfl),Hd.dw T iC (PX (i:=3) rfl),Hd.dw T iC (PX (i:=4) rfl),Hd.dw T iC (PX (i:=5) rfl),Hd.dw T iC (PX (i:=6) rfl),Hd.dw T iC (PX (i:=7) rfl),Hd.dw T iC (PX (i:=8) rfl),Hd.dw T iC (PX (i:=9) rfl),Hd.dw T iC (PX (i:=10) rfl),Hd.dw T iC (PX (i:=11) rfl),Hd.dw T iC (PX (i:=12) rfl),Hd.tab_of Y_SHAPES T.g (by decide+kernel),Hd.MD T Y_x,Hd.N9 T Y_x (by ac_nf) (by decide+kernel) (UQ.mpr ⟨⟨by ac_nf,_,rfl,by decide+kernel⟩,List.forall_mem_nil _⟩)⟩;obtain⟨f,fd,m,F⟩:=Hd.Ag T zJ;exact⟨f,fd,m,F.one λ_ _ _ _ _ _ _=>rfl,λbase KB _=>MW (c:=⟨l,w,h,mg,base⟩) T B ⟨Hd.Fe T (by ac_nf) KB⟩ m F hF⟩
end Mi
local macro_rules | `(tactic| walk_at $s:str) => let k := s.getString.front;let a := "|Sm.MG|Sm.MN|Sm.Kx|Sm.MJ|Sm.MI|Sm.OM|Sm.OL|Sm.OP|Sm.OO|Sm.ON|Sm.PL|Sm.PN|Sm.MM|Sm.ML|Sm.Ku|Sm.Kv|Sm.fU|Sm.qt|Sm.zN|Sm.C0|Sm.CZ|Sm.xb|Sm.xa|Sm.IP|Sm.LQ|Sm.r_sbrk|Sm.r_scont|Sm.nO|Sm.Oa|Sm.He|Sm.FJ|Sm.cV|Sm.kB|Sm.r_if|Sm.ve|Sm.Ob|Sm.r_dv|Sm.r_do|Sm.iW|Sm.CW|Sm.qY|Sm.IL|Sm.Hb|Sm.LY|Sm.r_or|Sm.r_not|Sm.r_sl|Sm.LO|Sm.LP|Sm.AW|Sm.IT|Sm.iu|Sm.vf|Sm.LX|Sm.IU|Sm.Ou|Sm.Ov|Sm.NK|Sm.t_bk|Sm.t_ct|Sm.OB|Sm.l_ct|Sm.l_bk|Sm.l_rt|Sm.IK|Sm.LW";if k != 'o' && k != 'g' && k != 'r' then Lean.Macro.throwUnsupported else do {let t <- (((if k == 'r' then a ++ "|Sm.Lh|Sm.Lj|Sm.w_add|Sm.w_sub|Sm.w_lt|Sm.w_le|Sm.NG|Sm.NH|Sm.Lq|Sm.w_neI|Sm.Lp|Sm.Lk|Sm.Lo|Sm.Lm|Sm.Ll|Sm.HR|Sm.HS|Sm.yH" else a).splitOn "|").drop 1).toArray.mapM (λn => `(Lean.Parser.Tactic.tacticSeq| refine $(Lean.mkIdent n.toName) ?_));if k == 'o' then `(tactic| with_reducible first $[| $t]*) else `(tactic|((repeat with_reducible first $[| $t]*);(try dsimp only)))}
namespace Mi
open PySem Sm
theorem kQ(hb:0 < b)(q:Q (.int (a % b),h)):Rn (rP (.int a) (.int b) h) Q:=⟨_,by unfold rP;dsimp only;rw[P0 hb],q⟩
theorem IE(hb:0 < b)(hb2:b<=10^40)(q:Q (.int (a / b),h)):Rn (Ea (.int a) (.int b) h) Q:=⟨_,by unfold Ea;dsimp only;rw[P0 ⟨hb,hb2⟩],q⟩
theorem nF(hb:mG a b=true)(q:Q (.int (a*b),h)):Rn (iE (.int a) (.int b) h) Q:=⟨_,by show(if mG a b then _ else _)=_;rw[P0 hb],q⟩
theorem mul_r(h1:-(2^64) < b)(h2:b < 2^64):mG a b=true:=by unfold mG;simp only[RS,Qw,QM];exact .inr ⟨h1,h2⟩
theorem DJ(h1:-(2^64) < a)(h2:a < 2^64):mG a b=true:=by unfold mG;simp only[RS,Qw,QM];exact .inl ⟨h1,h2⟩
theorem Bl{h:MH}{s c:Nat}{cs:List Int}{n t:Int}(hs:h[s]?=some (.lst [.int n,.ob c,.int t]))(hc:h[c]?=some (.lst (cs.map D.int)))(ne:c≠s)(t0:0<=t)(tB:t < 2^60):
  Rn (jO [.ob s] h) λp=>∃n',0<=n'/\p=(.cw,h.set s (.lst [.int n',.ob c,.int (t+1)])):=by
 have hl:s < h.length:=(PV.mp hs).1;generalize hH:h.set s (.lst [.int n,.ob c,.int (t+1)])=H;have Hs:H[s]?=some (.lst [.int n,.ob c,.int (t+1)]):=by rw[<-hH];exact QA hl
 have Hc:H[c]?=some (.lst (cs.map D.int)):=by rw[<-hH,QK (Rl ne)];exact hc
 have set0:∀v:Int,tw (.ob s) (.int 0) (.int v) H=some (h.set s (.lst [.int v,.ob c,.int (t+1)])):=λv=>by
  rw[mO (p:=0) Hs rfl,<-hH,List.set_set];rfl
 have e3:tw (.ob s) (.int 2) (.int (t+1)) h=some H:=by rw[mO (p:=2) hs rfl,<-hH];rfl
 have e4:dE [.ob c] H=some (.int cs.length,H):=by rw[vM Hc,PU]
 refine bU ?_;walk_at "g";refine rv (gZ hs rfl) ?_;walk_at "g";refine rv (gZ hs rfl) ?_;walk_at "g";refine rv rfl ?_;walk_at "g";refine rv e3 ?_;walk_at "g";refine rv (ud Hc) ⟨_,rfl,λhne=>?pos,λhne=>?neg⟩
 case' pos=>
  have hpos:0 < cs.length:=by cases cs with | nil=>simp at hne | cons _ _=>simp
  walk_at "g";refine rv e4 (kQ (by lia) ?_);obtain⟨z,hz⟩:=EN cs (t % (cs.length:Int)) (Q4 _ (by lia)) (Ru _ (by lia));refine rv (gZ Hc hz) ?_
 all_goals
  walk_at "g";refine rv e4 (rv rfl ⟨_,rfl,?_⟩);refine(λmix=>⟨λc1=>?thenA,λ_=>⟨λz=>(nomatch z),λ_=>mix⟩⟩) ?thenB
  case thenA=>
   walk_at "g";refine rv rfl ?_;walk_at "g";refine rv rfl (rv rfl ⟨_,rfl,λc2=>?_,λ_=>mix⟩);walk_at "g";refine rv rfl ?_;walk_at "g";refine rv (set0 _) ?_;walk_at "g";exact⟨_,by split <;> lia,rfl⟩
  case thenB=>
   walk_at "g";refine kQ (by decide) ?_;walk_at "g";refine nF (DJ (by decide) (by decide)) ?_;walk_at "g";refine nF (mul_r (by lia) (by lia)) (rv rfl ?_);walk_at "g";refine rv rfl ?_;walk_at "g";refine nF (mul_r (by decide) (by decide)) ?_;walk_at "g";refine kQ (by decide) ?_;walk_at "g";refine nF (DJ (Int.lt_of_lt_of_le (by decide) (Q4 _ (by decide))) (Int.lt_trans (Ru _ (by decide)) (by decide))) ?_;walk_at "g";refine kQ (by decide) ?_;walk_at "g";refine nF (mul_r (by decide) (by decide)) ?_;walk_at "g";refine rv rfl ?_;walk_at "g";refine rv rfl ?_;walk_at "g";refine kQ (by decide) ?_;walk_at "g";refine rv rfl (rv rfl ?_);walk_at "g";refine rv (set0 _) ?_;walk_at "g";exact⟨_,Int.add_nonneg (Q4 _ (by decide)) (by decide),rfl⟩
structure St(s c:Nat)(cs:List Int)(R:Nat)(h:MH):Prop where
 st:∃n t:Int,h[s]?=some (.lst [.int n,.ob c,.int t])/\0<=n/\0<=t/\t+R<=2^60
 ce:h[c]?=some (.lst (cs.map D.int))
 ne:c≠s
def sG(s:Nat)(h h':MH):Prop:=h'.length=h.length/\∀k,k≠s->h'[k]?=h[k]?
theorem sG.refl(s:Nat)(h:MH):sG s h h:=⟨rfl,λ_ _=>rfl⟩
theorem sG.trans(a:sG s h h1)(b:sG s h1 h2):sG s h h2:=⟨b.1.trans a.1,λk n=>(b.2 k n).trans (a.2 k n)⟩
theorem sG.set:sG s h (h.set s o):=⟨QY,λk n=>QK (Rl n)⟩
section
variable {s c R:Nat} {cs:List Int} {h:MH}
theorem St.le(S:St s c cs R h)(hB:R'<=R):St s c cs R' h:=by
 obtain⟨n,t,e,a,b,d⟩:=S.st;exact⟨⟨n,t,e,a,b,by lia⟩,S.ce,S.ne⟩
theorem St.dn(k:Nat)(S:St s c cs (R+k) h):St s c cs R h:=S.le (Qr _ _)
theorem St.set{R':Nat}{n t:Int}(S:St s c cs R h)(h1:0<=n)(h2:0<=t)(h3:t+R'<=2^60):St s c cs R' (h.set s (.lst [.int n,.ob c,.int t])):=by
 obtain⟨n0,t0,e,_⟩:=S.st;exact⟨⟨n,t,QA (PV.mp e).1,h1,h2,h3⟩,by rw[QK (Rl S.ne)];exact S.ce,S.ne⟩
theorem St.more(S:St s c cs R h)(g:MH):St s c cs R (h++g):=by
 obtain⟨n,t,e,r⟩:=S.st;exact⟨⟨n,t,by rw[P8 (PV.mp e).1];exact e,r⟩,by rw[P8 (PV.mp S.ce).1];exact S.ce,S.ne⟩
theorem St.off(S:St s c cs R h)(h1:k≠s)(h2:k≠c):St s c cs R (h.set k o):=by
 obtain⟨n,t,e,r⟩:=S.st;exact⟨⟨n,t,by rw[QK h1];exact e,r⟩,by rw[QK h2];exact S.ce,S.ne⟩
theorem St.lt(S:St s c cs R h):s < h.length/\c < h.length:=by
 obtain⟨n,t,e,r⟩:=S.st;exact⟨(PV.mp e).1,(PV.mp S.ce).1⟩
structure Sb(s c:Nat)(cs:List Int)(h0:MH)(R:Nat)(h:MH):Prop where
 S:St s c cs R h
 b:sG s h0 h
theorem St.sb(S:St s c cs R h):Sb s c cs h R h:=⟨S,sG.refl _ _⟩
theorem Sb.dn(k:Nat)(A:Sb s c cs h0 (R+k) h):Sb s c cs h0 R h:=⟨A.S.dn k,A.b⟩
theorem Sb.le(A:Sb s c cs h0 R h)(hR:R'<=R):Sb s c cs h0 R' h:=⟨A.S.le hR,A.b⟩
theorem Sb.at_(A:Sb s c cs h0 R h)(e:h0[k]?=some o)(n:k≠s):h[k]?=some o:=(A.b.2 k n).trans e
variable {h0:MH}
theorem fv{m:Int}{Q:D×MH->Prop}(A:Sb s c cs h0 (R+1) h)(m0:0 < m)(m1:m<=10^40)(k:∀(r:Int)(h1:MH),0<=r->r < m->Sb s c cs h0 R h1->Q (.int r,h1)):Rn (aP [.ob s,.int m] h) Q:=by
 have S:=A.S;obtain⟨n,t,hs,n0,t0,tB⟩:=S.st;refine bU ?_;walk_at "g";refine rv (gZ hs rfl) ?_;walk_at "g";refine rv rfl ⟨_,rfl,λ_=>?pos,λ_=>?neg⟩
 case' pos=>
  walk_at "g";obtain⟨p,ep,n',n0',rfl⟩:=Bl hs S.ce S.ne t0 (by lia);refine rv ep ?_;have S1:St s c cs R (h.set s (.lst [.int n',.ob c,.int (t+1)])):=S.set n0' (by lia) (by lia);have b1:sG s h (h.set s (.lst [.int n',.ob c,.int (t+1)])):=sG.set
 case' neg=>
  have S1:St s c cs R h:=S.dn 1;have b1:sG s h h:=sG.refl s h
 all_goals
  generalize h.set s (MO.lst [D.int _,D.ob c,D.int (t+1)])=h1 at*;obtain⟨n2,t2,hs2,n02,t02,tB2⟩:=S1.st;walk_at "g";refine rv (gZ hs2 rfl) ?_;walk_at "g";refine kQ m0 ?_;walk_at "g";refine rv (gZ hs2 rfl) ?_;walk_at "g";refine IE m0 m1 ?_;walk_at "g";refine rv (mO (p:=0) hs2 rfl) ?_;walk_at "g";exact k _ _ (Q4 _ (by lia)) (Ru _ m0) ⟨S1.set (Int.ediv_nonneg n02 (by lia)) t02 tB2,A.b.trans (b1.trans sG.set)⟩
theorem EB(A:Sb s c cs h0 (R+1) h)(hd:d=.lv xs\/d=.tup xs)(l0:0 < xs.length)(l1:xs.length<=1000000)(k:∀(x:D)(h1:MH),x∈xs->Sb s c cs h0 R h1->Q (x,h1)):Rn (aT [.ob s,d] h) Q:=by
 refine bU ?_;walk_at "g";have e1:dE [d] h=some (.int xs.length,h):=by rcases hd with rfl | rfl <;> rfl
 refine rv e1 ?_;walk_at "g";refine fv A (by lia) (by lia) λr h' r0 r1 A1=>?_;obtain⟨v,e3,hv⟩:=EK r0 r1;have e4:aW d (.int r) h'=some (v,h'):=by rcases hd with rfl | rfl <;> simp only[aW,eC,dH,Qv,e3,QF]
 refine rv e4 ?_;walk_at "g";exact k v h' hv A1
theorem kJ{is:List Int}{Q:D×MH->Prop}(P:Int->Prop)(hP:∀i∈is,P i)(A:Sb s c cs h0 (R+1) h)(k:∀(i:Int)(h1:MH),P i->i∈is->Sb s c cs h0 R h1->Q (.int i,h1))(l0:0 < is.length:=by simp)(l1:is.length<=1000:=by simp):Rn (aT [.ob s,.lv (is.map D.int)] h) Q:=
 EB A (.inl rfl) (by rw[PU];exact l0) (by rw[PU];lia) λx h1 hx A1=>by
  obtain⟨i,hi,rfl⟩:=QG.mp hx;exact k i h1 (hP i hi) hi A1
end
theorem zc(ns:List Int)(hn:ns.length<=63)(R:Nat)(hR:R<=2^60):∃cs:List Int,gc [.ro (ns.map D.int)] []=some (.ob 1,[.lst (cs.map D.int),.lst [.int 0,.ob 0,.int 0]])/\St 1 0 cs R [.lst (cs.map D.int),.lst [.int 0,.ob 0,.int 0]]:=by
 refine⟨(ns.drop (HT.cN ns.length 0 none)).take (HT.cN ns.length ns.length (some 63)-HT.cN ns.length 0 none),?_,⟨⟨0,0,rfl,by decide,by decide,by lia⟩,rfl,by decide⟩⟩;have e:Rn (gc [.ro (ns.map D.int)] []) λp=>p=(.ob 1,[.lst (((ns.drop (HT.cN ns.length 0 none)).take (HT.cN ns.length ns.length (some 63)-HT.cN ns.length 0 none)).map D.int),.lst [.int 0,.ob 0,.int 0]]):=by
  refine bU ?_;walk_at "g";refine IQ ?_;walk_at "g";refine⟨_,rfl,rv rfl ?_⟩;walk_at "g";refine⟨_,_,_,rfl,rfl,?_⟩;walk_at "g";simp only[cutD,PU,Um,TF,Rz,Q3,QE,P2]
 obtain⟨p,ep,rfl⟩:=e;exact ep
end Mi
namespace Mi
open PySem Sm L2
theorem bF(hl:a.length+b.length<=10000):ax (.str a) (.str b) h=some (.str (a++b),h):=by
 show(if a.length+b.length<=sizeLine then some (D.str (a++b),h) else none)=_;rw[P0 (by rw[show sizeLine=16777216 from rfl];lia)]
theorem D9(hl:a.length<=10000):dE [.str a] h=some (.int a.length,h):=by
 show(if a.length<=sizeLine then some (D.int a.length,h) else none)=_;rw[P0 (by rw[show sizeLine=16777216 from rfl];lia)]
theorem xI(hl:a.length<=10000):i8 (.str a) lo hi h=some (.str (Txt.slice a lo hi),h):=by
 show(if a.length<=sizeLine then some (D.str (Txt.slice a lo hi),h) else none)=_;rw[P0 (by rw[show sizeLine=16777216 from rfl];lia)]
noncomputable def sm(z:Str)(i:Int):Str:=match g9 z.cps.toList i with
 | some c=>⟨#[c]⟩
 | none=>""
theorem GC(hl:z.length<=10000)(h0:0<=i)(h1:i < z.cps.toList.length):(sm z i).length=1/\aW (.str z) (.int i) h=some (.str (sm z i),h):=by
 obtain⟨v,e,_⟩:=EK (xs:=z.cps.toList) h0 h1;have e1:sm z i=⟨#[v]⟩:=by unfold sm;rw[e]
 rw[e1];refine⟨rfl,?_⟩;show(if z.length<=sizeLine then(g9 z.cps.toList i).map λc=>(D.str ⟨#[c]⟩,h) else none)=_;rw[P0 (by rw[show sizeLine=16777216 from rfl];lia),e];rfl
noncomputable def fF:Str:="abcdefghijklmnopqrstuvwxyz"
theorem k8(h0:0<=i)(h1:i < 26):(sm fF i).length=1/\aW (.str "abcdefghijklmnopqrstuvwxyz") (.int i) h=some (.str (sm fF i),h):=
 GC (z:=fF) (by decide) h0 (by rw[show(fF.cps.toList.length:Int)=26 by decide];exact h1)
def low(w:Str):Prop:=∀c∈w.cps,97<=c/\c<=122
theorem Gn:low "":=λc hc=>absurd (show c∈(#[]:Array Nat) from hc) (by simp)
theorem vC(ha:low a)(hb:low b):low (a++b):=by
 intro c hc;have hc':c∈a.cps++b.cps:=hc;rcases Array.mem_append.mp hc' with z | z
 ·exact ha c z
 ·exact hb c z
theorem tZ(l u:Option Int)(h:low x):low (Txt.slice x l u):=by
 unfold Txt.slice
 split
 ·exact h
 ·intro c hc;have hc':c∈(List.filterMap (x.cps[·]?) (Builtin.Str.strSliceIndices l u 1 x.length)).toArray:=hc;rw[List.mem_toArray] at hc';obtain⟨i,_,e⟩:=Rt.mp hc';exact h c (UJ e)
theorem JJ(h:low w):PyData.strOk w=true:=jS.mpr λc hc=>by have:=(h c hc).2;exact Q6 this (by decide)
theorem yV:fF.cps.toList=(List.range 26).map (97+·):=by decide+kernel
theorem vS(h0:0<=i)(h1:i < 26):sm fF i=⟨#[97+i.toNat]⟩:=by
 obtain⟨n,rfl⟩:=Rg h0;have:g9 fF.cps.toList (n:Int)=some (97+n):=by
  rw[yV];exact qf (by rw[Qg,List.getElem?_range (by exact Ti.mp h1)];rfl)
 unfold sm;rw[this];rfl
theorem xY(h0:0<=i)(h1:i < 26):low (sm fF i):=by
 rw[vS h0 h1];intro c hc;have:c=97+i.toNat:=by simpa using hc
 lia
theorem wQ(h0:0<=j):(Txt.slice x none (some j)).length<=j.toNat:=by
 have key:(Builtin.Str.strSliceIndices none (some j) 1 x.length).length<=j.toNat:=by
  unfold Builtin.Str.strSliceIndices sliceRange;simp only[show(1:Int) > 0 by decide,Sj,PU,Qy]
  (split <;> (try split) <;> (try split) <;> (try simp only[TU]) <;> lia)
 unfold Txt.slice
 split
 ·next z=>simp at z;have:x.cps.size=x.length:=rfl;lia
 ·show(List.filterMap _ (Builtin.Str.strSliceIndices none (some j) 1 x.length)).toArray.size<=_;rw[Qe];exact P6 (Tb _ _) key
theorem wO(h0:0<=j):(Txt.slice x (some j) none).length<=x.length-j.toNat:=by
 have key:(Builtin.Str.strSliceIndices (some j) none 1 x.length).length<=x.length-j.toNat:=by
  unfold Builtin.Str.strSliceIndices sliceRange;simp only[show(1:Int) > 0 by decide,Sj,PU,Qy]
  (split <;> (try split) <;> (try split) <;> (try simp only[TU]) <;> lia)
 unfold Txt.slice
 split
 ·next z=>simp at z;have:x.cps.size=x.length:=rfl;lia
 ·show(List.filterMap _ (Builtin.Str.strSliceIndices (some j) none 1 x.length)).toArray.size<=_;rw[Qe];exact P6 (Tb _ _) key
theorem zl{a b x y:Str}(e:a++x++b=a++y++b):x=y:=by
 have e1:(a.cps++x.cps)++b.cps=(a.cps++y.cps)++b.cps:=congrArg Str.cps e;have e2:=congrArg Array.toList e1;simp only[RG] at e2;have e3:=List.append_cancel_left (List.append_cancel_right e2);cases x;cases y;exact congrArg Str.mk (Array.toList_inj.mp e3)
noncomputable def wordAt(stem:Str)(at_ first stride:Int)(k:Int):Str:=Txt.slice stem none (some at_)++sm fF ((first+stride*k) % 26)++Txt.slice stem (some at_) none
theorem B6{stem:Str}{at_ first stride:Int}{k j:Nat}(hs:stride∈[1,3,5,7,9,11])(hk:k < 6)(hj:j < 6)(e:wordAt stem at_ first stride k=wordAt stem at_ first stride j):k=j:=by
 have e1:=zl (show Txt.slice stem none (some at_)++_++Txt.slice stem (some at_) none=Txt.slice stem none (some at_)++_++_ from e);rw[vS (Q4 _ (by decide)) (Ru _ (by decide)),vS (Q4 _ (by decide)) (Ru _ (by decide))] at e1;have e2:97+((first+stride*k) % 26).toNat=97+((first+stride*j) % 26).toNat:=by injection e1 with e1;injection e1 with e1;injection e1
 have e3:(first+stride*k) % 26=(first+stride*j) % 26:=by
  have a1:=Q4 (first+stride*k) (show(26:Int)≠0 by decide);have a2:=Q4 (first+stride*j) (show(26:Int)≠0 by decide);rw[<-SO a1,<-SO a2,Nat.add_left_cancel e2]
 have e4:=Int.emod_eq_emod_iff_emod_sub_eq_zero.mp e3;rw[show first+stride*(k:Int)-(first+stride*(j:Int))=stride*((k:Int)-(j:Int)) by rw[Int.mul_sub,Int.add_sub_add_left]] at e4;exact(by decide:∀s∈([1,3,5,7,9,11]:List Int),∀k:Nat,k < 6->∀j:Nat,j < 6->(s*((k:Int)-(j:Int))) % 26=0->k=j) stride hs k hk j hj e4
theorem vX{h:MH}{s c R:Nat}{cs:List Int}{m:Int}{h0:MH}{Q:D×MH->Prop}(A:Sb s c cs h0 (R+20) h)(m0:0<=m)(m1:m<=6)
  (kk:∀(ws:List Str)(h1:MH),ws.length=m.toNat->(∀w∈ws,1<=w.length/\w.length<=7/\low w)->ws.Nodup->Sb s c cs h0 R h1->Q (.lv (ws.map D.str),h1)):Rn (eW [.ob s,.int m] h) Q:=by
 refine bU ?_;walk_at "g";refine gj ?_;walk_at "g";refine kJ (is:=[0,1,1,2,3,6]) (λi=>0<=i/\i<=6) (by decide) A λk h1 hk _ A1=>?_;walk_at "g";refine⟨k,rfl,by exact Ra (by decide) hk.1,by exact RO hk.2 (by decide),?_⟩;refine cU (λi δ h'=>∃stem d4,δ=[some (.ob s),some (.int m),some (.str "abcdefghijklmnopqrstuvwxyz"),some (.str stem),d4,none,none,none]/\stem.length<=i/\low stem/\Sb s c cs h0 (R+19-i) h')
  ⟨"",_,rfl,PZ _,Gn,A1⟩ (λ_ _ _ _ _=>rfl) ?_ ?_
 ·rintro i x δ h2 hx ⟨stem,d4,rfl,hst,ba,A2⟩;have hi:i < k.toNat:=by
   have:=(PV.mp hx).1
   simpa using this
  rw[show R+19-i=R+19-(i+1)+1 by lia] at A2;walk_at "g";refine fv A2 (by decide) (by decide) λr h3 r0 r1 A3=>?_;walk_at "g";obtain⟨hc,e4⟩:=k8 (h:=h3) r0 r1;refine rv e4 ?_;walk_at "g";refine rv (bF (by lia)) ?_;walk_at "g";exact⟨stem++sm fF r,_,rfl,by rw[Qu];lia,vC ba (xY r0 r1),A3⟩
 ·rintro δ h2 ⟨stem,d4,rfl,hst,ba,A2⟩;rw[PU,Qy] at hst A2;have A2:Sb s c cs h0 (R+3) h2:=A2.le (by lia);walk_at "g";refine rv (D9 (by lia)) ?_;walk_at "g";refine rv (a:=(.int ((stem.length:Int)+1),h2)) rfl ?_;walk_at "g";refine fv A2 (by simp) (by lia) λat_ h3 a0 a1 A3=>?_
  walk_at "g";refine fv A3 (by decide) (by decide) λfirst h4 f0 f1 A4=>?_
  walk_at "g";refine kJ (is:=[1,3,5,7,9,11]) (λi=>0<=i/\i<=11) (by decide) A4 λstride h5 ht tm A5=>?_;obtain⟨t0,t1⟩:=ht;walk_at "g";refine gj ?_;walk_at "g";refine⟨m,rfl,by exact Ra (by decide) m0,by exact RO m1 (by decide),?_⟩;have hw:∀k:Int,1<=(wordAt stem at_ first stride k).length/\(wordAt stem at_ first stride k).length<=7/\low (wordAt stem at_ first stride k):=by
   intro k;have c0:=Q4 (first+stride*k) (show(26:Int)≠0 by decide);have c1:=Ru (first+stride*k) (show(0:Int) < 26 by decide);obtain⟨hc,e⟩:=k8 (i:=(first+stride*k) % 26) (h:=[]) c0 c1;have s1:=wQ (x:=stem) a0;have s2:=wO (x:=stem) a0;have s3:low (wordAt stem at_ first stride k):=vC (vC (tZ _ _ ba) (xY c0 c1)) (tZ _ _ ba);refine(λ(z:_/\_)=>⟨z.1,z.2,s3⟩) ?_;unfold wordAt;rw[Qu,Qu]
   lia
  refine rv (vg rfl (λx=>match x with | .int k=>some (.str (wordAt stem at_ first stride k)) | _=>none) (λδ=>∃d0,δ=[d0,some (.int at_),some (.int first),some (.str "abcdefghijklmnopqrstuvwxyz"),some (.str stem),some (.int stride)]) ⟨_,rfl⟩ ?_) ⟨?_,?_⟩
  ·rintro x hx δ ⟨d0,rfl⟩;obtain⟨k,hk,rfl⟩:=QG.mp hx;refine rv rfl ⟨rfl,rv rfl ⟨rfl,⟨_,rfl⟩,λ_=>⟨_,rfl,?_⟩,λz=>(nomatch z)⟩⟩;refine nO (nO (yH ?_));walk_at "g";refine⟨_,rfl,rv (xI (a:=stem) (by lia)) ?_⟩;walk_at "g";refine nF (DJ (by exact Ra (by decide) t0) (by exact RO t1 (by decide))) ?_;refine rv (a:=(.int (first+stride*(k:Int)),h5)) rfl ?_;walk_at "g";refine kQ (by decide) ?_;obtain⟨hc,e⟩:=k8 (i:=(first+stride*(k:Int)) % 26) (h:=h5) (Q4 _ (by decide)) (Ru _ (by decide));have s1:=Ud stem none (some at_);have s2:=Ud stem (some at_) none;refine rv e (rv (bF (by lia)) ?_);refine yH ?_;walk_at "g";refine⟨_,rfl,?_⟩;walk_at "g";refine rv (xI (a:=stem) (by lia)) (rv (bF (by rw[Qu];lia)) ?_);rfl
  ·rw[RN];exact P6 (Tb _ _) (by rw[Qy,show sizeLine=16777216 from rfl];lia)
  ·walk_at "g";rw[show List.filterMap (λx=>match x with | D.int k=>some (D.str (wordAt stem at_ first stride k)) | _=>none) ((List.range m.toNat).map λ(k:Nat)=>D.int k)=((List.range m.toNat).map λ(k:Nat)=>wordAt stem at_ first stride (k:Int)).map D.str by
    rw[RN,Q9];exact congrFun (UI (f:=D.str∘λ(k:Nat)=>wordAt stem at_ first stride (k:Int))) _]
   refine kk _ h5 (by simp) (λw hw'=>?_) ?_ A5
   ·obtain⟨k,_,rfl⟩:=QG.mp hw';exact hw k
   ·rw[List.nodup_iff_pairwise_ne,U1];refine(List.nodup_range (n:=m.toNat)).imp_of_mem λ{a b} ha hb hab e=>hab ?_;have:=Q1.mp ha;have:=Q1.mp hb;exact B6 tm (by lia) (by lia) e
theorem sG.app{s:Nat}{hb h2:MH}{o:MO}(b:sG s (hb++[o]) h2)(hs:s < hb.length):∃hb',h2=hb'++[o]/\sG s hb hb':=by
 have hl:h2.length=hb.length+1:=by rw[b.1];simp
 refine⟨h2.take hb.length,?_,by rw[Qj];lia,λk hk=>?_⟩
 ·refine U4 λk=>?_
  by_cases z:k < hb.length
  ·rw[P8 (by rw[Qj];lia),Qz z]
  ·by_cases z2:k=hb.length
   ·subst z2;rw[b.2 _ (by exact SR hs),Qa (PZ _),Qa (by rw[Qj];lia),Qj];rw[show min hb.length h2.length=hb.length by lia]
   ·rw[QU (by lia),QU (by rw[Qb,Qj];simp;lia)]
 ·by_cases z:k < hb.length
  ·rw[Qz z,b.2 k hk,P8 z]
  ·rw[QU (by rw[Qj];lia),QU (by exact Rq z)]
theorem St.cut{s c:Nat}{cs:List Int}{B:Nat}{hb g:MH}(S:Mi.St s c cs B (hb++g))(h1:s < hb.length)(h2:c < hb.length):Mi.St s c cs B hb:=by
 obtain⟨n,t,e,r⟩:=S.st;have e2:=S.ce;rw[P8 h1] at e;rw[P8 h2] at e2;exact⟨⟨n,t,e,r⟩,e2,S.ne⟩
def Cl(h:MH):Prop:=∀o∈h,yh h.length o=true
theorem Aq(n:Nat):∀js:List Int,fI n (js.map D.int)=true
 | []=>rfl
 | j::r=>by rw[Qc];show(g0 n (.int _)&&fI n _)=true;rw[Aq n r];rfl
theorem Cl.but{s c:Nat}{cs:List Int}{B:Nat}{h h':MH}(C:Cl h)(S:Mi.St s c cs B h')(b:sG s h h'):Cl h':=by
 intro o ho;obtain⟨k,hk⟩:=Sx.mp ho
 by_cases z:k=s
 ·subst z;obtain⟨n,t,e,_⟩:=S.st;rw[e] at hk;cases hk;show(true&&(decide (c < h'.length)&&(true&&true)))=true;rw[Qx S.lt.2];rfl
 ·rw[b.2 k z] at hk;rw[b.1];exact C o (PX hk)
theorem rE{h hb g:MH}{d:D}(hl:hb.length=h.length)(C:Cl hb)(h1:∀n,d≠.ob n)(h2:g0 h.length d=true):leave h d (hb++g)=some (d,hb):=by
 have h3:yp h.length (hb++g) d=d:=by
  cases d with
  | ob n=>exact absurd rfl (h1 n)
  | _=>rfl
 unfold leave;rw[h3,<-hl,SF (PZ _),QT,hl,h2];have:(hb.all (yh h.length))=true:=by
  rw[RI];intro o ho;rw[<-hl];exact C o ho
 rw[this,Bool.or_true];rfl
theorem OK{n:Nat}{o:MO}{h:MH}(e:h[n]?=some o):mV [(n,o)] h=true:=by
 unfold mV;rw[e];dsimp only;rw[uw];rfl
theorem Cl.add{h:MH}(C:Cl h){o:MO}(ho:yh (h.length+1) o=true)(up:∀o∈h,yh h.length o=true->yh (h.length+1) o=true):Cl (h++[o]):=by
 intro x hx;rw[Qb,Tp];rcases Qk.mp hx with z | z
 ·exact up x z (C x z)
 ·rw[Qd.mp z];exact ho
mutual
theorem Ex{n m:Nat}(hm:n<=m):∀d:D,g0 n d=true->g0 m d=true
 | .cw,_=>rfl
 | .bl _,_=>rfl
 | .int _,_=>rfl
 | .str _,_=>rfl
 | .ty _,_=>rfl
 | .ob k,h=>by simp only[g0,QM] at h ⊢;exact P6 h hm
 | .tup xs,h=>by simp only[g0] at h ⊢;exact lx hm xs h
 | .lv xs,h=>by simp only[g0] at h ⊢;exact lx hm xs h
 | .ro xs,h=>by simp only[g0] at h ⊢;exact lx hm xs h
 | .dv xs,h=>by simp only[g0] at h ⊢;exact zg hm xs h
theorem lx{n m:Nat}(hm:n<=m):∀d:List D,fI n d=true->fI m d=true
 | [],_=>rfl
 | x::r,h=>by
  simp only[fI,Qw] at h ⊢;exact⟨Ex hm x h.1,lx hm r h.2⟩
theorem zg{n m:Nat}(hm:n<=m):∀d:List (Key×D),GN n d=true->GN m d=true
 | [],_=>rfl
 |(_,x)::r,h=>by
  simp only[GN,Qw] at h ⊢;exact⟨Ex hm x h.1,zg hm r h.2⟩
end
theorem Kr{n m:Nat}(hm:n<=m)(o:MO)(h:yh n o=true):yh m o=true:=by
 cases o with
 | lst xs=>exact lx hm xs h
 | dct xs=>exact zg hm xs h
 | dcH xs=>have h:=Qp.mp h;exact Qp.mpr ⟨lx hm _ h.1,lx hm _ h.2⟩
 | exc _=>rfl
theorem Cl.snoc{h:MH}(C:Cl h){o:MO}(ho:yh (h.length+1) o=true):Cl (h++[o]):=C.add ho λx _ z=>Kr (Se _) x z
theorem Cl.set{h:MH}(C:Cl h){n:Nat}{o:MO}(ho:yh h.length o=true):Cl (h.set n o):=by
 intro x hx;rw[QY];rcases List.mem_or_eq_of_mem_set hx with z | z
 ·exact C x z
 ·rw[z];exact ho
theorem Ks{n:Nat}:∀{xs:List D},(∀x∈xs,g0 n x=true)->fI n xs=true
 | [],_=>rfl
 | x::r,h=>by
  show(g0 n x&&fI n r)=true;rw[h x P1,Ks λy hy=>h y (P4 _ hy)];rfl
end Mi
namespace Sm
open PySem L2
theorem bM{α:Type}{o:Option α}{a:α}(r:Rn o λp=>p=a):o=some a:=let⟨_,e,q⟩:=r;by rw[e,q]
theorem rW(hl:xs.length+ys.length<=10000):ax (.tup xs) (.tup ys) h=some (.tup (xs++ys),h):=by
 cases xs with
 | nil=>rfl
 | cons x xs=>
  show(if xs.length+1+ys.length<=sizeLine then some (D.tup (x::xs++ys),h) else none)=_;rw[P0 (by rw[show sizeLine=16777216 from rfl];rw[P2] at hl;exact P6 hl (by decide))]
end Sm
namespace Mi
open PySem Sm L2 Pg
noncomputable def nu(W:Wd)(fl:List Int)(left odd:Int):MO:=.dct [(.inr (Str.ofString "names"),.lv (W.names.map D.str)),(.inr (Str.ofString "deeds"),.lv (W.ai.map D.str)),(.inr (Str.ofString "params"),.lv (W.params.map λps=>.lv (ps.map D.str))),(.inr (Str.ofString "floors"),.lv (fl.map D.int)),(.inr (Str.ofString "left"),.int left),(.inr (Str.ofString "odd"),.int odd)]
structure ly(W:Wd)(fl:List Int)(odd:Int):Prop where
 n1:1<=W.names.length
 n2:W.names.length<=6
 d1:1<=W.ai.length
 d2:W.ai.length<=6
 pl:W.params.length=W.ai.length
 p3:∀ps∈W.params,ps.length<=3
 OH:fl.length=W.ai.length
 f0:∀f∈fl,0<=f/\f < W.names.length
 o0:0<=odd
 o1:odd<=1000
 sn:∀w∈W.names,1<=w.length/\w.length<=7/\low w
 sd:∀w∈W.ai,1<=w.length/\w.length<=7/\low w
 sp:∀ps∈W.params,∀w∈ps,1<=w.length/\w.length<=7/\low w
 nn:W.names.Nodup
 nd:W.ai.Nodup
 np:∀ps∈W.params,ps.Nodup
section
variable {h:MH} {wd:Nat} {W:Wd} {fl:List Int} {left odd:Int}
theorem eF(hw:h[wd]?=some (nu W fl left odd)):aW (.ob wd) (.str (Str.ofString "names")) h=some (.lv (W.names.map D.str),h):=by simp only[aW,eC,hw,nu];rfl
theorem eG(hw:h[wd]?=some (nu W fl left odd)):aW (.ob wd) (.str (Str.ofString "deeds")) h=some (.lv (W.ai.map D.str),h):=by simp only[aW,eC,hw,nu];rfl
theorem di(hw:h[wd]?=some (nu W fl left odd)):aW (.ob wd) (.str (Str.ofString "params")) h=some (.lv (W.params.map λps=>.lv (ps.map D.str)),h):=by simp only[aW,eC,hw,nu];rfl
theorem nz(hw:h[wd]?=some (nu W fl left odd)):aW (.ob wd) (.str (Str.ofString "floors")) h=some (.lv (fl.map D.int),h):=by simp only[aW,eC,hw,nu];rfl
theorem pQ(hw:h[wd]?=some (nu W fl left odd)):aW (.ob wd) (.str (Str.ofString "left")) h=some (.int left,h):=by simp only[aW,eC,hw,nu];rfl
theorem yl(hw:h[wd]?=some (nu W fl left odd)):aW (.ob wd) (.str (Str.ofString "odd")) h=some (.int odd,h):=by simp only[aW,eC,hw,nu];rfl
theorem B8(hw:h[wd]?=some (nu W fl left odd))(v:Int):tw (.ob wd) (.str (Str.ofString "left")) (.int v) h=some (h.set wd (nu W fl v odd)):=by
 have h1:(6:Nat) < sizeLine:=by decide
 simp only[tw,hw,nu,vF,Qv,P2,Rz];rw[P0 h1];rfl
end
section
variable {h h0:MH} {s c wd R:Nat} {cs:List Int} {W:Wd} {fl:List Int} {left odd:Int} {Q:D×MH->Prop}
theorem EC(A:Sb s c cs h0 (R+1) h)(hw:h[wd]?=some (nu W fl left odd))(ok:ly W fl odd)(k:∀(b:Bool)(h1:MH),Sb s c cs h0 R h1->Q (.bl b,h1)):Rn (dM [.ob s,.ob wd] h) Q:=by
 refine bU ?_;nofun;refine rv (yl hw) ?_;nofun;refine⟨_,rfl,λz=>?_,λz=>?_⟩
 ·nofun;refine rv (yl hw) ?_;nofun;refine fv A (QX z) (by have:=ok.o1;exact Ra this (by decide)) λm h1 _ _ A1=>?_;nofun;exact k _ _ A1
 ·nofun;exact k _ _ (A.dn 1)
theorem vY{ps:List Str}(A:Sb s c cs h0 (R+4) h)(hp:ps.length<=3)(k:∀(t:Term)(h1:MH),dD ps t->t.2<=40->Sb s c cs h0 R h1->Q (br t,h1)):Rn (bX [.ob s,.lv (ps.map D.str)] h) Q:=by
 refine bU ?_;nofun;refine fv A (by decide) (by decide) λm h1 m0 m1 A1=>?_;nofun;have plain:∀{h2:MH} {P:D×MH->Prop},Sb s c cs h0 (R+1) h2->(∀(i:Int)(h3:MH),-40<=i/\i<=40->Sb s c cs h0 R h3->P (.int i,h3))->Rn (aT [.ob s,.lv [.int 0,.int 0,.int 1,.int 1,.int 2,.int 3,.int (-1),.int (m-40)]] h2) P:=λA2 kk=>
  kJ (is:=[0,0,1,1,2,3,-1,m-40]) (λi=>-40<=i/\i<=40) (by intro x hx;simp at hx;lia) A2 λi h3 hi _ A3=>kk i h3 hi A3
 refine⟨_,rfl,λz=>?_,λz=>⟨λz=>(nomatch z),λ_=>?_⟩⟩
 ·have z:0 < ps.length:=by simpa using z
  nofun;refine fv A1 (by decide) (by decide) λm2 h2 _ _ A2=>?_;nofun;refine⟨_,rfl,λ_=>?_,λ_=>?_⟩
  ·nofun;refine EB A2 (.inl rfl) (by simpa using z) (by simp;lia) λd3 h3 hd3 A3=>?_;obtain⟨w,hw,rfl⟩:=QG.mp hd3;nofun;refine kJ (is:=[0,0,0,0,1,1,-1,2,m-40]) (λi=>-40<=i/\i<=40) (by intro x hx;simp at hx;lia) A3 λi h4 hi _ A4=>?_;nofun;exact k (w,i) h4 ⟨.inr hw,by dsimp only;exact Ra (by decide) hi.1,by dsimp only;exact Ra hi.2 (by decide)⟩ hi.2 A4
  ·nofun;refine plain (A2.dn 1) λi h3 hi A3=>?_;nofun;exact k (Str.ofString "",i) h3 ⟨.inl rfl,by dsimp only;exact Ra (by decide) hi.1,by dsimp only;exact Ra hi.2 (by decide)⟩ hi.2 A3
 ·nofun;refine plain (A1.dn 2) λi h3 hi A3=>?_;nofun;exact k (Str.ofString "",i) h3 ⟨.inl rfl,by dsimp only;exact Ra (by decide) hi.1,by dsimp only;exact Ra hi.2 (by decide)⟩ hi.2 A3
end
theorem bS{α:Type}{xs:List α}{f:α->D}{h:MH}{j:Nat}{x:α}(e:xs[j]?=some x):aW (.lv (xs.map f)) (.int j) h=some (f x,h):=by
 have hj:j < xs.length:=by
  rcases Nat.lt_or_ge j xs.length with z | z
  ·exact z
  ·rw[QU z] at e;cases e
 show((g9 (xs.map f) j).map λz=>(z,h))=_;have:g9 (xs.map f) j=some (f x):=by
  unfold g9;rw[show tu (xs.map f).length j=some j by unfold tu;simp;exact hj];show(xs.map f)[j]?=_;rw[Qg,e];rfl
 rw[this];rfl
theorem i9(i j:Int)(h:MH):rQ [.int i,.int j] h=some (.int (max i j),h):=by
 show some (D.int (if j > i then j else i),h)=_;rw[show(if j > i then j else i)=max i j by split <;> lia]
theorem GB(i j:Int)(h:MH):D8 [.int i,.int j] h=some (.int (min i j),h):=by
 show some (D.int (if j < i then j else i),h)=_;rw[show(if j < i then j else i)=min i j by split <;> lia]
theorem Ab{α:Type}{o:Option Bool}{x y:Option α}{X Y:α->Prop}(r:∃c,o=some c/\(c=true->Rn x Y)/\(c=false->Rn y Y))(f:∀p,Y p->X p):∃c,o=some c/\(c=true->Rn x X)/\(c=false->Rn y X):=
 let⟨c,e,a,b⟩:=r
 ⟨c,e,λz=>(a z).imp f,λz=>(b z).imp f⟩
noncomputable def qr(t:Term):PyData:=.tuple [.str t.1,.int t.2]
theorem tO:∀ts:List Term,lF (ts.map br)=some (ts.map qr)
 | []=>rfl
 | c::r=>by simp only[Qc,lF,tO r,br,tQ,Qv,QF];rfl
theorem pq:∀ts:List Term,PyData.depthAll (ts.map qr)<=1
 | []=>by simp[PyData.depthAll]
 | c::r=>by
  have:=pq r;simp only[Qc,PyData.depthAll,qr,PyData.depth]
  lia
theorem y7(ts:List Term)(h:MH):iD (.lv (ts.map br)) (.lv []) h=some (.bl (!ts.isEmpty),h):=by
 have:=pq ts;simp only[iD,Ho,eC,Hn,zM,tO,tQ,lF,QF,Qv];rw[P0 ⟨show PyData.depthAll _+1<=64 by exact Q6 this (by decide),by decide⟩];cases ts <;> rfl
section
variable {h h0:MH} {s c wd R:Nat} {cs:List Int} {W:Wd} {fl:List Int} {left odd:Int} {Q:D×MH->Prop}
theorem Kw{ps:List Str}{j:Nat}{top:Int}{held:List Lock}(A:Sb s c cs h0 (R+10) h)(hw0:h0[wd]?=some (nu W fl left odd))(hne:wd≠s)(ok:ly W fl odd)(hp:W.params[j]?=some ps)(hj:j < W.ai.length)(ht:top<=W.names.length)(hh:∀l∈held,dX W ps l)(hl:held.length<=1000)
  (k1:∀(k:Int)(l:Lock)(h1:MH),max top (fl[j]?.getD 0) < W.names.length->0<=k->k < W.names.length->dX W ps l->Sb s c cs h0 R h1->Q (.tup [.int k,aL l],h1))
  (k2:∀(h1:MH),max top (fl[j]?.getD 0)=W.names.length->Sb s c cs h0 R h1->Q (.tup [.cw,.cw],h1)):Rn (fL [.ob s,.ob wd,.int j,.int top,.lv (held.map aL)] h) Q:=by
 have hw:=A.at_ hw0 hne;obtain⟨f,hf⟩:∃f,fl[j]?=some f:=⟨_,Qi (by rw[ok.OH];exact hj)⟩;have hfm:=ok.f0 f (PX hf);have n2:=ok.n2;rw[hf] at k1 k2;dsimp only[Option.getD_some] at k1 k2;refine bU ?_;nofun;refine rv (nz hw) ?_;nofun;refine rv (bS hf) ?_;nofun;refine rv (i9 top f h) ?_;have lo0:0<=max top f:=by lia
 have lo1:max top f<=W.names.length:=by lia
 generalize max top f=lo at lo0 lo1 k1 k2 ⊢;nofun;refine rv (eF hw) ?_;nofun;refine⟨_,rfl,λz=>?_,λz=>?_⟩
 ·have z:lo=W.names.length:=by simpa using z
  nofun;exact k2 h z (A.dn 10)
 have z:lo≠W.names.length:=by simpa using z
 have z0:lo < W.names.length:=by lia
 have k1:=λk l h1=>k1 k l h1 z0;clear k2;nofun;refine rv (eF hw) ?_;nofun;simp only[PU];refine fv A (by lia) (by lia) λm h1 m0 m1 A1=>?_;nofun;refine EC A1 (A1.at_ hw0 hne) ok λb h2 A2=>?_;nofun;refine Ab (Y:=λr=>∃(k:Int)(h3:MH),r=(Fl.nx,[some (.ob s),some (.ob wd),some (.int j),some (.int top),some (.lv (held.map aL)),some (.int lo),some (.int k),none,none,none,none],h3)/\0<=k/\k < W.names.length/\Sb s c cs h0 (R+7) h3) ?_ ?_
 ·refine⟨b,rfl,λ_=>?_,λ_=>?_⟩
  ·nofun;refine rv (eF (A2.at_ hw0 hne)) ?_;nofun;simp only[PU];refine fv A2 (by exact RO hfm.1 hfm.2) (by lia) λk h3 k0 k1 A3=>?_;exact⟨k,h3,rfl,k0,k1,A3⟩
  ·nofun;exact⟨lo+m,h2,rfl,by lia,by lia,A2.dn 1⟩
 rintro _ ⟨k,h3,rfl,k0,kL,A3⟩;have hw3:=A3.at_ hw0 hne;have k1:=λl h1=>k1 k l h1 k0 kL;obtain⟨kn,rfl⟩:=Rg k0;obtain⟨nm,hnm⟩:∃f,W.names[kn]?=some f:=⟨_,Qi (by exact Ti.mp kL)⟩;show Rn _ _;nofun;refine rv (eF hw3) ?_;nofun;refine rv (bS hnm) ?_;nofun;refine dU ?_;nofun;refine⟨_,_,rfl,?_⟩;obtain⟨⟨ys,h4⟩,e4,hyl,hym,δ4,hh4,_⟩:=pV (ws:=[]) (g:=gN 0) (c:=aD (ao cP (ao aW (aw 0) (eK (D.int 0))) (aw 1))) (e:=ao aW (aw 0) (eK (D.int 1))) (λx y=>∃l∈held,x=aL l/\y=br l.2)
  (xs:=held.map aL) (δ:=[none,some (.str nm)]) (h:=h3) (λj δ h'=>h'=h3/\∃d0,δ=[d0,some (.str nm)]) ⟨rfl,_,rfl⟩ (λ_ _ _ _ _=>rfl) (by
   rintro i x δ h' hx ⟨rfl,d0,rfl⟩;obtain⟨l,hl,rfl⟩:=QG.mp (PX hx);nofun;refine rv (a:=(.str l.1,_)) rfl ?_;nofun;refine⟨_,rfl,λ_=>?_,λ_=>⟨rfl,_,rfl⟩⟩;nofun;exact rv (a:=(br l.2,_)) rfl ⟨⟨l,hl,rfl,rfl⟩,rfl,_,rfl⟩)
 dsimp only at hh4;subst hh4;refine rv e4 ⟨P6 hyl (by rw[PU,show sizeLine=16777216 from rfl];exact P6 hl (by decide)),?_⟩;obtain⟨ts,rfl,htm⟩:∃ts:List Term,ys=ts.map br/\∀t∈ts,dD ps t:=by
  clear e4 hyl
  induction ys with
  | nil=>exact⟨[],rfl,λ_ z=>(nomatch z)⟩
  | cons y r ih=>
   obtain⟨js,rfl,h1⟩:=ih λz hz=>hym z (P4 _ hz);obtain⟨x,hx,l,hl,rfl,rfl⟩:=hym y P1;exact⟨l.2::js,rfl,UQ.mpr ⟨(hh l hl).2,h1⟩⟩
 nofun;have pl:=ok.p3 ps (PX hp);refine rv (y7 ts _) ⟨_,rfl,λz=>?_,λz=>⟨λz=>(nomatch z),λ_=>?_⟩⟩
 ·nofun;refine EC A3 hw3 ok λb' h5 A5=>⟨_,rfl,λ_=>?_,λ_=>?_⟩
  ·have hts:ts≠[]:=by rintro rfl;cases z
   obtain⟨us,last,rfl⟩:∃us last,ts=us++[last]:=⟨ts.dropLast,ts.getLast hts,(List.dropLast_concat_getLast hts).symm⟩;have hlast:=htm last (by simp);nofun;refine rv (a:=(br last,_)) (by
    show((g9 ((us++[last]).map br) (-1)).map λz=>(z,h5))=_;rw[Ql];show((g9 (us.map br++[br last]) (-1)).map λz=>(z,h5))=_;rw[EL];rfl) ?_
   nofun;refine rv (a:=_) rfl ?_;nofun;refine fv A5 (by decide) (by decide) λm6 h6 m60 m61 A6=>?_;nofun;refine rv (GB _ _ _) ?_;nofun;exact k1 (nm,(last.1,min 99 (last.2+1+m6))) h6 ⟨PX hnm,hlast.1,by dsimp only;have:=hlast.2;lia,by dsimp only;lia⟩ (A6.dn 5)
  ·nofun;refine rv (di (A5.at_ hw0 hne)) ?_;nofun;refine rv (bS hp) ?_;nofun;refine vY (A5.dn 2) pl λt h6 tk _ A6=>?_;nofun;exact k1 (nm,t) h6 ⟨PX hnm,tk⟩ A6
 ·nofun;refine rv (di hw3) ?_;nofun;refine rv (bS hp) ?_;nofun;refine vY (A3.dn 3) pl λt h6 tk _ A6=>?_;nofun;exact k1 (nm,t) h6 ⟨PX hnm,tk⟩ A6
end
theorem xJ(cs:List Int)(h:MH):cP (.lv (cs.map D.int)) (.lv []) h=some (.bl cs.isEmpty,h):=by
 simp only[cP,Ho,eC,Hn,zM,q9,tQ,lF,QF,Qv,PyData.depth,lr];cases cs <;> rfl
theorem IV(r:Rn (m δ h) λp=>∃j:Int,p.1=[.int j]/\0<=j/\j<=1000/\Q ((List.range j.toNat).map λ(k:Nat)=>D.int (k:Int),p.2)):Rn (KR m δ h) Q:=a9 (r.imp λp ⟨j,e,h1,h2,q⟩=>by
 rw[e];dsimp only;rw[P0 ⟨h1,h2⟩];exact⟨_,rfl,q⟩)
section
variable {h h0:MH} {s c wd R:Nat} {cs:List Int} {W:Wd} {fl:List Int} {left odd:Int} {Q:D×MH->Prop}
theorem Ky{top:Int}(A:Sb s c cs h0 (R+14) h)(hw0:h0[wd]?=some (nu W fl left odd))(hne:wd≠s)(ok:ly W fl odd)(hp:W.params[j]?=some ps)(hj:j < W.ai.length)
  (kk:∀(r:Row)(h1:MH),(∀n,aJ W ps n r)->cnt r=1->Sb s c cs h0 R h1->Q (az r,h1)):Rn (gS [.ob s,.ob wd,.int j,.int top] h) Q:=by
 have hw:=A.at_ hw0 hne;have d2:=ok.d2;have pl:=ok.p3 ps (PX hp);obtain⟨dj,hdj⟩:∃f,W.ai[j]?=some f:=⟨_,Qi hj⟩;refine bU ?_;nofun;refine gj ?_;nofun;refine rv (eG hw) ?_;nofun;refine⟨(W.ai.map D.str).length,rfl,by rw[PU];simp,by rw[PU];lia,?_⟩;rw[PU,RC];obtain⟨⟨ys,h1⟩,e1,hyl,hym,δ1,hh1,_⟩:=pV (ws:=[]) (g:=gN 0) (c:=nC (aD (ao y9 (ao aW (ao aW (aw 3) (eK (.str "floors"))) (aw 0)) (aw 2))) (aD (ao MC (aw 0) (aw 1)))) (e:=aw 0) (λx y=>y=x)
  (xs:=(List.range W.ai.length).map λ(k:Nat)=>D.int (k:Int)) (δ:=[none,some (.int j),some (.int top),some (.ob wd)]) (h:=h) (λi δ h'=>h'=h/\∃d0,δ=[d0,some (.int j),some (.int top),some (.ob wd)]) ⟨rfl,_,rfl⟩ (λ_ _ _ _ _=>rfl) (by
   rintro i x δ h' hx ⟨rfl,d0,rfl⟩;rw[Qg] at hx;obtain⟨k,hk,hk2⟩:=Qo.mp hx;subst hk2;have hkl:k < fl.length:=by rw[ok.OH];exact Q1.mp (PX hk)
   obtain⟨f,hf⟩:∃f,fl[k]?=some f:=⟨_,Qi hkl⟩;nofun;refine rv (nz hw) ?_;nofun;refine rv (bS hf) ?_;nofun;refine⟨_,rfl,λ_=>?_,λ_=>⟨λz=>(nomatch z),λ_=>⟨rfl,_,rfl⟩⟩⟩;nofun;refine⟨_,rfl,λ_=>?_,λ_=>⟨rfl,_,rfl⟩⟩;nofun;exact⟨rfl,rfl,_,rfl⟩)
 dsimp only at hh1;subst hh1;refine rv e1 ⟨P6 hyl (by rw[PU,Qy,show sizeLine=16777216 from rfl];exact P6 d2 (by decide)),?_⟩;have hint:∀zs:List D,(∀y∈zs,∃x,x∈(List.range W.ai.length).map (λ(k:Nat)=>D.int (k:Int))/\y=x)->∃js:List Int,zs=js.map D.int/\∀k∈js,0<=k/\k < W.ai.length:=by
  intro zs hz
  induction zs with
  | nil=>exact⟨[],rfl,λ_ z=>(nomatch z)⟩
  | cons y r ih=>
   obtain⟨js,rfl,q⟩:=ih λz hz'=>hz z (P4 _ hz');obtain⟨x,hx,rfl⟩:=hz y P1;obtain⟨k,hk,rfl⟩:=QG.mp hx;exact⟨k::js,rfl,λi hi=>by
    rcases P5.mp hi with rfl | hi
    ·have:=Q1.mp hk;clear ih;lia
    ·exact q i hi⟩
 have hyn:ys.length<=6:=by
  have h9:ys.length<=_:=hyl;rw[PU,Qy] at h9;exact P6 h9 d2
 obtain⟨js,rfl,hjs⟩:=hint ys hym;rw[PU] at hyn;nofun;refine EC A hw ok λb h2 A2=>?_;have hw2:=A2.at_ hw0 hne;nofun;refine Ab (Y:=λr=>∃(ks:List Int),r=(Fl.nx,[some (.ob s),some (.ob wd),some (.int j),some (.int top),some (.lv (ks.map D.int)),none,none],h2)/\ks.length<=6/\∀k∈ks,0<=k/\k < W.ai.length) ?_ ?_
 ·refine⟨b,rfl,λ_=>?_,λ_=>?_⟩
  ·nofun;refine IV ?_;nofun;refine rv (eG hw2) ?_;nofun;refine⟨(W.ai.map D.str).length,rfl,by rw[PU];simp,by rw[PU];lia,?_⟩;rw[PU,RC];obtain⟨ks,hk1,hk2⟩:=hint _ λy hy=>⟨y,hy,rfl⟩;refine⟨ks,?_,?_,hk2⟩
   ·show _=_;rw[<-hk1];rfl
   ·have:=congrArg List.length hk1;rw[PU,PU,Qy] at this
    lia
  ·nofun;exact⟨js,rfl,hyn,hjs⟩
 rintro _ ⟨ks,rfl,kn,hks⟩;show Rn _ _;nofun;refine rv (xJ ks _) ⟨_,rfl,λz=>?_,λz=>?_⟩
 ·nofun;refine rv (eG hw2) ?_;nofun;refine rv (bS hdj) ?_;nofun;have:=kk (.say dj) h2 (λn=>by unfold aJ;exact Qm _ (PX hdj)) (by rw[cnt]) (A2.dn 13);rw[az] at this;exact this
 have z0:0 < ks.length:=by cases ks with | nil=>cases z | cons _ _=>simp
 nofun;refine EB A2 (.inl rfl) (by simpa using z0) (by simp;lia) λd3 h3 hd3 A3=>?_;have hw3:=A3.at_ hw0 hne;obtain⟨k,hk,rfl⟩:=QG.mp hd3;obtain⟨k0,k1⟩:=hks k hk;obtain⟨kn',rfl⟩:=Rg k0;have hkl:kn' < W.ai.length:=by exact Ti.mp k1
 obtain⟨dk,hdk⟩:∃f,W.ai[kn']?=some f:=⟨_,Qi hkl⟩;obtain⟨qs,hqs⟩:∃f,W.params[kn']?=some f:=⟨_,Qi (by rw[ok.pl];exact hkl)⟩;have ql:=ok.p3 qs (PX hqs);nofun;refine dU ?_;nofun;refine rv (di hw3) ?_;nofun;refine rv (bS hqs) ?_;refine⟨_,_,rfl,?_⟩;obtain⟨⟨zs,h4⟩,e4,hzs,δ4,_,A4⟩:=pW (ws:=[]) (g:=gN 0) (e:=ay bX (ah (aw 2) (ah (ao aW (ao aW (aw 3) (eK (.str "params"))) (aw 1)) aR))) (λ_ y=>∃t:Term,y=br t/\dD ps t)
  (xs:=qs.map D.str) (δ:=[none,some (.int j),some (.ob s),some (.ob wd)]) (h:=h3) (λi δ h'=>(∃d0,δ=[d0,some (.int j),some (.ob s),some (.ob wd)])/\Sb s c cs h0 (R+4*(3-i)) h') ⟨⟨_,rfl⟩,A3⟩ (λ_ _ _ _ _=>rfl) (by
   rintro i x δ h' hx ⟨⟨d0,rfl⟩,Ai⟩;have hi:i < 3:=by
    have:=(PV.mp hx).1;rw[PU] at this
    lia
   rw[show R+4*(3-i)=R+4*(3-(i+1))+4 by clear Ai;lia] at Ai;have hwi:=Ai.at_ hw0 hne;nofun;refine rv (di hwi) ?_;nofun;refine rv (bS hp) ?_;nofun;exact vY Ai pl λt h6 tk _ A6=>⟨⟨t,rfl,tk⟩,⟨_,rfl⟩,A6⟩)
 obtain⟨ts,rfl,htm⟩:∃ts:List Term,zs=ts.map br/\∀t∈ts,dD ps t:=by
  have hr:=hzs.right;clear e4 hzs A4;dsimp only at hr
  induction zs with
  | nil=>exact⟨[],rfl,λ_ z=>(nomatch z)⟩
  | cons y r ih=>
   obtain⟨js,rfl,h1⟩:=ih λz hz=>hr z (P4 _ hz);obtain⟨x,hx,t,rfl,tk⟩:=hr y P1;exact⟨t::js,rfl,λj hj=>by
    rcases P5.mp hj with rfl | hj
    ·exact tk
    ·exact h1 j hj⟩
 have hzl:=hzs.length;dsimp only at hzl;rw[PU,PU] at hzl;refine rv e4 ⟨by dsimp only;rw[PU,show sizeLine=16777216 from rfl];lia,?_⟩;have A4:Sb s c cs h0 R h4:=A4.le (Qr _ _);have hw4:=A4.at_ hw0 hne;nofun;refine rv (eG hw4) ?_;nofun;refine rv (bS hdk) ?_;nofun;refine rv (a:=(.tup (ts.map br),_)) rfl ?_;nofun;have:=kk (.call dk ts) h4 (λn=>by unfold aJ;exact⟨⟨kn',qs,hdk,hqs,hzl⟩,htm⟩) (by rw[cnt]) A4;rw[az] at this;exact this
end
def gB(s wd:Nat)(h h':MH):Prop:=h'.length=h.length/\∀k,k≠s->k≠wd->h'[k]?=h[k]?
theorem gB.refl(s wd:Nat)(h:MH):gB s wd h h:=⟨rfl,λ_ _ _=>rfl⟩
theorem gB.trans(a:gB s wd h h1)(b:gB s wd h1 h2):gB s wd h h2:=⟨b.1.trans a.1,λk n m=>(b.2 k n m).trans (a.2 k n m)⟩
theorem sG.two(a:sG s h h1):gB s wd h h1:=⟨a.1,λk n _=>a.2 k n⟩
theorem gB.set:gB s wd h (h.set wd o):=⟨QY,λk _ n=>QK (Rl n)⟩
theorem gB.OR(b:gB s wd (hb++g) h2)(hs:s < hb.length)(hw:wd < hb.length):∃hb',h2=hb'++g/\gB s wd hb hb':=by
 have hl:h2.length=hb.length+g.length:=by rw[b.1];simp
 refine⟨h2.take hb.length,?_,by rw[Qj];lia,λk hk hk'=>?_⟩
 ·refine U4 λk=>?_
  by_cases z:k < hb.length
  ·rw[P8 (by rw[Qj];lia),Qz z]
  ·rw[b.2 _ (by lia) (by lia),Qa (by exact Rq z),Qa (by rw[Qj];lia),Qj];rw[show min hb.length h2.length=hb.length by lia]
 ·by_cases z:k < hb.length
  ·rw[Qz z,b.2 k hk hk',P8 z]
  ·rw[QU (by rw[Qj];lia),QU (by exact Rq z)]
theorem iI(n:Nat):∀js:List Str,fI n (js.map D.str)=true
 | []=>rfl
 | j::r=>by rw[Qc];show(g0 n (.str _)&&fI n _)=true;rw[iI n r];rfl
theorem uo(n:Nat):∀js:List (List Str),fI n (js.map λps=>.lv (ps.map D.str))=true
 | []=>rfl
 | j::r=>by rw[Qc];show(fI n (j.map D.str)&&fI n _)=true;rw[iI n j,uo n r];rfl
theorem zf(n:Nat)(W:Wd)(fl:List Int)(l odd:Int):yh n (nu W fl l odd)=true:=by
 show(fI n _&&(fI n _&&(fI n _&&(fI n _&&(true&&(true&&true))))))=true;rw[iI,iI,uo,Aq];rfl
structure En where
 s:Nat
 c:Nat
 wd:Nat
 cs:List Int
 W:Wd
 fl:List Int
 odd:Int
 ok:ly W fl odd
 ne:wd≠s
 nc:wd≠c
structure Wb(E:En)(h0:MH)(R l:Nat)(h:MH):Prop where
 S:St E.s E.c E.cs R h
 w:h[E.wd]?=some (nu E.W E.fl l E.odd)
 C:Cl h
 b:gB E.s E.wd h0 h
section
variable {E:En} {h0 h h1 h' g:MH} {R R' l l' k:Nat} {Q:D×MH->Prop}
theorem Wb.lt(A:Wb E h0 R l h):E.s < h.length/\E.c < h.length/\E.wd < h.length:=⟨A.S.lt.1,A.S.lt.2,(PV.mp A.w).1⟩
theorem Wb.by(A:Wb E h0 R l h)(B:Sb E.s E.c E.cs h R' h1):Wb E h0 R' l h1:=⟨B.S,(B.b.2 _ E.ne).trans A.w,A.C.but B.S B.b,A.b.trans B.b.two⟩
theorem Wb.le(A:Wb E h0 R l h)(hR:R'<=R):Wb E h0 R' l h:=⟨A.S.le hR,A.w,A.C,A.b⟩
theorem Wb.here(A:Wb E h0 R l h):Wb E h R l h:=⟨A.S,A.w,A.C,gB.refl _ _ _⟩
theorem Wb.tr(A:Wb E h1 R l h)(b:gB E.s E.wd h0 h1):Wb E h0 R l h:=⟨A.S,A.w,A.C,b.trans A.b⟩
theorem Wb.set(A:Wb E h0 R l h)(v:Nat):Wb E h0 R v (h.set E.wd (nu E.W E.fl v E.odd)):=
 ⟨A.S.off E.ne E.nc,QA A.lt.2.2,A.C.set (zf _ _ _ _ _),A.b.trans gB.set⟩
theorem Wb.push(A:Wb E h0 R l h)(ho:yh (h.length+1) o=true):Wb E (h++[o]) R l (h++[o]):=⟨A.S.more _,by rw[P8 A.lt.2.2];exact A.w,A.C.snoc ho,gB.refl _ _ _⟩
theorem Kq(C:Cl h)(S:St E.s E.c E.cs R h')(w:h'[E.wd]?=some (nu E.W E.fl l E.odd))(b:gB E.s E.wd h h'):Cl h':=by
 intro o ho;obtain⟨k,hk⟩:=Sx.mp ho
 by_cases z:k=E.s
 ·subst z;obtain⟨n,t,e,_⟩:=S.st;rw[e] at hk;cases hk;show(true&&(decide (E.c < h'.length)&&(true&&true)))=true;rw[Qx S.lt.2];rfl
 ·by_cases z2:k=E.wd
  ·subst z2;rw[w] at hk;cases hk;exact zf _ _ _ _ _
  ·rw[b.2 k z z2] at hk;rw[b.1];exact C o (PX hk)
theorem Wb.pop(A0:Wb E h0 R0 l0 h)(A:Wb E (h++g) R l h'):∃hb,h'=hb++g/\hb.length=h.length/\Wb E h0 R l hb:=by
 obtain⟨h1,h2,h3⟩:=A0.lt;obtain⟨hb,rfl,b⟩:=A.b.OR h1 h3;have e:=b.1;have S:=A.S.cut (by lia) (by lia);have w:=A.w;rw[P8 (by lia)] at w;exact⟨hb,rfl,e,S,w,Kq A0.C S w b,A0.b.trans b⟩
theorem w_next(A:Wb E h0 (R+1) l h)(m0:0 < m)(m1:m<=10^40)(k:∀(r:Int)(h1:MH),0<=r->r < m->Wb E h0 R l h1->Q (.int r,h1)):Rn (aP [.ob E.s,.int m] h) Q:=
 fv A.S.sb m0 m1 λr h1 r0 r1 S1=>k r h1 r0 r1 (A.by S1)
theorem Li(A:Wb E h0 (R+1) l h)(hd:d=.lv xs\/d=.tup xs)(l0:0 < xs.length)(l1:xs.length<=1000000)(k:∀(x:D)(h1:MH),x∈xs->Wb E h0 R l h1->Q (x,h1)):Rn (aT [.ob E.s,d] h) Q:=
 EB A.S.sb hd l0 l1 λx h1 hx S1=>k x h1 hx (A.by S1)
theorem Ca{is:List Int}(P:Int->Prop)(hP:∀i∈is,P i)(A:Wb E h0 (R+1) l h)(k:∀(i:Int)(h1:MH),P i->Wb E h0 R l h1->Q (.int i,h1))(l0:0 < is.length:=by simp)(l1:is.length<=1000:=by simp):Rn (aT [.ob E.s,.lv (is.map D.int)] h) Q:=
 kJ P hP A.S.sb (λi h1 hi _ S1=>k i h1 hi (A.by S1)) l0 l1
theorem uF(A:Wb E h0 (R+4) l h)(hp:ps.length<=3)(k:∀(t:Term)(h1:MH),dD ps t->Wb E h0 R l h1->Q (br t,h1)):Rn (bX [.ob E.s,.lv (ps.map D.str)] h) Q:=
 vY A.S.sb hp λt h1 ht _ S1=>k t h1 ht (A.by S1)
structure Cd(W:Wd)(j:Nat)(ps:List Str)(d:Nat)(top:Int)(held:List Lock):Prop where
 hp:W.params[j]?=some ps
 hj:j < W.ai.length
 d1:1<=d
 ht:top<=W.names.length
 hh:∀x∈held,dX W ps x
 hl:held.length<=4*d
variable {j d f:Nat} {ps:List Str} {top:Int} {held:List Lock}
theorem Cd.more{W:Wd}{n:Nat}{top':Int}{ls:List Lock}(G:Cd W j ps d top held)(ht:top'<=W.names.length)(hl:ls.length<=4*n)(ho:∀x∈ls,dX W ps x):Cd W j ps (d+n) top' (held++ls):=
 ⟨G.hp,G.hj,P6 G.d1 (Qr _ _),ht,λx hx=>(Qk.mp hx).elim (G.hh x) (ho x),by have:=G.hl;rw[Qb];lia⟩
theorem Cd.deep{W:Wd}(G:Cd W j ps d top held):Cd W j ps (d+1) top held:=⟨G.hp,G.hj,TL G.d1,G.ht,G.hh,by have:=G.hl;lia⟩
theorem Cd.pl(G:Cd E.W j ps d top held):ps.length<=3:=E.ok.p3 ps (PX G.hp)
theorem Cb(A:Wb E h0 (R+10) l h)(G:Cd E.W j ps d top held)(hd:d<=5)(k1:∀(k:Int)(x:Lock)(h1:MH),max top (E.fl[j]?.getD 0) < E.W.names.length->0<=k->k < E.W.names.length->dX E.W ps x->Wb E h0 R l h1->Q (.tup [.int k,aL x],h1))
  (k2:∀(h1:MH),max top (E.fl[j]?.getD 0)=E.W.names.length->Wb E h0 R l h1->Q (.tup [.cw,.cw],h1)):Rn (fL [.ob E.s,.ob E.wd,.int j,.int top,.lv (held.map aL)] h) Q:=
 Kw A.S.sb A.w E.ne E.ok G.hp G.hj G.ht G.hh (by have:=G.hl;lia) (λk x h1 a b c e S1=>k1 k x h1 a b c e (A.by S1)) λh1 a S1=>k2 h1 a (A.by S1)
theorem HU(A:Wb E h0 (R+14) l h)(G:Cd E.W j ps d top held)(k:∀(r:Row)(h1:MH),(∀n,aJ E.W ps n r)->cnt r=1->Wb E h0 R l h1->Q (az r,h1)):Rn (gS [.ob E.s,.ob E.wd,.int j,.int top] h) Q:=
 Ky A.S.sb A.w E.ne E.ok G.hp G.hj λr h1 a b S1=>k r h1 a b (A.by S1)
abbrev EZ(E:En)(h0:MH)(R l:Nat)(ps:List Str)(d:Nat)(Q:D×MH->Prop):Prop:=∀(r:Row)(l':Nat)(h':MH),aJ E.W ps d r->l'+cnt r=l+1->Wb E h0 (R+100*l') l' h'->Q (az r,h')
abbrev OX(E:En)(h0:MH)(R l:Nat)(ps:List Str)(d:Nat)(Q:D×MH->Prop):Prop:=∀(t:List Row)(l':Nat)(h':MH),bt E.W ps d t->t.length<=12->l'+aj t=l->Wb E h0 (R+100*l') l' h'->Q (.tup (cx t),h')
def BL(E:En)(f:Nat):Prop:=∀{h0 h:MH} {R l j:Nat} {ps:List Str} {d:Nat} {top:Int} {held:List Lock} {most:Int} {Q:D×MH->Prop},Wb E h0 (R+100*l+4) l h->Cd E.W j ps d top held->d<=5->3*(5-d)+2<=f->1<=most->most<=12->OX E h0 R l ps d Q->
 Rn (bJ f [.ob E.s,.ob E.wd,.int j,.int d,.int top,.lv (held.map aL),.int most] h) Q
def K0(E:En)(f:Nat):Prop:=∀{h0 h:MH} {R l j:Nat} {ps:List Str} {d:Nat} {top:Int} {held:List Lock} {Q:D×MH->Prop},Wb E h0 (R+100*l+100) l h->Cd E.W j ps d top held->d<=5->3*(5-d)+1<=f->EZ E h0 R l ps d Q->
 Rn (gx f [.ob E.s,.ob E.wd,.int j,.int d,.int top,.lv (held.map aL)] h) Q
def EY(E:En)(f:Nat):Prop:=∀{h0 h:MH} {R l j:Nat} {ps:List Str} {d:Nat} {top:Int} {held:List Lock} {way:Str} {Q:D×MH->Prop},Wb E h0 (R+100*l+95) l h->Cd E.W j ps d top held->d < 5->3*(5-d)<=f->way∈[Str.ofString "within",Str.ofString "ask",Str.ofString "all"]->EZ E h0 R l ps d Q->
 Rn (dJ f [.ob E.s,.ob E.wd,.int j,.int d,.int top,.lv (held.map aL),.str way] h) Q
def KU(E:En)(f:Nat):Prop:=∀{h0 h:MH} {R l j:Nat} {ps:List Str} {d:Nat} {top:Int} {held:List Lock} {Q:D×MH->Prop},Wb E h0 (R+100*l+95) l h->Cd E.W j ps d top held->d < 3->5 < l->3*(5-d)<=f->EZ E h0 R l ps d Q->
 Rn (cQ f [.ob E.s,.ob E.wd,.int j,.int d,.int top,.lv (held.map aL)] h) Q
end
theorem mm(r:Rn (b (entry len ds) h) (FF λp=>Rn (leave h p.1 p.2) Q)):Rn (DL len b ds h) Q:=by
 obtain⟨p,e,q⟩:=bU r;obtain⟨z,e2,k⟩:=q;refine⟨z,?_,k⟩;have e:((b (entry len ds) h).bind wY)=some p:=e;show((b (entry len ds) h).bind wY).bind _=_;rw[e];exact e2
theorem gA{isT:D->MH->Bool}{f:zv}{o:EM}{m:AM}{δ:DS}{h:MH}{Q:D×MH->Prop}(r:Rn (o δ h) λp=>isT p.1 p.2=true/\Rn (m δ p.2) λq=>Rn (f p.1 q.1 q.2) Q):Rn (eM isT f o m δ h) Q:=
 a9 (r.imp λp ⟨e,r⟩=>by rw[P0 e];exact a9 r)
theorem cq(e:h[n]?=some (.lst xs)):cX (.ob n) h=true:=by unfold cX eB;dsimp only;rw[e];rfl
theorem cc(e:h[n]?=some (.lst xs))(hl:xs.length < sizeLine):du (.ob n) [y] h=some (.cw,h.set n (.lst (xs++[y]))):=by unfold du;dsimp only;rw[e];dsimp only;rw[P0 hl]
theorem vQ(n:Nat)(t:Term):g0 n (br t)=true:=rfl
theorem qc(n:Nat)(t:Lock):g0 n (aL t)=true:=rfl
theorem fu(n:Nat)(f:α->D)(hf:∀x,g0 n (f x)=true):∀xs:List α,fI n (xs.map f)=true
 | []=>rfl
 | x::r=>by rw[Qc];show(g0 n (f x)&&fI n _)=true;rw[hf x,fu n f hf r];rfl
mutual
theorem si(n:Nat):∀r:Row,g0 n (az r)=true
 | .say w=>by rw[az];rfl
 | .call d ts=>by rw[az];show(true&&(true&&(fI n _&&true)))=true;rw[fu n _ (vQ n)];rfl
 | .within l b=>by rw[az];show(true&&(g0 n (aL l)&&(fI n _&&true)))=true;rw[qc,eU n b];rfl
 | .all ls b=>by rw[az];show(true&&(fI n _&&(fI n _&&true)))=true;rw[fu n _ (qc n),eU n b];rfl
 | .ask l b e=>by rw[az];show(true&&(g0 n (aL l)&&(fI n _&&(fI n _&&true))))=true;rw[qc,eU n b,eU n e];rfl
 | .gQ s t a b c=>by rw[az];show(true&&(g0 n (br s)&&(g0 n (br t)&&(fI n _&&(fI n _&&(fI n _&&true))))))=true;rw[vQ,vQ,eU n a,eU n b,eU n c];rfl
 | .either a b=>by rw[az];show(true&&(fI n _&&(fI n _&&true)))=true;rw[eU n a,eU n b];rfl
 | .again a=>by rw[az];show(true&&(fI n _&&true))=true;rw[eU n a];rfl
theorem eU(n:Nat):∀r:List Row,fI n (cx r)=true
 | []=>by rw[cx];rfl
 | r::rs=>by rw[cx];show(g0 n _&&fI n _)=true;rw[si n r,eU n rs];rfl
end
theorem lp(e:H.length=n):(H++[a])[n]?=some a:=by rw[<-e];simp
theorem qE(e:H.length=n):(H++[a]).set n b=H++[b]:=by rw[<-e];simp
section
variable {E:En} {f:Nat}
theorem yU(hr:K0 E f):BL E (f+1):=by
 intro h0 h R l j ps d top held most Q A G d5 hf m0 m1 k;unfold bJ;refine mm ?_;nofun;refine gj ?_;nofun;refine rv (a:=(.lv (List.replicate 15 (D.int most)),_)) rfl ?_;nofun;refine rv (a:=(.lv ((List.replicate 15 most++[12]).map D.int),_)) rfl ?_;nofun;refine Ca (λi=>1<=i/\i<=12) (by intro x hx;simp at hx;lia) (A.push (o:=.lst []) rfl) λi h2 hi A2=>?_;nofun;refine w_next (m:=i+1) A2 (by lia) (by exact RO hi.2 (by decide)) λm h3 n0 n1 A3=>?_;nofun;refine⟨m,rfl,by exact Ra (by decide) n0,by lia,?_⟩;obtain⟨hb,rfl,hbl,A3⟩:=A.pop A3;refine cU (λi δ h'=>∃(t:List Row)(l':Nat)(d8:Option D)(hb:MH),δ=[some (.ob E.s),some (.ob E.wd),some (.int j),some (.int d),some (.int top),some (.lv (held.map aL)),some (.int most),some (.ob h.length),d8]/\h'=hb++[.lst (cx t)]/\hb.length=h.length/\bt E.W ps d t/\t.length<=i/\l'+aj t=l/\Wb E h0 (R+100*l'+2) l' hb)
  ⟨[],l,_,hb,rfl,by rw[cx],hbl,by unfold bt;trivial,PZ _,by simp[aj],A3⟩ (λ_ _ _ _ _=>rfl) ?_ ?_
 ·rintro q x δ h' hx ⟨t,l',d8,hb,rfl,rfl,hbl,okl,hll,hc,A4⟩;have hq:q < 12:=by
   have:=(PV.mp hx).1;simp at this
   lia
  have A5:=A4.push (o:=.lst (cx t)) (eU _ t);nofun;refine rv (pQ A5.w) ?_;nofun;refine⟨_,rfl,λz=>?_,λz=>?_⟩
  ·obtain⟨l1,rfl⟩:∃n,l'=n+1:=⟨l'-1,by have:=QX z;lia⟩;nofun;refine rv (pQ A5.w) ?_;nofun;refine rv (B8 A5.w _) ?_;rw[show((l1+1:Nat):Int)-1=(l1:Int) by simp];have A6:=A5.set l1;nofun;refine gA ?_;nofun;refine⟨cq (xs:=cx t) (by rw[QK (by have:=A4.lt;lia)];exact lp hbl),?_⟩;nofun;refine hr (R:=R+2) (A6.le (by lia)) G d5 (by exact Sq hf) λr l6 h6 okr cr A7=>?_;obtain⟨hb6,rfl,hbl6,A8⟩:=A4.pop A7;nofun;have hl6:=hbl6.trans hbl;refine rv (cc (lp hl6) (by rw[bK,PU,show sizeLine=16777216 from rfl];lia)) ?_;rw[qE hl6];nofun;have hcn:aj (t++[r])=aj t+cnt r:=by rw[iG];simp[aj]
   exact⟨t++[r],l6,_,hb6,rfl,by rw[bK,bK,Ql];rfl,hl6,tV okl (by unfold bt;exact⟨okr,by unfold bt;trivial⟩),by simp;exact hll,by lia,A8.le (by lia)⟩
  ·nofun;exact⟨t,l',_,hb,rfl,rfl,hbl,okl,by exact TL hll,hc,A4⟩
 ·rintro δ h' ⟨t,l',d8,hb,rfl,rfl,hbl,okl,hll,hc,A4⟩;rw[PU,Qy] at hll;nofun;refine rv (a:=(.tup (cx t),hb++[.lst (cx t)])) (by simp only[dY,dH,lp hbl,QF]) ?_;nofun;exact rv (rE hbl A4.C (λn z=>(nomatch z)) (eU _ t)) (k t l' hb okl (by lia) hc (A4.le (by lia)))
end
theorem zO:∀{xs:List D} {δ:DS} {h:MH} (J:List D->DS->MH->Prop),J [] δ h->(∀ys δ h,J ys δ h->mV ws h=true)->
  (∀x ys δ h,x∈xs->ys.length < xs.length->J ys δ h->Rn (g x δ h) λq=>Rn (e q.1 q.2) λy=>J (ys++[y.1]) q.1 y.2)->Rn (bC ws g ej e xs δ h) λp=>p.1.length=xs.length/\∃δ',J p.1 δ' p.2
 | [],δ,h,J,hJ,hc,_=>by
  unfold bC;rw[P0 (hc [] δ h hJ)];exact⟨_,rfl,rfl,δ,hJ⟩
 | x::xs,δ,h,J,hJ,hc,ht=>by
  unfold bC;rw[P0 (hc [] δ h hJ)];obtain⟨⟨δ1,h1⟩,e1,⟨y,h2⟩,e2,J1⟩:=ht x [] δ h P1 (Nat.succ_pos _) hJ;obtain⟨⟨ys,h3⟩,e3,a,δ',J2⟩:=zO (ws:=ws) (g:=g) (e:=e) (xs:=xs) (λys=>J (y::ys)) J1 (λys δ h=>hc (y::ys) δ h) λx ys δ h hx hl=>ht x (y::ys) δ h (P4 _ hx) (Nat.succ_lt_succ hl);refine⟨(y::ys,h3),?_,congrArg Nat.succ a,δ',J2⟩;rw[e1];dsimp only[Option.bind_some];show((some (true,h1)).bind _)=_;dsimp only[Option.bind_some] at e2 e3 ⊢;rw[P0 rfl,e2];dsimp only[Option.bind_some];rw[e3];rfl
theorem rX(f:α->D)(xs ys:List α)(h:MH)(hl:xs.length+ys.length<=1000):ax (.lv (xs.map f)) (.lv (ys.map f)) h=some (.lv ((xs++ys).map f),h):=by
 rw[Ql];simp only[ax,tx,eB,Qv,PU];rw[P0 (by rw[show sizeLine=16777216 from rfl];exact P6 hl (by decide))]
theorem LV(P:Prop)[Decidable P](e:Rn (t δ h) λp=>p=(decide P,h))(q1:P->Rn (x δ h) Q)(q2:¬P->Rn (y δ h) Q):Rn (gg t x y δ h) Q:=by
 refine xa (e.imp ?_);rintro _ rfl;exact⟨λz=>q1 (QX z),λz=>q2 (of_decide_eq_false z)⟩
theorem fE(P:Prop)[Decidable P](e:Rn (t δ h) λp=>p=(decide P,h))(q1:P->Rn (x δ h) (zB b Q))(q2:¬P->Rn (b δ h) Q):Rn (aq (gg t x cA) b δ h) Q:=
 fU (LV P e q1 λz=>⟨_,rfl,q2 z⟩)
theorem dT [Decidable P](p:P)(h:MH):(true,h)=(decide P,h):=by rw[Qx p]
theorem dF [Decidable P](p:¬P)(h:MH):(false,h)=(decide P,h):=by rw[QI p]
section
variable {E:En} {f:Nat}
theorem t4{n:Nat}(hlot:BL E f){h0 h:MH}{R l j:Nat}{ps:List Str}{d:Nat}{top:Int}{held:List Lock}{Q:List D×MH->Prop}
  (A:Wb E h0 (R+100*l+12) l h) (hn:n<=3) (G:Cd E.W j ps d top held) (d5:d < 5) (hf:3*(5-d)<=f) (k:∀(lots:List (List Row)) (l':Nat) (h':MH),lots.length=n->(∀t∈lots,t.length<=12/\bt E.W ps (d+1) t)->l'+(lots.map aj).sum=l->Wb E h0 (R+100*l') l' h'->Q (lots.map (λt=>D.tup (cx t)),h')):
  Rn (bC [] (gN 0) Sm.ej (ay (bJ f) (ah (aw 4) (ah (aw 6) (ah (aw 1) (ah (ao ax (aw 2) (eK (.int 1))) (ah (aw 5) (ah (aw 3) (ah (eK (.int 2)) aR)))))))) ((List.range n).map λ(k:Nat)=>D.int k) [none,some (.int j),some (.int d),some (.lv (held.map aL)),some (.ob E.s),some (.int top),some (.ob E.wd)] h) Q:=by
 refine(zO (ws:=[]) (λys δ h'=>∃(d0:Option D)(lots:List (List Row)) (l':Nat),δ=[d0,some (.int j),some (.int d),some (.lv (held.map aL)),some (.ob E.s),some (.int top),some (.ob E.wd)]/\ys=lots.map (λt=>D.tup (cx t))/\(∀t∈lots,t.length<=12/\bt E.W ps (d+1) t)/\l'+(lots.map aj).sum=l/\Wb E h0 (R+100*l'+(12-4*lots.length)) l' h') ⟨none,[],l,rfl,rfl,λ_ z=>(nomatch z),by simp,A⟩ (λ_ _ _ _=>rfl) ?_).imp ?_
 ·rintro x _ δ h' hx hys ⟨d0,lots,l',rfl,rfl,ba,hc,A1⟩;rw[PU,PU,Qy] at hys;nofun;refine hlot (R:=R+(8-4*lots.length)) (d:=d+1) (A1.le (by lia)) G.deep d5 (by lia) (by decide) (by decide) λt l2 h2 okl hll cr A2=>?_;refine⟨_,lots++[t],l2,rfl,by rw[Ql];rfl,λu z=>?_,by simp;lia,A2.le (by rw[Qb,Tp];lia)⟩;rcases Qk.mp z with z | z
  ·exact ba u z
  ·rw[Qd.mp z];exact⟨hll,okl⟩
 ·rintro⟨ys,h2⟩ ⟨hy,_,d0,lots,l',_,he,ba,hc,A1⟩;dsimp only at hy he;subst he;rw[PU,PU,Qy] at hy;exact k lots l' h2 hy ba hc (A1.le (by simp))
theorem vb(hlot:BL E f)(hlk:EY E f)(htw:KU E f):K0 E (f+1):=by
 intro h0 h R l j ps d top held Q A G d5 hf k;have pl:=G.pl;have n1:=E.ok.n1;have n2:=E.ok.n2;have d2:=E.ok.d2;unfold gx;refine bU ?_;nofun;refine w_next (m:=16) A (by decide) (by decide) λw h1 w0 w1 A1=>?_;refine fE (w < 2\/(d=5/\w < 11)) ?_ (λz=>?_) (λz=>?_)
 ·nofun;refine⟨_,rfl,λz=>?_,λz=>?_⟩
  ·have z:w < 2:=by simpa using z
   exact dT (.inl z) _
  ·have z:¬w < 2:=by simpa using z
   nofun;refine⟨_,rfl,λy=>?_,λy=>?_⟩
   ·have y0:(d:Int)=5:=by simpa using y
    have y:d=5:=by lia
    nofun;refine⟨_,rfl,?_⟩;rw[show decide (w < 11)=decide (w < 2\/(d=5/\w < 11)) from decide_eq_decide.mpr (by lia)]
   ·have y0:(d:Int)≠5:=by simpa using y
    have y:d≠5:=by lia
    exact dF (by lia) _
 ·nofun;refine rv (eF A1.w) ?_;nofun;refine rv (eG A1.w) ?_;nofun;refine rv (rX D.str E.W.names E.W.ai _ (by lia)) ?_;nofun;refine Li (xs:=(E.W.names++E.W.ai).map D.str) A1 (.inl rfl) (by simp;lia) (by simp;lia) λx h2 hx A2=>?_;obtain⟨w',hw',rfl⟩:=QG.mp hx;nofun;rw[show D.tup [.str "say",.str w']=az (.say w') by rw[az]];exact k (.say w') l h2 (by unfold aJ;exact hw') (by rw[cnt]) (A2.le (by lia))
 have nd:d=5->11<=w:=by lia
 have w2:2<=w:=by lia
 refine fE (12 < w\/d=5) ?_ (λz=>?_) (λz=>?_)
 ·nofun;refine⟨_,rfl,λy=>?_,λy=>?_⟩
  ·have y:12 < w:=by simpa using y
   exact dT (.inl y) _
  ·have y:¬12 < w:=by simpa using y
   nofun;refine⟨_,rfl,?_⟩;rw[show((d:Int)==5)=decide (12 < w\/d=5) by
    rw[Rh];simp only[Rr,QM];lia]
 ·nofun;refine HU (R:=R+100*l) (A1.le (by simp)) G λr h2 okr cr A2=>?_;nofun;exact k r l h2 (okr d) (by rw[cr]) A2
 have d4:d < 5:=by lia
 refine fE (w=12/\d < 3/\5 < (l:Int)) ?_ (λz=>?_) (λz=>?_)
 ·nofun;refine⟨_,rfl,λy=>?_,λy=>?_⟩
  ·have y:w=12:=by simpa using y
   nofun;refine⟨_,rfl,λx=>?_,λx=>?_⟩
   ·have x0:(d:Int) < 3:=by simpa using x
    have x:d < 3:=by exact Ti.mp x0
    nofun;refine rv (pQ A1.w) ?_;nofun;refine⟨_,rfl,?_⟩;rw[show decide (5 < (l:Int))=decide (w=12/\d < 3/\5 < (l:Int)) from decide_eq_decide.mpr (by lia)]
   ·have x0:¬(d:Int) < 3:=by simpa using x
    have x:¬d < 3:=by lia
    exact dF (by lia) _
  ·have y:w≠12:=by simpa using y
   exact dF (by clear y z;lia) _
 ·nofun;refine htw (R:=R) (A1.le (by simp)) G z.2.1 (by exact Ti.mp z.2.2) (by exact Sq hf) λr l2 h2 okr cr A2=>?_;nofun;exact k r l2 h2 okr cr A2
 refine fE (w=11\/w=12) ?_ (λz=>?_) (λz=>?_)
 ·nofun;refine⟨_,rfl,λy=>?_,λy=>?_⟩
  ·have y:w=11:=by simpa using y
   exact dT (.inl y) _
  ·have y:w≠11:=by simpa using y
   nofun;refine⟨_,rfl,?_⟩;rw[show(w==12)=decide (w=11\/w=12) by rw[Rh];simp only[Rr,QM];lia]
 ·show Rn (aq _ _ _ _) _;nofun;refine rv (di A1.w) ?_;nofun;refine rv (bS G.hp) ?_;nofun;refine uF A1 pl λt1 h2 tk1 A2=>?_;nofun;refine rv (di A2.w) ?_;nofun;refine rv (bS G.hp) ?_;nofun;refine uF A2 pl λt2 h3 tk2 A3=>?_;nofun;refine⟨_,_,rfl,?_⟩;nofun;refine gj ?_;nofun;refine⟨3,rfl,by lia,by lia,?_⟩;refine t4 (n:=3) (R:=R) hlot (A3.le (by simp)) (by lia) G d4 (by exact Sq hf) λlots l4 h4 hn ba cr A4=>?_
  match lots,hn with
  | [x,y,v],_=>
   refine⟨by show 3<=sizeLine;decide,?_⟩;nofun;refine rv (a:=(.tup [.tup (cx x),.tup (cx y),.tup (cx v)],_)) rfl ?_;nofun;refine rv (a:=(az (.gQ t1 t2 x y v),_)) (by rw[az];rfl) ?_;nofun;simp only[Qc,R3,QH,List.sum_nil] at cr;have hx:=ba x (by simp);have hy:=ba y (by simp);have hv:=ba v (by simp);exact k (.gQ t1 t2 x y v) l4 h4 (by unfold aJ;exact⟨tk1,tk2,d4,hx.1,hy.1,hv.1,hx.2,hy.2,hv.2⟩) (by rw[cnt];lia) A4
 refine fE (w=10) ?_ (λz=>?_) (λz=>?_)
 ·nofun;refine⟨_,rfl,?_⟩;rw[show(w==10)=decide (w=10) by rw[Rh];simp only[Rr,QM]]
 ·nofun;refine gj ?_;nofun;refine⟨2,rfl,by lia,by lia,?_⟩;refine t4 (n:=2) (R:=R) hlot (A1.le (by simp)) (by lia) G d4 (by exact Sq hf) λlots l2 h2 hn ba cr A2=>?_
  match lots,hn with
  | [x,y],_=>
   refine⟨by show 2<=sizeLine;decide,?_⟩;nofun;refine rv (a:=(.tup [.tup (cx x),.tup (cx y)],_)) rfl ?_;nofun;refine rv (a:=(az (.either x y),_)) (by rw[az];rfl) ?_;nofun;simp only[Qc,R3,QH,List.sum_nil] at cr;have hx:=ba x (by simp);have hy:=ba y (by simp);exact k (.either x y) l2 h2 (by unfold aJ;exact⟨d4,hx.1,hy.1,hx.2,hy.2⟩) (by rw[cnt];lia) A2
 refine fE (w=9) ?_ (λz=>?_) (λz=>?_)
 ·nofun;refine⟨_,rfl,?_⟩;rw[show(w==9)=decide (w=9) by rw[Rh];simp only[Rr,QM]]
 ·nofun;refine hlot (R:=R) (d:=d+1) (A1.le (by simp)) G.deep d4 (by clear z;lia) (by decide) (by decide) λt l2 h2 okl hll cr A2=>?_;nofun;rw[show D.tup [.str "again",.tup (cx t)]=az (.again t) by rw[az]];exact k (.again t) l2 h2 (by unfold aJ;exact⟨d4,hll,okl⟩) (by rw[cnt];lia) A2
 nofun;refine Li (xs:=[Str.ofString "within",Str.ofString "within",Str.ofString "within",Str.ofString "within",Str.ofString "ask",Str.ofString "all"].map D.str) A1 (.inl rfl) (by simp) (by simp) λx h2 hx A2=>?_;obtain⟨w',hw',rfl⟩:=QG.mp hx;nofun;refine hlk (R:=R) (A2.le (by simp)) G d4 (by exact Sq hf) (by simp at hw' ⊢;assumption) λr l3 h3 okr cr A3=>?_;nofun;exact k r l3 h3 okr cr A3
end
noncomputable def fW(t:Lock):PyData:=.tuple [.str t.1,qr t.2]
theorem C5(t:Term):tQ (br t)=some (qr t):=by simp only[br,tQ,lF,Qv,QF];rfl
theorem xf(t:Lock):tQ (aL t)=some (fW t):=by simp only[aL,tQ,lF,C5,Qv,QF];rfl
theorem nP:∀ts:List Lock,lF (ts.map aL)=some (ts.map fW)
 | []=>rfl
 | c::r=>by simp only[Qc,lF,nP r,xf,Qv,QF]
theorem gO:∀ts:List Lock,PyData.depthAll (ts.map fW)<=2
 | []=>by simp[PyData.depthAll]
 | c::r=>by
  have:=gO r;simp only[Qc,PyData.depthAll,fW,qr,PyData.depth]
  lia
theorem vL{h:MH}{n:Nat}{ls:List Lock}(x:Lock)(e:h[n]?=some (.lst (ls.map aL))):gY (aL x) (.ob n) h=some (.bl (!(ls.map fW).any λb=>PyData.eqv b (fW x)),h):=by
 have h1:=gO ls;have h2:=gO [x];have h3:(fW x).depth<=60:=by
  simp only[Qc,R3,PyData.depthAll] at h2
  lia
 unfold gY inD;simp only[eC,e];show((dH (.ob n) h).bind _).map _=_;simp only[dH,e,Qv,nP];show(((zM h (aL x)).bind _).map _)=_;rw[show zM h (aL x)=some (fW x) from xf x];dsimp only[Option.bind_some];rw[P0 ⟨h3,by exact P6 h1 (by decide)⟩];rfl
theorem vh(r:Rn (ma δ h) λp=>Rn (mb δ p.2) λq=>∃xs ys,eB p.1 q.2=some xs/\eB q.1 q.2=some ys/\xs.length+ys.length<=sizeLine/\Q (xs++ys,q.2)):Rn (BK ma mb δ h) Q:=
 a9 (r.imp λp r=>a9 (r.imp λq zz=>by obtain⟨xs,ys,e1,e2,hl,hq⟩:=zz;exact⟨_,by rw[e1];dsimp only[Option.bind_some];rw[e2];dsimp only[Option.bind_some];rw[P0 hl],hq⟩))
theorem Ed(x:Lock):PyData.eqv (fW x) (fW x)=true:=by
 simp[fW,qr,PyData.eqv,PyData.eqvAll]
theorem FE(r:Row)(n:Nat):az r≠.ob n:=by cases r <;> rw[az] <;> exactλz=>(nomatch z)
theorem Wb.ext(A:Wb E h0 R l h)(C:Cl (h++g)):Wb E (h++g) R l (h++g):=⟨A.S.more _,by rw[P8 A.lt.2.2];exact A.w,C,gB.refl _ _ _⟩
theorem CY(b:gB E.s E.wd h0 h)(k:EZ E h0 R l ps d Q)(r:Row)(ok:aJ E.W ps d r)(hc:l'+cnt r=l+1)(A:Wb E h (R+100*l') l' hb)(e:az r=x):Rn (leave h x (hb++g)) Q:=
 ⟨_,e ▸ rE A.b.1 A.C (FE r) (si _ r),k r l' hb ok hc (A.tr b)⟩
theorem vd(b:gB E.s E.wd h0 h)(k:EZ E h0 R l ps d Q)(r:Row)(ok:aJ E.W ps d r)(hc:l'+cnt r=l+1)(A:Wb E h (R+100*l') l' hb)(e:az r=x):Rn (leave h x hb) Q:=by
 have:=CY (g:=[]) b k r ok hc A e
 rwa [QS] at this
section
variable {E:En} {f:Nat}
theorem Bk(hlot:BL E f):EY E (f+1):=by
 intro h0 h R l j ps d top held way Q A G d5 hf hw k;obtain⟨dj,hdj⟩:∃f,E.W.ai[j]?=some f:=⟨_,Qi G.hj⟩;have hl:=G.hl;have ht:=G.ht;have b0:=A.b;replace A:=A.here;unfold dJ;refine mm ?_;nofun;refine Cb A G (by exact RK d5) (λk1 lk h1 hmx k0 k2 okk A1=>?_) λh1 _ A1=>?_
 ·nofun;refine rv (a:=(.bl false,_)) rfl ⟨_,rfl,λz=>(nomatch z),λ_=>?_⟩;refine⟨_,rfl,?_⟩;show Rn (aq _ _ _ _) _;refine fE (way=Str.ofString "all") ?_ (λz=>?_) (λz=>?_)
  ·nofun;refine⟨_,rfl,?_⟩;rw[show(way==Str.ofString "all")=decide (way=Str.ofString "all") by rw[Rh];simp only[Rr,QM]]
  ·show Rn (aq _ _ _ _) _;nofun;refine⟨_,_,rfl,?_⟩;nofun;refine gj ?_;nofun;refine Ca (is:=[1,1,2,3]) (λi=>1<=i/\i<=3) (by decide) (A1.push (o:=.lst [aL lk]) rfl) λi h2 hi A2=>?_;obtain⟨hb2,rfl,e2,A2'⟩:=A1.pop A2;nofun;refine⟨i,rfl,by exact Ra (by decide) hi.1,by exact RO hi.2 (by decide),?_⟩;refine cU (λi δ h'=>∃(ls:List Lock)(hi:Int)(n:Nat)(d11 d12 d13:Option D)(hb g:MH),δ=[some (.ob E.s),some (.ob E.wd),some (.int j),some (.int d),some (.int top),some (.lv (held.map aL)),some (.str way),some (.int k1),some (aL lk),some (.ob n),some (.int hi),d11,d12,d13,none]/\h'=hb++g/\h'[n]?=some (.lst (ls.map aL))/\h.length<=n/\lk∈ls/\ls.Nodup/\(∀x∈ls,dX E.W ps x)/\ls.length<=i+1/\0<=hi/\hi < E.W.names.length/\Wb E h (R+100*l+(80-10*i)) l hb/\Cl (hb++g))
    ⟨[lk],k1,h1.length,none,none,none,hb2,[.lst [aL lk]],rfl,rfl,lp e2,by rw[A1.b.1];exact PZ _,by simp,by simp,by simpa using okk,PZ _,k0,k2,A2'.le (by simp),A2.C⟩ (λ_ _ _ _ _=>rfl) ?_ ?_
   ·rintro q x δ h' hx ⟨ls,hi',n,d11,d12,d13,hb,g,rfl,rfl,hn,hnl,hlk,nd,ba,hll,hi0,hi1,A3,C3⟩;have hq:q < 3:=by
     have:=(PV.mp hx).1;simp at this
     lia
    nofun;refine Cb (R:=R+100*l+(80-10*(q+1))) ((A3.ext C3).le (by lia)) G (by lia) (λk4 lk4 h4 _ k40 k41 okk4 A4=>?_) λh1 z4 _=>absurd z4 (by lia)
    ·have hn4:h4[n]?=some (.lst (ls.map aL)):=by
      have:=A.lt;rw[A4.b.2 n (by lia) (by lia)];exact hn
     obtain⟨hb4,rfl,e4,A4'⟩:=A3.pop A4;nofun;refine rv (i9 _ _ _) ?_;nofun;refine vh ?_;nofun;refine rv (vL lk4 hn4) ?_;obtain⟨us,v,hv,hus,husl,hnd,hokk⟩:∃(us:List Lock)(v:Int),oj [.bl (!(ls.map fW).any λb=>PyData.eqv b (fW lk4))] (hb4++g)=some (.int v,hb4++g)/\y4 (.lv [aL lk4]) (.int v) (hb4++g)=some (.lv (us.map aL),hb4++g)/\us.length<=1/\(ls++us).Nodup/\∀x∈ls++us,dX E.W ps x:=by
      cases hb0:((ls.map fW).any λb=>PyData.eqv b (fW lk4)) with
      | true=>exact⟨[],0,rfl,rfl,by simp,by simpa using nd,by simpa using ba⟩
      | false=>
       have hnot:lk4∉ls:=λz=>by
        rw[List.any_eq_false] at hb0;exact hb0 (fW lk4) (Tx z) (Ed lk4)
       refine⟨[lk4],1,rfl,rfl,by simp,?_,?_⟩
       ·rw[RX];refine⟨nd,by simp,λx hx y hy z=>hnot ?_⟩;rw[Qd.mp hy] at z;rw[<-z];exact hx
       ·intro x hx;rcases Qk.mp hx with z | z
        ·exact ba x z
        ·rw[Qd.mp z];exact okk4
     nofun;refine rv hv ?_;nofun;refine rv hus ?_;refine⟨ls.map aL,us.map aL,by simp only[eB,hn4],rfl,by rw[PU,PU,show sizeLine=16777216 from rfl];lia,?_⟩;refine⟨ls++us,max hi' k4,(hb4++g).length,_,_,_,hb4,g++[.lst ((ls++us).map aL)],rfl,by rw[Ql];exact QC _ _ _,by rw[Ql];simp,?_,QV _ hlk,hnd,hokk,by simp;lia,by lia,by lia,A4',?_⟩
     ·have:=A4'.b.1;rw[Qb];lia
     ·rw[<-QC];exact A4.C.snoc (o:=.lst _) (fu _ _ (qc _) _)
   ·rintro δ h' ⟨ls,hi',n,d11,d12,d13,hb,g,rfl,rfl,hn,hnl,hlk,nd,ba,hll,hi0,hi1,A3,C3⟩;rw[PU,Qy] at hll A3;replace A3:=A3.le (R':=R+100*l+10) (by lia);show Rn (aq _ _ _ _) _;refine fU ?_;refine Rn.imp (Q:=λr=>∃(ls:List Lock)(g:MH),r=(Fl.nx,[some (.ob E.s),some (.ob E.wd),some (.int j),some (.int d),some (.int top),some (.lv (held.map aL)),some (.str way),some (.int k1),some (aL lk),some (.ob n),some (.int hi'),d11,d12,d13,none],hb++g)/\(hb++g)[n]?=some (.lst (ls.map aL))/\2<=ls.length/\ls.length<=4/\ls.Nodup/\(∀x∈ls,dX E.W ps x)/\Cl (hb++g)) ?_ ?_
    ·nofun;refine rv (vM hn) ?_;nofun;refine⟨_,rfl,λz=>?_,λz=>?_⟩
     ·have z:ls.length=1:=by
       have:((ls.map aL).length:Int)=1:=by simpa using z
       rw[PU] at this
       lia
      obtain⟨x0,rfl⟩:∃x0,ls=[x0]:=RM.mp z;obtain rfl:lk=x0:=Qd.mp hlk;obtain⟨nm,wo,fi⟩:=lk;have hok0:=ba _ (Qd.mpr rfl);nofun;refine gA ?_;nofun;refine⟨cq hn,?_⟩;nofun;refine rv (a:=(.str nm,_)) rfl ?_;nofun;refine rv (a:=(br (wo,fi),_)) rfl ?_;nofun;refine rv (a:=(.str wo,_)) rfl ?_;nofun;refine rv (a:=(br (wo,fi),_)) rfl ?_;nofun;refine rv (a:=(.int fi,_)) rfl ?_;nofun;refine rv (a:=(br (wo,fi),_)) rfl ?_;nofun;refine rv (a:=(.int fi,_)) rfl ?_;nofun;obtain⟨v,hv,hm,v1,v0⟩:∃v:Int,oj [.bl (decide (90 < fi))] (hb++g)=some (.int v,hb++g)/\iE (.int 2) (.int v) (hb++g)=some (.int (2*v),hb++g)/\(90 < fi->v=1)/\(¬90 < fi->v=0):=by
       by_cases z:90 < fi
       ·exact⟨1,by rw[Qx z];rfl,rfl,λ_=>rfl,λy=>absurd z y⟩
       ·exact⟨0,by rw[QI z];rfl,rfl,λy=>absurd y z,λ_=>rfl⟩
      refine rv hv ?_;nofun;refine rv hm ?_;nofun;refine rv (cc hn (by rw[PU,show sizeLine=16777216 from rfl];simp)) ?_;nofun;have hlen:=A3.b.1;rw[RV _ _ (by lia)];have okf:=hok0.2;have okn:=hok0.1;dsimp only at okn;unfold dD at okf;dsimp only at okf;have hvv:v=0\/v=1:=by by_cases z:90 < fi <;> lia
      refine⟨[(nm,wo,fi),(nm,wo,fi+1-2*v)],_,rfl,?_,by simp,by simp,?_,?_,?_⟩
      ·rw[Qa (by lia),QA]
       ·rfl
       ·have:=(PV.mp hn).1;rw[Qb] at this
        lia
      ·simp;lia
      ·intro x hx;rcases P5.mp hx with rfl | hx
       ·exact hok0
       ·rw[Qd.mp hx];exact⟨okn,okf.1,by dsimp only;lia,by dsimp only;lia⟩
      ·rw[<-RV _ _ (by lia)];exact C3.set (o:=.lst _) rfl
     ·have z:ls.length≠1:=by
       have:((ls.map aL).length:Int)≠1:=by simpa using z
       rw[PU] at this
       lia
      have:0 < ls.length:=List.length_pos_of_mem hlk;exact⟨_,rfl,ls,g,rfl,hn,by lia,by lia,nd,ba,C3⟩
    rintro _ ⟨ls,g,rfl,hn,l2,l4,nd,ba,C4⟩;have A4:=A3.ext C4;show Rn (aq _ _ _ _) _;nofun;refine rv (yl A4.w) ?_;nofun;obtain⟨v,hv,v0,v1⟩:∃v:Int,oj [.bl (E.odd==0)] (hb++g)=some (.int v,hb++g)/\0<=v/\v<=1:=by
     cases E.odd==0
     ·exact⟨0,rfl,by lia,by lia⟩
     ·exact⟨1,rfl,by lia,by lia⟩
    refine rv hv ?_;nofun;refine rv (a:=(.tup (ls.map aL),_)) (by simp only[dY,dH,hn,QF];rfl) ?_;nofun;refine rv (i9 _ _ _) ?_;nofun;refine rv (a:=(.lv ((held++ls).map aL),_)) (by
     rw[Ql];simp only[ax,tx,eB,hn,Qv,PU];rw[P0 (by rw[show sizeLine=16777216 from rfl];lia)]) ?_
    nofun;refine hlot (R:=R) (d:=d+1) (A4.le (by simp)) (G.more (n:=1) (by lia) (by lia) ba) d5 (by lia) (by decide) (by decide) λt l5 h5 okl hll5 cr A5=>?_;obtain⟨hb5,rfl,_,A5'⟩:=A3.pop A5;nofun;exact CY b0 k (.all ls t) (by unfold aJ;exact⟨⟨l2,l4,nd,ba⟩,d5,hll5,okl⟩) (by rw[cnt];lia) A5' (by rw[az])
  refine fU ?_;nofun;refine rv (i9 _ _ _) ?_;nofun;refine rv (rX aL held [lk] _ (by simp;lia)) ?_;nofun;refine hlot (R:=R+10) (d:=d+1) (A1.le (by lia)) (G.more (n:=1) (ls:=[lk]) (by clear hmx;lia) (by simp) (by simpa using okk)) d5 (by lia) (by decide) (by decide) λt l2 h2 okl hll cr A2=>?_;refine Rn.imp (Q:=_) (fE (way=Str.ofString "ask") ?_ (λz=>?_) (λz=>?_)) λ_ z=>z
  ·nofun;refine⟨_,rfl,?_⟩;rw[show(way==Str.ofString "ask")=decide (way=Str.ofString "ask") by rw[Rh];simp only[Rr,QM]]
  ·nofun;refine hlot (R:=R) (d:=d+1) (A2.le (by lia)) G.deep d5 (by lia) (by decide) (by decide) λt3 l3 h3 okl3 hll3 cr3 A3=>?_;nofun;exact vd b0 k (.ask lk t t3) (by unfold aJ;exact⟨okk,d5,hll,hll3,okl,okl3⟩) (by rw[cnt];lia) A3 (by rw[az])
  ·nofun;exact vd b0 k (.within lk t) (by unfold aJ;exact⟨okk,d5,hll,okl⟩) (by rw[cnt];lia) (A2.le (by lia)) (by rw[az])
 ·nofun;refine rv (a:=(.bl true,_)) rfl ⟨_,rfl,λ_=>?_,λz=>(nomatch z)⟩;nofun;refine rv (eG A1.w) ?_;nofun;refine rv (bS hdj) ?_;nofun;exact vd b0 k (.say dj) (by unfold aJ;exact Qm _ (PX hdj)) (by rw[cnt]) (A1.le (by lia)) (by rw[az])
end
theorem y8(ts:List Lock)(h:MH):iD (.lv (ts.map aL)) (.lv []) h=some (.bl (!ts.isEmpty),h):=by
 have:=gO ts;simp only[iD,Ho,eC,Hn,zM,nP,tQ,lF,QF,Qv];rw[P0 ⟨show PyData.depthAll _+1<=64 by exact Q6 this (by decide),by decide⟩];cases ts <;> rfl
section
variable {E:En}
theorem HZ{f:Nat}(hlot:BL E f):KU E (f+1):=by
 intro h0 h R l j ps d top held Q A G d3 l5 hf k;have pl:=G.pl;have hl:=G.hl;have ht:=G.ht;have b0:=A.b;replace A:=A.here;obtain⟨dj,hdj⟩:∃f,E.W.ai[j]?=some f:=⟨_,Qi G.hj⟩;obtain⟨fj,hfj⟩:∃f,E.fl[j]?=some f:=⟨_,Qi (by rw[E.ok.OH];exact G.hj)⟩;have hfm:=E.ok.f0 fj (PX hfj);have hsay:Rn (leave h (.tup [.str "say",.str dj]) h) Q:=vd b0 k (.say dj) (by unfold aJ;exact Qm _ (PX hdj)) (by rw[cnt]) (A.le (by lia)) (by rw[az]);unfold cQ;refine mm ?_;nofun;refine rv (nz A.w) ?_;nofun;refine rv (bS hfj) ?_;nofun;refine rv (i9 top fj h) ?_;have lo0:0<=max top fj:=by lia
 have lo1:max top fj<=E.W.names.length:=by lia
 generalize max top fj=lo at lo0 lo1 ⊢;refine fE (lo=E.W.names.length) ?_ (λz=>?_) (λz=>?_)
 ·nofun;refine rv (eF A.w) ?_;nofun;refine⟨_,rfl,?_⟩;rw[PU,show(lo==(E.W.names.length:Int))=decide (lo=E.W.names.length) by rw[Rh];simp only[Rr,QM]]
 ·nofun;refine rv (eG A.w) ?_;nofun;refine rv (bS hdj) ?_;nofun;exact hsay
 obtain⟨kn,rfl⟩:=Rg lo0;have hkn:kn < E.W.names.length:=by lia
 obtain⟨nm,hnm⟩:∃f,E.W.names[kn]?=some f:=⟨_,Qi hkn⟩;refine fU ?_;nofun;refine dU ?_;nofun;refine⟨_,_,rfl,?_⟩;obtain⟨⟨ys,h4⟩,e4,hyl,hym,δ4,hh4,_⟩:=pV (ws:=[]) (g:=gN 0) (c:=aD (ao cP (ao aW (aw 0) (eK (.int 0))) (ao aW (ao aW (aw 2) (eK (.str "names"))) (aw 1)))) (e:=aw 0) (λx y=>∃l∈held,y=aL l)
  (xs:=held.map aL) (δ:=[none,some (.int kn),some (.ob E.wd)]) (h:=h) (λj δ h'=>h'=h/\∃d0,δ=[d0,some (.int kn),some (.ob E.wd)]) ⟨rfl,_,rfl⟩ (λ_ _ _ _ _=>rfl) (by
   rintro i x δ h' hx ⟨rfl,d0,rfl⟩;obtain⟨l,hl,rfl⟩:=QG.mp (PX hx);nofun;refine rv (a:=(.str l.1,_)) rfl ?_;nofun;refine rv (eF A.w) ?_;nofun;refine rv (bS hnm) ?_;nofun;refine⟨_,rfl,λ_=>?_,λ_=>⟨rfl,_,rfl⟩⟩;nofun;exact⟨⟨l,hl,rfl⟩,rfl,_,rfl⟩)
 dsimp only at hh4;subst hh4;refine rv e4 ⟨P6 hyl (by rw[PU,show sizeLine=16777216 from rfl];lia),?_⟩;obtain⟨ts,rfl⟩:∃ts:List Lock,ys=ts.map aL:=by
  clear e4 hyl
  induction ys with
  | nil=>exact⟨[],rfl⟩
  | cons y r ih=>
   obtain⟨js,rfl⟩:=ih λz hz=>hym z (P4 _ hz);obtain⟨x,hx,l,hl,rfl⟩:=hym y P1;exact⟨l::js,rfl⟩
 nofun;refine rv (y8 ts _) ⟨_,rfl,λz=>?_,λz=>?_⟩
 ·nofun;refine rv (eG A.w) ?_;nofun;refine rv (bS hdj) ?_;nofun;exact hsay
 nofun;refine rv (eF A.w) ?_;nofun;refine rv (bS hnm) ?_;nofun;refine rv (pQ A.w) ?_;nofun;refine rv (B8 A.w _) ?_;rw[show(l:Int)-5=((l-5:Nat):Int) by lia];have A1:=A.set (l-5);generalize h4.set E.wd (nu E.W E.fl ((l-5:Nat):Int) E.odd)=h5 at A1 ⊢;nofun;refine rv (di A1.w) ?_;nofun;refine rv (bS G.hp) ?_;nofun;refine uF A1 pl λt1 h2 tk1 A2=>?_;nofun;refine rv (di A2.w) ?_;nofun;refine rv (bS G.hp) ?_;nofun;refine uF A2 pl λt2 h3 tk2 A3=>?_;nofun;refine⟨_,_,rfl,?_⟩;nofun;refine dU ?_;nofun;refine⟨_,_,rfl,?_⟩;have hlen3:=A3.b.1;have okn:=PX hnm;refine cU (λi δ h'=>∃(rows:List Row)(l':Nat)(d11 d12 d13:Option D)(hb:MH),δ=[some (.ob E.s),some (.ob E.wd),some (.int j),some (.int d),some (.int top),some (.lv (held.map aL)),some (.int kn),some (.str nm),some (br t1),some (br t2),some (.ob h3.length),d11,d12,d13]/\h'=hb++[.lst (rows.map λr=>.tup [az r])]/\rows.length=i/\(∀r∈rows,aJ E.W ps (d+1) r)/\l'+(rows.map cnt).sum+5=l+2*i/\Wb E h4 (R+100*l'+(8-4*i)) l' hb)
  ⟨[],l-5,_,_,_,h3,rfl,rfl,rfl,λ_ z=>(nomatch z),by simp;lia,A3.le (by lia)⟩ (λ_ _ _ _ _=>rfl) ?_ ?_
 ·rintro i x δ h' hx ⟨rows,l',d11,d12,d13,hb,rfl,rfl,hrl,hro,hc,A6⟩;have hi:i < 2:=(PV.mp hx).1;obtain⟨u,v,rfl,uk,vk⟩:∃u v:Term,x=.tup [br u,br v]/\dD ps u/\dD ps v:=by
   rcases P5.mp (PX hx) with rfl | hx
   ·exact⟨t1,t2,rfl,tk1,tk2⟩
   ·rw[Qd.mp hx];exact⟨t2,t1,rfl,tk2,tk1⟩
  have hlb:hb.length=h3.length:=A6.b.1.trans hlen3.symm;generalize hrs:rows.map (λr=>D.tup [az r])=rs;have hcl:fI (hb.length+1) rs=true:=by rw[<-hrs];exact fu _ _ (λr=>by show(g0 _ (az r)&&true)=true;rw[si];rfl) rows
  nofun;refine rv (rX aL held [(nm,u),(nm,v)] _ (by simp;lia)) ?_;nofun;refine hlot (R:=R+(8-4*(i+1))) (d:=d+3) ((A6.push (o:=.lst rs) hcl).le (by lia)) (G.more (n:=3) (ls:=[(nm,u),(nm,v)]) lo1 (by simp) (by
   intro x hx;rcases P5.mp hx with rfl | z
   ·exact⟨okn,uk⟩
   ·rw[Qd.mp z];exact⟨okn,vk⟩)) (by lia) (by lia) (by decide) (by decide) λt l7 h7 okl hll cr A7=>?_
  obtain⟨hb7,rfl,e7,A7'⟩:=A6.pop A7;have hl7:=e7.trans hlb;nofun;refine gA ?_;nofun;refine⟨cq (lp hl7),?_⟩;nofun;refine rv (cc (lp hl7) (by rw[<-hrs,PU,show sizeLine=16777216 from rfl];lia)) ?_;rw[qE hl7];nofun;have hcn:((rows++[Row.within (nm,u) [Row.within (nm,v) t]]).map cnt).sum=(rows.map cnt).sum+(2+aj t):=by
   rw[Ql,Sa];simp[cnt,aj]
   lia
  refine⟨rows++[.within (nm,u) [.within (nm,v) t]],l7,_,_,_,hb7,rfl,?_,by simp[hrl],?_,by rw[hcn];lia,A7'.le (by lia)⟩
  ·rw[Ql,hrs];simp[az,cx,aL]
  ·intro r hr;rcases Qk.mp hr with z | z
   ·exact hro r z
   ·rw[Qd.mp z];simp only[aJ,bt];exact⟨⟨okn,uk⟩,by exact Q6 d3 (by decide),by simp,⟨⟨okn,vk⟩,by lia,hll,okl⟩,trivial⟩
 ·rintro δ h' ⟨rows,l',d11,d12,d13,hb,rfl,rfl,hrl,hro,hc,A6⟩
  match rows,hrl with
  | [r0,r1],_=>
   have hc:l'+(([r0,r1]:List Row).map cnt).sum+5=l+2*2:=hc;have hat:(hb++[MO.lst [.tup [az r0],.tup [az r1]]])[h3.length]?=some (.lst [.tup [az r0],.tup [az r1]]):=lp (A6.b.1.trans hlen3.symm);show Rn _ _;nofun;refine rv (gZ hat (d:=.tup [az r0]) rfl) ?_;nofun;refine rv (gZ hat (d:=.tup [az r1]) rfl) ?_;nofun;refine CY b0 k (.gQ t1 t2 [r0] [.within (nm,t1) []] [r1]) ?_ ?_ (A6.le (by exact PZ _)) (by simp[az,cx,aL])
   ·simp only[aJ,bt];exact⟨tk1,tk2,by exact Qq d3 (by decide),by simp,by simp,by simp,⟨hro r0 (by simp),trivial⟩,⟨⟨⟨okn,tk1⟩,by exact Q6 d3 (by decide),by simp,trivial⟩,trivial⟩,⟨hro r1 (by simp),trivial⟩⟩
   ·simp[cnt,aj] at hc ⊢;lia
theorem ring:∀f,BL E f/\K0 E f/\EY E f/\KU E f
 | 0=>⟨λ_ _ _ z=>absurd z (by lia),λ_ _ _ z=>absurd z (by lia),λ_ _ z1 z=>absurd z (by lia),λ_ _ z1 _ z=>absurd z (by lia)⟩
 | f+1=>let⟨a,b,c,d⟩:=ring f;⟨yU b,vb a c d,Bk a,HZ a⟩
end
theorem vI{P:Int->Prop}:∀{zs:List D},(∀y∈zs,∃i,y=.int i/\P i)->∃js:List Int,zs=js.map D.int/\∀j∈js,P j
 | [],_=>⟨[],rfl,λ_ z=>(nomatch z)⟩
 | y::r,h=>by
  obtain⟨js,rfl,q⟩:=vI (zs:=r) λz hz=>h z (P4 _ hz);obtain⟨i,rfl,p⟩:=h y P1;exact⟨i::js,rfl,λj hj=>by
   rcases P5.mp hj with rfl | hj
   ·exact p
   ·exact q j hj⟩
theorem Bu(f:α->D)(xs:List α)(k:Nat)(h:MH):i8 (.lv (xs.map f)) none (some (k:Int)) h=some (.lv ((xs.take k).map f),h):=by
 show some (D.lv (cutD (xs.map f) none (some (k:Int))),h)=_;unfold cutD;rw[HT.lV,HT.pT,Ts,TJ,PU,<-TF]
 by_cases z:k<=xs.length
 ·rw[Ry z]
 ·rw[Nat.min_eq_right (by lia),RL (PZ _),RL (by lia)]
theorem GQ{h h0:MH}{s c R:Nat}{cs:List Int}{most odd:Int}{Q:D×MH->Prop}(A:Sb s c cs h0 (R+80) h)(o0:0<=odd)(o1:odd<=1000)(k:∀(W:Wd)(fl:List Int)(hb:MH),ly W fl odd->Sb s c cs h0 R hb->Q (.ob hb.length,hb++[nu W fl most odd])):Rn (je [.ob s,.int most,.int odd] h) Q:=by
 refine bU ?_;nofun;refine kJ (is:=[1,2,2,3,4,6]) (λi=>1<=i/\i<=6) (by decide) A λn1 h1 hn1 _ A1=>?_;nofun;refine vX A1 (by exact Int.le_of_lt hn1.1) hn1.2 λns h2 nl nk nnd A2=>?_;nofun;refine kJ (is:=[1,1,2,2,3,4,6]) (λi=>1<=i/\i<=6) (by decide) A2 λn2 h3 hn2 _ A3=>?_;nofun;refine vX A3 (by exact Int.le_of_lt hn2.1) hn2.2 λds h4 dl dk dnd A4=>?_;nofun;refine vX A4 (by lia) (by lia) λps h5 pl pk pnd A5=>?_;nofun;refine dU ?_;nofun;refine⟨_,_,rfl,?_⟩;obtain⟨⟨ys,h6⟩,e6,a6,δ6,_,A6⟩:=pW (ws:=[]) (g:=gN 0) (e:=ay aT (ah (aw 1) (ah (eK (.lv [.int 0,.int 1,.int 1,.int 2,.int 2,.int 3])) aR))) (λ_ y=>∃i,y=.int i/\0<=i/\i<=3)
  (xs:=ds.map D.str) (δ:=[none,some (.ob s)]) (h:=h5) (λi δ h'=>(∃d0,δ=[d0,some (.ob s)])/\Sb s c cs h0 (R+18-i) h') ⟨⟨_,rfl⟩,A5⟩ (λ_ _ _ _ _=>rfl) (by
   rintro i x δ h' hx ⟨⟨d0,rfl⟩,A6⟩;have hi:i < 6:=by
    have:=(PV.mp hx).1;rw[PU] at this
    lia
   nofun;exact kJ (R:=R+18-(i+1)) (is:=[0,1,1,2,2,3]) (λi=>0<=i/\i<=3) (by decide) (A6.le (by lia)) λi h7 hi _ A7=>⟨⟨i,rfl,hi⟩,⟨_,rfl⟩,A7⟩)
 have l6:=a6.length;obtain⟨many,rfl,hmany⟩:=vI (P:=λi=>0<=i/\i<=3) λy hy=>(let⟨_,_,r⟩:=a6.right y hy;r);dsimp only at l6;rw[PU,PU] at l6;rw[PU] at A6;refine rv e6 ⟨by dsimp only;rw[PU,show sizeLine=16777216 from rfl];lia,?_⟩;nofun;refine dU ?_;nofun;refine⟨_,_,rfl,?_⟩;obtain⟨⟨ys,h7⟩,e7,a7,δ7,_,A7⟩:=pW (ws:=[]) (g:=gN 0) (e:=ay aP (ah (aw 2) (ah (ay dE (ah (aw 1) aR)) aR))) (λ_ y=>∃i,y=.int i/\0<=i/\i < ns.length)
  (xs:=ds.map D.str) (δ:=[none,some (.lv (ns.map D.str)),some (.ob s)]) (h:=h6) (λi δ h'=>(∃d0,δ=[d0,some (.lv (ns.map D.str)),some (.ob s)])/\Sb s c cs h0 (R+12-i) h') ⟨⟨_,rfl⟩,A6.le (by lia)⟩ (λ_ _ _ _ _=>rfl) (by
   rintro i x δ h' hx ⟨⟨d0,rfl⟩,A7⟩;have hi:i < 6:=by
    have:=(PV.mp hx).1;rw[PU] at this
    lia
   nofun;rw[PU];exact fv (R:=R+12-(i+1)) (A7.le (by clear A7 hx;lia)) (by lia) (by lia) λr h8 r0 r1 A8=>⟨⟨r,rfl,r0,r1⟩,⟨_,rfl⟩,A8⟩)
 have l7:=a7.length;obtain⟨fls,rfl,hfls⟩:=vI (P:=λi=>0<=i/\i < ns.length) λy hy=>(let⟨_,_,r⟩:=a7.right y hy;r);dsimp only at l7;rw[PU,PU] at l7;rw[PU] at A7;refine rv e7 ⟨by dsimp only;rw[PU,show sizeLine=16777216 from rfl];lia,?_⟩;nofun;refine rv (a:=(.lv ((dC fls).map D.int),h7)) (by
  show(jm (fls.map D.int)).bind _=_;rw[ub];show(if fls.length < 64 then _ else _)=_;rw[P0 (by lia)]) ?_
 nofun;refine dU ?_;nofun;refine⟨_,_,rfl,?_⟩;have e8:bC [] (gN 0) ej (jt (aw 1) wy (wz (aw 0))) (many.map D.int) [none,some (.lv (ps.map D.str))] h7=some ((many.map D.int).filterMap λd=>match d with | .int k=>some (.lv ((ps.take k.toNat).map D.str)) | _=>none,h7):=
  vg rfl _ (λδ=>∃d0,δ=[d0,some (.lv (ps.map D.str))]) ⟨_,rfl⟩ (by
   rintro x hx δ ⟨d0,rfl⟩;obtain⟨k,hk,rfl⟩:=QG.mp hx;refine rv rfl ⟨rfl,rv rfl ⟨rfl,⟨_,rfl⟩,λ_=>⟨_,rfl,?_⟩,λz=>(nomatch z)⟩⟩;obtain⟨n,rfl⟩:=Rg (hmany k hk).1;nofun;refine⟨_,rfl,rv (Bu D.str ps n _) ?_⟩;rfl)
 have e9:((many.map D.int).filterMap λd=>match d with | .int k=>some (D.lv ((ps.take k.toNat).map D.str)) | _=>none)=(many.map λk=>ps.take k.toNat).map λps=>D.lv (ps.map D.str):=by
  rw[RN,Q9];exact congrFun (UI (f:=(λps:List Str=>D.lv (ps.map D.str))∘λk:Int=>ps.take k.toNat)) _
 rw[e9] at e8;refine rv e8 ⟨by dsimp only;rw[PU,PU,show sizeLine=16777216 from rfl];lia,?_⟩;nofun;have hfin:∀(a b c d e f:D),Rn (zb (fc (eK (.str "names")) (aw 3) (fc (eK (.str "deeds")) (aw 4) (fc (eK (.str "params")) (aw 5) (fc (eK (.str "floors")) (aw 7) (fc (eK (.str "left")) (aw 1) (fc (eK (.str "odd")) (aw 2) Gd)))))) [some (.ob s),some (.int most),some (.int odd),some a,some b,some c,some d,some e] h7) λp=>p=(.ob h7.length,h7++[.dct [(.inr (Str.ofString "names"),a),(.inr (Str.ofString "deeds"),b),(.inr (Str.ofString "params"),c),(.inr (Str.ofString "floors"),e),(.inr (Str.ofString "left"),.int most),(.inr (Str.ofString "odd"),.int odd)]]):=λa b c d e f=>⟨_,rfl,rfl⟩;refine(hfin _ _ _ _ _ .cw).imp ?_;rintro _ rfl;nofun;refine k ⟨ns,ds,many.map λk=>ps.take k.toNat⟩ (dC fls) h7 ⟨?_,?_,?_,?_,?_,?_,?_,?_,o0,o1,nk,dk,?_,nnd,dnd,?_⟩ (A7.le (by lia))
 ·show 1<=ns.length;lia
 ·show ns.length<=6;lia
 ·show 1<=ds.length;lia
 ·show ds.length<=6;lia
 ·show(many.map _).length=ds.length;rw[PU];lia
 ·intro q hq;obtain⟨k,hk,rfl⟩:=QG.mp hq;rw[Qj];have:=pl
  lia
 ·show(dC fls).length=ds.length;rw[(fh fls).length_eq];lia
 ·intro f hf;exact hfls f ((fh fls).mem_iff.mp hf)
 ·intro q hq w hw;obtain⟨k,hk,rfl⟩:=QG.mp hq;exact pk w (Tq hw)
 ·intro q hq;obtain⟨k,hk,rfl⟩:=QG.mp hq;exact pnd.sublist (S8 _ _)
end Mi
namespace Pg
open PySem Sm L2
abbrev cf:=Str×List Str×List Row
structure Prog where
 names:List Str
 ai:List cf
noncomputable def fe(d:cf):D:=.tup [.str d.1,.tup (d.2.1.map D.str),.tup (cx d.2.2)]
noncomputable def bp(P:Prog):D:=.tup [.tup (P.names.map D.str),.tup (P.ai.map fe)]
structure BS(W:Wd)(most:Nat)(P:Prog):Prop where
 nm:P.names=jg W.names
 dl:P.ai.length=W.ai.length
 dd:∀(j:Nat)(d:cf),P.ai[j]?=some d->W.ai[j]?=some d.1/\W.params[j]?=some d.2.1/\bt W d.2.1 1 d.2.2/\d.2.2.length<=12
 ct:(P.ai.map λd=>aj d.2.2).sum<=most
end Pg
namespace Mi
open PySem Sm L2 Pg
theorem vR(n:Nat)(d:cf):g0 n (fe d)=true:=by
 show(true&&(fI n (d.2.1.map D.str)&&(fI n (cx d.2.2)&&true)))=true;rw[iI,eU];rfl
theorem GK(n:Nat)(P:Prog):g0 n (bp P)=true:=by
 show(fI n (P.names.map D.str)&&(fI n (P.ai.map fe)&&true))=true;rw[iI,fu n _ (vR n)];rfl
theorem mQ{α:Type}{f:α->D}{xs:List α}{i:Nat}{x:D}(h:(kI 0 (xs.map f))[i]?=some x):∃a,xs[i]?=some a/\x=.tup [.int (i:Int),f a]:=by
 rw[oq,Qg] at h;cases e:xs[i]? with
 | none=>rw[e] at h;cases h
 | some a=>
  rw[e] at h;cases h;exact⟨a,rfl,by rw[QL]⟩
theorem Wb.out(C:Cl h)(B:Sb E.s E.c E.cs h R' h0)(e:E.wd=h0.length)(A:Wb E (h0++[o]) R l h1):∃hb o',h1=hb++[o']/\Sb E.s E.c E.cs h R hb/\Cl hb:=by
 have b:=A.b;obtain⟨hs,hc⟩:=B.S.lt;have hl:h1.length=h0.length+1:=by rw[b.1];simp
 have hx:h0.length < h1.length:=by lia
 have ee:h1=h1.take h0.length++[h1[h0.length]'hx]:=by rw[List.take_append_getElem,RL (by exact UD hl)]
 have bb:sG E.s h0 (h1.take h0.length):=⟨by rw[Qj];lia,λk hk=>by
  by_cases z:k < h0.length
  ·rw[Qz z,b.2 k hk (by lia),P8 z]
  ·rw[QU (by rw[Qj];lia),QU (by exact Rq z)]⟩
 have S:=A.S;rw[ee] at S;have S':=S.cut (by rw[bb.1];exact hs) (by rw[bb.1];exact hc);exact⟨_,_,ee,⟨S',B.b.trans bb⟩,C.but S' (B.b.trans bb)⟩
theorem BH{h h0:MH}{s c R most:Nat}{cs:List Int}{odd:Int}{Q:D×MH->Prop}(A:Sb s c cs h0 (R+100*most+120) h)(C:Cl h)(o0:0<=odd)(o1:odd<=1000)(k:∀(W:Wd)(fl:List Int)(P:Prog)(h1:MH),ly W fl odd->BS W most P->Sb s c cs h0 R h1->Cl h1->Q (bp P,h1)):Rn (gy [.ob s,.int most,.int odd] h) Q:=by
 refine mm ?_;nofun;refine GQ (R:=R+100*most+40) A.S.sb o0 o1 λW fl hb ok A1=>?_;obtain⟨lt1,lt2⟩:=A1.S.lt;have d2:=ok.d2;have n1:=ok.n1;have n2:=ok.n2;have hlen:=A1.b.1;let E:En:=⟨s,c,hb.length,cs,W,fl,odd,ok,by exact SR lt1,by exact SR lt2⟩;have B0:Wb E (hb++[nu W fl most odd]) (R+100*most+40) most (hb++[nu W fl most odd]):=⟨A1.S.more _,lp rfl,(C.but A1.S A1.b).snoc (zf _ _ _ _ _),gB.refl _ _ _⟩;nofun;refine mn ?_;nofun;refine rv (eG (B0.push (o:=.lst []) rfl).w) ?_;nofun;refine⟨_,_,_,rfl,rfl,?_⟩;have hobl:(hb++[nu W fl most odd]).length=h.length+1:=by simp[hlen]
 rw[hobl];refine cU (λi δ h'=>∃(dds:List cf)(l':Nat)(d5 d6 d7:Option D)(hw:MH),δ=[some (.ob s),some (.int most),some (.int odd),some (.ob hb.length),some (.ob (h.length+1)),d5,d6,d7]/\h'=hw++[.lst (dds.map fe)]/\hw.length=h.length+1/\dds.length=i/\(∀(j:Nat)(d:cf),dds[j]?=some d->W.ai[j]?=some d.1/\W.params[j]?=some d.2.1/\bt W d.2.1 1 d.2.2/\d.2.2.length<=12)/\l'+(dds.map λd=>aj d.2.2).sum=most/\Wb E (hb++[nu W fl most odd]) (R+100*l'+(40-5*i)) l' hw)
  ⟨[],most,_,_,_,_,rfl,rfl,hobl,rfl,λ_ _ z=>by simp at z,by simp,B0⟩ (λ_ _ _ _ _=>rfl) ?_ ?_
 ·rintro i x δ h' hx ⟨dds,l',d5,d6,d7,hw,rfl,rfl,hwl,hdl,hdd,hc,A6⟩;obtain⟨dn,hdn,rfl⟩:=mQ hx;have hi:i < W.ai.length:=(PV.mp hdn).1;obtain⟨ps,hps⟩:∃f,W.params[i]?=some f:=⟨_,Qi (by rw[ok.pl];exact hi)⟩;nofun;refine Ca (E:=E) (R:=R+100*l'+(39-5*i)) (is:=[1,2,3,4,12]) (λi=>1<=i/\i<=12) (by decide) ((A6.push (o:=.lst (dds.map fe)) (fu _ _ (vR _) dds)).le (by lia)) λmo h7 hmo A7=>?_;nofun;refine(ring (E:=E) 20).1 (R:=R+(40-5*(i+1))) (d:=1) (held:=[]) (A7.le (by lia)) ⟨hps,hi,by decide,show(-1:Int)<=W.names.length by simp,λ_ z=>(nomatch z),by simp⟩ (by decide) (by decide) hmo.1 hmo.2 λt l8 h8 okl hll cr A8=>?_;have w8:=A8.w;obtain⟨hw8,rfl,e8,A8'⟩:=A6.pop A8;have hl8:=e8.trans hwl;nofun;refine gA ?_;nofun;refine⟨cq (lp hl8),?_⟩;nofun;refine rv (di w8) ?_;nofun;refine rv (bS hps) ?_;nofun;refine rv (a:=(.tup (ps.map D.str),_)) rfl ?_;nofun;refine rv (cc (lp hl8) (by rw[PU,show sizeLine=16777216 from rfl];lia)) ?_;rw[qE hl8];nofun;have hcn:((dds++[(dn,ps,t)]).map λd:cf=>aj d.2.2).sum=(dds.map λd:cf=>aj d.2.2).sum+aj t:=by
   rw[Ql,Sa];simp
  refine⟨dds++[(dn,ps,t)],l8,_,_,_,hw8,rfl,by rw[Ql];rfl,hl8,by simp[hdl],?_,by rw[hcn];lia,A8'.le (by lia)⟩;intro j d hj
  by_cases z:j < dds.length
  ·rw[P8 z] at hj;exact hdd j d hj
  ·rw[Qa (by exact Rq z)] at hj;have hj0:j-dds.length=0:=by
    have:=(PV.mp hj).1;simp at this
    lia
   rw[hj0] at hj;cases hj;obtain rfl:j=i:=by lia
   exact⟨hdn,hps,okl,hll⟩
 ·rintro δ h' ⟨dds,l',d5,d6,d7,hw,rfl,rfl,hwl,hdl,hdd,hc,A6⟩;rw[cL,PU] at hdl;have w6:=(A6.push (o:=.lst (dds.map fe)) (fu _ _ (vR _) dds)).w;have hat:(hw++[MO.lst (dds.map fe)])[h.length+1]?=some (.lst (dds.map fe)):=lp hwl;obtain⟨hb',o',rfl,B9,C9⟩:=Wb.out (E:=E) C A1 rfl A6;nofun;refine rv (eF w6) ?_;nofun;refine rv (a:=(.lv ((jg W.names).map D.str),_)) (by
   show(oD (W.names.map D.str)).bind _=_;rw[nD];show(if W.names.length < 64 then _ else _)=_;rw[P0 (by exact Q6 n2 (by decide))]) ?_
  nofun;refine rv (a:=(.tup ((jg W.names).map D.str),_)) rfl ?_;nofun;refine rv (a:=(.tup (dds.map fe),_)) (by simp only[dY,dH,hat,QF];rfl) ?_;nofun;rw[QC];exact rv (rE B9.b.1 C9 (λn z=>(nomatch z)) (GK _ ⟨jg W.names,dds⟩)) (k W fl ⟨jg W.names,dds⟩ hb' ok ⟨rfl,hdl,hdd,by show _<=_;dsimp only;lia⟩ ⟨B9.S.le (by lia),A.b.trans B9.b⟩ C9)
end Mi
namespace Pg
open PySem Sm L2
noncomputable def cI(l:List Row):D:=.tup (cx l)
noncomputable def af:Row->List (List Row)
 | .say _=>[]
 | .call _ _=>[]
 | .within _ b=>[b]
 | .all _ b=>[b]
 | .ask _ b e=>[b,e]
 | .gQ _ _ a b c=>[a,b,c]
 | .either a b=>[a,b]
 | .again a=>[a]
noncomputable def bQ:Row->Str
 | .say _=>"say"
 | .call _ _=>"call"
 | .within _ _=>"within"
 | .all _ _=>"all"
 | .ask _ _ _=>"ask"
 | .gQ _ _ _ _ _=>"by"
 | .either _ _=>"either"
 | .again _=>"again"
mutual
noncomputable def dW(p:List Nat):Row->List (List Nat×Row)
 | .say _=>[]
 | .call _ _=>[]
 | .within _ b=>aN (p++[0]) 0 b
 | .all _ b=>aN (p++[0]) 0 b
 | .ask _ b e=>aN (p++[0]) 0 b++aN (p++[1]) 0 e
 | .gQ _ _ a b c=>aN (p++[0]) 0 a++(aN (p++[1]) 0 b++aN (p++[2]) 0 c)
 | .either a b=>aN (p++[0]) 0 a++aN (p++[1]) 0 b
 | .again a=>aN (p++[0]) 0 a
noncomputable def aN(a:List Nat)(k:Nat):List Row->List (List Nat×Row)
 | []=>[]
 | r::rs=>(a++[k],r)::(dW (a++[k]) r++aN a (k+1) rs)
end
noncomputable def cO(p:List Nat):Nat->List (List Row)->List (List Nat×Row)
 | _,[]=>[]
 | k,l::ls=>aN (p++[k]) 0 l++cO p (k+1) ls
theorem nR(p:List Nat)(r:Row):dW p r=cO p 0 (af r):=by
 cases r <;> simp[dW,af,cO]
theorem gk(a:List Nat):∀(k:Nat)(x y:List Row),aN a k (x++y)=aN a k x++aN a (k+x.length) y
 | k,[],y=>by simp[aN]
 | k,r::x,y=>by simp[aN,gk a (k+1) x y,TR,TQ]
theorem j4(p:List Nat):∀(k:Nat)(x y:List (List Row)),cO p k (x++y)=cO p k x++cO p (k+x.length) y
 | k,[],y=>by simp[cO]
 | k,r::x,y=>by simp[cO,j4 p (k+1) x y,TR,TQ]
mutual
noncomputable def cK:Row->Nat
 | .say _=>0
 | .call _ _=>0
 | .within _ b=>a8 b
 | .all _ b=>a8 b
 | .ask _ b e=>max (a8 b) (a8 e)
 | .gQ _ _ a b c=>max (a8 a) (max (a8 b) (a8 c))
 | .either a b=>max (a8 a) (a8 b)
 | .again a=>a8 a
noncomputable def a8:List Row->Nat
 | []=>1
 | r::rs=>max (1+cK r) (a8 rs)
end
theorem fq{lot:List Row}{r:Row}(h:r∈lot):1+cK r<=a8 lot:=by
 induction lot with
 | nil=>cases h
 | cons x xs ih=>
  rw[a8];rcases P5.mp h with rfl | h
  ·lia
  ·have:=ih h;lia
theorem fm{r:Row}{l:List Row}(h:l∈af r):a8 l<=cK r:=by
 cases r <;> simp[af] at h
 case within=>subst h;simp[cK]
 case all=>subst h;simp[cK]
 case ask=>rcases h with rfl | rfl <;> rw[cK] <;> lia
 case gQ=>rcases h with rfl | rfl | rfl <;> rw[cK] <;> lia
 case either=>rcases h with rfl | rfl <;> rw[cK] <;> lia
 case again=>subst h;simp[cK]
theorem Er{lot:List Row}{r:Row}(h:r∈lot):cnt r<=aj lot:=by
 induction lot with
 | nil=>cases h
 | cons x xs ih=>
  rw[aj];rcases P5.mp h with rfl | h
  ·lia
  ·have:=ih h;lia
theorem de(r:Row):cnt r=1+((af r).map aj).sum:=by cases r <;> simp[cnt,af] <;> lia
mutual
theorem iX(p:List Nat):∀r:Row,1+(dW p r).length=cnt r
 | .say _=>by simp[dW,cnt]
 | .call _ _=>by simp[dW,cnt]
 | .within _ b=>by simp[dW,cnt,aF (p++[0]) 0 b]
 | .all _ b=>by simp[dW,cnt,aF (p++[0]) 0 b]
 | .ask _ b e=>by simp[dW,cnt,aF (p++[0]) 0 b,aF (p++[1]) 0 e];lia
 | .gQ _ _ a b c=>by simp[dW,cnt,aF (p++[0]) 0 a,aF (p++[1]) 0 b,aF (p++[2]) 0 c];lia
 | .either a b=>by simp[dW,cnt,aF (p++[0]) 0 a,aF (p++[1]) 0 b];lia
 | .again a=>by simp[dW,cnt,aF (p++[0]) 0 a]
theorem aF(a:List Nat):∀(k:Nat)(l:List Row),(aN a k l).length=aj l
 | k,[]=>by simp[aN,aj]
 | k,r::rs=>by
  have:=iX (a++[k]) r;have:=aF a (k+1) rs;simp[aN,aj];lia
end
mutual
theorem yO{W:Wd}{ps:List Str}:∀(n:Nat)(r:Row),aJ W ps n r->n<=5->cK r<=5-n
 | n,.say _,_,_=>by simp[cK]
 | n,.call _ _,_,_=>by simp[cK]
 | n,.within _ b,h,hn=>by rw[aJ] at h;have:=bI (n+1) b h.2.2.2 h.2.1;rw[cK];lia
 | n,.all _ b,h,hn=>by rw[aJ] at h;have:=bI (n+1) b h.2.2.2 h.2.1;rw[cK];lia
 | n,.ask _ b e,h,hn=>by rw[aJ] at h;have:=bI (n+1) b h.2.2.2.2.1 h.2.1;have:=bI (n+1) e h.2.2.2.2.2 h.2.1;rw[cK];clear h;lia
 | n,.gQ _ _ a b c,h,hn=>by
  rw[aJ] at h;obtain⟨_,_,h0,_,_,_,h1,h2,h3⟩:=h;have:=bI (n+1) a h1 h0;have:=bI (n+1) b h2 h0;have:=bI (n+1) c h3 h0;rw[cK];lia
 | n,.either a b,h,hn=>by
  rw[aJ] at h;obtain⟨h0,_,_,h1,h2⟩:=h;have:=bI (n+1) a h1 h0;have:=bI (n+1) b h2 h0;rw[cK];lia
 | n,.again a,h,hn=>by
  rw[aJ] at h;obtain⟨h0,_,h1⟩:=h;have:=bI (n+1) a h1 h0;rw[cK];lia
theorem bI{W:Wd}{ps:List Str}:∀(n:Nat)(l:List Row),bt W ps n l->n<=5->a8 l<=6-n
 | n,[],_,hn=>by simp[a8];lia
 | n,r::rs,h,hn=>by
  rw[bt] at h;have:=yO n r h.1 hn;have:=bI n rs h.2 hn;rw[a8];lia
end
noncomputable def aZ(n:Nat):D:=.int (n:Int)
noncomputable def fV(p:List Nat):D:=.tup (p.map aZ)
noncomputable def oP(x:List Nat×Row):D:=.tup [fV x.1,az x.2]
end Pg
namespace Mi
open PySem Sm L2 Pg
theorem GL(n:Nat)(x:List Nat×Row):g0 n (oP x)=true:=by
 show(fI n (x.1.map aZ)&&(g0 n (az x.2)&&true))=true;rw[fu n _ (λ_=>rfl),si];rfl
theorem ux(h:MH):wb h h=true:=by
 induction h with
 | nil=>rfl
 | cons o r ih=>show(EH o o&&wb r r)=true;rw[uw,ih];rfl
theorem nY{H:MH}{xs:List D}(hc:fI H.length xs=true):leave H (.ob H.length) (H++[.lst xs])=some (.lv xs,H):=by
 have h3:yp H.length (H++[.lst xs]) (.ob H.length)=.lv xs:=by
  show(if H.length < H.length then _ else _)=_;rw[P7 (R9 _)];simp
 unfold leave;rw[h3,SF (PZ _),QT,ux];show(if(fI H.length xs&&_)=true then _ else _)=_;rw[hc];rfl
theorem vD(r:Row)(h:MH):kj [az r] h=some (.tup ((af r).map cI),h):=by
 have e:Rn (kj [az r] h) λp=>p=(.tup ((af r).map cI),h):=by
  refine bU ?_;cases r <;> rw[az] <;> (nofun;refine rv rfl ?_;nofun;refine rv rfl ?_;dsimp only;refine⟨_,rfl,?_⟩;nofun;refine rv rfl ?_;rfl)
 obtain⟨p,e1,rfl⟩:=e;exact e1
theorem uf{xs ys:List D}{h:MH}(hl:xs.length+ys.length<=10000):ax (.tup xs) (.tup ys) h=some (.tup (xs++ys),h):=by
 cases xs with
 | nil=>rfl
 | cons x xs=>
  show(if xs.length+1+ys.length<=sizeLine then some (D.tup (x::xs++ys),h) else none)=_;rw[P0 (by rw[show sizeLine=16777216 from rfl];rw[P2] at hl;exact P6 hl (by decide))]
theorem rA{h:MH}{n:Nat}{xs ys:List D}(e:h[n]?=some (.lst xs))(hl:xs.length+ys.length<=1000000):jZ (.ob n) [.lv ys] h=some (.cw,h.set n (.lst (xs++ys))):=by
 unfold jZ;dsimp only;rw[e];show(if xs.length+ys.length<=sizeLine then _ else _)=_;rw[P0 (by rw[show sizeLine=16777216 from rfl];exact P6 hl (by decide))]
theorem qD{H:MH}{o o':MO}:(H++[o]).set H.length o'=H++[o']:=by
 rw[RV _ _ (PZ _),Rm];rfl
theorem iB{H:MH}{o:MO}:(H++[o])[H.length]?=some o:=by simp
theorem ue(a:List Nat)(i:Nat)(hl:a.length<=1000)(h:MH):ax (fV a) (.tup [.int (i:Int)]) h=some (fV (a++[i]),h):=by
 show ax (.tup (a.map aZ)) (.tup [aZ i]) _=_;rw[uf (by rw[PU];simp;lia)];simp[fV]
theorem rg:∀(n:Nat)(lot:List Row)(ahead:List Nat)(h:MH),a8 lot<=n->aj lot<=1000->ahead.length+2*n<=100->dZ n [.tup (cx lot),fV ahead] h=some (.lv ((aN ahead 0 lot).map oP),h)
 | 0,lot,ahead,h,hn,hc,ha=>by
  exfalso;cases lot with
  | nil=>simp[a8] at hn
  | cons r rs=>rw[a8] at hn;lia
 | n+1,lot,ahead,h,hn,hc,ha=>by
  have e:Rn (dZ (n+1) [.tup (cx lot),fV ahead] h) λp=>p=(.lv ((aN ahead 0 lot).map oP),h):=by
   unfold dZ;refine mm ?_;nofun;refine mn ?_;nofun;refine⟨_,_,_,rfl,rfl,?_⟩;rw[bK];refine cU (λi δ h'=>∃(d3 d4 d5 d6 d7:Option D),δ=[some (.tup (lot.map az)),some (fV ahead),some (.ob h.length),d3,d4,d5,d6,d7]/\h'=h++[.lst ((aN ahead 0 (lot.take i)).map oP)])
    ⟨_,_,_,_,_,rfl,by simp[aN]⟩ (λ_ _ _ _ _=>rfl) ?_ ?_
   ·rintro i x δ h' hx ⟨d3,d4,d5,d6,d7,rfl,rfl⟩;obtain⟨r,hr,rfl⟩:=mQ hx;have hrm:=PX hr;have hi:i < lot.length:=(PV.mp hr).1;have htk:lot.take (i+1)=lot.take i++[r]:=by
     rw[Uh,hr];rfl
    have hpl:aN ahead 0 (lot.take (i+1))=aN ahead 0 (lot.take i)++((ahead++[i],r)::cO (ahead++[i]) 0 (af r)):=by
     rw[htk,gk];simp only[aN,nR,Qj,QS,QL];rw[Ry (by exact RK hi)]
    have hlen:(aN ahead 0 lot).length<=1000:=by rw[aF];exact hc
    have hsub:(aN ahead 0 (lot.take (i+1))).length<=1000:=by
     have:aN ahead 0 lot=aN ahead 0 (lot.take (i+1))++aN ahead (0+(lot.take (i+1)).length) (lot.drop (i+1)):=by
      rw[<-gk,Q5]
     rw[this,Qb] at hlen;exact P6 (Qr _ _) hlen
    generalize aN ahead 0 (lot.take i)=F0 at hpl ⊢;nofun;refine rv (ue ahead i (by lia) _) ?_;nofun;rw[hpl,Qb,P2] at hsub;refine gA ?_;nofun;refine⟨cq iB,?_⟩;nofun;refine rv (cc iB (by rw[PU,show sizeLine=16777216 from rfl];lia)) ?_;nofun;rw[qD];refine mn ?_;nofun;refine rv (vD r _) ?_;nofun;refine⟨_,_,_,rfl,rfl,?_⟩;refine cU (λj δ h'=>∃(d6 d7:Option D),δ=[some (.tup (lot.map az)),some (fV ahead),some (.ob h.length),some (.int i),some (az r),some (fV (ahead++[i])),d6,d7]/\h'=h++[.lst ((F0++((ahead++[i],r)::cO (ahead++[i]) 0 ((af r).take j))).map oP)])
     ⟨_,_,rfl,by simp[cO,oP]⟩ (λ_ _ _ _ _=>rfl) ?_ ?_
    ·rintro j x δ h' hx ⟨d6,d7,rfl,rfl⟩;obtain⟨l,hl,rfl⟩:=mQ hx;have hlm:=PX hl;have hj:j < (af r).length:=(PV.mp hl).1;have htk:(af r).take (j+1)=(af r).take j++[l]:=by
      rw[Uh,hl];rfl
     have hpj:cO (ahead++[i]) 0 ((af r).take (j+1))=cO (ahead++[i]) 0 ((af r).take j)++aN (ahead++[i]++[j]) 0 l:=by
      rw[htk,j4];simp only[cO,Qj,QS,QL];rw[Ry (by exact RK hj)]
     have hsub2:(cO (ahead++[i]) 0 ((af r).take (j+1))).length<=(cO (ahead++[i]) 0 (af r)).length:=by
      have:cO (ahead++[i]) 0 (af r)=cO (ahead++[i]) 0 ((af r).take (j+1))++cO (ahead++[i]) (0+((af r).take (j+1)).length) ((af r).drop (j+1)):=by
       rw[<-j4,Q5]
      rw[this,Qb];exact Qr _ _
     rw[hpj,Qb] at hsub2;have ih:=λhh=>rg n l (ahead++[i]++[j]) hh (by have:=fq hrm;have:=fm hlm;lia) (by rw[<-aF (ahead++[i]++[j]) 0];lia) (by simp;lia);nofun;refine gA ?_;nofun;refine⟨cq iB,?_⟩;nofun;refine rv (ue (ahead++[i]) j (by simp;lia) _) ?_;nofun;refine rv (ih _) ?_;nofun;refine rv (rA iB (by rw[PU,PU,Qb,P2];lia)) ?_;nofun;rw[qD,<-Ql];refine⟨_,_,rfl,?_⟩;rw[hpj];simp
    ·rintro δ h' ⟨d6,d7,rfl,rfl⟩;rw[cL,PU,QT];nofun;exact⟨_,_,_,_,_,rfl,by rw[hpl]⟩
   ·rintro δ h' ⟨d3,d4,d5,d6,d7,rfl,rfl⟩;rw[cL,PU,QT];nofun;exact rv (nY (fu _ _ (GL _) _)) rfl
  obtain⟨p,e1,rfl⟩:=e;exact e1
end Mi
namespace Pg
open PySem Sm L2
noncomputable def placesFrom:Nat->List cf->List (Nat×List Nat×Row)
 | _,[]=>[]
 | k,d::ds=>(aN [] 0 d.2.2).map (λx=>(k,x.1,x.2))++placesFrom (k+1) ds
noncomputable def gm(x:Nat×List Nat×Row):D:=.tup [aZ x.1,fV x.2.1,az x.2.2]
theorem eQ:∀(k:Nat)(x y:List cf),placesFrom k (x++y)=placesFrom k x++placesFrom (k+x.length) y
 | k,[],y=>by simp[placesFrom]
 | k,d::x,y=>by simp[placesFrom,eQ (k+1) x y,TR,TQ]
theorem cF:∀(k:Nat)(ds:List cf),(placesFrom k ds).length=(ds.map λd=>aj d.2.2).sum
 | _,[]=>rfl
 | k,d::ds=>by simp[placesFrom,cF (k+1) ds,aF]
theorem uL:∀{ds:List cf} {d:cf},d∈ds->aj d.2.2<=(ds.map λd=>aj d.2.2).sum
 | x::r,d,h=>by
  rw[Qc,QH];rcases P5.mp h with rfl | h
  ·lia
  ·have:=uL h;lia
structure E2(P:Prog):Prop where
 nd:∀d∈P.ai,a8 d.2.2<=6
 ct:(P.ai.map λd=>aj d.2.2).sum<=1000
 dl:P.ai.length<=1000
theorem BS.fit{W:Wd}{m:Nat}{P:Prog}(o:BS W m P)(hm:m<=1000)(hd:W.ai.length<=6):E2 P:=by
 refine⟨λd hd=>?_,P6 o.ct hm,by rw[o.dl];lia⟩;obtain⟨j,hj⟩:=Sx.mp hd;obtain⟨_,_,ok,_⟩:=o.dd j d hj;have:=bI 1 d.2.2 ok (by lia)
 lia
end Pg
namespace Mi
open PySem Sm L2 Pg
theorem Eu(n:Nat)(x:Nat×List Nat×Row):g0 n (gm x)=true:=by
 show(true&&(fI n (x.2.1.map aZ)&&(g0 n (az x.2.2)&&true)))=true;rw[fu n _ (λ_=>rfl),si];rfl
theorem GI{α:Type}{ws:W}{g:GM}{e:EM}{h:MH}(hc:mV ws h=true)(f k:α->D)(J:DS->Prop)(xs:List α){δ:DS}(h0:J δ)(ht:∀x∈xs,∀δ,J δ->Rn (g (f x) δ h) λq=>q.2=h/\J q.1/\Rn (e q.1 h) λp=>p=(k x,h)):
  bC ws g ej e (xs.map f) δ h=some (xs.map k,h):=by
 induction xs generalizing δ with
 | nil=>rw[R3];unfold bC;rw[P0 hc];rfl
 | cons x r ih=>
  rw[Qc];unfold bC;rw[P0 hc];obtain⟨⟨δ1,h1⟩,e1,rfl,J1,p,e2,rfl⟩:=ht x P1 δ h0;rw[e1];dsimp only[Option.bind_some] at e2 ⊢;show((some (true,h1)).bind _)=_;dsimp only[Option.bind_some];rw[P0 rfl,e2];dsimp only[Option.bind_some];rw[ih J1 λy hy=>ht y (P4 _ hy)];rfl
theorem jB{P:Prog}(fit:E2 P)(h:MH):eh [bp P] h=some (.lv ((placesFrom 0 P.ai).map gm),h):=by
 have e:Rn (eh [bp P] h) λp=>p=(.lv ((placesFrom 0 P.ai).map gm),h):=by
  refine mm ?_;nofun;refine mn ?_;nofun;refine rv (a:=(.tup (P.ai.map fe),_)) rfl ?_;nofun;refine⟨_,_,_,rfl,rfl,?_⟩;refine cU (λi δ h'=>∃(d2 d3 d4 d5:Option D),δ=[some (bp P),some (.ob h.length),d2,d3,d4,d5]/\h'=h++[.lst ((placesFrom 0 (P.ai.take i)).map gm)])
   ⟨_,_,_,_,rfl,by simp[placesFrom]⟩ (λ_ _ _ _ _=>rfl) ?_ ?_
  ·rintro i x δ h' hx ⟨d2,d3,d4,d5,rfl,rfl⟩;obtain⟨d,hd,rfl⟩:=mQ hx;have hdm:=PX hd;have hi:i < P.ai.length:=(PV.mp hd).1;have htk:P.ai.take (i+1)=P.ai.take i++[d]:=by rw[Uh,hd];rfl
   have hpl:placesFrom 0 (P.ai.take (i+1))=placesFrom 0 (P.ai.take i)++(aN [] 0 d.2.2).map λx=>(i,x.1,x.2):=by
    rw[htk,eQ];simp only[placesFrom,Qj,QS,QL];rw[Ry (by lia)]
   have hc:=uL hdm;have ct:=fit.ct;have hlen:(placesFrom 0 P.ai).length<=1000:=by rw[cF];exact ct
   have hsub:(placesFrom 0 (P.ai.take (i+1))).length<=1000:=by
    have:placesFrom 0 P.ai=placesFrom 0 (P.ai.take (i+1))++placesFrom (0+(P.ai.take (i+1)).length) (P.ai.drop (i+1)):=by
     rw[<-eQ,Q5]
    rw[this,Qb] at hlen
    lia
   rw[hpl,Qb,PU] at hsub;unfold fe;nofun;refine gA ?_;nofun;refine⟨cq iB,?_⟩;nofun;refine dU ?_;nofun;refine rv (rg 8 d.2.2 [] _ (P6 (fit.nd d hdm) (by decide)) (by lia) (by simp)) ?_;refine⟨_,_,rfl,?_⟩;refine rv (GI rfl oP (λx=>gm (i,x.1,x.2)) (λδ=>∃a b,δ=[a,b,some (.int i)]) (aN [] 0 d.2.2) ⟨_,_,rfl⟩ ?_) ⟨?_,?_⟩
   ·rintro x hx δ ⟨a,b,rfl⟩;unfold oP;nofun;refine⟨rfl,⟨_,_,rfl⟩,?_⟩;nofun;rfl
   ·dsimp only;rw[PU,show sizeLine=16777216 from rfl]
    lia
   ·nofun;refine rv (rA iB (by rw[PU,PU];lia)) ?_;nofun;rw[qD];refine⟨_,_,_,_,rfl,?_⟩;rw[hpl,Ql,Q9];rfl
  ·rintro δ h' ⟨d2,d3,d4,d5,rfl,rfl⟩;rw[cL,PU,QT];nofun;exact rv (nY (fu _ _ (Eu _) _)) rfl
 obtain⟨p,e1,rfl⟩:=e;exact e1
end Mi
namespace Sm
open PySem L2 Builtin.Str StrLaws
noncomputable def JD(l:List Nat):Str:=⟨l.toArray⟩
theorem Gk(l:List Nat):(JD l).cps.toList=l:=by simp[JD]
theorem vB(x:Str):JD x.cps.toList=x:=by cases x;simp[JD]
theorem rH(c:Nat):∀(x:Str)(r:List Str),(Str.join ⟨#[c]⟩ (x::r)).cps.toList=x.cps.toList++(r.map λy=>c::y.cps.toList).flatten
 | x,[]=>by show x.cps.toList=_;simp
 | x,y::r=>by
  show(x.cps++#[c]++(Str.join ⟨#[c]⟩ (y::r)).cps).toList=_;rw[RG,RG,rH c y r];simp
theorem se{c:Nat}:∀{a b s t:List Nat},c∉a->c∉b->a++c::s=b++c::t->a=b/\s=t
 | [],[],s,t,_,_,e=>⟨rfl,by simpa using e⟩
 | [],y::b,s,t,_,hb,e=>by simp at e;exact absurd (e.1 ▸ P1) hb
 | x::a,[],s,t,ha,_,e=>by simp at e;exact absurd (e.1 ▸ P1) ha
 | x::a,y::b,s,t,ha,hb,e=>by
  simp at e;obtain⟨e1,e2⟩:=se (λh=>ha (P4 _ h)) (λh=>hb (P4 _ h)) e.2;exact⟨by rw[e.1,e1],e2⟩
theorem Am{x y:Str}(e:x.cps.toList=y.cps.toList):x=y:=by rw[<-vB x,e,vB]
def Sh(n:Nat)(x:Str):Prop:=x.length<=n/\PyData.strOk x=true
theorem Sh.up{n m:Nat}{x:Str}(h:Sh n x)(hm:n<=m):Sh m x:=⟨P6 h.1 hm,h.2⟩
theorem Sh.app{n m:Nat}{x y:Str}(h:Sh n x)(h':Sh m y):Sh (n+m) (x++y):=⟨by rw[Qu];exact Nat.add_le_add h.1 h'.1,Sm.ic h.2 h'.2⟩
theorem Sh.int{i:Int}(h:-99<=i/\i<=99):Sh 8 (Str.ofString (toString i)):=by
 refine⟨?_,tG i⟩;have hl:(Str.ofString (toString i)).length=(toString i).length:=by
  rw[Str.ofString_eq_toList];show((toString i).toList.map Char.toNat).toArray.size=_;rw[Qe,PU];exact String.length_toList
 rw[hl];have:=int_text_length_le10 (a:=i) (k:=2) (by decide) (by lia)
 lia
theorem Sh.join{n:Nat}{s:Str}(hs:Sh 1 s):∀{xs:List Str},(∀x∈xs,Sh n x)->Sh ((n+1)*xs.length) (Str.join s xs)
 | [],_=>⟨by simp[Str.join,Str.empty,Str.length],kM hs.2 [] (λ_ h=>(nomatch h))⟩
 | [x],h=>(h x (.head _)).up (by simp)
 | x::y::r,h=>by
  have:=(((h x (.head _)).app hs).app (Sh.join (n:=n) hs (xs:=y::r) λz hz=>h z (.tail _ hz)));exact this.up (by simp only[P2];rw[Nat.mul_succ (n+1)];lia)
theorem oE{x:Str}{w rest:List Nat}(h:32∉w)(e:x.cps.toList=w\/x.cps.toList=w++32::rest):∃r,Txt.split x (Str.ofString " ")=JD w::r:=by
 have eb:Str.ofString " "=⟨#[32]⟩:=by decide+kernel
 rw[eb];have j:=join_split x ⟨#[32]⟩;have f:=split_free x 32;have p:=UC x ⟨#[32]⟩;generalize Txt.split x ⟨#[32]⟩=ps at j f p;cases ps with
 | nil=>simp at p
 | cons y r=>
  refine⟨r,?_⟩;have jc:y.cps.toList++(r.map λy=>32::y.cps.toList).flatten=x.cps.toList:=by rw[<-rH,j]
  have fy:=f y (.head _);have:y.cps.toList=w:=by
   rcases e with e | e
   ·rw[e] at jc;cases r with
    | nil=>simpa using jc
    | cons z r=>exact absurd (by rw[<-jc];simp) h
   ·rw[e] at jc;cases r with
    | nil=>
     have:y.cps.toList=w++32::rest:=by simpa using jc
     exact absurd (by rw[this];simp) fy
    | cons z r=>
     simp only[Qc,RB,QE] at jc;exact(se fy h jc).1
  rw[show y=JD w from Am (by rw[Gk,this])]
theorem qB{x:Str}(h:Sh 1000 x){H:MH}:nV (.str x) [.str " "] H=some (.lv ((Txt.split x (Str.ofString " ")).map D.str),H):=by
 have eb:Str.ofString " "=⟨#[32]⟩:=by decide+kernel
 have h1:=h.1;unfold nV;dsimp only;rw[P0];refine⟨by decide+kernel,P6 h1 (by decide),?_,?_,?_⟩
 ·have:=PyProof.Rows.split_le x (Str.ofString " ");rw[show sizeLine=16777216 from rfl];lia
 ·rw[PyProof.Rows.len_partsBetween];have:=StrLaws.occ_length_le x (Str.ofString " ") 0 x.length (x.length+1);rw[show sizeLine=16777216 from rfl];lia
 ·rw[RI];intro y hy;have j:=join_split x (Str.ofString " ");have h2:=h.2;unfold PyData.strOk at h2 ⊢;rw[UZ] at h2 ⊢;intro c hc;refine h2 c ?_;have:=(PyProof.Rows.mem_join (Str.ofString " ") c (Txt.split x (Str.ofString " "))).mpr (.inl ⟨y,hy,SH.mpr hc⟩);rw[j] at this;exact SH.mp this
end Sm
namespace Pg
open PySem Sm L2
noncomputable def jr(t:Term):Str:=if t.1=Str.ofString "" then Str.ofString (toString t.2) else if t.2=0 then t.1 else t.1++(if 0 < t.2 then Txt.mul (Str.ofString "+") 1 else Txt.mul (Str.ofString "+") 0)++Str.ofString (toString t.2)
noncomputable def fH(l:Lock):Str:=l.1++Str.ofString ":"++jr l.2
noncomputable def bo:Row->Str
 | .say w=>Str.ofString "say "++w
 | .call d ts=>Str.join (Str.ofString " ") (Str.ofString "call"::d::ts.map jr)
 | .within l _=>Str.ofString "within"++Str.ofString " "++fH l
 | .all ls _=>Str.join (Str.ofString " ") (Str.ofString "all"::ls.map fH)
 | .ask l _ _=>Str.ofString "ask"++Str.ofString " "++fH l
 | .gQ s t _ _ _=>Str.ofString "by "++jr s++Str.ofString " "++jr t
 | .either _ _=>Str.ofString "either"
 | .again _=>Str.ofString "again"
def Io(t:Term):Prop:=Sh 8 t.1/\-99<=t.2/\t.2<=99
def K8(l:Lock):Prop:=Sh 8 l.1/\Io l.2
def zE:Row->Prop
 | .say w=>Sh 8 w
 | .call d ts=>Sh 8 d/\ts.length<=3/\∀t∈ts,Io t
 | .within l _=>K8 l
 | .all ls _=>ls.length<=4/\(∀l∈ls,K8 l)/\ls≠[]
 | .ask l _ _=>K8 l
 | .gQ s t _ _ _=>Io s/\Io t
 | .either _ _=>True
 | .again _=>True
theorem gE{t:Term}(h:Io t):Sh 20 (jr t):=by
 unfold jr
 split
 ·exact(Sh.int h.2).up (by decide)
 ·split
  ·exact h.1.up (by decide)
  ·refine Sh.up (n:=8+2+8) ((h.1.app ?_).app (Sh.int h.2)) (by decide)
   split <;> exact⟨by decide+kernel,by decide+kernel⟩
theorem iy{l:Lock}(h:K8 l):Sh 30 (fH l):=Sh.up (n:=8+1+20) ((h.1.app ⟨by decide+kernel,by decide+kernel⟩).app (gE h.2)) (by decide)
theorem gv:Sh 1 (Str.ofString " "):=⟨by decide+kernel,by decide+kernel⟩
theorem xF:∀{r:Row},zE r->Sh 400 (bo r)
 | .say w,h=>Sh.up (n:=4+8) (Sh.app ⟨by decide+kernel,by decide+kernel⟩ h) (by decide)
 | .call d ts,h=>by
  refine(Sh.join (n:=20) gv λx hx=>?_).up ?_
  ·rcases P5.mp hx with rfl | hx
   ·exact⟨by decide+kernel,by decide+kernel⟩
   ·rcases P5.mp hx with rfl | hx
    ·exact h.1.up (by decide)
    ·obtain⟨t,ht,rfl⟩:=QG.mp hx;exact gE (h.2.2 t ht)
  ·have:=h.2.1;simp only[P2,PU];lia
 | .within l _,h=>Sh.up (n:=6+1+30) ((Sh.app ⟨by decide+kernel,by decide+kernel⟩ gv).app (iy h)) (by decide)
 | .all ls _,h=>by
  refine(Sh.join (n:=30) gv λx hx=>?_).up ?_
  ·rcases P5.mp hx with rfl | hx
   ·exact⟨by decide+kernel,by decide+kernel⟩
   ·obtain⟨t,ht,rfl⟩:=QG.mp hx;exact iy (h.2.1 t ht)
  ·have:=h.1;simp only[P2,PU];lia
 | .ask l _ _,h=>Sh.up (n:=3+1+30) ((Sh.app ⟨by decide+kernel,by decide+kernel⟩ gv).app (iy h)) (by decide)
 | .gQ s t _ _ _,h=>Sh.up (n:=3+20+1+20) (((Sh.app ⟨by decide+kernel,by decide+kernel⟩ (gE h.1)).app gv).app (gE h.2)) (by decide)
 | .either _ _,_=>show Sh 400 (Str.ofString "either") from⟨by decide+kernel,by decide+kernel⟩
 | .again _,_=>show Sh 400 (Str.ofString "again") from⟨by decide+kernel,by decide+kernel⟩
noncomputable def sorts:List (List Nat):=[[115,97,121],[99,97,108,108],[119,105,116,104,105,110],[97,108,108],[97,115,107],[98,121],[101,105,116,104,101,114],[97,103,97,105,110]]
theorem n4(x:Str)(r:List Str)(h:r≠[]):∃rest,(Str.join (Str.ofString " ") (x::r)).cps.toList=x.cps.toList++32::rest:=by
 have eb:Str.ofString " "=⟨#[32]⟩:=by decide+kernel
 rw[eb,rH];cases r with
 | nil=>exact absurd rfl h
 | cons y r=>exact⟨_,rfl⟩
theorem fG(x y:Str):(x++y).cps.toList=x.cps.toList++y.cps.toList:=by
 show(x.cps++y.cps).toList=_;rw[RG]
theorem rN(r:Row)(h:zE r):∃rest,(bo r).cps.toList=(bQ r).cps.toList\/(bo r).cps.toList=(bQ r).cps.toList++32::rest:=by
 cases r with
 | say w=>exact⟨w.cps.toList,.inr (by show(Str.ofString "say "++w).cps.toList=_;rw[fG,show(Str.ofString "say ").cps.toList=(Str.ofString "say").cps.toList++[32] by decide+kernel];simp[bQ])⟩
 | call d ts=>obtain⟨rest,e⟩:=n4 (Str.ofString "call") (d::ts.map jr) (by simp);exact⟨rest,.inr e⟩
 | within l _=>exact⟨(fH l).cps.toList,.inr (by show(Str.ofString "within"++Str.ofString " "++fH l).cps.toList=_;rw[fG,fG,show(Str.ofString " ").cps.toList=[32] by decide+kernel];simp[bQ])⟩
 | all ls _=>
  by_cases z:ls.map fH=[]
  ·exact⟨[],.inl (by show(Str.join _ (_::ls.map fH)).cps.toList=_;rw[z];rfl)⟩
  ·obtain⟨rest,e⟩:=n4 (Str.ofString "all") (ls.map fH) z;exact⟨rest,.inr e⟩
 | ask l _ _=>exact⟨(fH l).cps.toList,.inr (by show(Str.ofString "ask"++Str.ofString " "++fH l).cps.toList=_;rw[fG,fG,show(Str.ofString " ").cps.toList=[32] by decide+kernel];simp[bQ])⟩
 | gQ s t _ _ _=>exact⟨(jr s++Str.ofString " "++jr t).cps.toList,.inr (by show(Str.ofString "by "++jr s++Str.ofString " "++jr t).cps.toList=_;rw[fG,fG,fG,fG,fG,show(Str.ofString "by ").cps.toList=(Str.ofString "by").cps.toList++[32] by decide+kernel];simp[bQ])⟩
 | either _ _=>exact⟨[],.inl rfl⟩
 | again _=>exact⟨[],.inl rfl⟩
theorem wM(r:Row):(bQ r).cps.toList∈sorts:=by
 have:∀w∈[Str.ofString "say",Str.ofString "call",Str.ofString "within",Str.ofString "all",Str.ofString "ask",Str.ofString "by",Str.ofString "either",Str.ofString "again"],w.cps.toList∈sorts:=by decide+kernel
 refine this _ ?_;cases r <;> simp[bQ]
theorem yx:∀w∈sorts,32∉w:=by decide
theorem ll(r:Row)(h:zE r):∃q,Txt.split (bo r) (Str.ofString " ")=bQ r::q:=by
 obtain⟨rest,e⟩:=rN r h;obtain⟨q,e⟩:=oE (yx _ (wM r)) e;exact⟨q,by rw[e,vB]⟩
theorem Cw:∀w∈sorts,w.head?≠some 111/\w≠[101,110,100]/\∀rest,w++32::rest≠[101,110,100]:=by
 have:∀w∈sorts,w.head?≠some 111/\w≠[101,110,100]/\w≠[]/\32∉[101,110,100]:=by decide
 exactλw hw=>⟨(this w hw).1,(this w hw).2.1,λrest e=>(this w hw).2.2.2 (by rw[<-e];simp)⟩
theorem Ae(r:Row)(h:zE r):(bo r==Str.ofString "or")=false/\(bo r==Str.ofString "end")=false:=by
 obtain⟨rest,e⟩:=rN r h;obtain⟨a,b,c⟩:=Cw _ (wM r);constructor <;> rw[Ri] <;> intro z <;> rw[z] at e
 ·rw[show(Str.ofString "or").cps.toList=[111,114] by decide+kernel] at e;rcases e with e | e
  ·rw[<-e] at a;exact a rfl
  ·cases hw:(bQ r).cps.toList with
   | nil=>rw[hw] at e;cases e
   | cons x q=>rw[hw] at e a;exact a (by rw[<-(List.cons.inj e).1];rfl)
 ·rw[show(Str.ofString "end").cps.toList=[101,110,100] by decide+kernel] at e;rcases e with e | e
  ·exact b e.symm
  ·exact c rest e.symm
end Pg
namespace Sm
open PySem L2
theorem xS{α:Type}{e:EM}{h:MH}{t:DS}(A f:α->D):∀(xs:List α)(o:Option D),(∀x∈xs,e (some (A x)::t) h=some (f x,h))->bC [] (gN 0) ej e (xs.map A) (o::t) h=some (xs.map f,h)
 | [],o,_=>rfl
 | x::r,o,hx=>by
  have e1:e (some (A x)::t) h=some (f x,h):=hx x P1;have e2:=xS A f r (some (A x)) λy hy=>hx y (P4 _ hy);show((e (some (A x)::t) h).bind λy=>(bC [] (gN 0) ej e (r.map A) (some (A x)::t) y.2).map λz=>(y.1::z.1,z.2))=_;rw[e1];show((bC [] (gN 0) ej e (r.map A) (some (A x)::t) h).map λz=>(f x::z.1,z.2))=_;rw[e2];rfl
theorem uD{α:Type}{caps:List (Option Nat)}{ei e:EM}{δ t:DS}{o:Option D}{h:MH}{d:D}{xs:List α}(A f:α->D)(hi:ei δ h=some (d,h))(hs:dH d h=some (xs.map A,[]))(hc:gP caps δ=o::t)(hl:xs.length<=100000)(he:∀x∈xs,e (some (A x)::t) h=some (f x,h)):
  bW caps (dI ei) (gN 0) ej e δ h=some (xs.map f,h):=by
 unfold bW dI;rw[hi];dsimp only[Option.bind_some];rw[hs];dsimp only[Option.map_some,Option.bind_some];rw[hc,xS A f xs o he];dsimp only[Option.bind_some];rw[P0 (by rw[PU,show sizeLine=16777216 from rfl];lia)]
abbrev g2:GM:=gT 2 (au (gN 0) (au (gN 1) bV))
theorem xR{α:Type}{e:EM}{h:MH}{t:DS}(A B f:α->D):∀(xs:List α)(o o2:Option D),(∀x∈xs,e (some (A x)::some (B x)::t) h=some (f x,h))->bC [] g2 ej e (xs.map λx=>.tup [A x,B x]) (o::o2::t) h=some (xs.map f,h)
 | [],o,o2,_=>rfl
 | x::r,o,o2,hx=>by
  have e1:e (some (A x)::some (B x)::t) h=some (f x,h):=hx x P1;have e2:=xR A B f r (some (A x)) (some (B x)) λy hy=>hx y (P4 _ hy);show((e (some (A x)::some (B x)::t) h).bind λy=>(bC [] g2 ej e (r.map λx=>.tup [A x,B x]) (some (A x)::some (B x)::t) y.2).map λz=>(y.1::z.1,z.2))=_;rw[e1];show((bC [] g2 ej e (r.map λx=>.tup [A x,B x]) (some (A x)::some (B x)::t) h).map λz=>(f x::z.1,z.2))=_;rw[e2];rfl
theorem BJ{α:Type}{caps:List (Option Nat)}{ei e:EM}{δ t:DS}{o o2:Option D}{h:MH}{d:D}{xs:List α}(A B f:α->D)(hi:ei δ h=some (d,h))(hs:dH d h=some (xs.map λx=>.tup [A x,B x],[]))(hc:gP caps δ=o::o2::t)(hl:xs.length<=100000)(he:∀x∈xs,e (some (A x)::some (B x)::t) h=some (f x,h)):
  bW caps (dI ei) g2 ej e δ h=some (xs.map f,h):=by
 unfold bW dI;rw[hi];dsimp only[Option.bind_some];rw[hs];dsimp only[Option.map_some,Option.bind_some];rw[hc,xR A B f xs o o2 he];dsimp only[Option.bind_some];rw[P0 (by rw[PU,show sizeLine=16777216 from rfl];lia)]
end Sm
namespace Mi
open PySem Sm L2 Pg
theorem LR{δ:DS}{h:MH}{a b:EM}{Q:D×MH->Prop}(r:Rn (a δ h) λp=>∃c,yo p.1 p.2=some c/\(c=true->Q p)/\(c=false->Rn (b δ p.2) Q)):Rn (Ki a b δ h) Q:=a9 (r.imp λp ⟨c,e,q1,q2⟩=>by
 rw[e];show Rn (if c=true then some p else b δ p.2) Q;cases c with
 | true=>rw[P0 rfl];exact⟨_,rfl,q1 rfl⟩
 | false=>rw[P7 (by simp)];exact q2 rfl)
theorem len0{w:Str}(h:w.length=0):w=Str.ofString "":=by
 refine Am ?_;have:w.cps.toList.length=0:=by rw[Q2];exact h
 rw[List.length_eq_zero_iff.mp this];rfl
theorem fZ{t:Term}{h:MH}(ht:Io t):bw [br t] h=some (.str (jr t),h):=by
 obtain⟨w,i⟩:=t;obtain⟨hw,h0,h1⟩:=ht;dsimp only at hw h0 h1;have hs:xH [.int i] h=some (.str (Str.ofString (toString i)),h):=by
  show(if i.natAbs.log2 < 1920 then some (D.str (Str.ofString (toString i)),h) else none)=_;rw[P0]
  by_cases z:i.natAbs=0
  ·rw[z];decide
  ·exact(Nat.log2_lt z).mpr (Qq (show i.natAbs < 2^7 by lia) (UO (by decide) (by decide)))
 have li:=(Sh.int ⟨h0,h1⟩).1;have lw:=hw.1;refine bM ?_;show Rn (bw [.tup [.str w,.int i]] h) _;refine bU ?_;refine fU (C0 (rv (a:=(.tup [.str w,.int i],h)) rfl (rv (a:=([some (.tup [.str w,.int i]),some (.str w),some (.int i)],h)) rfl (qt ?_))));refine fE (w=Str.ofString ""\/i=0) ?_ (λz=>?_) (λz=>?_)
 ·nofun;refine⟨_,rfl,λy=>?_,λy=>?_⟩
  ·exact dT (.inl (eq_of_beq y)) _
  ·have y:w≠Str.ofString "":=by intro e;rw[e,QP] at y;cases y
   nofun;refine⟨_,rfl,?_⟩;rw[show(i==0)=decide (w=Str.ofString ""\/i=0) by rw[Rh];simp[y]]
 ·nofun;refine LR ?_;nofun
  by_cases e:w=Str.ofString ""
  ·subst e;refine⟨false,by ac_nf,λz=>(nomatch z),λ_=>?_⟩;nofun;refine rv hs ?_;nofun;unfold jr;rw[P0 rfl]
  ·have z0:i=0:=z.resolve_left e;subst z0;refine⟨true,?_,λ_=>?_,λz=>(nomatch z)⟩
   ·show(if w.length<=sizeLine then some ((w.length:Int) !=0) else none)=_;rw[P0 (P6 lw (by decide))];have:w.length≠0:=λy=>e (len0 y);congr 1;simp only[bne_iff_ne,ne_eq];lia
   ·nofun;unfold jr;rw[P7 e,P0 rfl]
 ·nofun;obtain⟨v,hv,hm,hvt⟩:∃(v:Int),oj [.bl (decide (0 < i))] h=some (.int v,h)/\iE (.str (Str.ofString "+")) (.int v) h=some (.str (if 0 < i then Txt.mul (Str.ofString "+") 1 else Txt.mul (Str.ofString "+") 0),h)/\(if 0 < i then Txt.mul (Str.ofString "+") 1 else Txt.mul (Str.ofString "+") 0).length<=1:=by
   by_cases y:0 < i
   ·exact⟨1,by rw[Qx y];rfl,by rw[P0 y];ac_nf,by rw[P0 y];decide+kernel⟩
   ·exact⟨0,by rw[QI y];rfl,by rw[P7 y];ac_nf,by rw[P7 y];decide+kernel⟩
  refine rv hv (rv hm (rv (bF (by lia)) ?_));nofun;refine rv hs (rv (bF (by rw[Qu];lia)) ?_);nofun;unfold jr;dsimp only;rw[P7 (λe=>z (.inl e)),P7 (λe=>z (.inr e))]
theorem i0{l:Lock}{h:MH}(hl:K8 l):b7 [aL l] h=some (.str (fH l),h):=by
 obtain⟨w,t⟩:=l;obtain⟨hw,ht⟩:=hl;have a:=hw.1;have b:=(gE ht).1;have c:(Str.ofString ":").length=1:=by decide+kernel
 dsimp only at a b;refine bM ?_;show Rn (b7 [.tup [.str w,br t]] h) _;refine bU ?_;nofun;refine rv (bF (by lia)) ?_;nofun;refine rv (fZ ht) (rv (bF (by rw[Qu];lia)) ?_);nofun;rfl
theorem wJ{n:Nat}:∀{xs:List Str},(∀x∈xs,x.length<=n)->(xs.map (·.length)).sum<=n*xs.length
 | [],_=>by simp
 | x::r,h=>by
  have a:=h x (.head _);have b:=wJ (n:=n) (xs:=r) λy hy=>h y (.tail _ hy);simp only[Qc,QH,P2];rw[Nat.mul_succ];lia
theorem n5{xs:List Str}(h:∀x∈xs,x.length<=1000)(hl:xs.length<=1000){H:MH}{d:D}{ws:List (Nat×MO)}(e:dH d H=some (xs.map D.str,ws)):pe (.str " ") [d] H=some (.str (Str.join (Str.ofString " ") xs),H):=by
 unfold pe;dsimp only;rw[e];dsimp only[Option.bind_some];rw[nD];dsimp only[Option.bind_some];have:=wJ h;have c:(Str.ofString " ").length=1:=by decide+kernel
 rw[P0 (by rw[c];lia)]
theorem Gx{r:Row}{h:MH}(hr:zE r):jP [az r] h=some (.str (bo r),h):=by
 have cb:(Str.ofString " ").length=1:=by decide+kernel
 cases r with
 | either a b=>rw[az];ac_nf
 | again a=>rw[az];ac_nf
 | say w=>
  have a:=hr.1;refine bM (bU ?_);rw[az];nofun;refine⟨true,by ac_nf,λ_=>?_,λz=>(nomatch z)⟩;nofun;refine rv (bF (by rw[show(Str.ofString "say ").length=4 by decide+kernel];lia)) ?_;nofun;rfl
 | call d ts=>
  have hd:=hr.1.1;have hl:=hr.2.1;have e1:bW [none] (dI (ao aW (aw 0) (eK (.int 2)))) (gN 0) ej (ay bw (ah (aw 0) aR)) (entry 1 [.tup [.str "call",.str d,.tup (ts.map br)]]) h=some (ts.map λt=>.str (jr t),h):=
   uD (t:=[]) (o:=none) br (λt=>.str (jr t)) (d:=.tup (ts.map br)) rfl rfl rfl (by lia) λt ht=>fZ (hr.2.2 t ht)
  refine bM (bU ?_);rw[az];nofun;refine⟨false,by ac_nf,λz=>(nomatch z),λ_=>?_⟩;nofun;refine⟨true,by ac_nf,λ_=>?_,λz=>(nomatch z)⟩;nofun;refine gA ?_;nofun;refine⟨rfl,cV (nO (ve (rv (a:=([.str "call",.str d],h)) (by ac_nf) (ve (rv e1 ?_)))))⟩;refine rv (a:=(.lv ((Str.ofString "call"::d::ts.map jr).map D.str),h)) ?_ (kB (rv (n5 ?_ ?_ (ws:=[]) rfl) ?_))
  ·rw[Qc,Qc,Q9];simp only[ax,tx,eB,Qv,PU,P2,Rz];rw[P0 (by rw[show sizeLine=16777216 from rfl];lia)];rfl
  ·intro x hx;rcases P5.mp hx with rfl | hx
   ·decide+kernel
   ·rcases P5.mp hx with rfl | hx
    ·lia
    ·obtain⟨t,ht,rfl⟩:=QG.mp hx;have:=(gE (hr.2.2 t ht)).1
     lia
  ·simp;lia
  ·nofun;rfl
 | all ls b=>
  have hl:=hr.1;have e1:bW [none] (dI (ao aW (aw 0) (eK (.int 1)))) (gN 0) ej (ay b7 (ah (aw 0) aR)) (entry 1 [.tup [.str "all",.tup (ls.map aL),.tup (cx b)]]) h=some (ls.map λt=>.str (fH t),h):=
   uD (t:=[]) (o:=none) aL (λt=>.str (fH t)) (d:=.tup (ls.map aL)) rfl rfl rfl (by lia) λt ht=>i0 (hr.2.1 t ht)
  refine bM (bU ?_);rw[az];nofun;refine⟨false,by ac_nf,λz=>(nomatch z),λ_=>?_⟩;nofun;refine⟨false,by ac_nf,λz=>(nomatch z),λ_=>?_⟩;nofun;refine⟨true,by ac_nf,λ_=>?_,λz=>(nomatch z)⟩;nofun;refine gA ?_;nofun;refine⟨rfl,cV (nO (ve (rv (a:=([.str "all"],h)) (by ac_nf) (ve (rv e1 ?_)))))⟩;refine rv (a:=(.lv ((Str.ofString "all"::ls.map fH).map D.str),h)) ?_ (kB (rv (n5 ?_ ?_ (ws:=[]) rfl) ?_))
  ·rw[Qc,Q9];simp only[ax,tx,eB,Qv,PU,P2,Rz];rw[P0 (by rw[show sizeLine=16777216 from rfl];lia)];rfl
  ·intro x hx;rcases P5.mp hx with rfl | hx
   ·decide+kernel
   ·obtain⟨t,ht,rfl⟩:=QG.mp hx;have:=(iy (hr.2.1 t ht)).1
    lia
  ·simp;lia
  ·nofun;rfl
 | within l b=>
  have a:=(iy hr).1;refine bM (bU ?_);rw[az];nofun;refine⟨false,by ac_nf,λz=>(nomatch z),λ_=>?_⟩;nofun;refine⟨false,by ac_nf,λz=>(nomatch z),λ_=>?_⟩;nofun;refine⟨false,by ac_nf,λz=>(nomatch z),λ_=>?_⟩;nofun;refine rv (a:=(.bl true,h)) (by ac_nf) ?_;nofun;refine⟨true,rfl,λ_=>?_,λz=>(nomatch z)⟩;nofun;refine rv (bF (by decide+kernel)) ?_;nofun;refine rv (i0 hr) (rv (bF (by rw[Qu,cb,show(Str.ofString "within").length=6 by decide+kernel];lia)) ?_);nofun;rfl
 | ask l b e=>
  have a:=(iy hr).1;refine bM (bU ?_);rw[az];nofun;refine⟨false,by ac_nf,λz=>(nomatch z),λ_=>?_⟩;nofun;refine⟨false,by ac_nf,λz=>(nomatch z),λ_=>?_⟩;nofun;refine⟨false,by ac_nf,λz=>(nomatch z),λ_=>?_⟩;nofun;refine rv (a:=(.bl true,h)) (by ac_nf) ?_;nofun;refine⟨true,rfl,λ_=>?_,λz=>(nomatch z)⟩;nofun;refine rv (bF (by decide+kernel)) ?_;nofun;refine rv (i0 hr) (rv (bF (by rw[Qu,cb,show(Str.ofString "ask").length=3 by decide+kernel];lia)) ?_);nofun;rfl
 | gQ s t a b c=>
  have l1:=(gE hr.1).1;have l2:=(gE hr.2).1;have l3:(Str.ofString "by ").length=3:=by decide+kernel
  refine bM (bU ?_);rw[az];nofun;refine⟨false,by ac_nf,λz=>(nomatch z),λ_=>?_⟩;nofun;refine⟨false,by ac_nf,λz=>(nomatch z),λ_=>?_⟩;nofun;refine⟨false,by ac_nf,λz=>(nomatch z),λ_=>?_⟩;nofun;refine rv (a:=(.bl false,h)) (by ac_nf) ?_;nofun;refine⟨false,rfl,λz=>(nomatch z),λ_=>?_⟩;nofun;refine⟨true,by ac_nf,λ_=>?_,λz=>(nomatch z)⟩;nofun;refine rv (fZ hr.1) (rv (bF (by lia)) ?_);nofun;refine rv (bF (by rw[Qu,cb];lia)) ?_;nofun;refine rv (fZ hr.2) (rv (bF (by rw[Qu,Qu,cb];lia)) ?_);nofun;rfl
end Mi
namespace Pg
open PySem Sm L2
abbrev Ln:=Int×Str
noncomputable def jH(x:Ln):D:=.tup [.int x.1,.str x.2]
noncomputable def wA(n:Nat):Ln:=((n:Int),Str.ofString "or")
noncomputable def fQ(n:Nat):Ln:=((n:Int),Str.ofString "end")
noncomputable def bz(g:Nat->List Row->List Ln)(n:Nat):Nat->Nat->List (List Row)->List Ln
 | _,_,[]=>[]
 | j,k,a::r=>(if j=0 then[] else[wA n])++g k a++bz g n (j+1) (k+aj a) r
noncomputable def cz(g:Nat->List Row->List Ln)(k:Nat)(r:Row):List Ln:=((k:Int),bo r)::(bz g k 0 (k+1) (af r)++(if af r=[] then[] else[fQ k]))
noncomputable def cG(g:Nat->List Row->List Ln):Nat->List Row->List Ln
 | _,[]=>[]
 | k,r::rs=>cz g k r++cG g (k+cnt r) rs
noncomputable def gX:Nat->Nat->List Row->List Ln
 | 0=>λ_ _=>[]
 | f+1=>cG (gX f)
def yA:Nat->List Row->Prop
 | 0,_=>True
 | f+1,l=>∀r∈l,zE r/\∀t∈af r,yA f t
theorem rD(g:Nat->List Row->List Ln)(n:Nat)(a:List Row):∀(j k:Nat)(x:List (List Row)),bz g n j k (x++[a])=bz g n j k x++((if j+x.length=0 then[] else[wA n])++g (k+(x.map aj).sum) a)
 | j,k,[]=>by simp[bz]
 | j,k,y::x=>by
  rw[QE,bz,bz,rD g n a (j+1) (k+aj y) x];simp only[QC,P2,Qc,QH];rw[show j+1+x.length=j+(x.length+1) by lia,show k+aj y+(x.map aj).sum=k+(aj y+(x.map aj).sum) by lia]
theorem rB(g:Nat->List Row->List Ln)(r:Row):∀(k:Nat)(x:List Row),cG g k (x++[r])=cG g k x++cz g (k+aj x) r
 | k,[]=>by simp[cG,aj]
 | k,y::x=>by
  rw[QE,cG,cG,rB g r (k+cnt y) x,QC];rw[show aj (y::x)=cnt y+aj x by simp[aj],QN]
theorem um{l:List Row}{i:Nat}{r:Row}(e:l[i]?=some r):aj (l.take (i+1))=aj (l.take i)+cnt r/\l.take (i+1)=l.take i++[r]:=by
 have h:l.take (i+1)=l.take i++[r]:=by rw[RW,e];rfl
 exact⟨by rw[h,iG];simp[aj],h⟩
theorem mU(l:List Row)(i:Nat):aj (l.take i)<=aj l:=by
 have:=iG (l.take i) (l.drop i);rw[Q5] at this
 lia
end Pg
namespace Mi
open PySem Sm L2 Pg
noncomputable def zo:Row->Int
 | .say _=>2
 | .call _ _=>3
 | .within _ _=>2
 | .all _ _=>2
 | .ask _ _ _=>2
 | .gQ _ _ _ _ _=>3
 | .either _ _=>1
 | .again _=>1
theorem rO(r:Row)(h:MH):JG (.dv [(.inr (Str.ofString "say"),.int 2),(.inr (Str.ofString "call"),.int 3),(.inr (Str.ofString "by"),.int 3),(.inr (Str.ofString "either"),.int 1),(.inr (Str.ofString "again"),.int 1)]) [.str (bQ r),.int 2] h=some (.int (zo r),h)/\i8 (az r) (some (zo r)) none h=some (.tup ((af r).map cI),h):=by
 cases r <;> (rw[az];exact⟨by ac_nf,by ac_nf⟩)
theorem jV(r:Row)(h:MH):aW (az r) (.int 0) h=some (.str (bQ r),h):=by
 cases r <;> (rw[az];rfl)
theorem zI{x:D}{b:Bool}{h:MH}:∃v:Int,oj [.bl b] h=some (.int v,h)/\y4 (.lv [x]) (.int v) h=some (.lv (if b then[x] else[]),h):=by
 cases b
 ·exact⟨0,rfl,rfl⟩
 ·exact⟨1,rfl,rfl⟩
theorem Fw{h g:MH}{n:Nat}{o:MO}(hn:h.length<=n):(h++g).set n o=h++g.set (n-h.length) o:=RV _ _ hn
theorem get_set{h:MH}{n:Nat}{o o':MO}(e:h[n]?=some o'):(h.set n o)[n]?=some o:=QA (PV.mp e).1
theorem mH{h:MH}{n:Nat}{xs:List D}(e:h[n]?=some (.lst xs)):eB (.ob n) h=some xs:=by unfold eB;dsimp only;rw[e]
theorem DM(r:Row):(af r).length<=3:=by cases r <;> simp[af]
theorem i5{g:Nat->List Row->List Ln}(hg:∀k a,(g k a).length<=5*aj a)(n:Nat):∀(j k:Nat)(x:List (List Row)),(bz g n j k x).length<=5*(x.map aj).sum+x.length
 | _,_,[]=>by simp[bz]
 | j,k,a::r=>by
  have h1:=hg k a;have h2:=i5 hg n (j+1) (k+aj a) r;rw[bz,Qb,Qb,Qc,QH,P2];have h3:(if j=0 then([]:List Ln) else[wA n]).length<=1:=by split <;> simp
  lia
theorem Bm{g:Nat->List Row->List Ln}(hg:∀k a,(g k a).length<=5*aj a)(k:Nat)(r:Row):(cz g k r).length<=5*cnt r:=by
 have h2:=i5 hg k 0 (k+1) (af r);have h4:=DM r;have h3:(if af r=[] then([]:List Ln) else[fQ k]).length<=1:=by split <;> simp
 rw[cz,P2,Qb,de]
 lia
theorem k6{g:Nat->List Row->List Ln}(hg:∀k a,(g k a).length<=5*aj a):∀(k:Nat)(l:List Row),(cG g k l).length<=5*aj l
 | _,[]=>by simp[cG]
 | k,r::rs=>by
  have h1:=Bm hg k r;have h2:=k6 hg (k+cnt r) rs;rw[cG,Qb,show aj (r::rs)=cnt r+aj rs by simp[aj]]
  lia
theorem i6:∀(f k:Nat)(l:List Row),(gX f k l).length<=5*aj l
 | 0,_,_=>by simp[gX]
 | f+1,k,l=>k6 (i6 f) k l
theorem t5:∀(f:Nat)(l:List Row)(k:Nat)(h:MH),a8 l<=f->yA f l->k+aj l<=1000->Rn (bZ f [.tup (cx l),.int (k:Int)] h) λp=>∃(n:Nat)(g:MH),p=(.tup [.ob n,.int ((k+aj l:Nat):Int)],h++g)/\(h++g)[n]?=some (.lst ((gX f k l).map jH))
 | 0,l,k,h,hn,_,_=>by
  exfalso;cases l with
  | nil=>rw[a8] at hn;lia
  | cons r rs=>rw[a8] at hn;lia
 | f+1,l,k,h,hn,hs,hk=>by
  unfold bZ;refine bU ?_;nofun;refine⟨_,_,rfl,?_⟩;nofun;refine dU ?_;nofun;refine⟨_,_,rfl,?_⟩;rw[bK];refine cU (λi δ h'=>∃(n:Nat)(g:MH)(o4 o5 o6 o7 o8 o9 o10:Option D),δ=[some (.tup (l.map az)),some (.int (k:Int)),some (.ob n),some (.int ((k+aj (l.take i):Nat):Int)),o4,o5,o6,o7,o8,o9,o10]/\h'=h++g/\h.length<=n/\(h++g)[n]?=some (.lst ((cG (gX f) k (l.take i)).map jH)))
   ⟨h.length,[.lst []],_,_,_,_,_,_,_,rfl,rfl,PZ _,by simp[cG]⟩ (λ_ _ _ _ _=>rfl) ?_ ?_
  ·rintro i x δ h' hx ⟨n,g,o4,o5,o6,o7,o8,o9,o10,rfl,rfl,hnl,hat⟩;rw[Qg] at hx;obtain⟨r,er,rfl⟩:=Qo.mp hx;obtain⟨hsr,hsl⟩:=hs r (PX er);obtain⟨hc1,ht1⟩:=um er;have hcl:=mU l (i+1);have hcr:=de r;have hnr:=fq (PX er);generalize hK:k+aj (l.take i)=K at*;generalize hX:(cG (gX f) k (l.take i))=X at*;have hXl:X.length<=5000:=by have:=k6 (i6 f) k (l.take i);rw[hX] at this;lia
   nofun;refine gA ?_;nofun;refine⟨cq hat,?_⟩;nofun;refine rv (Gx hsr) ?_;nofun;refine rv (cc hat (by rw[PU,show sizeLine=16777216 from rfl];lia)) ?_;have hat1:=get_set (o:=.lst (X.map jH++[.tup [.int (K:Int),.str (bo r)]])) hat;rw[Fw hnl] at hat1 ⊢;generalize g.set (n-h.length) _=g1 at hat1 ⊢;nofun;refine gA (rv (a:=(.dv [(.inr (Str.ofString "say"),.int 2),(.inr (Str.ofString "call"),.int 3),(.inr (Str.ofString "by"),.int 3),(.inr (Str.ofString "either"),.int 1),(.inr (Str.ofString "again"),.int 1)],h++g1)) (by ac_nf) ⟨rfl,?_⟩);nofun;refine rv (jV r _) ?_;nofun;refine rv (rO r _).1 ?_;nofun;refine⟨_,rfl,?_⟩;nofun;refine rv (rO r _).2 ?_;nofun;refine mn ?_;nofun;refine⟨_,_,_,rfl,rfl,?_⟩;refine cU (λj δ h'=>∃(n':Nat)(g':MH)(o8 o9 o10:Option D),δ=[some (.tup (l.map az)),some (.int (k:Int)),some (.ob n'),some (.int ((K+1+(((af r).take j).map aj).sum:Nat):Int)),some (az r),some (.int (K:Int)),some (.int (zo r)),some (.tup ((af r).map cI)),o8,o9,o10]/\h'=h++g'/\h.length<=n'/\(h++g')[n']?=some (.lst ((X++((K:Int),bo r)::bz (gX f) K 0 (K+1) ((af r).take j)).map jH)))
    ⟨n,g1,_,_,_,rfl,rfl,hnl,by rw[hat1,Ql];rfl⟩ (λ_ _ _ _ _=>rfl) ?_ ?_
   ·rintro j y δ h' hy ⟨n',g',o8,o9,o10,rfl,rfl,hnl',hat'⟩;obtain⟨t,et,rfl⟩:=mQ hy;have htm:=PX et;have hj:j < 3:=by have:=DM r;have:=(PV.mp et).1;lia
    have hst:(((af r).take (j+1)).map aj).sum=(((af r).take j).map aj).sum+aj t/\(af r).take (j+1)=(af r).take j++[t]:=by
     have e:(af r).take (j+1)=(af r).take j++[t]:=by rw[RW,et];rfl
     exact⟨by rw[e];simp,e⟩
    have hsle:(((af r).take (j+1)).map aj).sum<=((af r).map aj).sum:=by
     have:=congrArg (λz=>(z.map aj).sum) (Q5 (j+1) (af r));simp only[Ql,Sa] at this
     lia
    have hlen:=i5 (i6 f) K 0 (K+1) ((af r).take j);have hlt:((af r).take j).length<=3:=by rw[Qj];lia
    have hln:=i6 f (K+1+(((af r).take j).map aj).sum) t;generalize hY:bz (gX f) K 0 (K+1) ((af r).take j)=Y at*;nofun;obtain⟨v,hv,hrep⟩:=zI (x:=.tup [.int (K:Int),.str (Str.ofString "or")]) (b:=decide (0 < (j:Int))) (h:=h++g');refine vh ?_;nofun;refine rv hv (rv hrep ⟨_,_,mH hat',rfl,?_,?_⟩)
    ·rw[PU,Qb,P2,show sizeLine=16777216 from rfl]
     split <;> simp <;> lia
    have e1:(if decide (0 < (j:Int))=true then[D.tup [.int (K:Int),.str (Str.ofString "or")]] else[])=(if j=0 then([]:List Ln) else[wA K]).map jH:=by
     by_cases z:j=0
     ·subst z;rfl
     ·rw[P0 (Qx (by lia)),P7 z];rfl
    rw[e1,<-Ql];have hO:(if j=0 then([]:List Ln) else[wA K]).length<=1:=by split <;> simp
    generalize hOO:(if j=0 then([]:List Ln) else[wA K])=O at*;generalize hZ:(X++((K:Int),bo r)::Y)++O=Z at*;have hZl:Z.length<=20000:=by rw[<-hZ,Qb,Qb,P2];lia
    nofun;obtain⟨_,e2,n2,g2,rfl,hat2⟩:=t5 f t (K+1+(((af r).take j).map aj).sum) ((h++g')++[.lst (Z.map jH)]) (by have:=fm htm;lia) (hsl t htm) (by lia);refine rv e2 ?_;have hat3:((h++g')++[.lst (Z.map jH)]++g2)[(h++g').length]?=some (.lst (Z.map jH)):=by
     rw[P8 (by simp)];simp
    nofun;refine vh ?_;nofun;refine⟨_,_,mH hat3,mH hat2,?_,?_⟩
    ·rw[PU,PU,show sizeLine=16777216 from rfl];lia
    rw[hst.1,<-QN (K+1)];refine⟨_,g'++[.lst (Z.map jH)]++g2++[.lst (Z.map jH++(gX f (K+1+(((af r).take j).map aj).sum) t).map jH)],_,_,_,rfl,?_,?_,?_⟩
    ·show h++g'++_++g2++_=_;simp only[QC]
    ·show h.length<=(h++g'++_++g2).length;simp only[Qb];lia
    rw[hst.2,rD,hY,QL,Qj,Ry (by have:=(PV.mp et).1;lia),hOO];rw[show X++((K:Int),bo r)::(Y++(O++gX f (K+1+(((af r).take j).map aj).sum) t))=Z++gX f (K+1+(((af r).take j).map aj).sum) t by rw[<-hZ];simp];rw[Ql];simp
   ·rintro δ h' ⟨n',g',o8,o9,o10,rfl,rfl,hnl',hat'⟩;rw[cL,PU,QT] at hat' ⊢;have hlen:=i5 (i6 f) K 0 (K+1) (af r);have h3:=DM r;generalize hY:bz (gX f) K 0 (K+1) (af r)=Y at*;nofun;obtain⟨v,hv,hrep⟩:=zI (x:=.tup [.int (K:Int),.str (Str.ofString "end")]) (b:=decide (0 < ((af r).length:Int))) (h:=h++g');refine vh ?_;nofun;rw[PU];refine rv hv (rv hrep ⟨_,_,mH hat',rfl,?_,?_⟩)
    ·rw[PU,Qb,P2,show sizeLine=16777216 from rfl]
     split <;> simp <;> lia
    have e1:(if decide (0 < ((af r).length:Int))=true then[D.tup [.int (K:Int),.str (Str.ofString "end")]] else[])=(if af r=[] then([]:List Ln) else[fQ K]).map jH:=by
     cases af r with
     | nil=>rfl
     | cons y q=>rw[P0 (Qx (by simp)),P7 (by simp)];rfl
    rw[e1,<-Ql];nofun;rw[show k+aj (l.take (i+1))=K+1+((af r).map aj).sum by lia];refine⟨_,g'++[_],_,_,_,_,_,_,_,rfl,QC _ _ _,?_,?_⟩
    ·show h.length<=(h++g').length;simp only[Qb];lia
    ·rw[ht1,rB,hX,hK,cz,hY,<-QC h g'];simp
  ·rintro δ h' ⟨n,g,o4,o5,o6,o7,o8,o9,o10,rfl,rfl,hnl,hat⟩;nofun;rw[PU,QT] at hat ⊢;exact⟨n,g,rfl,hat⟩
end Mi
namespace Pg
open PySem Sm L2
noncomputable def bT(d:cf):Str:=Str.join (Str.ofString " ") (Str.ofString "deed"::d.1::d.2.1)
noncomputable def iM(x:Str):Ln:=(-1,x)
noncomputable def bg(f:Nat):Nat->List cf->List Ln
 | _,[]=>[]
 | k,d::ds=>iM (bT d)::(gX f k d.2.2++(iM (Str.ofString "end")::bg f (k+aj d.2.2) ds))
noncomputable def rC(P:Prog):List Ln:=iM (Str.join (Str.ofString " ") (Str.ofString "locks"::P.names))::bg 8 0 P.ai
structure OV(P:Prog):Prop where
 fit:E2 P
 dl:P.ai.length<=6
 nl:P.names.length<=6
 nm:∀x∈P.names,Sh 8 x
 dd:∀d∈P.ai,Sh 8 d.1/\d.2.1.length<=3/\(∀x∈d.2.1,Sh 8 x)/\yA 8 d.2.2
 ct:(P.ai.map λd=>aj d.2.2).sum<=900
noncomputable def aU(ds:List cf):Nat:=(ds.map λd=>aj d.2.2).sum
theorem pf(f:Nat)(d:cf):∀(k:Nat)(x:List cf),bg f k (x++[d])=bg f k x++(iM (bT d)::(gX f (k+aU x) d.2.2++[iM (Str.ofString "end")]))
 | k,[]=>by simp[bg,aU]
 | k,y::x=>by
  rw[QE,bg,bg,pf f d (k+aj y.2.2) x];simp[aU,QN]
theorem zd{d:cf}(h:Sh 8 d.1)(hl:d.2.1.length<=3)(hp:∀x∈d.2.1,Sh 8 x):Sh 100 (bT d):=by
 refine(Sh.join (n:=8) gv λx hx=>?_).up (by simp only[P2];lia);rcases P5.mp hx with rfl | hx
 ·exact⟨by decide+kernel,by decide+kernel⟩
 ·rcases P5.mp hx with rfl | hx
  ·exact h
  ·exact hp x hx
theorem gL(f:Nat):∀(k:Nat)(x:List cf),(bg f k x).length<=5*aU x+2*x.length
 | k,[]=>by simp[bg]
 | k,y::x=>by
  have h1:=Mi.i6 f k y.2.2;have h2:=gL f (k+aj y.2.2) x;rw[bg,P2,Qb,P2,P2];simp only[aU,Qc,QH] at h2 ⊢
  lia
end Pg
namespace Mi
open PySem Sm L2 Pg
theorem nZ{H g:MH}{d:D}(h1:∀n,d≠.ob n)(h2:g0 H.length d=true):leave H d (H++g)=some (d,H):=by
 have h3:yp H.length (H++g) d=d:=by
  cases d with
  | ob n=>exact absurd rfl (h1 n)
  | _=>rfl
 unfold leave;rw[h3,SF (PZ _),QT,h2,ux];rfl
theorem Ew(n:Nat):∀xs:List Ln,fI n (xs.map jH)=true
 | []=>rfl
 | x::r=>by rw[Qc];show(true&&true&&fI n _)=true;rw[Ew n r];rfl
theorem mP{xs ys:List D}{d:D}{h:MH}(e:eB d h=some ys)(hl:xs.length+ys.length<=1000000):ax (.lv xs) d h=some (.lv (xs++ys),h):=by
 unfold ax tx;cases d <;> first |(cases e;done) | skip
 all_goals
  simp only[eB,Qv] at e ⊢
  first
   |(rw[e];dsimp only[Option.bind_some];rw[P0 (by rw[show sizeLine=16777216 from rfl];lia)])
   |(cases e;rw[P0 (by rw[show sizeLine=16777216 from rfl];lia)])
theorem xB{P:Prog}(hP:OV P)(h:MH):gb [bp P] h=some (.lv ((rC P).map jH),h):=by
 have dl:=hP.dl;have nl:=hP.nl;have ct:=hP.ct;have hj:∀(x:Str)(ys:List Str)(H:MH),x.length<=8->ys.length<=6->(∀y∈ys,Sh 8 y)->pe (.str " ") [.tup ((x::ys).map D.str)] H=some (.str (Str.join (Str.ofString " ") (x::ys)),H):=λx ys H hx hl hy=>by
  refine n5 (ws:=[]) (λz hz=>?_) (by simp;lia) rfl;rcases P5.mp hz with rfl | hz
  ·lia
  ·have:=(hy z hz).1;lia
 refine bM (mm ?_);nofun;refine gA ?_;nofun;refine⟨rfl,?_⟩;nofun;refine rv (a:=(.tup (P.names.map D.str),h)) rfl ?_;refine rv (rW (by simp;lia)) ?_;nofun;refine rv (hj (Str.ofString "locks") P.names h (by decide+kernel) nl hP.nm) ?_;nofun;refine⟨_,_,rfl,?_⟩;nofun;refine dU ?_;nofun;refine rv (a:=(.tup (P.ai.map fe),h)) rfl ?_;refine⟨_,_,rfl,?_⟩;refine cU (λi δ h'=>∃(g:MH)(o3 o4 o5 o6:Option D),δ=[some (bp P),some (.lv ((iM (Str.join (Str.ofString " ") (Str.ofString "locks"::P.names))::bg 8 0 (P.ai.take i)).map jH)),some (.int ((aU (P.ai.take i):Nat):Int)),o3,o4,o5,o6]/\h'=h++g)
  ⟨[],_,_,_,_,rfl,by simp⟩ (λ_ _ _ _ _=>rfl) ?_ ?_
 ·rintro i x δ h' hx ⟨g,o3,o4,o5,o6,rfl,rfl⟩;rw[Qg] at hx;obtain⟨d,ed,rfl⟩:=Qo.mp hx;obtain⟨s1,s2,s3,s4⟩:=hP.dd d (PX ed);have nd:=hP.fit.nd d (PX ed);have htk:P.ai.take (i+1)=P.ai.take i++[d]:=by rw[RW,ed];rfl
  have hc1:aU (P.ai.take (i+1))=aU (P.ai.take i)+aj d.2.2:=by rw[htk];simp[aU]
  have hcl:aU (P.ai.take (i+1))<=900:=by
   have:=congrArg aU (Q5 (i+1) P.ai);simp only[aU,Ql,Sa] at this ⊢
   lia
  have hlen:=gL 8 0 (P.ai.take i);have hli:=i6 8 (aU (P.ai.take i)) d.2.2;have htl:(P.ai.take i).length<=6:=by rw[Qj];lia
  generalize hL:iM (Str.join (Str.ofString " ") (Str.ofString "locks"::P.names))::bg 8 0 (P.ai.take i)=L;have hLl:L.length<=6000:=by rw[<-hL,P2];lia
  generalize hK:aU (P.ai.take i)=K at*;obtain⟨nm,ps,rows⟩:=d;dsimp only at s1 s2 s3 s4 nd hc1 hli;show Rn (gT 3 _ (.tup [.str nm,.tup (ps.map D.str),.tup (cx rows)]) _ _) _;nofun;obtain⟨_,e2,n2,g2,rfl,hat2⟩:=t5 8 rows K (h++g) (by lia) s4 (by lia);refine rv e2 ?_;nofun;refine gA ?_;nofun;refine⟨rfl,?_⟩;nofun;refine rv (rW (by simp;lia)) ?_;nofun;refine rv (hj (Str.ofString "deed") (nm::ps) _ (by decide+kernel) (by simp;lia) (by intro y hy;rcases P5.mp hy with rfl | hy;exact s1;exact s3 y hy)) ?_;nofun;refine rv (mP (ys:=[jH (iM (bT (nm,ps,rows)))]) rfl (by simp;lia)) ?_;nofun;refine rv (mP (mH hat2) (by simp;lia)) ?_;nofun;refine rv (mP (ys:=[jH (iM (Str.ofString "end"))]) rfl (by simp;lia)) ?_;nofun;rw[hc1,show iM (Str.join (Str.ofString " ") (Str.ofString "locks"::P.names))::bg 8 0 (P.ai.take (i+1))=L++[iM (bT (nm,ps,rows))]++gX 8 K rows++[iM (Str.ofString "end")] by rw[htk,pf,<-hL,QL,hK];simp];rw[Ql,Ql,Ql];exact⟨g++g2,_,_,_,_,rfl,QC _ _ _⟩
 ·rintro δ h' ⟨g,o3,o4,o5,o6,rfl,rfl⟩;nofun;rw[PU,QT];exact rv (nZ (λn z=>(nomatch z)) (Ew _ _)) rfl
end Mi
namespace Pg
open PySem Sm L2
noncomputable def jl(w:Str):Bool:=!((Str.ofString "say"==w)||(Str.ofString "call"==w))
noncomputable def kE(x:Str):Bool:=match Txt.split x (Str.ofString " ") with
 | w::_=>jl w
 | []=>true
noncomputable def runM:Nat->Nat->List Ln->Option (Nat×Nat)
 | d,n,[]=>some (d,n)
 | d,n,x::r=>if x.2=Str.ofString "or" then(if d=0 then none else runM d n r) else if x.2=Str.ofString "end" then(if d=0 then none else runM (d-1) n r) else runM (if kE x.2 then d+1 else d) (if d=0 then n else n+1) r
theorem cE:∀(a b:List Ln)(d n:Nat),runM d n (a++b)=(runM d n a).bind λp=>runM p.1 p.2 b
 | [],b,d,n=>rfl
 | x::a,b,d,n=>by
  rw[QE,runM,runM]
  split
  ·split
   ·rfl
   ·exact cE a b d n
  ·split
   ·split
    ·rfl
    ·exact cE a b (d-1) n
   ·exact cE a b _ _
theorem pU:∀(a:List Ln)(d n d' n':Nat),runM d n a=some (d',n')->d'<=d+a.length/\n'<=n+a.length
 | [],d,n,d',n',e=>by cases e;exact⟨PZ _,PZ _⟩
 | x::a,d,n,d',n',e=>by
  rw[runM] at e;rw[P2]
  split at e
  ·split at e
   ·cases e
   ·have:=pU a _ _ _ _ e;lia
  ·split at e
   ·split at e
    ·cases e
    ·have:=pU a _ _ _ _ e;lia
   ·have:=pU a _ _ _ _ e
    split at this <;> split at this <;> lia
end Pg
namespace Mi
open PySem Sm L2 Pg
theorem qq(L:List Ln)(hl:L.length<=100000)(h:MH):eX [.lv (L.map jH)] h=some (.lv (L.map λx=>.str x.2),h):=by
 have e1:bW [none,none] (dI (aw 0)) g2 ej (aw 1) (entry 1 [.lv (L.map jH)]) h=some (L.map λx=>.str x.2,h):=
  BJ (o:=none) (o2:=none) (t:=[]) (λx:Ln=>.int x.1) (λx=>.str x.2) (λx=>.str x.2) (d:=.lv (L.map jH)) rfl rfl rfl hl λx _=>rfl
 exact bM (bU (xb (ve (rv e1 rfl))))
theorem vG{n:Nat}(hn:0 < n):tu n (-1)=some (n-1):=by
 unfold tu;rw[P7 (by decide),P0 (by lia)];congr 1
 lia
theorem Aw{cs:List Int}(hn:0 < cs.length):∃z,g9 (cs.map D.int) (-1)=some (.int z):=by
 unfold g9;rw[PU,vG hn];exact⟨cs[cs.length-1]'(by lia),by simp only[Qv,Qg];rw[Qi (by lia)];rfl⟩
theorem Ik{a:D}{xs:List D}{h:MH}:i8 (.lv (a::xs)) (some 1) none h=some (.lv xs,h):=by
 show some (D.lv (cutD (a::xs) (some ((1:Nat):Int)) none),h)=_;unfold cutD;rw[HT.lV,HT.pT,Ry (by simp)];simp
theorem Bd(w:Str)(h:MH):gY (.str w) (.tup [.str "say",.str "call"]) h=some (.bl (jl w),h):=by
 have h1:∀x:Str,PyData.eqv (.str x) (.str w)=(x==w):=λx=>by simp[PyData.eqv]
 show some (D.bl (!(([PyData.str (Str.ofString "say"),PyData.str (Str.ofString "call")]).any λb=>PyData.eqv b (.str w))),h)=_;simp only[RT,List.any_nil,h1,Bool.or_false];rfl
theorem LI{cs:List Int}{p:Nat}{z:Int}:(cs.map D.int).set p (.int z)=(cs.set p z).map D.int:=by rw[List.map_set]
theorem yR(x0:Ln)(L:List Ln)(hl:L.length<=10000)(hs:∀x∈L,Sh 1000 x.2)(d n:Nat)(hr:runM 0 0 L=some (d,n))(h:MH):∃m dp:Int,eY [.lv ((x0::L).map λx=>.str x.2)] h=some (.tup [.int m,.int dp,.int (n:Int)],h):=by
 have e:Rn (eY [.lv ((x0::L).map λx=>.str x.2)] h) λp=>∃m dp:Int,p=(.tup [.int m,.int dp,.int (n:Int)],h):=by
  refine mm ?_;nofun;refine dU ?_;nofun;refine⟨_,rfl,?_⟩;nofun;refine rv Ik ⟨_,_,rfl,?_⟩;refine cU (λi δ h'=>∃(cs:List Int)(m dp:Int)(n':Nat)(o5 o6:Option D),δ=[some (.lv ((x0::L).map λx=>.str x.2)),some (.ob h.length),some (.int m),some (.int dp),some (.int (n':Int)),o5,o6]/\h'=h++[.lst (cs.map D.int)]/\runM 0 0 (L.take i)=some (cs.length,n'))
   ⟨[],0,0,0,_,_,rfl,rfl,rfl⟩ (λ_ _ _ _ _=>rfl) ?_ ?_
  ·rintro i x δ h' hx ⟨cs,m,dp,n',o5,o6,rfl,rfl,hrun⟩;rw[Qg] at hx;obtain⟨y,ey,rfl⟩:=Qo.mp hx;have hy:=hs y (PX ey);have hi:i < L.length:=(PV.mp ey).1;have htk:L.take (i+1)=L.take i++[y]:=by rw[RW,ey];rfl
   have hle:=pU _ _ _ _ _ hrun;rw[Qj] at hle;have hstep:∃p,runM cs.length n' [y]=some p/\runM 0 0 (L.take (i+1))=some p:=by
    have h1:runM 0 0 (L.take (i+1))=runM cs.length n' [y]:=by rw[htk,cE,hrun];rfl
    have h2:=cE (L.take (i+1)) (L.drop (i+1)) 0 0;rw[Q5,hr] at h2;cases h3:runM 0 0 (L.take (i+1)) with
    | none=>rw[h3] at h2;cases h2
    | some p=>exact⟨p,by rw[<-h1,h3],rfl⟩
   obtain⟨p,hp,hp'⟩:=hstep;obtain⟨w,q,hsp⟩:∃w q,Txt.split y.2 (Str.ofString " ")=w::q:=by
    have:=UC y.2 (Str.ofString " ");cases hh:Txt.split y.2 (Str.ofString " ") with
    | nil=>rw[hh] at this;simp at this
    | cons w q=>exact⟨w,q,rfl⟩
   have hop:kE y.2=jl w:=by unfold kE;rw[hsp]
   rw[runM,runM] at hp;have hat:=lp (H:=h) (a:=.lst (cs.map D.int)) rfl;nofun;refine gA ?_;nofun;refine⟨rfl,?_⟩;nofun;refine rv (qB hy) ?_;rw[hsp];nofun;refine rv (show aW (.lv ((w::q).map D.str)) (.int ((0:Nat):Int)) _=_ from bS (x:=w) rfl) ?_;nofun;refine⟨_,rfl,λz=>?_,λz=>?_⟩
   ·have z:=eq_of_beq z;rw[P0 z] at hp;have hc:0 < cs.length:=by
     by_cases c:cs.length=0
     ·rw[P0 c] at hp;cases hp
     ·lia
    rw[P7 (by lia)] at hp;cases hp;nofun;refine rv (mO hat (by rw[PU];exact vG hc)) ?_;rw[qE rfl,LI];nofun;exact⟨_,m,dp,n',_,_,rfl,rfl,by rw[hp',QY]⟩
   ·have z0:y.2≠Str.ofString "or":=by intro e;rw[e,QP] at z;cases z
    rw[P7 z0] at hp;nofun;refine⟨_,rfl,λz=>?_,λz=>?_⟩
    ·have z:=eq_of_beq z;rw[P0 z] at hp;have hc:0 < cs.length:=by
      by_cases c:cs.length=0
      ·rw[P0 c] at hp;cases hp
      ·lia
     rw[P7 (by lia)] at hp;cases hp;nofun;refine gA ?_;nofun;refine⟨cq hat,?_⟩;nofun;refine rv (a:=(.int (cs[cs.length-1]'(by lia)),h++[.lst (cs.dropLast.map D.int)])) ?_ ?_
     ·unfold Gm;dsimp only;rw[hat];dsimp only;rw[PU,Qg,Qi (by lia)];simp only[QF];rw[qE rfl,List.map_dropLast]
     ·nofun;exact⟨_,m,dp,n',_,_,rfl,rfl,by rw[hp',UP]⟩
    ·have z1:y.2≠Str.ofString "end":=by intro e;rw[e,QP] at z;cases z
     rw[P7 z1,hop] at hp;cases hp;refine fU (Rn.imp (Q:=λr=>∃(cs':List Int)(m':Int),r=(Fl.nx,[some (.lv ((x0::L).map λx=>.str x.2)),some (.ob h.length),some (.int m'),some (.int dp),some (.int ((if cs.length=0 then n' else n'+1:Nat):Int)),some (.str y.2),some (.str w)],h++[.lst (cs'.map D.int)])/\cs'.length=cs.length) ?_ ?_)
     ·nofun;refine rv (ud hat) ⟨_,rfl,λz=>?_,λz=>?_⟩
      ·have hc:0 < cs.length:=by cases cs with | nil=>cases z | cons _ _=>simp
       obtain⟨v,hv⟩:=Aw hc;nofun;refine rv (gZ hat hv) ?_;nofun;refine rv (mO hat (by rw[PU];exact vG hc)) ?_;rw[qE rfl,LI];have hc2:0 < (cs.set (cs.length-1) (v+1)).length:=by rw[QY];exact hc
       obtain⟨v2,hv2⟩:=Aw hc2;have hat2:=lp (H:=h) (a:=.lst ((cs.set (cs.length-1) (v+1)).map D.int)) rfl;nofun;refine rv (gZ hat2 hv2) ?_;nofun;refine rv (i9 _ _ _) ?_;nofun;refine⟨_,_,rfl,?_⟩;rw[P7 (by lia)];exact⟨_,_,rfl,QY⟩
      ·have hc:cs=[]:=by cases cs with | nil=>rfl | cons _ _=>cases z
       subst hc;nofun;exact⟨[],m,rfl,rfl⟩
     ·rintro _ ⟨cs',m',rfl,hl'⟩;have hat':=lp (H:=h) (a:=.lst (cs'.map D.int)) rfl;show Rn _ _;nofun;refine rv (Bd w _) ?_;nofun;refine⟨_,rfl,λz=>?_,λz=>?_⟩
      ·rw[P0 z] at hp';nofun;refine gA ?_;nofun;refine⟨cq hat',?_⟩;nofun;refine rv (cc hat' (by rw[PU,show sizeLine=16777216 from rfl];lia)) ?_;rw[qE rfl];have hat3:=lp (H:=h) (a:=.lst (cs'.map D.int++[D.int 0])) rfl;nofun;refine rv (vM hat3) ?_;nofun;refine rv (i9 _ _ _) ?_;exact⟨cs'++[0],m',_,_,_,_,rfl,by rw[Ql];rfl,by rw[hp',Qb,hl'];rfl⟩
      ·rw[P7 (by rw[z];simp)] at hp';nofun;exact⟨cs',m',dp,_,_,_,rfl,rfl,by rw[hp',hl']⟩
  ·rintro δ h' ⟨cs,m,dp,n',o5,o6,rfl,rfl,hrun⟩;rw[PU,QT,hr] at hrun;cases hrun;nofun;exact rv (nZ (λn z=>(nomatch z)) rfl) ⟨m,dp,rfl⟩
 obtain⟨p,e1,m,dp,rfl⟩:=e;exact⟨m,dp,e1⟩
end Mi
namespace Pg
open PySem Sm L2
noncomputable def DY(x:Ln):Bool:=decide (0<=x.1)&&!((Str.ofString "or"==x.2)||(Str.ofString "end"==x.2))
noncomputable def km(L:List Ln):List Int:=(L.filter DY).map (·.1)
theorem cB(a b:List Ln):km (a++b)=km a++km b:=by unfold km;rw[UY,Ql]
noncomputable def tL(a b:Nat):List Int:=(List.range (b-a)).map λi=>((a+i:Nat):Int)
theorem ir(a:Nat):tL a a=[]:=by simp[tL]
theorem lW{a b:Nat}(h:a < b):tL a b=(a:Int)::tL (a+1) b:=by
 unfold tL;rw[show b-a=(b-(a+1))+1 by lia,UE,Qc,Q9];congr 1;refine Tz λi _=>?_;show((a+(i+1):Nat):Int)=((a+1+i:Nat):Int)
 lia
theorem iT{b c:Nat}(h2:b<=c):∀(j a:Nat),b-a=j->a<=b->tL a b++tL b c=tL a c
 | 0,a,e,h=>by rw[show a=b by lia,ir,Q3]
 | j+1,a,e,h=>by
  rw[lW (show a < b by lia),lW (show a < c by lia),QE,iT h2 j (a+1) (by lia) (by lia)]
theorem Jq(n:Nat):DY (wA n)=false:=by
 unfold DY wA;simp
theorem GF(n:Nat):DY (fQ n)=false:=by
 unfold DY fQ;simp
theorem JX(n:Nat):km [wA n]=[]:=by unfold km;rw[Q7,Jq];rfl
theorem Af(n:Nat):km [fQ n]=[]:=by unfold km;rw[Q7,GF];rfl
structure Sg(N k c:Nat)(L:List Ln):Prop where
 nm:∀x∈L,x.1=(N:Int)\/((k:Int)<=x.1/\x.1 < k+c)
 hd:km L=tL k (k+c)
 rn:∀d m,1<=d->runM d m L=some (d,m+c)
theorem Sg.nil{N k:Nat}:Sg N k 0 []:=⟨λx h=>(nomatch h),by rw[TN,ir];rfl,λd m _=>rfl⟩
theorem Sg.app{N k c c':Nat}{A B:List Ln}(a:Sg N k c A)(b:Sg N (k+c) c' B):Sg N k (c+c') (A++B):=by
 refine⟨λx hx=>?_,?_,λd m hd=>?_⟩
 ·rcases Qk.mp hx with h | h
  ·have:=a.nm x h;lia
  ·have:=b.nm x h;lia
 ·rw[cB,a.hd,b.hd,<-QN];exact iT (by lia) _ _ rfl (by lia)
 ·rw[cE,a.rn d m hd];show runM d (m+c) B=_;rw[b.rn d _ hd,QN]
theorem Sg.or{N k:Nat}(n:Nat)(h:n=N):Sg N k 0 [wA n]:=by
 subst h;refine⟨λx hx=>.inl (by rw[Qd.mp hx];rfl),by rw[JX,TN,ir],λd m hd=>?_⟩;rw[runM,P0 (show(wA n).2=Str.ofString "or" from rfl),P7 (by lia)];rfl
theorem Sg.mono{N N' k c:Nat}{L:List Ln}(a:Sg N k c L)(h:k<=N/\N < k+c):Sg N' k c L:=⟨λx hx=>by have:=a.nm x hx;lia,a.hd,a.rn⟩
theorem nW(r:Row):af r=[]↔jl (bQ r)=false:=by
 have hw:∀w∈[Str.ofString "within",Str.ofString "all",Str.ofString "ask",Str.ofString "by",Str.ofString "either",Str.ofString "again"],jl w=true:=by decide+kernel
 have hw':∀w∈[Str.ofString "say",Str.ofString "call"],jl w=false:=by decide+kernel
 cases r <;> simp only[af,bQ]
 case say=>simp[hw' (Str.ofString "say") (by simp)]
 case call=>simp[hw' (Str.ofString "call") (by simp)]
 case within=>simp[hw (Str.ofString "within") (by simp)]
 case all=>simp[hw (Str.ofString "all") (by simp)]
 case ask=>simp[hw (Str.ofString "ask") (by simp)]
 case gQ=>simp[hw (Str.ofString "by") (by simp)]
 case either=>simp[hw (Str.ofString "either") (by simp)]
 case again=>simp[hw (Str.ofString "again") (by simp)]
theorem uR{g:Nat->List Row->List Ln}{N:Nat}:∀(x:List (List Row)) (j k:Nat),(∀k,∀t∈x,Sg N k (aj t) (g k t))->Sg N k (x.map aj).sum (bz g N j k x)
 | [],j,k,h=>Sg.nil
 | t::x,j,k,h=>by
  have h1:Sg N k 0 (if j=0 then[] else[wA N]):=by
   by_cases z:j=0
   ·rw[P0 z];exact Sg.nil
   ·rw[P7 z];exact Sg.or N rfl
  have h2:=h1.app (h k t (.head _));rw[QL] at h2;have h3:=h2.app (uR x (j+1) (k+aj t) λk u hu=>h k u (.tail _ hu));rw[bz,Qc,QH];exact h3
theorem CC{g:Nat->List Row->List Ln}{k:Nat}{r:Row}(hr:zE r)(h:∀k',∀t∈af r,Sg k k' (aj t) (g k' t)):Sg k k (cnt r) (cz g k r):=by
 have hl:=uR (g:=g) (N:=k) (af r) 0 (k+1) h;obtain⟨n1,n2⟩:=Ae r hr;have n1':bo r≠Str.ofString "or":=by intro e;rw[e,QP] at n1;cases n1
 have n2':bo r≠Str.ofString "end":=by intro e;rw[e,QP] at n2;cases n2
 have hop:kE (bo r)=jl (bQ r):=by
  obtain⟨q,e⟩:=ll r hr;unfold kE;rw[e]
 have hc:=de r;have hh:DY ((k:Int),bo r)=true:=by
  unfold DY;rw[Qx (by lia),Up];have a1:(Str.ofString "or"==bo r)=false:=by rw[Ri];exact Rl n1'
  have a2:(Str.ofString "end"==bo r)=false:=by rw[Ri];exact Rl n2'
  dsimp only;rw[a1,a2];rfl
 unfold cz;refine⟨λx hx=>?_,?_,λd m hd=>?_⟩
 ·rcases P5.mp hx with rfl | hx
  ·exact .inl rfl
  ·rcases Qk.mp hx with hx | hx
   ·have:=hl.nm x hx;lia
   ·left
    split at hx
    ·cases hx
    ·rw[Qd.mp hx];rfl
 ·show km ([((k:Int),bo r)]++(bz g k 0 (k+1) (af r)++(if af r=[] then[] else[fQ k])))=_;rw[cB,cB,hl.hd];have e1:km [((k:Int),bo r)]=[(k:Int)]:=by unfold km;rw[Q7,hh];rfl
  have e2:km (if af r=[] then[] else[fQ k])=[]:=by
   split
   ·rfl
   ·exact Af k
  rw[e1,e2,QS,lW (show k < k+cnt r by lia),hc];rw[show k+1+((af r).map aj).sum=k+(1+((af r).map aj).sum) by lia];rfl
 ·rw[runM,P7 n1',P7 n2',P7 (show ¬d=0 by lia),hop,cE]
  by_cases z:af r=[]
  ·rw[P0 z,(nW r).mp z,P7 (by simp),hl.rn d _ hd,z,hc,z];rfl
  ·have z1:jl (bQ r)=true:=by
    cases e:jl (bQ r) with
    | true=>rfl
    | false=>exact absurd ((nW r).mpr e) z
   rw[P7 z,z1,P0 rfl,hl.rn (d+1) _ (by lia)];show runM (d+1) _ [fQ k]=_;rw[runM,P7 (show ¬(fQ k).2=Str.ofString "or" from by show ¬Str.ofString "end"=Str.ofString "or";decide+kernel),P0 (show(fQ k).2=Str.ofString "end" from rfl),P7 (by lia),hc];show some _=some _;congr 2
   lia
theorem zF{g:Nat->List Row->List Ln}:∀(l:List Row)(k N:Nat),(∀r∈l,zE r)->(∀k' N',∀r∈l,∀t∈af r,Sg N' k' (aj t) (g k' t))->Sg N k (aj l) (cG g k l)
 | [],k,N,_,_=>by rw[cG,show aj []=0 by simp[aj]];exact Sg.nil
 | r::rs,k,N,h1,h2=>by
  have hc:=de r;have a:=(CC (g:=g) (k:=k) (h1 r (.head _)) λk' t ht=>h2 k' k r (.head _) t ht).mono (N':=N) ⟨PZ _,by lia⟩;have b:=zF rs (k+cnt r) N (λr hr=>h1 r (.tail _ hr)) λk' N' r hr=>h2 k' N' r (.tail _ hr);rw[cG,show aj (r::rs)=cnt r+aj rs by simp[aj]];exact a.app b
theorem uS:∀(f:Nat)(l:List Row)(k N:Nat),a8 l<=f->yA f l->Sg N k (aj l) (gX f k l)
 | 0,l,k,N,hn,_=>by
  exfalso;cases l with
  | nil=>rw[a8] at hn;lia
  | cons r rs=>rw[a8] at hn;lia
 | f+1,l,k,N,hn,hs=>zF l k N (λr hr=>(hs r hr).1) λk' N' r hr t ht=>uS f t k' N' (by have:=fq hr;have:=fm ht;lia) ((hs r hr).2 t ht)
def Dec(k c n:Nat)(L:List Ln)(r:Row)(f:Nat):Prop:=∃(pre post:List Ln)(e:Nat),L=pre++(cz (gX f) n r++post)/\(∀x∈pre,x.1≠(n:Int))/\(∀x∈post,x.1≠(n:Int))/\k<=n/\n+cnt r<=k+c/\km pre=tL k n/\km post=tL (n+cnt r) (k+c)/\(∀d m,1<=d->runM d m pre=some (d+e,m+(n-k)))/\(∀d m,1<=d->runM (d+e) m post=some (d,m+(k+c-(n+cnt r))))
theorem cnt_pos'(r:Row):1<=cnt r:=by have:=de r;lia
theorem Dec.left{k0 c0 c n N f:Nat}{A L:List Ln}{r:Row}(D:Dec (k0+c0) c n L r f)(a:Sg N k0 c0 A)(hN:N≠n):Dec k0 (c0+c) n (A++L) r f:=by
 obtain⟨pre,post,e,rfl,h1,h2,h3,h4,h5,h6,h7,h8⟩:=D;refine⟨A++pre,post,e,by rw[QC],λx hx=>?_,h2,by lia,by lia,?_,by rw[h6,QN],λd m hd=>?_,λd m hd=>?_⟩
 ·rcases Qk.mp hx with z | z
  ·have:=a.nm x z;lia
  ·exact h1 x z
 ·rw[cB,a.hd,h5];exact iT (by lia) _ _ rfl (by lia)
 ·rw[cE,a.rn d m hd];show runM d (m+c0) pre=_;rw[h7 d _ hd];congr 2
  lia
 ·rw[h8 d m hd];congr 2
  lia
theorem Dec.right{k c c' n N f:Nat}{L B:List Ln}{r:Row}(D:Dec k c n L r f)(b:Sg N (k+c) c' B)(hN:N≠n):Dec k (c+c') n (L++B) r f:=by
 obtain⟨pre,post,e,rfl,h1,h2,h3,h4,h5,h6,h7,h8⟩:=D;have hp:=cnt_pos' r;refine⟨pre,post++B,e,by simp only[QC],h1,λx hx=>?_,h3,by lia,h5,?_,h7,λd m hd=>?_⟩
 ·rcases Qk.mp hx with z | z
  ·exact h2 x z
  ·have:=b.nm x z;lia
 ·rw[cB,b.hd,h6,<-QN k];exact iT (by lia) _ _ rfl (by lia)
 ·rw[cE,h8 d m hd];show runM d _ B=_;rw[b.rn d _ hd];congr 2
  lia
theorem Dec.self{k f:Nat}{r:Row}:Dec k (cnt r) k (cz (gX f) k r) r f:=
 ⟨[],[],0,by simp,λx h=>(nomatch h),λx h=>(nomatch h),PZ _,PZ _,by rw[ir];rfl,by rw[ir];rfl,λd m _=>by rw[Rm];rfl,λd m _=>by rw[Rm];rfl⟩
theorem Dec.wrap{k c n f:Nat}{L:List Ln}{r r0:Row}(D:Dec (k+1) c n L r f)(h0:zE r0)(hl:af r0≠[])(hk:k < n):Dec k (1+c) n (((k:Int),bo r0)::(L++[fQ k])) r f:=by
 obtain⟨pre,post,e,rfl,h1,h2,h3,h4,h5,h6,h7,h8⟩:=D;obtain⟨n1,n2⟩:=Ae r0 h0;have n1':bo r0≠Str.ofString "or":=by intro e;rw[e,QP] at n1;cases n1
 have n2':bo r0≠Str.ofString "end":=by intro e;rw[e,QP] at n2;cases n2
 have hop:kE (bo r0)=true:=by
  obtain⟨q,e⟩:=ll r0 h0;unfold kE;rw[e];show jl (bQ r0)=true;cases e:jl (bQ r0) with
  | true=>rfl
  | false=>exact absurd ((nW r0).mpr e) hl
 have hh:DY ((k:Int),bo r0)=true:=by
  unfold DY;rw[Qx (by lia),Up];have a1:(Str.ofString "or"==bo r0)=false:=by rw[Ri];exact Rl n1'
  have a2:(Str.ofString "end"==bo r0)=false:=by rw[Ri];exact Rl n2'
  dsimp only;rw[a1,a2];rfl
 have e1:km [((k:Int),bo r0)]=[(k:Int)]:=by unfold km;rw[Q7,hh];rfl
 refine⟨((k:Int),bo r0)::pre,post++[fQ k],e+1,by simp only[QC,QE],λx hx=>?_,λx hx=>?_,by lia,by lia,?_,?_,λd m hd=>?_,λd m hd=>?_⟩
 ·rcases P5.mp hx with rfl | z
  ·show(k:Int)≠n;lia
  ·exact h1 x z
 ·rcases Qk.mp hx with z | z
  ·exact h2 x z
  ·rw[Qd.mp z];show(k:Int)≠n;lia
 ·show km ([((k:Int),bo r0)]++pre)=_;rw[cB,e1,h5,lW hk];rfl
 ·rw[cB,Af,h6,QS,show k+1+c=k+(1+c) by lia]
 ·rw[runM,P7 n1',P7 n2',P7 (show ¬d=0 by lia),hop,P0 rfl,h7 (d+1) _ (by lia)];congr 2 <;> lia
 ·rw[cE,show d+(e+1)=(d+1)+e by lia,h8 (d+1) m (by lia)];show runM (d+1) _ [fQ k]=_;rw[runM,P7 (show ¬(fQ k).2=Str.ofString "or" from by show ¬Str.ofString "end"=Str.ofString "or";decide+kernel),P0 (show(fQ k).2=Str.ofString "end" from rfl),P7 (by lia)];show some _=some _;congr 2
  lia
def At(f:Nat)(x:Option (List Nat×Row))(r:Row):Prop:=(∃path,x=some (path,r))/\zE r/\(∀t∈af r,yA f t/\a8 t<=f)/\f<=8
theorem xQ{f N:Nat}(ih:∀(l:List Row)(k n:Nat),k<=n->n < k+aj l->a8 l<=f->yA f l->∃r f',Dec k (aj l) n (gX f k l) r f'/\∀a i,At f' (aN a i l)[n-k]? r):
  ∀(x:List (List Row)) (j k n:Nat),N < k->k<=n->n < k+(x.map aj).sum->(∀t∈x,a8 t<=f/\yA f t)->∃r f',Dec k (x.map aj).sum n (bz (gX f) N j k x) r f'/\∀p i,At f' (cO p i x)[n-k]? r
 | [],j,k,n,hN,h1,h2,_=>by simp at h2;lia
 | t::x,j,k,n,hN,h1,h2,hx=>by
  rw[Qc,QH] at h2 ⊢;have ho:Sg N k 0 (if j=0 then[] else[wA N]):=by
   by_cases z:j=0
   ·rw[P0 z];exact Sg.nil
   ·rw[P7 z];exact Sg.or N rfl
  obtain⟨t1,t2⟩:=hx t (.head _);have hr:=uR (g:=gX f) (N:=N) x (j+1) (k+aj t) λk u hu=>uS f u k N (hx u (.tail _ hu)).1 (hx u (.tail _ hu)).2;rw[bz]
  by_cases z:n < k+aj t
  ·obtain⟨r,f',D,hA⟩:=ih t k n h1 z t1 t2;have D1:=Dec.left (k0:=k) (c0:=0) D ho (by lia);rw[QL] at D1;refine⟨r,f',D1.right hr (by lia),λp i=>?_⟩;rw[cO,P8 (by rw[aF];lia)];exact hA _ _
  ·obtain⟨r,f',D,hA⟩:=xQ (N:=N) ih x (j+1) (k+aj t) n (by lia) (by lia) (by lia) λu hu=>hx u (.tail _ hu);have hs:=ho.app (uS f t k N t1 t2);rw[QL] at hs;refine⟨r,f',D.left hs (by lia),λp i=>?_⟩;rw[cO,Qa (by rw[aF];lia),aF,show n-k-aj t=n-(k+aj t) by lia];exact hA _ _
theorem Ej:∀(f:Nat),f<=8->∀(l:List Row)(k n:Nat),k<=n->n < k+aj l->a8 l<=f->yA f l->∃r f',Dec k (aj l) n (gX f k l) r f'/\∀a i,At f' (aN a i l)[n-k]? r
 | 0,_,l,k,n,_,_,hn,_=>by
  exfalso;cases l with
  | nil=>rw[a8] at hn;lia
  | cons r rs=>rw[a8] at hn;lia
 | f+1,_,[],k,n,h1,h2,_,_=>by simp[aj] at h2;lia
 | f+1,hf,r0::rs,k,n,h1,h2,hn,hs=>by
  have hc0:aj (r0::rs)=cnt r0+aj rs:=by simp[aj]
  have hn0:=fq (lot:=r0::rs) (r:=r0) (.head _);have hnr:a8 rs<=f+1:=by rw[a8] at hn;lia
  have hsr:yA (f+1) rs:=λr hr=>hs r (.tail _ hr);obtain⟨s1,s2⟩:=hs r0 (.head _);have hcl:=de r0;have hb:∀N,Sg N (k+cnt r0) (aj rs) (gX (f+1) (k+cnt r0) rs):=λN=>uS (f+1) rs (k+cnt r0) N hnr hsr;have hx:∀t∈af r0,a8 t<=f/\yA f t:=λt ht=>⟨by have:=fm ht;lia,s2 t ht⟩;rw[hc0] at h2 ⊢;show ∃r f',Dec k _ n (cz (gX f) k r0++gX (f+1) (k+cnt r0) rs) r f'/\_
  by_cases z:n=k
  ·subst z;refine⟨r0,f,Dec.self.right (hb (n+1)) (by lia),λa i=>?_⟩;rw[Rm,aN];exact⟨⟨_,rfl⟩,s1,λt ht=>⟨(hx t ht).2,(hx t ht).1⟩,by lia⟩
  ·by_cases z2:n < k+cnt r0
   ·obtain⟨r,f',D,hA⟩:=xQ (N:=k) (λl k n=>Ej f (by lia) l k n) (af r0) 0 (k+1) n (by lia) (by lia) (by lia) hx;have hl:af r0≠[]:=by intro e;rw[e] at hcl;simp at hcl;lia
    have D1:=D.wrap s1 hl (by lia);rw[<-hcl] at D1;refine⟨r,f',?_,λa i=>?_⟩
    ·rw[show cz (gX f) k r0=((k:Int),bo r0)::(bz (gX f) k 0 (k+1) (af r0)++[fQ k]) by rw[cz,P7 hl]];exact D1.right (hb (n+1)) (by lia)
    ·have hlen:(dW (a++[i]) r0).length=cnt r0-1:=by have:=iX (a++[i]) r0;lia
     rw[aN,show n-k=(n-(k+1))+1 by lia,Rf,P8 (by lia),nR];exact hA _ _
   ·obtain⟨r,f',D,hA⟩:=Ej (f+1) hf rs (k+cnt r0) n (by lia) (by lia) hnr hsr;have hs0:Sg (n+1) k (cnt r0) (cz (gX f) k r0):=(CC (g:=gX f) (k:=k) s1 λk' t ht=>uS f t k' k (hx t ht).1 (hx t ht).2).mono ⟨PZ _,by lia⟩;refine⟨r,f',D.left hs0 (by lia),λa i=>?_⟩;have hlen:(dW (a++[i]) r0).length=cnt r0-1:=by have:=iX (a++[i]) r0;lia
    rw[aN,show n-k=(n-(k+cnt r0))+(cnt r0-1)+1 by lia,Rf,Qa (by lia),hlen,show n-(k+cnt r0)+(cnt r0-1)-(cnt r0-1)=n-(k+cnt r0) by lia];exact hA _ _
theorem og(x:Str):km [iM x]=[]:=by
 unfold km;rw[Q7,show DY (iM x)=false by unfold DY iM;rw[QI (by show ¬(0:Int)<=-1;decide)];rfl];rfl
theorem r8(d:cf)(m:Nat)(L:List Ln):runM 0 m (iM (bT d)::L)=runM 1 m L:=by
 obtain⟨rest,e⟩:=n4 (Str.ofString "deed") (d.1::d.2.1) (by simp);have e':(bT d).cps.toList=(Str.ofString "deed").cps.toList++32::rest:=e;rw[show(Str.ofString "deed").cps.toList=[100,101,101,100] by decide+kernel] at e';have n1:bT d≠Str.ofString "or":=by intro z;rw[z,show(Str.ofString "or").cps.toList=[111,114] by decide+kernel] at e';cases e'
 have n2:bT d≠Str.ofString "end":=by intro z;rw[z,show(Str.ofString "end").cps.toList=[101,110,100] by decide+kernel] at e';cases e'
 obtain⟨q,hq⟩:=oE (x:=bT d) (w:=[100,101,101,100]) (by decide) (.inr e');have ho:kE (bT d)=true:=by unfold kE;rw[hq];show jl (JD [100,101,101,100])=true;decide+kernel
 rw[runM,P7 (show ¬(iM (bT d)).2=Str.ofString "or" from n1),P7 (show ¬(iM (bT d)).2=Str.ofString "end" from n2)];show runM (if kE (bT d)=true then 0+1 else 0) (if 0=0 then m else m+1) L=_;rw[ho];rfl
theorem vO(d m:Nat)(L:List Ln):runM (d+1) m (iM (Str.ofString "end")::L)=runM d m L:=by
 rw[runM,P7 (show ¬(iM (Str.ofString "end")).2=Str.ofString "or" from by show ¬Str.ofString "end"=Str.ofString "or";decide+kernel),P0 (show(iM (Str.ofString "end")).2=Str.ofString "end" from rfl),P7 (by lia)];rfl
def Nx(d:cf):Prop:=a8 d.2.2<=8/\yA 8 d.2.2
theorem ck(d:cf)(ds:List cf):aU (d::ds)=aj d.2.2+aU ds:=by simp[aU]
structure PQ(k c:Nat)(L:List Ln):Prop where
 nm:∀x∈L,x.1=-1\/((k:Int)<=x.1/\x.1 < k+c)
 hd:km L=tL k (k+c)
 rn:∀m,runM 0 m L=some (0,m+c)
theorem Ip:∀(ds:List cf)(k:Nat),(∀d∈ds,Nx d)->PQ k (aU ds) (bg 8 k ds)
 | [],k,_=>⟨λx h=>(nomatch h),by show _=tL k (k+0);rw[TN,ir];rfl,λm=>rfl⟩
 | d::ds,k,h=>by
  have a:=uS 8 d.2.2 k 0 (h d (.head _)).1 (h d (.head _)).2;have a':=λN=>uS 8 d.2.2 k N (h d (.head _)).1 (h d (.head _)).2;have b:=Ip ds (k+aj d.2.2) λd hd=>h d (.tail _ hd);rw[bg,ck];refine⟨λx hx=>?_,?_,λm=>?_⟩
  ·rcases P5.mp hx with rfl | hx
   ·exact .inl rfl
   ·rcases Qk.mp hx with z | z
    ·have:=(a' (k+aj d.2.2+1)).nm x z;have:=(a' (k+aj d.2.2+2)).nm x z
     lia
    ·rcases P5.mp z with rfl | z
     ·exact .inl rfl
     ·have:=b.nm x z;lia
  ·show km ([iM (bT d)]++(gX 8 k d.2.2++([iM (Str.ofString "end")]++bg 8 (k+aj d.2.2) ds)))=_;rw[cB,cB,cB,og,og,a.hd,b.hd,Q3,Q3,<-QN];exact iT (by lia) _ _ rfl (by lia)
  ·rw[r8,cE,a.rn 1 m (PZ _)];show runM (0+1) _ (iM _::_)=_;rw[vO,b.rn,QN]
def O3(k c n:Nat)(L:List Ln)(r:Row)(f:Nat):Prop:=∃(pre post:List Ln)(d:Nat),L=pre++(cz (gX f) n r++post)/\(∀x∈pre,x.1≠(n:Int))/\(∀x∈post,x.1≠(n:Int))/\n+cnt r<=k+c/\km pre=tL k n/\km post=tL (n+cnt r) (k+c)/\1<=d/\(∀m,runM 0 m pre=some (d,m+(n-k)))/\(∀m,runM d m post=some (0,m+(k+c-(n+cnt r))))
theorem Ht:∀(ds:List cf)(k n i:Nat),k<=n->n < k+aU ds->(∀d∈ds,Nx d)->∃r f,O3 k (aU ds) n (bg 8 k ds) r f/\(∃j path,(placesFrom i ds)[n-k]?=some (j,path,r))/\zE r/\(∀t∈af r,yA f t/\a8 t<=f)/\f<=8
 | [],k,n,i,h1,h2,_=>by simp[aU] at h2;lia
 | d::ds,k,n,i,h1,h2,h=>by
  have o:=h d (.head _);have b:=Ip ds (k+aj d.2.2) λd hd=>h d (.tail _ hd);rw[ck] at h2 ⊢;rw[bg]
  by_cases z:n < k+aj d.2.2
  ·obtain⟨r,f,⟨pre,post,e,hL,g1,g2,g3,g4,g5,g6,g7,g8⟩,hA⟩:=Ej 8 (PZ _) d.2.2 k n h1 z o.1 o.2;have hp:=cnt_pos' r;obtain⟨⟨path,hpath⟩,s1,s2⟩:=hA [] 0;refine⟨r,f,⟨iM (bT d)::pre,post++(iM (Str.ofString "end")::bg 8 (k+aj d.2.2) ds),1+e,by rw[hL];simp only[QC,QE],λx hx=>?_,λx hx=>?_,by lia,?_,?_,by lia,λm=>?_,λm=>?_⟩,⟨i,path,?_⟩,s1,s2⟩
   ·rcases P5.mp hx with rfl | hx
    ·show(-1:Int)≠n;lia
    ·exact g1 x hx
   ·rcases Qk.mp hx with y | y
    ·exact g2 x y
    ·rcases P5.mp y with rfl | y
     ·show(-1:Int)≠n;lia
     ·have:=b.nm x y;lia
   ·show km ([iM (bT d)]++pre)=_;rw[cB,og,g5];rfl
   ·show km (post++([iM (Str.ofString "end")]++bg 8 (k+aj d.2.2) ds))=_;rw[cB,cB,og,g6,b.hd,Q3,<-QN k];exact iT (by lia) _ _ rfl (by lia)
   ·rw[r8,g7 1 m (PZ _)]
   ·rw[cE,g8 1 m (PZ _)];show runM (0+1) _ (iM _::_)=_;rw[vO,b.rn];congr 2
    lia
   ·rw[placesFrom,P8 (by rw[PU,aF];lia),Qg,hpath];rfl
  ·obtain⟨r,f,⟨pre,post,e,hL,g1,g2,g3,g4,g5,g6,g7,g8⟩,⟨j,path,hpath⟩,s1,s2⟩:=Ht ds (k+aj d.2.2) n (i+1) (by lia) (by lia) λd hd=>h d (.tail _ hd);have a:=uS 8 d.2.2 k (n+1) o.1 o.2;have a':=uS 8 d.2.2 k (n+2) o.1 o.2;refine⟨r,f,⟨iM (bT d)::(gX 8 k d.2.2++(iM (Str.ofString "end")::pre)),post,e,by rw[hL];simp only[QC,QE],λx hx=>?_,g2,by lia,?_,?_,g6,λm=>?_,λm=>?_⟩,⟨j,path,?_⟩,s1,s2⟩
   ·rcases P5.mp hx with rfl | hx
    ·show(-1:Int)≠n;lia
    ·rcases Qk.mp hx with y | y
     ·have:=a.nm x y;have:=a'.nm x y;lia
     ·rcases P5.mp y with rfl | y
      ·show(-1:Int)≠n;lia
      ·exact g1 x y
   ·show km ([iM (bT d)]++(gX 8 k d.2.2++([iM (Str.ofString "end")]++pre)))=_;rw[cB,cB,cB,og,og,a.hd,g4,Q3,Q3];exact iT (by lia) _ _ rfl (by lia)
   ·rw[g5,QN]
   ·rw[r8,cE,a.rn 1 m (PZ _)];show runM (0+1) _ (iM _::_)=_;rw[vO,g7];congr 2
    lia
   ·rw[g8];congr 2
    lia
   ·rw[placesFrom,Qa (by rw[PU,aF];lia),PU,aF,show n-k-aj d.2.2=n-(k+aj d.2.2) by lia];exact hpath
end Pg
namespace Sm
open PySem L2
theorem uh{α:Type}{c:TM}{e:EM}{h:MH}{t:DS}(A B f:α->D)(p:α->Bool):∀(xs:List α)(o o2:Option D),(∀x∈xs,c (some (A x)::some (B x)::t) h=some (p x,h))->(∀x∈xs,p x=true->e (some (A x)::some (B x)::t) h=some (f x,h))->bC [] g2 c e (xs.map λx=>.tup [A x,B x]) (o::o2::t) h=some ((xs.filter p).map f,h)
 | [],o,o2,_,_=>rfl
 | x::r,o,o2,hc,he=>by
  have e2:=uh A B f p r (some (A x)) (some (B x)) (λy hy=>hc y (P4 _ hy)) λy hy=>he y (P4 _ hy);show((c (some (A x)::some (B x)::t) h).bind λq=>if q.1=true then(e (some (A x)::some (B x)::t) q.2).bind λy=>(bC [] g2 c e (r.map λx=>.tup [A x,B x]) (some (A x)::some (B x)::t) y.2).map λz=>(y.1::z.1,z.2) else bC [] g2 c e (r.map λx=>.tup [A x,B x]) (some (A x)::some (B x)::t) q.2)=_;rw[hc x P1];dsimp only[Option.bind_some]
  by_cases z:p x=true
  ·rw[P0 z,he x P1 z];dsimp only[Option.bind_some];rw[e2,Q7,P0 z];rfl
  ·rw[P7 z,e2,Q7,P7 z]
theorem zq{α:Type}{caps:List (Option Nat)}{ei e:EM}{c:TM}{δ t:DS}{o o2:Option D}{h:MH}{d:D}{xs:List α}(A B f:α->D)(p:α->Bool)(hi:ei δ h=some (d,h))(hs:dH d h=some (xs.map λx=>.tup [A x,B x],[]))(hc:gP caps δ=o::o2::t)(hl:xs.length<=100000)(ht:∀x∈xs,c (some (A x)::some (B x)::t) h=some (p x,h))(he:∀x∈xs,p x=true->e (some (A x)::some (B x)::t) h=some (f x,h)):
  bW caps (dI ei) g2 c e δ h=some ((xs.filter p).map f,h):=by
 unfold bW dI;rw[hi];dsimp only[Option.bind_some];rw[hs];dsimp only[Option.map_some,Option.bind_some];rw[hc,uh A B f p xs o o2 ht he];dsimp only[Option.bind_some];rw[P0 (by have:=Sy p xs;rw[PU,show sizeLine=16777216 from rfl];lia)]
end Sm
namespace Mi
open PySem Sm L2 Pg
end Mi
namespace Pg
open PySem Sm L2
end Pg
namespace Mi
open PySem Sm L2 Pg
theorem Fq{L pre post:List Ln}{n:Nat}{r:Row}(hr:zE r)(hL:L=pre++(((n:Int),bo r)::post))(hp:∀x∈pre,x.1≠(n:Int))(hl:L.length<=10000)(h:MH):fK [.lv (L.map jH),.int (n:Int)] h=some (.str (bQ r),h):=by
 have hf:L.filter (λx=>x.1==(n:Int))=((n:Int),bo r)::post.filter (λx=>x.1==(n:Int)):=by
  rw[hL,UY,List.filter_eq_nil_iff.mpr (λx hx=>by simpa using hp x hx),Q3,Q7,P0 (by simp)]
 have e1:bW [none,none,some 1] (dI (aw 0)) g2 (aD (ao cP (aw 0) (aw 2))) (aw 1) (entry 2 [.lv (L.map jH),.int (n:Int)]) h=some (((L.filter (λx=>x.1==(n:Int))).map λx=>.str x.2),h):=
  zq (o:=none) (o2:=none) (t:=[some (.int (n:Int))]) (λx:Ln=>.int x.1) (λx=>.str x.2) (λx=>.str x.2) (λx=>x.1==(n:Int)) (d:=.lv (L.map jH)) rfl rfl rfl (by lia) (λx _=>rfl) λx _ _=>rfl
 obtain⟨q,hq⟩:=ll r hr;refine bM (bU (xb (nO (gA (nO (ve (rv e1 ?_)))))));rw[hf,Qc];nofun;refine rv (show aW (.lv ((((n:Int),bo r)::post.filter (λx=>x.1==(n:Int))).map λx=>D.str x.2)) (.int ((0:Nat):Int)) _=_ from bS (x:=((n:Int),bo r)) rfl) ⟨rfl,?_⟩;nofun;refine rv (qB ((xF hr).up (by decide))) ?_;rw[hq];nofun;refine rv (show aW (.lv ((bQ r::q).map D.str)) (.int ((0:Nat):Int)) _=_ from bS (x:=bQ r) rfl) ?_;nofun
theorem CV{a:SM}{b:XM}{δ:DS}{h:MH}{Q:Str×MH->Prop}(r:Rn (a δ h) λp=>p.1=.nx/\Rn (b p.2.1 p.2.2) Q):Rn (wG a b δ h) Q:=a9 (r.imp λp ⟨e,q⟩=>by
 obtain⟨f,δ',h'⟩:=p;obtain rfl:f=.nx:=e;exact q)
theorem G9{t:TM}{a b:XM}{δ:DS}{h:MH}{Q:Str×MH->Prop}(r:Rn (t δ h) λp=>(p.1=true->Rn (a δ p.2) Q)/\(p.1=false->Rn (b δ p.2) Q)):Rn (HM t a b δ h) Q:=a9 (r.imp λp ⟨q1,q2⟩=>by
 obtain⟨c,h⟩:=p;cases c with
 | true=>exact q1 rfl
 | false=>exact q2 rfl)
theorem Ha{f:Xn}{m:AM}{δ:DS}{h:MH}{Q:Str×MH->Prop}(r:Rn (m δ h) λp=>Rn (f p.1 p.2) Q):Rn (K6 f m δ h) Q:=a9 r
theorem w9{c:Str}{m:AM}{δ:DS}{h:MH}{Q:Str×MH->Prop}(r:Rn (m δ h) λp=>Q (c,p.2)):Rn (ny c m δ h) Q:=CM r
theorem IJ{a b:XM}{δ:DS}{h:MH}{Q:Str×MH->Prop}(r:Rn (a δ h) Q):Rn (E5 a b δ h) Q:=by
 obtain⟨p,e,q⟩:=r;exact⟨p,by unfold E5;rw[e],q⟩
theorem II{a b:XM}{δ:DS}{h:MH}{Q:Str×MH->Prop}(n:a δ h=none)(r:Rn (b δ h) Q):Rn (E5 a b δ h) Q:=by
 obtain⟨p,e,q⟩:=r;exact⟨p,by unfold E5;rw[n];exact e,q⟩
theorem LU{len:Nat}{b:XM}{ds:List D}{h:MH}{Q:Str×MH->Prop}(r:Rn (b (entry len ds) h) Q):Rn (Mn len b ds h) Q:=r
theorem Ck(h:MH):Cm ye "NoRow" h=some (.str "NoRow",h):=by
 have hx:(h++[MO.exc "NoRow"])[h.length]?=some (.exc "NoRow"):=by rw[Qa (PZ _),Rm];rfl
 have ei:∀(n:Str)(b:Bool)(δ:DS),decide (n∈(["NoRow","StuckError","ValueError"]:List Str))=b->δ[1]?=some (some (.ob h.length))->ot gz n (aw 1) δ (h++[MO.exc "NoRow"])=some (.bl b,h++[MO.exc "NoRow"]):=λn b δ hb hd=>by
  have e1:aw 1 δ (h++[MO.exc "NoRow"])=some (.ob h.length,h++[MO.exc "NoRow"]):=by unfold aw;rw[hd];rfl
  subst hb;unfold ot;rw[e1];show(match (h++[MO.exc "NoRow"])[h.length]? with | some (.exc c)=>(gz.lookup c).map λas=>(D.bl (decide (n∈as)),h++[MO.exc "NoRow"]) | _=>none)=_;rw[hx];have:gz.lookup ("NoRow":Str)=some (["NoRow","StuckError","ValueError"]:List Str):=by ac_nf
  show(gz.lookup ("NoRow":Str)).map _=_;rw[this];rfl
 have e:(ye [none,some (.ob h.length),none,none] (h++[.exc "NoRow"])).bind wY=some (.str "NoRow",h++[.exc "NoRow"]):=by
  refine bM (a9 ?_);unfold ye;refine fU (xa (Hb (iW (nO (gi rfl (He (rv rfl ⟨false,rfl,⟨λz=>(nomatch z),λ_=>?_⟩⟩)))))));refine qY (CW (rv (ei "ValueError" true _ (by decide+kernel) rfl) ⟨true,rfl,⟨λz=>(nomatch z),λ_=>rv rfl (qt ?_)⟩⟩));refine fU (rv (a:=(.nx,[none,some (.ob h.length),none,some (.lv [.bl true,.bl false,.bl false])],h++[.exc "NoRow"])) (bM (zN (ve (cV (rv (ei "NoRow" true _ (by decide+kernel) rfl) (cV (rv (ei "NoLock" false _ (by decide+kernel) rfl) (cV (rv (ei "NoText" false _ (by decide+kernel) rfl) (kB rfl)))))))))) (qt ?_));refine fU (rv (a:=(.nx,[none,some (.ob h.length),none,some (.lv [.bl true,.bl false,.bl false,.bl false,.bl false])],h++[.exc "NoRow"])) (bM (zN (nO (gi rfl (ve (cV (rv (ei "NoLine" false _ (by decide+kernel) rfl) (cV (rv (ei "NoStep" false _ (by decide+kernel) rfl) (kB (rv rfl rfl))))))))))) (qt ?_));refine rv (a:=(.rt (.str "NoRow"),[none,some (.ob h.length),none,some (.lv [.bl true,.bl false,.bl false,.bl false,.bl false])],h++[.exc "NoRow"])) (by ac_nf) ?_;exact rv rfl rfl
 unfold Cm;rw[e];exact nZ (λn=>by simp) rfl
theorem BG{caps:List (Option Nat)}{x:XM}{m:EM}{δ:DS}{h:MH}(e:x (gP caps δ) h=some (("NoRow":Str),h)):iF xU caps ye x m δ h=some (.str "NoRow",h):=by
 unfold iF;rw[e];show(if("NoRow":Str)∈xU then _ else _)=_;rw[P0 (by decide+kernel)];exact Ck h
theorem Ff{P:Prog}(hP:E2 P){z:Int}(hz:z < 0\/((placesFrom 0 P.ai).length:Int)<=z)(h:MH):fA [bp P,.int z] h=some (("NoRow":Str),h):=by
 refine bM (LU (CV ?_));nofun;refine rv (jB hP h) ⟨rfl,?_⟩;have hc:∃b,jJ K9 BP (eK (D.int 0)) (aw 1) (ay dE (ah (aw 2) aR)) (List.set (entry 3 [bp P,D.int z]) 2 (some (D.lv ((placesFrom 0 P.ai).map gm)))) h=some (.bl b,h)/\b=false:=by
  refine⟨false,bM (xc (rv rfl (rv (a:=(.int z,h)) rfl (rv rfl ⟨_,rfl,?_⟩)))),rfl⟩
  by_cases z0:0<=z
  ·rw[P0 (Qx z0)];refine rv (a:=(.int ((placesFrom 0 P.ai).map gm).length,h)) rfl (rv rfl ?_);rw[PU];show(D.bl (decide (z < (placesFrom 0 P.ai).length)),h)=_;rw[QI (by rcases hz with y | y <;> lia)]
  ·rw[P7 (by simpa using z0)]
 obtain⟨b,hc,rfl⟩:=hc;exact G9 (qY (iW (rv hc ⟨false,rfl,⟨λ_=>w9 (cV (He (kB rfl))),λy=>(nomatch y)⟩⟩)))
noncomputable def flat(st:List (Nat×Nat)):List Nat:=st.flatMap λs=>[s.1,s.2]
noncomputable def FQ(st:List (Nat×Nat))(k:Nat):D:=fV (flat st++[k])
noncomputable def JZ(l:List Row)(s:Nat×Nat):Option (List Row):=(l[s.1]?).bind λr=>(af r)[s.2]?
noncomputable def gK(rows:List Row):List (Nat×Nat)->Option (List Row)
 | []=>some rows
 | s::r=>(JZ rows s).bind λl=>gK l r
theorem rR{xs:List D}{i:Nat}{d:D}{h:MH}(e:xs[i]?=some d):aW (.tup xs) (.int (i:Int)) h=some (d,h):=by
 have q:g9 xs (i:Int)=some d:=qf e;simp only[aW,eC,dH,Qv,q,QF]
theorem rT{p:List Nat}{i x:Nat}{h:MH}(e:p[i]?=some x):aW (fV p) (.int (i:Int)) h=some (aZ x,h):=
 rR (by rw[Qg,e];rfl)
theorem GD{l:List Row}{i:Nat}{r:Row}{h:MH}(e:l[i]?=some r):aW (cI l) (aZ i) h=some (az r,h):=
 rR (by rw[bK,Qg,e];rfl)
theorem zw{a:SM}{b:XM}{δ δ':DS}{h h':MH}(e:a δ h=some (.nx,δ',h')):wG a b δ h=b δ' h':=by unfold wG;rw[e];rfl
theorem B5{t:TM}{a b:XM}{δ:DS}{h h':MH}{c:Bool}(e:t δ h=some (c,h')):HM t a b δ h=if c=true then a δ h' else b δ h':=by unfold HM;rw[e];rfl
section
variable {P:Prog} {n j:Nat} {path:List Nat} {r:Row} {h:MH}
theorem xX(hn:(placesFrom 0 P.ai)[n]?=some (j,path,r))(h:MH):jJ K9 BP (eK (D.int 0)) (aw 1) (ay dE (ah (aw 2) aR)) (List.set (entry 3 [bp P,D.int (n:Int)]) 2 (some (D.lv ((placesFrom 0 P.ai).map gm)))) h=some (.bl true,h):=by
 have hlt:n < (placesFrom 0 P.ai).length:=(PV.mp hn).1;refine bM (xc (rv rfl (rv (a:=(.int (n:Int),h)) rfl (rv rfl ⟨_,rfl,?_⟩))));rw[P0 (Qx (show(0:Int)<=n by lia))];refine rv (a:=(.int ((placesFrom 0 P.ai).map gm).length,h)) rfl (rv rfl ?_);rw[PU];show(D.bl (decide ((n:Int) < (placesFrom 0 P.ai).length)),h)=_;rw[Qx (show(n:Int) < (placesFrom 0 P.ai).length by lia)]
theorem xh(hP:E2 P)(hn:(placesFrom 0 P.ai)[n]?=some (j,path,r))(h:MH):fC [bp P,.int (n:Int)] h=some (.tup [aZ j,fV path,az r],h):=by
 refine bM (bU ?_);nofun;refine rv (jB hP h) ?_;refine qt (fU (xa (qY (iW (rv (xX hn h) ⟨true,rfl,?_⟩)))));refine⟨λz=>(nomatch z),λ_=>?_⟩;nofun;refine rv (bS hn) ?_;nofun;rfl
theorem qj(hP:E2 P)(hn:(placesFrom 0 P.ai)[n]?=some (j,path,r))(h:MH):fA [bp P,.int (n:Int)] h=none:=by
 have e1:aQ 2 (ay eh (ah (aw 0) aR)) (entry 3 [bp P,.int (n:Int)]) h=some (.nx,List.set (entry 3 [bp P,D.int (n:Int)]) 2 (some (D.lv ((placesFrom 0 P.ai).map gm))),h):=by
  refine bM ?_;nofun;refine rv (jB hP h) ?_;rfl
 unfold fA Mn;rw[show([bp P,D.int (n:Int)]:List D)=[bp P,.int (n:Int)] from rfl];rw[zw e1];have e2:Sm.uJ (aD (jJ K9 BP (eK (.int 0)) (aw 1) (ay dE (ah (aw 2) aR)))) (List.set (entry 3 [bp P,D.int (n:Int)]) 2 (some (D.lv ((placesFrom 0 P.ai).map gm)))) h=some (false,h):=bM (qY (iW (rv (xX hn h) ⟨true,rfl,rfl⟩)));rw[B5 e2];rfl
end
end Mi
namespace Pg
open PySem Sm L2
noncomputable def cT:Row->Nat->List Row->Row
 | .within l _,0,x=>.within l x
 | .all l _,0,x=>.all l x
 | .ask l _ e,0,x=>.ask l x e
 | .ask l b _,1,x=>.ask l b x
 | .gQ s t _ b c,0,x=>.gQ s t x b c
 | .gQ s t a _ c,1,x=>.gQ s t a x c
 | .gQ s t a b _,2,x=>.gQ s t a b x
 | .either _ b,0,x=>.either x b
 | .either a _,1,x=>.either a x
 | .again _,0,x=>.again x
 | r,_,_=>r
end Pg
namespace Mi
open PySem Sm L2 Pg
noncomputable def putAt(k:Nat)(x:List Row):List (Nat×Nat)->List Row->List Row
 | [],l=>l.take k++x++l.drop (k+1)
 | s::st,l=>match l[s.1]? with
  | some r=>match (af r)[s.2]? with
   | some t=>l.take s.1++[cT r s.2 (putAt k x st t)]++l.drop (s.1+1)
   | none=>l
  | none=>l
theorem G6{xs:List D}{k:Nat}{h:MH}(hk:k<=xs.length):i8 (.tup xs) none (some (k:Int)) h=some (.tup (xs.take k),h):=by
 unfold i8 cutD;dsimp only;rw[HT.lV,HT.pT,Ry hk,Ts,TJ]
 split
 ·rename_i z;rw[RL (UD z.2.symm)]
 ·rfl
theorem uQ{xs:List D}{k:Nat}{h:MH}(hk:k<=xs.length):i8 (.tup xs) (some (k:Int)) none h=some (.tup (xs.drop k),h):=by
 unfold i8 cutD;dsimp only;rw[HT.lV,HT.pT,Ry hk]
 split
 ·rename_i z;rw[z.1,Ts]
 ·rw[RL (by rw[RH];exact PZ _)]
theorem FD{r:Row}{j:Nat}{t:List Row}(e:(af r)[j]?=some t)(x:List Row):∃(a q:Int)(A B:List D),fg.lookup (bQ r)=some [a,q]/\
  (∀h,i8 (az r) none (some (a+(j:Int))) h=some (.tup A,h))/\(∀h,aW (az r) (.int (a+(j:Int))) h=some (cI t,h))/\(∀h,i8 (az r) (some (a+(j:Int)+1)) none h=some (.tup B,h))/\az (cT r j x)=.tup (A++[cI x]++B)/\A.length<=10/\B.length<=10:=by
 cases r with
 | say w=>cases e
 | call d ts=>cases e
 | within l b=>match j,e with | 0,e=>cases e;exact⟨2,1,[.str "within",aL l],[],by ac_nf,λh=>by rw[az];rfl,λh=>by rw[az];rfl,λh=>by rw[az];rfl,by rw[cT,az];rfl,by show 2<=10;decide,by decide⟩
 | all l b=>match j,e with | 0,e=>cases e;exact⟨2,1,[.str "all",.tup (l.map aL)],[],by ac_nf,λh=>by rw[az];rfl,λh=>by rw[az];rfl,λh=>by rw[az];rfl,by rw[cT,az];rfl,by show 2<=10;decide,by decide⟩
 | ask l b c=>match j,e with
  | 0,e=>cases e;exact⟨2,2,[.str "ask",aL l],[cI c],by ac_nf,λh=>by rw[az];rfl,λh=>by rw[az];rfl,λh=>by rw[az];rfl,by rw[cT,az];rfl,by show 2<=10;decide,by show 1<=10;decide⟩
  | 1,e=>cases e;exact⟨2,2,[.str "ask",aL l,cI b],[],by ac_nf,λh=>by rw[az];rfl,λh=>by rw[az];rfl,λh=>by rw[az];rfl,by rw[cT,az];rfl,by show 3<=10;decide,by decide⟩
 | gQ s u a b c=>match j,e with
  | 0,e=>cases e;exact⟨3,3,[.str "by",br s,br u],[cI b,cI c],by ac_nf,λh=>by rw[az];rfl,λh=>by rw[az];rfl,λh=>by rw[az];rfl,by rw[cT,az];rfl,by show 3<=10;decide,by show 2<=10;decide⟩
  | 1,e=>cases e;exact⟨3,3,[.str "by",br s,br u,cI a],[cI c],by ac_nf,λh=>by rw[az];rfl,λh=>by rw[az];rfl,λh=>by rw[az];rfl,by rw[cT,az];rfl,by show 4<=10;decide,by show 1<=10;decide⟩
  | 2,e=>cases e;exact⟨3,3,[.str "by",br s,br u,cI a,cI b],[],by ac_nf,λh=>by rw[az];rfl,λh=>by rw[az];rfl,λh=>by rw[az];rfl,by rw[cT,az];rfl,by show 5<=10;decide,by decide⟩
 | either a b=>match j,e with
  | 0,e=>cases e;exact⟨1,2,[.str "either"],[cI b],by ac_nf,λh=>by rw[az];rfl,λh=>by rw[az];rfl,λh=>by rw[az];rfl,by rw[cT,az];rfl,by decide,by show 1<=10;decide⟩
  | 1,e=>cases e;exact⟨1,2,[.str "either",cI a],[],by ac_nf,λh=>by rw[az];rfl,λh=>by rw[az];rfl,λh=>by rw[az];rfl,by rw[cT,az];rfl,by show 2<=10;decide,by decide⟩
 | again a=>match j,e with | 0,e=>cases e;exact⟨1,1,[.str "again"],[],by ac_nf,λh=>by rw[az];rfl,λh=>by rw[az];rfl,λh=>by rw[az];rfl,by rw[cT,az];rfl,by decide,by decide⟩
theorem rG{a:Nat}:∀{xs:List Nat},a∈xs->a<=xs.sum
 | x::r,h=>by
  rw[QH];rcases P5.mp h with rfl | h
  ·exact Qr _ _
  ·exact P6 (rG h) (Nat.le_add_left _ _)
theorem xT{l:List Row}{i j:Nat}{r:Row}{t:List Row}(e1:l[i]?=some r)(e2:(af r)[j]?=some t):aj t<=aj l:=by
 have h1:=mU l (i+1);rw[(um e1).1] at h1;have h2:=de r;have h3:aj t<=((af r).map aj).sum:=rG (Tx (PX e2))
 lia
theorem mJ(l:List Row):(cx l).length=l.length:=by rw[bK,PU]
theorem xj{p:List Nat}{h:MH}:dE [fV p] h=some (.int (p.length:Int),h):=by
 show some (D.int ((p.map aZ).length:Int),h)=_;rw[PU]
theorem DN{l:List Row}{k:Nat}{h:MH}(hk:k<=l.length):i8 (cI l) none (some (k:Int)) h=some (cI (l.take k),h):=by
 unfold cI;rw[G6 (by rw[mJ];exact hk),bK,bK,TF]
theorem xw{l:List Row}{k:Nat}{h:MH}(hk:k<=l.length):i8 (cI l) (some (k:Int)) none h=some (cI (l.drop k),h):=by
 unfold cI;rw[uQ (by rw[mJ];exact hk),bK,bK,Um]
theorem pZ{a b:List Row}{h:MH}(hl:a.length+b.length<=10000):ax (cI a) (cI b) h=some (cI (a++b),h):=by
 unfold cI;rw[rW (by rw[mJ,mJ];exact hl),bK,bK,bK,Ql]
theorem yK{a b:Nat}{p:List Nat}{h:MH}:i8 (fV (a::b::p)) (some 2) none h=some (fV p,h):=uQ (xs:=aZ a::aZ b::p.map aZ) (k:=2) (by simp)
theorem kF{k:Nat}{x:List Row}(hx:x.length<=1000):∀(st:List (Nat×Nat)) (f:Nat) (l lot:List Row) (h:MH),gK l st=some lot->st.length < f->k < lot.length->aj l<=1000->eg f [cI l,FQ st k,cI x] h=some (cI (putAt k x st l),h)
 | [],f,l,lot,h,e,hf,hk,hc=>by
  cases e;cases f with
  | zero=>exact absurd hf (Nat.not_lt_zero _)
  | succ f=>
  have hl:=sh l;rw[eg];refine bM (bU ?_);nofun;refine rv (rT (p:=flat []++[k]) (i:=0) rfl) ?_;nofun;refine rv (xj (p:=flat []++[k])) ?_;nofun;refine⟨false,rfl,λz=>(nomatch z),λ_=>?_⟩;nofun;refine⟨_,rfl,rv (DN (RK hk)) ?_⟩;nofun;refine rv (pZ (by rw[Qj];lia)) ?_;nofun;refine rv (a:=(.int ((k+1:Nat):Int),h)) rfl ?_;nofun;refine⟨_,rfl,rv rfl (rv (xw hk) ?_)⟩;nofun;refine rv (pZ (by rw[Qb,Qj,RH];lia)) ?_;nofun;rfl
 | s::st,f,l,lot,h,e,hf,hk,hc=>by
  obtain⟨t,e1,e2⟩:=bA e;obtain⟨r,e3,e4⟩:=bA e1;cases f with
  | zero=>exact absurd hf (Nat.not_lt_zero _)
  | succ f=>
  have hl:=sh l;have ht:=xT e3 e4;have hi:s.1 < l.length:=(PV.mp e3).1;have ih:=kF hx st f t lot h e2 (Nat.lt_of_succ_lt_succ hf) hk (P6 ht hc);have hput:putAt k x (s::st) l=l.take s.1++[cT r s.2 (putAt k x st t)]++l.drop (s.1+1):=by
   simp only[putAt,e3,e4]
  obtain⟨a,q,A,B,p1,p2,p3,p4,p5,p6,p7⟩:=FD e4 (putAt k x st t);rw[eg,hput];refine bM (bU ?_);nofun;refine rv (rT (p:=s.1::s.2::(flat st++[k])) (i:=0) rfl) ?_;nofun;refine rv (xj (p:=s.1::s.2::(flat st++[k]))) ?_;nofun;refine⟨true,?_,λ_=>?_,λz=>(nomatch z)⟩
  ·show D.bl (decide ((1:Int) < ((s.1::s.2::(flat st++[k])).length:Int)))=_;rw[Qx (by simp only[P2];lia)]
  nofun;refine rv (GD e3) ?_;nofun;refine rv (jV r h) ?_;nofun;refine rv (a:=(.tup [.int a,.int q],h)) (by show(fg.lookup (bQ r)).map _=_;rw[p1];rfl) ?_;nofun;refine rv (rT (p:=s.1::s.2::(flat st++[k])) (i:=1) rfl) ?_;nofun;refine rv (a:=(.int (a+(s.2:Int)),h)) rfl ?_;nofun;refine⟨_,rfl,rv (p2 h) ?_⟩;nofun;refine rv (p3 h) ?_;nofun;refine⟨_,rfl,rv rfl (rv (yK (p:=flat st++[k])) ?_)⟩;nofun;refine rv ih ?_;nofun;refine rv (rW (xs:=A) (ys:=[cI (putAt k x st t)]) (by simp;lia)) ?_;nofun;refine⟨_,rfl,rv rfl (rv (p4 h) ?_)⟩;nofun;refine rv (rW (xs:=A++[cI (putAt k x st t)]) (ys:=B) (by simp;lia)) ?_;nofun;rw[show D.tup [D.tup (A++[cI (putAt k x st t)]++B)]=cI [cT r s.2 (putAt k x st t)] by rw[<-p5];unfold cI;rw[bK];rfl];refine⟨_,rfl,rv (DN (RK hi)) ?_⟩;nofun;refine rv (pZ (b:=[cT r s.2 (putAt k x st t)]) (by rw[Qj];simp;lia)) ?_;nofun;refine rv (a:=(.int ((s.1+1:Nat):Int),h)) rfl ?_;nofun;refine⟨_,rfl,rv rfl (rv (xw hi) ?_)⟩;nofun;refine rv (pZ (by rw[Qb,Qj,RH];simp;lia)) ?_;nofun
noncomputable def IY(P:Prog)(j k:Nat)(x:List Row)(st:List (Nat×Nat))(d:cf):Prog:={P with ai:=P.ai.take j++[(d.1,d.2.1,putAt k x st d.2.2)]++P.ai.drop (j+1)}
theorem gH{P:Prog}{j k:Nat}{x lot:List Row}{st:List (Nat×Nat)}{d:cf}(hx:x.length<=1000)(hd:P.ai[j]?=some d)(hl:gK d.2.2 st=some lot)(hst:st.length < 6)(hk:k < lot.length)(hc:aj d.2.2<=1000)(hP:P.ai.length<=1000)(h:MH):
  dg [bp P,aZ j,FQ st k,cI x] h=some (bp (IY P j k x st d),h):=by
 have hj:j < P.ai.length:=(PV.mp hd).1;have e1:bp P=.tup [.tup (P.names.map D.str),.tup (P.ai.map fe)]:=rfl;have s1:i8 (.tup (P.ai.map fe)) none (some (j:Int)) h=some (.tup ((P.ai.take j).map fe),h):=by rw[G6 (by rw[PU];lia),TF]
 have s2:i8 (.tup (P.ai.map fe)) (some ((j+1:Nat):Int)) none h=some (.tup ((P.ai.drop (j+1)).map fe),h):=by rw[uQ (by rw[PU];lia),Um]
 refine bM (bU ?_);rw[e1];nofun;refine rv (a:=(.tup [.str d.1,.tup (d.2.1.map D.str),cI d.2.2],h)) (rR (i:=j) (by rw[Qg,hd];rfl)) ?_;nofun;refine⟨_,rfl,rv s1 ?_⟩;nofun;refine rv (kF hx st 6 d.2.2 lot h hl hst hk hc) ?_;nofun;refine rv (rW (ys:=[.tup [.str d.1,.tup (d.2.1.map D.str),cI (putAt k x st d.2.2)]]) (by simp;lia)) ?_;nofun;refine rv (a:=(.int ((j+1:Nat):Int),h)) rfl ?_;nofun;refine⟨_,rfl,rv rfl (rv s2 ?_)⟩;nofun;refine rv (rW (by simp;lia)) ?_;nofun;show(D.tup [D.tup (P.names.map D.str),D.tup _],h)=(D.tup [D.tup (P.names.map D.str),D.tup ((P.ai.take j++[(d.1,d.2.1,putAt k x st d.2.2)]++P.ai.drop (j+1)).map fe)],h);rw[Ql,Ql];rfl
end Mi
namespace Pg
open PySem Sm L2
theorem iO{w:Str}(h:1<=w.length/\w.length<=7/\Mi.low w):Sh 8 w:=⟨by lia,Mi.JJ h.2.2⟩
section
variable {W:Wd} {fl:List Int} {odd:Int} {ps:List Str}
theorem pR(hp:∀w∈ps,Sh 8 w){t:Term}(h:dD ps t):Io t:=by
 refine⟨?_,h.2.1,h.2.2⟩;rcases h.1 with e | e
 ·rw[e];exact⟨by decide+kernel,by decide+kernel⟩
 ·exact hp _ e
theorem vE(ok:Mi.ly W fl odd)(hp:∀w∈ps,Sh 8 w){l:Lock}(h:dX W ps l):K8 l:=⟨iO (ok.sn _ h.1),pR hp h.2⟩
theorem ID(ok:Mi.ly W fl odd)(hp:∀w∈ps,Sh 8 w){n:Nat}{r:Row}(h:aJ W ps n r):zE r/\∀t∈af r,bt W ps (n+1) t:=by
 cases r with
 | say w=>
  rw[aJ] at h;refine⟨?_,λt ht=>(nomatch ht)⟩;rcases Qk.mp h with z | z
  ·exact iO (ok.sn _ z)
  ·exact iO (ok.sd _ z)
 | call d ts=>
  rw[aJ] at h;obtain⟨⟨j,qs,e1,e2,e3⟩,ht⟩:=h;refine⟨⟨iO (ok.sd _ (PX e1)),by rw[e3];exact ok.p3 qs (PX e2),λt h=>pR hp (ht t h)⟩,λt ht=>(nomatch ht)⟩
 | within l b=>rw[aJ] at h;exact⟨vE ok hp h.1,λt ht=>by rw[Qd.mp ht];exact h.2.2.2⟩
 | all ls b=>
  rw[aJ] at h;exact⟨⟨h.1.2.1,λl hl=>vE ok hp (h.1.2.2.2 l hl),by intro e;have:=h.1.1;rw[e] at this;simp at this⟩,λt ht=>by rw[Qd.mp ht];exact h.2.2.2⟩
 | ask l b e=>
  rw[aJ] at h;refine⟨vE ok hp h.1,λt ht=>?_⟩;rcases P5.mp ht with rfl | ht
  ·exact h.2.2.2.2.1
  ·rw[Qd.mp ht];exact h.2.2.2.2.2
 | gQ s t a b c=>
  rw[aJ] at h;obtain⟨h1,h2,_,_,_,_,h3,h4,h5⟩:=h;refine⟨⟨pR hp h1,pR hp h2⟩,λt ht=>?_⟩;simp only[af,P5,List.not_mem_nil,or_false] at ht;rcases ht with rfl | rfl | rfl
  ·exact h3
  ·exact h4
  ·exact h5
 | either a b=>
  rw[aJ] at h;obtain⟨_,_,_,h3,h4⟩:=h;refine⟨trivial,λt ht=>?_⟩;simp only[af,P5,List.not_mem_nil,or_false] at ht;rcases ht with rfl | rfl
  ·exact h3
  ·exact h4
 | again a=>rw[aJ] at h;exact⟨trivial,λt ht=>by rw[Qd.mp ht];exact h.2.2⟩
theorem DO(ok:Mi.ly W fl odd)(hp:∀w∈ps,Sh 8 w):∀(f n:Nat)(l:List Row),bt W ps n l->yA f l
 | 0,_,_,_=>trivial
 | f+1,n,l,h=>λr hr=>by
  obtain⟨a,b⟩:=ID ok hp (jX h r hr);exact⟨a,λt ht=>DO ok hp f (n+1) t (b t ht)⟩
theorem zP(ok:Mi.ly W fl odd){m:Nat}{P:Prog}(o:BS W m P)(hm:m<=60):OV P:=by
 have fit:=o.fit (by lia) ok.d2;refine⟨fit,by rw[o.dl];exact ok.d2,by rw[o.nm,(gd W.names).length_eq];exact ok.n2,λx hx=>?_,λd hd=>?_,P6 o.ct (by lia)⟩
 ·rw[o.nm] at hx;exact iO (ok.sn x ((gd W.names).mem_iff.mp hx))
 ·obtain⟨j,hj⟩:=Sx.mp hd;obtain⟨e1,e2,e3,_⟩:=o.dd j d hj;have hps:∀w∈d.2.1,Sh 8 w:=λw hw=>iO (ok.sp d.2.1 (PX e2) w hw);exact⟨iO (ok.sd _ (PX e1)),ok.p3 _ (PX e2),hps,DO ok hps 8 1 d.2.2 e3⟩
end
theorem Mc(n:Nat):Sh 1000 (wA n).2:=show Sh 1000 (Str.ofString "or") from⟨by decide+kernel,by decide+kernel⟩
theorem Eg:Sh 1000 (Str.ofString "end"):=⟨by decide+kernel,by decide+kernel⟩
theorem z5{g:Nat->List Row->List Ln}(n:Nat):∀(x:List (List Row)) (j k:Nat),(∀k,∀t∈x,∀y∈g k t,Sh 1000 y.2)->∀y∈bz g n j k x,Sh 1000 y.2
 | [],j,k,_,y,hy=>(nomatch hy)
 | t::x,j,k,h,y,hy=>by
  rw[bz] at hy;rcases Qk.mp hy with z | z
  ·rcases Qk.mp z with z | z
   ·split at z
    ·cases z
    ·rw[Qd.mp z];exact Mc n
   ·exact h k t (.head _) y z
  ·exact z5 n x (j+1) (k+aj t) (λk u hu=>h k u (.tail _ hu)) y z
theorem zH{g:Nat->List Row->List Ln}:∀(l:List Row)(k:Nat),(∀r∈l,zE r/\∀k,∀t∈af r,∀y∈g k t,Sh 1000 y.2)->∀y∈cG g k l,Sh 1000 y.2
 | [],k,_,y,hy=>(nomatch hy)
 | r::rs,k,h,y,hy=>by
  rw[cG] at hy;rcases Qk.mp hy with z | z
  ·rw[cz] at z;rcases P5.mp z with rfl | z
   ·exact(xF (h r (.head _)).1).up (by decide)
   ·rcases Qk.mp z with z | z
    ·exact z5 k (af r) 0 (k+1) (h r (.head _)).2 y z
    ·split at z
     ·cases z
     ·rw[Qd.mp z];exact Eg
  ·exact zH rs (k+cnt r) (λr hr=>h r (.tail _ hr)) y z
theorem xA:∀(f:Nat)(l:List Row)(k:Nat),yA f l->∀x∈gX f k l,Sh 1000 x.2
 | 0,l,k,_,x,hx=>(nomatch hx)
 | f+1,l,k,hs,x,hx=>zH l k (λr hr=>⟨(hs r hr).1,λk t ht=>xA f t k ((hs r hr).2 t ht)⟩) x hx
theorem xP:∀(ds:List cf)(k:Nat),(∀d∈ds,Sh 8 d.1/\d.2.1.length<=3/\(∀x∈d.2.1,Sh 8 x)/\yA 8 d.2.2)->∀x∈bg 8 k ds,Sh 1000 x.2
 | [],k,_,x,hx=>(nomatch hx)
 | d::ds,k,h,x,hx=>by
  obtain⟨a,b,c,e⟩:=h d (.head _);rw[bg] at hx;rcases P5.mp hx with rfl | hx
  ·exact(zd a b c).up (by decide)
  ·rcases Qk.mp hx with z | z
   ·exact xA 8 d.2.2 k e x z
   ·rcases P5.mp z with rfl | z
    ·exact Eg
    ·exact xP ds (k+aj d.2.2) (λd hd=>h d (.tail _ hd)) x z
end Pg
namespace Mi
open PySem Sm L2 Pg
end Mi
namespace Pg
open PySem Sm L2
theorem qz:∀(l:List Row)(n:Nat),n < aj l->∃x r y,l=x++r::y/\aj x<=n/\n < aj x+cnt r
 | [],n,h=>by simp[aj] at h
 | r::l,n,h=>by
  rw[aj] at h
  by_cases z:n < cnt r
  ·exact⟨[],r,l,rfl,by simp[aj],by simpa [aj] using z⟩
  ·obtain⟨x,r',y,rfl,h1,h2⟩:=qz l (n-cnt r) (by lia);exact⟨r::x,r',y,rfl,by rw[aj];lia,by rw[aj];lia⟩
theorem qA:∀(l:List (List Row)) (n:Nat),n < (l.map aj).sum->∃x t y,l=x++t::y/\(x.map aj).sum<=n/\n < (x.map aj).sum+aj t
 | [],n,h=>by simp at h
 | r::l,n,h=>by
  rw[Qc,QH] at h
  by_cases z:n < aj r
  ·exact⟨[],r,l,rfl,by simp,by simpa using z⟩
  ·obtain⟨x,r',y,rfl,h1,h2⟩:=qA l (n-aj r) (by lia);exact⟨r::x,r',y,rfl,by rw[Qc,QH];lia,by rw[Qc,QH];lia⟩
theorem mI{u v:List (List Row)}{t:List Row}:(u++t::v)[u.length]?=some t:=by
 rw[Qa (PZ _),Rm];rfl
theorem iq{u v:List Row}{t:Row}:(u++t::v)[u.length]?=some t:=by
 rw[Qa (PZ _),Rm];rfl
def PJ(W:Wd)(ps:List Str):Row->Prop
 | .say w=>w∈W.names++W.ai
 | .call d ts=>(∃(j:Nat)(qs:List Str),W.ai[j]?=some d/\W.params[j]?=some qs/\ts.length=qs.length)/\∀t∈ts,dD ps t
 | .within l _=>dX W ps l
 | .all ls _=>2<=ls.length/\ls.length<=4/\ls.Nodup/\∀l∈ls,dX W ps l
 | .ask l _ _=>dX W ps l
 | .gQ s t _ _ _=>dD ps s/\dD ps t
 | _=>True
section
variable {W:Wd} {ps:List Str}
theorem Ba{n:Nat}{r:Row}:aJ W ps n r↔PJ W ps r/\(af r≠[]->n < 5)/\∀t∈af r,t.length<=12/\bt W ps (n+1) t:=by
 have one:∀{b:List Row} {p:List Row->Prop},p b->∀t∈[b],p t:=λh t ht=>by rw[Qd.mp ht];exact h
 have two:∀{b:List Row} {bs:List (List Row)} {p:List Row->Prop},p b->(∀t∈bs,p t)->∀t∈b::bs,p t:=λh g t ht=>(P5.mp ht).elim (λe=>e ▸ h) (g t);cases r with
 | say w=>rw[aJ];exact⟨λh=>⟨h,λz=>absurd rfl z,λt ht=>(nomatch ht)⟩,λh=>h.1⟩
 | call d ts=>rw[aJ];exact⟨λh=>⟨h,λz=>absurd rfl z,λt ht=>(nomatch ht)⟩,λh=>h.1⟩
 | within l b=>rw[aJ];exact⟨λh=>⟨h.1,λ_=>h.2.1,one h.2.2⟩,λh=>⟨h.1,h.2.1 (R6 _ _),h.2.2 b (.head _)⟩⟩
 | all ls b=>rw[aJ];exact⟨λh=>⟨h.1,λ_=>h.2.1,one h.2.2⟩,λh=>⟨h.1,h.2.1 (R6 _ _),h.2.2 b (.head _)⟩⟩
 | again b=>rw[aJ];exact⟨λh=>⟨trivial,λ_=>h.1,one h.2⟩,λh=>⟨h.2.1 (R6 _ _),h.2.2 b (.head _)⟩⟩
 | ask l b e=>
  rw[aJ];refine⟨λh=>⟨h.1,λ_=>h.2.1,two ⟨h.2.2.1,h.2.2.2.2.1⟩ (one ⟨h.2.2.2.1,h.2.2.2.2.2⟩)⟩,λh=>?_⟩;have hb:=h.2.2 b (.head _);have he:=h.2.2 e (.tail _ (.head _));exact⟨h.1,h.2.1 (R6 _ _),hb.1,he.1,hb.2,he.2⟩
 | either b e=>
  rw[aJ];refine⟨λh=>⟨trivial,λ_=>h.1,two ⟨h.2.1,h.2.2.2.1⟩ (one ⟨h.2.2.1,h.2.2.2.2⟩)⟩,λh=>?_⟩;have hb:=h.2.2 b (.head _);have he:=h.2.2 e (.tail _ (.head _));exact⟨h.2.1 (R6 _ _),hb.1,he.1,hb.2,he.2⟩
 | gQ s u a b c=>
  rw[aJ];refine⟨λh=>⟨⟨h.1,h.2.1⟩,λ_=>h.2.2.1,two ⟨h.2.2.2.1,h.2.2.2.2.2.2.1⟩ (two ⟨h.2.2.2.2.1,h.2.2.2.2.2.2.2.1⟩ (one ⟨h.2.2.2.2.2.1,h.2.2.2.2.2.2.2.2⟩))⟩,λh=>?_⟩;have ha:=h.2.2 a (.head _);have hb:=h.2.2 b (.tail _ (.head _));have hc:=h.2.2 c (.tail _ (.tail _ (.head _)));exact⟨h.1.1,h.1.2,h.2.1 (R6 _ _),ha.1,hb.1,hc.1,ha.2,hb.2,hc.2⟩
end
end Pg
namespace Mi
open PySem Sm L2 Pg
section
variable {W:Wd} {ps:List Str}
theorem bY{α:Type}:∀{l:List α} {i:Nat} {a:α},l[i]?=some a->∃x y,l=x++a::y/\x.length=i
 | a::l,0,_,h=>by cases h;exact⟨[],l,rfl,rfl⟩
 | b::l,i+1,a,h=>by
  obtain⟨x,y,rfl,e⟩:=bY (l:=l) (i:=i) h;exact⟨b::x,y,rfl,by rw[P2,e]⟩
theorem C7{x y b:List Row}{r:Row}:putAt x.length b [] (x++r::y)=x++b++y:=by
 show(x++r::y).take x.length++b++(x++r::y).drop (x.length+1)=_;rw[QR,TV,Th (Se _),show x.length+1-x.length=1 by lia];rfl
theorem C6{x y b t:List Row}{r:Row}{u v:List (List Row)}{st:List (Nat×Nat)}{k:Nat}(e:af r=u++t::v):putAt k b ((x.length,u.length)::st) (x++r::y)=x++cT r u.length (putAt k b st t)::y:=by
 have e4:(af r)[u.length]?=some t:=by rw[e,mI]
 have e3:(x++r::y)[x.length]?=some r:=iq;simp only[putAt,e3,e4];rw[QR,TV,Th (Se _),show x.length+1-x.length=1 by lia];simp
end
noncomputable def idx:List (Nat×Nat)->Nat->List Row->Nat
 | [],k,l=>aj (l.take k)
 |(i,j)::st,k,l=>aj (l.take i)+(match l[i]? with
  | some r=>1+(((af r).take j).map aj).sum+(match (af r)[j]? with
   | some t=>idx st k t
   | none=>0)
  | none=>0)
theorem iA{x y t:List Row}{r:Row}{u v:List (List Row)}{st:List (Nat×Nat)}{k:Nat}(e:af r=u++t::v):idx ((x.length,u.length)::st) k (x++r::y)=aj x+(1+(u.map aj).sum+idx st k t):=by
 have e4:(af r)[u.length]?=some t:=by rw[e,mI]
 have e3:(x++r::y)[x.length]?=some r:=iq;simp only[idx,e3,e4];rw[QR,e,QR]
theorem Hr:∀(f:Nat)(l:List Row)(n:Nat),a8 l<=f->n < aj l->∃st k lot r,gK l st=some lot/\lot[k]?=some r/\idx st k l=n
 | 0,l,n,hf,hn=>by cases l <;> rw[a8] at hf <;> lia
 | f+1,l,n,hf,hn=>by
  obtain⟨x,r0,y,rfl,h1,h2⟩:=qz l n hn;have hm0:r0∈x++r0::y:=Qm _ (.head _);have hnr:=fq hm0
  by_cases z:n=aj x
  ·exact⟨[],x.length,x++r0::y,r0,rfl,iq,by rw[idx,QR,z]⟩
  ·have hc:=de r0;obtain⟨u,t,v,eL,g1,g2⟩:=qA (af r0) (n-aj x-1) (by lia);have htm:t∈af r0:=by rw[eL];exact Qm _ (.head _)
   have hnt:=fm htm;obtain⟨st,k,lot,r,e1,e2,e3⟩:=Hr f t (n-aj x-1-(u.map aj).sum) (by lia) (by clear z hn;lia);refine⟨(x.length,u.length)::st,k,lot,r,?_,e2,by rw[iA eL,e3];lia⟩;show((JZ (x++r0::y) (x.length,u.length)).bind λl=>gK l st)=_;have e1':JZ (x++r0::y) (x.length,u.length)=some t:=by
    show((x++r0::y)[x.length]?).bind (λr=>(af r)[u.length]?)=_;rw[iq];show(af r0)[u.length]?=_;rw[eL,mI]
   rw[e1'];exact e1
theorem nX(p:List Nat):∀(k:Nat)(u:List (List Row)),(cO p k u).length=(u.map aj).sum
 | _,[]=>rfl
 | k,t::u=>by rw[cO,Qb,aF,nX p (k+1) u,Qc,QH]
theorem j9{lot:List Row}{r:Row}{k:Nat}(hr:lot[k]?=some r):∀(st:List (Nat×Nat)) (l:List Row) (a:List Nat),gK l st=some lot->(aN a 0 l)[idx st k l]?=some (a++(flat st++[k]),r)/\idx st k l < aj l
 | [],l,a,e=>by
  cases e;obtain⟨x,y,rfl,rfl⟩:=bY hr;have hp:=de r;rw[idx,QR,gk,Qa (by rw[aF];exact PZ _),aF,Rm,QL,aN];exact⟨rfl,by rw[iG,aj];lia⟩
 |(i,j)::st,l,a,e=>by
  obtain⟨t,e1,e2⟩:=bA e;obtain⟨r0,e3,e4⟩:=bA e1;obtain⟨x,y,rfl,rfl⟩:=bY e3;obtain⟨u,v,eL,rfl⟩:=bY e4;obtain⟨h1,h2⟩:=j9 hr st t (a++[x.length]++[u.length]) e2;have hc:=de r0;rw[eL,Ql,Sa,Qc,QH] at hc;have hlen:(dW (a++[x.length]) r0).length=cnt r0-1:=by have:=iX (a++[x.length]) r0;clear hc;lia
  rw[iA eL];refine⟨?_,by rw[iG,aj];lia⟩;rw[gk,Qa (by rw[aF];simp),aF,QL,aN,show aj x+(1+(u.map aj).sum+idx st k t)-aj x=((u.map aj).sum+idx st k t)+1 by lia,Rf,P8 (by lia),nR,eL,j4,Qa (by rw[nX];simp),nX,QL,cO,P8 (by rw[aF];lia),Sf,h1];simp[flat]
end Mi
namespace Pg
open PySem Sm L2
mutual
noncomputable def b8(f:Nat->Bool):Nat->Row->Row
 | _,.say w=>.say w
 | _,.call d ts=>.call d ts
 | k,.within l b=>if f k=true then .ask l (dA f (k+1) b) [] else .within l (dA f (k+1) b)
 | k,.all ls b=>.all ls (dA f (k+1) b)
 | k,.ask l b e=>.ask l (dA f (k+1) b) (dA f (k+1+aj b) e)
 | k,.gQ s t a b c=>.gQ s t (dA f (k+1) a) (dA f (k+1+aj a) b) (dA f (k+1+aj a+aj b) c)
 | k,.either a b=>.either (dA f (k+1) a) (dA f (k+1+aj a) b)
 | k,.again a=>.again (dA f (k+1) a)
noncomputable def dA(f:Nat->Bool):Nat->List Row->List Row
 | _,[]=>[]
 | k,r::rs=>b8 f k r::dA f (k+cnt r) rs
end
section
variable {f:Nat->Bool}
mutual
theorem wg:∀(k:Nat)(r:Row),cnt (b8 f k r)=cnt r
 | _,.say _=>by rw[b8]
 | _,.call _ _=>by rw[b8]
 | k,.within l b=>by
  rw[b8]
  split <;> simp only[cnt,aj,bx (k+1) b,TN]
 | k,.all ls b=>by simp only[b8,cnt,bx (k+1) b]
 | k,.ask l b e=>by simp only[b8,cnt,bx _ b,bx _ e]
 | k,.gQ s t a b c=>by simp only[b8,cnt,bx _ a,bx _ b,bx _ c]
 | k,.either a b=>by simp only[b8,cnt,bx _ a,bx _ b]
 | k,.again a=>by simp only[b8,cnt,bx _ a]
theorem bx:∀(k:Nat)(l:List Row),aj (dA f k l)=aj l
 | _,[]=>by rw[dA]
 | k,r::rs=>by rw[dA,aj,aj,wg k r,bx (k+cnt r) rs]
end
theorem yg{k n k' n':Nat}(h:∀m,k<=m->m < k+n->f m=false)(h1:k<=k':=by lia)(h2:k'+n'<=k+n:=by lia):∀m,k'<=m->m < k'+n'->f m=false:=λm a c=>h m (by lia) (by lia)
mutual
theorem KJ:∀(k:Nat)(r:Row),(∀m,k<=m->m < k+cnt r->f m=false)->b8 f k r=r
 | _,.say _,_=>by rw[b8]
 | _,.call _ _,_=>by rw[b8]
 | k,.within l b,h=>by
  rw[cnt] at h;rw[b8,P7 (by rw[h k (by lia) (by lia)];simp),cW (k+1) b (yg h)]
 | k,.all ls b,h=>by
  rw[cnt] at h;rw[b8,cW (k+1) b (yg h)]
 | k,.ask l b e,h=>by
  rw[cnt] at h;rw[b8,cW (k+1) b (yg h),cW (k+1+aj b) e (yg h)]
 | k,.gQ s t a b c,h=>by
  rw[cnt] at h;rw[b8,cW (k+1) a (yg h),cW (k+1+aj a) b (yg h),cW (k+1+aj a+aj b) c (yg h)]
 | k,.either a b,h=>by
  rw[cnt] at h;rw[b8,cW (k+1) a (yg h),cW (k+1+aj a) b (yg h)]
 | k,.again a,h=>by
  rw[cnt] at h;rw[b8,cW (k+1) a (yg h)]
theorem cW:∀(k:Nat)(l:List Row),(∀m,k<=m->m < k+aj l->f m=false)->dA f k l=l
 | _,[],_=>by rw[dA]
 | k,r::rs,h=>by
  rw[aj] at h;rw[dA,KJ k r (yg h),cW (k+cnt r) rs (yg h)]
end
mutual
theorem KL(g:Nat->Bool):∀(k:Nat)(r:Row),b8 g k (b8 f k r)=b8 (λm=>f m||g m) k r
 | _,.say _=>by rw[b8,b8,b8]
 | _,.call _ _=>by rw[b8,b8,b8]
 | k,.within l b=>by
  by_cases z:f k=true
  ·simp only[b8,z,Sj,dA,Bool.true_or,fz g (k+1) b]
  ·have z':f k=false:=by simpa using z
   simp only[b8,z',Bool.false_eq_true,Ua,Bool.false_or,fz g (k+1) b]
 | k,.all ls b=>by rw[b8,b8,b8,fz g (k+1) b]
 | k,.ask l b e=>by rw[b8,b8,b8,bx,fz g (k+1) b,fz g _ e]
 | k,.gQ s t a b c=>by rw[b8,b8,b8,bx,bx,fz g (k+1) a,fz g _ b,fz g _ c]
 | k,.either a b=>by rw[b8,b8,b8,bx,fz g (k+1) a,fz g _ b]
 | k,.again a=>by rw[b8,b8,b8,fz g (k+1) a]
theorem fz(g:Nat->Bool):∀(k:Nat)(l:List Row),dA g k (dA f k l)=dA (λm=>f m||g m) k l
 | _,[]=>by rw[dA,dA,dA]
 | k,r::rs=>by rw[dA,dA,dA,wg,KL g k r,fz g _ rs]
end
theorem df:∀(k:Nat)(l:List Row),(dA f k l).length=l.length
 | _,[]=>by rw[dA]
 | k,r::rs=>by rw[dA,P2,P2,df _ rs]
theorem oy:∀(x y:List Row)(k:Nat),dA f k (x++y)=dA f k x++dA f (k+aj x) y
 | [],y,k=>by rw[dA,aj];rfl
 | r::x,y,k=>by rw[QE,dA,dA,oy x y,aj,QE,QN]
noncomputable def uA(f:Nat->Bool):Nat->List (List Row)->List (List Row)
 | _,[]=>[]
 | k,t::ts=>dA f k t::uA f (k+aj t) ts
theorem wj:∀(x y:List (List Row)) (k:Nat),uA f k (x++y)=uA f k x++uA f (k+(x.map aj).sum) y
 | [],y,k=>rfl
 | r::x,y,k=>by rw[QE,uA,uA,wj x y,Qc,QH,QE,QN]
theorem Ax:∀(x:List (List Row)) (k:Nat),(uA f k x).length=x.length/\((uA f k x).map aj).sum=(x.map aj).sum
 | [],_=>⟨rfl,rfl⟩
 | t::x,k=>by
  obtain⟨a,b⟩:=Ax x (k+aj t);exact⟨by rw[uA,P2,a,P2],by rw[uA,Qc,QH,b,bx,Qc,QH]⟩
theorem zj:∀(x:List (List Row)) (k:Nat),(∀m,k<=m->m < k+(x.map aj).sum->f m=false)->uA f k x=x
 | [],_,_=>rfl
 | t::x,k,h=>by
  rw[Qc,QH] at h;rw[uA,cW k t (yg h),zj x _ (yg h)]
theorem GV(k:Nat)(r:Row):∃more,af (b8 f k r)=uA f (k+1) (af r)++more:=by
 cases r with
 | within l b=>
  rw[b8]
  split
  ·exact⟨[[]],rfl⟩
  ·exact⟨[],rfl⟩
 | say w=>exact⟨[],by rw[b8];rfl⟩
 | call d ts=>exact⟨[],by rw[b8];rfl⟩
 | all ls b=>exact⟨[],by rw[b8];rfl⟩
 | ask l b e=>exact⟨[],by rw[b8];rfl⟩
 | gQ s t a b c=>exact⟨[],by rw[b8];rfl⟩
 | either a b=>exact⟨[],by rw[b8];rfl⟩
 | again a=>exact⟨[],by rw[b8];rfl⟩
theorem GW{k j:Nat}{r:Row}{t:List Row}(h0:f k=false)(h:uA f (k+1) (af r)=(af r).set j t):b8 f k r=cT r j t:=by
 cases r with
 | say w=>rw[b8];rcases j with _ | _ | _ | n <;> rfl
 | call d ts=>rw[b8];rcases j with _ | _ | _ | n <;> rfl
 | within l b=>rw[b8,P7 (by rw[h0];simp)];rcases j with _ | _ | _ | n <;> exact congrArg (Row.within l) (List.cons.inj h).1
 | all ls b=>rw[b8];rcases j with _ | _ | _ | n <;> exact congrArg (Row.all ls) (List.cons.inj h).1
 | again b=>rw[b8];rcases j with _ | _ | _ | n <;> exact congrArg Row.again (List.cons.inj h).1
 | ask l b e=>rw[b8];rcases j with _ | _ | _ | n <;> exact(congr (congrArg (Row.ask l) (List.cons.inj h).1) (List.cons.inj (List.cons.inj h).2).1).trans rfl
 | either b e=>rw[b8];rcases j with _ | _ | _ | n <;> exact(congr (congrArg Row.either (List.cons.inj h).1) (List.cons.inj (List.cons.inj h).2).1).trans rfl
 | gQ s u a b c=>rw[b8];rcases j with _ | _ | _ | n <;> exact(congr (congr (congrArg (Row.gQ s u) (List.cons.inj h).1) (List.cons.inj (List.cons.inj h).2).1) (List.cons.inj (List.cons.inj (List.cons.inj h).2).2).1).trans rfl
theorem KH{k:Nat}{r:Row}{u v:List (List Row)}{t:List Row}(e:af r=u++t::v)(h0:f k=false)(hu:uA f (k+1) u=u)(hv:uA f (k+1+(u.map aj).sum+aj t) v=v):b8 f k r=cT r u.length (dA f (k+1+(u.map aj).sum) t):=by
 refine GW h0 ?_;rw[e,wj,uA,hu,hv,RV _ _ (PZ _),Rm];rfl
end
end Pg
namespace Mi
open PySem Sm L2 Pg
theorem ES{k:Nat}{lk:Lock}{b lot:List Row}(hr:lot[k]?=some (.within lk b)):∀(st:List (Nat×Nat)) (l:List Row) (K:Nat),gK l st=some lot->dA (λm=>m==K+idx st k l) K l=putAt k [.ask lk b []] st l
 | [],l,K,e=>by
  cases e;obtain⟨x,y,rfl,rfl⟩:=bY hr;rw[C7,idx,QR,oy,cW K x λm a c=>by simp;exact Qs c,dA,cW _ y λm a c=>by simp;rw[cnt] at a;lia];rw[b8,P0 (by simp),cW _ b λm a c=>by simp;exact SR a];simp
 |(i,j)::st,l,K,e=>by
  obtain⟨t,e1,e2⟩:=bA e;obtain⟨r0,e3,e4⟩:=bA e1;obtain⟨x,y,rfl,rfl⟩:=bY e3;obtain⟨u,v,eL,rfl⟩:=bY e4;have ih:=ES hr st t (K+aj x+1+(u.map aj).sum) e2;have hlt:=(j9 hr st t [] e2).2;have hc:=de r0;rw[eL,Ql,Sa,Qc,QH] at hc;have eN:K+idx ((x.length,u.length)::st) k (x++r0::y)=K+aj x+1+(u.map aj).sum+idx st k t:=by rw[iA eL];lia
  rw[eN,C6 eL,oy,cW K x λm a c=>by simp;lia,dA,cW _ y λm a c=>by simp;lia];rw[KH eL (by simp;lia) (zj u _ λm a c=>by simp;lia) (zj v _ λm a c=>by simp;lia),ih]
theorem Hz{f:Nat->Bool}{k:Nat}{r:Row}{lot:List Row}(hr:lot[k]?=some r):∀(st:List (Nat×Nat)) (l:List Row) (K:Nat),gK l st=some lot->∃lot',gK (dA f K l) st=some lot'/\lot'[k]?=some (b8 f (K+idx st k l) r)/\idx st k (dA f K l)=idx st k l/\lot'.length=lot.length
 | [],l,K,e=>by
  cases e;obtain⟨x,y,rfl,rfl⟩:=bY hr;refine⟨_,rfl,?_,?_,df _ _⟩
  ·rw[oy,dA,idx,QR];have:=df (f:=f) K x;rw[<-this];exact iq
  ·rw[idx,idx,QR,oy];have:=df (f:=f) K x;rw[<-this,QR,bx]
 |(i,j)::st,l,K,e=>by
  obtain⟨t,e1,e2⟩:=bA e;obtain⟨r0,e3,e4⟩:=bA e1;obtain⟨x,y,rfl,rfl⟩:=bY e3;obtain⟨u,v,eL,rfl⟩:=bY e4;obtain⟨lot',i1,i2,i3,i4⟩:=Hz (f:=f) hr st t (K+aj x+1+(u.map aj).sum) e2;obtain⟨more,em⟩:=GV (f:=f) (K+aj x) r0;rw[eL,wj,uA] at em;obtain⟨l1,l2⟩:=Ax (f:=f) u (K+aj x+1);have hx:=df (f:=f) K x;have em':af (b8 f (K+aj x) r0)=uA f (K+aj x+1) u++dA f (K+aj x+1+(u.map aj).sum) t::(uA f (K+aj x+1+(u.map aj).sum+aj t) v++more):=by rw[em];simp
  have hl:dA f K (x++r0::y)=dA f K x++b8 f (K+aj x) r0::dA f (K+aj x+cnt r0) y:=by rw[oy,dA]
  rw[hl];refine⟨lot',?_,?_,?_,i4⟩
  ·show((JZ _ (x.length,u.length)).bind λl=>gK l st)=_;have e1':JZ (dA f K x++b8 f (K+aj x) r0::dA f (K+aj x+cnt r0) y) (x.length,u.length)=some (dA f (K+aj x+1+(u.map aj).sum) t):=by
    show((dA f K x++b8 f (K+aj x) r0::dA f (K+aj x+cnt r0) y)[x.length]?).bind (λr=>(af r)[u.length]?)=_;rw[<-hx,iq];show(af (b8 f (K+aj x) r0))[u.length]?=_;rw[em',<-l1,mI]
   rw[e1'];exact i1
  ·rw[i2,iA eL];congr 2
   lia
  ·rw[iA eL,<-hx,<-l1,iA em',i3,bx,l2]
section
variable {W:Wd} {ps:List Str} {f:Nat->Bool}
mutual
theorem KI:∀(n K:Nat)(r:Row),aJ W ps n r->aJ W ps n (b8 f K r)
 | n,K,.say w,h=>by rw[b8];exact h
 | n,K,.call d ts,h=>by rw[b8];exact h
 | n,K,.within l b,h=>by
  rw[aJ] at h;have ih:=fR (n+1) (K+1) b h.2.2.2;rw[b8]
  split
  ·rw[aJ];exact⟨h.1,h.2.1,by rw[df];exact h.2.2.1,by simp,ih,by rw[bt];trivial⟩
  ·rw[aJ];exact⟨h.1,h.2.1,by rw[df];exact h.2.2.1,ih⟩
 | n,K,.all ls b,h=>by
  rw[aJ] at h;rw[b8,aJ];exact⟨h.1,h.2.1,by rw[df];exact h.2.2.1,fR _ _ b h.2.2.2⟩
 | n,K,.ask l b e,h=>by
  rw[aJ] at h;rw[b8,aJ,df,df];exact⟨h.1,h.2.1,h.2.2.1,h.2.2.2.1,fR _ _ b h.2.2.2.2.1,fR _ _ e h.2.2.2.2.2⟩
 | n,K,.gQ s t a b c,h=>by
  rw[aJ] at h;obtain⟨h1,h2,h3,h4,h5,h6,h7,h8,h9⟩:=h;rw[b8,aJ,df,df,df];exact⟨h1,h2,h3,h4,h5,h6,fR _ _ a h7,fR _ _ b h8,fR _ _ c h9⟩
 | n,K,.either a b,h=>by
  rw[aJ] at h;obtain⟨h1,h2,h3,h4,h5⟩:=h;rw[b8,aJ,df,df];exact⟨h1,h2,h3,fR _ _ a h4,fR _ _ b h5⟩
 | n,K,.again a,h=>by
  rw[aJ] at h;rw[b8,aJ,df];exact⟨h.1,h.2.1,fR _ _ a h.2.2⟩
theorem fR:∀(n K:Nat)(l:List Row),bt W ps n l->bt W ps n (dA f K l)
 | n,K,[],h=>by rw[dA];exact h
 | n,K,r::l,h=>by
  rw[bt] at h;rw[dA,bt];exact⟨KI n K r h.1,fR n _ l h.2⟩
end
end
noncomputable def eV(f:Nat->Bool):Nat->List cf->List cf
 | _,[]=>[]
 | k,d::ds=>(d.1,d.2.1,dA f k d.2.2)::eV f (k+aj d.2.2) ds
noncomputable def wk(f:Nat->Bool)(P:Prog):Prog:=⟨P.names,eV f 0 P.ai⟩
theorem ck(d:cf)(ds:List cf):aU (d::ds)=aj d.2.2+aU ds:=by simp[aU]
section
variable {f:Nat->Bool}
theorem wt:∀(x y:List cf)(k:Nat),eV f k (x++y)=eV f k x++eV f (k+aU x) y
 | [],y,k=>rfl
 | d::x,y,k=>by rw[QE,eV,eV,wt x y,ck,QE,QN]
theorem wq:∀(ds:List cf)(k:Nat),(∀m,k<=m->m < k+aU ds->f m=false)->eV f k ds=ds
 | [],_,_=>rfl
 | d::ds,k,h=>by
  rw[ck] at h;rw[eV,cW k _ (yg h),wq ds _ (yg h)]
theorem ET(g:Nat->Bool):∀(ds:List cf)(k:Nat),eV g k (eV f k ds)=eV (λm=>f m||g m) k ds
 | [],_=>rfl
 | d::ds,k=>by
  rw[eV,eV,eV,bx,fz,ET g ds]
theorem qh:∀(ds:List cf)(k:Nat),(eV f k ds).length=ds.length/\aU (eV f k ds)=aU ds
 | [],_=>⟨rfl,rfl⟩
 | d::ds,k=>by
  obtain⟨a,b⟩:=qh ds (k+aj d.2.2);exact⟨by rw[eV,P2,a,P2],by rw[eV,ck,b,ck,bx]⟩
theorem zk:∀(ds:List cf)(k j:Nat)(d:cf),ds[j]?=some d->(eV f k ds)[j]?=some (d.1,d.2.1,dA f (k+aU (ds.take j)) d.2.2)
 | d::ds,k,0,e,h=>by cases h;rfl
 | d::ds,k,j+1,e,h=>by
  have:=zk ds (k+aj d.2.2) j e h;rw[eV,Rf,this,RE,ck,QN]
theorem KO(g:Nat->Bool)(P:Prog):wk g (wk f P)=wk (λm=>f m||g m) P:=by
 unfold wk;rw[ET]
theorem KN{P:Prog}(h:∀m,f m=false):wk f P=P:=by
 unfold wk;rw[wq _ _ λm _ _=>h m]
structure At(P:Prog)(N j:Nat)(st:List (Nat×Nat))(k:Nat)(lot:List Row)(r:Row)(d:cf):Prop where
 hd:P.ai[j]?=some d
 hl:gK d.2.2 st=some lot
 hr:lot[k]?=some r
 hN:N=aU (P.ai.take j)+idx st k d.2.2
theorem at_of{P:Prog}{N:Nat}(hN:N < aU P.ai):∃j st k lot r d,At P N j st k lot r d:=by
 have split:∀(ds:List cf)(n:Nat),n < aU ds->∃j d,ds[j]?=some d/\aU (ds.take j)<=n/\n < aU (ds.take j)+aj d.2.2:=by
  intro ds
  induction ds with
  | nil=>intro n h;simp[aU] at h
  | cons d ds ih=>
   intro n h;rw[ck] at h
   by_cases z:n < aj d.2.2
   ·exact⟨0,d,rfl,RJ _,by simpa [aU] using z⟩
   ·obtain⟨j,e,h1,h2,h3⟩:=ih (n-aj d.2.2) (by lia);exact⟨j+1,e,h1,by rw[RE,ck];lia,by rw[RE,ck];lia⟩
 obtain⟨j,d,h1,h2,h3⟩:=split P.ai N hN
 obtain⟨st,k,lot,r,e1,e2,e3⟩:=Hr _ d.2.2 (N-aU (P.ai.take j)) (PZ _) (by lia);exact⟨j,st,k,lot,r,d,h1,e1,e2,by clear hN;lia⟩
theorem At.place{P:Prog}{N j k:Nat}{st:List (Nat×Nat)}{lot:List Row}{r:Row}{d:cf}(h:At P N j st k lot r d):(placesFrom 0 P.ai)[N]?=some (j,flat st++[k],r):=by
 obtain⟨hd,hl,hr,hN⟩:=h;obtain⟨x,y,eD,ex⟩:=bY hd;obtain⟨a,b⟩:=j9 hr st d.2.2 [] hl;have hx:P.ai.take j=x:=by rw[eD,<-ex,QR]
 rw[hx] at hN;have hlx:(placesFrom 0 x).length=aU x:=cF 0 x;rw[eD,eQ,Qa (by lia),hlx,QL,placesFrom,P8 (by rw[PU,aF];lia),Qg,hN,Sf,a,ex];rfl
theorem At.as{P:Prog}{N j k:Nat}{st:List (Nat×Nat)}{lot:List Row}{r:Row}{d:cf}(h:At P N j st k lot r d):∃lot',lot'.length=lot.length/\At (wk f P) N j st k lot' (b8 f N r) (d.1,d.2.1,dA f (aU (P.ai.take j)) d.2.2):=by
 obtain⟨hd,hl,hr,hN⟩:=h;obtain⟨lot',a1,a2,a3,a4⟩:=Hz (f:=f) hr st d.2.2 (aU (P.ai.take j)) hl;have ht:aU ((eV f 0 P.ai).take j)=aU (P.ai.take j):=by
  obtain⟨x,y,eD,ex⟩:=bY hd;rw[eD,wt,<-ex,QR];have:=(qh (f:=f) x 0);rw[<-this.1,QR,this.2]
 refine⟨lot',a4,?_,a1,by rw[hN];exact a2,?_⟩
 ·have:=zk (f:=f) P.ai 0 j d hd
  rwa [QL] at this
 ·show N=aU ((eV f 0 P.ai).take j)+idx st k (dA f (aU (P.ai.take j)) d.2.2);rw[ht,a3,hN]
theorem At.ask{P:Prog}{N j k:Nat}{st:List (Nat×Nat)}{lot b:List Row}{lk:Lock}{d:cf}(h:At P N j st k lot (.within lk b) d):IY P j k [.ask lk b []] st d=wk (λm=>m==N) P:=by
 obtain⟨hd,hl,hr,hN⟩:=h;obtain⟨x,y,eD,ex⟩:=bY hd;have hx:P.ai.take j=x:=by rw[eD,<-ex,QR]
 have hlt:=(j9 hr st d.2.2 [] hl).2;have ap:=ES hr st d.2.2 (aU x) hl;rw[hx] at hN;subst hN;unfold wk IY;congr 1;rw[hx,eD,wt,wq x _ λm a c=>by simp;lia,eV,wq y _ λm a c=>by simp;lia,QL,ap,<-ex,TV,Th (Se _),show x.length+1-x.length=1 by simp];simp
end
section
variable {P:Prog} {N j k:Nat} {st:List (Nat×Nat)} {lot b:List Row} {r q:Row} {d:cf} {W:Wd} {m m':Nat}
theorem DG{f:Nat->Bool}(o:BS W m P):BS W m (wk f P):=by
 obtain⟨l1,l2⟩:=qh (f:=f) P.ai 0;refine⟨o.nm,by show(eV f 0 P.ai).length=_;rw[l1,o.dl],λi e he=>?_,by show aU (eV f 0 P.ai)<=m;rw[l2];exact o.ct⟩;have hi:i < P.ai.length:=by rw[<-l1];exact(PV.mp he).1
 obtain⟨d,hd⟩:∃d,P.ai[i]?=some d:=⟨_,Qi hi⟩;have:=zk (f:=f) P.ai 0 i d hd;cases(show(eV f 0 P.ai)[i]?=some e from he).symm.trans this;obtain⟨o1,o2,o3,o4⟩:=o.dd i d hd;exact⟨o1,o2,fR 1 _ d.2.2 o3,by rw[df];exact o4⟩
theorem Hx(o:BS W m P)(h:At P N j st k lot r d):aJ W d.2.1 (1+st.length) r/\lot.length<=12/\st.length+1+cK r<=5/\Pg.cnt r<=m/\k < lot.length/\aj d.2.2<=m:=by
 obtain⟨hd,hl,hr,hN⟩:=h;obtain⟨o1,o2,o3,o4⟩:=o.dd j d hd;have key:∀(st:List (Nat×Nat)) (l:List Row) (n:Nat),gK l st=some lot->bt W d.2.1 n l->l.length<=12->bt W d.2.1 (n+st.length) lot/\lot.length<=12/\aj lot<=aj l/\st.length+a8 lot<=a8 l:=by
  intro st
  induction st with
  | nil=>intro l n e h hl;cases e;exact⟨h,hl,PZ _,by simp⟩
  | cons s st ih=>
   intro l n e h hl;obtain⟨t,e1,e2⟩:=bA e;obtain⟨r0,e3,e4⟩:=bA e1;have m3:=PX e3;have m4:=PX e4;obtain⟨h1,h2,h3⟩:=Ba.mp (jX h r0 m3);obtain⟨t1,t2⟩:=h3 t m4;obtain⟨a,b,c,g⟩:=ih t (n+1) e2 t2 t1;have:=fq m3;have:=fm m4;exact⟨by rw[P2,show n+(st.length+1)=n+1+st.length by lia];exact a,b,P6 c (xT e3 e4),by rw[P2];lia⟩
 obtain⟨a,b,c,h6⟩:=key st d.2.2 1 hl o3 o4;have hrow:=jX a r (PX hr);have hcr:=Er (PX hr);have hcd:aj d.2.2<=m:=P6 (uL (PX hd)) o.ct;have h5:=bI 1 d.2.2 o3 (by decide);have h7:=fq (PX hr);exact⟨hrow,b,by lia,by lia,(PV.mp hr).1,hcd⟩
end
theorem zU(r:Row):D.tup [az r]=cI [r]:=by unfold cI;rw[bK];rfl
theorem uz(lk:Lock)(b:List Row)(h:MH):jN [az (.within lk b)] h=some (az (.ask lk b []),h):=by
 rw[az,az];refine bM (bU ?_);nofun;rfl
def Lc(P:Prog)(n:Nat):Prop:=∃j st k lot lk b d,At P n j st k lot (.within lk b) d
theorem EO{W:Wd}{fl:List Int}{odd:Int}{m:Nat}{P:Prog}(ok:ly W fl odd)(o:BS W m P)(hm:m<=60){L:List Nat}(nd:L.Nodup)(hw:∀n∈L,Lc P n)(hl:L.length<=1000)(h:MH):dR [bp P,.tup (L.map aZ)] h=some (bp (wk (λx=>decide (x∈L)) P),h):=by
 have h0:wk (λx=>decide (x∈L.take 0)) P=P:=KN λx=>by simp
 refine bM (bU ?_);nofun;refine dU ?_;nofun;refine⟨_,_,rfl,?_⟩;refine cU (λi δ h'=>∃(v3 v4 v5 v6:Option D),δ=[some (bp P),some (.tup (L.map aZ)),some (bp (wk (λx=>decide (x∈L.take i)) P)),v3,v4,v5,v6]/\h'=h)
  ⟨_,_,_,_,by rw[h0];rfl,rfl⟩ (λ_ _ _ _ _=>rfl) ?_ ?_
 ·rintro i x δ h' hx ⟨v3,v4,v5,v6,rfl,rfl⟩;rw[Qg] at hx;obtain⟨n,en,rfl⟩:=Qo.mp hx;obtain⟨j,st,k,lot,lk,b,d,A⟩:=hw n (PX en);have hi:i < L.length:=(PV.mp en).1;have htk:L.take (i+1)=L.take i++[n]:=by rw[RW,en];rfl
  have hnot:n∉L.take i:=by
   have:=nd.sublist (S8 (i+1) L);rw[htk,RX] at this;exactλz=>this.2.2 n z n (Qd.mpr rfl) rfl
  have hf:(λx=>decide (x∈L.take (i+1)))=λx=>(decide (x∈L.take i)||x==n):=by
   funext x
   rw[htk];simp[Bool.decide_or];rfl
  obtain⟨lot',hl',A'⟩:=A.as (f:=λx=>decide (x∈L.take i));have er:b8 (λx=>decide (x∈L.take i)) n (.within lk b)=.within lk (dA (λx=>decide (x∈L.take i)) (n+1) b):=by
   rw[b8,P7 (by simpa using hnot)]
  rw[er] at A';have o':=DG (f:=λx=>decide (x∈L.take i)) o;have fit':=o'.fit (by lia) ok.d2;obtain⟨g1,g2,g3,g4,g5,g6⟩:=Hx o' A';have ha:=A'.ask;rw[KO,<-hf] at ha;generalize dA (λx=>decide (x∈L.take i)) (n+1) b=b' at*;nofun;refine rv (xh fit' A'.place h') ?_;nofun;refine rv (jV (.within lk b') h') ?_;nofun;refine⟨false,by ac_nf,λy=>(nomatch y),λ_=>?_⟩;nofun;refine rv (uz lk b' h') ?_;nofun;rw[zU];refine rv (gH (by show 1<=1000;decide) A'.hd A'.hl (by lia) g5 (by lia) fit'.dl h') ?_;nofun;rw[ha];exact⟨_,_,_,_,rfl,rfl⟩
 ·rintro δ h' ⟨v3,v4,v5,v6,rfl,rfl⟩;rw[PU,QT];nofun
noncomputable def vH:Row->Bool
 | .within _ _=>true
 | _=>false
end Mi
namespace Pg
open PySem Sm L2
mutual
def BN(f:Nat->Bool):Nat->Row->Prop
 | k,.within _ b=>wx f (k+1) b
 | k,.say _=>f k=false
 | k,.call _ _=>f k=false
 | k,.all _ b=>f k=false/\wx f (k+1) b
 | k,.ask _ b e=>f k=false/\wx f (k+1) b/\wx f (k+1+aj b) e
 | k,.gQ _ _ a b c=>f k=false/\wx f (k+1) a/\wx f (k+1+aj a) b/\wx f (k+1+aj a+aj b) c
 | k,.either a b=>f k=false/\wx f (k+1) a/\wx f (k+1+aj a) b
 | k,.again a=>f k=false/\wx f (k+1) a
def wx(f:Nat->Bool):Nat->List Row->Prop
 | _,[]=>True
 | k,r::rs=>BN f k r/\wx f (k+cnt r) rs
end
section
variable {f:Nat->Bool} {A:Ln->List Ln}
theorem z6(F k:Nat):gX F k []=[]:=by cases F <;> rfl
structure E4(f:Nat->Bool)(A:Ln->List Ln):Prop where
 no:∀(k:Nat)(x:Str),f k=false->A ((k:Int),x)=[((k:Int),x)]
 hd:∀(k:Nat)(l:Lock)(b c:List Row),f k=true->A ((k:Int),bo (.within l b))=[((k:Int),bo (.ask l c []))]
 en:∀k:Nat,f k=true->A (fQ k)=[wA k,fQ k]
mutual
theorem MU(H:E4 f A):∀(F k:Nat)(r:Row),cK r<=F->BN f k r->(cz (gX F) k r).flatMap A=cz (gX F) k (b8 f k r)
 | F,k,.say w,_,h=>by
  rw[BN] at h;rw[b8];unfold cz;simp only[af,bz,Sj,QS,Sr,List.flatMap_nil,H.no k _ h]
 | F,k,.call d ts,_,h=>by
  rw[BN] at h;rw[b8];unfold cz;simp only[af,bz,Sj,QS,Sr,List.flatMap_nil,H.no k _ h]
 | F,k,.within l b,hn,h=>by
  rw[BN] at h;rw[cK] at hn;have ih:=jn H F (k+1) b hn h;rw[b8]
  by_cases z:f k=true
  ·rw[P0 z];unfold cz;simp[af,bz,H.hd k l b (dA f (k+1) b) z,H.en k z,ih,z6]
  ·have z':f k=false:=by simpa using z
   rw[P7 z];unfold cz;have e1:=H.no k (bo (.within l b)) z';have e2:=H.no k (Str.ofString "end") z';simp[af,bz,e1,ih,fQ,e2];rfl
 | F,k,.all ls b,hn,h=>by
  rw[BN] at h;rw[cK] at hn;have ih:=jn H F (k+1) b hn h.2;have en:=H.no k (Str.ofString "end") h.1;have hd:=H.no k (bo (.all ls b)) h.1;rw[b8];unfold cz;simp[af,bz,fQ,hd,en,ih];rfl
 | F,k,.ask l b e,hn,h=>by
  rw[BN] at h;rw[cK] at hn;have i1:=jn H F (k+1) b (by lia) h.2.1;have i2:=jn H F (k+1+aj b) e (by lia) h.2.2;have en:=H.no k (Str.ofString "end") h.1;have oo:=H.no k (Str.ofString "or") h.1;have hd:=H.no k (bo (.ask l b e)) h.1;rw[b8];unfold cz;simp[af,bz,fQ,wA,hd,en,oo,i1,i2,bx];rfl
 | F,k,.gQ s t a b c,hn,h=>by
  rw[BN] at h;rw[cK] at hn;have i1:=jn H F (k+1) a (by lia) h.2.1;have i2:=jn H F (k+1+aj a) b (by lia) h.2.2.1;have i3:=jn H F (k+1+aj a+aj b) c (by lia) h.2.2.2;have en:=H.no k (Str.ofString "end") h.1;have oo:=H.no k (Str.ofString "or") h.1;have hd:=H.no k (bo (.gQ s t a b c)) h.1;rw[b8];unfold cz;simp[af,bz,fQ,wA,hd,en,oo,i1,i2,i3,bx];rfl
 | F,k,.either b e,hn,h=>by
  rw[BN] at h;rw[cK] at hn;have i1:=jn H F (k+1) b (by lia) h.2.1;have i2:=jn H F (k+1+aj b) e (by lia) h.2.2;have en:=H.no k (Str.ofString "end") h.1;have oo:=H.no k (Str.ofString "or") h.1;have hd:=H.no k (bo (.either b e)) h.1;rw[b8];unfold cz;simp[af,bz,fQ,wA,hd,en,oo,i1,i2,bx];rfl
 | F,k,.again b,hn,h=>by
  rw[BN] at h;rw[cK] at hn;have ih:=jn H F (k+1) b hn h.2;have en:=H.no k (Str.ofString "end") h.1;have hd:=H.no k (bo (.again b)) h.1;rw[b8];unfold cz;simp[af,bz,fQ,hd,en,ih];rfl
theorem jn(H:E4 f A):∀(F k:Nat)(l:List Row),a8 l<=F->wx f k l->(gX F k l).flatMap A=gX F k (dA f k l)
 | 0,k,l,hn,_=>by cases l <;> rw[a8] at hn <;> lia
 | F+1,k,[],_,_=>by rw[dA,z6];rfl
 | F+1,k,r::rs,hn,h=>by
  rw[wx] at h;rw[a8] at hn;have h1:=MU H F k r (by lia) h.1;have h2:=jn H (F+1) (k+cnt r) rs (by lia) h.2;rw[dA];show(cz (gX F) k r++cG (gX F) (k+cnt r) rs).flatMap A=cz (gX F) k (b8 f k r)++cG (gX F) (k+cnt (b8 f k r)) (dA f (k+cnt r) rs);rw[TB,h1,wg];exact congrArg _ h2
end
end
end Pg
namespace Mi
open PySem Sm L2 Pg
section
variable {f:Nat->Bool}
theorem HQ{k:Nat}{r:Row}(h0:f k=true->vH r=true)(h1:∀j t,(af r)[j]?=some t->wx f (k+1+(((af r).take j).map aj).sum) t):BN f k r:=by
 have hf:vH r=false->f k=false:=λz=>by
  cases y:f k with
  | false=>rfl
  | true=>rw[h0 y] at z;cases z
 cases r <;> rw[BN]
 case say=>exact hf rfl
 case call=>exact hf rfl
 case within l b=>simpa [af] using h1 0 b rfl
 case all l b=>exact⟨hf rfl,by simpa [af] using h1 0 b rfl⟩
 case again b=>exact⟨hf rfl,by simpa [af] using h1 0 b rfl⟩
 case ask l b e=>exact⟨hf rfl,by simpa [af] using h1 0 b rfl,by simpa [af] using h1 1 e rfl⟩
 case either b e=>exact⟨hf rfl,by simpa [af] using h1 0 b rfl,by simpa [af] using h1 1 e rfl⟩
 case gQ s t a b c=>exact⟨hf rfl,by simpa [af] using h1 0 a rfl,by simpa [af] using h1 1 b rfl,by have:=h1 2 c rfl;simpa [af,QN] using this⟩
theorem B7:∀(F:Nat)(l:List Row)(k:Nat),a8 l<=F->(∀st kk lot r,gK l st=some lot->lot[kk]?=some r->f (k+idx st kk l)=true->vH r=true)->wx f k l
 | 0,l,k,hn,_=>by cases l <;> rw[a8] at hn <;> lia
 | F+1,[],k,_,_=>by rw[wx];trivial
 | F+1,r::rs,k,hn,h=>by
  rw[a8] at hn;rw[wx];refine⟨HQ (λz=>h [] 0 (r::rs) r rfl rfl (by simpa [idx,aj] using z)) λj t e=>?_,B7 (F+1) rs (k+cnt r) (by lia) λst kk lot q e1 e2 z=>?_⟩
  ·have htm:=fm (PX e);refine B7 F t _ (by lia) λst kk lot q e1 e2 z=>?_;refine h ((0,j)::st) kk lot q ?_ e2 ?_
   ·show((JZ (r::rs) (0,j)).bind λl=>gK l st)=_;rw[show JZ (r::rs) (0,j)=some t from e];exact e1
   ·have:idx ((0,j)::st) kk (r::rs)=1+(((af r).take j).map aj).sum+idx st kk t:=by
     simp only[idx,List.take_zero,aj,Uy,e,QL]
    rw[this];rw[<-z];congr 1
    lia
  ·cases st with
   | nil=>
    cases e1;refine h [] (kk+1) (r::rs) q rfl e2 ?_;rw[<-z];congr 1;rw[idx,idx,RE,aj]
    lia
   | cons s st=>
    refine h ((s.1+1,s.2)::st) kk lot q e1 e2 ?_;rw[<-z];congr 1;obtain⟨i,j⟩:=s;simp only[idx,RE,aj,Rf]
    lia
theorem Hy{A:Ln->List Ln}(H:E4 f A)(hA:∀x,A (iM x)=[iM x]):∀(ds:List cf)(k:Nat),(∀d∈ds,a8 d.2.2<=8)->(∀j d,ds[j]?=some d->wx f (k+aU (ds.take j)) d.2.2)->(bg 8 k ds).flatMap A=bg 8 k (eV f k ds)
 | [],k,_,_=>rfl
 | d::ds,k,hn,hw=>by
  have h1:=jn H 8 k d.2.2 (hn d (.head _)) (by simpa [aU] using hw 0 d rfl);have h2:=Hy H hA ds (k+aj d.2.2) (λe he=>hn e (.tail _ he)) λj e he=>by
   have:=hw (j+1) e he;rw[RE,ck] at this;rw[QN];exact this
  rw[eV,bg,bg];simp only[Sr,TB,hA,h1,h2,bx];rfl
theorem MV{A:Ln->List Ln}(H:E4 f A)(hA:∀x,A (iM x)=[iM x]){P:Prog}(hP:E2 P)(hw:∀n,f n=true->Lc P n):(rC P).flatMap A=rC (wk f P):=by
 have hd:=Hy H hA P.ai 0 (λd hd=>P6 (hP.nd d hd) (by decide)) λj d e=>by
  refine B7 _ d.2.2 _ (PZ _) λst kk lot r e1 e2 z=>?_;have B:At P (0+aU (P.ai.take j)+idx st kk d.2.2) j st kk lot r d:=⟨e,e1,e2,by rw[QL]⟩;obtain⟨j',st',k',lot',lk,b,d',A'⟩:=hw _ z;have:=B.place.symm.trans A'.place;have:r=.within lk b:=congrArg (·.2.2) (Option.some.inj this);rw[this];rfl
 unfold rC;rw[Sr,hA,hd];rfl
end
theorem starts_app(p y:Str):Txt.startswith (p++y) p=true:=by
 have l:(p++y).length=p.length+y.length:=Qu p y;have e:(p++y).cps.extract 0 (0+p.length)=p.cps:=by
  apply Array.ext';rw[Array.toList_extract];show List.extract (p.cps++y.cps).toList 0 (0+p.length)=_;rw[RG,QL];show((p.cps.toList++y.cps.toList).drop 0).take (p.length-0)=_;rw[Ts,TJ];exact List.take_left' (Q2)
 unfold Txt.startswith Builtin.Str.subAt;rw[e,l,Qw];exact⟨Qx (by lia),by simp⟩
theorem CU{α:Type}:∀(a b:List α),(List.range b.length).filterMap (λk=>(a++b)[a.length+k]?)=b:=by
 intro a b;have:∀k,(a++b)[a.length+k]?=b[k]?:=λk=>by rw[Qa (Qr _ _),Sf]
 simp only[this]
 induction b with
 | nil=>rfl
 | cons x b ih=>
  rw[P2,UE,QW,RN];simp only[Uy];congr 1;have:((λk=>(x::b)[k]?)∘Nat.succ)=λk=>b[k]?:=by funext k;simp
  rw[this];exact ih λk=>by rw[Qa (Qr _ _),Sf]
theorem AQ(p y:Str)(hp:0 < p.length):Txt.slice (p++y) (some (p.length:Int)) none=y:=by
 have l:(p++y).length=p.length+y.length:=Qu p y;have ei:Builtin.Str.strSliceIndices (some (p.length:Int)) none 1 (p++y).length=(List.range y.length).map (p.length+·):=by
  rw[l];unfold Builtin.Str.strSliceIndices sliceRange;simp only[show(1:Int) > 0 by decide,Sj];rw[P7 (show ¬((p.length:Int) < 0) by lia),show max (0:Int) (min (p.length:Int) ((p.length+y.length:Nat):Int))=p.length by lia];have e1:(if(p.length:Int) < ((p.length+y.length:Nat):Int) then(((p.length+y.length:Nat):Int)-(p.length:Int)+1-1) / 1 else 0).toNat=y.length:=by
   split
   ·rw[TU];lia
   ·lia
  rw[e1];exact Tz λk _=>by lia
 unfold Txt.slice;rw[ei,PU,Qy,P7 (by rw[l];simp;lia),RN];have e:(p++y).cps=p.cps++y.cps:=rfl;have:(λk=>(p++y).cps[k]?)∘(p.length+·)=λk=>(p.cps.toList++y.cps.toList)[p.cps.toList.length+k]?:=by
  funext k
  rw[e];show(p.cps++y.cps)[p.length+k]?=_;rw[<-UK,RG,Q2];rfl
 rw[this];have hy:y.length=y.cps.toList.length:=Q2.symm;rw[hy,CU]
noncomputable def hG(f:Int->Bool)(x:Ln):List Ln:=
 if f x.1=true then(if Txt.startswith x.2 "within "=true then[(x.1,("ask ":Str)++Txt.slice x.2 (some 7) none)] else[(x.1,"or"),x]) else[x]
theorem yk:(Str.ofString "within ":Str)=Str.ofString "within"++Str.ofString " ":=by decide+kernel
theorem GU:(Str.ofString "ask ":Str)=Str.ofString "ask"++Str.ofString " ":=by decide+kernel
theorem OQ{f:Nat->Bool}{g:Int->Bool}(h:∀k:Nat,g (k:Int)=f k):E4 f (hG g):=by
 refine⟨λk x z=>?_,λk l b c z=>?_,λk z=>?_⟩
 ·unfold hG;rw[P7 (by show ¬g (k:Int)=true;rw[h,z];simp)]
 ·unfold hG;have e:bo (.within l b)=Str.ofString "within "++fH l:=by rw[yk];rfl
  rw[P0 (by show g (k:Int)=true;rw[h,z])];dsimp only;rw[e,P0 (starts_app _ _)];have:=AQ (Str.ofString "within ") (fH l) (by decide+kernel);rw[show((Str.ofString "within ").length:Int)=7 by decide+kernel] at this;rw[this,GU];rfl
 ·unfold hG;rw[P0 (by show g (k:Int)=true;rw[h,z]),P7 (by show ¬Txt.startswith (Str.ofString "end") (Str.ofString "within ")=true;decide+kernel)];rfl
theorem qZ:∀b:List Nat,lF (b.map aZ)=some (b.map λ(n:Nat)=>PyData.int (n:Int))
 | []=>rfl
 | k::r=>by
  show(tQ (aZ k)).bind (λa=>(lF (r.map aZ)).map λbs=>a::bs)=_;rw[qZ r];rfl
theorem lq:∀b:List Nat,PyData.depthAll (b.map λ(n:Nat)=>PyData.int (n:Int))<=2
 | []=>by simp[PyData.depthAll]
 | k::r=>by
  have:=lq r;simp only[Qc,PyData.depthAll,PyData.depth]
  lia
noncomputable def wB(S:List Nat)(i:Int):Bool:=S.any λs=>(s:Int)==i
theorem Aa(S:List Nat)(k:Nat):wB S (k:Int)=decide (k∈S):=by
 unfold wB;rw[Rh,List.any_eq_true,decide_eq_true_iff];constructor
 ·rintro⟨x,hx,e⟩;have:x=k:=by have:=eq_of_beq e;lia
  exact this ▸ hx
 ·intro hx;exact⟨k,hx,by simp⟩
theorem rV(i:Int)(S:List Nat)(h:MH):La (.int i) (.tup (S.map aZ)) h=some (.bl (wB S i),h):=by
 have e2:inD (.int i) (.tup (S.map aZ)) h=some (wB S i):=by
  show((lF (S.map aZ)).bind λbs=>if(PyData.int i).depth<=60/\PyData.depthAll bs<=60 then some (bs.any λx=>PyData.eqv x (.int i)) else none)=_;rw[qZ];show(if(PyData.int i).depth<=60/\PyData.depthAll (S.map λ(n:Nat)=>PyData.int (n:Int))<=60 then some ((S.map λ(n:Nat)=>PyData.int (n:Int)).any λx=>PyData.eqv x (.int i)) else none)=_;rw[P0 ⟨by simp[PyData.depth],P6 (lq S) (by decide)⟩,List.any_map];rfl
 unfold La;rw[e2];rfl
theorem ER(g:Int->Bool)(x:Ln):(hG g x).length<=2:=by
 unfold hG
 split
 ·split <;> simp
 ·simp
theorem we(g:Int->Bool):∀L:List Ln,(L.flatMap (hG g)).length<=2*L.length
 | []=>PZ _
 | x::L=>by
  have:=we g L;have:=ER g x;rw[Sr,Qb,P2]
  lia
theorem x9(L:List Ln)(hl:L.length<=10000)(hs:∀x∈L,x.2.length<=1000)(S:List Nat)(h:MH):jf [.lv (L.map jH),.tup (S.map aZ)] h=some (.lv ((L.flatMap (hG (wB S))).map jH),h):=by
 refine bM (mm ?_);nofun;refine dU ?_;nofun;refine⟨_,_,rfl,?_⟩;refine cU (λi δ h'=>∃(o3 o4:Option D),δ=[some (.lv (L.map jH)),some (.tup (S.map aZ)),some (.ob h.length),o3,o4]/\h'=h++[.lst (((L.take i).flatMap (hG (wB S))).map jH)])
  ⟨_,_,rfl,rfl⟩ (λ_ _ _ _ _=>rfl) ?_ ?_
 ·rintro i x δ h' hx ⟨o3,o4,rfl,rfl⟩;rw[Qg] at hx;obtain⟨⟨a,w⟩,ey,rfl⟩:=Qo.mp hx;have hi:i < L.length:=(PV.mp ey).1;have hw:=hs _ (PX ey);have htk:(L.take (i+1)).flatMap (hG (wB S))=(L.take i).flatMap (hG (wB S))++hG (wB S) (a,w):=by rw[RW,ey,TB];show _++[(a,w)].flatMap _=_;rw[List.flatMap_singleton]
  have hX:=we (wB S) (L.take i);rw[Qj] at hX;rw[htk];generalize (L.take i).flatMap (hG (wB S))=X at*;have hat:(h++[MO.lst (X.map jH)])[h.length]?=some (.lst (X.map jH)):=by rw[Qa (PZ _),Rm];rfl
  show Rn (gT 2 _ (.tup [.int a,.str w]) _ _) _;nofun;refine rv (rV a S _) ?_;nofun;refine⟨_,rfl,λz=>?_,λz=>⟨λy=>(nomatch y),λ_=>?_⟩⟩
  ·nofun;refine gA ?_;nofun;refine⟨rfl,?_⟩;nofun;have wl:w.length<=1000:=hw;refine rv (a:=(.bl (Txt.startswith w "within "),_)) rfl ⟨_,rfl,λy=>?_,λy=>?_⟩
   ·have ea:hG (wB S) (a,w)=[(a,("ask ":Str)++Txt.slice w (some 7) none)]:=by unfold hG;rw[P0 z,P0 y]
    rw[ea];nofun;refine⟨_,rfl,rv rfl ?_⟩;refine rv (a:=(.str (Txt.slice w (some 7) none),_)) (show(if w.length<=sizeLine then some (D.str (Txt.slice w (some 7) none),_) else none)=_ from P0 (by rw[show sizeLine=16777216 from rfl];lia)) ?_;refine rv (bF (by rw[show(Str.ofString "ask ").length=4 by decide+kernel];have:=Ud w (some 7) none;lia)) ?_;nofun;refine gA ?_;nofun;refine⟨cq hat,?_⟩;nofun;refine rv (cc hat (by rw[PU,show sizeLine=16777216 from rfl];lia)) ?_;rw[qE rfl];nofun;exact⟨_,_,rfl,by rw[Ql];rfl⟩
   ·have ea:hG (wB S) (a,w)=[(a,("or":Str)),(a,w)]:=by unfold hG;rw[P0 z,P7 (by rw[y];simp)]
    rw[ea];nofun;refine rv (rV a S _) ⟨_,rfl,λ_=>?_,λy2=>(by rw[z] at y2;cases y2)⟩;nofun;refine gA ?_;nofun;refine⟨cq hat,?_⟩;nofun;refine rv (cc hat (by rw[PU,show sizeLine=16777216 from rfl];lia)) ?_;rw[qE rfl];have hat2:(h++[MO.lst (X.map jH++[D.tup [.int a,.str "or"]])])[h.length]?=some (.lst (X.map jH++[D.tup [.int a,.str "or"]])):=by rw[Qa (PZ _),Rm];rfl
    nofun;refine gA ?_;nofun;refine⟨cq hat2,?_⟩;nofun;refine rv (cc hat2 (by rw[Qb,PU,show sizeLine=16777216 from rfl];simp;lia)) ?_;rw[qE rfl];nofun;exact⟨_,_,rfl,by rw[Ql,QC];rfl⟩
  ·have ea:hG (wB S) (a,w)=[(a,w)]:=by unfold hG;rw[P7 (by rw[z];simp)]
   rw[ea];nofun;refine rv (rV a S _) ?_;nofun;refine⟨_,rfl,λy=>(by rw[z] at y;cases y),λ_=>?_⟩;nofun;refine gA ?_;nofun;refine⟨cq hat,?_⟩;nofun;refine rv (cc hat (by rw[PU,show sizeLine=16777216 from rfl];lia)) ?_;rw[qE rfl];nofun;exact⟨_,_,rfl,by rw[Ql];rfl⟩
 ·rintro δ h' ⟨o3,o4,rfl,rfl⟩;rw[PU,QT];nofun;exact rv (nY (Ew _ _)) rfl
abbrev OT:SM:=fN (ay fC (ah (aw 2) (ah (aw 3) aR))) (gT 3 (au (gN 4) (au (gN 5) (au (gN 6) bV))))
abbrev NL:TM:=aD (ao iD (ao aW (aw 6) (eK (.int 0))) (eK (.str "within")))
abbrev aX:XM:=E5 (K6 fA (ah (aw 2) (ah (aw 3) aR))) (wG OT (HM NL (ny "NoRow" (ah (eK (.str "the row of this number is no within")) aR)) Nq))
abbrev aS:SM:=aq OT (aq (gg NL qO cA) (aQ 2 (ay dg (ah (aw 2) (ah (aw 4) (ah (aw 5) (ah (ay aY (ah (ay jN (ah (aw 6) aR)) aR)) aR)))))))
theorem B4{a b:XM}{δ:DS}{h:MH}(e1:a δ h=none)(e2:b δ h=none):E5 a b δ h=none:=by unfold E5;rw[e1];exact e2
section
variable {W:Wd} {fl:List Int} {odd:Int} {m:Nat} {P:Prog} {n j k:Nat} {st:List (Nat×Nat)} {lot:List Row} {r:Row} {d:cf} {h:MH} {d0 d1 v4 v5 v6:Option D}
theorem Dl(hP:E2 P)(A:At P n j st k lot r d):OT [d0,d1,some (bp P),some (aZ n),v4,v5,v6] h=some (.nx,[d0,d1,some (bp P),some (aZ n),some (aZ j),some (FQ st k),some (az r)],h):=by
 refine bM ?_;nofun;refine rv (xh hP A.place h) ?_;nofun;rfl
theorem Cg(x0 x1 x2 x3 x4 x5:Option D):NL [x0,x1,x2,x3,x4,x5,some (az r)] h=some (!vH r,h):=by
 refine bM (iW ?_);nofun;refine rv (jV r h) ?_;nofun;cases r <;> exact⟨_,rfl,by ac_nf⟩
theorem MY(hP:E2 P)(A:At P n j st k lot r d)(hw:vH r=true):aX [d0,d1,some (bp P),some (aZ n),v4,v5,v6] h=none:=by
 refine B4 (qj hP A.place h) ?_;rw[zw (Dl hP A),B5 (Cg _ _ _ _ _ _),hw];rfl
theorem KP(hP:E2 P)(A:At P n j st k lot r d)(hw:vH r=false):aX [d0,d1,some (bp P),some (aZ n),v4,v5,v6] h=some (("NoRow":Str),h):=by
 refine bM (II (qj hP A.place h) ?_);refine CV (rv (Dl hP A) ⟨rfl,?_⟩);refine G9 (rv (Cg _ _ _ _ _ _) ⟨λ_=>w9 (cV (He (kB rfl))),λy=>?_⟩);rw[hw] at y;cases y
theorem KQ(hP:E2 P){z:Int}(hz:z < 0\/((placesFrom 0 P.ai).length:Int)<=z):aX [d0,d1,some (bp P),some (.int z),v4,v5,v6] h=some (("NoRow":Str),h):=
 bM (IJ (Ha (rv (a:=([bp P,.int z],h)) rfl (rv (Ff hP hz h) rfl))))
theorem MZ(ok:ly W fl odd)(o:BS W m P)(hm:m<=60){lk:Lock}{b:List Row}(A:At P n j st k lot (.within lk b) d):∃v4' v5' v6',aS [d0,d1,some (bp P),some (aZ n),v4,v5,v6] h=some (.nx,[d0,d1,some (bp (wk (λx=>x==n) P)),some (aZ n),v4',v5',v6'],h):=by
 have fit:=o.fit (by lia) ok.d2;obtain⟨g1,g2,g3,g4,g5,g6⟩:=Hx o A;refine⟨some (aZ j),some (FQ st k),some (az (.within lk b)),bM (fU (rv (Dl fit A) (qt (fU (xa (rv (Cg _ _ _ _ _ _) ⟨λy=>(nomatch y),λ_=>rv rfl ?_⟩))))))⟩;refine qt ?_;nofun;refine rv (uz lk b h) ?_;nofun;rw[zU];refine rv (gH (by show 1<=1000;decide) A.hd A.hl (by lia) g5 (by lia) fit.dl h) ?_;rw[A.ask];rfl
def ND(P:Prog)(z:Int):Prop:=(z < 0\/(aU P.ai:Int)<=z)\/∃n j st k lot r d,z=((n:Nat):Int)/\At P n j st k lot r d/\vH r=false
theorem B3(ok:ly W fl odd)(hm:m<=60)(tl:List D){z:Int}:∀(G:List Nat)(P:Prog)(v3 v4 v5 v6:Option D),BS W m P->G.Nodup->(∀n∈G,Lc P n)->ND P z->qk [] (gN 3) aX aS (G.map aZ++.int z::tl) [d0,d1,some (bp P),v3,v4,v5,v6] h=some (("NoRow":Str),h)
 | [],P,v3,v4,v5,v6,o,_,_,hb=>by
  have fit:=o.fit (by lia) ok.d2;show((match aX [d0,d1,some (bp P),some (.int z),v4,v5,v6] h with | some p=>some p | none=>_):Option (Str×MH))=_;rcases hb with hb |⟨n,j,st,k,lot,r,d,rfl,A,hw⟩
  ·rw[KQ fit (by rw[cF];exact hb)]
  ·rw[show aX [d0,d1,some (bp P),some (.int (n:Int)),v4,v5,v6] h=_ from KP fit A hw]
 | n::G,P,v3,v4,v5,v6,o,hn,hw,hb=>by
  have fit:=o.fit (by lia) ok.d2;obtain⟨hn1,hn2⟩:=SJ.mp hn;obtain⟨j,st,k,lot,lk,b,d,A⟩:=hw n (.head _);obtain⟨v4',v5',v6',es⟩:=MZ (d0:=d0) (d1:=d1) (v4:=v4) (v5:=v5) (v6:=v6) (h:=h) ok o hm A;have ih:=B3 ok hm tl G (wk (λx=>x==n) P) (some (aZ n)) v4' v5' v6' (DG o) hn2 (λq hq=>by
   obtain⟨j,st,k,lot,lk,b,d,B⟩:=hw q (.tail _ hq);obtain⟨lot',_,B'⟩:=B.as (f:=λx=>x==n);rw[b8,P7 (by simp;exactλe=>hn1 (e ▸ hq))] at B';exact⟨_,_,_,_,_,_,_,B'⟩) (by
   rcases hb with hb |⟨q,j,st,k,lot,r,d,e,B,hw⟩
   ·refine .inl ?_;rw[show aU (wk (λx=>x==n) P).ai=aU P.ai from(qh P.ai 0).2];exact hb
   ·obtain⟨lot',_,B'⟩:=B.as (f:=λx=>x==n);refine .inr ⟨q,j,st,k,lot',_,_,e,B',?_⟩;cases r <;> first |(cases hw;done) |(rw[b8];rfl))
  show((match aX [d0,d1,some (bp P),some (aZ n),v4,v5,v6] h with | some p=>some p | none=>(aS [d0,d1,some (bp P),some (aZ n),v4,v5,v6] h).bind _):Option (Str×MH))=_;rw[MY fit A rfl];dsimp only;rw[es];exact ih
theorem Fg(ok:ly W fl odd)(o:BS W m P)(hm:m<=60){G:List Nat}{z:Int}{tl:List D}(nd:G.Nodup)(hw:∀n∈G,Lc P n)(hb:ND P z):fS [bp P,.tup (G.map aZ++.int z::tl)] h=some (("NoRow":Str),h):=by
 have:=B3 ok hm tl (z:=z) (d0:=some (bp P)) (d1:=some (.tup (G.map aZ++.int z::tl))) (h:=h) G P none none none none o nd hw hb;exact this
end
def Dp(n:Nat)(d:D):Prop:=∃p,tQ d=some p/\p.depth<=n/\PyData.eqv p p=true
def BU(n:Nat)(xs:List D):Prop:=∃ps,lF xs=some ps/\PyData.depthAll ps<=n/\PyData.eqvAll ps ps=true
theorem BU.nil{n:Nat}:BU n []:=⟨[],rfl,by simp[PyData.depthAll],rfl⟩
theorem BU.cons{n:Nat}{x:D}{xs:List D}(a:Dp n x)(b:BU n xs):BU n (x::xs):=by
 obtain⟨p,e1,e2,e3⟩:=a;obtain⟨ps,f1,f2,f3⟩:=b;refine⟨p::ps,?_,?_,?_⟩
 ·show(tQ x).bind (λa=>(lF xs).map λb=>a::b)=_;rw[e1,f1];rfl
 ·rw[PyData.depthAll];exact Nat.max_le.mpr ⟨e2,f2⟩
 ·rw[PyData.eqvAll,e3,f3];rfl
theorem BU.map{α:Type}{n:Nat}{f:α->D}:∀{xs:List α},(∀x∈xs,Dp n (f x))->BU n (xs.map f)
 | [],_=>BU.nil
 | x::xs,h=>BU.cons (h x P1) (BU.map λy hy=>h y (P4 _ hy))
theorem Dp.lv{n:Nat}{xs:List D}(a:BU n xs):Dp (n+1) (.lv xs):=by
 obtain⟨ps,f1,f2,f3⟩:=a;refine⟨.list ps,?_,?_,?_⟩
 ·show(lF xs).map _=_;rw[f1];rfl
 ·rw[PyData.depth];exact Sz f2
 ·rw[PyData.eqv];exact f3
theorem Dp.str{n:Nat}(w:Str):Dp n (.str w):=⟨.str w,rfl,by simp[PyData.depth],by simp[PyData.eqv]⟩
theorem Ep{t:TM}{tl:DS}{h:MH}{p:Nat->Bool}:∀(ns:List Nat)(o:Option D),(∀n∈ns,t (some (aZ n)::tl) h=some (p n,h))->bC [] (gN 0) t (aw 0) (ns.map aZ) (o::tl) h=some ((ns.filter p).map aZ,h)
 | [],o,_=>rfl
 | x::ns,o,ht=>by
  have ih:=Ep ns (some (aZ x)) λn hn=>ht n (.tail _ hn);rw[Qc,Q7];unfold bC;rw[P0 (show mV [] h=true from rfl)];show((t (some (aZ x)::tl) h).bind _)=_;rw[ht x (.head _)];cases p x with
  | true=>exact congrArg (Option.map λw:List D×MH=>(aZ x::w.1,w.2)) ih
  | false=>exact ih
theorem Cy{T:List Nat}(nd:T.Nodup){z:Int}(hz:∀n∈T,(n:Int)≠z):∃(G:List Nat)(tl:List Int),dC (T.map (λn:Nat=>(n:Int))++[z])=G.map (λn:Nat=>(n:Int))++z::tl/\G.Nodup/\∀n∈G,n∈T:=by
 have hp:=fh (T.map (λn:Nat=>(n:Int))++[z]);have hn:(dC (T.map (λn:Nat=>(n:Int))++[z])).Nodup:=hp.nodup_iff.mpr (by
  rw[RX];refine⟨?_,by simp,?_⟩
  ·exact List.Pairwise.map _ (λa b h e=>h (by lia)) nd
  ·intro a ha b hb;obtain⟨n,hn,rfl⟩:=QG.mp ha;rw[Qd.mp hb];exact hz n hn)
 have hmem:z∈dC (T.map (λn:Nat=>(n:Int))++[z]):=hp.mem_iff.mpr (Qm _ (.head _));have hall:∀x∈dC (T.map (λn:Nat=>(n:Int))++[z]),x=z\/∃n∈T,x=(n:Int):=λx hx=>by
  rcases Qk.mp (hp.mem_iff.mp hx) with h | h
  ·obtain⟨n,hn,rfl⟩:=QG.mp h;exact .inr ⟨n,hn,rfl⟩
  ·exact .inl (Qd.mp h)
 generalize dC (T.map (λn:Nat=>(n:Int))++[z])=L at*;obtain⟨A,B,rfl⟩:=List.append_of_mem hmem;rw[RX] at hn;obtain⟨n1,n2,n3⟩:=hn;have hA:∀x∈A,∃n∈T,x=(n:Int):=λx hx=>(hall x (QV _ hx)).resolve_left λe=>n3 x hx z (.head _) e;clear hmem hall n2 n3 hp;have:∃G:List Nat,A=G.map (λn:Nat=>(n:Int))/\∀n∈G,n∈T:=by
  clear n1
  induction A with
  | nil=>exact⟨[],rfl,λn hn=>(nomatch hn)⟩
  | cons a A ih=>
   obtain⟨G,e,g⟩:=ih λx hx=>hA x (.tail _ hx);obtain⟨n,hn,rfl⟩:=hA a (.head _);exact⟨n::G,by rw[e];rfl,λq hq=>(P5.mp hq).elim (λe=>e ▸ hn) (g q)⟩
 obtain⟨G,rfl,g⟩:=this;refine⟨G,B,rfl,?_,g⟩;exact List.Pairwise.imp (λh e=>h (by rw[e])) (U1.mp n1)
theorem xp(l:Nat)(S:List Nat)(h:MH):gY (aZ l) (.lv (S.map aZ)) h=some (.bl (!decide (l∈S)),h):=by
 have e2:inD (aZ l) (.lv (S.map aZ)) h=some (decide (l∈S)):=by
  show((lF (S.map aZ)).bind λbs=>if(PyData.int (l:Int)).depth<=60/\PyData.depthAll bs<=60 then some (bs.any λx=>PyData.eqv x (.int (l:Int))) else none)=_;rw[qZ];show(if(PyData.int (l:Int)).depth<=60/\PyData.depthAll (S.map λ(n:Nat)=>PyData.int (n:Int))<=60 then some ((S.map λ(n:Nat)=>PyData.int (n:Int)).any λx=>PyData.eqv x (.int (l:Int))) else none)=_;rw[P0 ⟨by simp[PyData.depth],P6 (lq S) (by decide)⟩,List.any_map,<-Aa];rfl
 unfold gY;rw[e2];rfl
noncomputable def wH(P:Prog)(n:Nat):Bool:=match (placesFrom 0 P.ai)[n]? with
 | some x=>vH x.2.2
 | none=>false
theorem Fs{P:Prog}(hP:OV P){n:Nat}(hn:n < aU P.ai)(h:MH):∃r,fK [.lv ((rC P).map jH),.int (n:Int)] h=some (.str (bQ r),h)/\wH P n=vH r:=by
 have hD:∀d∈P.ai,Nx d:=λd hd=>⟨P6 (hP.fit.nd d hd) (by decide),(hP.dd d hd).2.2.2⟩;obtain⟨r,f,⟨pre,post,_,e1,e2,_⟩,⟨j,path,e3⟩,hs,_,_⟩:=Ht P.ai 0 n 0 (RJ _) (by lia) hD;have hl:=gL 8 0 P.ai;have:=hP.dl;have ct:aU P.ai<=900:=hP.ct;refine⟨r,Fq hs (L:=rC P) (pre:=iM (Str.join (Str.ofString " ") (Str.ofString "locks"::P.names))::pre) (by rw[rC,e1];rfl) (λx hx=>?_) (by rw[rC,P2];lia) h,?_⟩
 ·rcases P5.mp hx with rfl | hx
  ·show(-1:Int)≠n;lia
  ·exact e2 x hx
 ·unfold wH;rw[TJ] at e3;rw[e3]
theorem Fh{P:Prog}{n:Nat}(h:wH P n=true):Lc P n:=by
 unfold wH at h;cases e:(placesFrom 0 P.ai)[n]? with
 | none=>rw[e] at h;cases h
 | some x=>
  rw[e] at h;have hi:n < aU P.ai:=by
   have:=(PV.mp e).1
   rwa [cF] at this
  obtain⟨j,st,k,lot,r,d,A⟩:=at_of hi;have hp:=A.place;rw[e] at hp;cases hp;cases r with
  | within lk b=>exact⟨j,st,k,lot,lk,b,d,A⟩
  | _=>cases h
theorem HP{P:Prog}{n:Nat}(h:wH P n=true):n < aU P.ai:=by
 unfold wH at h;cases e:(placesFrom 0 P.ai)[n]? with
 | none=>rw[e] at h;cases h
 | some x=>
  have:=(PV.mp e).1
  rwa [cF] at this
theorem ua(z:Int):∀T:List Nat,jm (T.map aZ++[D.int z])=some (T.map (λn:Nat=>(n:Int))++[z])
 | []=>rfl
 | n::T=>by
  show(jm (T.map aZ++[D.int z])).map _=_;rw[ua z T];rfl
theorem KG{P:Prog}{n:Nat}(hn:n < aU P.ai)(h:wH P n=false):ND P (n:Int):=by
 obtain⟨j,st,k,lot,r,d,A⟩:=at_of hn;refine .inr ⟨n,j,st,k,lot,r,d,rfl,A,?_⟩;unfold wH at h;rw[A.place] at h;exact h
theorem Gi(ws:List Str)(h:MH):iD (.lv (ws.map D.str)) (.lv (ws.map D.str)) h=some (.bl false,h):=by
 obtain⟨p,e1,e2,e3⟩:=Dp.lv (n:=63) (BU.map (f:=D.str) (xs:=ws) λw _=>Dp.str w);show(Hn (.lv (ws.map D.str)) (.lv (ws.map D.str)) h).map _=_;unfold Hn;show(((tQ (.lv (ws.map D.str))).bind λa=>(tQ (.lv (ws.map D.str))).bind _).map _)=_;rw[e1];show((if p.depth<=64/\p.depth<=64 then some (PyData.eqv p p) else none).map _)=_;rw[P0 ⟨e2,e2⟩,e3];rfl
abbrev Cn:TM:=aD (ao cP (ay aP (ah (aw 1) (ah (eK (.int 2)) aR))) (eK (.int 0)))
theorem uc{H:MH}{cs:List Int}:∀(ws:List Nat)(R:Nat)(o:Option D)(h:MH),Sb 1 0 cs H (R+ws.length) h->Rn (bC [] (gN 0) Cn (aw 0) (ws.map aZ) [o,some (.ob 1)] h) λp=>∃S:List Nat,p.1=S.map aZ/\S.Sublist ws/\Sb 1 0 cs H R p.2
 | [],R,o,h,A=>⟨_,rfl,[],rfl,List.Sublist.refl _,A⟩
 | x::ws,R,o,h,A=>by
  have et:Rn (Cn [some (aZ x),some (.ob 1)] h) λp=>Sb 1 0 cs H (R+ws.length) p.2:=by
   refine iW ?_;nofun;refine fv (R:=R+ws.length) (A.le (by rw[P2];lia)) (by decide) (by decide) λm h1 _ _ A1=>?_;nofun;exact⟨_,rfl,A1⟩
  obtain⟨⟨c,h1⟩,et,A1⟩:=et;obtain⟨⟨ys,h2⟩,e2,S,rfl,hs,A2⟩:=uc ws R (some (aZ x)) h1 A1;rw[Qc];unfold bC;rw[P0 (show mV [] h=true from rfl)];show Rn ((Cn [some (aZ x),some (.ob 1)] h).bind _) _;rw[et];cases c with
  | true=>exact⟨_,congrArg (Option.map λw:List D×MH=>(aZ x::w.1,w.2)) e2,x::S,rfl,hs.cons₂ x,A2⟩
  | false=>exact⟨_,e2,S,rfl,hs.cons x,A2⟩
theorem MP{h:MH}{s c R:Nat}{cs:List Int}{Q:D×MH->Prop}(S:St s c cs (R+6200) h)(C:Cl h)(k:∀(W:Wd)(fl:List Int)(odd:Int)(m:Nat)(P:Prog)(h1:MH),m<=60->ly W fl odd->BS W m P->Sb s c cs h R h1->Cl h1->Q (bp P,h1)):Rn (lD [.ob s] h) Q:=by
 refine bU ?_;nofun;refine kJ (R:=R+6198+1) (is:=[4,8,12,20,40,60]) (λi=>0<=i/\i<=60) (by decide) S.sb λmost h1 hm _ A1=>?_;nofun;refine kJ (R:=R+6198) (is:=[0,2,5,9]) (λi=>0<=i/\i<=9) (by decide) A1 λodd h2 ho _ A2=>?_;nofun;obtain⟨m,rfl⟩:=Rg hm.1;refine BH (R:=R) (A2.le (by lia)) (C.but A2.S A2.b) ho.1 (by lia) λW fl P h3 ok okp A3 C3=>?_;nofun;exact k W fl odd m P h3 (by lia) ok okp A3 C3
theorem PR(cs:List Int):Cl [.lst (cs.map D.int),.lst [.int 0,.ob 0,.int 0]]:=by
 intro o ho;rcases P5.mp ho with rfl | ho
 ·exact fu _ D.int (λ_=>rfl) _
 ·rw[Qd.mp ho];rfl
theorem law_true(ns:List Int)(hn:ns.length<=63):∃h',yf [.ro (ns.map D.int)] []=some (.bl true,h'):=by
 have e:Rn (yf [.ro (ns.map D.int)] []) λp=>p.1=.bl true:=by
  obtain⟨cs,ed,S0⟩:=zc ns hn 20000 (by decide);refine bU ?_;nofun;refine rv ed ?_;nofun;refine gj ?_;nofun;refine⟨2,rfl,by decide,by decide,?_⟩;refine cU (λi δ h=>∃(v2 v3 v4 v5 v6 v7 v8 v9 v10 v11:Option D),δ=[some (.ro (ns.map D.int)),some (.ob 1),v2,v3,v4,v5,v6,v7,v8,v9,v10,v11]/\St 1 0 cs (20000-6600*i) h/\Cl h)
   ⟨_,_,_,_,_,_,_,_,_,_,rfl,S0,PR cs⟩ (λ_ _ _ _ _=>rfl) ?_ ?_
  ·rintro i x δ h hx ⟨v2,v3,v4,v5,v6,v7,v8,v9,v10,v11,rfl,S,C⟩;have hi:i < 2:=by
    have:=(PV.mp hx).1
    simpa using this
   nofun;refine MP (R:=20000-6600*(i+1)+400) (S.le (by lia)) C λW fl odd m P h1 hm ok o A1 C1=>?_;have hP:=zP ok o hm;have h60:aU P.ai<=60:=P6 o.ct hm;have hD:∀d∈P.ai,Nx d:=λd hd=>⟨P6 (hP.fit.nd d hd) (by decide),(hP.dd d hd).2.2.2⟩;have hsg:=Ip P.ai 0 hD;have hsh:=xP P.ai 0 hP.dd;have hlen:=gL 8 0 P.ai;have hdl:=hP.dl;have ln1000:∀x∈rC P,x.2.length<=1000:=λx hx=>by
    rcases P5.mp hx with rfl | hx
    ·refine P6 (Sh.join (n:=8) gv λy hy=>?_).1 (by rw[P2];have:=hP.nl;lia);rcases P5.mp hy with rfl | hy
     ·exact⟨by decide+kernel,by decide+kernel⟩
     ·exact hP.nm y hy
    ·exact(hsh x hx).1
   have hPl:(rC P).length<=6000:=by rw[rC,P2];lia
   nofun;refine rv (xB hP h1) ?_;nofun;refine rv (qq (rC P) (by lia) h1) ?_;nofun;obtain⟨m1,dp1,em⟩:=yR (iM (Str.join (Str.ofString " ") (Str.ofString "locks"::P.names))) (bg 8 0 P.ai) (by lia) hsh 0 (aU P.ai) (by rw[hsg.rn 0,QL]) h1;refine rv em ?_;nofun;refine gj ?_;nofun;refine⟨_,rfl,by lia,by lia,?_⟩;rw[RC];have hws:bC [] (gN 0) (aD (ao cP (ay fK (ah (aw 1) (ah (aw 0) aR))) (eK (.str "within")))) (aw 0) ((List.range (aU P.ai)).map aZ) [none,some (.lv ((rC P).map jH))] h1=some (((List.range (aU P.ai)).filter (wH P)).map aZ,h1):=by
    refine Ep _ none λn hn=>?_;obtain⟨r,e1,e2⟩:=Fs hP (Q1.mp hn) h1;rw[e2];refine bM (iW ?_);nofun;refine rv e1 ?_;nofun;cases r <;> exact⟨_,rfl,by ac_nf⟩
   have wn:((List.range (aU P.ai)).filter (wH P)).Nodup:=List.nodup_range.filter _;have ww:∀n∈(List.range (aU P.ai)).filter (wH P),wH P n=true:=λn hn=>(SK.mp hn).2;have wm:∀n,n < aU P.ai->n∉(List.range (aU P.ai)).filter (wH P)->wH P n=false:=λn hn z=>by
    cases e:wH P n with
    | false=>rfl
    | true=>exact absurd (SK.mpr ⟨Q1.mpr hn,e⟩) z
   have wl:((List.range (aU P.ai)).filter (wH P)).length<=60:=P6 (Sy _ _) (by rw[Qy];exact h60);generalize (List.range (aU P.ai)).filter (wH P)=ws at hws wn ww wm wl;refine rv hws ⟨by rw[PU,show sizeLine=16777216 from rfl];lia,?_⟩;nofun;refine gj ?_;nofun;refine⟨_,rfl,by lia,by lia,?_⟩;rw[RC];have hos:bC [] (gN 0) (aD (ao gY (aw 0) (aw 1))) (aw 0) ((List.range (aU P.ai)).map aZ) [none,some (.lv (ws.map aZ))] h1=some (((List.range (aU P.ai)).filter λn=>!decide (n∈ws)).map aZ,h1):=by
    refine Ep _ none λn _=>?_;refine bM (iW ?_);nofun;exact rv (xp n ws h1) ⟨_,rfl,rfl⟩
   refine rv hos ⟨by rw[PU,show sizeLine=16777216 from rfl];have:=Sy (λn=>!decide (n∈ws)) (List.range (aU P.ai));rw[Qy] at this;lia,?_⟩;nofun;have hol:((List.range (aU P.ai)).filter λn=>!decide (n∈ws)).length<=60:=P6 (Sy _ _) (by rw[Qy];exact h60);have hob:∀n∈(List.range (aU P.ai)).filter λn=>!decide (n∈ws),n < aU P.ai/\n∉ws:=λn hn=>by
    obtain⟨a,b⟩:=SK.mp hn;exact⟨Q1.mp a,by simpa using b⟩
   generalize (List.range (aU P.ai)).filter (λn=>!decide (n∈ws))=os at hol hob;refine rv (mP rfl (by rw[PU];simp;lia)) ?_;nofun;refine dU ?_;nofun;have hz0:∀x∈os.map aZ++[D.int (aU P.ai),D.int ((aU P.ai:Int)+7),D.int (-1)],∃z:Int,x=.int z/\ND P z/\∀n∈ws,(n:Int)≠z:=by
    intro x hx;rcases Qk.mp hx with hx | hx
    ·obtain⟨n,hn,rfl⟩:=QG.mp hx;exact⟨n,rfl,KG (hob n hn).1 (wm n (hob n hn).1 (hob n hn).2),λk hk e=>(hob n hn).2 ((show k=n by lia) ▸ hk)⟩
    ·have hlt:∀k∈ws,k < aU P.ai:=λk hk=>HP (ww k hk);rcases P5.mp hx with rfl | hx
     ·exact⟨_,rfl,.inl (.inr (by lia)),λk hk e=>by have:=hlt k hk;lia⟩
     rcases P5.mp hx with rfl | hx
     ·exact⟨_,rfl,.inl (.inr (by lia)),λk hk e=>by have:=hlt k hk;lia⟩
     rw[Qd.mp hx];exact⟨_,rfl,.inl (.inl (by decide)),λk hk e=>by lia⟩
   have ol0:0 < (os.map aZ++[D.int (aU P.ai),D.int ((aU P.ai:Int)+7),D.int (-1)]).length:=by simp
   have ol1:(os.map aZ++[D.int (aU P.ai),D.int ((aU P.ai:Int)+7),D.int (-1)]).length<=1000000:=by rw[Qb,PU];simp;lia
   generalize os.map aZ++[D.int (aU P.ai),D.int ((aU P.ai:Int)+7),D.int (-1)]=zs at hz0 ol0 ol1 ⊢;refine rv (a:=(.tup (ws.map aZ),h1)) rfl ?_;nofun;refine dU ?_;nofun;refine⟨_,_,rfl,?_⟩;refine(uc ws (20000-6600*(i+1)+300) none h1 (A1.S.sb.le (by lia))).imp ?_;rintro⟨_,h2⟩ ⟨S',rfl,hs,A2⟩;dsimp only at A2 ⊢;have hsl:=hs.length_le;refine⟨by rw[PU,show sizeLine=16777216 from rfl];lia,?_⟩;have C2:=C1.but A2.S A2.b;nofun;refine rv (a:=(.tup (S'.map aZ),h2)) rfl ?_;nofun;refine⟨[[],ws,S'].map (λT:List Nat=>D.tup (T.map aZ)),_,rfl,?_⟩;refine cU (λj δ h=>∃(u8 u9 u10 u11:Option D),δ=[some (.ro (ns.map D.int)),some (.ob 1),some x,some (bp P),some (.lv ((rC P).map jH)),some (.int (aU P.ai)),some (.lv (ws.map aZ)),some (.lv zs),u8,u9,u10,u11]/\Sb 1 0 cs h2 (20000-6600*(i+1)+10+(3-j)) h)
    ⟨_,_,_,_,rfl,A2.S.sb.le (by lia)⟩ (λ_ _ _ _ _=>rfl) ?_ ?_
   ·rintro j y δ h3 hy ⟨u8,u9,u10,u11,rfl,A3⟩;rw[Qg] at hy;obtain⟨T,eT,rfl⟩:=Qo.mp hy;have hj:j < 3:=by have:=(PV.mp eT).1;simpa using this
    have hTs:T.Sublist ws:=by
     have hm':=PX eT;rcases P5.mp hm' with rfl | hm'
     ·exact List.nil_sublist _
     rcases P5.mp hm' with rfl | hm'
     ·exact List.Sublist.refl _
     rw[Qd.mp hm'];exact hs
    clear hy eT;have hTn:=hTs.nodup wn;have hTw:∀n∈T,Lc P n:=λn hn=>Fh (ww n (hTs.subset hn));have hTl:=hTs.length_le;have fit:=o.fit (by exact P6 hm (by decide)) ok.d2;have eA:(rC P).flatMap (hG (wB T))=rC (wk (λx=>decide (x∈T)) P):=MV (OQ λk=>Aa T k) (λx=>by
     unfold hG;rw[P7];show ¬wB T (-1)=true;unfold wB;rw[List.any_eq_true];rintro⟨k,_,e⟩;have:=eq_of_beq e
     lia) fit λn hn=>hTw n (QX hn)
    have ea:=x9 (rC P) (by lia) ln1000 T h3;have hLl:=we (wB T) (rC P);rw[eA] at ea hLl;have hPa:=zP ok (DG (f:=λx=>decide (x∈T)) o) hm;have eq1:=λh=>EO ok o hm hTn hTw (by lia) h;generalize wk (λx=>decide (x∈T)) P=L at*;nofun;refine rv ea ?_;nofun;refine rv (qq (rC L) (by lia) h3) ?_;nofun;refine gj ?_;nofun;refine⟨2,rfl,by decide,by decide,?_⟩;refine cU (λ_ δ h=>∃(u10:Option D),δ=[some (.ro (ns.map D.int)),some (.ob 1),some x,some (bp P),some (.lv ((rC P).map jH)),some (.int (aU P.ai)),some (.lv (ws.map aZ)),some (.lv zs),some (.tup (T.map aZ)),some (.lv ((rC L).map λx=>.str x.2)),u10,u11]/\h=h3)
     ⟨_,rfl,rfl⟩ (λ_ _ _ _ _=>rfl) ?_ ?_
    ·rintro _ _ δ h4 _ ⟨u10,rfl,rfl⟩;nofun;refine rv (eq1 _) ?_;nofun;refine rv (xB hPa _) ?_;nofun;refine rv (qq (rC L) (by lia) _) ?_;nofun;have en:=Gi ((rC L).map (·.2)) h4;rw[Q9] at en;refine rv en ⟨false,rfl,λy=>(nomatch y),λ_=>?_⟩;nofun;exact⟨_,rfl,rfl⟩
    ·rintro δ h4 ⟨u10,rfl,rfl⟩;nofun;refine EB (R:=20000-6600*(i+1)+10+(3-(j+1))) (A3.le (by lia)) (.inl rfl) ol0 ol1 λw h5 hw A5=>?_;obtain⟨z,rfl,hb,hzw⟩:=hz0 w hw;obtain⟨G,tl,es,gn,gT'⟩:=Cy hTn λn hn=>hzw n (hTs.subset hn);nofun;refine rv (uf (by simp;lia)) ?_;nofun;have est:vK [.tup (T.map aZ++[.int z])] h5=some (.lv (G.map aZ++.int z::tl.map D.int),h5):=by
      show((jm (T.map aZ++[D.int z])).bind λns=>if ns.length < 64 then some (D.lv ((dC ns).map D.int),h5) else none)=_;rw[ua];show(if(T.map (λn:Nat=>(n:Int))++[z]).length < 64 then _ else none)=_;rw[P0 (by simp;lia),es,Ql,Q9];rfl
     refine rv est ?_;nofun;refine rv (a:=(.tup (G.map aZ++.int z::tl.map D.int),h5)) rfl ?_;nofun;refine rv (BG (bM (Ha (rv (a:=([bp P,.tup (G.map aZ++.int z::tl.map D.int)],h5)) rfl (rv (Fg ok o hm gn (λn hn=>hTw n (gT' n hn)) hb) rfl))))) ?_;nofun;refine⟨false,by ac_nf,λy=>(nomatch y),λ_=>?_⟩;nofun;exact⟨_,_,_,_,rfl,A5⟩
   ·rintro δ h3 ⟨u8,u9,u10,u11,rfl,A3⟩;nofun;exact⟨_,_,_,_,_,_,_,_,_,_,rfl,A3.S.le (by lia),C2.but A3.S A3.b⟩
  ·rintro δ h ⟨v2,v3,v4,v5,v6,v7,v8,v9,v10,v11,rfl,S,C⟩;nofun
 obtain⟨⟨d,h'⟩,e1,rfl⟩:=e;exact⟨h',e1⟩
end Mi
open PySem PySem.W PyProof.Rows
theorem Mi.OE:defOf Mi.view "law"=some (Hd.mh "law" Mi.lO,[]):=by ac_nf
theorem Mi.hp:PySem.Program.theDef Mi.pw "law"=some (L2.mR Mi.lO,L2.dy Mi.lO,L2.ak Mi.lO):=by ac_nf
theorem PySem.Challenge.cw_neverstuck_k75_asked_instead_holds : PySem.Challenge.rw_neverstuck_k75_asked_instead.Holds := by
 refine holds_law Mi.IA λIA=>?_;refine PySem.W.holds_open (q:=Mi.view) (loose:=["SHAPES"]) (Xt:=Mi.Xt) (XP:=XL Mi.view []) (Yf:=Mi.Yf) (Ya:=Mi.ya) (YP:=λw h=>Hd.tabAt h "SHAPES"=(Mi.ya w).1/\Hd.pO h (Mi.gz.map (·.1)) Mi.pL=(Mi.ya w).2) (N:=20000) (d:=Hd.mh "law" Mi.lO) (kwd:=[]) Mi.left (λ_ _ e=>⟨congrArg Prod.fst e,congrArg Prod.snd e⟩) (λ_ _ _ y k=>⟨Hd.yr k y.1,Hd.ug k y.2⟩) (λs e=>xl_of s (Qp.mp e).1) XL.keeps Mi.OE Mi.hp (by ac_nf) (λs e=>recFacts_of (Qp.mp e).2) (by ac_nf) IA (by decide+kernel) ⟨rfl,rfl,rfl,rfl,rfl,by decide+kernel⟩ (by w_witness2) ?_;exact Hd.JY (k:=29) (by ac_nf) (by ac_nf) ⟨rfl,by decide,by decide⟩ λw s₀ mg mb h G Y=>Mi.all_mk G.T Y.1 Y.2 Mi.law_true
