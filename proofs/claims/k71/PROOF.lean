import PyProof.Rows.All
import Wide.All
import OpenK.AllK
import Wide.FinOn
import Lean
import PyProof.EqAt
import PyProof.EqKinds
import PyProof.TupleCall
import PyProof.AttrMissHeap
import KE.KDictOf
import PyProof.ConsumeWalk
import PyProof.ZipIter
import PyProof.EnumMake
import KE.KEqDict
import KE.KDictList
import KE.KDictSum
import KE.KIsAll
import KE.KItemsList
import KE.KLam
import KE.KSortTup
import PyProof.CallStr
import PyProof.CollectIter
import PyProof.DictFindH
import PyProof.DictRoadsH
import PyProof.ExcArgsOwn
import PyProof.ExcAttrAll.ValueError
import PyProof.ExcBaseAll.ValueError
import PyProof.ExcClass3
import PyProof.FString
import PyProof.FString5
import PyProof.FactsAll.tuple_2
import PyProof.FactsAll.zip_1
import PyProof.ListMulRoad
import PyProof.ListRange
import PyProof.MeetsStr
import PyProof.NeKinds
import PyProof.P3Eq
import PyProof.RaisesMany
import PyProof.Rows.CatchOwn
import PyProof.Rows.OwnQ
import PyProof.Rows.Range3
import PyProof.Rows.ReprOcc
import PyProof.Rows.RuleDivmod
import PyProof.Rows.SortShell
import PyProof.Rows.StrWeight2
import PyProof.Rows.Top
import PyProof.Rows.TopTwo
import PyProof.RulesAs
import PyProof.RulesDel
import PyProof.RulesTry
import PyProof.StationsW
import PyProof.StrCalls2
import PyProof.StrCalls5
import PyProof.StrWalks
import PyProof.WalksMore
import PySem.Challenge.RW_neverstuck_k71_rows_that_take_no_lock
set_option Elab.async false
set_option linter.all false
set_option maxRecDepth 100000
set_option maxHeartbeats 4000000
set_option compiler.small 0
set_option compiler.extract_closed false
set_option compiler.reuse false
noncomputable section
local macro_rules | `(tactic| ac_nf) => `(tactic| kernel_rfl)
local macro_rules | `(tactic| nofun) => `(tactic| walk_at "r")
abbrev Pp:=@List.length_map
abbrev Pq:=@List.getElem?_eq_some_iff
abbrev Pr:=@List.mem_of_getElem?
abbrev Pu:=@PySem.wpAny_bind
abbrev Pw:=@Nat.le_refl
abbrev Px:=@List.mem_cons_self
abbrev Py:=@if_pos
abbrev Pz:=@List.mem_cons_of_mem
abbrev PB:=@List.mem_cons
abbrev PC:=@PySem.Heap.get?_push_of_some
abbrev PD:=@List.mem_singleton
abbrev PF:=@List.length_append
abbrev PH:=@if_neg
abbrev PJ:=@List.getElem?_append_left
abbrev PK:=@List.length_cons
abbrev PL:=@Nat.le_trans
abbrev PN:=@List.map_cons
abbrev PQ:=@List.size_toArray
abbrev PR:=@List.getElem?_map
abbrev PU:=@PySem.Heap.lt_size
abbrev PV:=@List.getElem?_eq_getElem
abbrev PX:=@List.mem_append
abbrev PY:=@List.length_take
abbrev PZ:=@PySem.wpAny_pure
abbrev P0:=@List.getElem?_append_right
abbrev P1:=@Bool.and_eq_true_iff
abbrev P2:=@Nat.lt_of_lt_of_le
abbrev P4:=@List.map_append
abbrev P5:=@Option.map_eq_some_iff
abbrev P6:=@List.length_range
abbrev P7:=@List.mem_append_right
abbrev P8:=@PySem.Heap.get?_push_size
abbrev P9:=@Nat.ne_of_lt
abbrev Qa:=@Nat.le_add_right
abbrev Qb:=@decide_eq_true
abbrev Qc:=@Option.bind_some
abbrev Qd:=@Bool.and_eq_true
abbrev Qe:=@List.getElem?_take_of_lt
abbrev Qf:=@List.getElem?_set_self
abbrev Qg:=@List.append_assoc
abbrev Qh:=@PySem.mem_of_lookup
abbrev Qi:=@PySem.Str.length_append
abbrev Qj:=@List.lookup_cons
abbrev Qk:=@Option.map_some
abbrev Ql:=@List.mem_map
abbrev Qm:=@decide_eq_false
abbrev Qo:=@List.getElem?_set_ne
abbrev Qp:=@decide_eq_true_eq
abbrev Qq:=@PySem.PassesOwn.never
abbrev Qr:=@PySem.wpAny_mono
abbrev Qs:=@beq_self_eq_true
abbrev Qt:=@PyProof.Rows.slot_tuple_getitem
abbrev Qu:=@List.append_nil
abbrev Qv:=@List.cons_append
abbrev Qw:=@List.replicate_succ
abbrev Qx:=@List.getElem?_eq_none
abbrev Qy:=@of_decide_eq_true
abbrev Qz:=@List.getElem?_cons_succ
abbrev QA:=@Int.eq_ofNat_of_zero_le
abbrev QB:=@List.mem_range
abbrev QC:=@List.nil_append
abbrev QD:=@List.map_map
abbrev QE:=@List.length_set
abbrev QF:=@PySem.F.plainAttrs_list
abbrev QG:=@List.take_length
abbrev QH:=@List.mem_append_left
abbrev QI:=@List.filter_cons
abbrev QJ:=@PyProof.Rows.callWith_type1
abbrev QK:=@Nat.add_assoc
abbrev QL:=@List.take_of_length_le
abbrev QM:=@Int.le_trans
abbrev QN:=@List.filterMap_cons
abbrev QO:=@Int.emod_nonneg
abbrev QP:=@List.take_append_drop
abbrev QQ:=@Nat.lt_of_le_of_lt
abbrev QR:=@List.length_drop
abbrev QS:=@PySem.wpAny_field
abbrev QT:=@Nat.zero_add
abbrev QU:=@PySem.W.hideAll_none
abbrev QV:=@List.flatten_cons
abbrev QW:=@Int.toNat_natCast
abbrev QX:=@beq_iff_eq
abbrev QY:=@beq_eq_false_iff_ne
abbrev QZ:=@PySem.F.plainAttrs_str
abbrev Q0:=@Ne.symm
abbrev Q1:=@PySem.wpAny_newObj_type
abbrev Q2:=@PySem.wpAny_callSpecial?_slot
abbrev Q3:=@List.sum_cons
abbrev Q4:=@Nat.le_of_not_lt
abbrev Q5:=@List.mem_filterMap
abbrev Q6:=@Int.emod_lt_of_pos
abbrev Q7:=@PySem.wpAny_execs_cons
abbrev Q8:=@Nat.min_eq_left
abbrev Q9:=@List.length_nil
abbrev Ra:=@Bool.or_eq_true
abbrev Rb:=@Bool.eq_iff_iff
abbrev Rf:=@PySem.wpAny_Call_Name_kw
abbrev Rg:=@Option.isSome_iff_exists
abbrev Rh:=@List.all_eq_true
abbrev Ri:=@Nat.zero_le
abbrev Rj:=@List.take_append_of_le_length
abbrev Rk:=@Nat.le_of_lt
abbrev Rl:=@List.map_nil
abbrev Rm:=@List.length_eq_one_iff
abbrev Ro:=@Int.lt_of_le_of_lt
abbrev Rp:=@Bool.false_ne_true
abbrev Rq:=@PySem.wpAny_call_entry
abbrev Rr:=@List.find?_cons
abbrev Rt:=@List.any_cons
abbrev Ru:=@PySem.F.slot_dict_get
abbrev Rv:=@PySem.tupleKind_room_in1
abbrev Rw:=@List.mem_of_mem_take
abbrev Rx:=@PySem.F.slot_enumerate_next
abbrev Ry:=@Array.length_toList
abbrev Rz:=@PySem.sizeLine_eq
abbrev RA:=@PySem.call_meets
abbrev RB:=@PySem.F.slot_tuple_iterator_next
abbrev RC:=@Nat.lt_irrefl
abbrev RD:=@List.eq_of_mem_replicate
abbrev RE:=@Option.bind_eq_some_iff
abbrev RG:=@PySem.F.slot_str_split
abbrev RH:=@PySem.SeqAt.eqAt_reads
abbrev RI:=@PySem.F.slot_list_append
abbrev RJ:=@PySem.F.entry_dict_get
abbrev RK:=@Nat.le_of_lt_succ
abbrev RL:=@PySem.wpAny_execs_nil
abbrev RM:=@PySem.wpAny_getItem_str_slice
abbrev RN:=@PySem.F.type_str_join
abbrev RO:=@PySem.F.slot_str_join
abbrev RP:=@List.set_append_right
abbrev RQ:=@List.mem_iff_getElem?
abbrev RS:=@List.length_replicate
abbrev RT:=@Nat.succ_le_succ
abbrev RU:=@PySem.wpAny_truthy_bool
abbrev RV:=@Array.mem_toList_iff
abbrev RW:=@PySem.W.hideAll_get
abbrev RX:=@Int.toNat_of_nonneg
abbrev RY:=@Array.toList_append
abbrev RZ:=@Nat.sub_self
abbrev R3:=@Nat.add_comm
abbrev R6:=@PySem.wpAny_holding
abbrev R7:=@PySem.W.of_hideAll
abbrev R8:=@PySem.F.excBase_ValueError
abbrev R9:=@List.filterMap_map
abbrev Sa:=@Array.getElem?_eq_some_iff
abbrev Sd:=@PySem.wpAny_passesOwn
abbrev Se:=@if_true
abbrev Sf:=@List.take_add_one
abbrev Si:=@PySem.F.type_list_append
abbrev Sj:=@PySem.F.args_tuple_add_2
abbrev Sk:=@List.map_take
abbrev Sl:=@List.length_filterMap_le
abbrev Sn:=@PySem.wpAny_pyIter_tuple
abbrev So:=@PySem.F.entry_tuple_add
abbrev Sq:=@PySem.F.slot_tuple_add
abbrev Sr:=@Nat.ne_of_gt
abbrev Ss:=@Int.ofNat_lt
abbrev Su:=@Nat.min_le_left
abbrev Sv:=@List.sum_append
abbrev Sw:=@List.nodup_cons
abbrev Sx:=@PySem.wpAny_standAt
abbrev Sy:=@PySem.F.slot_list_extend
abbrev Sz:=@List.length_singleton
abbrev SD:=@List.length_filter_le
abbrev SF:=@Nat.le_succ
abbrev SH:=@List.getElem?_of_mem
abbrev SJ:=@ne_true_of_eq_false
abbrev SK:=@PySem.wpAny_Name
abbrev SN:=@PySem.typeIs_str
abbrev SO:=@PySem.codeAny_mono
abbrev SR:=@List.mem_map_of_mem
abbrev SU:=@PySem.post_val_or_str
abbrev SV:=@of_decide_eq_false
abbrev SX:=@List.getElem_range
abbrev SY:=@PySem.Heap.size_push
abbrev S8:=@Option.isSome_map
abbrev S9:=@Nat.lt_trans
abbrev Ta:=@Nat.le_succ_of_le
abbrev Tb:=@Nat.add_zero
abbrev Tc:=@Nat.add_left_comm
abbrev Td:=@List.take_sublist
abbrev Te:=@List.nodup_append
abbrev Tf:=@List.map_inj_left
abbrev Tg:=@List.not_mem_nil
abbrev Th:=@PySem.wpAny_attempt
abbrev Ti:=@PySem.wpAny_rule
abbrev Tj:=@PySem.F.args_str_split_2
abbrev Tn:=@PySem.Calls.spliced_cons
abbrev To:=@List.of_mem_zip
abbrev Tp:=@List.mem_filter
abbrev Tq:=@PySem.wpAny_loadPart_at
abbrev Tr:=@PySem.call_meetsIn
abbrev Ts:=@PySem.F.entry_str_split
abbrev Tt:=@PySem.Calls.spliced_nil
abbrev Tu:=@List.take_succ
abbrev Tv:=@List.drop_zero
abbrev Tw:=@PySem.F.slot_dict_getitem
abbrev Tx:=@List.mem_of_find?_eq_some
abbrev Tz:=@PySem.noFill_tuple_add
abbrev TB:=@PySem.F.type_list_extend
abbrev TC:=@List.map_drop
abbrev TF:=@List.Perm.eq_of_pairwise
abbrev TH:=@Bool.true_and
abbrev TJ:=@decide_eq_false_iff_not
abbrev TL:=@PySem.F.slot_list_index
abbrev TN:=@PySem.F.slot_list_count
abbrev TQ:=@PySem.F.args_dict_get_3
abbrev TR:=@PySem.F.args_dict_get_2
abbrev TU:=@Option.join_eq_some_iff
abbrev TV:=@List.pairwise_mergeSort
abbrev TX:=@List.getElem?_replicate
abbrev TY:=@PySem.W.cellsFrom_some
abbrev TZ:=@PySem.F.type_str_split
abbrev T8:=@PySem.F.args_tuple_iterator_next_1
abbrev T9:=@PyProof.Rows.split_pos
abbrev Ua:=@Nat.sub_zero
abbrev Ub:=@Nat.mul_succ
abbrev Uc:=@Nat.le_of_eq
abbrev Ud:=@Int.ediv_one
abbrev Ue:=@PySem.F.entry_tuple_iterator_next
abbrev Ug:=@PyProof.Rows.assignInOrder_cons
abbrev Uh:=@List.filterMap_eq_map
abbrev Ui:=@Array.mem_of_getElem?
abbrev Uj:=@if_false
abbrev Uk:=@PySem.wpAny_newFunctionEnv_cells
abbrev Ul:=@PySem.wpAny_bindName
abbrev Um:=@PySem.Calls.Name_function_global
abbrev Uo:=@Nat.pow_le_pow_right
abbrev Up:=@List.length_dropLast
abbrev Uq:=@List.forall_mem_cons
abbrev Ur:=@List.mergeSort_perm
abbrev Us:=@List.map_congr_left
abbrev Ut:=@PySem.wpAny_comprehension_free
abbrev Uu:=@PySem.seq_tuple_add
abbrev Uv:=@PySem.W.callWith_K
abbrev Uw:=@Nat.max_le
abbrev Ux:=@List.pairwise_cons
abbrev Uy:=@List.map_replicate
abbrev Uz:=@List.findIdx?_cons
abbrev UA:=@List.filter_append
abbrev UB:=@Array.all_eq_true'
abbrev UC:=@PySem.F.args_enumerate_next_1
abbrev UD:=@List.getElem?_inj
abbrev UE:=@List.ext_getElem?
abbrev UG:=@Bool.not_eq_true'
abbrev UH:=@Array.isEmpty_iff
set_option hygiene false
set_option hygiene true
abbrev FR:=PySem.W.Frag
namespace Hd
open PySem PySem.W PySem.Spec PyProof.Rows
noncomputable def z7:List Value->Option (List Int)
 | []=>some []
 | .int i _::r=>(z7 r).map λis=>i::is
 | _=>none
noncomputable def Ar(v:Value)(t:String):Bool:=match v with
 | .type s=>decide (s=t)
 | _=>false
noncomputable def rowAt(h:Heap)(e:DictEntry):Option (Str×Int×List Int):=match e.key with
 | .str x _=>match e.val with
  | .ref t=>match h.get? t with
   | some u=>if Ar u.cls "tuple"&&u.dict.isNone then(match u.data with
     | .seq its _=>if its.size<=100 then(z7 its.toList).map λis=>(x,e.hash,is) else none
     | _=>none) else none
   | none=>none
  | _=>none
 | _=>none
noncomputable def kK(h:Heap):List DictEntry->Option (List (Str×Int×List Int))
 | []=>some []
 | e::r=>(rowAt h e).bind λx=>(kK h r).map λxs=>x::xs
noncomputable def tabAt(h:Heap)(nm:Str):Option (List (Str×Int×List Int)):=match h.nsMap mainGlobals nm with
 | some (.ref a)=>if a==sysModules then none else(match h.get? a with
  | some o=>if Ar o.cls "dict"&&o.dict.isNone&&decide (o.slots=#[]) then(match o.data with
    | .dict es _=>kK h es.toList
    | _=>none) else none
  | none=>none)
 | _=>none
noncomputable def tZ(h:Heap)(ns:Addr)(name:Str):Option (Option Value):=match h.get? ns with
 | some ⟨_,_,.dict es _,_⟩=>(match es.toList.find? (·.key.isStr name) with
   | some e=>some (some e.val)
   | none=>if es.toList.any (·.refKey) then none else some none)
 | _=>none
noncomputable def ju(h:Heap)(name:Str):Value->Option (Option Value)
 | .type n=>some (fastBuiltinOwn n name)
 | .ref a=>(match h.get? a with
   | some ⟨_,_,.cls cd,_⟩=>tZ h cd.ns name
   | _=>none)
 | _=>some none
noncomputable def cB(h:Heap)(name:Str):List Value->Option (Option Value)
 | []=>some none
 | c::r=>match ju h name c with
  | some (some v)=>some (some v)
  | some none=>cB h name r
  | none=>none
noncomputable def clsAt(h:Heap)(c:Str):Option (Addr×ClassData):=match h.nsMap mainGlobals c with
 | some (.ref C)=>match h.get? C with
  | some ⟨.type "type",_,.cls cd,_⟩=>some (C,cd)
  | _=>none
 | _=>none
noncomputable def isAt(h:Heap)(cd:ClassData)(n:Str):Option Bool:=(clsAt h n).map λp=>cd.mro.contains (.ref p.1)
noncomputable def kC(h:Heap)(ns:List Str)(c:Str):Option (List (Option Bool)):=(clsAt h c).bind λp=>
 if(cB h "__getattribute__" p.2.mro==some (some (.builtin "BaseException.__getattribute__"))&&cB h "__getattr__" p.2.mro==some none&&cB h "__class__" p.2.mro==some (some (.builtin "object.__class__"))&&
  p.2.mro.contains (.type "object")&&p.2.mro.contains (.type "BaseException")&&p.2.mro.contains (.type "ValueError")&&p.2.mro.contains (.ref p.1))=true then some (ns.map (isAt h p.2)) else none
noncomputable def pP(h:Heap)(cs ns:List Str):List (Option (List (Option Bool))):=cs.map (kC h ns)
theorem Gu(row:String)(h0:∀w:World,(fencedOpening treeTable p w N).map (λs₀=>(topFrom treeTable p (w.withFollow row false) N s₀).map (λs=>(openSeen q loose (importedModules p.main.body) Xt true s,Yf s)))=some (some (openGood q loose,Ya (w.withFollow row false))))(h1:∀w:World,(fencedOpening treeTable p w N).map (λs₀=>(topFrom treeTable p (w.withFollow row true) N s₀).map (λs=>(openSeen q loose (importedModules p.main.body) Xt true s,Yf s)))=some (some (openGood q loose,Ya (w.withFollow row true)))):LeftO p q loose Xt Yf Ya N true:=λw=>by
 obtain⟨s₀,a,b0⟩:=P5.mp (h0 w);obtain⟨s₁,a1,b1⟩:=P5.mp (h1 w);have e:=World.withFollow_self w row;unfold openEnds;cases hb:w.params.followText row <;> rw[hb] at e
 ·rw[a];rw[e] at b0;exact b0
 ·rw[a1];rw[e] at b1;exact b1
end Hd
namespace Mi
open PySem
abbrev pw:Program:=PySem.Challenge.pw_neverstuck_k71_rows_that_take_no_lock
noncomputable def top(i:Nat):Stmt:=pw.main.body.getD i (.Pass ⟨0,0,0,0⟩)
noncomputable def eL:List (Str×List Int):=[("say",[2,0]),("call",[3,0]),("within",[2,1]),("all",[2,1]),("ask",[2,2]),("by",[3,3]),("either",[1,2]),("again",[1,1])]
noncomputable def gf:List (Str×List Str):=[("NoRow",["NoRow","StuckError","ValueError"])]
noncomputable def pM:List Str:=["StuckError","NoStep","NoRow","NoLock","NoText","NoLine"]
noncomputable def ph:List Str:=["NoRow"]
noncomputable def view:Program:={pw with main:={pw.main with body:=[top 1,top 2,top 3,top 4,top 5,top 6,top 8,top 9,top 10,top 11,top 12,top 13,top 15,top 16,top 18,top 19,top 20,top 21,top 22,top 24,top 25,top 26,top 27,top 28,top 29,top 30,top 31,top 32,top 33,top 34,top 35,top 36,top 37,top 38,top 39,top 40,top 41,top 42,top 43,top 44,top 45,top 46,top 47,top 48,top 49,top 50]}}
end Mi
local macro_rules | `(tactic| walk_at "s") => `(tactic| exact⟨rfl, rfl, rfl, by decide +kernel, rfl, by decide +kernel, by decide +kernel⟩)
namespace Mi
open PySem PySem.W PyProof.Rows
abbrev ext:List (Option (List (Option Bool))):=gf.map λp=>some (pM.map λn=>some (decide (n∈p.2)))
abbrev ya(w:World):=(some (eL.map λx:Str×List Int=>(x.1,hashStr w x.1,x.2)),ext)
abbrev Xt:Shared->Bool:=λs=>xlAt view [] s&&recOk (RowW.records (OpenRow.toRowW PySem.Challenge.rw_neverstuck_k71_rows_that_take_no_lock.row)) s
abbrev Yf:Shared->Option (List (Str×Int×List Int))×List (Option (List (Option Bool))):=λs=>(Hd.tabAt s.heap "SHAPES",Hd.pP s.heap (gf.map (·.1)) pM)
theorem Mj(w:World):(fencedOpening treeTable pw w 20000).map (λs₀=>(topFrom treeTable pw (w.withFollow "special-get-raises" false) 20000 s₀).map (λs=>(openSeen view (["SHAPES"]:List Str) (importedModules pw.main.body) Xt true s,Yf s)))=some (some (openGood view (["SHAPES"]:List Str),(ya) (w.withFollow "special-get-raises" false))):=by ac_nf
theorem Mh(w:World):(fencedOpening treeTable pw w 20000).map (λs₀=>(topFrom treeTable pw (w.withFollow "special-get-raises" true) 20000 s₀).map (λs=>(openSeen view (["SHAPES"]:List Str) (importedModules pw.main.body) Xt true s,Yf s)))=some (some (openGood view (["SHAPES"]:List Str),(ya) (w.withFollow "special-get-raises" true))):=by ac_nf
theorem left:LeftO pw view (["SHAPES"]:List Str) Xt Yf (ya) 20000:=Hd.Gu "special-get-raises" Mj Mh
theorem Io:PySem.Challenge.rw_neverstuck_k71_rows_that_take_no_lock.wellSaid=true:=by
 unfold OpenLaw.wellSaid
 repeat(with_reducible refine look_both ?_ (by decide+kernel))
 unfold OpenRow.wellSaid
 repeat(with_reducible refine look_both ?_ (by decide+kernel))
 unfold OpenRow.partSaid
 repeat(with_reducible refine look_both ?_ (by decide+kernel))
 unfold looksOpen
 repeat(with_reducible refine look_both ?_ (by decide+kernel))
 decide+kernel
end Mi
theorem bU{α:Type}{p:α}{C:Prop}(h:none=some p):C:=nomatch h
namespace L2
open PySem PySem.Spec PyProof.Rows
abbrev Key:=Sum Int Str
noncomputable def ub:Key->Value->Bool
 | .inl k,v=>Value.isInt k v
 | .inr x,v=>Value.isStrOf x v
noncomputable def JJ(w:World):Key->Int
 | .inl k=>hashInt k
 | .inr x=>hashStr w x
theorem cg:∀{k:Key} {v:Value},ub k v=true->(∃i t,k=Sum.inl i/\v=Value.int i t)\/(∃x t,k=Sum.inr x/\v=Value.str x t)
 | .inl i,v,h=>by
  obtain⟨t,e⟩:=Value.isInt_shape (k:=i) (v:=v) h;exact .inl ⟨i,t,rfl,e⟩
 | .inr x,v,h=>by
  obtain⟨t,e⟩:=Value.isStrOf_shape (x:=x) (v:=v) h;exact .inr ⟨x,t,rfl,e⟩
theorem Bv(i:Int)(t:Tok):ub (.inl i) (.int i t)=true:=by simp[ub,Value.isInt]
theorem Bu(x:Str)(t:Tok):ub (.inr x) (.str x t)=true:=by simp[ub,Value.isStrOf]
theorem JI(a b:Int):decide ((Sum.inl a:Key)=Sum.inl b)=(a==b):=by
 by_cases e:a=b
 ·subst e;simp
 ·have h:¬(Sum.inl a:Key)=Sum.inl b:=λq=>e (Sum.inl.inj q);rw[Qm h];exact(QY.mpr e).symm
theorem JF(a b:Str):decide ((Sum.inr a:Key)=Sum.inr b)=decide (a=b):=by
 by_cases e:a=b
 ·subst e;simp
 ·have h:¬(Sum.inr a:Key)=Sum.inr b:=λq=>e (Sum.inr.inj q);rw[Qm h,Qm e]
theorem JH(a:Int)(b:Str):decide ((Sum.inl a:Key)=Sum.inr b)=false:=Qm (λq=>nomatch q)
theorem JG(a:Str)(b:Int):decide ((Sum.inr a:Key)=Sum.inl b)=false:=Qm (λq=>nomatch q)
noncomputable def bO(prog:Program)(w:World):PySem.KeyKind prog w Key where
 is:=ub
 hash:=JJ w
 inj:=λv a b ha hb=>by
  rcases cg ha with⟨i,t,rfl,rfl⟩ |⟨x,t,rfl,rfl⟩
  ·rcases cg hb with⟨j,u,rfl,e⟩ |⟨y,u,rfl,e⟩
   ·injection e with e1 _;rw[e1]
   ·exact nomatch e
  ·rcases cg hb with⟨j,u,rfl,e⟩ |⟨y,u,rfl,e⟩
   ·exact nomatch e
   ·injection e with e1 _;rw[e1]
 byValue:=λk v h=>by
  rcases cg h with⟨i,t,rfl,rfl⟩ |⟨x,t,rfl,rfl⟩ <;> rfl
 pyHash:=λhv h=>by
  rcases cg hv with⟨i,t,rfl,rfl⟩ |⟨x,t,rfl,rfl⟩
  ·exact wpAny_pyHash_int h
  ·exact wpAny_pyHash_str h
 eqBool:=λhu hv h=>by
  rcases cg hu with⟨i,t,rfl,rfl⟩ |⟨x,t,rfl,rfl⟩
  ·rcases cg hv with⟨j,u,rfl,rfl⟩ |⟨y,u,rfl,rfl⟩
   ·rw[JI] at h;exact wpAny_eqBool_int h
   ·rw[JH] at h;exact SeqAt.EqAt.int_str i t y u _ _ _ _ h
  ·rcases cg hv with⟨j,u,rfl,rfl⟩ |⟨y,u,rfl,rfl⟩
   ·rw[JG] at h;exact SeqAt.EqAt.str_int x t j u _ _ _ _ h
   ·rw[JF] at h;exact wpAny_eqBool_str h
 «strs»:=λk x t v h=>by
  rcases cg h with⟨i,u,rfl,e⟩ |⟨y,u,rfl,e⟩
  ·exact nomatch e
  ·injection e with e1 _
   subst e1;cases v <;> rfl
theorem xw(prog:Program)(w:World)(i:Int)(t:Tok):(bO prog w).is (.inl i) (.int i t)=true:=Bv i t
theorem xu(prog:Program)(w:World)(x:Str)(t:Tok):(bO prog w).is (.inr x) (.str x t)=true:=Bu x t
inductive V where
 | cj | bl (b:Bool) | int (i:Int) | str (x:Str) | byt (b:Array UInt8) | flt (b:UInt64) | ref (a:Addr) | ty (n:String)
 deriving DecidableEq
def RelV:V->Value->Prop
 | .cj,u=>u=Value.none
 | .bl b,u=>u=Value.bool b
 | .int i,u=>∃t,u=Value.int i t
 | .str x,u=>∃t,u=Value.str x t
 | .byt b,u=>∃t,u=Value.bytes b t
 | .flt b,u=>∃t,u=Value.float b t
 | .ref a,u=>u=Value.ref a
 | .ty n,u=>u=Value.type n
abbrev Vals:List V->List Value->Prop:=Paired RelV
theorem Vals.length(r:Vals xs us):xs.length=us.length:=Paired.length r
theorem Vals.get:∀{xs:List V} {us:List Value} {i:Nat} {x:V},Vals xs us->xs[i]?=some x->∃u,us[i]?=some u/\RelV x u
 | _,_,_,_,.nil,e=>by simp at e
 | _,_,0,_,.cons r _,e=>by simp at e;subst e;exact⟨_,rfl,r⟩
 | _,_,i+1,x,.cons _ t,e=>by
  obtain⟨u,h1,h2⟩:=Vals.get (i:=i) (x:=x) t (by simpa using e);exact⟨u,by simpa using h1,h2⟩
theorem Vals.set(r:RelV x u):∀{xs:List V} {us:List Value} (i:Nat),Vals xs us->Vals (xs.set i x) (us.set i u)
 | _,_,_,.nil=>.nil
 | _,_,0,.cons _ t=>.cons r t
 | _,_,i+1,.cons q t=>.cons q (Vals.set r i t)
theorem Vals.append{xs ys:List V}{us ws:List Value}(a:Vals xs us)(s:Vals ys ws):Vals (xs++ys) (us++ws):=by
 induction a with
 | nil=>exact s
 | cons r t ih=>exact .cons r ih
theorem Vals.take:∀{xs:List V} {us:List Value} (n:Nat),Vals xs us->Vals (xs.take n) (us.take n)
 | _,_,0,_=>.nil
 | _,_,_+1,.nil=>.nil
 | _,_,n+1,.cons r t=>.cons r (Vals.take n t)
theorem Vals.drop:∀{xs:List V} {us:List Value} (n:Nat),Vals xs us->Vals (xs.drop n) (us.drop n)
 | _,_,0,r=>r
 | _,_,_+1,.nil=>.nil
 | _,_,n+1,.cons _ t=>Vals.drop n t
def pR:Option V->Option Value->Prop
 | some v,some u=>RelV v u
 | none,none=>True
 | _,_=>False
def KV{κ:Type}:List (κ×V)->List (κ×Value)->Prop:=Paired λ(p:κ×V)(q:κ×Value)=>p.1=q.1/\RelV p.2 q.2
noncomputable def kV:Key->V
 | .inl i=>.int i
 | .inr x=>.str x
inductive HO where
 | lst (xs:List V)
 | tup (xs:List V)
 | dK (kvs:List (Key×V)) | dT (kvs:List (List Key×V))
 | set (S:Int->Bool) (n:Nat)
 | ins (C dx:Addr) (fs:List (Str×V))
 | own (x:Addr)
 | xd (fs:List (Str×V))
 | met (f x:Addr)
 | tK (lo hi:Int)
 | pd (o:Obj) (u:HO)
 | G5 (ps:Array Value)
 | ext (φ:Heap->Prop)
 | Al (φ:World->Heap->Prop)
 | tb
abbrev Hp:=Addr->Option HO
noncomputable def upd(H:Hp)(a:Addr)(o:HO):Hp:=λb=>if b=a then some o else H b
theorem aR:upd H a o a=some o:=by unfold upd;rw[Py rfl]
theorem az(h:b≠a):upd H a o b=H b:=by unfold upd;rw[PH h]
theorem L6{H:Hp}{a b:Addr}{o u:HO}(h:H a=some o)(h':H b=some u)(d:o≠u):a≠b:=by
 intro e;subst e;rw[h] at h';exact d (Option.some.inj h')
theorem aN{H:Hp}{a b:Addr}{o:HO}(h:H a=some o)(h':H b=none):a≠b:=by
 intro e;subst e;rw[h] at h';cases h'
def x5(h:Heap)(a:Addr)(items:Array Value):Prop:=∃o,h.get? a=some o/\o.cls=.type "tuple"/\(∃n,o.data=.seq items n)/\o.dict=none
theorem x5.tup(x:x5 h a items):IsTup h a items:=let⟨o,e,c,d,_⟩:=x;⟨o,e,c,d⟩
theorem x5.new(h:Heap)(items:Array Value):x5 (h.push {cls:=.type "tuple",data:=.seq items}) h.objs.size items:=⟨_,P8 _ rfl,rfl,⟨_,rfl⟩,rfl⟩
section
variable (P:Program) (w:World)
def cf(H:Hp)(h:Heap)(a:Addr):HO->Prop
 | .lst xs=>xs.length<=sizeLine/\∃(its:List Value)(n:Nat),Vals xs its/\h.get? a=some {cls:=.type "list",data:=.seq its.toArray n}
 | .tup xs=>xs.length<=sizeLine/\∃its:List Value,Vals xs its/\x5 h a its.toArray
 | .dK kvs=>kvs.length<=sizeLine/\(a==sysModules)=false/\∃vs,KV kvs vs/\h.DictOf (bO P w) a vs
 | .dT kvs=>kvs.length<=sizeLine/\(a==sysModules)=false/\∃xs:List (List Key×Addr×Value),
   Paired (λ(p:List Key×V)(q:List Key×Addr×Value)=>p.1=q.1/\H q.2.1=some (.tup (p.1.map kV))/\RelV p.2 q.2.2) kvs xs/\
   ∃o es ep,h.get? a=some o/\o.ExactDict/\o.data=.dict es ep/\es.toList=xs.map (entryOfKey (tupleKind (bO P w)))/\(xs.map (·.1)).Nodup
 | .set S n=>h.SetOf (intKind P w) a S n
 | .ins C dx fs=>H dx=some (.own a)/\fs.length<=1000/\dx≠a/\h.get? a=some (PySem.W.instObj C dx)/\
   ∃mA,h.Ns1 dx mA/\(∀f,pR (fs.lookup f) (mA f))/\PySem.Within mA (fs.map (·.1))
 | .own _=>∃o,h.get? a=some o
 | .xd fs=>∃mA,h.Ns1 a mA/\∀f,pR (fs.lookup f) (mA f)
 | .tK lo hi=>∃t u v,h.get? a=some {cls:=.type "range",data:=.fields #[.int lo t,.int hi u,.int 1 v]}
 | .pd o u=>h.get? a=some o/\cf H h a u
 | .G5 ps=>h.get? a=some {cls:=.none,data:=.fields ps}
 | .met f x=>h.get? a=some (PySem.W.methodObj (.ref f) (.ref x))
 | .ext φ=>φ h/\(∃o,h.get? a=some o)/\∀h1 h2:Heap,φ h1->(∀o,h1.get? a=some o->h2.get? a=some o)->φ h2
 | .Al φ=>φ w h/\(∃o,h.get? a=some o)/\∀h1 h2:Heap,φ w h1->(∀o,h1.get? a=some o->h2.get? a=some o)->φ w h2
 | .tb=>∃ps:Array Value,h.get? a=some {cls:=.none,data:=.fields ps}/\TriplesOk ps.toList/\∀pos c,codeAmong pos ps.toList=some c->∃c' oc vs q t,c=.ref c'/\H c'=some (.pd oc (.own a))/\oc.data=.fields vs/\vs[1]?=some (.str q t)
def j8(H:Hp)(h:Heap):Prop:=∀a o,H a=some o->cf P w H h a o
end
theorem cf.lt(x:cf P w H h a o):a < h.objs.size:=by
 cases o with
 | lst xs=>obtain⟨_,_,_,_,e⟩:=x;exact PU e
 | tup xs=>obtain⟨_,_,_,p⟩:=x;exact p.tup.lt
 | dK kvs=>obtain⟨_,_,_,_,o,_,_,e,_⟩:=x;exact PU e
 | dT kvs=>obtain⟨_,_,_,_,o,_,_,e,_⟩:=x;exact PU e
 | set S n=>obtain⟨o,_,_,_,e,_⟩:=x;exact PU e
 | ins C dx fs=>obtain⟨_,_,_,e,_⟩:=x;exact PU e
 | own y=>obtain⟨_,e⟩:=x;exact PU e
 | xd fs=>obtain⟨_,⟨_,_,_,e,_⟩,_⟩:=x;exact PU e
 | tK lo hi=>obtain⟨_,_,_,e⟩:=x;exact PU e
 | pd ob u=>obtain⟨e,_⟩:=x;exact PU e
 | G5 ps=>exact PU (show h.get? a=some _ from x)
 | met f y=>exact PU (show h.get? a=some _ from x)
 | ext φ=>obtain⟨_,⟨_,e⟩,_⟩:=x;exact PU e
 | Al φ=>obtain⟨_,⟨_,e⟩,_⟩:=x;exact PU e
 | tb=>obtain⟨_,e,_⟩:=x;exact PU e
theorem Paired.L8{α β:Type}{F G:α->β->Prop}{l₁:List α}{l₂:List β}(a:Paired F l₁ l₂)(f:∀a b,F a b->G a b):Paired G l₁ l₂:=by
 induction a with
 | nil=>exact .nil
 | cons r t ih=>exact .cons (f _ _ r) ih
theorem cf.nz(x:cf P w H h a o)(k:∀b u,(b=a\/H b=some (.own a))->h.get? b=some u->h'.get? b=some u)
  (ho:∀b,H b=some (.own a)->H' b=some (.own a)) (ht:∀b xs,H b=some (.tup xs)->H' b=some (.tup xs)) (hf:∀b o,H b=some (.pd o (.own a))->H' b=some (.pd o (.own a)):=by exactλ_ _ q=>q):cf P w H' h' a o:=by
 induction o with
 | lst xs=>obtain⟨z,its,n,r,e⟩:=x;exact⟨z,its,n,r,k _ _ (.inl rfl) e⟩
 | tup xs=>obtain⟨z,its,r,ob,e,c⟩:=x;exact⟨z,its,r,ob,k _ _ (.inl rfl) e,c⟩
 | dK kvs=>obtain⟨z,y,vs,r,ob,es,ep,e,c⟩:=x;exact⟨z,y,vs,r,ob,es,ep,k _ _ (.inl rfl) e,c⟩
 | dT kvs=>
  obtain⟨z,y,xs,r,ob,es,ep,e,c⟩:=x;exact⟨z,y,xs,Paired.L8 r λp q z=>⟨z.1,ht _ _ z.2.1,z.2.2⟩,ob,es,ep,k _ _ (.inl rfl) e,c⟩
 | set S n=>obtain⟨ob,es,ep,t,e,c⟩:=x;exact⟨ob,es,ep,t,k _ _ (.inl rfl) e,c⟩
 | ins C dx fs=>
  obtain⟨d,z,ne,e,mA,⟨od,es,ep,e2,c⟩,r⟩:=x;exact⟨ho _ d,z,ne,k _ _ (.inl rfl) e,mA,⟨od,es,ep,k _ _ (.inr d) e2,c⟩,r⟩
 | own y=>obtain⟨ob,e⟩:=x;exact⟨ob,k _ _ (.inl rfl) e⟩
 | xd fs=>obtain⟨mA,⟨od,es,ep,e,c⟩,r⟩:=x;exact⟨mA,⟨od,es,ep,k _ _ (.inl rfl) e,c⟩,r⟩
 | tK lo hi=>obtain⟨t,u,v,e⟩:=x;exact⟨t,u,v,k _ _ (.inl rfl) e⟩
 | pd ob u ih=>obtain⟨e,q⟩:=x;exact⟨k _ _ (.inl rfl) e,ih q⟩
 | G5 ps=>
  have e:h.get? a=some {cls:=.none,data:=.fields ps}:=x;show h'.get? a=some {cls:=.none,data:=.fields ps};exact k a _ (.inl rfl) e
 | met f y=>
  have e:h.get? a=some (PySem.W.methodObj (.ref f) (.ref y)):=x;show h'.get? a=some (PySem.W.methodObj (.ref f) (.ref y));exact k a _ (.inl rfl) e
 | ext φ=>obtain⟨p,⟨o,e⟩,st⟩:=x;exact⟨st _ _ p λo q=>k _ _ (.inl rfl) q,⟨o,k _ _ (.inl rfl) e⟩,st⟩
 | Al φ=>obtain⟨p,⟨o,e⟩,st⟩:=x;exact⟨st _ _ p λo q=>k _ _ (.inl rfl) q,⟨o,k _ _ (.inl rfl) e⟩,st⟩
 | tb=>
  obtain⟨ps,e,t,f⟩:=x;exact⟨ps,k _ _ (.inl rfl) e,t,λpos c ec=>let⟨c',oc,vs,q,tk,e1,e2,r⟩:=f pos c ec;⟨c',oc,vs,q,tk,e1,hf _ _ e2,r⟩⟩
theorem j8.lt(x:j8 P w H h)(e:H a=some o):a < h.objs.size:=(x a o e).lt
theorem j8.fresh(x:j8 P w H h)(e:h.objs.size<=a):H a=none:=by
 cases q:H a with
 | none=>rfl
 | some u=>exact absurd (P2 (x.lt q) e) (RC _)
theorem j8.kept(x:j8 P w H h)(k:∀b u,h.get? b=some u->h'.get? b=some u):j8 P w H h':=λa o e=>
 (x a o e).nz (λb u _ q=>k b u q) (λ_ q=>q) λ_ _ q=>q
theorem j8.laid(x:j8 P w H h)(k:∀b u,h.get? b=some u->h'.get? b=some u)(hp:h.objs.size<=a)(new:cf P w (upd H a o) h' a o):j8 P w (upd H a o) h':=λb u e=>by
 have hn:=x.fresh hp
 by_cases hb:b=a
 ·subst hb;rw[aR] at e;cases e;exact new
 ·rw[az hb] at e;exact(x b u e).nz (λc v _ q=>k c v q) (λc q=>by rw[az (aN q hn)];exact q) (λc xs q=>by rw[az (aN q hn)];exact q) λc xs q=>by rw[az (aN q hn)];exact q
def Rd(H:Hp)(a:Addr)(u:HO):Prop:=H a=some u\/∃o,H a=some (.pd o u)
theorem Rd.ok(r:Rd H a u)(x:j8 P w H h):cf P w H h a u:=by
 rcases r with r |⟨o,r⟩
 ·exact x a u r
 ·obtain⟨_,q⟩:=x a _ r;exact q
def MX:Option HO->Prop
 | some (.lst _)=>True
 | some (.dK _)=>True
 | some (.dT _)=>True
 | some (.set _ _)=>True
 | some (.ins _ _ _)=>True
 | some (.ext _)=>True
 | some (.Al _)=>True
 | _=>False
theorem j8.write(ok:j8 P w H h)(mu:MX (H x))(he:e=x\/H e=some (.own x))(k:∀b u,b≠e->h.get? b=some u->h'.get? b=some u)(heo:∃u,h'.get? e=some u)
  (new:cf P w (upd H x o') h' x o'):j8 P w (upd H x o') h':=λb u q=>by
 have nown:∀c y,H c=some (.own y)->c≠x:=λc y r z=>by subst z;rw[r] at mu;exact mu
 have ntup:∀c xs,H c=some (.tup xs)->c≠x:=λc xs r z=>by subst z;rw[r] at mu;exact mu
 by_cases hb:b=x
 ·subst hb;rw[aR] at q;cases q;exact new
 ·rw[az hb] at q
  by_cases hbe:b=e
  ·have q':H b=some (.own x):=by
    rcases he with z | z
    ·exact absurd (hbe.trans z) hb
    ·rw[hbe];exact z
   rw[q] at q';cases q';obtain⟨v,hv⟩:=heo;exact⟨v,by rw[hbe];exact hv⟩
  ·refine(ok b u q).nz (λc v hc r=>k c v ?_ r) (λc r=>by rw[az (nown c b r)];exact r) (λc xs r=>by rw[az (ntup c xs r)];exact r) λc o r=>by rw[az (λz=>by subst z;rw[r] at mu;exact mu)];exact r
   rcases hc with rfl | hc
   ·exact hbe
   ·rintro rfl;rcases he with z | z
    ·exact nown c b hc z
    ·rw[hc] at z;cases z;exact hb rfl
structure Un(fs ex:List Addr)(H H':Hp)(h h':Heap):Prop where
 keep:∀b o,h.get? b=some o->H b=none->b∉fs->b∉ex->h'.get? b=some o
 slot:∀b o,h.get? b=some o->H b=none->b∈fs->b∉ex->∃sl,h'.get? b=some {o with slots:=sl}
 free:∀b o,h.get? b=some o->H b=none->b∉ex->H' b=none
 there:∀b o,h.get? b=some o->b∉ex->∃o',h'.get? b=some o'
 nu:∀b xs,H b=some (.tup xs)->H' b=some (.tup xs)
 mE:∀b o u,H b=some (.pd o u)->H' b=some (.pd o u)
 nv:∀b ps,H b=some (.G5 ps)->∃more,H' b=some (.G5 (ps++more))
theorem Un.any(u:Un fs ex H H1 h h1)(q:h.get? b=some ob)(n:H b=none)(hx:b∉ex):∃sl,h1.get? b=some {ob with slots:=sl}:=by
 by_cases hb:b∈fs
 ·exact u.slot b ob q n hb hx
 ·exact⟨ob.slots,u.keep b ob q n hb hx⟩
theorem Un.kept(k:∀b u,h.get? b=some u->h'.get? b=some u):Un fs ex H H h h':=
 ⟨λb ob q _ _ _=>k b ob q,λb ob q _ _ _=>⟨ob.slots,k b ob q⟩,λ_ _ _ n _=>n,λb ob q _=>⟨ob,k b ob q⟩,λ_ _ q=>q,λ_ _ _ q=>q,λ_ ps q=>⟨#[],by rw[q];simp⟩⟩
theorem Un.refl:Un fs ex H H h h:=Un.kept λ_ _ q=>q
theorem Un.laid(k:∀b u,h.get? b=some u->h'.get? b=some u)(hp:h.objs.size<=a)(hn:H a=none):Un fs ex H (upd H a o) h h' where
 keep:=λb u q _ _ _=>k b u q
 slot:=λb u q _ _ _=>⟨u.slots,k b u q⟩
 free:=λb u q n _=>by rw[az (P9 (P2 (PU q) hp))];exact n
 there:=λb u q _=>⟨u,k b u q⟩
 nu:=λb xs q=>by rw[az (aN q hn)];exact q
 mE:=λb u xs q=>by rw[az (aN q hn)];exact q
 nv:=λb ps q=>⟨#[],by rw[az (aN q hn),q];simp⟩
theorem Un.write(mu:MX (H x))(he:e=x\/H e=some (.own x))(k:∀b u,b≠e->h.get? b=some u->h'.get? b=some u)(heo:∃u,h'.get? e=some u):Un fs ex H (upd H x o) h h':=by
 have hx:∀b,H b=none->b≠x:=λb n z=>by subst z;rw[n] at mu;exact mu
 have hb:∀b,H b=none->b≠e:=λb n z=>by
  subst z;rcases he with r | r
  ·exact hx b n r
  ·rw[n] at r;cases r
 have hm:∀b u,H b=some u->¬MX (some u)->b≠x:=λb u q nm z=>by subst z;rw[q] at mu;exact nm mu
 refine⟨λb u q n _ _=>k b u (hb b n) q,λb u q n _ _=>⟨u.slots,k b u (hb b n) q⟩,λb u q n _=>by rw[az (hx b n)];exact n,λb u q _=>?_,
  λb xs q=>by rw[az (hm b _ q λz=>z)];exact q,λb u xs q=>by rw[az (hm b _ q λz=>z)];exact q,λb ps q=>⟨#[],by rw[az (hm b _ q λz=>z),q];simp⟩⟩
 by_cases hbe:b=e
 ·subst hbe;exact heo
 ·exact⟨u,k b u hbe q⟩
noncomputable def M7(h:Heap)(H:Hp):List Addr:=(List.range h.objs.size).filter λa=>(H a).isSome
noncomputable def vS(h:Heap)(H:Hp):Heap:=PySem.W.hideAll h (M7 h H)
theorem Bx(h:Heap)(H:Hp):(vS h H).objs.size=h.objs.size:=PySem.W.hideAll_size _ _
theorem D9(e:h.get? b=some o)(n:H b=none):(vS h H).get? b=some o:=
 RW _ e λhm=>by
  have q:(H b).isSome=true:=(Tp.mp hm).2;rw[n] at q;simp at q
theorem Gg(e:(vS h H).get? b=some o):h.get? b=some o/\H b=none:=by
 have e':h.get? b=some o:=R7 (M7 h H) e;refine⟨e',?_⟩;cases q:H b with
 | none=>rfl
 | some x=>
  have hm:b∈M7 h H:=Tp.mpr ⟨QB.mpr (PU e'),by simp[q]⟩;have z:(vS h H).get? b=none:=QU (M7 h H) hm;rw[z] at e;cases e
structure Mod(K:FR)(mg:Str->Option Value)(base:Heap):Prop where
 Nc:K.In base
 glob:base.Ns mainGlobals mg
 blt:∃mb,base.Ns builtinsNs mb/\∀x:Str,x≠"__name__"->mb x=bootBuiltins x
 nolimit:base.NoLimit
structure Cx where
 prog:Program
 w:World
 K:FR
 mg:Str->Option Value
 base:Heap
 A:Around
 N:List Str
 s₀:Shared
 H₀:Hp
 env:Env
 outer:List Env
 stack:List Env
 ex:List Addr
 fn:Str->Bool
 calm:Bool
 pn:List (Addr×Obj)
 xe:Value->Shared->Prop
noncomputable def j4(l:List Env):List Addr:=l.filterMap (·.frame)
abbrev Cx.fs(X:Cx):List Addr:=j4 X.outer
def KA(sc:Scope)(x:Str):Prop:=sc.names.lookup x=some .local\/sc.names.lookup x=some .cell\/sc.names.lookup x=some .free
def Loc(sc:Scope)(x:Str):Prop:=sc.names.lookup x=some .local\/sc.names.lookup x=some .cell
def Look(env:Env)(h:Heap)(m:Str->Option Value)(x:Str)(u:Value):Prop:=
 (env.kindOf x=some .local/\m x=some u)\/((env.kindOf x=some .cell\/env.kindOf x=some .free)/\∃c,env.cells.lookup x=some c/\h.IsCell c (some u))
structure Cx.Ok(X:Cx):Prop where
 mod:Mod X.K X.mg X.base
 kind:X.env.scope.kind=.function
 glob:X.env.globals=mainGlobals
 blt:X.env.builtins=builtinsNs
 above:X.s₀.heap.objs.size<=X.env.locals
 inj:∀x y c,X.env.cells.lookup x=some c->X.env.cells.lookup y=some c->x=y
 has:∀x,(X.env.kindOf x=some .cell\/X.env.kindOf x=some .free)->∃c,X.env.cells.lookup x=some c
 KR:∀x c,X.fn x=true->X.env.cells.lookup x=some c->X.s₀.heap.objs.size<=c
 hd:X.calm=true->X.A.handled=none
 frames:X.A.frames=some X.stack
 Lo:X.stack=X.outer\/(X.stack=X.env::X.outer/\X.env.frame=some X.env.locals)
 Oj:∀b∈X.ex,b≠X.env.locals/\∀x c,X.env.cells.lookup x=some c->c≠b
 bs:∀b o,X.base.get? b=some o->X.s₀.heap.get? b=some o/\X.H₀ b=none
 Ff:X.base.objs.size<=X.s₀.heap.objs.size
 Bk:∀b o,X.base.get? b=some o->b∉X.ex
 Es:∀b∈X.ex,b∉X.fs
 nV:X.s₀.heap.FunFrames X.base X.outer
 Ho:∀b∈X.fs,X.H₀ b=none
structure Inv(X:Cx)(pins:List (Addr×Obj))(σ:List (Option V))(H:Hp)(s:Shared):Prop where
 ok:X.Ok
 os:s.os=X.s₀.os
 bare:AllBare s.gens
 base:Un X.fs X.ex X.H₀ H X.s₀.heap s.heap
 loc:∃m,s.heap.Ns X.env.locals m/\∀(i:Nat)(x:Str)(v:V),X.N[i]?=some x->σ[i]?=some (some v)->KA X.env.scope x->∃u,RelV v u/\Look X.env s.heap m x u
 cell:∀x c,X.env.cells.lookup x=some c->∃v,s.heap.IsCell c v
 free:H X.env.locals=none
 fX:∀x c,X.env.cells.lookup x=some c->H c=none
 pin:∀p∈X.pn++pins,s.heap.get? p.1=some p.2/\H p.1=none/\p.1≠X.env.locals/\p.1∉X.fs/\∀v,p.2.data≠.cell v
 ba:j8 X.prog X.w H s.heap
 len:σ.length=X.N.length
section
variable {X:Cx} {pins:List (Addr×Obj)} {σ:List (Option V)} {H H':Hp} {s:Shared} {h':Heap}
theorem Cx.Ok.N9(ok:X.Ok)(e:X.base.get? b=some o):b∉X.fs:=λhb=>by
 have:=(ok.nV.mem hb).1;rw[e] at this;cases this
theorem Inv.bs(I:Inv X pins σ H s):∀b o,X.base.get? b=some o->s.heap.get? b=some o/\H b=none:=λb o e=>
 ⟨I.base.keep b o (I.ok.bs b o e).1 (I.ok.bs b o e).2 (I.ok.N9 e) (I.ok.Bk b o e),I.base.free b o (I.ok.bs b o e).1 (I.ok.bs b o e).2 (I.ok.Bk b o e)⟩
theorem Inv.bk(I:Inv X pins σ H s):∀b o,X.base.get? b=some o->s.heap.get? b=some o:=λb o e=>(I.bs b o e).1
theorem Inv.mod(I:Inv X pins σ H s):Mod X.K X.mg X.base:=I.ok.mod
theorem Inv.z5(I:Inv X pins σ H s):X.K.In s.heap:=I.ok.mod.Nc.keeps I.bk
theorem Inv.nolimit(I:Inv X pins σ H s):s.heap.NoLimit:=I.ok.mod.nolimit.keeps I.bk
theorem Inv.lt(I:Inv X pins σ H s):X.env.locals < s.heap.objs.size:=let⟨_,hn,_⟩:=I.loc;hn.lt
theorem Inv.sz(I:Inv X pins σ H s):X.s₀.heap.objs.size<=s.heap.objs.size:=PL I.ok.above (Rk I.lt)
theorem Inv.N8(I:Inv X pins σ H s)(h:s.heap.objs.size<=a):a∉X.fs:=λhb=>by
 obtain⟨_,o,ho,_⟩:=I.ok.nV.mem hb;exact absurd (P2 (PU ho) (PL I.sz h)) (RC _)
theorem Inv.EF(I:Inv X pins σ H s):∀x c,X.env.cells.lookup x=some c->c≠X.env.locals:=λx c e z=>by
 obtain⟨v,o,ho,hd⟩:=I.cell x c e;obtain⟨m,⟨o',es,ep,ho',hd',_⟩,_⟩:=I.loc;rw[z,ho'] at ho;cases ho;rw[hd'] at hd;cases hd
theorem Inv.nV(I:Inv X pins σ H s):s.heap.FunFrames X.base X.outer:=by
 have all:∀(l:List Env),(∀b∈j4 l,b∈X.fs)->X.s₀.heap.FunFrames X.base l->s.heap.FunFrames X.base l:=by
  intro l
  induction l with
  | nil=>intro _ _;trivial
  | cons env r ih=>
   intro hs hl;obtain⟨hk,⟨L,o,hf,hn,ho,hd⟩,hr⟩:=hl;have hL:L∈X.fs:=hs L (by unfold j4;rw[QN,hf];exact Px);obtain⟨sl,e⟩:=I.base.slot L o ho (I.ok.Ho L hL) hL λz=>I.ok.Es L z hL;exact⟨hk,⟨L,_,hf,hn,e,hd⟩,ih (λb hb=>hs b (by unfold j4;rw[QN,hf];exact Pz _ hb)) hr⟩
 exact all X.outer (λ_ hb=>hb) I.ok.nV
theorem Inv.stack(I:Inv X pins σ H s):s.heap.FunFrames X.base X.stack:=by
 rcases I.ok.Lo with e |⟨e,hf⟩
 ·rw[e];exact I.nV
 ·rw[e];obtain⟨m,hn,_⟩:=I.loc;refine .cons (by rw[I.ok.kind];decide) hf hn ?_ I.nV;exact Heap.get?_none_of_le (PL I.ok.Ff I.ok.above)
theorem Inv.qr(I:Inv X pins σ H s):∀b∈j4 X.stack,b∈X.env.locals::X.fs:=λb hb=>by
 rcases I.ok.Lo with e |⟨e,hf⟩
 ·rw[e] at hb;exact Pz _ hb
 ·rw[e] at hb;unfold j4 at hb;rw[QN,hf] at hb;exact hb
theorem Inv.pU(I:Inv X pins σ H s):∀b∈j4 X.stack,H b=none:=λb hb=>by
 rcases PB.mp (I.qr b hb) with e | hb
 ·rw[e];exact I.free
 ·obtain⟨_,o,ho,_⟩:=I.ok.nV.mem hb;exact I.base.free b o ho (I.ok.Ho b hb) λz=>I.ok.Es b z hb
theorem Inv.step{g':Array GenState}{t':Nat}{d':Drawn}{ch:List Addr}(I:Inv X pins σ H s)
  (hch:∀b∈ch,(b∈X.ex\/X.s₀.heap.objs.size<=b)/\b≠X.env.locals/\(∀x c,X.env.cells.lookup x=some c->c≠b)/\∀p∈X.pn++pins,p.1≠b)
  (keep:∀b o,b≠X.env.locals->b∉X.fs->b∉ch->s.heap.get? b=some o->H b=none->h'.get? b=some o)
  (slot:∀b o,b≠X.env.locals->b∈X.fs->b∉ch->s.heap.get? b=some o->H b=none->∃sl,h'.get? b=some {o with slots:=sl}) (free:∀b o,b∉ch->s.heap.get? b=some o->H b=none->H' b=none)
  (there:∀b o,b∉ch->s.heap.get? b=some o->∃o',h'.get? b=some o')
  (nu:∀b xs,H b=some (.tup xs)->H' b=some (.tup xs)) (mE:∀b o u,H b=some (.pd o u)->H' b=some (.pd o u)) (nv:∀b ps,H b=some (.G5 ps)->∃more,H' b=some (.G5 (ps++more)))
  (ns:∀m,s.heap.Ns X.env.locals m->h'.Ns X.env.locals m) (ba:j8 X.prog X.w H' h') (hg:AllBare g'):
  Inv X pins σ H' {s with heap:=h',gens:=g',drawn:=d',toks:=t'}:=by
 have neL:∀b o,X.s₀.heap.get? b=some o->b≠X.env.locals:=λb o e=>P9 (P2 (PU e) I.ok.above);have neC:∀b o,X.s₀.heap.get? b=some o->b∉X.ex->b∉ch:=λb o e hx hb=>by
  rcases(hch b hb).1 with z | z
  ·exact hx z
  ·exact absurd (P2 (PU e) z) (RC _)
 have cellK:∀x c,X.env.cells.lookup x=some c->∀v,s.heap.IsCell c v->h'.IsCell c v:=λx c e v ⟨o,ho,hd⟩=>by
  have nch:c∉ch:=λz=>(hch c z).2.2.1 x c e rfl
  by_cases hc:c∈X.fs
  ·obtain⟨sl,q⟩:=slot c o (I.EF x c e) hc nch ho (I.fX x c e);exact⟨_,q,hd⟩
  ·exact⟨o,keep c o (I.EF x c e) hc nch ho (I.fX x c e),hd⟩
 refine⟨I.ok,I.os,hg,⟨λb o e n hb hx=>?_,λb o e n hb hx=>?_,λb o e n hx=>?_,λb o e hx=>?_,λb xs e=>nu b xs (I.base.nu b xs e),λb o xs e=>mE b o xs (I.base.mE b o xs e),λb ps e=>?_⟩,?_,λx c e=>?_,?_,λx c e=>?_,λp hp=>?_,ba,I.len⟩
 ·exact keep b o (neL b o e) hb (neC b o e hx) (I.base.keep b o e n hb hx) (I.base.free b o e n hx)
 ·obtain⟨sl,e1⟩:=I.base.slot b o e n hb hx;obtain⟨sl',e2⟩:=slot b _ (neL b o e) hb (neC b o e hx) e1 (I.base.free b o e n hx);exact⟨sl',e2⟩
 ·obtain⟨o',e1⟩:=I.base.there b o e hx;exact free b o' (neC b o e hx) e1 (I.base.free b o e n hx)
 ·obtain⟨o',e1⟩:=I.base.there b o e hx;exact there b o' (neC b o e hx) e1
 ·obtain⟨m1,e1⟩:=I.base.nv b ps e;obtain⟨m2,e2⟩:=nv b _ e1;exact⟨m1++m2,by rw[e2,Array.append_assoc]⟩
 ·obtain⟨m,hn,hl⟩:=I.loc;refine⟨m,ns m hn,λi x v e1 e2 e3=>?_⟩;obtain⟨u,r,l⟩:=hl i x v e1 e2 e3;refine⟨u,r,?_⟩;rcases l with l |⟨k,c,e,z⟩
  ·exact .inl l
  ·exact .inr ⟨k,c,e,cellK x c e _ z⟩
 ·obtain⟨v,z⟩:=I.cell x c e;exact⟨v,cellK x c e v z⟩
 ·obtain⟨m,⟨o,_,_,ho,_⟩,_⟩:=I.loc;exact free _ o (λz=>(hch _ z).2.1 rfl) ho I.free
 ·obtain⟨v,o,ho,hd⟩:=I.cell x c e;exact free c o (λz=>(hch c z).2.2.1 x c e rfl) ho (I.fX x c e)
 ·obtain⟨e,n,ne,nf,d⟩:=I.pin p hp;have nch:p.1∉ch:=λz=>(hch p.1 z).2.2.2 p hp rfl;exact⟨keep p.1 p.2 ne nf nch e n,free p.1 p.2 nch e n,ne,nf,d⟩
theorem Inv.un{t':Nat}(I:Inv X pins σ H s)(u:Un X.fs [] H H' s.heap h')(ba:j8 X.prog X.w H' h'):Inv X pins σ H' {s with heap:=h',toks:=t'}:=by
 obtain⟨m,⟨o,es,ep,ho,r⟩,_⟩:=id I.loc;obtain⟨sl,hL⟩:=u.any ho I.free (by simp);exact I.step (g':=s.gens) (d':=s.drawn) (ch:=[]) (λ_ z=>nomatch z) (λb o _ hb _ e n=>u.keep b o e n hb (by simp)) (λb o _ hb _ e n=>u.slot b o e n hb (by simp)) (λb o _ e n=>u.free b o e n (by simp)) (λb o _ e=>u.there b o e (by simp)) u.nu u.mE u.nv (λm' hm=>by
  obtain⟨o',es',ep',ho',r'⟩:=hm;rw[ho] at ho';cases ho';exact⟨_,es',ep',hL,r'⟩) ba I.bare
theorem Inv.call{g':Array GenState}{t':Nat}{d':Drawn}{ch:List Addr}(I:Inv X pins σ H s)(u:Un (j4 X.stack) ch H H' s.heap h')(ba:j8 X.prog X.w H' h')(hg:AllBare g')
  (hch:∀b∈ch,(b∈X.ex\/X.s₀.heap.objs.size<=b)/\b≠X.env.locals/\(∀x c,X.env.cells.lookup x=some c->c≠b)/\∀p∈X.pn++pins,p.1≠b):
  Inv X pins σ H' {s with heap:=h',gens:=g',drawn:=d',toks:=t'}:=by
 obtain⟨m,⟨o,es,ep,ho,r⟩,_⟩:=id I.loc;obtain⟨sl,hL⟩:=u.any ho I.free λz=>(hch _ z).2.1 rfl;exact I.step (ch:=ch) hch (λb o hL hb hc e n=>u.keep b o e n (λz=>(PB.mp (I.qr b z)).elim hL hb) hc) (λb o _ _ hc e n=>u.any e n hc) (λb o hc e n=>u.free b o e n hc) (λb o hc e=>u.there b o e hc) u.nu u.mE u.nv (λm' hm=>by
  obtain⟨o',es',ep',ho',r'⟩:=hm;rw[ho] at ho';cases ho';exact⟨_,es',ep',hL,r'⟩) ba hg
theorem Inv.turned{t':Nat}{it:Addr}(I:Inv X pins σ H s)(k:∀b o,b≠it->s.heap.get? b=some o->h'.get? b=some o)(hn:H it=none)(hL:it≠X.env.locals)
  (h1:it∈X.ex\/X.s₀.heap.objs.size<=it) (h2:∀x c,X.env.cells.lookup x=some c->c≠it) (h3:∀p∈X.pn++pins,p.1≠it):Inv X pins σ H {s with heap:=h',toks:=t'}:=by
 have nit:∀b u,H b=some u->b≠it:=λb u e z=>by rw[z,hn] at e;cases e
 refine I.step (g':=s.gens) (d':=s.drawn) (ch:=[it]) (λb hb=>?_) (λb o _ _ hc e _=>k b o (λz=>hc (by simp[z])) e) (λb o _ _ hc e _=>⟨o.slots,k b o (λz=>hc (by simp[z])) e⟩) (λ_ _ _ _ n=>n)
  (λb o hc e=>⟨o,k b o (λz=>hc (by simp[z])) e⟩) (λ_ _ e=>e) (λ_ _ _ e=>e) (λb ps e=>⟨#[],by rw[e];simp⟩) (λm hm=>?_) (λb u e=>?_) I.bare
 ·have e:b=it:=by simpa using hb
  subst e;exact⟨h1,hL,h2,h3⟩
 ·obtain⟨o,es,ep,ho,r⟩:=hm;exact⟨o,es,ep,k _ o (Q0 hL) ho,r⟩
 ·refine(I.ba b u e).nz (λc v hc q=>k c v ?_ q) (λ_ q=>q) λ_ _ q=>q;rcases hc with z | z
  ·rw[z];exact nit b u e
  ·exact nit c _ z
theorem Inv.tok(I:Inv X pins σ H s)(t:Nat):Inv X pins σ H {s with toks:=t}:=I.un (h':=s.heap) (t':=t) Un.refl I.ba
theorem Inv.kept(I:Inv X pins σ H s)(k:∀b u,s.heap.get? b=some u->h'.get? b=some u):Inv X pins σ H {s with heap:=h',toks:=t'}:=I.un (Un.kept k) (I.ba.kept k)
theorem Inv.laid(I:Inv X pins σ H s)(k:∀b u,s.heap.get? b=some u->h'.get? b=some u)(hp:s.heap.objs.size<=a)(new:cf X.prog X.w (upd H a o) h' a o):
  Inv X pins σ (upd H a o) {s with heap:=h',toks:=t'}:=I.un (Un.laid k hp (I.ba.fresh hp)) (I.ba.laid k hp new)
theorem Inv.write(I:Inv X pins σ H s)(mu:MX (H x))(he:e=x\/H e=some (.own x))(k:∀b u,b≠e->s.heap.get? b=some u->h'.get? b=some u)(heo:∃u,h'.get? e=some u)(new:cf X.prog X.w (upd H x o) h' x o):Inv X pins σ (upd H x o) {s with heap:=h',toks:=t'}:=I.un (Un.write mu he k heo) (I.ba.write mu he k heo new)
theorem Inv.zN(I:Inv X pins σ H s)(h:∀p∈pins',s.heap.get? p.1=some p.2/\H p.1=none/\p.1≠X.env.locals/\p.1∉X.fs/\∀v,p.2.data≠.cell v):Inv X pins' σ H s:=
 ⟨I.ok,I.os,I.bare,I.base,I.loc,I.cell,I.free,I.fX,λp hp=>(PX.mp hp).elim (λz=>I.pin p (QH _ z)) (h p),I.ba,I.len⟩
theorem rg{N:List Str}(hN:N.Nodup){i j:Nat}{x:Str}(a:N[i]?=some x)(b:N[j]?=some x):i=j:=by
 obtain⟨h1,e1⟩:=Pq.mp a;obtain⟨h2,e2⟩:=Pq.mp b;exact(List.getElem_inj hN).mp (e1.trans e2.symm)
theorem tE{M:Model}{A:Around}{E:Value->Shared->Prop}{i:Nat}{x:Str}{v:V}{u:Value}{Q:Unit->Shared->Prop}(I:Inv X pins σ H s)(hN:X.N.Nodup)(hi:X.N[i]?=some x)(hx:Loc X.env.scope x)(r:RelV v u)
  (h:∀s',Inv X pins (σ.set i (some v)) H s'->(∃a,Heap.SameBut a s.heap s'.heap/\(a=X.env.locals\/X.env.cells.lookup x=some a))->Q () s') (hf:X.fn x=true\/X.env.scope.names.lookup x=some .local:=by first | exact .inl rfl | exact .inr rfl | assumption):wpAny M A (storeName X.env x u) Q E s:=by
 obtain⟨m,hn,hl⟩:=id I.loc;have hcls:(X.env.scope.kind==.class||(X.env.scope.kind==.module&&X.env.locals !=X.env.globals))=false:=by rw[I.ok.kind];rfl
 have hiσ:i < σ.length:=by rw[I.len];exact(Pq.mp hi).1
 have EF:=I.EF;have tracked:∀{a:Addr} {h':Heap},(∃o,s.heap.get? a=some o/\H a=none)->Heap.SameBut a s.heap h'->j8 X.prog X.w H h':=λ{a h'} ha hs b ob e=>by
  obtain⟨_,_,hfree⟩:=ha;refine(I.ba b ob e).nz (λc w' hc q=>(hs.2 c ?_).trans q) (λ_ q=>q) λ_ _ q=>q;rintro rfl;rcases hc with rfl | hc
  ·rw[hfree] at e;cases e
  ·rw[hfree] at hc;cases hc
 rcases hx with hk | hk
 ·refine wpAny_storeName_local hk hn (λh' hn' hs=>?_) hcls;obtain⟨oL,_,_,hoL,_⟩:=id hn;refine h _ ⟨I.ok,I.os,I.bare,⟨λb o e n hb hx=>?_,λb o e n hb hx=>?_,I.base.free,λb o e hx=>?_,I.base.nu,I.base.mE,I.base.nv⟩,⟨_,hn',λj y v' e1 e2 e3=>?_⟩,λy c e=>?_,I.free,I.fX,λp hp=>?_,tracked ⟨oL,hoL,I.free⟩ hs,by simpa using I.len⟩ ⟨_,hs,.inl rfl⟩
  ·exact(hs.2 b (P9 (P2 (PU e) I.ok.above))).trans (I.base.keep b o e n hb hx)
  ·obtain⟨sl,e1⟩:=I.base.slot b o e n hb hx;exact⟨sl,(hs.2 b (P9 (P2 (PU e) I.ok.above))).trans e1⟩
  ·obtain⟨o',e1⟩:=I.base.there b o e hx;exact⟨o',(hs.2 b (P9 (P2 (PU e) I.ok.above))).trans e1⟩
  ·by_cases hj:j=i
   ·subst hj;rw[hi] at e1;cases e1;rw[Qf hiσ] at e2;cases e2;exact⟨u,r,.inl ⟨hk,by simp⟩⟩
   ·rw[Qo (Q0 hj)] at e2;obtain⟨u',r',q⟩:=hl j y v' e1 e2 e3;refine⟨u',r',?_⟩;rcases q with⟨k,e⟩ |⟨k,c,e,z⟩
    ·refine .inl ⟨k,?_⟩;have:y≠x:=λe=>hj (rg hN e1 (e ▸ hi));simp[this,e]
    ·exact .inr ⟨k,c,e,z.sameBut hs (EF y c e)⟩
  ·obtain⟨w',z⟩:=I.cell y c e;exact⟨w',z.sameBut hs (EF y c e)⟩
  ·obtain⟨e,n,ne,nf,d⟩:=I.pin p hp;exact⟨(hs.2 p.1 ne).trans e,n,ne,nf,d⟩
 ·have hfn:X.fn x=true:=by
   rcases hf with z | z
   ·exact z
   ·rw[z] at hk;cases hk
  obtain⟨c,hc⟩:=I.ok.has x (.inl hk);obtain⟨w',z⟩:=I.cell x c hc;refine wpAny_storeName_cell I.ok.kind hk hc z (λh' hc' hs=>?_);obtain⟨oc,hoc,hocd⟩:=id z;refine h {s with heap:=h'} ⟨I.ok,I.os,I.bare,⟨λb o e n hb hx=>?_,λb o e n hb hx=>?_,I.base.free,λb o e hx=>?_,I.base.nu,I.base.mE,I.base.nv⟩,⟨m,hn.sameBut hs (Q0 (EF x c hc)),λj y v' e1 e2 e3=>?_⟩,λy c' e=>?_,I.free,I.fX,λp hp=>?_,tracked ⟨oc,hoc,I.fX x c hc⟩ hs,by simpa using I.len⟩ ⟨c,hs,.inr hc⟩
  ·exact(hs.2 b (P9 (P2 (PU e) (I.ok.KR x c hfn hc)))).trans (I.base.keep b o e n hb hx)
  ·obtain⟨sl,e1⟩:=I.base.slot b o e n hb hx;exact⟨sl,(hs.2 b (P9 (P2 (PU e) (I.ok.KR x c hfn hc)))).trans e1⟩
  ·obtain⟨o',e1⟩:=I.base.there b o e hx;exact⟨o',(hs.2 b (P9 (P2 (PU e) (I.ok.KR x c hfn hc)))).trans e1⟩
  ·by_cases hj:j=i
   ·subst hj;rw[hi] at e1;cases e1;rw[Qf hiσ] at e2;cases e2;exact⟨u,r,.inr ⟨.inl hk,c,hc,hc'⟩⟩
   ·rw[Qo (Q0 hj)] at e2;obtain⟨u',r',q⟩:=hl j y v' e1 e2 e3;refine⟨u',r',?_⟩;rcases q with q |⟨k,c',e,z'⟩
    ·exact .inl q
    ·refine .inr ⟨k,c',e,z'.sameBut hs ?_⟩;rintro rfl;exact hj (rg hN e1 (I.ok.inj _ _ _ e hc ▸ hi))
  ·by_cases hcc:c'=c
   ·subst hcc;exact⟨_,hc'⟩
   ·obtain⟨w2,z2⟩:=I.cell y c' e;exact⟨w2,z2.sameBut hs hcc⟩
  ·obtain⟨e,n,ne,nf,d⟩:=I.pin p hp;refine⟨(hs.2 p.1 ?_).trans e,n,ne,nf,d⟩;intro q;rw[q,hoc] at e;have q':oc=p.2:=Option.some.inj e;exact d w' (by rw[<-q'];exact hocd)
theorem gP(I:Inv X pins σ H s)(hN:X.N.Nodup)(hi:X.N[i]?=some x)(hx:Loc X.env.scope x)(r:RelV v u)(h:∀s',Inv X pins (σ.set i (some v)) H s'->Q () s')(hf:X.fn x=true\/X.env.scope.names.lookup x=some .local:=by first | exact .inl rfl | exact .inr rfl | assumption):wpAny M A (storeName X.env x u) Q E s:=
 tE I hN hi hx r (λs' I' _=>h s' I') hf
theorem Inv.call'(I:Inv X pins σ H s)(ho:s'.os=s.os)(u:Un (j4 X.stack) ch H H' s.heap s'.heap)(ba:j8 X.prog X.w H' s'.heap)(hg:AllBare s'.gens)(hch:∀b∈ch,(b∈X.ex\/X.s₀.heap.objs.size<=b)/\b≠X.env.locals/\(∀x c,X.env.cells.lookup x=some c->c≠b)/\∀p∈X.pn++pins,p.1≠b):Inv X pins σ H' s':=by
 obtain⟨h',g',d',t',o'⟩:=s';have e:o'=s.os:=ho;subst e;exact I.call (g':=g') (t':=t') (d':=d') u ba hg hch
end
abbrev XK:=Value->Option Addr->Hp->Prop
abbrev St:=List (Option V)
abbrev VK:=V->Hp->Prop
abbrev TE:=St->Hp->VK->Prop
abbrev TT:=St->Hp->(Bool->Hp->Prop)->Prop
abbrev TA:=St->Hp->(List V->Hp->Prop)->Prop
structure Ends where
 nx:St->Hp->Prop
 rt:VK
 bk:St->Hp->Prop:=λ_ _=>False
 ct:St->Hp->Prop:=λ_ _=>False
abbrev TS:=Ends->St->Hp->Prop
inductive O5(X:Cx)(pins:List (Addr×Obj))(σ:St)(Q:VK)(u:Value)(s':Shared):Prop where
 | mk (v H'):Inv X pins σ H' s'->RelV v u->Q v H'->O5 X pins σ Q u s'
def EP(X:Cx)(pins:List (Addr×Obj))(σ:St)(Q:VK)(u:Value)(s':Shared):Prop:=O5 X pins σ Q u s'
def TP(X:Cx)(pins:List (Addr×Obj))(σ:St)(Q:Bool->Hp->Prop)(b:Bool)(s':Shared):Prop:=∃H',Inv X pins σ H' s'/\Q b H'
inductive O6(X:Cx)(pins:List (Addr×Obj))(σ:St)(Q:List V->Hp->Prop)(us:List Value)(s':Shared):Prop where
 | mk (vs H'):Inv X pins σ H' s'->Vals vs us->Q vs H'->O6 X pins σ Q us s'
def AP(X:Cx)(pins:List (Addr×Obj))(σ:St)(Q:List V->Hp->Prop)(us:List Value)(s':Shared):Prop:=O6 X pins σ Q us s'
def SP(X:Cx)(pins:List (Addr×Obj))(D:Ends)(f:Flow)(s':Shared):Prop:=
 match f with
 | .next=>∃σ' H',Inv X pins σ' H' s'/\D.nx σ' H'
 | .brk=>∃σ' H',Inv X pins σ' H' s'/\D.bk σ' H'
 | .cont=>∃σ' H',Inv X pins σ' H' s'/\D.ct σ' H'
 | .ret u=>∃v σ' H',Inv X pins σ' H' s'/\RelV v u/\D.rt v H'
def PE(X:Cx)(e:Expr)(t:TE):Prop:=
 ∀(pins:List (Addr×Obj)) (s:Shared) (σ:St) (H:Hp) (Q:VK),Inv X pins σ H s->t σ H Q->wpAny (model X.prog X.w) X.A (eval e X.env) (EP X pins σ Q) X.xe s
def PT(X:Cx)(e:Expr)(t:TT):Prop:=
 ∀(pins:List (Addr×Obj)) (s:Shared) (σ:St) (H:Hp) (Q:Bool->Hp->Prop),Inv X pins σ H s->t σ H Q->wpAny (model X.prog X.w) X.A (isTrue e X.env (eval e X.env)) (TP X pins σ Q) X.xe s
def PW(X:Cx)(e:Expr)(t:TT):Prop:=
 ∀(whole:Sem Value)(pins:List (Addr×Obj)) (s:Shared) (σ:St) (H:Hp) (Q:Bool->Hp->Prop),Inv X pins σ H s->t σ H Q->wpAny (model X.prog X.w) X.A (isTrue e X.env whole) (TP X pins σ Q) X.xe s
theorem PW.pt(h:PW X e t):PT X e t:=h _
def PA(X:Cx)(es:List Expr)(t:TA):Prop:=
 ∀(pos:Pos)(pins:List (Addr×Obj)) (s:Shared) (σ:St) (H:Hp) (Q:List V->Hp->Prop),Inv X pins σ H s->t σ H Q->wpAny (model X.prog X.w) X.A (spliced (backTo pos (starEach es X.env))) (AP X pins σ Q) X.xe s
def PS(X:Cx)(st:Stmt)(t:TS):Prop:=
 ∀(pins:List (Addr×Obj)) (s:Shared) (σ:St) (H:Hp) (D:Ends),Inv X pins σ H s->t D σ H->wpAny (model X.prog X.w) X.A (exec st X.env) (SP X pins D) X.xe s
def wG(X:Cx)(st:List Stmt)(t:TS):Prop:=
 ∀(pins:List (Addr×Obj)) (s:Shared) (σ:St) (H:Hp) (D:Ends),Inv X pins σ H s->t D σ H->wpAny (model X.prog X.w) X.A (execs st X.env) (SP X pins D) X.xe s
theorem cM(h:wpAny M A t Q E s)(hQ:∀a s,Q a s->Q' a s):wpAny M A t Q' E s:=Qr h hQ λ_ _ x=>x
section
variable {X:Cx}
def Nr(i:Nat):TE:=λσ H Q=>∃v,σ[i]?=some (some v)/\Q v H
def tC(v:V):TE:=λ_ H Q=>Q v H
theorem DA(hN:X.N[i]?=some x)(hv:KA X.env.scope x)(hd:(x==("__debug__":Str))=false:=by decide)(hcd:(x==("__classdict__":Str))=false:=by decide):PE X (.Name x pos) (Nr i):=by
 intro pins s σ H Q I h;obtain⟨v,e,h⟩:=h;obtain⟨m,hn,hl⟩:=I.loc;obtain⟨u,r,l⟩:=hl i x v hN e hv;have fin:EP X pins σ Q u s:=⟨v,H,I,r,h⟩;rcases l with⟨hk,hm⟩ |⟨hk,c,hc,hcell⟩
 ·exact SK (wpAny_loadName_local I.ok.kind hk hn hm fin) hd
 ·rcases hk with hk | hk
  ·exact SK (wpAny_loadName_cell I.ok.kind hk hc hcell fin) hd
  ·exact SK (wpAny_loadName_free I.ok.kind hk hc hcell fin hcd) hd
theorem Ja{i j pos}:PE X (.Constant (.int i) j pos) (tC (.int i)):=λ_ _ _ H _ I h=>wpAny_Constant_int ⟨.int i,H,I.tok _,⟨_,rfl⟩,h⟩
theorem LQ{b j pos}:PE X (.Constant (.bool b) j pos) (tC (.bl b)):=λ_ _ _ H _ I h=>Constant_bool ⟨.bl b,H,I,rfl,h⟩
theorem DC{j pos}:PE X (.Constant .none j pos) (tC .cj):=λ_ _ _ H _ I h=>Constant_none ⟨.cj,H,I,rfl,h⟩
theorem IY{x j pos}:PE X (.Constant (.str x) j pos) (tC (.str x)):=λ_ _ _ H _ I h=>Calls.Constant_str ⟨.str x,H,I.tok _,⟨_,rfl⟩,h⟩
def Gl(X:Cx)(x:Str):Prop:=X.env.kindOf x=some .globalImplicit
theorem jX(I:Inv X pins σ H s)(hg:Gl X x)(hm:X.mg x=some u)(h:Q u s)(hd:(x==("__debug__":Str))=false:=by decide):wpAny (model X.prog X.w) X.A (eval (.Name x pos) X.env) Q E s:=
 Um I.ok.kind hg (Calls.loadGlobal_global (by rw[I.ok.glob];exact I.mod.glob.keeps I.bk) hm h) hd
theorem jy(I:Inv X pins σ H s)(hg:Gl X x)(hm:X.mg x=none)(hv:bootBuiltins x=some u)(h:Q u s)(hn:x≠"__name__":=by decide)(hd:(x==("__debug__":Str))=false:=by decide):wpAny (model X.prog X.w) X.A (eval (.Name x pos) X.env) Q E s:=by
 obtain⟨mb,h1,h2⟩:=I.mod.blt;exact Um I.ok.kind hg (Calls.loadGlobal_builtin (by rw[I.ok.glob];exact I.mod.glob.keeps I.bk) hm (by rw[I.ok.blt];exact h1.keeps I.bk) ((h2 x hn).trans hv) h) hd
theorem zO(hg:Gl X x)(hm:X.mg x=some u)(r:RelV v u)(hd:(x==("__debug__":Str))=false:=by decide):PE X (.Name x pos) (tC v):=
 λ_ _ _ H _ I h=>jX I hg hm ⟨v,H,I,r,h⟩ hd
theorem Ga(hg:Gl X x)(hm:X.mg x=none)(hv:bootBuiltins x=some u)(r:RelV v u)(hn:x≠"__name__":=by decide)(hd:(x==("__debug__":Str))=false:=by decide):PE X (.Name x pos) (tC v):=
 λ_ _ _ H _ I h=>jy I hg hm hv ⟨v,H,I,r,h⟩ hn hd
variable {a b:Expr} {ta tb:TE} {pos:Pos}
variable {tA tB':TT} {rest:List Expr}
def pF(t u:TT):TT:=λσ H Q=>t σ H λc H1=>if c=true then u σ H1 Q else Q false H1
def Ft(t u:TT):TT:=λσ H Q=>t σ H λc H1=>if c=true then Q true H1 else u σ H1 Q
def pE(t:TT):TT:=λσ H Q=>t σ H λc H1=>Q (!c) H1
theorem FT(ha:PT X a tA):PW X (.BoolOp .And [a] pos) tA:=by
 intro wh pins s σ H Q I h;refine isTrue_and (cM (ha pins s σ H Q I h) λc s1 e=>?_);cases c with
 | true=>exact isTrue_and_nil e
 | false=>exact e
theorem IJ(ha:PT X a tA):PW X (.BoolOp .Or [a] pos) tA:=by
 intro wh pins s σ H Q I h;refine isTrue_or (cM (ha pins s σ H Q I h) λc s1 e=>?_);cases c with
 | false=>exact isTrue_or_nil e
 | true=>exact e
theorem IK(ha:PT X a tA)(hb:PW X (.BoolOp .And (b::rest) pos) tB'):PW X (.BoolOp .And (a::b::rest) pos) (pF tA tB'):=by
 intro wh pins s σ H Q I h;refine isTrue_and (cM (ha pins s σ H _ I h) λc s1 ⟨H1,I1,q1⟩=>?_);cases c with
 | true=>exact hb wh pins s1 σ H1 Q I1 q1
 | false=>exact⟨H1,I1,q1⟩
theorem LM(ha:PT X a tA)(hb:PW X (.BoolOp .Or (b::rest) pos) tB'):PW X (.BoolOp .Or (a::b::rest) pos) (Ft tA tB'):=by
 intro wh pins s σ H Q I h;refine isTrue_or (cM (ha pins s σ H _ I h) λc s1 ⟨H1,I1,q1⟩=>?_);cases c with
 | true=>exact⟨H1,I1,q1⟩
 | false=>exact hb wh pins s1 σ H1 Q I1 q1
theorem IP(ha:PT X a tA):PT X (.UnaryOp .Not a pos) (pE tA):=by
 intro pins s σ H Q I h;exact isTrue_not (ha pins s σ H (λc H1=>Q (!c) H1) I h)
def Lm(ta tb:TE):TE:=λσ H Q=>ta σ H λx H1=>∃c,x=.bl c/\if c=true then tb σ H1 Q else Q (.bl false) H1
theorem I0{op}(h:PE X a t):PE X (.BoolOp op [a] pos) t:=λpins s σ H Q I hw=>BoolOp_one (h pins s σ H Q I hw)
theorem Jc(ha:PE X a ta)(hb:PE X (.BoolOp .And (b::rest) pos) tb):PE X (.BoolOp .And (a::b::rest) pos) (Lm ta tb):=by
 intro pins s σ H Q I h;refine BoolOp_and (cM (ha pins s σ H _ I h) λv s1 ⟨x,H1,I1,r1,q1⟩=>?_);obtain⟨c,rfl,q1⟩:=q1;cases r1;refine RU ?_;cases c with
 | true=>exact hb pins s1 σ H1 Q I1 q1
 | false=>exact⟨.bl false,H1,I1,rfl,q1⟩
def Pd(t:TT)(ta tb:TE):TE:=λσ H Q=>t σ H λc H1=>if c=true then ta σ H1 Q else tb σ H1 Q
theorem DE(hc:PT X c tA)(ha:PE X a ta)(hb:PE X b tb):PE X (.IfExp c a b pos) (Pd tA ta tb):=by
 intro pins s σ H Q I h;refine wpAny_IfExp (cM (hc pins s σ H _ I h) λd s1 ⟨H1,I1,q1⟩=>?_);cases d with
 | true=>exact ha pins s1 σ H1 Q I1 q1
 | false=>exact hb pins s1 σ H1 Q I1 q1
end
def gM(K:FR)(H:Hp)(a:Addr)(xs:List V):Prop:=
 Rd H a (.lst xs)\/
  ∃(o:Obj)(its:Array Value)(n:Nat),K.lookup a=some o/\o.cls=.type "list"/\o.dict=none/\o.data=.seq its n/\its.size<=sizeLine/\Vals xs its.toList
def kG(K:FR)(H:Hp)(a:Addr)(xs:List V):Prop:=
 Rd H a (.tup xs)\/
  ∃(o:Obj)(its:Array Value)(n:Nat),K.lookup a=some o/\o.cls=.type "tuple"/\o.data=.seq its n/\its.size<=sizeLine/\Vals xs its.toList/\o.dict=none
noncomputable def Oy:Value->Option V
 | .none=>some .cj
 | .bool b=>some (.bl b)
 | .int i _=>some (.int i)
 | .str x _=>some (.str x)
 | .bytes b _=>some (.byt b)
 | .float b _=>some (.flt b)
 | .ref a=>some (.ref a)
 | .type n=>some (.ty n)
 | _=>none
theorem RelV.abs(r:RelV x u):Oy u=some x:=by
 cases x with
 | cj=>cases r;rfl
 | bl _=>cases r;rfl
 | int _=>obtain⟨t,rfl⟩:=r;rfl
 | str _=>obtain⟨t,rfl⟩:=r;rfl
 | byt _=>obtain⟨t,rfl⟩:=r;rfl
 | flt _=>obtain⟨t,rfl⟩:=r;rfl
 | ref _=>cases r;rfl
 | ty _=>cases r;rfl
theorem RelV.inj(r:RelV x u)(q:RelV y u):x=y:=Option.some.inj (r.abs.symm.trans q.abs)
theorem Vals.inj{xs ys:List V}{us:List Value}(a:Vals xs us)(b:Vals ys us):xs=ys:=by
 induction a generalizing ys with
 | nil=>cases b;rfl
 | cons r t ih=>cases b with | cons r' t'=>rw[r.inj r',ih t']
theorem gM.of{K:FR}(h:H a=some (.lst xs)):gM K H a xs:=.inl (.inl h)
theorem Inv.list(I:Inv X pins σ H s)(h:gM X.K H a xs):∃its:List Value,Vals xs its/\PlainL s.heap a its.toArray/\xs.length<=sizeLine:=by
 rcases h with h |⟨o,its,n,hk,hc,hd,hs,hz,r⟩
 ·obtain⟨z,its,n,r,e⟩:=h.ok I.ba;exact⟨its,r,⟨_,n,e,rfl,rfl,rfl⟩,z⟩
 ·refine⟨its.toList,r,⟨o,n,I.z5 a o hk,hc,hd,by simpa using hs⟩,?_⟩;have e:=r.length;simp only[Ry] at e
  lia
theorem Inv.tuple(I:Inv X pins σ H s)(h:kG X.K H a xs):∃its:List Value,Vals xs its/\IsTup s.heap a its.toArray/\xs.length<=sizeLine:=by
 rcases h with h |⟨o,its,n,hk,hc,hs,hz,r,_⟩
 ·obtain⟨z,its,r,p⟩:=h.ok I.ba;exact⟨its,r,p.tup,z⟩
 ·refine⟨its.toList,r,⟨o,I.z5 a o hk,hc,n,by simpa using hs⟩,?_⟩;have e:=r.length;simp only[Ry] at e
  lia
theorem Inv.xA(I:Inv X pins σ H s)(h:gM X.K H a xs)(h':gM X.K H a ys):xs=ys:=by
 obtain⟨its,r,⟨o,n,e,_,_,d⟩,_⟩:=I.list h;obtain⟨its',r',⟨o',n',e',_,_,d'⟩,_⟩:=I.list h';rw[e] at e';cases e';rw[d] at d';injection d' with d1 _
 have:its=its':=by simpa using congrArg Array.toList d1
 subst this;exact r.inj r'
theorem Inv.tx(I:Inv X pins σ H s)(h:kG X.K H a xs)(h':kG X.K H a ys):xs=ys:=by
 obtain⟨its,r,⟨o,e,_,n,d⟩,_⟩:=I.tuple h;obtain⟨its',r',⟨o',e',_,n',d'⟩,_⟩:=I.tuple h';rw[e] at e';cases e';rw[d] at d';injection d' with d1 _
 have:its=its':=by simpa using congrArg Array.toList d1
 subst this;exact r.inj r'
abbrev Cx.qj(X:Cx)(E:Value->Shared->Prop):Cx:={X with xe:=E}
abbrev Cx.DP(X:Cx):Cx:=X.qj λ_ _=>False
theorem Cx.Ok.qj{X:Cx}(ok:X.Ok)(E:Value->Shared->Prop):(X.qj E).Ok:=
 ⟨ok.mod,ok.kind,ok.glob,ok.blt,ok.above,ok.inj,ok.has,ok.KR,ok.hd,ok.frames,ok.Lo,ok.Oj,ok.bs,ok.Ff,ok.Bk,ok.Es,ok.nV,ok.Ho⟩
theorem Cx.Ok.gF{X:Cx}{E:Value->Shared->Prop}(ok:(X.qj E).Ok):X.Ok:=
 ⟨ok.mod,ok.kind,ok.glob,ok.blt,ok.above,ok.inj,ok.has,ok.KR,ok.hd,ok.frames,ok.Lo,ok.Oj,ok.bs,ok.Ff,ok.Bk,ok.Es,ok.nV,ok.Ho⟩
theorem Inv.qj(I:Inv X pins σ H s)(E:Value->Shared->Prop):Inv (X.qj E) pins σ H s:=⟨I.ok.qj E,I.os,I.bare,I.base,I.loc,I.cell,I.free,I.fX,I.pin,I.ba,I.len⟩
theorem Inv.gF(I:Inv (X.qj E) pins σ H s):Inv X pins σ H s:=⟨I.ok.gF,I.os,I.bare,I.base,I.loc,I.cell,I.free,I.fX,I.pin,I.ba,I.len⟩
theorem SP.gF(h:SP (X.qj E) pins D f s'):SP X pins D f s':=by
 cases f with
 | next=>obtain⟨σ',H',I,q⟩:=h;exact⟨σ',H',I.gF,q⟩
 | brk=>obtain⟨σ',H',I,q⟩:=h;exact⟨σ',H',I.gF,q⟩
 | cont=>obtain⟨σ',H',I,q⟩:=h;exact⟨σ',H',I.gF,q⟩
 | ret u=>obtain⟨v,σ',H',I,r,q⟩:=h;exact⟨v,σ',H',I.gF,r,q⟩
theorem wG.DP{st:List Stmt}{t:TS}(h:wG X.DP st t):wG X st t:=λpins s σ H D I hw=>
 Qr (h pins s σ H D (I.qj _) hw) (λ_ _ q=>q.gF) λ_ _ z=>False.elim z
section
variable {X:Cx} {st:Stmt} {rest:List Stmt} {t u:TS} {e:Expr} {te:TE} {pos:Pos}
def Lg:TS:=λD σ H=>D.nx σ H
def Lc(t u:TS):TS:=λD σ H=>t {D with nx:=u D} σ H
theorem FW:wG X [] Lg:=λ_ _ σ H _ I h=>RL ⟨σ,H,I,h⟩
theorem xh(h1:PS X st t)(h2:wG X rest u):wG X (st::rest) (Lc t u):=by
 intro pins s σ H D I h;refine Q7 (cM (h1 pins s σ H {D with nx:=u D} I h) λf s1 q=>?_);cases f with
 | next=>
  obtain⟨σ',H',I',q⟩:=q;exact h2 pins s1 σ' H' D I' q
 | ret v=>exact q
 | brk=>exact q
 | cont=>exact q
theorem FV(h1:PS X st t):wG X [st] t:=by
 intro pins s σ H D I h;refine Q7 (cM (h1 pins s σ H D I h) λf s1 q=>?_);cases f with
 | next=>exact RL q
 | ret v=>exact q
 | brk=>exact q
 | cont=>exact q
theorem Inv.quiet(I:Inv X pins σ H s):interactive X.env=false:=by simp[interactive,I.ok.kind]
def Lj(te:TE):TS:=λD σ H=>te σ H λ_ H1=>D.nx σ H1
theorem FY(he:PE X e te)(hs:swapsWith e none pos.line X.env=pure false:=by rfl):PS X (.Expr e pos) (Lj te):=by
 intro pins s σ H D I h;exact wpAny_Expr_any (cM (he pins s σ H _ I h) λv s1 ⟨x,H1,I1,r1,q1⟩=>⟨σ,H1,I1,q1⟩) I.quiet hs
def Nu(te:TE):TS:=λD σ H=>te σ H D.rt
theorem IQ(he:PE X e te):PS X (.Return (some e) pos) (Nu te):=by
 intro pins s σ H D I h;exact wpAny_Return_some (cM (he pins s σ H _ I h) λv s1 ⟨x,H1,I1,r1,q1⟩=>⟨x,σ,H1,I1,r1,q1⟩)
def Nz(c:TT)(t u:TS):TS:=λD σ H=>c σ H λb H1=>if b=true then t D σ H1 else u D σ H1
theorem Hi(hc:PT X c tc)(ha:wG X a t)(hb:wG X b u):PS X (.If c a b pos) (Nz tc t u):=by
 intro pins s σ H D I h;refine wpAny_If (cM (hc pins s σ H _ I h) λd s1 ⟨H1,I1,q1⟩=>?_);cases d with
 | true=>exact ha pins s1 σ H1 D I1 q1
 | false=>exact hb pins s1 σ H1 D I1 q1
def HU:TS:=λ_ _ _=>False
theorem Dt:PS X st HU:=λ_ _ _ _ _ _ h=>h.elim
end
abbrev TG:=V->St->Hp->(St->Hp->Prop)->Prop
abbrev KG:=List V->St->Hp->(St->Hp->Prop)->Prop
def PG(X:Cx)(target:Expr)(t:TG):Prop:=
 ∀(pins:List (Addr×Obj)) (s:Shared) (σ:St) (H:Hp) (v:V) (u:Value) (Q:St->Hp->Prop),Inv X pins σ H s->RelV v u->t v σ H Q->
  wpAny (model X.prog X.w) X.A (assign target X.env u) (λ_ s'=>∃σ' H',Inv X pins σ' H' s'/\Q σ' H') X.xe s
def HD(X:Cx)(ts:List Expr)(t:KG):Prop:=
 ∀(pins:List (Addr×Obj)) (s:Shared) (σ:St) (H:Hp) (vs:List V) (us:List Value) (Q:St->Hp->Prop),Inv X pins σ H s->Vals vs us->t vs σ H Q->
  wpAny (model X.prog X.w) X.A (assignInOrder ((assignEach ts X.env).map (·.2)) us) (λ_ s'=>∃σ' H',Inv X pins σ' H' s'/\Q σ' H') X.xe s
abbrev MI:=V->V->V->Hp->(Hp->Prop)->Prop
def KL(X:Cx)(t:MI):Prop:=
 ∀(pins:List (Addr×Obj)) (s:Shared) (σ:St) (H:Hp) (o i v:V) (ov iv u:Value) (Q:Hp->Prop),Inv X pins σ H s->RelV o ov->RelV i iv->RelV v u->t o i v H Q->
  wpAny (model X.prog X.w) X.A (setItem ov iv u) (λ_ s'=>∃H',Inv X pins σ H' s'/\Q H') X.xe s
def xH(i:Nat):TG:=λv σ H Q=>Q (σ.set i (some v)) H
theorem F8(hN:X.N.Nodup)(hi:X.N[i]?=some x)(hx:Loc X.env.scope x)(hf:X.fn x=true\/X.env.scope.names.lookup x=some .local:=by first | exact .inl rfl | exact .inr rfl | assumption):PG X (.Name x pos) (xH i):=by
 intro pins s σ H v u Q I r h;exact wpAny_assign_Name (gP I hN hi hx r (λs' I'=>⟨_,H,I',h⟩) hf)
noncomputable def Og:KG:=λvs σ H Q=>vs=[]/\Q σ H
def Ml(t:TG)(u:KG):KG:=λvs σ H Q=>∃v r,vs=v::r/\t v σ H λσ' H'=>u r σ' H' Q
theorem F7:HD X [] Og:=by
 intro pins s σ H vs us Q I r h;obtain⟨e,h⟩:=h;subst e;cases r;exact assignInOrder_nil ⟨σ,H,I,h⟩
theorem Dz(h1:PG X e t)(h2:HD X es u)(hs:(assignEach (e::es) X.env).map (·.2)=assign e X.env::(assignEach es X.env).map (·.2):=by rfl):HD X (e::es) (Ml t u):=by
 intro pins s σ H vs us Q I r h;obtain⟨v,vr,e1,h⟩:=h;subst e1;cases r with
 | cons r rr=>
  rw[hs];refine Ug (cM (h1 pins s σ H _ _ _ I r h) λ_ s1 ⟨σ1,H1,I1,q1⟩=>?_);exact h2 pins s1 σ1 H1 _ _ Q I1 rr q1
def Oe(K:FR)(n:Nat)(t:KG):TG:=λv σ H Q=>∃a xs,v=.ref a/\kG K H a xs/\xs.length=n/\t xs σ H Q
theorem IU(hc:X.calm=true)(h:HD X es t)(hn:(assignEach es X.env).length=n:=by rfl)(hst:(assignEach es X.env).findIdx? (·.1)=none:=by rfl):PG X (.Tuple es k pos) (Oe X.K n t):=by
 intro pins s σ H v u Q I r hw;obtain⟨a,xs,e1,hq,hl,hw⟩:=hw;subst e1;cases r;obtain⟨its,rv,ht,hz⟩:=I.tuple hq;refine assign_Tuple_tuple (I.ok.hd hc) ht (by simp[hn,<-hl,rv.length]) hst λh' hx=>?_;have I1:Inv X pins σ H {s with heap:=h'}:=I.kept (t':=s.toks) λb o e=>hx b o (P9 (PU e)) e;exact h pins _ σ H xs _ Q I1 (by simpa using rv) hw
def pO(to ti:TE)(t:MI):TG:=λv σ H Q=>to σ H λo H1=>ti σ H1 λi H2=>t o i v H2 λH3=>Q σ H3
theorem IV (ho:PE X o to) (hi:PE X i ti) (hs:KL X t) (ha:∀v,assign (.Subscript o i pos) X.env v=(do
   let ov<-holding [v] (eval o X.env);let iv<-holding [v,ov] (eval i X.env)
   standAt pos
   holding [v,ov,iv] (setItem ov iv v)
   release [v,ov,iv] []):=by intro _;rfl):PG X (.Subscript o i pos) (pO to ti t):=by
 intro pins s σ H v u Q I r h;rw[ha];refine Pu (R6 (cM (ho pins s σ H _ I h) λov s1 ⟨x,H1,I1,r1,q1⟩=>?_));refine Pu (R6 (cM (hi pins s1 σ H1 _ I1 q1) λiv s2 ⟨y,H2,I2,r2,q2⟩=>?_));refine Pu (Sx (Pu (R6 (cM (hs pins s2 σ H2 x y v ov iv u _ I2 r1 r2 r q2) λ_ s3 ⟨H3,I3,q3⟩=>?_))));exact wpAny_release ⟨σ,H3,I3,q3⟩
def Fv(te:TE)(g:TG):TS:=λD σ H=>te σ H λx H1=>g x σ H1 D.nx
theorem Dv(he:PE X e te)(hg:PG X tg g)(hs:swapsWithSole [tg] e pos.line X.env=pure false:=by rfl)(hw:swappedStores [tg] e X.env=pure none:=by rfl)(h1:(assignEach [tg] X.env).map (·.2)=[assign tg X.env]:=by rfl):PS X (.Assign [tg] e pos) (Fv te g):=by
 intro pins s σ H D I h;refine wpAny_Assign_stores (cM (he pins s σ H _ I h) λv s1 ⟨x,H1,I1,r1,q1⟩=>?_) hs hw;rw[h1];exact cM (hg pins s1 σ H1 x v _ I1 r1 q1) λ_ s2 q=>q
theorem yH(hN:X.N.Nodup)(hi:X.N[i]?=some x)(hx:Loc X.env.scope x)(he:PE X e te)(hs:swapsWith e (some (.Name x pos')) pos.line X.env=pure false:=by rfl)(hf:X.fn x=true\/X.env.scope.names.lookup x=some .local:=by first | exact .inl rfl | exact .inr rfl | assumption):
  PS X (.Assign [.Name x pos'] e pos) (Fv te (xH i)):=by
 intro pins s σ H D I h;refine wpAny_Assign_Name (cM (he pins s σ H _ I h) λv s1 ⟨y,H1,I1,r1,q1⟩=>?_) hs;exact gP I1 hN hi hx r1 (λs2 I2=>⟨_,H1,I2,q1⟩) hf
def Le(i j:Nat)(ta:TA):TS:=λD σ H=>ta σ H λvs H1=>∃v w,vs=[v,w]/\D.nx ((σ.set i (some v)).set j (some w)) H1
theorem kQ{kt k2 pt2}(hc:X.calm=true)(hN:X.N.Nodup)(hi:X.N[i]?=some x)(hj:X.N[j]?=some y)(hij:i≠j)(hx:X.env.scope.names.lookup x=some .local)(hy:X.env.scope.names.lookup y=some .local)(ha:PA X [a,b] ta)(hw:swappedStores [.Tuple [.Name x px,.Name y py] kt pt] (.Tuple [a,b] k2 pt2) X.env=pure (some [x,y]))(hs:swapsWithSole [.Tuple [.Name x px,.Name y py] kt pt] (.Tuple [a,b] k2 pt2) pos.line X.env=pure false:=by rfl):
  PS X (.Assign [.Tuple [.Name x px,.Name y py] kt pt] (.Tuple [a,b] k2 pt2) pos) (Le i j ta):=by
 intro pins s σ H D I h;rw[exec_Assign_arm];refine Pu (Sx ?_);rw[hs];refine Pu (PZ ?_);rw[PH (by decide)];refine Pu (Tuple_ (cM (ha _ pins s σ H _ I h) λus s1 ⟨vs,H1,I1,r1,q1⟩=>?_));obtain⟨v,w,e1,q1⟩:=q1;subst e1;obtain⟨u1,u2,rfl,rv,rw'⟩:∃u1 u2,us=[u1,u2]/\RelV v u1/\RelV w u2:=by
  cases r1 with
  | cons p q=>
   cases q with
   | cons p' q'=>
    cases q';exact⟨_,_,rfl,p,p'⟩
 refine Q1 ?_ (by show 2<=sizeLine;decide);have I2:Inv X pins σ H1 {s1 with heap:=s1.heap.push {cls:=.type "tuple",data:=.seq [u1,u2].toArray}}:=I1.kept (t':=s1.toks) λb o e=>PC _ e;rw[hw];refine Pu (PZ ?_);show wpAny (model X.prog X.w) X.A (do rule "assign.swapped-stores";let items<-unpackItems (.ref s1.heap.objs.size) 2 none;assignInOrder [λv=>bindName X.env y v,λv=>bindName X.env x v] items.reverse;pure Flow.next) _ _ _;refine Pu (Ti (Pu (unpackItems_tuple (items:=#[u1,u2]) (I.ok.hd hc) (IsTup.new s1.heap _) λh' hx'=>?_)));have I3:=I2.kept (h':=h') (t':=s1.toks) λb o e=>hx' b o (P9 (PU e)) e;show wpAny _ _ (assignInOrder [λv=>bindName X.env y v,λv=>bindName X.env x v] [u2,u1] >>=λ_=>pure Flow.next) _ _ _;refine Pu (Ug (Ul (gP I3 hN hj (.inl hy) rw' (λs2 I4=>?_) (.inr hy))));refine Ug (Ul (gP I4 hN hi (.inl hx) rv (λs3 I5=>assignInOrder_nil (PZ ?_)) (.inr hx)));rw[List.set_comm _ _ (Q0 hij)] at I5;exact⟨_,H1,I5,q1⟩
structure It where
 go:Nat->Hp->Prop
 HE:Nat->Hp->V->Hp->Prop
 stop:Nat->Hp->Prop
def kd(X:Cx)(pins:List (Addr×Obj))(H:Hp)(b:Addr):Prop:=
 H b=none/\b≠X.env.locals/\b∉X.fs/\(b∈X.ex\/X.s₀.heap.objs.size<=b)/\(∀x c,X.env.cells.lookup x=some c->c≠b)/\∀p∈X.pn++pins,p.1≠b
theorem Inv.Bz(I:Inv X pins σ H s)(hb:s.heap.objs.size<=b)(hn:H' b=none):kd X pins H' b:=by
 refine⟨hn,Sr (P2 I.lt hb),I.N8 hb,.inr (PL I.sz hb),λx c e z=>?_,λp hp z=>?_⟩
 ·obtain⟨v,q⟩:=I.cell x c e;exact absurd (P2 q.lt (by rw[z];exact hb)) (RC _)
 ·exact absurd (P2 (PU (I.pin p hp).1) (by rw[z];exact hb)) (RC _)
structure Turn(P:Program)(w:World)(K:FR)(tg:Expr)(J:It)(fp:List Addr)(it:Addr)(tn:Nat->Heap->Prop):Prop where
 mem:it∈fp
 obj:∀i h,tn i h->∀b∈fp,∃o,h.get? b=some o/\∀v,o.data≠.cell v
 keep:∀i h h',tn i h->(∀b∈fp,∀o,h.get? b=some o->h'.get? b=some o)->tn i h'
 item:∀(X:Cx),X.prog=P->X.w=w->X.K=K->X.calm=true->∀(i:Nat)(pins:List (Addr×Obj)) (s:Shared) (σ:St) (H:Hp) (E:Value->Shared->Prop),Inv X pins σ H s->(∀b∈fp,kd X pins H b)->tn i s.heap->J.go i H->
  wpAny (model P w) X.A (pyNext (.ref it)) (λr s1=>∃u,r=some u/\
   wpAny (model P w) X.A (letOwnedTupleGo tg (.ref it) u) (λ_ s2=>∃x H',Inv X pins σ H' s2/\RelV x u/\J.HE i H x H'/\tn (i+1) s2.heap/\∀b∈fp,H' b=none) E s1) E s
 done:∀(X:Cx),X.prog=P->X.w=w->X.K=K->X.calm=true->∀(i:Nat)(pins:List (Addr×Obj)) (s:Shared) (σ:St) (H:Hp) (E:Value->Shared->Prop),Inv X pins σ H s->(∀b∈fp,kd X pins H b)->tn i s.heap->J.stop i H->
  wpAny (model P w) X.A (pyNext (.ref it)) (λr s1=>r=none/\Inv X pins σ H s1) E s
 self:∀(A:Around)(i:Nat)(s:Shared)(Q:Value->Shared->Prop)(E:Value->Shared->Prop),tn i s.heap->Q (.ref it) s->wpAny (model P w) A (pyIter (.ref it)) Q E s
abbrev TI:=St->Hp->(It->Hp->Prop)->Prop
def OB(X:Cx)(pins:List (Addr×Obj))(σ:St)(tg:Expr)(R:It->Hp->Prop)(itv:Value)(s2:Shared):Prop:=
 ∃(it:Addr)(fp:List Addr)(tn:Nat->Heap->Prop)(J:It)(H':Hp),itv=.ref it/\Inv X pins σ H' s2/\Turn X.prog X.w X.K tg J fp it tn/\tn 0 s2.heap/\(∀b∈fp,kd X pins H' b)/\R J H'
def PI(X:Cx)(tg iter:Expr)(wi:TI):Prop:=
 ∀(pins:List (Addr×Obj)) (s:Shared) (σ:St) (H:Hp) (R:It->Hp->Prop),Inv X pins σ H s->wi σ H R->
  wpAny (model X.prog X.w) X.A (eval iter X.env) (λv s1=>wpAny (model X.prog X.w) X.A (pyIter v) (OB X pins σ tg R) X.xe s1) X.xe s
theorem Ae(ho:s.heap.get? it=some o)(hc:o.cls=.type n)(hd:o.data=.fields vs)(hn:["enumerate","zip","dict_itemiterator","dict_reverseitemiterator","odict_iterator","itertools.zip_longest","itertools.pairwise"].contains n=false)(hQ:Q () s):wpAny M A (letOwnedTupleGo tg (.ref it) u) Q E s:=by
 unfold letOwnedTupleGo;cases tg <;> first
  | exact PZ hQ
  |(cases u <;> first
    | exact PZ hQ
    |(refine Pu (wpAny_load ho ?_);rw[hc,hd];show wpAny M A (if(["enumerate","zip","dict_itemiterator","dict_reverseitemiterator","odict_iterator","itertools.zip_longest","itertools.pairwise"].contains n&&vs[0]?==some (rawInt _))=true then _ else _) Q E s;rw[PH (by intro h;rw[hn,Bool.false_and] at h;cases h)];exact PZ hQ))
noncomputable def OH(K:FR)(a:Addr):It:=
 ⟨λi H=>∃xs x,gM K H a xs/\xs[i]?=some x,λi H x H'=>H'=H/\∀xs,gM K H a xs->xs[i]?=some x,λi H=>∃xs,gM K H a xs/\xs.length<=i⟩
noncomputable def OG(K:FR)(a:Addr):It:=
 ⟨λi H=>∃xs x,kG K H a xs/\xs[i]?=some x,λi H x H'=>H'=H/\∀xs,kG K H a xs->xs[i]?=some x,λi H=>∃xs,kG K H a xs/\xs.length<=i⟩
noncomputable def Nh(lo:Int)(n:Nat):It:=⟨λi _=>i < n,λi H x H'=>H'=H/\x=.int (lo+i),λi _=>n<=i⟩
theorem AK{P:Program}{w:World}{K:FR}{tg:Expr}(a it:Addr):Turn P w K tg (OH K a) [it] it (λi h=>h.IsListIter it a i) where
 mem:=by simp
 obj:=λi h st b hb=>by
  have e:b=it:=by simpa using hb
  subst e;obtain⟨o,e,c,d⟩:=st;exact⟨o,e,λv z=>by rw[d] at z;cases z⟩
 keep:=λi h h' st k=>st.at λo e=>k it (by simp) o e
 item:=by
  intro X hP hw hK hc i pins s σ H E I hf st hg;subst hP hw hK;obtain⟨xs,x,hq,hx⟩:=hg;obtain⟨its,rv,p,hz⟩:=I.list hq;obtain⟨u,hu,ru⟩:=rv.get hx;obtain⟨f0,f1,f2,f3,f4,f5⟩:=hf it (by simp);refine wpAny_pyNext_list_item st p.isList (x:=u) (by simpa using hu) λh' st' sb=>?_;have I1:Inv X pins σ H {s with heap:=h'}:=I.turned (t':=s.toks) (λb o hb e=>(sb.2 b hb).trans e) f0 f1 f3 f4 f5;obtain⟨o,e,c,d⟩:=id st';exact⟨u,rfl,Ae (s:={s with heap:=h'}) e c d (by decide) ⟨x,H,I1,ru,⟨rfl,λys hy=>by rw[I.xA hy hq];exact hx⟩,st',λb hb=>(hf b hb).1⟩⟩
 done:=by
  intro X hP hw hK hc i pins s σ H E I hf st hg;subst hP hw hK;obtain⟨xs,hq,hx⟩:=hg;obtain⟨its,rv,p,hz⟩:=I.list hq;obtain⟨f0,f1,f2,f3,f4,f5⟩:=hf it (by simp);have hl:=rv.length;exact wpAny_pyNext_list_end (I.ok.hd hc) st p.isList (by simp;lia) λh' eb=>⟨rfl,I.turned (t':=s.toks) (λb o hb e=>eb b o hb e) f0 f1 f3 f4 f5⟩
 self:=λ_ _ _ _ _ st h=>wpAny_pyIter_listiter st h
theorem yi{P:Program}{w:World}{K:FR}{tg:Expr}(a it:Addr):Turn P w K tg (OG K a) [it] it (λi h=>h.IsTupleIter it a i) where
 mem:=by simp
 obj:=λi h st b hb=>by
  have e:b=it:=by simpa using hb
  subst e;obtain⟨o,e,c,d⟩:=st;exact⟨o,e,λv z=>by rw[d] at z;cases z⟩
 keep:=λi h h' st k=>st.at λo e=>k it (by simp) o e
 item:=by
  intro X hP hw hK hc i pins s σ H E I hf st hg;subst hP hw hK;obtain⟨xs,x,hq,hx⟩:=hg;obtain⟨its,rv,p,hz⟩:=I.tuple hq;obtain⟨u,hu,ru⟩:=rv.get hx;obtain⟨f0,f1,f2,f3,f4,f5⟩:=hf it (by simp);refine wpAny_pyNext_tuple_item st (show s.heap.IsTuple a its.toArray from p) (x:=u) (by simpa using hu) λh' st' sb=>?_;have I1:Inv X pins σ H {s with heap:=h'}:=I.turned (t':=s.toks) (λb o hb e=>(sb.2 b hb).trans e) f0 f1 f3 f4 f5;obtain⟨o,e,c,d⟩:=id st';exact⟨u,rfl,Ae (s:={s with heap:=h'}) e c d (by decide) ⟨x,H,I1,ru,⟨rfl,λys hy=>by rw[I.tx hy hq];exact hx⟩,st',λb hb=>(hf b hb).1⟩⟩
 done:=by
  intro X hP hw hK hc i pins s σ H E I hf st hg;subst hP hw hK;obtain⟨xs,hq,hx⟩:=hg;obtain⟨its,rv,p,hz⟩:=I.tuple hq;obtain⟨f0,f1,f2,f3,f4,f5⟩:=hf it (by simp);have hl:=rv.length;exact wpAny_pyNext_tuple_end (I.ok.hd hc) st (show s.heap.IsTuple a its.toArray from p) (by simp;lia) λh' eb=>⟨rfl,I.turned (t':=s.toks) (λb o hb e=>eb b o hb e) f0 f1 f3 f4 f5⟩
 self:=λ_ _ _ _ _ st h=>wpAny_pyIter_tupleiter st h
theorem yj{P:Program}{w:World}{K:FR}{tg:Expr}(it:Addr)(lo:Int)(n:Nat):Turn P w K tg (Nh lo n) [it] it (λi h=>IsRangeIter h it (lo+(i:Nat)*1) ((n:Int)-(i:Nat)) 1) where
 mem:=by simp
 obj:=λi h st b hb=>by
  have e:b=it:=by simpa using hb
  subst e;exact⟨_,st,λv z=>by
   have z':Data.fields _=Data.cell v:=z;cases z'⟩
 keep:=λi h h' st k=>k it (by simp) _ st
 item:=by
  intro X hP hw hK hc i pins s σ H E I hf st hg;subst hP hw hK;obtain⟨f0,f1,f2,f3,f4,f5⟩:=hf it (by simp);have W:=Walks.range (prog:=X.prog) (w:=X.w) (I.ok.hd hc) it lo 1 n;refine W.item i s _ _ hg st λv h' tk hv st' kk=>?_;obtain⟨t,rfl⟩:=hv;have I1:Inv X pins σ H {s with heap:=h',toks:=tk}:=I.turned (λb o hb e=>kk b o (by simpa using hb) e) f0 f1 f3 f4 f5;refine⟨_,rfl,Ae (s:={s with heap:=h',toks:=tk}) (n:="range_iterator") st' rfl rfl (by decide) ⟨.int (lo+i),H,I1,⟨t,?_⟩,⟨rfl,rfl⟩,st',λb hb=>(hf b hb).1⟩⟩;rw[Int.mul_one]
 done:=by
  intro X hP hw hK hc i pins s σ H E I hf st hg;subst hP hw hK;obtain⟨f0,f1,f2,f3,f4,f5⟩:=hf it (by simp);exact wpAny_pyNext_range_end (I.ok.hd hc) st (by have:n<=i:=hg;lia) λh' eb=>⟨rfl,I.turned (t':=s.toks) (λb o hb e=>eb b o hb e) f0 f1 f3 f4 f5⟩
 self:=λ_ _ _ _ _ st h=>wpAny_pyIter_rangeiter st h
theorem Dd{pins:List (Addr×Obj)}{σ:St}{H:Hp}{s:Shared}{R:It->Hp->Prop}{E:Value->Shared->Prop}{lo hi:Int}{t u v:Tok}{tk:Nat}(I:Inv X pins σ H s)(h1:-(2^62)<=lo)(h2:lo < 2^62)(h3:-(2^62)<=hi)(h4:hi < 2^62)
  (q:R (Nh lo (hi-lo).toNat) H):wpAny (model X.prog X.w) X.A (pyIter (.ref s.heap.objs.size)) (OB X pins σ tg R) E {s with heap:=s.heap.push {cls:=.type "range",data:=.fields #[.int lo t,.int hi u,.int 1 v]},toks:=tk}:=by
 refine wpAny_pyIter_range (IsRange.new ..) (small_one h1 h2 h3 h4) ?_;have I1:Inv X pins σ H {s with heap:=s.heap.push {cls:=.type "range",data:=.fields #[.int lo t,.int hi u,.int 1 v]},toks:=tk}:=I.kept λb o e=>PC _ e;refine⟨(s.heap.push {cls:=.type "range",data:=.fields #[.int lo t,.int hi u,.int 1 v]}).objs.size,[(s.heap.push {cls:=.type "range",data:=.fields #[.int lo t,.int hi u,.int 1 v]}).objs.size],_,_,H,rfl,
  I1.kept (t':=tk) λb o e=>PC _ e,yj _ lo (hi-lo).toNat,?_,λb hb=>?_,q⟩
 ·have e1:lo+((0:Nat):Int)*1=lo:=by simp
  have e2:(((hi-lo).toNat:Nat):Int)-((0:Nat):Int)=Builtin.Range.rangeSize lo hi 1:=by rw[rangeSize_one];split <;> lia
  show IsRangeIter _ _ (lo+((0:Nat):Int)*1) ((((hi-lo).toNat:Nat):Int)-((0:Nat):Int)) 1;rw[e1,e2];exact P8 _ rfl
 ·have e:b=(s.heap.push {cls:=.type "range",data:=.fields #[.int lo t,.int hi u,.int 1 v]}).objs.size:=by simpa using hb
  subst e;exact I1.Bz (Pw _) (I1.ba.fresh (Pw _))
def Me(ta:TA):TI:=λσ H R=>ta σ H λvs H1=>∃j:Int,vs=[.int j]/\-(2^62)<=j/\j < 2^62/\R (Nh 0 j.toNat) H1
theorem Be{a:Expr}{ta:TA}{p pos:Pos}(hg:Gl X "range")(hm:X.mg "range"=none)(ha:PA X [a] ta)(hs:starEach [a] X.env=[(false,eval a X.env)]:=by rfl):PI X tg (.Call (.Name "range" p) [a] [] pos) (Me ta):=by
 intro pins s σ H R I h;refine Call_ (jy I hg hm boot_range (QJ (cM (ha pos pins s σ H _ I h) λus s1 ⟨vs,H1,I1,r1,q1⟩=>?_) hs rfl));obtain⟨j,e,q1,q2,q⟩:=q1;subst e;cases r1 with
 | cons r rr=>
  cases rr;obtain⟨t,rfl⟩:=r;exact call_range_1 (Dd I1 (by lia) (by lia) q1 q2 (by simpa using q))
def Li(wi:TI)(g:TG)(tb:TS):TS:=λD σ H=>wi σ H λJ H1=>∃W:Nat->Nat->St->Hp->Prop,(∃m,W 0 m σ H1)/\∀i m σ H,W i m σ H->
 (J.stop i H/\D.nx σ H)\/(J.go i H/\∃N:St->Hp->Prop,(∀σ' H',N σ' H'->∃m',m' < m/\W (i+1) m' σ' H')/\∀x H',J.HE i H x H'->g x σ H' λσ2 H2=>tb {D with nx:=N,ct:=N,bk:=D.nx} σ2 H2)
noncomputable def qU(fp:List Addr)(h:Heap):List (Addr×Obj):=fp.filterMap λb=>(h.get? b).map λo=>(b,o)
theorem iJ(hb:b∈fp)(e:h.get? b=some o):(b,o)∈qU fp h:=Q5.mpr ⟨b,hb,by rw[e];rfl⟩
theorem Bh(hp:p∈qU fp h):p.1∈fp/\h.get? p.1=some p.2:=by
 obtain⟨b,hb,e⟩:=Q5.mp hp;cases q:h.get? b with
 | none=>rw[q] at e;cases e
 | some o=>
  rw[q] at e;have e':(b,o)=p:=Option.some.inj e;subst e';exact⟨hb,q⟩
theorem Inv.pinned(I:Inv X pins σ H s)(hf:∀b∈fp,kd X pins H b)(ho:∀b∈fp,∃o,s.heap.get? b=some o/\∀v,o.data≠.cell v):Inv X (pins++qU fp s.heap) σ H s:=
 I.zN λp hp=>(PX.mp hp).elim (λz=>I.pin p (P7 _ z)) λz=>by
  obtain⟨hb,e⟩:=Bh z;obtain⟨f0,f1,f2,_⟩:=hf p.1 hb;obtain⟨o,e',d⟩:=ho p.1 hb;rw[e] at e';cases e';exact⟨e,f0,f1,f2,d⟩
theorem Inv.lC(I:Inv X (pins++pl) σ H s):Inv X pins σ H s:=I.zN λp hp=>I.pin p (P7 _ (QH _ hp))
theorem IS(hp:PassesOwn (model X.prog X.w) X.A X.env X.xe)(hc:X.calm=true)(hi:PI X tg iter wi)(hg:PG X tg g)(hb:wG X body tb)(hs:∀x,foldedSetIterable iter X.env x=pure x:=by intro _;rfl):PS X (.For tg iter body [] pos) (Li wi g tb):=by
 intro pins s σ H D I h;refine wpAny_For (cM (hi pins s σ H _ I h) λv s1 h1=>cM h1 λitv s2 h2=>?_) hs;obtain⟨it,fp,tn,J,H2,e,I2,T,st2,f2,W,⟨m0,w0⟩,turn⟩:=h2;subst e;have stat:∀{H':Hp},(∀b∈fp,H' b=none)->∀b∈fp,kd X pins H' b:=λhn b hb=>⟨hn b hb,(f2 b hb).2⟩;refine codeAny_forLoop_any (λn s'=>∃i σ' H',Inv X pins σ' H' s'/\tn i s'.heap/\(∀b∈fp,H' b=none)/\W i n σ' H') ?_ m0 ⟨0,σ,H2,I2,st2,λb hb=>(f2 b hb).1,w0⟩;rintro n s3 ⟨i,σ3,H3,I3,st3,fr3,w3⟩;rcases turn i n σ3 H3 w3 with⟨stop,qn⟩ |⟨go,N,hN,step⟩
 ·refine Sd hp (cM (T.done X rfl rfl rfl hc i pins s3 σ3 H3 X.xe I3 (stat fr3) st3 stop) λr s4 ⟨hr,I4⟩=>?_);subst hr;exact RL ⟨σ3,H3,I4,qn⟩
 ·refine Sd hp (cM (T.item X rfl rfl rfl hc i pins s3 σ3 H3 X.xe I3 (stat fr3) st3 go) λr s4 ⟨u,hr,h4⟩=>?_);subst hr;refine Sd hp (cM h4 λ_ s5 ⟨x,H5,I5,r5,y5,st5,fr5⟩=>?_);have I5':=I5.pinned (stat fr5) (T.obj _ _ st5);refine Sd hp (cM (hg _ s5 σ3 H5 x u _ I5' r5 (step x H5 y5)) λ_ s6 ⟨σ6,H6,I6,q6⟩=>?_);refine Sd hp (cM (hb _ s6 σ6 H6 _ I6 q6) λf s7 q7=>?_);have again:∀{σ7:St} {H7:Hp},Inv X (pins++qU fp s5.heap) σ7 H7 s7->N σ7 H7->∃m,m < n/\∃i σ' H',Inv X pins σ' H' s7/\tn i s7.heap/\(∀b∈fp,H' b=none)/\W i m σ' H':=λ{σ7 H7} I7 n7=>by
   obtain⟨m',hm,w7⟩:=hN σ7 H7 n7;refine⟨m',hm,i+1,σ7,H7,I7.lC,T.keep _ _ _ st5 λb hb o e=>(I7.pin (b,o) (P7 _ (P7 _ (iJ hb e)))).1,λb hb=>?_,w7⟩;obtain⟨o,e,d⟩:=T.obj _ _ st5 b hb;exact(I7.pin (b,o) (P7 _ (P7 _ (iJ hb e)))).2.1
  cases f with
  | next=>obtain⟨σ7,H7,I7,n7⟩:=q7;exact again I7 n7
  | cont=>obtain⟨σ7,H7,I7,n7⟩:=q7;exact again I7 n7
  | brk=>obtain⟨σ7,H7,I7,q7⟩:=q7;exact⟨σ7,H7,I7.lC,q7⟩
  | ret v=>obtain⟨x7,σ7,H7,I7,r7,q7⟩:=q7;exact⟨x7,σ7,H7,I7.lC,r7,q7⟩
abbrev R2:=V->V->Hp->VK->Prop
def oj(X:Cx)(f:Value->Value->Sem Value)(r:R2):Prop:=
 ∀(pins:List (Addr×Obj)) (s:Shared) (σ:St) (H:Hp) (x y:V) (v u:Value) (Q:VK),Inv X pins σ H s->RelV x v->RelV y u->r x y H Q->
  wpAny (model X.prog X.w) X.A (f v u) (EP X pins σ Q) X.xe s
def MF(X:Cx)(f:Value->Sem Value)(r:V->Hp->VK->Prop):Prop:=
 ∀(pins:List (Addr×Obj)) (s:Shared) (σ:St) (H:Hp) (x:V) (v:Value) (Q:VK),Inv X pins σ H s->RelV x v->r x H Q->
  wpAny (model X.prog X.w) X.A (f v) (EP X pins σ Q) X.xe s
def gd(X:Cx)(f:Value)(r:List V->Hp->VK->Prop):Prop:=
 ∀(pins:List (Addr×Obj)) (s:Shared) (σ:St) (H:Hp) (xs:List V) (us:List Value) (Q:VK),Inv X pins σ H s->Vals xs us->r xs H Q->
  wpAny (model X.prog X.w) X.A (call f us) (EP X pins σ Q) X.xe s
def Oz(X:Cx)(r:V->Hp->(Bool->Hp->Prop)->Prop):Prop:=
 ∀(pins:List (Addr×Obj)) (s:Shared) (σ:St) (H:Hp) (x:V) (v:Value) (Q:Bool->Hp->Prop),Inv X pins σ H s->RelV x v->r x H Q->
  wpAny (model X.prog X.w) X.A (truthy v) (TP X pins σ Q) X.xe s
def Lf(r:R2)(ta tb:TE):TE:=λσ H Q=>ta σ H λx H1=>tb σ H1 λy H2=>r x y H2 Q
def O9(r:V->Hp->VK->Prop)(ta:TE):TE:=λσ H Q=>ta σ H λx H1=>r x H1 Q
def rI(C:Int->Int->Prop)(g:Int->Int->V):R2:=λx y H Q=>∃i j,x=.int i/\y=.int j/\C i j/\Q (g i j) H
def FO(g:Int->Int->V):R2:=λx y H Q=>∃i j,x=.int i/\y=.int j/\Q (g i j) H
def rU(g:Int->V):V->Hp->VK->Prop:=λx H Q=>∃i,x=.int i/\Q (g i) H
theorem Kx(ha:PE X a ta)(hb:PE X b tb){pins:List (Addr×Obj)}{s:Shared}{σ:St}{H:Hp}{R:V->V->Hp->Prop}(I:Inv X pins σ H s)
  (h:ta σ H λx H1=>tb σ H1 λy H2=>R x y H2) {Q:Value->Shared->Prop} {f:Value->Value->Sem Value}
  (hf:∀v u s2 x y H2,Inv X pins σ H2 s2->RelV x v->RelV y u->R x y H2->wpAny (model X.prog X.w) X.A (f v u) Q X.xe s2):
  wpAny (model X.prog X.w) X.A (eval a X.env) (λv s₁=>wpAny (model X.prog X.w) X.A (eval b X.env) (λu s₂=>wpAny (model X.prog X.w) X.A (f v u) Q X.xe s₂) X.xe s₁) X.xe s:=by
 refine cM (ha pins s σ H _ I h) λv s1 ⟨x,H1,I1,r1,q1⟩=>?_;refine cM (hb pins s1 σ H1 _ I1 q1) λu s2 ⟨y,H2,I2,r2,q2⟩=>?_;exact hf v u s2 x y H2 I2 r1 r2 q2
theorem Hj{op:Operator}{r:R2}(ho:oj X (binaryOp op) r)(ha:PE X a ta)(hb:PE X b tb):PE X (.BinOp a op b pos) (Lf r ta tb):=by
 intro pins s σ H Q I h;exact wpAny_BinOp (Kx ha hb I h λv u s2 x y H2 I2 rx ry q=>ho pins s2 σ H2 x y v u Q I2 rx ry q)
theorem LN(ho:MF X (unaryOp op) r)(ha:PE X a ta):PE X (.UnaryOp op a pos) (O9 r ta):=by
 intro pins s σ H Q I h;exact UnaryOp_ (cM (ha pins s σ H _ I h) λv s1 ⟨x,H1,I1,r1,q1⟩=>ho pins s1 σ H1 x v Q I1 r1 q1)
theorem Na{f:Value->Value->Sem Value}{C:Int->Int->Prop}{g:Int->Int->Int}
  (rule:∀(i j:Int)(t u:Tok)(s:Shared)(Q:Value->Shared->Prop)(E:Value->Shared->Prop),C i j->Q (.int (g i j) s.toks) {s with toks:=s.toks+1}->wpAny (model X.prog X.w) X.A (f (.int i t) (.int j u)) Q E s):
  oj X f (rI C λi j=>.int (g i j)):=by
 intro pins s σ H x y v u Q I rx ry h;obtain⟨i,j,rfl,rfl,hc,q⟩:=h;obtain⟨t,rfl⟩:=rx;obtain⟨t',rfl⟩:=ry;exact rule i j t t' s _ _ hc ⟨.int (g i j),H,I.tok _,⟨_,rfl⟩,q⟩
theorem L3{f:Value->Value->Sem Value}{g:Int->Int->Int}
  (rule:∀(i j:Int)(t u:Tok)(s:Shared)(Q:Value->Shared->Prop)(E:Value->Shared->Prop),Q (.int (g i j) s.toks) {s with toks:=s.toks+1}->wpAny (model X.prog X.w) X.A (f (.int i t) (.int j u)) Q E s):
  oj X f (FO λi j=>.int (g i j)):=by
 intro pins s σ H x y v u Q I rx ry h;obtain⟨i,j,rfl,rfl,q⟩:=h;obtain⟨t,rfl⟩:=rx;obtain⟨t',rfl⟩:=ry;exact rule i j t t' s _ _ ⟨.int (g i j),H,I.tok _,⟨_,rfl⟩,q⟩
theorem Gf{f:Value->Value->Sem Value}{g:Int->Int->Bool}
  (rule:∀(i j:Int)(t u:Tok)(s:Shared)(Q:Value->Shared->Prop)(E:Value->Shared->Prop),Q (.bool (g i j)) s->wpAny (model X.prog X.w) X.A (f (.int i t) (.int j u)) Q E s):
  oj X f (FO λi j=>.bl (g i j)):=by
 intro pins s σ H x y v u Q I rx ry h;obtain⟨i,j,rfl,rfl,q⟩:=h;obtain⟨t,rfl⟩:=rx;obtain⟨t',rfl⟩:=ry;exact rule i j t t' s _ _ ⟨.bl (g i j),H,I,rfl,q⟩
def OL(i j:Int):Prop:=0<=j/\j<=1000000/\i.natAbs < 2^64
def KQ(i j:Int):Prop:=(-(2^64) < i/\i < 2^64)\/(-(2^64) < j/\j < 2^64)
theorem KQ.ok(h:KQ i j):IntMulOk i j:=by
 rcases h with⟨h1,h2⟩ |⟨h1,h2⟩
 ·exact .of_left (intBits_le_64 h1 h2)
 ·exact .of_right (intBits_le_64 h1 h2)
theorem Jp:oj X (binaryOp .Add) (FO λi j=>.int (i+j)):=L3 λ_ _ _ _ _ _ _ q=>add_int q
theorem Jj:oj X (binaryOp .Sub) (FO λi j=>.int (i-j)):=L3 λ_ _ _ _ _ _ _ q=>sub_int q
theorem Jm:oj X (binaryOp .Mult) (rI KQ λi j=>.int (i*j)):=Na λ_ _ _ _ _ _ _ hc q=>mul_int q hc.ok
theorem Jn:oj X (binaryOp .Mod) (rI (λ_ j=>0 < j) λi j=>.int (i % j)):=Na λi j _ _ _ _ _ hc q=>by
 have h1:(0:Int) < j:=hc;exact mod_int' (by lia) (by rw[Int.fmod_eq_emod_of_nonneg i (by lia)];exact q)
theorem Jl:oj X (binaryOp .Pow) (rI OL λi j=>.int (i^j.toNat)):=Na λ_ _ _ _ _ _ _ hc q=>pow_int_small hc.1 hc.2.1 hc.2.2 q
theorem O7{f:Value->Sem Value}{g:Int->Int}
  (rule:∀(i:Int)(t:Tok)(s:Shared)(Q:Value->Shared->Prop)(E:Value->Shared->Prop),Q (.int (g i) s.toks) {s with toks:=s.toks+1}->wpAny (model X.prog X.w) X.A (f (.int i t)) Q E s):
  MF X f (rU λi=>.int (g i)):=by
 intro pins s σ H x v Q I rx h;obtain⟨i,rfl,q⟩:=h;obtain⟨t,rfl⟩:=rx;exact rule i t s _ _ ⟨.int (g i),H,I.tok _,⟨_,rfl⟩,q⟩
theorem HN:MF X (unaryOp .USub) (rU λi=>.int (-i)):=O7 λ_ _ _ _ _ q=>neg_int q
theorem JV(I:Inv X pins σ H s)(q:Q (.bl k) H)(e:k=k'):EP X pins σ Q (.bool k') s:=by
 subst e;exact⟨.bl k,H,I,rfl,q⟩
theorem LW:oj X (compareOp .Lt) (FO λi j=>.bl (decide (i < j))):=Gf λ_ _ _ _ _ _ _ q=>lt_int q
theorem LX:oj X (compareOp .LtE) (FO λi j=>.bl (decide (i<=j))):=Gf λ_ _ _ _ _ _ _ q=>le_int q
theorem LY:oj X (compareOp .Gt) (FO λi j=>.bl (decide (j < i))):=Gf λ_ _ _ _ _ _ _ q=>gt_int q
theorem LZ:oj X (compareOp .GtE) (FO λi j=>.bl (decide (j<=i))):=Gf λ_ _ _ _ _ _ _ q=>ge_int q
theorem Jo:oj X (compareOp .Is) (λx y H Q=>y=.cj/\Q (.bl (decide (x=.cj))) H):=by
 intro pins s σ H x y v u Q I rx ry h;obtain⟨rfl,q⟩:=h;cases ry;refine is_none_gen (JV I q ?_);cases x <;> first
  |(cases rx;rfl)
  |(obtain⟨t,rfl⟩:=rx;rfl)
theorem iI(b:Expr)(h:op≠.In:=by decide)(h2:op≠.NotIn:=by decide):behindInMarks op b=false:=by
 have e1:(op==CmpOp.In)=false:=by cases op <;> first | rfl | exact absurd rfl h
 have e2:(op==CmpOp.NotIn)=false:=by cases op <;> first | rfl | exact absurd rfl h2
 cases b <;> simp[behindInMarks,e1,e2]
theorem F9{op:CmpOp}{r:R2}(ho:oj X (compareOp op) r)(ha:PE X a ta)(hb:PE X b tb)(hm:behindInMarks op b=false):PE X (.Compare a [op] [b] pos) (Lf r ta tb):=by
 intro pins s σ H Q I h;exact wpAny_Compare1 (Kx ha hb I h λv u s2 x y H2 I2 rx ry q=>ho pins s2 σ H2 x y v u Q I2 rx ry q) hm
def G6(t:TE):TT:=λσ H Q=>t σ H λx H'=>∃k,x=.bl k/\Q k H'
theorem FU(ho:oj X (compareOp op) r)(ha:PE X a ta)(hb:PE X b tb)(hm:behindInMarks op b=false):PT X (.Compare a [op] [b] pos) (G6 (Lf r ta tb)):=by
 intro pins s σ H Q I h;refine wpAny_isTrue_Compare1 (cM (ha pins s σ H _ I h) λv s1 ⟨x,H1,I1,r1,q1⟩=>cM (hb pins s1 σ H1 _ I1 q1) λu s2 ⟨y,H2,I2,r2,q2⟩=>
  cM (ho pins s2 σ H2 x y v u _ I2 r1 r2 q2) λc s3 ⟨z,H3,I3,r3,k,e,q3⟩=>?_) hm
 subst e;cases r3;exact RU ⟨H3,I3,q3⟩
def Cz(r r':R2)(ta tb tc:TE):TE:=λσ H Q=>ta σ H λx H1=>tb σ H1 λy H2=>r x y H2 λz H3=>∃k,z=.bl k/\
 (if k=true then tc σ H3 λw' H4=>r' y w' H4 Q else Q (.bl false) H3)
theorem Dr(ho:oj X (compareOp op) r)(ho':oj X (compareOp op') r')(ha:PE X a ta)(hb:PE X b tb)(hc:PE X c tc)(hm:lastMarks [op,op'] [b,c]=false:=by with_unfolding_all rfl):PT X (.Compare a [op,op'] [b,c] pos) (G6 (Cz r r' ta tb tc)):=by
 intro pins s σ H Q I h;refine isTrue_chain (cM (ha pins s σ H _ I h) λv s1 ⟨x,H1,I1,r1,q1⟩=>test_link (cM (hb pins s1 σ H1 _ I1 q1) λu s2 ⟨y,H2,I2,r2,q2⟩=>
  cM (ho pins s2 σ H2 x y v u _ I2 r1 r2 q2) λd s3 ⟨z,H3,I3,r3,k,e,q3⟩=>?_)) hm
 subst e;cases r3;refine RU ?_;cases k with
 | false=>
  obtain⟨k',e',q'⟩:=q3;cases e';exact ite_ff ⟨H3,I3,q'⟩
 | true=>
  refine ite_tt (test_last (cM (hc pins s3 σ H3 _ I3 q3) λw' s4 ⟨z',H4,I4,r4,q4⟩=>cM (ho' pins s4 σ H4 y z' u w' _ I4 r2 r4 q4) λd' s5 ⟨z2,H5,I5,r5,k2,e2,q5⟩=>?_));subst e2;cases r5;exact RU ⟨H5,I5,q5⟩
def G0(K:FR)(x:V)(H:Hp)(k:Bool):Prop:=
 match x with
 | .cj=>k=false
 | .bl b=>k=b
 | .int i=>k=(i !=0)
 | .str y=>y.length<=sizeLine/\k=((y.length:Int) !=0)
 | .byt y=>y.size<=sizeLine/\k=((y.size:Int) !=0)
 | .ref p=>(∃xs,gM K H p xs/\k=!xs.isEmpty)\/(∃xs,kG K H p xs/\k=!xs.isEmpty)\/∃kvs,H p=some (.dK kvs)/\k=!kvs.isEmpty
 | _=>False
theorem y2(r:KV kvs vs):(!vs.isEmpty)=!kvs.isEmpty:=by
 cases r <;> rfl
theorem rE(r:Vals xs its):(!its.toArray.isEmpty)=!xs.isEmpty:=by
 cases r <;> simp
theorem kZ:(sizeLine:Nat) < 2^63:=by rw[Rz];decide
theorem Cs:Oz X (λx H Q=>∃k,G0 X.K x H k/\Q k H):=by
 intro pins s σ H x v Q I rx h;obtain⟨k,e,q⟩:=h;have hl:=kZ;have hs:sizeLine=16777216:=Rz;cases x with
 | cj=>
  cases rx;have e':k=false:=e;subst e';exact truthy_none ⟨H,I,q⟩
 | bl b=>
  cases rx;have e':k=b:=e;subst e';exact RU ⟨H,I,q⟩
 | int i=>
  obtain⟨t,rfl⟩:=rx;have e':k=(i !=0):=e;subst e';exact PySem.P.truthy_int ⟨H,I,q⟩
 | str y=>
  obtain⟨t,rfl⟩:=rx;obtain⟨hy,e'⟩:y.length<=sizeLine/\k=((y.length:Int) !=0):=e;subst e';exact PySem.P.truthy_str (by lia) ⟨H,I.tok _,q⟩
 | byt y=>
  obtain⟨t,rfl⟩:=rx;obtain⟨hy,e'⟩:y.size<=sizeLine/\k=((y.size:Int) !=0):=e;subst e';exact PySem.W.truthy_bytes (by lia) ⟨H,I.tok _,q⟩
 | ref p=>
  cases rx;have e':(∃xs,gM X.K H p xs/\k=!xs.isEmpty)\/(∃xs,kG X.K H p xs/\k=!xs.isEmpty)\/∃kvs,H p=some (.dK kvs)/\k=!kvs.isEmpty:=e;rcases e' with⟨xs,hx,e'⟩ |⟨xs,hx,e'⟩ |⟨kvs,hx,e'⟩
  ·subst e';obtain⟨its,r,pl,hz⟩:=I.list hx;have hlen:=r.length;exact wpAny_truthy_list pl.isList (by simp only[PQ];lia) ⟨H,I.tok _,by rw[rE r];exact q⟩
  ·subst e';obtain⟨its,r,pl,hz⟩:=I.tuple hx;have hlen:=r.length;exact truthy_tuple pl (by simp only[PQ];lia) ⟨H,I.tok _,by rw[rE r];exact q⟩
  ·subst e';obtain⟨hz,hS,vs,r,m⟩:kvs.length<=sizeLine/\(p==sysModules)=false/\∃vs,KV kvs vs/\s.heap.DictOf (bO X.prog X.w) p vs:=I.ba p _ hx;have hlen:kvs.length=vs.length:=Paired.length r;exact wpAny_truthy_dict hS m (by lia) ⟨H,I.tok _,by rw[y2 r];exact q⟩
 | _=>exact(show False from e).elim
theorem Dq(ha:PE X a ta)(he:∀whole,isTrue a X.env whole=(do let v<-whole;standAt a.pos;holding [v] (truthy v))):
  PT X a (λσ H Q=>ta σ H λx H'=>∃k,G0 X.K x H' k/\Q k H'):=by
 intro pins s σ H Q I h;exact isTrue_plain (cM (ha pins s σ H _ I h) λv s1 ⟨x,H1,I1,r1,q1⟩=>Cs pins s1 σ H1 x v Q I1 r1 q1) (he _)
theorem yM:oj X (binaryOp .Add) (λx y H Q=>∃i j,x=.str i/\y=.str j/\i.length+j.length<=sizeLine/\Q (.str (i++j)) H):=by
 intro pins s σ H x y v u Q I rx ry h;obtain⟨i,j,rfl,rfl,hz,q⟩:=h;obtain⟨t,rfl⟩:=rx;obtain⟨t',rfl⟩:=ry;exact add_str (λt' tk=>⟨.str (i++j),H,I.tok _,⟨_,rfl⟩,q⟩) hz
theorem vals1(r:Vals [x] us):∃u,us=[u]/\RelV x u:=by
 cases r with
 | cons r1 r2=>cases r2;exact⟨_,rfl,r1⟩
theorem vals2(r:Vals [x,y] us):∃u w',us=[u,w']/\RelV x u/\RelV y w':=by
 cases r with
 | cons r1 r2=>
  cases r2 with
  | cons r3 r4=>cases r4;exact⟨_,_,rfl,r1,r3⟩
theorem EL:gd X (.builtin "abs") (λxs H Q=>∃i,xs=[.int i]/\Q (.int (if i < 0 then -i else i)) H):=by
 intro pins s σ H xs us Q I r h;obtain⟨i,rfl,q⟩:=h;obtain⟨u,rfl,t,rfl⟩:=vals1 r;exact call_abs_int λu tk=>⟨.int (if i < 0 then -i else i),H,I.tok _,⟨_,rfl⟩,q⟩
theorem BS(hc:X.calm=true):gd X (.builtin "max") (λxs H Q=>∃i j,xs=[.int i,.int j]/\Q (.int (if j > i then j else i)) H):=by
 intro pins s σ H xs us Q I r h;obtain⟨i,j,rfl,q⟩:=h;obtain⟨u,w',rfl,⟨t,rfl⟩,⟨t',rfl⟩⟩:=vals2 r;refine max_two_ints (I.ok.hd hc) λh' tk k=>⟨_,H,I.kept k,?_,q⟩
 by_cases hj:j > i
 ·rw[Py hj,Py hj];exact⟨_,rfl⟩
 ·rw[PH hj,PH hj];exact⟨_,rfl⟩
theorem BR(hc:X.calm=true):gd X (.builtin "min") (λxs H Q=>∃i j,xs=[.int i,.int j]/\Q (.int (if j < i then j else i)) H):=by
 intro pins s σ H xs us Q I r h;obtain⟨i,j,rfl,q⟩:=h;obtain⟨u,w',rfl,⟨t,rfl⟩,⟨t',rfl⟩⟩:=vals2 r;refine min_two_ints (I.ok.hd hc) λh' tk k=>⟨_,H,I.kept k,?_,q⟩
 by_cases hj:j < i
 ·rw[Py hj,Py hj];exact⟨_,rfl⟩
 ·rw[PH hj,PH hj];exact⟨_,rfl⟩
theorem wj:gd X (.type "str") (λxs H Q=>∃i,xs=[.int i]/\i.natAbs.log2 < 1920/\Q (.str (toString i)) H):=by
 intro pins s σ H xs us Q I r h;obtain⟨i,rfl,hz,q⟩:=h;obtain⟨u,rfl,t,rfl⟩:=vals1 r;exact PySem.P.str_of_int hz ⟨.str _,H,I.tok _,⟨_,rfl⟩,q⟩
section
variable {prog:Program} {w:World} {A:Around} {E:Value->Shared->Prop} {s:Shared} {K:FR} {x dx C f:Addr} {mA:Str->Option Value} {name:Str} {v:Value}
end
theorem pR.some_of(r:pR (some v) o):∃u,o=some u/\RelV v u:=by
 cases o with
 | none=>exact(show False from r).elim
 | some u=>exact⟨u,rfl,r⟩
structure cF(k:Nat)(A:Around):Prop where
 hd:A.handled=none
 dp:A.depth+3*k+5 < recursionLimit
 un:A.units+16*k+200 < cLine
theorem cF.mono(r:cF k A)(h:j<=k):cF j A:=⟨r.hd,by have:=r.dp;lia,by have:=r.un;lia⟩
theorem cF.deeper(r:cF (k+1) A)(env:Env):cF k (A.deeper env):=
 ⟨r.hd,by have:=r.dp;show A.depth+1+3*k+5 < _;lia,by have:=r.un;show A.units+3+16*k+200 < _;lia⟩
theorem cF.depth(r:cF k A):A.depth < recursionLimit:=by have:=r.dp;lia
theorem cF.units(r:cF k A):A.units+64 < cLine:=by have:=r.un;lia
def Nv:TA:=λ_ H Q=>Q [] H
def Lk(ta:TE)(tr:TA):TA:=λσ H Q=>ta σ H λx H1=>tr σ H1 λxs H2=>Q (x::xs) H2
theorem DG:PA X [] Nv:=λ_ _ _ _ H Q I h=>Tt ⟨[],H,I,.nil,h⟩
theorem vy(ha:PE X e te)(hr:PA X es t)(hs:starEach (e::es) X.env=(false,eval e X.env)::starEach es X.env:=by rfl):PA X (e::es) (Lk te t):=by
 intro pos pins s σ H Q I h;rw[hs];show wpAny _ _ (spliced ((false,eval e X.env)::backTo pos (starEach es X.env))) _ _ s;refine Tn (cM (ha pins s σ H _ I h) λu s1 ⟨x,H1,I1,r1,q1⟩=>?_);exact cM (hr pos pins s1 σ H1 _ I1 q1) λus s2 ⟨xs,H2,I2,r2,q2⟩=>⟨x::xs,H2,I2,.cons r1 r2,q2⟩
def Nt(t:TA):TE:=λσ H Q=>t σ H λxs H1=>xs.length<=sizeLine/\∀p,H1 p=none->Q (.ref p) (upd H1 p (.tup xs))
def Ny(t:TA):TE:=λσ H Q=>t σ H λxs H1=>xs.length<=sizeLine/\∀p,H1 p=none->Q (.ref p) (upd H1 p (.lst xs))
theorem IW{x1}(h:PA X es t):PE X (.Tuple es x1 pos) (Nt t):=by
 intro pins s σ H Q I hq;refine wpAny_Tuple_spliced (cM (h pos pins s σ H _ I hq) λus s1 ⟨xs,H1,I1,r,z,q⟩=>⟨by rw[<-r.length];exact z,?_⟩);have hf:H1 s1.heap.objs.size=none:=I1.ba.fresh (Pw _);refine⟨.ref s1.heap.objs.size,upd H1 s1.heap.objs.size (.tup xs),I1.laid (t':=s1.toks) (λb u e=>PC _ e) (Pw _) ?_,rfl,q _ hf⟩;exact⟨z,us,r,⟨_,P8 _ rfl,rfl,⟨_,rfl⟩,rfl⟩⟩
theorem I9(h:PA X es t):PE X (.List es pos) (Ny t):=by
 intro pins s σ H Q I hq;refine wpAny_List_spliced (cM (h pos pins s σ H _ I hq) λus s1 ⟨xs,H1,I1,r,z,q⟩=>⟨by rw[<-r.length];exact z,?_⟩);have hf:H1 s1.heap.objs.size=none:=I1.ba.fresh (Pw _);refine⟨.ref s1.heap.objs.size,upd H1 s1.heap.objs.size (.lst xs),I1.laid (t':=s1.toks) (λb u e=>PC _ e) (Pw _) ?_,rfl,q _ hf⟩;exact⟨z,us,0,r,P8 _ rfl⟩
abbrev Sp:=List V->Hp->VK->XK->Prop
abbrev AG:=List Env->Hp->Shared->XK->Value->Shared->Prop
structure E7(P:Program)(w:World)(K:FR)(mg:Str->Option Value)(base:Heap)(A:Around)(outer:List Env)(s:Shared)(H:Hp):Prop where
 frames:A.frames=some outer
 mod:Mod K mg base
 bs:∀b o,base.get? b=some o->s.heap.get? b=some o/\H b=none
 Ff:base.objs.size<=s.heap.objs.size
 nV:s.heap.FunFrames base outer
 Ho:∀b∈j4 outer,H b=none
 ba:j8 P w H s.heap
 bare:AllBare s.gens
def CE(outer:List Env)(P:Program)(w:World)(H:Hp)(s:Shared)(Q:VK)(u:Value)(s':Shared):Prop:=
 ∃v H',s'.os=s.os/\AllBare s'.gens/\Un (j4 outer) [] H H' s.heap s'.heap/\j8 P w H' s'.heap/\RelV v u/\Q v H'
def CR(CX:AG)(outer:List Env)(P:Program)(w:World)(H:Hp)(s:Shared)(Q:VK)(E:XK)(r:Result)(s':Shared):Prop:=
 match r with
 | .ok (.ret u)=>CE outer P w H s Q u s'
 | .ok _=>False
 | .error e=>CX outer H s E e s'
structure eI(P:Program)(w:World)(K:FR)(mg:Str->Option Value)(base:Heap)(CX:AG)(k:Nat)(f:Addr)(fd:FuncData)(ps:List Str)(sp:Sp):Prop where
 len:∀vs H Q E,sp vs H Q E->vs.length=ps.length
 run:∀(A:Around)(outer:List Env)(s:Shared)(H:Hp)(args:Args)(us:List Value)(vs:List V)(Q:VK)(E:XK),cF k A->E7 P w K mg base A outer s H->BindsTo s fd args (ps.zip us)->Vals vs us->sp vs H Q E->
  codeAny (model P w) A (.call (.ref f) args) (CR CX outer P w H s Q E) s
theorem eI.imp{P:Program}{w:World}{K:FR}{mg:Str->Option Value}{base:Heap}{CX:AG}{k:Nat}{f:Addr}{fd:FuncData}{ps:List Str}{sp sp':Sp}(F:eI P w K mg base CX k f fd ps sp)
  (h:∀vs H Q E,sp' vs H Q E->sp vs H Q E):eI P w K mg base CX k f fd ps sp':=
 ⟨λvs H Q E q=>F.len vs H Q E (h _ _ _ _ q),λA outer s H args us vs Q E hr he hb hv hs=>F.run A outer s H args us vs Q E hr he hb hv (h _ _ _ _ hs)⟩
theorem Inv.Kb(I:Inv X pins σ H s):E7 X.prog X.w X.K X.mg X.base X.A X.stack s H:=
 ⟨I.ok.frames,I.ok.mod,I.bs,PL I.ok.Ff I.sz,I.stack,I.pU,I.ba,I.bare⟩
theorem Inv.after(I:Inv X pins σ H s)(h:CE X.stack X.prog X.w H s Q u s'):EP X pins σ Q u s':=by
 obtain⟨v,H',os,bare,un,ba,r,q⟩:=h;obtain⟨hh,g,d,t,os'⟩:=s';obtain rfl:os'=s.os:=os;exact⟨v,H',I.call (h':=hh) (g':=g) (d':=d) (t':=t) (ch:=[]) un ba bare (λb z=>absurd z (by simp)),r,q⟩
def Ll(sp:Sp)(dvs:List V)(E:XK)(t:TA):TE:=λσ H Q=>t σ H λvs H1=>sp (vs++dvs) H1 Q E
def Binds(K:FR)(fd:FuncData)(ps:List Str)(ds:List Value):Prop:=
 ∀(s:Shared)(us:List Value),K.In s.heap->(us++ds).length=ps.length->BindsTo s fd ⟨us,[]⟩ (ps.zip (us++ds))
theorem Binds.all{K:FR}{fd:FuncData}{ps:List Str}(h:∀us:List Value,us.length=ps.length->bindArgs fd ⟨us,[]⟩=pure (ps.zip us)):Binds K fd ps []:=λs us _ hl=>by
 rw[Qu] at hl ⊢;exact .of_eq (h us hl)
def Passes(CX:AG)(X:Cx)(E:XK):Prop:=∀(pins:List (Addr×Obj)) (σ:St) (H:Hp) (s:Shared) (e:Value) (s':Shared),Inv X pins σ H s->CX X.stack H s E e s'->X.xe e s'
theorem Iq(F:eI X.prog X.w X.K X.mg X.base CX k f fd ps sp)(hr:cF k X.A)(hb:Binds X.K fd ps ds)(hd:Vals dvs ds)(hx:Passes CX X E)(I:Inv X pins σ H s)(r:Vals vs us)(h:sp (vs++dvs) H Q E):wpAny (model X.prog X.w) X.A (call (.ref f) us) (EP X pins σ Q) X.xe s:=by
 have r2:Vals (vs++dvs) (us++ds):=r.append hd;have hl:(us++ds).length=ps.length:=by rw[<-r2.length];exact F.len _ _ _ _ h
 refine wpAny_call (SO (F.run X.A X.stack s H ⟨us,[]⟩ (us++ds) (vs++dvs) Q E hr I.Kb (hb s us I.z5 hl) r2 h) λr s' hq=>?_);cases r with
 | error e=>exact hx pins σ H s e s' I hq
 | ok fl=>
  cases fl with
  | ret u=>exact I.after hq
  | next=>exact False.elim hq
  | brk=>exact False.elim hq
  | cont=>exact False.elim hq
theorem zQ(F:eI X.prog X.w X.K X.mg X.base CX k f fd ps sp)(hr:cF k X.A)(hg:Gl X x)(hm:X.mg x=some (.ref f))(hk:PySem.W.keepIn X.K (.ref f)=true)(hb:Binds X.K fd ps ds)(hd:Vals dvs ds)(hx:Passes CX X E)
  (ha:PA X (e::es) t) (hdb:(x==("__debug__":Str))=false:=by decide) (he:starEach (e::es) X.env=(false,eval e X.env)::starEach es X.env:=by rfl) (hpl:(backTo pos (starEach es X.env)).any (·.1)=false:=by rfl):
  PE X (.Call (.Name x p) (e::es) [] pos) (Ll sp dvs E t):=by
 intro pins s σ H Q I h;refine Rf (jX I hg hm ?_ hdb);refine Uv (h₀:=X.base) I.ok.mod.Nc hk (cM (ha pos pins s σ H _ I h) λus s1 ⟨vs,H1,I1,r,q⟩=>⟨I1.z5,?_⟩) he hpl;exact Iq F hr hb hd hx I1 r q
structure aB(N P:List Str)(sc:Scope):Prop where
 kind:sc.kind=.function
 co:sc.isCoroutine=false
 gen:sc.isGenerator=false
 nd:N.Nodup
 pre:N.take P.length=P
 par:∀x∈P,sc.names.lookup x=some .local\/sc.names.lookup x=some .cell
 Jt:∀y∈sc.names,y.2≠.free
theorem uz{kindOf:Str->Option NameKind}{x:Str}:∀{binds:List (Str×Value)} {m:Str->Option Value},(∀v,(x,v)∉binds)->bindL kindOf binds m x=m x
 | [],_,_=>rfl
 |(n,v)::r,m,h=>by
  unfold bindL;rw[uz λw hw=>h w (Pz _ hw)]
  split
  ·have:x≠n:=by rintro rfl;exact h v Px
   simp[this]
  ·rfl
theorem uB{kindOf:Str->Option NameKind}{x:Str}:∀{binds:List (Str×Value)} {m:Str->Option Value},(∀v,(x,v)∉binds)->bindC kindOf binds m x=m x
 | [],_,_=>rfl
 |(n,v)::r,m,h=>by
  unfold bindC;rw[uB λw hw=>h w (Pz _ hw)]
  split
  ·rfl
  ·have:x≠n:=by rintro rfl;exact h v Px
   simp[this]
theorem uA{kindOf:Str->Option NameKind}{x:Str}{v:Value}:∀{P:List Str} {vs:List Value} {i:Nat} {m:Str->Option Value},P.Nodup->P[i]?=some x->vs[i]?=some v->kindOf x=some .local->
  bindL kindOf (P.zip vs) m x=some v
 | [],_,_,_,_,h,_,_=>by simp at h
 | _::_,[],_,_,_,_,h,_=>by simp at h
 | p::P,w::vs,0,m,nd,h1,h2,hk=>by
  simp at h1 h2;subst h1;subst h2;show bindL kindOf ((p,w)::P.zip vs) m p=_;unfold bindL;rw[uz λv hv=>(Sw.mp nd).1 (To hv).1,Py hk];simp
 | p::P,w::vs,i+1,m,nd,h1,h2,hk=>by
  show bindL kindOf ((p,w)::P.zip vs) m x=_;unfold bindL;exact uA (i:=i) (Sw.mp nd).2 (by simpa using h1) (by simpa using h2) hk
theorem uC{kindOf:Str->Option NameKind}{x:Str}{v:Value}:∀{P:List Str} {vs:List Value} {i:Nat} {m:Str->Option Value},P.Nodup->P[i]?=some x->vs[i]?=some v->kindOf x≠some .local->
  bindC kindOf (P.zip vs) m x=some v
 | [],_,_,_,_,h,_,_=>by simp at h
 | _::_,[],_,_,_,_,h,_=>by simp at h
 | p::P,w::vs,0,m,nd,h1,h2,hk=>by
  simp at h1 h2;subst h1;subst h2;show bindC kindOf ((p,w)::P.zip vs) m p=_;unfold bindC;rw[uB λv hv=>(Sw.mp nd).1 (To hv).1,PH hk];simp
 | p::P,w::vs,i+1,m,nd,h1,h2,hk=>by
  show bindC kindOf ((p,w)::P.zip vs) m x=_;unfold bindC;exact uC (i:=i) (Sw.mp nd).2 (by simpa using h1) (by simpa using h2) hk
noncomputable def start(N:List Str)(vs:List V):St:=vs.map some++List.replicate (N.length-vs.length) none
abbrev eQ(CX:AG)(P:Program)(w:World)(K:FR)(mg:Str->Option Value)(base:Heap)(N:List Str)(qual:Str)(scope:Scope)(f:Addr)(cd:Value)(A:Around)(outer:List Env)(s:Shared)(H:Hp)(E:XK):Cx where
 prog:=P
 w:=w
 K:=K
 mg:=mg
 base:=base
 A:=A.deeper (envOfC qual scope s.heap.objs.size f cd)
 N:=N
 s₀:=s
 H₀:=H
 env:=envOfC qual scope s.heap.objs.size f cd
 outer:=outer
 stack:=envOfC qual scope s.heap.objs.size f cd::outer
 ex:=[]
 calm:=true
 fn:=λ_=>true
 pn:=[]
 xe:=λe s'=>wpAny (model P w) (A.deeper (envOfC qual scope s.heap.objs.size f cd)) (leaving (envOfC qual scope s.heap.objs.size f cd) e) (λ_ s''=>CX outer H s E e s'') (λe' s''=>CX outer H s E e' s'') s'
theorem xW{sc:Scope}{n:Nat}{x:Str}(h:sc.names.lookup x=some .cell):∃c,(cellsFrom n sc.names []).lookup x=some c:=by
 have q:=TY sc.names n [] (.inl h);exact Rg.mp q
theorem ud{CX:AG}{P:Program}{w:World}{K:FR}{mg:Str->Option Value}{base:Heap}{N ps:List Str}{qual:Str}{scope:Scope}{f:Addr}{cd:Value}{A:Around}{outer:List Env}{s s1:Shared}{H:Hp}{E:XK}{us:List Value}{vs:List V}
  (S:aB N ps scope) (hd:A.handled=none) (e0:E7 P w K mg base A outer s H) (hl:vs.length=ps.length) (r:Vals vs us)
  (x:InCallC s s.heap.objs.size (bindL (envOfC qual scope s.heap.objs.size f cd).kindOf (ps.zip us) λ_=>none) (cellsFrom (s.heap.objs.size+1) scope.names []) (bindC (envOfC qual scope s.heap.objs.size f cd).kindOf (ps.zip us) λ_=>none) s1):
  Inv (eQ CX P w K mg base N qual scope f cd A outer s H E) [] (start N vs) H s1:=by
 have hpl:ps.length<=N.length:=by have:=congrArg List.length S.pre;rw[PY] at this;lia
 obtain⟨h1,tk,rfl,hk⟩:=x.done;have noA:∀b:Addr,b∉(eQ CX P w K mg base N qual scope f cd A outer s H E).ex:=λb z=>absurd (show b∈([]:List Addr) from z) (by simp);refine⟨⟨e0.mod,S.kind,rfl,rfl,Pw _,λy z c h1 h2=>?_,λy hy=>?_,λy c _ h=>?_,λ_=>hd,Around.frames_deeper e0.frames,.inr ⟨rfl,rfl⟩,λb z=>absurd z (noA b),e0.bs,e0.Ff,λb _ _=>noA b,λb z=>absurd z (noA b),e0.nV,e0.Ho⟩,
  rfl,e0.bare,Un.kept hk,⟨_,x.toInCall.ns,λi y v h1 h2 h3=>?_⟩,λy c h=>⟨_,x.cell y c h⟩,e0.ba.fresh (Pw _),λy c h=>?_,λp hp=>absurd (show p∈([]:List (Addr×Obj)) from hp) (by simp),e0.ba.kept hk,?_⟩
 ·exact name_of_addr x.apart (Qh h1) (Qh h2)
 ·have hy:scope.names.lookup y=some .cell\/scope.names.lookup y=some .free:=hy;rcases hy with hy | hy
  ·exact xW hy
  ·exact absurd rfl (S.Jt _ (Qh hy))
 ·exact Rk (x.above y c (Qh h))
 ·have hi:i < vs.length:=by
   unfold start at h2
   by_cases hi:i < vs.length
   ·exact hi
   ·rw[P0 (by simpa using hi)] at h2;rw[TX] at h2
    split at h2 <;> cases h2
  have ha:vs[i]?=some v:=by
   unfold start at h2;rw[PJ (by simpa using hi),PR] at h2;cases e:vs[i]? with
   | none=>rw[e] at h2;cases h2
   | some a=>rw[e] at h2;cases h2;rfl
  obtain⟨u,hu,rv⟩:=r.get ha;have hp:ps[i]?=some y:=by
   rw[<-S.pre,Qe (by lia)];exact h1
  have ndP:ps.Nodup:=by rw[<-S.pre];exact S.nd.sublist (Td _ _)
  refine⟨u,rv,?_⟩;rcases S.par y (Pr hp) with k | k
  ·exact .inl ⟨k,uA ndP hp hu k⟩
  ·obtain⟨c,e⟩:=xW (n:=s.heap.objs.size+1) k;refine .inr ⟨.inl k,c,e,?_⟩;have q:=x.cell y c e;rw[uC ndP hp hu (by show scope.names.lookup y≠_;rw[k];decide)] at q;exact q
 ·exact e0.ba.fresh (Rk (x.above y c (Qh h)))
 ·unfold start;show _=N.length;rw[PF,Pp,RS]
  lia
theorem Eb{CX:AG}{P:Program}{w:World}{K:FR}{mg:Str->Option Value}{base:Heap}{k:Nat}{f:Addr}{name qual:Str}{params:Arguments}{body:List Stmt}{scope:Scope}{dV kV doc pm cdv ct oc:Value}{an od:Option Addr}
  {osl:Array (Option Value)} {N ps:List Str} {sp:Sp} (lk:K.lookup f=some ⟨oc,od,.func (PySem.W.fnOf name qual params body scope dV kV doc pm an cdv ct),osl⟩) (hcd:PySem.W.codeIn K cdv qual=true) (S:aB N ps scope)
  (len:∀vs H Q E,sp vs H Q E->vs.length=ps.length)
  (hbody:∀(A:Around)(outer:List Env)(s:Shared)(H:Hp)(vs:List V)(Q:VK)(E:XK),cF k (A.deeper (envOfC qual scope s.heap.objs.size f cdv))->sp vs H Q E->
   ∃t,wG (eQ CX P w K mg base N qual scope f cdv A outer s H E) body t/\t {nx:=λ_ H'=>Q .cj H',rt:=Q} (start N vs) H):
  eI P w K mg base CX (k+1) f (PySem.W.fnOf name qual params body scope dV kV doc pm an cdv ct) ps sp:=by
 refine⟨len,λA outer s H args us vs Q E hr e0 hb r hsp=>?_⟩;have hl:=len _ _ _ _ hsp;have KX:K.In s.heap:=e0.mod.Nc.keeps λb o e=>(e0.bs b o e).1;have lim:s.heap.NoLimit:=e0.mod.nolimit.keeps λb o e=>(e0.bs b o e).1;have hkind:∀y∈ps.zip us,scope.names.lookup y.1=some .local\/(scope.names.lookup y.1=some .cell/\((cellsFrom (s.heap.objs.size+1) scope.names []).lookup y.1).isSome=true):=λ⟨n,v⟩ hy=>by
  rcases S.par n (To hy).1 with q | q
  ·exact .inl q
  ·exact .inr ⟨q,TY _ _ _ (.inl q)⟩
 refine codeAny_call_function hr.depth (KX _ _ lk) rfl S.co S.gen rfl (PySem.W.codeRec_of KX hcd) (hb _ _ _ _ ?_);refine Uk S.kind hkind λenv he s1 x=>?_;subst he;refine⟨lim.keeps x.toInCall.keep,codeAny_func ?_⟩;obtain⟨t,ht,hq⟩:=hbody A outer s H vs Q E (hr.deeper _) hsp;have I:Inv (eQ CX P w K mg base N qual scope f cdv A outer s H E) [] (start N vs) H s1:=ud S hr.hd e0 hl r x;refine Qr (ht [] s1 (start N vs) H _ I hq) (λfl s' hs=>?_) λe s' hs=>hs;have fin:∀{σ':St} {H':Hp} {v:V} {u:Value},Inv (eQ CX P w K mg base N qual scope f cdv A outer s H E) [] σ' H' s'->RelV v u->Q v H'->CE outer P w H s Q u s':=
  λ{σ' H' v u} J rv q=>⟨v,H',J.os,J.bare,J.base,J.ba,rv,q⟩
 cases fl with
 | ret u=>
  obtain⟨v,σ',H',J,rv,q⟩:=hs;exact fin J rv q
 | next=>
  obtain⟨σ',H',J,q⟩:=hs;exact fin (v:=V.cj) (u:=Value.none) J rfl q
 | brk=>
  obtain⟨_,_,_,q⟩:=hs;exact False.elim q
 | cont=>
  obtain⟨_,_,_,q⟩:=hs;exact False.elim q
section
variable {X:Cx} {x:Str} {p pos:Pos} {e:Expr} {es:List Expr} {t:TA} {id T:String} {r:List V->Hp->VK->Prop}
def OO(r:List V->Hp->VK->Prop)(t:TA):TE:=λσ H Q=>t σ H λvs H1=>r vs H1 Q
theorem xj(hc:gd X (.builtin id) r)(hg:Gl X x)(hm:X.mg x=none)(hv:bootBuiltins x=some (.builtin id))(ha:PA X (e::es) t)(hn:x≠"__name__":=by decide)(hdb:(x==("__debug__":Str))=false:=by decide)
  (he:starEach (e::es) X.env=(false,eval e X.env)::starEach es X.env:=by rfl) (hpl:(backTo pos (starEach es X.env)).any (·.1)=false:=by rfl):PE X (.Call (.Name x p) (e::es) [] pos) (OO r t):=by
 intro pins s σ H Q I h;refine Rf (jy I hg hm hv ?_ hn hdb);exact PyProof.Rows.callWith_builtin1 (cM (ha pos pins s σ H _ I h) λus s1 ⟨vs,H1,I1,r1,q1⟩=>hc pins s1 σ H1 vs us Q I1 r1 q1) he hpl
theorem tR(hc:gd X (.type T) r)(hg:Gl X x)(hm:X.mg x=none)(hv:bootBuiltins x=some (.type T))(ha:PA X (e::es) t)(hn:x≠"__name__":=by decide)(hdb:(x==("__debug__":Str))=false:=by decide)
  (he:starEach (e::es) X.env=(false,eval e X.env)::starEach es X.env:=by rfl) (hpl:(backTo pos (starEach es X.env)).any (·.1)=false:=by rfl):PE X (.Call (.Name x p) (e::es) [] pos) (OO r t):=by
 intro pins s σ H Q I h;refine Rf (jy I hg hm hv ?_ hn hdb);exact QJ (cM (ha pos pins s σ H _ I h) λus s1 ⟨vs,H1,I1,r1,q1⟩=>hc pins s1 σ H1 vs us Q I1 r1 q1) he hpl
end
end L2
namespace HT
open PySem PyProof.Rows
section
open PySem.SeqAt
open PySem.AutoSeq1 (wpAny_loadPart')
open PySem.MeetsSeq PySem.MeetsSeq2 PySem.MeetsSeq3
end
theorem GW(ht:IsTup s.heap t vs.toArray)(hb:IsTup s.heap b ws.toArray)(hv:vs≠[])(h1:ws=[]->Q (.ref t) s)(h2:ws≠[]->Q (.ref s.heap.objs.size) {s with heap:=s.heap.push {cls:=.type "tuple",data:=.seq (vs++ws).toArray}})(hsz:vs.length+ws.length<=sizeLine):wpAny (model prog w) A (binaryOp .Add (.ref t) (.ref b)) Q E s:=by
 obtain⟨⟨cls,dd,data,sl⟩,ho,hc,n,hd⟩:=id ht;obtain⟨⟨cls2,dd2,data2,sl2⟩,ho2,hc2,n2,hd2⟩:=id hb;simp only at hc hd hc2 hd2;subst hc hd hc2 hd2;have e:vs.toArray++ws.toArray=(vs++ws).toArray:=by simp
 by_cases hw:ws=[]
 ·exact concat_meets ⟨_,ho,rfl⟩ ⟨_,ho2,rfl⟩ Tz Uu Sq So (Sj _ _)
   (tuple_addW1 t b vs.toArray ws.toArray n n2 dd dd2 sl sl2 (by simpa using hv) (by simp[hw])) ⟨ho,ho2,h1 hw⟩
 ·refine concat_meets ⟨_,ho,rfl⟩ ⟨_,ho2,rfl⟩ Tz Uu Sq So (Sj _ _)
   (tuple_addW2 t b vs.toArray ws.toArray n n2 dd dd2 sl sl2 (by simpa using hv) (by simpa using hw) (by rw[PQ,PQ];exact hsz)) ⟨ho,ho2,?_⟩
  rw[e];exact h2 hw
noncomputable def cG(n d:Nat):Option Int->Nat
 | none=>d
 | some v=>if v < 0 then(v+(n:Int)).toNat else min v.toNat n
theorem jk(n d:Nat):cG n d none=d:=rfl
theorem lP(n d k:Nat):cG n d (some (k:Int))=min k n:=by
 show(if(k:Int) < 0 then((k:Int)+(n:Int)).toNat else min (k:Int).toNat n)=min k n;rw[PH (by lia),QW]
theorem Ip(n d:Nat)(hd:d<=n)(o:Option Int):cG n d o<=n:=by
 cases o with
 | none=>exact hd
 | some v=>
  show(if v < 0 then(v+(n:Int)).toNat else min v.toNat n)<=n
  by_cases hv:v < 0
  ·rw[Py hv];lia
  ·rw[PH hv];exact Nat.min_le_right _ _
theorem As(v:Int)(n d:Nat):(if v < 0 then max (v+(n:Int)) 0 else min v (n:Int))=((cG n d (some v):Nat):Int):=by
 show(if v < 0 then max (v+(n:Int)) 0 else min v (n:Int))=(((if v < 0 then(v+(n:Int)).toNat else min v.toNat n):Nat):Int)
 by_cases hv:v < 0
 ·simp only[Py hv];lia
 ·simp only[PH hv];lia
theorem zm(lo hi:Option Int)(n:Nat):Builtin.Slice.sliceAdjust lo hi 1 (n:Int)=(((cG n 0 lo:Nat):Int),((cG n n hi:Nat):Int)):=by
 have h1:¬((1:Int) < 0):=by lia
 unfold Builtin.Slice.sliceAdjust;simp only[h1,Uj];refine Prod.ext ?_ ?_
 ·cases lo with
  | none=>rfl
  | some v=>exact As v n 0
 ·cases hi with
  | none=>rfl
  | some v=>exact As v n n
theorem yI(i j:Nat):Builtin.Slice.slicePlaces (i:Int) (j:Int) 1=j-i:=by
 unfold Builtin.Slice.slicePlaces;have h1:(1:Int) > 0:=by lia
 simp only[h1,Se,Ud]
 split <;> lia
theorem qx(p:IsPart v o)(h:Q o s):wpAny (model prog w) A (Builtin.Slice.slicePartIndex v) Q E s:=by
 cases p with
 | none=>exact slicePart_none h
 | int i t=>exact slicePart_int h
theorem gQ{sl:Addr}{vl vu:Value}{lo hi:Option Int}{n:Nat}{Q:Int×Int×Nat->Shared->Prop}(hs:s.heap.IsSliceOf sl vl vu .none)(pl:IsPart vl lo)(pu:IsPart vu hi)
  (h:Q (((cG n 0 lo:Nat):Int),1,cG n n hi-cG n 0 lo) s):wpAny (model prog w) A (Builtin.Slice.sliceApplied (.ref sl) (pure (n:Int))) Q E s:=by
 obtain⟨os,hos,hcs,kc⟩:=id hs;unfold Builtin.Slice.sliceApplied Builtin.Slice.sliceFields;refine Pu (Pu (QS hos kc (x:=vl) rfl (Pu (QS hos kc (x:=vu) rfl (Pu (QS hos kc (x:=.none) rfl (PZ ?_)))))));refine Pu (slicePart_none ?_);show wpAny _ _ (if((1:Int)==0)=true then _ else _) _ _ s;rw[PH (by decide)];refine Pu (qx pl (Pu (qx pu (Pu (PZ ?_)))));show wpAny _ _ (match Builtin.Slice.sliceAdjust lo hi 1 (n:Int) with |(lo,hi)=>pure (lo,(1:Int),Builtin.Slice.slicePlaces lo hi 1)) _ _ s;rw[zm lo hi n];show wpAny _ _ (pure (((cG n 0 lo:Nat):Int),(1:Int),Builtin.Slice.slicePlaces ((cG n 0 lo:Nat):Int) ((cG n n hi:Nat):Int) 1)) _ _ s;rw[yI];exact PZ h
theorem Dy(xs:Array Value)(i k:Nat):((List.range k).filterMap λ(m:Nat)=>xs[((i:Int)+(m:Int)*1).toNat]?).toArray=((xs.toList.drop i).take k).toArray:=by
 have e:(λ(m:Nat)=>xs[((i:Int)+(m:Int)*1).toNat]?)=λm=>xs[i+m]?:=by
  funext m
  have:((i:Int)+(m:Int)*1).toNat=i+m:=by lia
  rw[this]
 rw[e];have:=pick_run xs i k;rw[R9] at this;have e2:((λx=>xs[x]?)∘λx=>i+x)=λm=>xs[i+m]?:=rfl;rw[e2] at this;rw[this]
theorem mC{t sl:Addr}{items:Array Value}{vl vu:Value}{lo hi:Option Int}{Q:Value->Shared->Prop}(ht:IsTup s.heap t items)(hs:s.heap.IsSliceOf sl vl vu .none)(pl:IsPart vl lo)(pu:IsPart vu hi)
  (hw:¬(cG items.size 0 lo=0/\cG items.size items.size hi=items.size))
  (h:Q (.ref s.heap.objs.size) {s with heap:=s.heap.push {cls:=.type "tuple",data:=.seq ((items.toList.drop (cG items.size 0 lo)).take (cG items.size items.size hi-cG items.size 0 lo)).toArray}})
  (hsz:items.size<=sizeLine):wpAny (model prog w) A (getItem (.ref t) (.ref sl)) Q E s:=by
 have htake:sizeOk (.seq ((items.toList.drop (cG items.size 0 lo)).take (cG items.size items.size hi-cG items.size 0 lo)).toArray):=by
  show((items.toList.drop (cG items.size 0 lo)).take (cG items.size items.size hi-cG items.size 0 lo)).toArray.size<=sizeLine;rw[PQ,PY,QR,Ry]
  lia
 have hj:cG items.size items.size hi<=items.size:=Ip _ _ (Pw _) hi;obtain⟨os,hos,hcs,kc⟩:=id hs;have hTs:s.TypeIs (.ref sl) "slice":=⟨os,hos,hcs⟩;unfold getItem
 try with_reducible refine R6 ?_
 first | refine Pu (PZ ?_) | skip
 refine Pu (wpAny_sequenceKey ht.typeIs (by decide) ?_);refine Pu (Q2 (name:=Str.ofString "__getitem__") ht.typeIs Qt
  (Rq Qt ht.typeIs entry_tuple_getitem ?_ (args_tuple_getitem _ _)))
 show wpAny _ _ (Builtin.Tuple.tupleItemsOf (.ref t) >>=_) _ _ s;refine Pu (tupleItemsOf_ ht ?_);refine Pu (wpAny_typeOf hTs ?_);rw[Py (by decide)];refine Pu (gQ hs pl pu ?_);have hno:¬((((cG items.size 0 lo:Nat):Int)==0&&(1:Int)==1&&(cG items.size items.size hi-cG items.size 0 lo)==items.size)=true):=by
  intro q;rw[Qd,Qd] at q;have q1:((cG items.size 0 lo:Nat):Int)=0:=eq_of_beq q.1.1;have q2:cG items.size items.size hi-cG items.size 0 lo=items.size:=eq_of_beq q.2;exact hw ⟨by lia,by lia⟩
 show wpAny _ _ (if(((cG items.size 0 lo:Nat):Int)==0&&(1:Int)==1&&(cG items.size items.size hi-cG items.size 0 lo)==items.size)=true then _ else _) _ _ s;rw[PH hno,Dy]
 first
  | exact Pu (m:=Builtin.Tuple.tupleExact _) (Q1 (PZ ⟨_,rfl,PZ h⟩) htake)
  | exact Pu (m:=Builtin.Tuple.tupleExact _) (Q1 (Pu (PZ (PZ ⟨_,rfl,PZ h⟩))) htake)
  | exact Pu (Pu (m:=Builtin.Tuple.tupleExact _) (Q1 (PZ (PZ ⟨_,rfl,PZ h⟩)) htake))
  | exact Pu (Pu (m:=Builtin.Tuple.tupleExact _) (Q1 (PZ ⟨_,rfl,PZ h⟩) htake))
end HT
namespace L2
open PySem PySem.Spec PyProof.Rows
abbrev TO:=St->Hp->(Option Int->Hp->Prop)->Prop
def PO(X:Cx)(e:Option Expr)(t:TO):Prop:=
 ∀(pins:List (Addr×Obj)) (s:Shared) (σ:St) (H:Hp) (Q:Option Int->Hp->Prop),Inv X pins σ H s->t σ H Q->
  wpAny (model X.prog X.w) X.A (evalPart e X.env) (λu s'=>∃o H',Inv X pins σ H' s'/\IsPart u o/\Q o H') X.xe s
noncomputable def Fu:TO:=λ_ H Q=>Q none H
def Ld(t:TE):TO:=λσ H Q=>t σ H λx H1=>∃i,x=.int i/\Q (some i) H1
theorem intsAre_of:∀{us:List Value},Vals (ns.map V.int) us->IntsAre us ns:=by
 induction ns with
 | nil=>intro us r;rw[Rl] at r;cases r;exact .nil
 | cons n ns ih=>
  intro us r;rw[PN] at r;cases r with
  | cons r1 r2=>
   obtain⟨t,e⟩:=r1;subst e;exact .cons n t (ih r2)
section
variable {X:Cx} {e:Expr} {te:TE} {lo hi:Option Expr} {tl th:TO} {pos p2:Pos}
theorem F3:PO X none Fu:=by
 intro pins s σ H Q I h;rw[evalPart_none];exact PZ ⟨none,H,I,.none,h⟩
theorem F2(h:PE X e te):PO X (some e) (Ld te):=by
 intro pins s σ H Q I hw;rw[evalPart_some];refine cM (h pins s σ H _ I hw) λu s1 ⟨x,H1,I1,r1,q1⟩=>?_;obtain⟨i,rfl,q⟩:=q1;obtain⟨t,rfl⟩:=r1;exact⟨some i,H1,I1,.int i t,q⟩
def KH(X:Cx)(r:V->Option Int->Option Int->Hp->VK->Prop):Prop:=
 ∀(pins:List (Addr×Obj)) (s:Shared) (σ:St) (H:Hp) (x:V) (v vl vu:Value) (lo hi:Option Int) (sl:Addr) (Q:VK),Inv X pins σ H s->RelV x v->s.heap.IsSliceOf sl vl vu .none->IsPart vl lo->IsPart vu hi->r x lo hi H Q->
  ∃T id,typeLookup (.type T) "__getitem__"=pure (some (.builtin id))/\s.TypeIs v T/\wpAny (model X.prog X.w) X.A (getItem v (.ref sl)) (EP X pins σ Q) X.xe s
def Pa(r:V->Option Int->Option Int->Hp->VK->Prop)(te:TE)(tl th:TO):TE:=λσ H Q=>te σ H λx H1=>tl σ H1 λl H2=>th σ H2 λu H3=>r x l u H3 Q
theorem DB(hr:KH X r)(he:PE X e te)(hl:PO X lo tl)(hu:PO X hi th):PE X (.Subscript e (.Slice lo hi none p2) pos) (Pa r te tl th):=by
 intro pins s σ H Q I h;refine Subscript_ (cM (he pins s σ H _ I h) λv s1 ⟨x,H1,I1,r1,q1⟩=>?_);refine wpAny_Slice (cM (hl pins s1 σ H1 _ I1 q1) λvl s2 ⟨l,H2,I2,pl,q2⟩=>cM (hu pins s2 σ H2 _ I2 q2) λvu s3 ⟨u,H3,I3,pu,q3⟩=>?_);rw[evalPart_none];refine PZ ?_;have I4:Inv X pins σ H3 {s3 with heap:=s3.heap.push {cls:=.type "slice",data:=.fields #[vl,vu,.none]}}:=I3.kept (t':=s3.toks) λb ob q=>PC _ q;obtain⟨T,id,hT,ht,hg⟩:=hr pins {s3 with heap:=s3.heap.push {cls:=.type "slice",data:=.fields #[vl,vu,.none]}} σ H3 x v vl vu l u s3.heap.objs.size Q I4 r1 (Heap.IsSliceOf.new ..) pl pu q3;show wpAny (model X.prog X.w) X.A (subscriptTail e (.Slice lo hi none p2) v (.ref s3.heap.objs.size)) (EP X pins σ Q) X.xe {s3 with heap:=s3.heap.push {cls:=.type "slice",data:=.fields #[vl,vu,.none]}};exact tail_any (ops:=[.ref s3.heap.objs.size,v]) ht hT hg (by with_unfolding_all rfl)
noncomputable def rX(xs:List V)(lo hi:Option Int):List V:=(xs.drop (HT.cG xs.length 0 lo)).take (HT.cG xs.length xs.length hi-HT.cG xs.length 0 lo)
theorem pg(xs:List V)(lo hi:Option Int):(rX xs lo hi).length<=xs.length:=by
 unfold rX;rw[PY,QR]
 lia
def NS(K:FR):V->Option Int->Option Int->Hp->VK->Prop:=λx lo hi H Q=>∃a xs,x=.ref a/\kG K H a xs/\
 ¬(HT.cG xs.length 0 lo=0/\HT.cG xs.length xs.length hi=xs.length)/\∀p,H p=none->Q (.ref p) (upd H p (.tup (rX xs lo hi)))
theorem Ia:KH X (NS X.K):=by
 intro pins s σ H x v vl vu lo hi sl Q I rx hs pl pu h;obtain⟨a,xs,rfl,hx,hw,q⟩:=h;cases rx;obtain⟨its,r,ht,hz⟩:=I.tuple hx;have hlen:its.toArray.size=xs.length:=by rw[PQ];exact r.length.symm
 refine⟨"tuple",_,Qt.lookup,ht.typeIs,?_⟩;refine HT.mC ht hs pl pu (by rw[hlen];exact hw) ?_ (by rw[hlen];exact hz);rw[hlen];refine⟨.ref s.heap.objs.size,_,I.laid (t':=s.toks) (o:=.tup (rX xs lo hi)) (λb ob q=>PC _ q) (Pw _) ?_,rfl,q _ (I.ba.fresh (Pw _))⟩;exact⟨PL (pg xs lo hi) hz,_,(r.drop (HT.cG xs.length 0 lo)).take (HT.cG xs.length xs.length hi-HT.cG xs.length 0 lo),x5.new _ _⟩
def LL(K:FR):R2:=λx y H Q=>∃a b xs ys,x=.ref a/\y=.ref b/\kG K H a xs/\kG K H b ys/\xs≠[]/\xs.length+ys.length<=sizeLine/\
 (ys=[]->Q (.ref a) H)/\(ys≠[]->∀p,H p=none->Q (.ref p) (upd H p (.tup (xs++ys))))
theorem Vals.pY(r:Vals xs us):us=[]↔xs=[]:=by
 cases r with
 | nil=>simp
 | cons _ _=>simp
theorem Ge:oj X (binaryOp .Add) (LL X.K):=by
 intro pins s σ H x y v u Q I rx ry h;obtain⟨a,b,xs,ys,rfl,rfl,ha,hb,hx,hz,q1,q2⟩:=h;cases rx;cases ry;obtain⟨its,r1,p1,_⟩:=I.tuple ha;obtain⟨its2,r2,p2,_⟩:=I.tuple hb;refine HT.GW p1 p2 (λz=>hx (r1.pY.mp z)) (λz=>⟨.ref a,H,I,rfl,q1 (r2.pY.mp z)⟩) (λz=>?_) (by rw[<-r1.length,<-r2.length];exact hz);refine⟨.ref s.heap.objs.size,_,I.laid (t':=s.toks) (o:=.tup (xs++ys)) (λb ob q=>PC _ q) (Pw _) ?_,rfl,q2 (λw=>z (r2.pY.mpr w)) _ (I.ba.fresh (Pw _))⟩;exact⟨by rw[PF];exact hz,_,r1.append r2,x5.new _ _⟩
end
noncomputable def sZ(n:Nat)(i:Int):Option Nat:=if 0<=i then(if i < n then some i.toNat else none) else if -(n:Int)<=i then some (i+n).toNat else none
noncomputable def gK{α:Type}(xs:List α)(i:Int):Option α:=(sZ xs.length i).bind λj=>xs[j]?
theorem z6(h:sZ n i=some j):seqIndex? i n=some j/\j < n/\-(n:Int)<=i/\i < n:=by
 unfold sZ at h
 by_cases h0:0<=i
 ·rw[Py h0] at h
  by_cases h1:i < n
  ·rw[Py h1] at h;have e:i.toNat=j:=Option.some.inj h;exact⟨by rw[seqIndex_of h0 h1,e],by lia,by lia,h1⟩
  ·rw[PH h1] at h;cases h
 ·rw[PH h0] at h
  by_cases h1:-(n:Int)<=i
  ·rw[Py h1] at h;have e:(i+n).toNat=j:=Option.some.inj h;exact⟨by rw[seqIndex_neg (by lia) h1,e],by lia,h1,by lia⟩
  ·rw[PH h1] at h;cases h
theorem qg(h:gK xs i=some v):∃j,seqIndex? i xs.length=some j/\xs[j]?=some v/\j < xs.length/\-(xs.length:Int)<=i/\i < xs.length:=by
 unfold gK at h;cases e:sZ xs.length i with
 | none=>rw[e] at h;cases h
 | some j=>
  rw[e] at h;obtain⟨h1,h2,h3,h4⟩:=z6 e;exact⟨j,h1,h,h2,h3,h4⟩
theorem qf{α:Type}{xs:List α}{j:Nat}{v:α}(h:xs[j]?=some v):gK xs (j:Int)=some v:=by
 have hj:j < xs.length:=(Pq.mp h).1;have e:sZ xs.length (j:Int)=some j:=by
  unfold sZ;rw[Py (by lia),Py (by lia)];simp
 unfold gK;rw[e];exact h
theorem EZ(xs:List α)(v:α):gK (xs++[v]) (-1)=some v:=by
 have hl:(xs++[v]).length=xs.length+1:=by simp
 have e:sZ (xs++[v]).length (-1)=some xs.length:=by
  unfold sZ;rw[hl,PH (by decide),Py (by lia)];congr 1
  lia
 unfold gK;rw[e];show(xs++[v])[xs.length]?=some v;simp
def mZ(b:Expr):Prop:=∀o i,subscripted b false o i=operate [o,i] (getItem o i)
def MY(X:Cx)(r:R2):Prop:=
 ∀(value slice:Expr)(pins:List (Addr×Obj)) (s:Shared) (σ:St) (H:Hp) (x y:V) (v u:Value) (Q:VK),Inv X pins σ H s->RelV x v->RelV y u->r x y H Q->
  subscripted slice false v u=operate [v,u] (getItem v u)->wpAny (model X.prog X.w) X.A (subscriptTail value slice v u) (EP X pins σ Q) X.xe s
def AD(X:Cx)(id:String)(r:V->List V->Hp->VK->Prop):Prop:=
 ∀(pins:List (Addr×Obj)) (s:Shared) (σ:St) (H:Hp) (x:V) (xs:List V) (v:Value) (us:List Value) (Q:VK),Inv X pins σ H s->RelV x v->Vals xs us->r x xs H Q->
  wpAny (model X.prog X.w) X.A (call (.builtin id) (v::us)) (EP X pins σ Q) X.xe s
section
variable {X:Cx} {a b:Expr} {ta tb:TE} {pos:Pos}
theorem LO(hr:MY X r)(ha:PE X a ta)(hb:PE X b tb)(hs:mZ b):PE X (.Subscript a b pos) (Lf r ta tb):=by
 intro pins s σ H Q I h;exact Subscript_ (Kx ha hb I h λv u s2 x y H2 I2 rx ry q=>hr a b pins s2 σ H2 x y v u Q I2 rx ry q (hs _ _))
def N3(K:FR):R2:=λx y H Q=>∃p xs i v,x=.ref p/\y=.int i/\gM K H p xs/\gK xs i=some v/\Q v H
def NZ(K:FR):R2:=λx y H Q=>∃p xs i v,x=.ref p/\y=.int i/\kG K H p xs/\gK xs i=some v/\Q v H
def N0:R2:=λx y H Q=>∃z i c,x=.str z/\y=.int i/\z.length<=sizeLine/\gK z.cps.toList i=some c/\Q (.str ⟨#[c]⟩) H
theorem Gy:MY X (N3 X.K):=by
 intro value slice pins s σ H x y v u Q I rx ry h hs;obtain⟨p,xs,i,z,rfl,rfl,hq,he,q⟩:=h;cases rx;obtain⟨t,rfl⟩:=ry;obtain⟨its,r,pl,hz⟩:=I.list hq;obtain⟨j,h1,h2,h3,h4,h5⟩:=qg he;obtain⟨w,ew,rw'⟩:=r.get h2;have hl:=r.length;have hn:=kZ;have fin:EP X pins σ Q w s:=⟨z,H,I,rw',q⟩
 by_cases h0:0<=i
 ·have hj:i.toNat=j:=by
   rw[seqIndex_of h0 h5] at h1;exact Option.some.inj h1
  exact item_listR pl.isList h0 (by lia) (by rw[hj];simpa using ew) fin hs
 ·have hj:(i+(its.toArray.size:Int)).toNat=j:=by
   rw[seqIndex_neg (by lia) h4] at h1;rw[PQ,<-hl];exact Option.some.inj h1
  exact subscriptTail_builtinR (x:=w) pl.isList.typeIs slot_list_getitem.lookup
   (wpAny_getItem_list_neg (Q:=λr s'=>r=w/\EP X pins σ Q r s') pl.isList (by lia) (by rw[PQ] <;> lia) (by lia) (by rw[hj];simpa using ew) ⟨rfl,fin⟩) hs
theorem JK:MY X (NZ X.K):=by
 intro value slice pins s σ H x y v u Q I rx ry h hs;obtain⟨p,xs,i,z,rfl,rfl,hq,he,q⟩:=h;cases rx;obtain⟨t,rfl⟩:=ry;obtain⟨its,r,pl,hz⟩:=I.tuple hq;obtain⟨j,h1,h2,h3,h4,h5⟩:=qg he;obtain⟨w,ew,rw'⟩:=r.get h2;have hl:=r.length;have hn:=kZ;have fin:EP X pins σ Q w s:=⟨z,H,I,rw',q⟩;exact subscriptTail_builtinR (x:=w) pl.typeIs Qt.lookup
  (getItem_tuple (j:=j) (Q:=λr s'=>r=w/\EP X pins σ Q r s') pl (by lia) (by lia) (by rw[PQ,<-hl];exact h1) (by simpa using ew) ⟨rfl,fin⟩) hs
theorem JL:MY X N0:=by
 intro value slice pins s σ H x y v u Q I rx ry h hs;obtain⟨z,i,c,rfl,rfl,hz,he,q⟩:=h;obtain⟨t,rfl⟩:=rx;obtain⟨t',rfl⟩:=ry;obtain⟨j,h1,h2,h3,h4,h5⟩:=qg he;have hl:z.cps.toList.length=z.length:=by simp[Str.length]
 rw[hl] at h1 h4 h5;have hn:=kZ;exact tail_any (SN s z t) slot_str_getitem.lookup (getItem_str (c:=c) (by
  have e1:decide (i < -(2^63:Int))=false:=Qm (by lia);have e2:decide (i≥2^63)=false:=Qm (by lia);rw[e1,e2,Bool.or_false]) (by rw[h1];simpa using h2) ⟨.str ⟨#[c]⟩,H,I.tok _,⟨_,rfl⟩,q⟩) hs
theorem yU(its:List Value)(n j:Nat)(u:Value):Obj.mapSeq (·.setIfInBounds j u) {cls:=.type "list",data:=.seq its.toArray n}={cls:=.type "list",data:=.seq (its.set j u).toArray n}:=by
 simp[Obj.mapSeq]
theorem Inv.lst(I:Inv X pins σ H s)(h:H p=some (.lst xs)):
  ∃(its:List Value)(n:Nat),Vals xs its/\s.heap.get? p=some {cls:=.type "list",data:=.seq its.toArray n}/\xs.length<=sizeLine:=by
 obtain⟨z,its,n,r,e⟩:=I.ba p _ h;exact⟨its,n,r,e,z⟩
theorem Inv.JA{pins:List (Addr×Obj)}{σ:St}{H:Hp}{s:Shared}{p:Addr}{xs ys:List V}{its its':List Value}{n n':Nat}{f:Obj->Obj}(I:Inv X pins σ H s)(h:H p=some (.lst xs))
  (ho:s.heap.get? p=some {cls:=.type "list",data:=.seq its.toArray n}) (hf:f {cls:=.type "list",data:=.seq its.toArray n}={cls:=.type "list",data:=.seq its'.toArray n'}) (r:Vals ys its') (hz:ys.length<=sizeLine) (t:Nat):
  Inv X pins σ (upd H p (.lst ys)) {s with heap:=s.heap.update p f,toks:=t}:=by
 have e:(s.heap.update p f).get? p=some {cls:=.type "list",data:=.seq its'.toArray n'}:=by
  rw[Heap.get?_update_self f ho (by rw[hf] <;> rfl),hf]
 refine I.write (x:=p) (e:=p) (by rw[h];trivial) (.inl rfl) (λb u hb q=>(Heap.get?_update_other _ _ (Q0 hb)).trans q) ⟨_,e⟩ ?_;exact⟨hz,its',n',r,e⟩
def LK:V->V->V->Hp->(Hp->Prop)->Prop:=λo i v H Q=>∃p xs k j,o=.ref p/\i=.int k/\H p=some (.lst xs)/\sZ xs.length k=some j/\Q (upd H p (.lst (xs.set j v)))
theorem set_list:KL X LK:=by
 intro pins s σ H o i v ov iv u Q I ro ri rv h;obtain⟨p,xs,k,j,rfl,rfl,hp,hj,q⟩:=h;cases ro;obtain⟨t,rfl⟩:=ri;obtain⟨its,n,r,ho,hz⟩:=I.lst hp;obtain⟨h1,h2,h3,h4⟩:=z6 hj;have hl:=r.length;have hn:=kZ;have I':Inv X pins σ (upd H p (.lst (xs.set j v))) {s with heap:=s.heap.update p (Obj.mapSeq (·.setIfInBounds j u))}:=
  I.JA hp ho (yU its n j u) (r.set rv j) (by rw[QE];exact hz) s.toks
 by_cases h0:0<=k
 ·have hk:k.toNat=j:=by
   rw[seqIndex_of h0 h4] at h1;exact Option.some.inj h1
  exact PySem.W.ki_setAt ho h0 (by lia) (by rw[PQ,<-hl];exact h4) (by rw[hk];exact⟨_,I',q⟩)
 ·have hk:(k+(its.toArray.size:Int)).toNat=j:=by
   rw[seqIndex_neg (by lia) h3] at h1;rw[PQ,<-hl];exact Option.some.inj h1
  exact PySem.W.ki_setBack ho (by lia) (by rw[PQ,<-hl];exact h3) (by lia) (by rw[hk];exact⟨_,I',q⟩)
theorem uS(lo hi:Option Int)(n:Nat):(sliceBounds lo hi none n).1=((HT.cG n 0 lo:Nat):Int)/\(sliceBounds lo hi none n).2.1=((HT.cG n n hi:Nat):Int)/\(sliceBounds lo hi none n).2.2=1:=by
 refine⟨?_,?_,rfl⟩
 ·cases lo with
  | none=>simp[sliceBounds,HT.cG]
  | some i=>
   simp only[sliceBounds,HT.cG,Option.getD_none,show(1:Int) > 0 by decide,Se]
   by_cases h:i < 0
   ·simp only[h,Se] <;> lia
   ·simp only[h,Uj] <;> lia
 ·cases hi with
  | none=>simp[sliceBounds,HT.cG]
  | some i=>
   simp only[sliceBounds,HT.cG,Option.getD_none,show(1:Int) > 0 by decide,Se]
   by_cases h:i < 0
   ·simp only[h,Se] <;> lia
   ·simp only[h,Uj] <;> lia
theorem sE(its:List Value)(lo hi:Option Int):slicePick its.toArray lo hi none=((its.drop (HT.cG its.length 0 lo)).take (HT.cG its.length its.length hi-HT.cG its.length 0 lo)).toArray:=by
 obtain⟨h1,h2,h3⟩:=uS lo hi its.toArray.size;unfold slicePick;rw[h1,h2,h3];simp only[sliceRange_one,pick_run,PQ] <;> rfl
def NU(K:FR):V->Option Int->Option Int->Hp->VK->Prop:=λx lo hi H Q=>∃a xs,x=.ref a/\gM K H a xs/\∀p,H p=none->Q (.ref p) (upd H p (.lst (rX xs lo hi)))
theorem Fy:KH X (NU X.K):=by
 intro pins s σ H x v vl vu lo hi sl Q I rx hs pl pu h;obtain⟨a,xs,rfl,hx,q⟩:=h;cases rx;obtain⟨its,r,ht,hz⟩:=I.list hx;have hlen:=r.length;refine⟨"list",_,slot_list_getitem.lookup,ht.isList.typeIs,?_⟩;refine wpAny_getItem_list_slice ht.isList hs pl pu .none (by simp) ?_ (by rw[PQ] <;> lia);rw[sE,<-hlen];refine⟨.ref s.heap.objs.size,_,I.laid (t':=s.toks) (o:=.lst (rX xs lo hi)) (λb ob q=>PC _ q) (Pw _) ?_,rfl,q _ (I.ba.fresh (Pw _))⟩;exact⟨PL (pg xs lo hi) hz,_,0,(r.drop (HT.cG xs.length 0 lo)).take (HT.cG xs.length xs.length hi-HT.cG xs.length 0 lo),P8 _ rfl⟩
theorem wq:gd X (.builtin "len") (λxs H Q=>∃p ys,xs=[.ref p]/\(gM X.K H p ys\/kG X.K H p ys)/\Q (.int ys.length) H):=by
 intro pins s σ H xs us Q I r h;obtain⟨p,ys,rfl,hq,q⟩:=h;obtain⟨u,rfl,rx⟩:=vals1 r;cases rx;have hn:=kZ;rcases hq with hq | hq
 ·obtain⟨its,r',pl,hz⟩:=I.list hq;have hlen:=r'.length;exact Calls.call_len_list pl.isList (by simp only[PQ] <;> lia) ⟨.int ys.length,H,I.tok _,⟨s.toks+1,by rw[PQ,hlen]⟩,q⟩
 ·obtain⟨its,r',pl,hz⟩:=I.tuple hq;have hlen:=r'.length;exact len_tuple pl (by simp only[PQ] <;> lia) ⟨.int ys.length,H,I.tok _,⟨s.toks+1,by rw[PQ,hlen]⟩,q⟩
theorem wm:gd X (.builtin "len") (λxs H Q=>∃z,xs=[.str z]/\z.length<=sizeLine/\Q (.int z.length) H):=by
 intro pins s σ H xs us Q I r h;obtain⟨z,rfl,hz,q⟩:=h;obtain⟨u,rfl,t,rfl⟩:=vals1 r;have hn:=kZ;exact len_str (by lia) ⟨.int z.length,H,I.tok _,⟨_,rfl⟩,q⟩
theorem wk:gd X (.type "list") (λxs H Q=>∃p ys,xs=[.ref p]/\(gM X.K H p ys\/kG X.K H p ys)/\∀l,H l=none->Q (.ref l) (upd H l (.lst ys))):=by
 intro pins s σ H xs us Q I r h;obtain⟨p,ys,rfl,hq,q⟩:=h;obtain⟨u,rfl,rx⟩:=vals1 r;cases rx;have fin:∀(its:List Value),Vals ys its->ys.length<=sizeLine->∀(h':Heap)(c':Nat),(∀b o',s.heap.get? b=some o'->h'.get? b=some o')->
   h'.get? s.heap.objs.size=some {cls:=.type "list",dict:=none,data:=.seq its.toArray c',slots:=#[]}->EP X pins σ Q (.ref s.heap.objs.size) {s with heap:=h'}:=λits r' hz h' c' kp e=>
  ⟨.ref s.heap.objs.size,_,I.laid (t':=s.toks) kp (Pw _) (show cf X.prog X.w _ h' _ (.lst ys) from⟨hz,its,c',r',e⟩),rfl,q _ (I.ba.fresh (Pw _))⟩
 rcases hq with hq | hq
 ·obtain⟨its,r',pl,hz⟩:=I.list hq;have hlen:=r'.length;obtain⟨o,ho,hc,n,hd⟩:=pl.isList;exact call_list_seq p (.inl rfl) ho hc hd (λh' c' kp e=>fin its r' hz h' c' kp e) (by simp only[PQ] <;> lia)
 ·obtain⟨its,r',pl,hz⟩:=I.tuple hq;have hlen:=r'.length;obtain⟨o,ho,hc,n,hd⟩:=pl;exact call_list_seq p (.inr rfl) ho hc hd (λh' c' kp e=>fin its r' hz h' c' kp e) (by simp only[PQ] <;> lia)
theorem tu:gd X (.type "tuple") (λxs H Q=>∃p ys,xs=[.ref p]/\((gM X.K H p ys/\∀l,H l=none->Q (.ref l) (upd H l (.tup ys)))\/(kG X.K H p ys/\Q (.ref p) H))):=by
 intro pins s σ H xs us Q I r h;obtain⟨p,ys,rfl,h⟩:=h;obtain⟨u,rfl,rx⟩:=vals1 r;cases rx;rcases h with⟨hq,q⟩ |⟨hq,q⟩
 ·obtain⟨its,r',pl,hz⟩:=I.list hq;have hlen:=r'.length;refine call_tuple_list pl.isList (λh' kp=>?_) (by simp only[PQ] <;> lia);have I1:Inv X pins σ H {s with heap:=h'}:=I.kept (t':=s.toks) kp;have I2:Inv X pins σ (upd H h'.objs.size (.tup ys)) {s with heap:=h'.push {cls:=.type "tuple",data:=.seq its.toArray}}:=
   I1.laid (t':=s.toks) (λb o e=>PC _ e) (Pw _) (show cf X.prog X.w _ _ _ (.tup ys) from⟨hz,its,r',x5.new _ _⟩)
  exact⟨.ref h'.objs.size,_,I2,rfl,q _ (I1.ba.fresh (Pw _))⟩
 ·obtain⟨its,r',pl,hz⟩:=I.tuple hq;exact call_tuple_same pl ⟨.ref p,H,I,rfl,q⟩
def G4(K:FR)(T:String)(x:V)(H:Hp):Prop:=match x with
 | .str _=>T="str"
 | .int _=>T="int"
 | .ref p=>(T="list"/\∃xs,gM K H p xs)\/(T="tuple"/\∃o,K.lookup p=some o/\o.cls=.type "tuple"/\o.dict=none)\/
   (T="dict"/\((∃kvs,H p=some (.dK kvs))\/(∃kvs,H p=some (.dT kvs))\/∃φ,H p=some (.Al φ)/\∀w h,φ w h->∃o,h.get? p=some o/\o.ExactDict))\/(T="set"/\∃S n,H p=some (.set S n))
 | _=>False
theorem Cq(I:Inv X pins σ H s)(r:RelV x v)(ty:G4 X.K T x H):
  s.TypeIs v T/\∀a,v=.ref a->∃ob,s.heap.get? a=some ob/\ob.dict=none:=by
 cases x with
 | str z=>
  obtain⟨t,rfl⟩:=r;cases(show T="str" from ty);exact⟨SN s z t,λ_ e=>nomatch e⟩
 | int i=>
  obtain⟨t,rfl⟩:=r;cases(show T="int" from ty);exact⟨typeIs_int s i t,λ_ e=>nomatch e⟩
 | ref p=>
  cases r;rcases ty with⟨rfl,xs,hq⟩ |⟨rfl,o,hk,hc,hd⟩ |⟨rfl,hk⟩ |⟨rfl,S,n,hk⟩
  ·obtain⟨its,_,pl,_⟩:=I.list hq;refine⟨pl.isList.typeIs,λa e=>?_⟩;cases e;obtain⟨o,n,e,c,hd,_⟩:=pl;exact⟨o,e,hd⟩
  ·refine⟨⟨o,I.z5 p o hk,hc⟩,λa e=>?_⟩;cases e;exact⟨o,I.z5 _ o hk,hd⟩
  ·have z:∃o,s.heap.get? p=some o/\o.ExactDict:=by
    rcases hk with⟨kvs,hk⟩ |⟨kvs,hk⟩ |⟨φ,hk,hφ⟩
    ·obtain⟨_,_,_,_,o,_,_,e,ex,_⟩:=I.ba p _ hk;exact⟨o,e,ex⟩
    ·obtain⟨_,_,_,_,o,_,_,e,ex,_⟩:=I.ba p _ hk;exact⟨o,e,ex⟩
    ·obtain⟨q,_⟩:=I.ba p _ hk;exact hφ _ _ q
   obtain⟨o,e,ex⟩:=z;refine⟨⟨o,e,ex.1⟩,λa e2=>?_⟩;cases e2;exact⟨o,e,ex.2.1⟩
  ·obtain⟨o,_,_,_,e,ex,_⟩:=I.ba p _ hk;refine⟨⟨o,e,ex.1⟩,λa e2=>?_⟩;cases e2;exact⟨o,e,ex.2.1⟩
 | _=>exact False.elim ty
def NA(K:FR)(T:String)(r:V->List V->Hp->VK->Prop)(to:TE):TE:=λσ H Q=>to σ H λx H1=>G4 K T x H1/\r x [] H1 Q
def Pf(K:FR)(T:String)(r:V->List V->Hp->VK->Prop)(to:TE)(t:TA):TE:=λσ H Q=>to σ H λx H1=>G4 K T x H1/\t σ H1 λxs H2=>r x xs H2 Q
variable {o e:Expr} {es:List Expr} {to:TE} {t:TA} {name:Str} {apos cpos:Pos} {T id:String} {r:V->List V->Hp->VK->Prop}
theorem Jb(pa:PlainAttrs T)(slot:Slot T name id)(hty:typeOf (.builtin id)=pure (.type "method_descriptor"))(hm:AD X id r)(ho:PE X o to)
  (hbase:attributeBase o name X.env (eval o X.env)=eval o X.env:=by rfl) (hline:(apos.endLine==cpos.line)=true:=by rfl):PE X (.Call (.Attribute o name apos) [] [] cpos) (NA X.K T r to):=by
 intro pins s σ H Q I h;refine wpAny_Call_method0_late hbase hline (cM (ho pins s σ H _ I h) λv s1 ⟨x,H1,I1,r1,ty,q1⟩=>?_);obtain⟨h1,h2⟩:=Cq I1 r1 ty;exact⟨T,id,pa,slot,hty,h1,h2,Calls.callWith_builtin rfl (PySem.evalArgs_none (hm pins s1 σ H1 x [] v [] Q I1 r1 .nil q1))⟩
theorem LP(pa:PlainAttrs T)(slot:Slot T name id)(hty:typeOf (.builtin id)=pure (.type "method_descriptor"))(hm:AD X id r)(ho:PE X o to)(ha:PA X (e::es) t)
  (hbase:attributeBase o name X.env (eval o X.env)=eval o X.env:=by rfl)
  (hfew:((backTo cpos (starEach (e::es) X.env)).all (λx=>!x.1)&&(backToKw cpos (keywordEach [] X.env)).all (λx=>x.1.isSome)
   &&decide ((e::es).length+([]:List Keyword).length+(if([]:List Keyword).isEmpty then 0 else 1) < 30))=true:=by rfl)
  (hline:(apos.endLine==cpos.line)=true:=by rfl) (hs:starEach (e::es) X.env=(false,eval e X.env)::starEach es X.env:=by rfl) (hplain:(backTo cpos (starEach es X.env)).any (·.1)=false:=by rfl):
  PE X (.Call (.Attribute o name apos) (e::es) [] cpos) (Pf X.K T r to t):=by
 intro pins s σ H Q I h;refine wpAny_Call_method_late hbase hfew hline rfl (cM (ho pins s σ H _ I h) λv s1 ⟨x,H1,I1,r1,ty,q1⟩=>?_);obtain⟨h1,h2⟩:=Cq I1 r1 ty;refine⟨T,id,pa,slot,hty,h1,h2,?_⟩;have hA:=ha cpos pins s1 σ H1 _ I1 q1;rw[hs] at hA ⊢;refine Calls.callWith_builtin (by show(false||(backTo cpos (starEach es X.env)).any (·.1))=false;rw[hplain] <;> rfl) (Calls.evalArgs_plain ?_);exact cM hA λus s2 ⟨vs,H2,I2,r2,q2⟩=>hm pins s2 σ H2 x vs v us Q I2 r1 r2 q2
end
def OE(X:Cx)(id:String)(r:V->List V->Hp->VK->Prop):Prop:=
 ∀(pins:List (Addr×Obj)) (s:Shared) (σ:St) (H:Hp) (x:V) (xs:List V) (v:Value) (us:List Value) (Q:VK),Inv X pins σ H s->RelV x v->Vals xs us->r x xs H Q->
  wpAny (model X.prog X.w) X.A (call (.builtin id) (v::us)) (EP X pins σ Q) X.xe s
theorem Vals.one{x:V}{us:List Value}(h:Vals [x] us):∃u,us=[u]/\RelV x u:=by
 cases h with
 | cons r t=>cases t;exact⟨_,rfl,r⟩
theorem Vals.two{x y:V}{us:List Value}(h:Vals [x,y] us):∃u v,us=[u,v]/\RelV x u/\RelV y v:=by
 cases h with
 | cons r t=>cases t with
  | cons q z=>cases z;exact⟨_,_,rfl,r,q⟩
theorem Vals.zero:∀{us:List Value},Vals [] us->us=[]
 | _,.nil=>rfl
theorem Vals.dropLast(h:Vals xs us):Vals xs.dropLast us.dropLast:=by
 induction h with
 | nil=>exact .nil
 | cons r t ih=>
  cases t with
  | nil=>exact .nil
  | cons q t'=>exact .cons r ih
theorem Vals.rep(h:Vals xs us):∀k:Nat,Vals (List.replicate k xs).flatten (List.replicate k us).flatten
 | 0=>.nil
 | k+1=>by
  rw[Qw,Qw,QV,QV];exact Vals.append h (Vals.rep h k)
theorem y9(l:List α):l.eraseIdx (l.length-1)=l.dropLast:=by
 induction l with
 | nil=>rfl
 | cons a r ih=>
  cases r with
  | nil=>rfl
  | cons b r=>
   have e:(a::b::r).length-1=((b::r).length-1)+1:=by
    have h1:(a::b::r).length=r.length+2:=rfl;have h2:(b::r).length=r.length+1:=rfl
    lia
   rw[e,List.eraseIdx_cons_succ,ih]
   all_goals rfl
theorem foldl_rep(its:List Value):∀(k:Nat)(acc:List Value),
  List.foldl (λx1 x2=>x1++x2) acc.toArray (List.replicate k its.toArray)=(acc++(List.replicate k its).flatten).toArray
 | 0,acc=>by simp
 | k+1,acc=>by
  have e:acc.toArray++its.toArray=(acc++its).toArray:=by simp
  have e2:(acc++its)++(List.replicate k its).flatten=acc++(List.replicate (k+1) its).flatten:=by
   rw[Qw,QV,Qg]
  rw[<-e2,<-foldl_rep its k (acc++its),<-e,Qw,List.foldl_cons]
theorem Inv.JB{its its':List Value}{n:Nat}{f:Array Value->Array Value}{t':Nat}(I:Inv X pins σ H s)(hH:H l=some (.lst xs))
  (e:s.heap.get? l=some {cls:=.type "list",data:=.seq its.toArray n}) (hf:f its.toArray=its'.toArray) (hv:Vals ys its') (hz:ys.length<=sizeLine):
  Inv X pins σ (upd H l (.lst ys)) {s with heap:=s.heap.update l (Obj.mapSeq f),toks:=t'}:=by
 have q:=PySem.IsL.update e f;rw[hf] at q;refine I.write (x:=l) (e:=l) (by rw[hH];exact trivial) (.inl rfl) (λb' u hb hu=>(Heap.get?_update_other s.heap (Obj.mapSeq f) (Q0 hb)).trans hu) ⟨_,q⟩ ?_;exact⟨hz,its',_,hv,q⟩
theorem Inv.JD(I:Inv X pins σ H s)(hv:Vals ys its)(hz:ys.length<=sizeLine):
  Inv X pins σ (upd H s.heap.objs.size (.lst ys)) {s with heap:=s.heap.push {cls:=.type "list",data:=.seq its.toArray},toks:=t'}:=
 I.laid (λ_ _ q=>PC _ q) (Pw _) ⟨hz,its,0,hv,P8 _ rfl⟩
theorem Inv.fresh(I:Inv X pins σ H s):H s.heap.objs.size=none:=I.ba.fresh (Pw _)
theorem Inv.yV(I:Inv X pins σ H s)(hH:H l=some (.lst xs)):xs.length<=sizeLine/\∃(its:List Value)(n:Nat),Vals xs its/\xs.length=its.length/\s.heap.get? l=some {cls:=.type "list",data:=.seq its.toArray n}:=by
 obtain⟨z,its,n,r,e⟩:=I.ba l _ hH;exact⟨z,its,n,r,r.length,e⟩
theorem xt(h:n<=sizeLine):Builtin.List.listTooLong n=false:=by
 unfold Builtin.List.listTooLong;exact Qm (by lia)
def FQ:V->List V->Hp->VK->Prop:=λx vs H Q=>∃l xs y,x=.ref l/\vs=[y]/\H l=some (.lst xs)/\xs.length < sizeLine/\Q .cj (upd H l (.lst (xs++[y])))
theorem t4:OE X "list.append" FQ:=by
 intro pins s σ H x vs v us Q I rx rv h;obtain⟨l,xs,y,rfl,rfl,hH,hz,q⟩:=h;cases rx;obtain⟨u,rfl,ru⟩:=rv.one;obtain⟨z,its,n,r,hl,e⟩:=I.yV hH;refine RA RI ⟨_,e,rfl⟩ F.entry_list_append (F.args_list_append_2 _ _) (PySem.list_append l its.toArray n u (by rw[PQ];lia)) ⟨e,?_⟩;refine⟨.cj,_,I.JB (its':=its++[u]) hH e (by simp) (r.append (.cons ru .nil)) ?_,rfl,q⟩;rw[PF,Sz]
 lia
def FP:V->List V->Hp->VK->Prop:=λx vs H Q=>∃l b xs zs,x=.ref l/\vs=[.ref b]/\H l=some (.lst xs)/\H b=some (.lst zs)/\xs.length+zs.length<=sizeLine/\Q .cj (upd H l (.lst (xs++zs)))
theorem Bl:OE X "list.extend" FP:=by
 intro pins s σ H x vs v us Q I rx rv h;obtain⟨l,b,xs,zs,rfl,rfl,hH,hB,hz,q⟩:=h;cases rx;obtain⟨u,rfl,ru⟩:=rv.one;cases ru;obtain⟨z,its,n,r,hl,e⟩:=I.yV hH;obtain⟨z2,its2,n2,r2,hl2,e2⟩:=I.yV hB;have hsz:its.toArray.size+its2.toArray.size<=sizeLine:=by rw[PQ,PQ];lia
 have hlong:¬(!its.toArray.isEmpty&&Builtin.List.listTooLong (its.toArray.size+its2.toArray.size))=true:=by
  rw[xt hsz,Bool.and_false];exact Rp
 refine RA Sy ⟨_,e,rfl⟩ F.entry_list_extend (F.args_list_extend_2 _ _)
  (AutoSeq1.list_extend_list_list_0 l its.toArray n b its2.toArray n2 hlong (by rw[PQ];lia) (by lia)) ⟨e,e2,?_⟩
 refine⟨.cj,_,I.JB (its':=its++its2) hH e (by simp) (r.append r2) ?_,rfl,q⟩;rw[PF]
 lia
def NY:V->List V->Hp->VK->Prop:=λx vs H Q=>∃l xs y,x=.ref l/\vs=[]/\H l=some (.lst xs)/\xs[xs.length-1]?=some y/\Q y (upd H l (.lst xs.dropLast))
theorem Ju:OE X "list.pop" NY:=by
 intro pins s σ H x vs v us Q I rx rv h;obtain⟨l,xs,y,rfl,rfl,hH,hy,q⟩:=h;cases rx;have hus:=rv.zero;subst hus;obtain⟨z,its,n,r,hl,e⟩:=I.yV hH;obtain⟨u,hu,ru⟩:=r.get hy;have hy':its.toArray[its.toArray.size-1]?=some u:=by
  show its.toArray[its.length-1]?=some u;rw[<-Array.getElem?_toList,<-hl];exact hu
 refine RA F.slot_list_pop ⟨_,e,rfl⟩ F.entry_list_pop (F.args_list_pop_1 _) (MeetsSeq.list_pop_last l its.toArray n u hy' (by rw[PQ];lia)) ⟨e,?_⟩;refine⟨y,_,I.JB (its':=its.dropLast) hH e ?_ r.dropLast ?_,ru,q⟩
 ·show its.toArray.eraseIdxIfInBounds (its.toArray.size-1)=its.dropLast.toArray;rw[PQ,List.eraseIdxIfInBounds_toArray,y9]
 ·rw[Up]
  lia
def N4:R2:=λx y H Q=>∃l b xs zs,x=.ref l/\y=.ref b/\H l=some (.lst xs)/\H b=some (.lst zs)/\xs.length+zs.length<=sizeLine/\∀p,H p=none->Q (.ref p) (upd H p (.lst (xs++zs)))
theorem DN:oj X (binaryOp .Add) N4:=by
 intro pins s σ H x y v u Q I rx ry h;obtain⟨l,b,xs,zs,rfl,rfl,hH,hB,hz,q⟩:=h;cases rx;cases ry;obtain⟨z,its,n,r,hl,e⟩:=I.yV hH;obtain⟨z2,its2,n2,r2,hl2,e2⟩:=I.yV hB;refine PySem.P.add_list e e2 ?_ (by rw[PQ,PQ];lia);have ea:its.toArray++its2.toArray=(its++its2).toArray:=by simp
 rw[ea];exact⟨.ref _,_,I.JD (t':=s.toks) (r.append r2) (by rw[PF];lia),rfl,q _ I.fresh⟩
def NX:R2:=λx y H Q=>∃l k xs,x=.ref l/\y=.int k/\H l=some (.lst xs)/\-(2^63)<=k/\k < 2^63/\xs.length*k.toNat<=sizeLine/\
 ∀p,H p=none->Q (.ref p) (upd H p (.lst (List.replicate k.toNat xs).flatten))
theorem len_rep(xs:List α)(k:Nat):(List.replicate k xs).flatten.length=k*xs.length:=by
 induction k with
 | zero=>simp
 | succ k ih=>rw[Qw,QV,PF,ih,Nat.succ_mul,R3]
theorem Jk:oj X (binaryOp .Mult) NX:=by
 intro pins s σ H x y v u Q I rx ry h;obtain⟨l,k,xs,rfl,rfl,hH,h1,h2,hz,q⟩:=h;cases rx;obtain⟨t,rfl⟩:=ry;obtain⟨z,its,n,r,hl,e⟩:=I.yV hH;have hlen:its.toArray.size*k.toNat<=sizeLine:=by rw[PQ,<-hl];exact hz
 have hcap:¬its.toArray.size*k.toNat > (2^63-1) / 8:=by
  have:(sizeLine:Nat)<=(2^63-1) / 8:=by decide
  lia
 have hfit:¬(!Builtin.List.listFitsIndex k)=true:=by
  rw[fitsIndex_both h1 h2];exact Rp
 have hlong:¬Builtin.List.listTooLong (its.toArray.size*k.toNat)=true:=by
  rw[xt hlen];exact Rp
 have hnew:List.foldl (λx1 x2=>x1++x2) #[] (List.replicate (if its.toArray.isEmpty=true then 0 else k.toNat) its.toArray)=(List.replicate k.toNat its).flatten.toArray:=by
  have f0:∀m:Nat,List.foldl (λx1 x2=>x1++x2) #[] (List.replicate m its.toArray)=(List.replicate m its).flatten.toArray:=λm=>by
   have:=foldl_rep its m [];rw[QC] at this;exact this
  rw[f0];cases its with
  | nil=>simp
  | cons a r'=>rw[PH (by simp)]
 refine wpAny_binaryOp_repeat_ref (T:="list") (U:="int") (by decide) ⟨_,e,rfl⟩ (λs'=>typeIs_int s' k t) noFill_list_mul F.fills_int_mul F.slot_int_rmul repeat_list F.slot_int_index.lookup
  (RA F.slot_int_rmul (typeIs_int s k t) F.entry_int_rmul (F.args_int_rmul_2 _ _) (int___rmul___int_list k t l its.toArray n)
   ⟨e,rfl,⟨_,e,rfl⟩,RA F.slot_list_mul ⟨_,e,rfl⟩ F.entry_list_mul (F.args_list_mul_2 _ _) (AutoListH.list___mul___list_int_3 l its.toArray n k t hfit hcap hlong) ⟨e,?_⟩⟩)
 rw[hnew];exact⟨.ref _,_,I.JD (t':=s.toks) (r.rep k.toNat) (by rw[len_rep,Nat.mul_comm];exact hz),rfl,q _ I.fresh⟩
section
variable {κ:Type} [DecidableEq κ]
noncomputable def i8(kvs:List (κ×V))(k:κ):Option V:=(kvs.find? λkv=>decide (kv.1=k)).map (·.2)
noncomputable def putK(kvs:List (κ×V))(k:κ)(v:V):List (κ×V):=
 if(kvs.any λkv=>decide (kv.1=k))=true then kvs.map (λkv=>if kv.1=k then(kv.1,v) else kv) else kvs++[(k,v)]
theorem qm{p:κ×V}{r:List (κ×V)}{k:κ}(e:p.1=k):i8 (p::r) k=some p.2:=by simp[i8,Rr,e]
theorem lz{p:κ×V}{r:List (κ×V)}{k:κ}(e:¬p.1=k):i8 (p::r) k=i8 r k:=by simp[i8,Rr,e]
theorem wI(k:κ):∀kvs:List (κ×V),(kvs.any λkv=>decide (kv.1=k))=(i8 kvs k).isSome
 | []=>rfl
 | p::r=>by
  rw[Rt]
  by_cases e:p.1=k
  ·simp only[qm e,Qb e,Bool.true_or,Option.isSome_some]
  ·rw[lz e,Qm e,Bool.false_or];exact wI k r
theorem jx(kvs:List (κ×V))(k:κ)(v:V):(putK kvs k v).length<=kvs.length+1:=by
 unfold putK
 split
 ·rw[Pp];lia
 ·rw[PF,PK,Q9];lia
theorem pR.g9(r:pR o u):o.isSome=u.isSome:=by
 cases o with
 | none=>cases u with
  | none=>rfl
  | some _=>exact(show False from r).elim
 | some _=>cases u with
  | none=>exact(show False from r).elim
  | some _=>rfl
theorem pR.getD(r:pR o u)(rd:RelV d d'):RelV (o.getD d) (u.getD d'):=by
 cases o with
 | none=>cases u with
  | none=>exact rd
  | some _=>exact(show False from r).elim
 | some _=>cases u with
  | none=>exact(show False from r).elim
  | some _=>exact r
theorem KV.val{kvs:List (κ×V)}{vs:List (κ×Value)}(r:KV kvs vs)(k:κ):pR (i8 kvs k) (valueAt vs k):=by
 unfold KV at r
 induction r with
 | nil=>exact True.intro
 | @cons p q ps qs h t ih=>
  obtain⟨h1,h2⟩:=h
  by_cases e:p.1=k
  ·have e':q.1=k:=h1.symm.trans e;have b:valueAt (q::qs) k=some q.2:=by simp[valueAt,Rr,e']
   rw[qm e,b];exact h2
  ·have e':¬q.1=k:=λz=>e (h1.trans z);have b:valueAt (q::qs) k=valueAt qs k:=by simp[valueAt,Rr,e']
   rw[lz e,b];exact ih
theorem KV.any(r:KV kvs vs)(k:κ):(kvs.any λkv=>decide (kv.1=k))=vs.any λkv=>decide (kv.1=k):=by
 unfold KV at r
 induction r with
 | nil=>rfl
 | cons h t ih=>rw[Rt,Rt,ih,h.1]
theorem KV.Iw(r:KV kvs vs)(k:κ)(ry:RelV y u):
  KV (kvs.map λkv=>if kv.1=k then(kv.1,y) else kv) (vs.map λkv=>if kv.1=k then(kv.1,u) else kv):=by
 unfold KV at r ⊢
 induction r with
 | nil=>exact .nil
 | @cons p q ps qs h t ih=>
  rw[PN,PN];refine .cons ?_ ih;obtain⟨h1,h2⟩:=h
  by_cases e:p.1=k
  ·rw[Py e,Py (h1.symm.trans e)];exact⟨h1,ry⟩
  ·rw[PH e,PH (λz=>e (h1.trans z))];exact⟨h1,h2⟩
theorem KV.put(r:KV kvs vs)(k:κ)(ry:RelV y u):KV (putK kvs k y) (stored vs k u):=by
 unfold putK stored;rw[r.any k]
 by_cases e:(vs.any λkv=>decide (kv.1=k))=true
 ·rw[Py e,Py e];exact r.Iw k ry
 ·rw[PH e,PH e];exact Paired.snoc r ⟨rfl,ry⟩
theorem KV.length(r:KV kvs vs):kvs.length=vs.length:=Paired.length r
end
theorem oZ(r:RelV (kV k) u):(bO P w).is k u=true:=by
 cases k with
 | inl i=>obtain⟨t,e⟩:=(show ∃t,u=Value.int i t from r);subst e;exact xw P w i t
 | inr x=>obtain⟨t,e⟩:=(show ∃t,u=Value.str x t from r);subst e;exact xu P w x t
theorem uc:∀{ks:List Key} {us:List Value},Vals (ks.map kV) us->ItemsAre (bO P w) ks us
 | [],_,r=>by rw[Rl] at r;cases r;exact .nil
 | k::ks,_,r=>by
  rw[PN] at r;cases r with
  | cons h t=>exact .cons (oZ h) (uc t)
abbrev KT(H:Hp):List (List Key×V)->List (List Key×Addr×Value)->Prop:=Paired λp q=>p.1=q.1/\H q.2.1=some (.tup (p.1.map kV))/\RelV p.2 q.2.2
theorem KT.val{H:Hp}{kvs:List (List Key×V)}{xs:List (List Key×Addr×Value)}(r:KT H kvs xs)(k:List Key):pR (i8 kvs k) ((atKey xs k).map (·.2)):=by
 induction r with
 | nil=>exact True.intro
 | @cons p q ps qs h t ih=>
  obtain⟨h1,_,h2⟩:=h
  by_cases e:p.1=k
  ·have e':q.1=k:=h1.symm.trans e;have b:atKey (q::qs) k=some q.2:=by simp[atKey,Rr,e']
   rw[qm e,b];exact h2
  ·have e':¬q.1=k:=λz=>e (h1.trans z);have b:atKey (q::qs) k=atKey qs k:=by simp[atKey,Rr,e']
   rw[lz e,b];exact ih
theorem KT.Iw(r:KT H kvs xs)(k:List Key)(ry:RelV y u):
  KT H (kvs.map λkv=>if kv.1=k then(kv.1,y) else kv) (xs.map (putAt k u)):=by
 induction r with
 | nil=>exact .nil
 | @cons p q ps qs h t ih=>
  rw[PN,PN];refine .cons ?_ ih;obtain⟨h1,h2,h3⟩:=h;unfold putAt
  by_cases e:p.1=k
  ·rw[Py e,Py (h1.symm.trans e)];exact⟨h1,h2,ry⟩
  ·rw[PH e,PH (λz=>e (h1.trans z))];exact⟨h1,h2,h3⟩
theorem KT.put(r:KT H kvs xs)(k:List Key)(hb:H b=some (.tup (k.map kV)))(ry:RelV y u):
  KT H (putK kvs k y) (storedH xs k b u):=by
 have e:(kvs.any λkv=>decide (kv.1=k))=(atKey xs k).isSome:=by
  rw[wI,(r.val k).g9,S8]
 unfold putK storedH;rw[e]
 by_cases q:(atKey xs k).isSome=true
 ·rw[Py q,Py q];exact r.Iw k ry
 ·rw[PH q,PH q];exact Paired.snoc r ⟨rfl,hb,ry⟩
theorem KT.keeps(r:KT H kvs xs)(ht:∀b ys,H b=some (.tup ys)->H' b=some (.tup ys)):KT H' kvs xs:=
 Paired.L8 r λ_ _ z=>⟨z.1,ht _ _ z.2.1,z.2.2⟩
theorem He(ok:j8 P w H h)(e:Rd H a u):cf P w H h a u:=e.ok ok
theorem pe(ok:j8 P w H h)(e:Rd H a (.dK kvs)):kvs.length<=sizeLine/\(a==sysModules)=false/\∃vs,KV kvs vs/\h.DictOf (bO P w) a vs:=
 show cf P w H h a (.dK kvs) from He ok e
theorem An(ok:j8 P w H h)(e:H a=some (.dK kvs)):kvs.length<=sizeLine/\(a==sysModules)=false/\∃vs,KV kvs vs/\h.DictOf (bO P w) a vs:=pe ok (.inl e)
theorem k7(ok:j8 P w H h)(e:H a=some (.tup (ks.map kV))):(tupleKind (bO P w)).is h ks a:=by
 obtain⟨_,its,r,o,h1,h2,⟨n,h3⟩,_⟩:=(show cf P w H h a (.tup (ks.map kV)) from ok a _ e);exact⟨o,its.toArray,n,h1,h2,h3,by simpa using uc r⟩
theorem rT(ok:j8 P w H h)(e:Rd H a (.dT kvs)):kvs.length<=sizeLine/\(a==sysModules)=false/\
  ∃xs,KT H kvs xs/\h.DictOfH (tupleKind (bO P w)) a xs:=by
 obtain⟨z,y,xs,r,o,es,ep,h1,h2,h3,h4,h5⟩:=(show cf P w H h a (.dT kvs) from He ok e);refine⟨z,y,xs,r,o,es,ep,h1,h2,h3,h4,λx hx=>?_,h5⟩;have all:∀{l:List (List Key×V)} {m:List (List Key×Addr×Value)},KT H l m->∀x∈m,(tupleKind (bO P w)).is h x.1 x.2.1:=by
  intro l m q
  induction q with
  | nil=>intro x hx;exact nomatch hx
  | @cons p q ps qs hq t ih=>
   intro x hx;rcases PB.mp hx with e | hx
   ·subst e;exact k7 ok (by rw[<-hq.1];exact hq.2.1)
   ·exact ih x hx
 exact all r x hx
theorem Mp(ok:j8 P w H h)(e:H a=some (.dT kvs)):kvs.length<=sizeLine/\(a==sysModules)=false/\
  ∃xs,KT H kvs xs/\h.DictOfH (tupleKind (bO P w)) a xs:=rT ok (.inl e)
def m9(H:Hp)(a:Addr)(y:V)(r:Option V):Prop:=
 (∃kvs k,Rd H a (.dK kvs)/\y=kV k/\r=i8 kvs k)\/∃kvs k b,Rd H a (.dT kvs)/\y=.ref b/\H b=some (.tup (k.map kV))/\r=i8 kvs k
def G3(H:Hp)(a:Addr)(y v:V)(H':Hp):Prop:=
 (∃kvs k,H a=some (.dK kvs)/\y=kV k/\kvs.length < sizeLine/\H'=upd H a (.dK (putK kvs k v)))\/
 ∃kvs k b,H a=some (.dT kvs)/\y=.ref b/\H b=some (.tup (k.map kV))/\kvs.length < sizeLine/\H'=upd H a (.dT (putK kvs k v))
theorem m9.k{H:Hp}{a:Addr}{kvs:List (Key×V)}{k:Key}(e:H a=some (.dK kvs)):m9 H a (kV k) (i8 kvs k):=.inl ⟨kvs,k,.inl e,rfl,rfl⟩
theorem G3.k{H:Hp}{a:Addr}{kvs:List (Key×V)}{k:Key}{v:V}(e:H a=some (.dK kvs))(hl:kvs.length < sizeLine):G3 H a (kV k) v (upd H a (.dK (putK kvs k v))):=.inl ⟨kvs,k,e,rfl,hl,rfl⟩
theorem Inv.big(I:Inv X pins σ H s):sysModules < s.heap.objs.size:=by
 have h:mainGlobals < s.heap.objs.size:=(I.mod.glob.keeps I.bk).lt;exact S9 (by decide) h
theorem BO(hu:A.units+1 < cLine)(I:Inv X pins σ H s)(g:m9 H a y (some v))(ry:RelV y u)(h:∀w' s',Inv X pins σ H s'->RelV v w'->Q w' s'):
  wpAny (model X.prog X.w) A (getItem (.ref a) u) Q E s:=by
 rcases g with⟨kvs,k,e,ey,l⟩ |⟨kvs,k,b,e,ey,eb,l⟩
 ·subst ey;obtain⟨z,hd,vs,rel,dd⟩:=pe I.ba e;obtain⟨w',hw,rw'⟩:=pR.some_of (v:=v) (o:=valueAt vs k) (by rw[l];exact rel.val k);exact wpAny_getItem_of (oZ ry) dd.mapOf hw (h w' _ (I.tok _) rw')
 ·subst ey;cases(show u=Value.ref b from ry);obtain⟨z,hd,xs,rel,dd⟩:=rT I.ba e;obtain⟨w',hw,rw'⟩:=pR.some_of (v:=v) (o:=(atKey xs k).map (·.2)) (by rw[l];exact rel.val k);obtain⟨p,hp,hp2⟩:=P5.mp hw;refine wpAny_getItem_heap (Rv hu) (k7 I.ba eb) dd hp ?_;rw[hp2];exact h w' _ (I.tok _) rw'
theorem Om(hu:A.units+1 < cLine)(I:Inv X pins σ H s)(g:m9 H a y o)(ry:RelV y u)(h:∀s',Inv X pins σ H s'->Q (.bool o.isSome) s'):
  wpAny (model X.prog X.w) A (compareOp .In u (.ref a)) Q E s:=by
 rcases g with⟨kvs,k,e,ey,l⟩ |⟨kvs,k,b,e,ey,eb,l⟩
 ·subst ey;obtain⟨z,hd,vs,rel,dd⟩:=pe I.ba e;refine wpAny_in_of (oZ ry) hd dd.mapOf ?_;rw[<-(rel.val k).g9,<-l];exact h _ (I.tok _)
 ·subst ey;cases(show u=Value.ref b from ry);obtain⟨z,hd,xs,rel,dd⟩:=rT I.ba e;refine wpAny_in_heap (Rv hu) (k7 I.ba eb) hd dd ?_;have q:=(rel.val k).g9;rw[S8] at q;rw[<-q,<-l];exact h _ (I.tok _)
theorem GL(hu:A.units+1 < cLine)(I:Inv X pins σ H s)(g:m9 H a y o)(ry:RelV y u)(h:∀s',Inv X pins σ H s'->Q (.bool (!o.isSome)) s'):
  wpAny (model X.prog X.w) A (compareOp .NotIn u (.ref a)) Q E s:=by
 rcases g with⟨kvs,k,e,ey,l⟩ |⟨kvs,k,b,e,ey,eb,l⟩
 ·subst ey;obtain⟨z,hd,vs,rel,dd⟩:=pe I.ba e;refine wpAny_notIn_of (oZ ry) hd dd.mapOf ?_;rw[<-(rel.val k).g9,<-l];exact h _ (I.tok _)
 ·subst ey;cases(show u=Value.ref b from ry);obtain⟨z,hd,xs,rel,dd⟩:=rT I.ba e;refine wpAny_notIn_heap (Rv hu) (k7 I.ba eb) hd dd ?_;have q:=(rel.val k).g9;rw[S8] at q;rw[<-q,<-l];exact h _ (I.tok _)
theorem vZ(I:Inv X pins σ H s)(mu:MX (H a))(hs:Heap.SameBut a s.heap h')(he:∃q,h'.get? a=some q)(new:cf X.prog X.w (upd H a ob) h' a ob):
  Inv X pins σ (upd H a ob) {s with heap:=h',toks:=t'}:=
 I.write (x:=a) (e:=a) mu (.inl rfl) (λb q hb z=>(hs.2 b hb).trans z) he new
theorem Ey(z:kvs.length<=sizeLine)(hd:(a==sysModules)=false)(rel:KV kvs vs)(dd:h'.DictOf (bO P w) a vs):
  cf P w H' h' a (.dK kvs):=⟨z,hd,vs,rel,dd⟩
theorem BN(hu:A.units+1 < cLine)(I:Inv X pins σ H s)(g:G3 H a y v H')(ry:RelV y u)(rv:RelV v r)(h:∀s',Inv X pins σ H' s'->Q () s'):
  wpAny (model X.prog X.w) A (setItem (.ref a) u r) Q E s:=by
 rcases g with⟨kvs,k,e,ey,l,eH⟩ |⟨kvs,k,b,e,ey,eb,l,eH⟩
 ·subst ey eH;obtain⟨z,hd,vs,rel,dd⟩:=An I.ba e;have hz:vs.length<=sizeLine:=by rw[<-rel.length];exact z
  have hl:(putK kvs k v).length<=sizeLine:=by have:=jx kvs k v;lia
  refine wpAny_setItem_pairs (hsz:=hz) (oZ ry) dd λh' dd' hs=>h _ ?_;have he:∃q,h'.get? a=some q:=by obtain⟨q,_,_,hq,_⟩:=dd';exact⟨q,hq⟩
  exact vZ I (by rw[e];exact True.intro) hs he (Ey hl hd (rel.put k rv) dd')
 ·subst ey eH;cases(show u=Value.ref b from ry);obtain⟨z,hd,xs,rel,dd⟩:=Mp I.ba e;have hz:xs.length<=sizeLine:=by rw[<-Paired.length rel];exact z
  have hl:(putK kvs k v).length<=sizeLine:=by have:=jx kvs k v;lia
  refine wpAny_setItem_heap (hsz:=hz) (Rv hu) (k7 I.ba eb) dd λh' dd' hs=>h _ ?_;obtain⟨q,es,ep,hq,h2,h3,h4,_,h5⟩:=dd';refine vZ I (by rw[e];exact True.intro) hs ⟨q,hq⟩ ⟨hl,hd,_,(rel.put k eb rv).keeps λc ys ec=>?_,q,es,ep,hq,h2,h3,h4,h5⟩;rw[az (L6 ec e (λz=>nomatch z))];exact ec
theorem Mq(I:Inv X pins σ H s)(e:Rd H a (.dK kvs))(h:∀t s',Inv X pins σ H s'->Q (.int kvs.length t) s'):wpAny (model X.prog X.w) A (call (.builtin "len") [.ref a]) Q E s:=by
 obtain⟨z,hd,vs,rel,dd⟩:=pe I.ba e;refine call_len_dict hd dd (by rw[<-rel.length];rw[Rz] at z;lia) ?_;rw[<-rel.length];exact h _ _ (I.tok _)
def G1(i:Expr):Prop:=∀ov iv,subscripted i false ov iv=operate [ov,iv] (getItem ov iv)
theorem Fw{prog:Program}{w:World}{A:Around}{E:Value->Shared->Prop}{s:Shared}{env:Env}{value slice:Expr}{pos:Pos}{T id:String}{Q:Value->Shared->Prop}
  (hl:typeLookup (.type T) "__getitem__"=pure (some (.builtin id))) (hs:G1 slice)
  (h:wpAny (model prog w) A (eval value env) (λo s₁=>wpAny (model prog w) A (eval slice env) (λi s₂=>s₂.TypeIs o T/\wpAny (model prog w) A (getItem o i) Q E s₂) E s₁) E s):
  wpAny (model prog w) A (eval (.Subscript value slice pos) env) Q E s:=by
 refine Subscript_ (Qr h (λo s₁ h₁=>Qr h₁ (λi s₂ h₂=>?_) λ_ _ x=>x) λ_ _ x=>x);obtain⟨hT,h₂⟩:=h₂;unfold subscriptTail;refine Pu ?_;rw[getitemInPython_of_ne hT.not_modules];refine Pu (wpAny_specialOf hT hl ?_);have fin:wpAny (model prog w) A (subscripted slice false o i) (λr s₃=>wpAny (model prog w) A (letTemporaryGo value o r >>=λ_=>pure r) Q E s₃) E s₂:=by
  rw[hs o i];exact wpAny_operating (Qr h₂ (λr s₃ h₃=>Pu (wpAny_letTemporaryGo (PZ h₃))) λ_ _ x=>x)
 first
  | exact PZ (Pu fin)
  | exact Pu (PZ (Pu fin))
  | exact Pu fin
theorem xO(I:Inv X pins σ H s)(g:m9 H a y o):s.TypeIs (.ref a) "dict":=by
 rcases g with⟨kvs,k,e,_,_⟩ |⟨kvs,k,b,e,_,_,_⟩
 ·obtain⟨_,_,vs,_,dd⟩:=pe I.ba e;exact dd.typeIs
 ·obtain⟨_,_,xs,_,dd⟩:=rT I.ba e;exact dd.typeIs
theorem xN(h:Heap)(hb:sysModules < h.objs.size):cf P w H (h.push {cls:=.type "dict",data:=.dict #[]}) h.objs.size (.dK []):=
 ⟨Ri _,QY.mpr (Q0 (P9 hb)),[],.nil,Heap.DictOf.new h⟩
def HW:TE:=λ_ H Q=>∀p,H p=none->Q (.ref p) (upd H p (.dK []))
theorem DF:PE X (.Dict [] [] pos) HW:=λpins s σ H Q I h=>
 wpAny_Dict_empty ⟨.ref s.heap.objs.size,_,I.laid (a:=s.heap.objs.size) (o:=.dK []) (t':=s.toks) (λ_ _ q=>PC _ q) (Pw _) (xN s.heap I.big),rfl,h _ (I.ba.fresh (Pw _))⟩
def uP:List (TE×TE)->St->Hp->(List (V×V)->Hp->Prop)->Prop
 | [],_,H,Q=>Q [] H
 |(tk,tv)::r,σ,H,Q=>tk σ H λx H1=>tv σ H1 λy H2=>uP r σ H2 λps H3=>Q ((x,y)::ps) H3
abbrev VV:List (V×V)->List (Value×Value)->Prop:=Paired λp q=>RelV p.1 q.1/\RelV p.2 q.2
def KN(X:Cx)(pos:Pos)(keys:List (Option Expr))(values:List Expr)(trs:List (TE×TE)):Prop:=
 ∀(pins:List (Addr×Obj)) (s:Shared) (σ:St) (H:Hp) (Q:List (V×V)->Hp->Prop),Inv X pins σ H s->uP trs σ H Q->
  wpAny (model X.prog X.w) X.A (evalPairs (pairTrees keys values X.env pos)) (λvs s'=>∃ps H',Inv X pins σ H' s'/\VV ps vs/\Q ps H') X.xe s
theorem F1:KN X pos [] [] []:=λpins s σ H Q I h=>pairTrees_nil_walk ⟨[],H,I,.nil,h⟩
theorem Dw(hk:PE X k tk)(hv:PE X v tv)(hr:KN X pos ks vs trs):
  KN X pos (some k::ks) (v::vs) ((tk,tv)::trs):=λpins s σ H Q I h=>
 pairTrees_cons_walk (cM (hk pins s σ H _ I h) λu s1 ⟨x,H1,I1,rx,q1⟩=>cM (hv pins s1 σ H1 _ I1 q1) λw2 s2 ⟨y,H2,I2,ry,q2⟩=>
  cM (hr pins s2 σ H2 _ I2 q2) λws s3 ⟨ps,H3,I3,rel,q3⟩=>⟨(x,y)::ps,H3,I3,.cons ⟨rx,ry⟩ rel,q3⟩)
noncomputable def fV(kvs more:List (Key×V)):List (Key×V):=more.foldl (λacc kv=>putK acc kv.1 kv.2) kvs
theorem KV.merge:∀{more:List (Key×V)} {rs:List (Key×Value)} {kvs:List (Key×V)} {vs:List (Key×Value)},KV more rs->KV kvs vs->KV (fV kvs more) (merged vs rs):=by
 intro more rs kvs vs r;unfold KV at r
 induction r generalizing kvs vs with
 | nil=>intro q;exact q
 | @cons p q ps qs h t ih=>
  intro r0;have e:KV (putK kvs p.1 p.2) (stored vs q.1 q.2):=by
   have:=r0.put p.1 h.2;rw[<-h.1];exact this
  exact ih e
theorem kB:∀(more kvs:List (Key×V)),(fV kvs more).length<=kvs.length+more.length
 | [],kvs=>by show kvs.length<=kvs.length+0;lia
 | p::r,kvs=>by
  have h1:=kB r (putK kvs p.1 p.2);have h2:=jx kvs p.1 p.2;show(fV (putK kvs p.1 p.2) r).length<=_;rw[PK];lia
theorem si:∀{kvs:List (Key×V)} {ws:List (Value×Value)},VV (kvs.map λkv=>(kV kv.1,kv.2)) ws->∃rs,Carries (bO P w) ws rs/\KV kvs rs
 | [],_,r=>by rw[Rl] at r;cases r;exact⟨[],True.intro,.nil⟩
 | p::kvs,_,r=>by
  rw[PN] at r;cases r with
  | @cons a b as bs h t=>
   obtain⟨rs,c,q⟩:=si (P:=P) (w:=w) t;obtain⟨b1,b2⟩:=b;exact⟨(p.1,b2)::rs,⟨oZ h.1,rfl,c⟩,.cons ⟨rfl,h.2⟩ q⟩
def Cw(trs:List (TE×TE)):TE:=λσ H Q=>∀p,H p=none->uP trs σ (upd H p (.dK [])) λps H2=>H2 p=some (.dK [])/\∃kvs:List (Key×V),ps=kvs.map (λkv=>(kV kv.1,kv.2))/\kvs.length<=15/\Q (.ref p) (upd H2 p (.dK (fV [] kvs)))
theorem zP(h:KN X pos keys values trs)(hall:keys.all (·.isSome)=true)(hl:keys.length=values.length)(h0:keys≠[])(h15:keys.length<=15):PE X (.Dict keys values pos) (Cw trs):=by
 intro pins s σ H Q I q;have hn:=I.ba.fresh (Pw s.heap.objs.size);have I1:=I.laid (a:=s.heap.objs.size) (o:=.dK []) (h':=s.heap.push {cls:=.type "dict",data:=.dict #[]}) (t':=s.toks) (λ_ _ q=>PC _ q) (Pw _) (xN s.heap I.big);refine wpAny_Dict_walk (knd:=bO X.prog X.w) hall hl h0 h15 (cM (h pins _ σ _ _ I1 (q _ hn)) λws s2 ⟨ps,H2,I2,rel,e,kvs,ep,lk,q2⟩=>?_);subst ep;obtain⟨rs,c,rk⟩:=si (P:=X.prog) (w:=X.w) rel;obtain⟨z,hd,vs0,r0,dd⟩:=An I2.ba e;cases r0;refine⟨rs,c,dd,λh' dd' hs=>⟨.ref s.heap.objs.size,_,?_,rfl,q2⟩⟩;have hz:(fV [] kvs).length<=sizeLine:=by
  have h1:=kB kvs [];rw[Q9] at h1;rw[Rz];lia
 have he:∃q,h'.get? s.heap.objs.size=some q:=by obtain⟨q,_,_,hq,_⟩:=dd';exact⟨q,hq⟩
 exact vZ I2 (by rw[e];exact True.intro) hs he (Ey hz hd (rk.merge .nil) dd')
theorem Kf(hu:A.units+1 < cLine)(I:Inv X pins σ H s)(g:m9 H a y o)(ry:RelV y u)(h:∀w' s',Inv X pins σ H s'->RelV (o.getD .cj) w'->Q w' s'):
  wpAny (model X.prog X.w) A (call (.builtin "dict.get") [.ref a,u]) Q E s:=by
 rcases g with⟨kvs,k,e,ey,l⟩ |⟨kvs,k,b,e,ey,eb,l⟩
 ·subst ey;obtain⟨z,hd,vs,rel,dd⟩:=pe I.ba e;refine Tr Ru dd.typeIs RJ (TR _ _) (meets_dict_get (bO X.prog X.w) a (oZ ry) hd) ⟨_,dd.mapOf,h _ _ (I.tok _) ?_⟩;rw[l];exact(rel.val k).getD rfl
 ·subst ey;cases(show u=Value.ref b from ry);obtain⟨z,hd,xs,rel,dd⟩:=rT I.ba e;refine Tr Ru dd.typeIs RJ (TR _ _) (meetsH_dict_get (tupleKind (bO X.prog X.w)) a b hd) ⟨Rv hu,k,xs,k7 I.ba eb,dd,h _ _ (I.tok _) ?_⟩;rw[l];exact(rel.val k).getD rfl
theorem Ke(hu:A.units+1 < cLine)(I:Inv X pins σ H s)(g:m9 H a y o)(ry:RelV y u)(rd:RelV d r)(h:∀w' s',Inv X pins σ H s'->RelV (o.getD d) w'->Q w' s'):
  wpAny (model X.prog X.w) A (call (.builtin "dict.get") [.ref a,u,r]) Q E s:=by
 rcases g with⟨kvs,k,e,ey,l⟩ |⟨kvs,k,b,e,ey,eb,l⟩
 ·subst ey;obtain⟨z,hd,vs,rel,dd⟩:=pe I.ba e;refine Tr Ru dd.typeIs RJ (TQ _ _ _) (meets_dict_get_default (bO X.prog X.w) a (oZ ry) hd r) ⟨_,dd.mapOf,h _ _ (I.tok _) ?_⟩;rw[l];exact(rel.val k).getD rd
 ·subst ey;cases(show u=Value.ref b from ry);obtain⟨z,hd,xs,rel,dd⟩:=rT I.ba e;refine Tr Ru dd.typeIs RJ (TQ _ _ _) (meetsH_dict_get_default (tupleKind (bO X.prog X.w)) a b hd r) ⟨Rv hu,k,xs,k7 I.ba eb,dd,h _ _ (I.tok _) ?_⟩;rw[l];exact(rel.val k).getD rd
end L2
namespace Att
open PySem PySem.W PySem.Calls PyProof.Rows
theorem pN:∀(ns:List Int)(vs:List Value),WellAll P h vs (ns.map WData.int)->IntsAre vs ns:=by
 intro ns
 induction ns with
 | nil=>
  intro vs w;rw[Rl] at w;cases w;exact .nil
 | cons n ns ih=>
  intro vs w;rw[PN] at w;cases w with
  | cons a b=>
   cases a;exact .cons _ _ (ih _ b)
theorem AW{l:OpenLaw}{n:Nat}(hn:l.most=some n){P:Params}{h:Heap}{args:List WData}{vals:List Value}
  (hpre:l.row.toRowW.claim.pre args=true) (hwl:WellAll P h vals args):
  ∃a vs ns,vals=[Value.ref a]/\args=[WData.list (ns.map WData.int)]/\h.get? a=some {cls:=.type "list",data:=.seq vs.toArray}/\IntsAre vs ns/\ns.length<=n:=by
 have hsh:WShape.hasAll [] args [.list .int]=true:=(pre_splitW hpre).1;have hc:l.pre.holds [] {args:=args}=true:=(pre_splitW hpre).2;obtain⟨d,r,rfl,h1,h2⟩:=hasAllW_cons hsh;obtain rfl:=hasAllW_nil h2;obtain⟨xs,rfl,h3⟩:=hasW_list h1;obtain⟨ns,rfl⟩:=items_int h3;have hlen:ns.length<=n:=by
  unfold OpenLaw.pre at hc;have h4:(WTm.not (.lt (.lit (.int (n:Int))) (.len (.arg 0)))).holds [] {args:=[.list (ns.map .int)]}=true:=by
   have h4:=(holds_andW hc).1;rw[hn] at h4;exact h4
  have h5:=condW_of h4 (w_not (w_lt w_lit (w_len_list (w_arg rfl))));rw[Pp] at h5;refine Q4 λq=>?_;have q':(n:Int) < ((ns.length:Nat):Int):=by lia
  first
   |(rw[Qb q'] at h5;exact absurd h5 (by decide))
   |(simp at h5;lia)
 cases hwl with
 | cons w1 w2=>
  cases w2;cases w1 with
  | list ho hall=>exact⟨_,_,ns,rfl,rfl,ho,pN ns _ hall,hlen⟩
theorem Bc(l:OpenLaw)(args:List WData):l.row.toRowW.claim.post args (.bool true) args=true:=
 postW_of (r:=l.row.toRowW) (X:=(true==true))
  (show WShape.has [] (.bool true) .bool=true by first | rfl | decide | simp[WShape.has,WShape.arms,WShape.armsAll])
  (show(WTm.eq .res (.lit (.bool true))).value [] {args:=args,res:=some (.bool true),after:=args}=some (.bool (true==true)) from w_eq_bool (w_res rfl) w_lit) rfl
theorem xY{l:OpenLaw}{n:Nat}{q:Program}{loose:List Str}{XP:(Str->Option Value)->Heap->Prop}{YP:World->Heap->Prop}{d:DefRec}
  (hn:l.most=some n) (hdf:d.params.defaults=[])
  (call:∀(w:World)(s₀ s₁:Shared)(mg mb:Str->Option Value)(fa:Addr)(o:Obj)(pm cd doc:Value)(a:Addr)(vs:List Value)(ns:List Int),
   Ground q loose [] XP w s₀ mg mb s₁.heap->YP w s₁.heap->
   s₁.heap.get? fa=some o->o.data=.func (docDef d.name d.params d.body d.scope pm cd doc)->s₁.heap.CodeRec cd d.name->mg d.name=some (.ref fa)->
   s₁.heap.get? a=some {cls:=.type "list",data:=.seq vs.toArray}->IntsAre vs ns->ns.length<=n->s₁.gens=#[]->
   codeAny (model l.prog w) callerA (.call (.ref fa) ⟨[.ref a],[]⟩) (λr s'=>r=.ok (.ret (.bool true))/\OldK s₁.heap s'.heap/\s'.os=s₁.os/\AllBare s'.gens) s₁):
  WalkO q loose XP YP l.row.toRowW d [] (λf vs=>PySem.call f vs):=by
 intro w s₀ s₁ mg mb G Y fa o pm cd doc dV kV ho hd hcd hD hmg hg args vals as hpre hlay hrd hwl hlo;obtain rfl:dV=.none:=Dflts.none hD hdf;obtain rfl:kV=.none:=Dflts.noKw hD;obtain⟨a,vs,ns,rfl,rfl,hobj,hints,hlen⟩:=AW hn hpre hwl;refine enter_call (SO (call w s₀ s₁ mg mb fa o pm cd doc a vs ns G Y ho (fd_plain hd) hcd hmg hobj hints hlen hg) λr s' hq=>?_);obtain⟨rfl,h2,h3,h4⟩:=hq;exact⟨.inl ⟨.bool true,.bool true,[],rfl,λ_=>rfl,.bool true,Bc l _,λ_=>⟨List.Pairwise.nil,λ_ hm=>(nomatch hm)⟩⟩,h2,h3,h4⟩
section
variable {prog:Program} {w:World} {A:Around} {E:Value->Shared->Prop} {s:Shared} {K:Frag}
end
end Att
namespace L2
open PySem PySem.Spec PyProof.Rows
theorem nr{vs:List Value}{ns:List Int}(a:IntsAre vs ns):Vals (ns.map V.int) vs:=by
 induction a with
 | nil=>exact .nil
 | cons n t h ih=>exact .cons ⟨t,rfl⟩ ih
def ij(K:FR)(P:Addr):Prop:=∃vs:Array Value,(mainGlobals,({cls:=.none,data:=.fields vs}:Obj))∈K/\.ref P∈vs.toList
open Classical in
theorem D3{P:Program}{w:World}{K:FR}{mg mb:Str->Option Value}{CX:AG}{k:Nat}{fa a:Addr}{fd:FuncData}{x:Str}{sp:Sp}{s₁:Shared}{vs:List Value}{ns:List Int}
  (KX:K.In s₁.heap) (hns:s₁.heap.Ns mainGlobals mg) (hb:s₁.heap.Ns builtinsNs mb) (hbb:∀x:Str,x≠"__name__"->mb x=bootBuiltins x) (hlim:s₁.heap.NoLimit) (hg:s₁.gens=#[])
  (ha:s₁.heap.get? a=some {cls:=.type "list",data:=.seq vs.toArray}) (hi:IntsAre vs ns) (hl:ns.length<=sizeLine) (hr:cF k callerA)
  (F:∀base:Heap,K.In base->base.Ns mainGlobals mg->eI P w K mg base CX k fa fd [x] sp) (hbind:∀(s:Shared)(u:Value),BindsTo s fd ⟨[u],[]⟩ [(x,u)])
  (hT:∀b,ij K b->isCodeTable s₁.heap b/\s₁.heap.get? b=some {cls:=.none,data:=.fields #[]}/\K.lookup b=none)
  (hsp:∀H:Hp,gM K H a (ns.map V.int)->(∀b,ij K b->H b=some .tb)->sp [.ref a] H (λv H'=>v=.bl true/\∀b,ij K b->H' b=some .tb) λ_ _ _=>False)
  (hCX:∀H e s',CX [] H s₁ (λ_ _ _=>False) e s'->False):
  codeAny (model P w) callerA (.call (.ref fa) ⟨[.ref a],[]⟩) (λr s'=>r=.ok (.ret (.bool true))/\OldK s₁.heap s'.heap/\s'.os=s₁.os/\AllBare s'.gens) s₁:=by
 have rv:=nr hi;have lenV:=hi.length;have hTa:¬ij K a:=λz=>by rw[(hT a z).2.1] at ha;cases ha
 have core:∀H:Hp,gM K H a (ns.map V.int)->j8 P w H s₁.heap->(∀b,ij K b->H b=some .tb)->(∀b u,H b=some u->ij K b\/(b=a/\K.lookup a=none/\∃o xs,u=.pd o (.lst xs)))->
   codeAny (model P w) callerA (.call (.ref fa) ⟨[.ref a],[]⟩) (λr s'=>r=.ok (.ret (.bool true))/\OldK s₁.heap s'.heap/\s'.os=s₁.os/\AllBare s'.gens) s₁:=by
  intro H hS ba hTb hA;have base_of:∀{b:Addr} {o:Obj},s₁.heap.get? b=some o->H b=none->(vS s₁.heap H).get? b=some o:=λe n=>D9 e n;have noA:∀{b:Addr} {o:Obj} {es:Array DictEntry} {ep:Nat},s₁.heap.get? b=some o->o.data=.dict es ep->H b=none:=λ{b o es ep} e d=>by
   cases q:H b with
   | none=>rfl
   | some u=>
    rcases hA b u q with z |⟨rfl,_⟩
    ·rw[(hT b z).2.1] at e;cases e;cases d
    ·rw[ha] at e;cases e;have d':Data.seq vs.toArray _=Data.dict es ep:=d;cases d'
  have nsK:∀{b:Addr} {m:Str->Option Value},s₁.heap.Ns b m->(vS s₁.heap H).Ns b m:=λ{b m} ⟨o,es,ep,e,d,r⟩=>⟨o,es,ep,base_of e (noA e d),d,r⟩;have hKb:K.In (vS s₁.heap H):=λb o e=>base_of (KX b o e) (by
   cases q:H b with
   | none=>rfl
   | some u=>
    rcases hA b u q with z |⟨rfl,hk,_⟩
    ·rw[(hT b z).2.2] at e;cases e
    ·rw[hk] at e;cases e)
  have hM:Mod K mg (vS s₁.heap H):=⟨hKb,nsK hns,⟨mb,nsK hb,hbb⟩,let⟨mc,h1,h2⟩:=hlim;⟨mc,nsK h1,h2⟩⟩;have e0:E7 P w K mg (vS s₁.heap H) callerA [] s₁ H:=⟨rfl,hM,λb o e=>Gg e,Uc (Bx _ _),trivial,λb hb=>absurd (show b∈([]:List Addr) from hb) (by simp),ba,.of_eq hg⟩;refine SO ((F _ hKb (nsK hns)).run callerA [] s₁ H ⟨[.ref a],[]⟩ [.ref a] [.ref a] _ _ hr e0 (hbind s₁ (.ref a)) (.cons rfl .nil) (hsp H hS hTb)) λr s' h=>?_;cases r with
  | error e=>exact(hCX H e s' h).elim
  | ok fl=>
   cases fl with
   | next=>exact False.elim h
   | brk=>exact False.elim h
   | cont=>exact False.elim h
   | ret u=>
    obtain⟨v,H',os,bare,un,hok',r',q⟩:=h;obtain⟨q',q2⟩:v=.bl true/\∀b,ij K b->H' b=some .tb:=q;subst q';obtain rfl:u=Value.bool true:=r';have pd:∀b o xs,H b=some (.pd o (.lst xs))->s₁.heap.get? b=some o/\s'.heap.get? b=some o:=λb o xs z=>by
     obtain⟨e1,_⟩:=ba b _ z;obtain⟨e2,_⟩:=hok' b _ (un.mE b _ _ z);exact⟨e1,e2⟩
    refine⟨rfl,⟨λb o e=>?_,λb o e=>un.there b o e (by simp)⟩,os,bare⟩;cases q:H b with
    | none=>exact .inl (un.keep b o e q (by intro z;exact absurd (show b∈([]:List Addr) from z) (by simp)) (by simp))
    | some u=>
     rcases hA b u q with z |⟨_,_,ob,xs,rfl⟩
     ·obtain⟨ps,e2,_⟩:=hok' b _ (q2 b z);have e1:=(hT b z).2.1;rw[e] at e1;cases e1;exact .inr (.inl ⟨(hT b z).1,rfl,#[],ps,rfl,by rw[e2];simp⟩)
     ·obtain⟨e1,e2⟩:=pd b ob xs q;rw[e] at e1;cases e1;exact .inl e2
 have tbOk:∀(H:Hp) b,ij K b->cf P w H s₁.heap b .tb:=λH b z=>⟨#[],(hT b z).2.1,trivial,λpos c e=>by simp[codeAmong] at e⟩;cases hk:K.lookup a with
 | some o=>
  have e:=KX a o hk;rw[ha] at e;cases e;refine core (λb=>if ij K b then some .tb else none) (.inr ⟨_,vs.toArray,_,hk,rfl,rfl,rfl,by rw[PQ,lenV];exact hl,by simpa using rv⟩) (λb u z=>?_) (λb z=>Py z) λb u z=>?_
  ·by_cases hb:ij K b
   ·have z':=(Py hb).symm.trans z;cases z';exact tbOk _ b hb
   ·have z':=(PH hb).symm.trans z;cases z'
  ·by_cases hb:ij K b
   ·exact .inl hb
   ·have z':=(PH hb).symm.trans z;cases z'
 | none=>
  refine core (λb=>if ij K b then some .tb else if b=a then some (.pd {cls:=.type "list",data:=.seq vs.toArray} (.lst (ns.map V.int))) else none) (.inl (.inr ⟨{cls:=.type "list",data:=.seq vs.toArray},(PH hTa).trans (Py rfl)⟩)) (λb u z=>?_) (λb z=>Py z) λb u z=>?_
  ·by_cases hb:ij K b
   ·have z':=(Py hb).symm.trans z;cases z';exact tbOk _ b hb
   ·have z':=(PH hb).symm.trans z
    by_cases hb:b=a
    ·have z':=(Py hb).symm.trans z';cases z';subst hb;exact⟨ha,by rw[Pp];exact hl,vs,_,rv,ha⟩
    ·have z':=(PH hb).symm.trans z';cases z'
  ·by_cases hb:ij K b
   ·exact .inl hb
   ·have z':=(PH hb).symm.trans z
    by_cases hb:b=a
    ·have z':=(Py hb).symm.trans z';cases z';exact .inr ⟨hb,hk,_,_,rfl⟩
    ·have z':=(PH hb).symm.trans z';cases z'
noncomputable def mL(s:Stmt):Arguments:=match s with
 | .FunctionDef _ a _ _ _ _ _ _ _ _=>a
 | _=>{posonlyargs:=[],args:=[],vararg:=none,kwonlyargs:=[],kw_defaults:=[],kwarg:=none,defaults:=[]}
noncomputable def cY(s:Stmt):List Stmt:=match s with
 | .FunctionDef _ _ b _ _ _ _ _ _ _=>b
 | _=>[]
noncomputable def ah(s:Stmt):Scope:=match s with
 | .FunctionDef _ _ _ _ _ _ sc _ _ _=>sc
 | _=>{kind:=.function,names:=[],isGenerator:=false,isCoroutine:=false}
abbrev ni:AG:=λ_ _ _ _ _ _=>False
abbrev E0:XK:=λ_ _ _=>False
theorem LR:Passes ni X E0:=λ_ _ _ _ _ _ _ h=>h.elim
structure sC(K:FR)(x qual:Str)(st:Stmt)(f:Addr)(fd:FuncData):Prop where
 ex:∃(oc:Value)(od:Option Addr)(kV doc pm:Value)(an:Option Addr)(cdv ct:Value)(osl:Array (Option Value)),
  fd=PySem.W.fnOf x qual (mL st) (cY st) (ah st) .none kV doc pm an cdv ct/\K.lookup f=some ⟨oc,od,.func fd,osl⟩/\PySem.W.codeIn K cdv qual=true
 kp:PySem.W.keepIn K (.ref f)=true
section
variable {P:Program} {w:World} {K:FR} {mg:Str->Option Value} {base:Heap}
theorem sC.ok{x qual:Str}{st:Stmt}{f:Addr}{fd:FuncData}{N ps:List Str}{k:Nat}{sp:Sp}(F:sC K x qual st f fd)(S:aB N ps (ah st))(len:∀vs H Q E,sp vs H Q E->vs.length=ps.length)
  (hbody:∀(cdv:Value)(A:Around)(outer:List Env)(s:Shared)(H:Hp)(vs:List V)(Q:VK)(E:XK),cF k (A.deeper (envOfC qual (ah st) s.heap.objs.size f cdv))->sp vs H Q E->
   ∃t,wG (eQ ni P w K mg base N qual (ah st) f cdv A outer s H E).DP (cY st) t/\t {nx:=λ_ H'=>Q .cj H',rt:=Q} (start N vs) H):eI P w K mg base ni (k+1) f fd ps sp:=by
 obtain⟨oc,od,kV,doc,pm,an,cdv,ct,osl,rfl,lk,hcd⟩:=F.ex;refine Eb lk hcd S len λA outer s H vs Q E hr hsp=>?_;obtain⟨t,h,q⟩:=hbody cdv A outer s H vs Q E hr hsp;exact⟨t,h.DP,q⟩
theorem sC.binds{x qual:Str}{st:Stmt}{f:Addr}{fd:FuncData}{ps:List Str}(F:sC K x qual st f fd)
  (h:∀(kV doc pm:Value)(an:Option Addr)(cdv ct:Value)(us:List Value),us.length=ps.length->bindArgs (PySem.W.fnOf x qual (mL st) (cY st) (ah st) .none kV doc pm an cdv ct) ⟨us,[]⟩=pure (ps.zip us)):Binds K fd ps []:=by
 obtain⟨oc,od,kV,doc,pm,an,cdv,ct,osl,rfl,lk,hcd⟩:=F.ex;exact .all (h kV doc pm an cdv ct)
end
theorem Mf(hr:cF k A):A.units+1 < cLine:=QQ (Nat.add_le_add_left (by decide:1<=64) _) hr.units
theorem BU:gd X (.builtin "len") (λxs H Q=>∃a kvs,xs=[V.ref a]/\H a=some (.dK kvs)/\Q (.int kvs.length) H):=by
 intro pins s σ H xs us Q I r h;obtain⟨a,kvs,rfl,ha,q⟩:=h;obtain⟨u,rfl,ru⟩:=vals1 r;cases ru;exact Mq I (.inl ha) λt s' I'=>⟨.int kvs.length,H,I',⟨t,rfl⟩,q⟩
theorem Mb{A B:Prop}(h:B):if false=true then A else B:=by
 rw[PH Rp];exact h
theorem Ma{A B:Prop}(h:A):if true=true then A else B:=by
 rw[Py rfl];exact h
section
variable {κ:Type} [DecidableEq κ]
end
theorem j8.off(ok:j8 P w H h)(hC:H C=none)(k:∀b u,b≠C->h.get? b=some u->h'.get? b=some u):j8 P w H h':=by
 intro a o e;have ne:a≠C:=by rintro rfl;rw[hC] at e;cases e
 refine(ok a o e).nz (λb u hb q=>k b u ?_ q) (λ_ x=>x) (λ_ _ x=>x);rcases hb with rfl | hb
 ·exact ne
 ·rintro rfl;rw[hC] at hb;cases hb
noncomputable def fZ(env:Env):List (Str×NameKind)->List (Str×Addr)->List (Str×Addr)
 | [],acc=>acc
 |(n,k)::r,acc=>if(k==NameKind.free)=true then fZ env r ((n,(env.cells.lookup n).getD 0)::acc) else fZ env r acc
theorem ll(h:∀y∈scope.names,y.2=.free->∃c,env.cells.lookup y.1=some c):closureFor scope env=pure (fZ env scope.names []):=by
 have key:∀(names:List (Str×NameKind)) (acc:List (Str×Addr)),(∀y∈names,y.2=.free->∃c,env.cells.lookup y.1=some c)->
   (forIn names acc (λ(x:Str×NameKind)(r:List (Str×Addr))=>match x with
    |(name,kind)=>if(kind==NameKind.free)=true then do let a<-cellOf env name;pure (ForInStep.yield ((name,a)::r)) else pure (ForInStep.yield r)):Sem (List (Str×Addr)))=pure (fZ env names acc):=by
  intro names
  induction names with
  | nil=>intro acc _;rfl
  | cons y r ih=>
   intro acc hy;obtain⟨n,k⟩:=y;have hr:=λa=>ih a λz hz=>hy z (Pz _ hz);rw[List.forIn_cons];unfold fZ
   by_cases hk:(k==NameKind.free)=true
   ·have hk':k=.free:=by simpa using hk
    obtain⟨c,hc⟩:=hy (n,k) Px hk';have e:cellOf env n=pure c:=by unfold cellOf;rw[hc]
    simp only[hk,Se,e,hc,Option.getD_some];exact hr _
   ·simp only[hk,Uj];exact hr _
 have k:=key scope.names [] h;unfold closureFor;dsimp only;rw[k];rfl
theorem n4:∀(names:List (Str×NameKind)) (acc:List (Str×Addr)),(∀y∈names,y.2=.free->∃c,env.cells.lookup y.1=some c)->
  (∀d,acc.lookup x=some d->env.cells.lookup x=some d)->(fZ env names acc).lookup x=some c->env.cells.lookup x=some c
 | [],acc,_,ha,h=>ha c h
 |(n,k)::r,acc,hy,ha,h=>by
  unfold fZ at h;have hr:=λz hz=>hy z (Pz _ hz)
  by_cases hk:(k==NameKind.free)=true
  ·rw[Py hk] at h;refine n4 r _ hr (λd hd=>?_) h;have hk':k=.free:=by simpa using hk
   obtain⟨c',hc⟩:=hy (n,k) Px hk';rw[Qj] at hd;cases hx:x==n with
   | true=>
    rw[hx] at hd;have e:x=n:=by simpa using hx
    rw[e,hc];rw[hc] at hd;exact hd
   | false=>
    rw[hx] at hd;exact ha d hd
  ·rw[PH hk] at h;exact n4 r _ hr ha h
theorem sf:∀(names:List (Str×NameKind)) (acc:List (Str×Addr)),(∃c,acc.lookup x=some c)->∃c,(fZ env names acc).lookup x=some c
 | [],_,h=>h
 |(n,k)::r,acc,h=>by
  unfold fZ
  by_cases hk:(k==NameKind.free)=true
  ·rw[Py hk];refine sf r _ ?_;rw[Qj];cases hx:x==n with
   | true=>exact⟨_,rfl⟩
   | false=>exact h
  ·rw[PH hk];exact sf r _ h
theorem ic:∀(names:List (Str×NameKind)) (acc:List (Str×Addr)),(x,NameKind.free)∈names->∃c,(fZ env names acc).lookup x=some c
 | [],_,h=>by cases h
 |(n,k)::r,acc,h=>by
  unfold fZ;rcases PB.mp h with e | h'
  ·injection e with e1 e2
   subst e1 e2;rw[Py (by rfl)];refine sf r _ ⟨(env.cells.lookup x).getD 0,?_⟩;rw[Qj,Qs]
  ·by_cases hk:(k==NameKind.free)=true
   ·rw[Py hk];exact ic r _ h'
   ·rw[PH hk];exact ic r _ h'
theorem iE{env:Env}:∀{names:List (Str×NameKind)} {x:Str} {j:NameKind},
  (names.map λ(n,k)=>if(k==NameKind.free&&env.scope.kind==.function&&env.kindOf n==some .cell) then(n,NameKind.cell) else(n,k)).lookup x=some j->
  ∃k,names.lookup x=some k/\(j=k\/(k=.free/\j=.cell))
 | [],_,_,h=>by simp at h
 |(n,k)::r,x,j,h=>by
  have h':List.lookup x ((if(k==NameKind.free&&env.scope.kind==.function&&env.kindOf n==some .cell)=true then(n,NameKind.cell) else(n,k))::_)=some j:=h;rw[Qj];cases hx:x==n with
  | true=>
   refine⟨k,rfl,?_⟩
   by_cases hc:(k==NameKind.free&&env.scope.kind==.function&&env.kindOf n==some .cell)=true
   ·rw[Py hc,Qj,hx] at h';simp only[Qd,QX] at hc;exact .inr ⟨hc.1.1,(Option.some.inj h').symm⟩
   ·rw[PH hc,Qj,hx] at h';exact .inl (Option.some.inj h').symm
  | false=>
   by_cases hc:(k==NameKind.free&&env.scope.kind==.function&&env.kindOf n==some .cell)=true
   ·rw[Py hc,Qj,hx] at h';exact iE h'
   ·rw[PH hc,Qj,hx] at h';exact iE h'
theorem iF{env:Env}:∀{names:List (Str×NameKind)} {x:Str},names.lookup x=some .free->
  (names.map λ(n,k)=>if(k==NameKind.free&&env.scope.kind==.function&&env.kindOf n==some .cell) then(n,NameKind.cell) else(n,k)).lookup x=some .cell\/
  (names.map λ(n,k)=>if(k==NameKind.free&&env.scope.kind==.function&&env.kindOf n==some .cell) then(n,NameKind.cell) else(n,k)).lookup x=some .free
 | [],_,h=>by simp at h
 |(n,k)::r,x,h=>by
  rw[PN];show List.lookup x ((if(k==NameKind.free&&env.scope.kind==.function&&env.kindOf n==some .cell)=true then(n,NameKind.cell) else(n,k))::_)=_\/List.lookup x ((if(k==NameKind.free&&env.scope.kind==.function&&env.kindOf n==some .cell)=true then(n,NameKind.cell) else(n,k))::_)=_;rw[Qj] at h;cases hx:x==n with
  | true=>
   rw[hx] at h;have hk:k=.free:=Option.some.inj h
   by_cases hc:(k==NameKind.free&&env.scope.kind==.function&&env.kindOf n==some .cell)=true
   ·rw[Py hc,Qj,hx];exact .inl rfl
   ·rw[PH hc,Qj,hx,hk];exact .inr rfl
  | false=>
   rw[hx] at h
   by_cases hc:(k==NameKind.free&&env.scope.kind==.function&&env.kindOf n==some .cell)=true
   ·rw[Py hc,Qj,hx];exact iF h
   ·rw[PH hc,Qj,hx];exact iF h
abbrev mR(X:Cx)(N':List Str)(scope:Scope)(C:Addr)(s₃:Shared)(H₃:Hp)(fp:List Addr)(pl:List (Addr×Obj)):Cx:=
 {X with N:=N',s₀:=s₃,H₀:=H₃,env:=compEnvC scope (fZ X.env scope.names []) C X.env,outer:=X.stack,ex:=fp,fn:=λ_=>false,calm:=true,pn:=X.pn++pl,xe:=λ_ _=>False}
structure bC(X:Cx)(N':List Str)(caps:List (Option Nat))(scope:Scope):Prop where
 kind:scope.kind=.function
 rh:∀y∈scope.names,y.2≠.cell
 names:∀y∈scope.names,y.2=.local->scope.names.lookup y.1=some .local
 sh:∀y∈scope.names,y.2=.free->X.env.kindOf y.1=some .cell\/X.env.kindOf y.1=some .free
 len:caps.length=N'.length
 OS:∀(j i:Nat)(x:Str),caps[j]?=some (some i)->N'[j]?=some x->X.N[i]?=some x/\scope.names.lookup x=some .free
 nd:N'.Nodup
noncomputable def mP(caps:List (Option Nat))(σ:St):St:=caps.map λo=>o.bind λi=>(σ[i]?).join
theorem bC.has(S:bC X N' caps scope)(ok:X.Ok):∀y∈scope.names,y.2=.free->∃c,X.env.cells.lookup y.1=some c:=λy hy e=>ok.has y.1 (S.sh y hy e)
theorem bC.look(S:bC X N' caps scope)(ok:X.Ok)(h:(fZ X.env scope.names []).lookup x=some c):X.env.cells.lookup x=some c:=
 n4 scope.names [] (S.has ok) (λ_ z=>by simp at z) h
theorem Inv.block(S:bC X N' caps scope)(I:Inv X pins σ H s₃)(hc:X.calm=true)(hf:∀b∈fp,kd X pins H b)(hlt:∀b∈fp,b < s₃.heap.objs.size){h₄:Heap}{t₄:Nat}{m₄:Str->Option Value}
  (hn:h₄.Ns s₃.heap.objs.size m₄) (hk:∀b o,s₃.heap.get? b=some o->h₄.get? b=some o):
  Inv (mR X N' scope s₃.heap.objs.size s₃ H fp pins) [] (mP caps σ) H {s₃ with heap:=h₄,toks:=t₄}:=by
 have ok:=I.ok;have fresh:∀b o,s₃.heap.get? b=some o->b≠s₃.heap.objs.size:=λb o e=>P9 (PU e);have cellOk:∀x c,(fZ X.env scope.names []).lookup x=some c->∃v,s₃.heap.IsCell c v:=λx c e=>I.cell x c (S.look ok e);refine⟨⟨ok.mod,?_,ok.glob,ok.blt,Pw _,?_,?_,?_,λ_=>ok.hd hc,ok.frames,.inl rfl,?_,I.bs,?_,?_,?_,I.stack,I.pU⟩,rfl,I.bare,Un.kept hk,?_,?_,I.ba.fresh (Pw _),?_,?_,I.ba.kept hk,?_⟩
 ·show(relabel scope X.env).kind=.function;exact S.kind
 ·intro x y c h1 h2;exact ok.inj x y c (S.look ok h1) (S.look ok h2)
 ·intro x hx;have hx':(relabel scope X.env).names.lookup x=some .cell\/(relabel scope X.env).names.lookup x=some .free:=hx;have key:∀j,(relabel scope X.env).names.lookup x=some j->j=.cell\/j=.free->∃c,(fZ X.env scope.names []).lookup x=some c:=by
   intro j hj hjk;obtain⟨k,hk1,hk2⟩:=iE hj;have hm:=Qh hk1;have hkf:k=.free:=by
    rcases hk2 with rfl |⟨e,_⟩
    ·rcases hjk with rfl | e
     ·exact absurd rfl (S.rh _ hm)
     ·exact e
    ·exact e
   subst hkf;exact ic scope.names [] hm
  rcases hx' with h | h
  ·exact key _ h (.inl rfl)
  ·exact key _ h (.inr rfl)
 ·intro x c h _;exact absurd (show false=true from h) (by decide)
 ·intro b hb;refine⟨P9 (hlt b hb),λx c h=>(hf b hb).2.2.2.2.1 x c (S.look ok h)⟩
 ·exact PL ok.Ff I.sz
 ·intro b o e hb;rcases(hf b hb).2.2.2.1 with z | z
  ·exact ok.Bk b o e z
  ·exact absurd (P2 (PU e) ok.Ff) (Nat.not_lt.mpr z)
 ·intro b hb z;rcases PB.mp (I.qr b z) with e | e
  ·exact(hf b hb).2.1 e
  ·exact(hf b hb).2.2.1 e
 ·refine⟨m₄,hn,λj x v e1 e2 e3=>?_⟩;have e2':(caps.map λo=>o.bind λi=>(σ[i]?).join)[j]?=some (some v):=e2;rw[PR] at e2';cases hcj:caps[j]? with
  | none=>rw[hcj] at e2';cases e2'
  | some oi=>
   rw[hcj] at e2';have e2'':(oi.bind λi=>(σ[i]?).join)=some v:=Option.some.inj e2';cases oi with
   | none=>cases e2''
   | some i=>
    have hσ:(σ[i]?).join=some v:=e2'';have hσ':σ[i]?=some (some v):=by
     cases hs:σ[i]? with
     | none=>rw[hs] at hσ;cases hσ
     | some w=>rw[hs] at hσ;rw[show w=some v from hσ]
    obtain⟨hX,hfr⟩:=S.OS j i x hcj e1;obtain⟨m,_,hl⟩:=I.loc;have hcgt:=S.sh _ (Qh hfr) rfl;have hvis:KA X.env.scope x:=by
     rcases hcgt with z | z
     ·exact .inr (.inl z)
     ·exact .inr (.inr z)
    obtain⟨u,ru,lk⟩:=hl i x v hX hσ' hvis;refine⟨u,ru,.inr ⟨?_,?_⟩⟩
    ·exact iF hfr
    ·obtain⟨c,hcc⟩:=ic (env:=X.env) scope.names [] (Qh hfr);refine⟨c,hcc,?_⟩;rcases lk with⟨z,_⟩ |⟨_,c',hc',hcell⟩
     ·have z':X.env.kindOf x=some .local:=z;rcases hcgt with q | q
      ·rw[z'] at q;cases q
      ·rw[z'] at q;cases q
     ·have:=S.look I.ok hcc;rw[this] at hc';cases hc';obtain⟨o,ho,hd⟩:=hcell;exact⟨o,hk _ _ ho,hd⟩
 ·intro x c h;obtain⟨v,o,ho,hd⟩:=cellOk x c h;exact⟨v,o,hk _ _ ho,hd⟩
 ·intro x c h;exact I.fX x c (S.look ok h)
 ·intro p hp;have hp':p∈X.pn++pins:=by
   rcases PX.mp hp with z | z
   ·exact z
   ·cases z
  obtain⟨e,n,ne,nf,d⟩:=I.pin p hp';refine⟨hk _ _ e,n,fresh _ _ e,λz=>?_,d⟩;rcases PB.mp (I.qr p.1 z) with q | q
  ·exact ne q
  ·exact nf q
 ·show(caps.map _).length=N'.length;rw[Pp];exact S.len
theorem Inv.zu(S:bC X N' caps scope)(I:Inv X pins σ H s₃)(hf:∀b∈fp,kd X pins H b)(J:Inv (mR X N' scope s₃.heap.objs.size s₃ H fp pins) [] τ H' s')(hs:∀b u,b≠s₃.heap.objs.size->s'.heap.get? b=some u->h''.get? b=some u):Inv X pins σ H' {s' with heap:=h''}:=by
 have hC:H' s₃.heap.objs.size=none:=J.free;have u:Un (j4 X.stack) fp H H' s₃.heap h'':=by
  have b:=J.base;have ne:∀x o,s₃.heap.get? x=some o->x≠s₃.heap.objs.size:=λx o e=>P9 (PU e);refine⟨λx o e n hx hb=>hs _ _ (ne x o e) (b.keep x o e n hx hb),λx o e n hx hb=>?_,b.free,λx o e hb=>?_,b.nu,b.mE,b.nv⟩
  ·obtain⟨sl,q⟩:=b.slot x o e n hx hb;exact⟨sl,hs _ _ (ne x o e) q⟩
  ·obtain⟨o',q⟩:=b.there x o e hb;exact⟨o',hs _ _ (ne x o e) q⟩
 exact I.call' (s':={s' with heap:=h''}) (ch:=fp) J.os u (J.ba.off hC hs) J.bare λb hb=>⟨(hf b hb).2.2.2.1,(hf b hb).2.1,(hf b hb).2.2.2.2.1,(hf b hb).2.2.2.2.2⟩
def KO(X:Cx)(ifs:List Expr)(t:TT):Prop:=
 ∀(pins:List (Addr×Obj)) (s:Shared) (σ:St) (H:Hp) (Q:Bool->Hp->Prop),Inv X pins σ H s->t σ H Q->
  wpAny (model X.prog X.w) X.A (forIn ifs true λc r=>if r=true then do let ok<-isTrue c X.env (eval c X.env);pure (ForInStep.yield ok) else pure (ForInStep.yield r)) (TP X pins σ Q) X.xe s
def dD:TT:=λ_ H Q=>Q true H
theorem F5:KO X [] dD:=λpins s σ H Q I h=>wpAny_tests_nil ⟨H,I,h⟩
theorem F4(h:PT X c t):KO X [c] t:=λpins s σ H Q I q=>wpAny_tests_one (h pins s σ H Q I q)
def MZ(J:It)(g:TG)(tc:TT)(te:TE)(l:Addr)(Q:VK)(τ0:St)(H0:Hp):Prop:=
 ∃W:Nat->Nat->St->Hp->Prop,(∃m,W 0 m τ0 H0)/\∀i m τ H2,W i m τ H2->
  (J.stop i H2/\Q (.ref l) H2)\/(J.go i H2/\∃N:St->Hp->Prop,(∀τ' H',N τ' H'->∃m',m' < m/\W (i+1) m' τ' H')/\∀x H',J.HE i H2 x H'->g x τ H' λτ2 H3=>
   tc τ2 H3 λb H4=>if b=true then te τ2 H4 λy H5=>∃xs,H5 l=some (.lst xs)/\xs.length < sizeLine/\N τ2 (upd H5 l (.lst (xs++[y]))) else N τ2 H4)
def Cy(caps:List (Option Nat))(wi:TI)(g:TG)(tc:TT)(te:TE):TE:=λσ H Q=>wi σ H λJ H1=>∀l,H1 l=none->MZ J g tc te l Q (mP caps σ) (upd H1 l (.lst []))
theorem M6(h:wpAny M A t Q (λ_ _=>False) s):wpAny M A t Q E s:=Qr h (λ_ _ q=>q) λ_ _ f=>f.elim
theorem BP(S:bC X N' caps scope)(hc:X.calm=true)(hg:∀C s₃ H₃ fp pl,PG (mR X N' scope C s₃ H₃ fp pl) tg g)(hif:∀C s₃ H₃ fp pl,KO (mR X N' scope C s₃ H₃ fp pl) ifs tc)
  (he:∀C s₃ H₃ fp pl,PE (mR X N' scope C s₃ H₃ fp pl) elt te) {pins:List (Addr×Obj)} {σ:St} {H3:Hp} {s3:Shared} {h₁:Heap} {t₁:Nat} {m₁:Str->Option Value} {it l:Addr} {fp:List Addr} {tn:Nat->Heap->Prop} {J:It}
  (I3:Inv X pins σ H3 s3) (T:Turn X.prog X.w X.K tg J fp it tn) (st3:tn 0 h₁) (hf3:∀b∈fp,kd X pins H3 b) (hlt3:∀b∈fp,b < s3.heap.objs.size) (hns₁:h₁.Ns s3.heap.objs.size m₁) (keep3:∀b o,s3.heap.get? b=some o->h₁.get? b=some o)
  {Q:VK} {RR:Value->Addr->Result->Shared->Prop} {W:Nat->Nat->St->Hp->Prop} {m0:Nat} (w0:W 0 m0 (mP caps σ) H3) (turn:∀i m τ H2,W i m τ H2->
   (J.stop i H2/\Q (.ref l) H2)\/(J.go i H2/\∃N:St->Hp->Prop,(∀τ' H',N τ' H'->∃m',m' < m/\W (i+1) m' τ' H')/\∀x H',J.HE i H2 x H'->g x τ H' λτ2 H3=>
    tc τ2 H3 λb H4=>if b=true then te τ2 H4 λy H5=>∃xs,H5 l=some (.lst xs)/\xs.length < sizeLine/\N τ2 (upd H5 l (.lst (xs++[y]))) else N τ2 H4))
  (hRR:∀(l C:Addr)(H':Hp)(s':Shared),H' C=none->C≠X.env.locals->X.s₀.heap.objs.size<=C->(∀x c,X.env.cells.lookup x=some c->c≠C)->(∀p∈X.pn++pins,p.1≠C)->(∃m,s'.heap.Ns C m)->Inv X pins σ H' s'->
   (∀h'':Heap,(∀b u,b≠C->s'.heap.get? b=some u->h''.get? b=some u)->Inv X pins σ H' {s' with heap:=h''})->Q (.ref l) H'->RR (.ref l) C (.ok .next) s'):
  codeAny (model X.prog X.w) X.A (.compStart (.ListComp elt [⟨tg,iter,ifs,0⟩] scope pos) 0 (.ref it) (.ref l) (compEnvC scope (fZ X.env scope.names []) s3.heap.objs.size X.env))
   (RR (.ref l) s3.heap.objs.size) {s3 with heap:=h₁,toks:=t₁}:=by
 have J0:Inv (mR X N' scope s3.heap.objs.size s3 H3 fp pins) [] (mP caps σ) H3 {s3 with heap:=h₁,toks:=t₁}:=Inv.block S I3 hc hf3 hlt3 hns₁ keep3;have fpB:∀{H':Hp},(∀b∈fp,H' b=none)->∀b∈fp,kd (mR X N' scope s3.heap.objs.size s3 H3 fp pins) [] H' b:=λ{H'} hn b hb=>by
  obtain⟨f0,f1,f2,f3,f4,f5⟩:=hf3 b hb;refine⟨hn b hb,P9 (hlt3 b hb),λz=>?_,.inl hb,λx c e=>f4 x c (S.look I3.ok e),λp hp=>?_⟩
  ·rcases PB.mp (I3.qr b z) with q | q
   ·exact f1 q
   ·exact f2 q
  ·rcases PX.mp hp with q | q
   ·exact f5 p q
   ·cases q
 have fin:∀{τ:St} {H':Hp} {s':Shared},Inv (mR X N' scope s3.heap.objs.size s3 H3 fp pins) [] τ H' s'->Q (.ref l) H'->RR (.ref l) s3.heap.objs.size (.ok .next) s':=λ{τ H' s'} J q=>by
  refine hRR _ _ H' s' J.free ?_ ?_ ?_ ?_ ?_ ?_ ?_ q
  ·exact(P9 I3.lt).symm
  ·exact I3.sz
  ·intro x c e z;obtain⟨v,o,ho,_⟩:=I3.cell x c e;exact P9 (PU ho) z
  ·intro p hp z;obtain⟨e,_⟩:=I3.pin p hp;exact P9 (PU e) z
  ·obtain⟨m,hm,_⟩:=J.loc;exact⟨m,hm⟩
  ·have:=Inv.zu S I3 hf3 J (h'':=s'.heap) λb u _ e=>e;exact this
  ·exactλh'' hs=>Inv.zu S I3 hf3 J hs
 have loop:codeAny (model X.prog X.w) X.A (.compLoop (.ListComp elt [⟨tg,iter,ifs,0⟩] scope pos) 0 (.ref it) (.ref l) (compEnvC scope (fZ X.env scope.names []) s3.heap.objs.size X.env))
   (RR (.ref l) s3.heap.objs.size) {s3 with heap:=h₁,toks:=t₁}:=by
  refine codeAny_loop rfl (λn s'=>∃i τ H',Inv (mR X N' scope s3.heap.objs.size s3 H3 fp pins) [] τ H' s'/\tn i s'.heap/\(∀b∈fp,H' b=none)/\W i n τ H') ?_ m0 ⟨0,_,_,J0,st3,λb hb=>(hf3 b hb).1,w0⟩;rintro n s4 ⟨i,τ,H4,J4,st4,fr4,w4⟩;show wpAny _ X.A ((compTurn (.ListComp elt [⟨tg,iter,ifs,0⟩] scope pos) 0 (.ref it) (.ref l) (compEnvC scope (fZ X.env scope.names []) s3.heap.objs.size X.env)).onRaise (λx=>do noteFrame x (compEnvC scope (fZ X.env scope.names []) s3.heap.objs.size X.env);theTreesLotGoes x)) _ _ s4;refine wpAny_noted ?_;rw[compTurn_list];rcases turn i n τ H4 w4 with⟨stop,qn⟩ |⟨go,N,hN,step⟩
  ·refine Pu (Sx (Pu (Qr (T.done (mR X N' scope s3.heap.objs.size s3 H3 fp pins) rfl rfl rfl rfl i [] s4 τ H4 _ J4 (fpB fr4) st4 stop) (λr s5 h5=>?_) λ_ _ e=>e)));obtain⟨hr,J5⟩:=h5;subst hr;exact PZ (fin J5 qn)
  ·refine Pu (Sx (Pu (Qr (T.item (mR X N' scope s3.heap.objs.size s3 H3 fp pins) rfl rfl rfl rfl i [] s4 τ H4 _ J4 (fpB fr4) st4 go) (λr s5 h5=>?_) λ_ _ e=>e)));obtain⟨u,hr,h5⟩:=h5;subst hr;refine Pu (Qr h5 (λ_ s6 h6=>?_) λ_ _ e=>e);obtain⟨x,H6,J6,r6,y6,st6,fr6⟩:=h6;have J6':=J6.pinned (fpB fr6) (T.obj _ _ st6);refine Pu (Qr (M6 (hg _ _ _ _ _ _ s6 τ H6 x u _ J6' r6 (step x H6 y6))) (λ_ s7 h7=>?_) λ_ _ e=>e);obtain⟨τ7,H7,J7,q7⟩:=h7;have again:∀{τ8:St} {H8:Hp} {s8:Shared},Inv (mR X N' scope s3.heap.objs.size s3 H3 fp pins) ([]++qU fp s6.heap) τ8 H8 s8->N τ8 H8->
     ∃m,m < n/\∃i τ' H',Inv (mR X N' scope s3.heap.objs.size s3 H3 fp pins) [] τ' H' s8/\tn i s8.heap/\(∀b∈fp,H' b=none)/\W i m τ' H':=λ{τ8 H8 s8} J8 n8=>by
    obtain⟨m',hm,w8⟩:=hN τ8 H8 n8;refine⟨m',hm,i+1,τ8,H8,J8.lC,T.keep _ _ _ st6 λb hb o e=>(J8.pin (b,o) (P7 _ (P7 _ (iJ hb e)))).1,λb hb=>?_,w8⟩;obtain⟨o,e,d⟩:=T.obj _ _ st6 b hb;exact(J8.pin (b,o) (P7 _ (P7 _ (iJ hb e)))).2.1
   refine Pu (Qr (M6 (hif _ _ _ _ _ _ s7 τ7 H7 _ J7 q7)) (λok s8 h8=>?_) λ_ _ e=>e);obtain⟨H8,J8,q8⟩:=h8;cases ok with
   | false=>exact PZ ⟨rfl,again J8 (by simpa using q8)⟩
   | true=>
    have q8':te τ7 H8 λy H5=>∃xs,H5 l=some (.lst xs)/\xs.length < sizeLine/\N τ7 (upd H5 l (.lst (xs++[y]))):=by simpa using q8
    refine Pu (Pu (Qr (M6 (he _ _ _ _ _ _ s8 τ7 H8 _ J8 q8')) (λy s9 h9=>?_) λ_ _ e=>e));obtain⟨yv,H9,J9,r9,xs,hx,hz,n9⟩:=h9;refine Pu (Qr (M6 (t4 (X:=mR X N' scope s3.heap.objs.size s3 H3 fp pins) _ s9 τ7 H9 (.ref l) [yv] (.ref l) [y] (λ_ H'=>N τ7 H') J9 rfl (.cons r9 .nil) ⟨_,xs,yv,rfl,rfl,hx,hz,n9⟩)) (λ_ s10 h10=>?_) λ_ _ e=>e);obtain⟨_,H10,J10,_,n10⟩:=h10;exact PZ (PZ ⟨rfl,again J10 n10⟩)
 exact codeAny_compStart_list loop (T.self X.A 0 _ _ _ st3 loop)
theorem rY(S:bC X N' caps scope)(hc:X.calm=true)(hg:∀C s₃ H₃ fp pl,PG (mR X N' scope C s₃ H₃ fp pl) tg g)(hif:∀C s₃ H₃ fp pl,KO (mR X N' scope C s₃ H₃ fp pl) ifs tc)
  (he:∀C s₃ H₃ fp pl,PE (mR X N' scope C s₃ H₃ fp pl) elt te) {pins:List (Addr×Obj)} {σ:St} {H:Hp} {s:Shared} {it:Addr} {fp:List Addr} {tn:Nat->Heap->Prop} {J:It}
  (I:Inv X pins σ H s) (T:Turn X.prog X.w X.K tg J fp it tn) (st:tn 0 s.heap) (hf:∀b∈fp,kd X pins H b) {Q:VK} {RR:Value->Addr->Result->Shared->Prop} {E:Value->Shared->Prop}
  (h:∀l,H l=none->∃W:Nat->Nat->St->Hp->Prop,(∃m,W 0 m (mP caps σ) (upd H l (.lst [])))/\∀i m τ H2,W i m τ H2->
   (J.stop i H2/\Q (.ref l) H2)\/(J.go i H2/\∃N:St->Hp->Prop,(∀τ' H',N τ' H'->∃m',m' < m/\W (i+1) m' τ' H')/\∀x H',J.HE i H2 x H'->g x τ H' λτ2 H3=>
    tc τ2 H3 λb H4=>if b=true then te τ2 H4 λy H5=>∃xs,H5 l=some (.lst xs)/\xs.length < sizeLine/\N τ2 (upd H5 l (.lst (xs++[y]))) else N τ2 H4))
  (hRR:∀(l C:Addr)(H':Hp)(s':Shared),H' C=none->C≠X.env.locals->X.s₀.heap.objs.size<=C->(∀x c,X.env.cells.lookup x=some c->c≠C)->(∀p∈X.pn++pins,p.1≠C)->(∃m,s'.heap.Ns C m)->Inv X pins σ H' s'->
   (∀h'':Heap,(∀b u,b≠C->s'.heap.get? b=some u->h''.get? b=some u)->Inv X pins σ H' {s' with heap:=h''})->Q (.ref l) H'->RR (.ref l) C (.ok .next) s'):
  wpAny (model X.prog X.w) X.A (newList []) (λacc s₃=>wpAny (model X.prog X.w) X.A (newFunctionEnv scope X.env.globals (fZ X.env scope.names []) [] X.env.qual none .none (some X.env)) (λcenv s₄=>
   codeAny (model X.prog X.w) X.A (.compStart (.ListComp elt [⟨tg,iter,ifs,0⟩] scope pos) 0 (.ref it) acc {cenv with scope:=relabel scope X.env}) (RR acc cenv.locals) s₄) E s₃) E s:=by
 obtain⟨W,⟨m0,w0⟩,turn⟩:=h s.heap.objs.size I.fresh;refine Q1 (wpAny_newFunctionEnv S.rh (by intro y hy;simp at hy) (λh₁ hns₁ hsb₁=>?_) S.kind);have I3:Inv X pins σ (upd H s.heap.objs.size (.lst [])) {s with heap:=s.heap.push {cls:=.type "list",data:=.seq ([]:List Value).toArray}}:=I.JD (t':=s.toks) (its:=[]) (ys:=[]) .nil (Ri _);have hltf:∀b∈fp,b < s.heap.objs.size:=λb hb=>by
  obtain⟨o,e,_⟩:=T.obj 0 _ st b hb;exact PU e
 have hf3:∀b∈fp,kd X pins (upd H s.heap.objs.size (.lst [])) b:=λb hb=>⟨by rw[az (P9 (hltf b hb))];exact(hf b hb).1,(hf b hb).2⟩;have keep3:∀b o,(s.heap.push {cls:=.type "list",data:=.seq ([]:List Value).toArray}).get? b=some o->h₁.get? b=some o:=λb o e=>hsb₁.extBut b o (P9 (PU e)) (PC _ e);have st3:tn 0 h₁:=T.keep 0 _ _ st λb hb o e=>keep3 b o (PC _ e);have hlt3:∀b∈fp,b < (s.heap.push {cls:=.type "list",data:=.seq ([]:List Value).toArray}).objs.size:=λb hb=>by
  have:=hltf b hb;rw[SY];exact Nat.lt_succ_of_lt this
 exact BP (s3:={s with heap:=s.heap.push {cls:=.type "list",data:=.seq ([]:List Value).toArray}}) S hc hg hif he I3 T st3 hf3 hlt3 hns₁ keep3 w0 turn hRR
theorem DD(S:bC X N' caps scope)(hc:X.calm=true)(hi:PI X tg iter wi)(hg:∀C s₃ H₃ fp pl,PG (mR X N' scope C s₃ H₃ fp pl) tg g)(hif:∀C s₃ H₃ fp pl,KO (mR X N' scope C s₃ H₃ fp pl) ifs tc)
  (he:∀C s₃ H₃ fp pl,PE (mR X N' scope C s₃ H₃ fp pl) elt te) (hs:∀x,foldedSetIterable iter X.env x=pure x:=by intro _;rfl):PE X (.ListComp elt [⟨tg,iter,ifs,0⟩] scope pos) (Cy caps wi g tc te):=by
 intro pins s σ H Q I h;rw[eval_ListComp];refine Ut (use:=none) rfl hs (ll (S.has I.ok)) S.kind S.names (cM (hi pins s σ H _ I h) λv s1 h1=>cM h1 λitv s2 h2=>?_);obtain⟨it,fp,tn,J,H2,e,I2,T,st2,f2,hQ⟩:=h2;subst e;refine rY (RR:=λacc C=>compPost (model X.prog X.w) X.A X.xe none (EP X pins σ Q) acc C) S hc hg hif he I2 T st2 f2 hQ ?_;intro l C H' s' _ _ _ _ _ hm _ hI q;obtain⟨m,hm⟩:=hm;exact⟨m,hm,λh'' hs''=>⟨.ref l,H',hI h'' λb u hb e=>hs''.extBut b u hb e,rfl,q⟩⟩
theorem Du(hN:X.N.Nodup)(hi':X.N[i]?=some y)(hy:X.env.scope.names.lookup y=some .local)(S:bC X N' caps scope)(hc:X.calm=true)(hi:PI X tg iter wi)(hg:∀C s₃ H₃ fp pl,PG (mR X N' scope C s₃ H₃ fp pl) tg g)(hif:∀C s₃ H₃ fp pl,KO (mR X N' scope C s₃ H₃ fp pl) ifs tc)(he:∀C s₃ H₃ fp pl,PE (mR X N' scope C s₃ H₃ fp pl) elt te)(hsw:swapsWith (.ListComp elt [⟨tg,iter,ifs,0⟩] scope pos) (some (.Name y py)) spos.line X.env=pure true:=by rfl)(hs:∀x,foldedSetIterable iter X.env x=pure x:=by intro _;rfl):
  PS X (.Assign [.Name y py] (.ListComp elt [⟨tg,iter,ifs,0⟩] scope pos) spos) (Fv (Cy caps wi g tc te) (xH i)):=by
 intro pins s σ H D I h;rw[exec_Assign_Name_used _ _ _ _ hsw];refine Pu (Sx (Pu ?_));show wpAny _ X.A (do let _<-comprehension (.ListComp elt [⟨tg,iter,ifs,0⟩] scope pos) scope X.env _ (newList []) false (eval iter X.env) (some (assign (.Name y py) X.env))) _ _ s;refine Pu (Qr (Ut (use:=some (assign (.Name y py) X.env)) (Q:=λ_ s'=>SP X pins D .next s') rfl hs (ll (S.has I.ok)) S.kind S.names
  (cM (hi pins s σ H _ I h) λv s1 h1=>cM h1 λitv s2 h2=>?_)) (λ_ s' hq=>PZ (PZ hq)) λ_ _ e=>e)
 obtain⟨it,fp,tn,J,H2,e,I2,T,st2,f2,hQ⟩:=h2;subst e;refine rY (Q:=λx H1=>xH i x σ H1 D.nx) (RR:=λacc C=>compPost (model X.prog X.w) X.A X.xe (some (assign (.Name y py) X.env)) (λ_ s'=>SP X pins D .next s') acc C) S hc hg hif he I2 T st2 f2 hQ ?_;intro l C H' s' hC hCL hC0 hCc hCp hm hI0 hI q;obtain⟨m,hm⟩:=hm;show wpAny _ X.A (assign (.Name y py) X.env (.ref l)) _ _ s';refine wpAny_assign_Name (tE (v:=.ref l) hI0 hN hi' (.inl hy) rfl (λs5 I5 hch=>?_) (.inr hy));obtain⟨a,hsa,ha⟩:=hch;have hCa:C≠a:=by
  rcases ha with z | z
  ·rw[z];exact hCL
  ·exact(hCc _ _ z).symm
 refine⟨m,hm.sameBut hsa hCa,λh'' hs''=>?_⟩;have I6:=I5.turned (t':=s5.toks) (h':=h'') (it:=C) (λb o hb e=>hs''.extBut b o hb e) hC hCL (.inr hC0) hCc hCp;exact⟨_,H',I6,q⟩
def M1(_ j:Int):Prop:=0 < j/\j<=10^40
theorem log2_small(h:n<=10^40):n.log2 < 9000:=by
 by_cases h0:n=0
 ·rw[h0];decide
 ·refine(Nat.log2_lt h0).mpr (QQ h ?_);exact P2 (show 10^40 < 2^200 by decide) (Uo (by decide) (by decide))
theorem DL:oj X (binaryOp .FloorDiv) (rI M1 λi j=>.int (i / j)):=Na λi j _ _ _ _ _ hc q=>by
 have h1:(0:Int) < j:=hc.1;have h2:j<=10^40:=hc.2;exact floordiv_int (by lia) (by rw[Int.fdiv_eq_ediv_of_nonneg i (by lia)];exact q) (.inl (PyProof.noPylong_of_log2 (log2_small (by lia))))
mutual
inductive B5(K:FR)(H:Hp):V->PyData->Prop where
 | cj:B5 K H .cj .none
 | bl (b:Bool):B5 K H (.bl b) (.bool b)
 | int (i:Int):B5 K H (.int i) (.int i)
 | str (x:Str):B5 K H (.str x) (.str x)
 | tup {a:Addr} {xs:List V} {ds:List PyData}:kG K H a xs->sr K H xs ds->B5 K H (.ref a) (.tuple ds)
 | lst {a:Addr} {xs:List V} {ds:List PyData}:gM K H a xs->sr K H xs ds->B5 K H (.ref a) (.list ds)
inductive sr(K:FR)(H:Hp):List V->List PyData->Prop where
 | nil:sr K H [] []
 | cons {x:V} {xs:List V} {d:PyData} {ds:List PyData}:B5 K H x d->sr K H xs ds->sr K H (x::xs) (d::ds)
end
mutual
theorem B5.reads(I:Inv X pins σ H s){x:V}{u:Value}{d:PyData}(z:B5 X.K H x d)(r:RelV x u):∃as,Reads s.heap u d as:=by
 cases z with
 | cj=>cases(show _=Value.none from r);exact⟨_,.none⟩
 | bl b=>cases(show _=Value.bool b from r);exact⟨_,.bool b⟩
 | int i=>obtain⟨t,e⟩:=(show ∃t,_=Value.int i t from r);cases e;exact⟨_,.int i t⟩
 | str x=>obtain⟨t,e⟩:=(show ∃t,_=Value.str x t from r);cases e;exact⟨_,.str x t⟩
 | tup hq hl=>
  cases(show _=Value.ref _ from r);obtain⟨its,rv,⟨o,h1,h2,n,h3⟩,_⟩:=I.tuple hq;obtain⟨as,q⟩:=sr.reads I hl rv;exact⟨_,.tuple h1 h2 h3 (by simpa using q)⟩
 | lst hq hl=>
  cases(show _=Value.ref _ from r);obtain⟨its,rv,pl,_⟩:=I.list hq;obtain⟨o,h1,h2,n,h3⟩:=pl.isList;obtain⟨as,q⟩:=sr.reads I hl rv;exact⟨_,.list h1 h2 h3 (by simpa using q)⟩
theorem sr.reads(I:Inv X pins σ H s){xs:List V}{us:List Value}{ds:List PyData}(z:sr X.K H xs ds)(v:Vals xs us):∃as,ReadsAll s.heap us ds as:=by
 cases z with
 | nil=>cases v;exact⟨_,.nil⟩
 | cons h t=>
  cases v with
  | cons r q=>
   obtain⟨as,p⟩:=B5.reads I h r;obtain⟨bs,p'⟩:=sr.reads I t q;exact⟨_,.cons p p'⟩
end
def NT:V->Option Int->Option Int->Hp->VK->Prop:=λx lo hi H Q=>∃z,x=.str z/\z.length<=sizeLine/\Q (.str (Txt.slice z lo hi)) H
theorem Ic:KH X NT:=by
 intro pins s σ H x v vl vu lo hi sl Q I rx hs pl pu h;obtain⟨z,rfl,hz,q⟩:=h;obtain⟨t,rfl⟩:=(show ∃t,v=Value.str z t from rx);refine⟨"str",_,F.slot_str_getitem.lookup,SN _ _ _,?_⟩;obtain⟨o,h1,h2,h3⟩:=hs;have fin:(Txt.slice z lo hi).length<=sizeLine/\∀t' k,EP X pins σ Q (.str (Txt.slice z lo hi) t') {s with toks:=k}:=⟨PL (Txt.slice_le z _ _) hz,λt' k=>⟨.str _,H,I.tok k,⟨t',rfl⟩,q⟩⟩;cases pl with
 | none=>
  cases pu with
  | none=>exact RM (l:=none) (u:=none) (st:=none) ⟨o,h1,h2,h3⟩ rfl (SU fin)
  | int j uj=>exact RM (l:=none) (u:=some (j,uj)) (st:=none) ⟨o,h1,h2,h3⟩ rfl (SU fin)
 | int i ui=>
  cases pu with
  | none=>exact RM (l:=some (i,ui)) (u:=none) (st:=none) ⟨o,h1,h2,h3⟩ rfl (SU fin)
  | int j uj=>exact RM (l:=some (i,ui)) (u:=some (j,uj)) (st:=none) ⟨o,h1,h2,h3⟩ rfl (SU fin)
noncomputable def xy(out:List (Str×NameKind))(N N':List Str)(caps:List (Option Nat))(scope:Scope):Bool:=
 decide (scope.kind=.function)&&scope.names.all (λy=>decide (y.2≠.cell))&&scope.names.all (λy=>!decide (y.2=.local)||decide (scope.names.lookup y.1=some .local))&&
 scope.names.all (λy=>!decide (y.2=.free)||decide (out.lookup y.1=some .cell)||decide (out.lookup y.1=some .free))&&decide (caps.length=N'.length)&&
 (List.range caps.length).all (λj=>match caps[j]?,N'[j]? with
  | some (some i),some x=>decide (N[i]?=some x)&&decide (scope.names.lookup x=some .free)
  | _,_=>true)&&decide N'.Nodup
theorem bc(h:xy X.env.scope.names X.N N' caps scope=true):bC X N' caps scope:=by
 unfold xy at h;simp only[Qd,Qp,Rh,Ra,UG,TJ] at h;obtain⟨⟨⟨⟨⟨⟨h1,h2⟩,h3⟩,h4⟩,h5⟩,h6⟩,h7⟩:=h;refine⟨h1,h2,λy hy e=>?_,λy hy e=>?_,h5,λj i x hj hx=>?_,h7⟩
 ·rcases h3 y hy with z | z
  ·exact absurd e z
  ·exact z
 ·rcases h4 y hy with(z | z) | z
  ·exact absurd e z
  ·exact .inl z
  ·exact .inr z
 ·have hlt:j < caps.length:=(Pq.mp hj).1;have:=h6 j (QB.mpr hlt);rw[hj,hx] at this;simp only[Qd,Qp] at this;exact this
end L2
namespace L2
end L2
namespace L2
open PySem PySem.Spec PyProof.Rows
theorem jN:PyData.strOk x=true↔∀c∈x.cps,c < 0x110000:=by
 unfold PyData.strOk;rw[Array.all_eq_true_iff_forall_mem];simp
theorem gO(ha:PyData.strOk a=true)(hb:PyData.strOk b=true):PyData.strOk (a++b)=true:=by
 rw[jN] at*;intro c hc;have hc':c∈a.cps++b.cps:=hc;rcases Array.mem_append.mp hc' with z | z
 ·exact ha c z
 ·exact hb c z
theorem wL(l u:Option Int)(h:PyData.strOk x=true):PyData.strOk (Txt.slice x l u)=true:=by
 unfold Txt.slice
 split
 ·exact h
 ·rw[jN] at*;intro c hc;have hc':c∈(List.filterMap (x.cps[·]?) (Builtin.Str.strSliceIndices l u 1 x.length)).toArray:=hc;rw[List.mem_toArray] at hc';obtain⟨i,_,e⟩:=Q5.mp hc';exact h c (Ui e)
theorem AR(h:PyData.strOk z=true)(hc:gK z.cps.toList i=some c):PyData.strOk (⟨#[c]⟩:Str)=true:=by
 rw[jN] at*;intro d hd;have e:d=c:=by simpa using hd
 subst e;obtain⟨j,_,hj,_⟩:=qg hc;exact h d (by have:=Pr hj;simpa using this)
end L2
namespace L2
open PySem PySem.Spec PyProof.Rows PySem.SeqAt
noncomputable def OP:Nat->PyData->Bool
 | _,.int _=>true
 | _,.str x=>PyData.strOk x
 | n+1,.tuple xs=>xs.all (OP n)
 | _,_=>false
noncomputable def Mg(w:World):Nat->PyData->Int
 | _,.int i=>JJ w (.inl i)
 | _,.str x=>JJ w (.inr x)
 | n+1,.tuple xs=>reduceHash (Builtin.Tuple.tupleHashOf (xs.map (Mg w n)))
 | _,_=>0
noncomputable def JS(K:FR)(x:Str):Option Value:=match K.lookup mainGlobals with
 | some o=>match o.data with
  | .dict es _=>(es.toList.find? (λe=>Value.isStrOf x e.key)).map (·.val)
  | _=>none
 | none=>none
def yd(h:Heap)(x D:Addr):Prop:=∃o,h.get? x=some o/\o.cls=.ref D
def OI(a:Addr)(us:List (Addr×V))(ps:List PyData):World->Heap->Prop:=λw h=>us.length<=sizeLine/\(a==sysModules)=false/\ps.all (OP 8)=true/\ps.Nodup/\
 ∃ys:List (PyData×Addr×Value),Paired (λ(u:Addr×V)(y:PyData×Addr×Value)=>u.1=y.2.1/\RelV u.2 y.2.2) us ys/\ys.map (·.1)=ps/\
 ∃o es ep,h.get? a=some o/\o.ExactDict/\o.data=.dict es ep/\es.toList=ys.map λy=>⟨Mg w 8 y.1,.ref y.2.1,y.2.2⟩
end L2
namespace Sm
open PySem L2
inductive D where
 | cj | bl (b:Bool) | int (i:Int) | str (x:Str) | ty (n:String)
 | tup (xs:List D) | lv (xs:List D) | ro (xs:List D) | dv (kvs:List (Key×D)) | ob (n:Nat)
inductive MO where
 | lst (xs:List D) | dct (kvs:List (Key×D)) | dcH (kvs:List (D×D)) | exc (c:Str)
abbrev MH:=List MO
mutual
noncomputable def vw:D->Option PyData
 | .cj=>some .none
 | .bl b=>some (.bool b)
 | .int i=>some (.int i)
 | .str x=>some (.str x)
 | .tup xs=>(oF xs).map .tuple
 | .lv xs=>(oF xs).map .list
 | .ro xs=>(oF xs).map .list
 | _=>none
noncomputable def oF:List D->Option (List PyData)
 | []=>some []
 | x::r=>(vw x).bind λa=>(oF r).map λb=>a::b
end
abbrev DS:=List (Option D)
abbrev OQ:Hp:=λ_=>none
structure Ad where
 ob:List Addr
 rs:List Addr
def Ad.has(ρ:Ad)(a:Addr):Prop:=a∈ρ.ob\/a∈ρ.rs
def TupAt(K:FR)(ρ:Ad)(H:Hp)(a:Addr)(vs:List V):Prop:=(Rd H a (.tup vs)/\¬ρ.has a)\/kG K OQ a vs
def KJ(K:FR)(ρ:Ad)(H:Hp)(a:Addr)(vs:List V):Prop:=(Rd H a (.lst vs)/\¬ρ.has a)\/gM K OQ a vs
mutual
inductive Rep(K:FR)(ρ:Ad)(H:Hp):V->D->Prop where
 | cj:Rep K ρ H .cj .cj
 | bl (b:Bool):Rep K ρ H (.bl b) (.bl b)
 | int (i:Int):Rep K ρ H (.int i) (.int i)
 | str {x:Str} (h:PyData.strOk x=true):Rep K ρ H (.str x) (.str x)
 | ty (n:String):Rep K ρ H (.ty n) (.ty n)
 | tup {a:Addr} {vs:List V} {ds:List D}:TupAt K ρ H a vs->aD K ρ H vs ds->Rep K ρ H (.ref a) (.tup ds)
 | lv {a:Addr} {vs:List V} {ds:List D}:H a=some (.lst vs)->¬ρ.has a->aD K ρ H vs ds->Rep K ρ H (.ref a) (.lv ds)
 | ro {a:Addr} {vs:List V} {ds:List D}:KJ K ρ H a vs->aD K ρ H vs ds->Rep K ρ H (.ref a) (.ro ds)
 | dv {a:Addr} {us:List (Key×V)} {kvs:List (Key×D)}:H a=some (.dK us)->¬ρ.has a->bD K ρ H us kvs->Rep K ρ H (.ref a) (.dv kvs)
 | ob {a:Addr} {n:Nat}:ρ.ob[n]?=some a->Rep K ρ H (.ref a) (.ob n)
inductive aD(K:FR)(ρ:Ad)(H:Hp):List V->List D->Prop where
 | nil:aD K ρ H [] []
 | cons {v:V} {vs:List V} {d:D} {ds:List D}:Rep K ρ H v d->aD K ρ H vs ds->aD K ρ H (v::vs) (d::ds)
inductive bD(K:FR)(ρ:Ad)(H:Hp):List (Key×V)->List (Key×D)->Prop where
 | nil:bD K ρ H [] []
 | cons {k:Key} {v:V} {vs:List (Key×V)} {d:D} {ds:List (Key×D)}:Rep K ρ H v d->bD K ρ H vs ds->bD K ρ H ((k,v)::vs) ((k,d)::ds)
end
structure Ch(ρ:Ad)(H:Hp)(ρ':Ad)(H':Hp):Prop where
 pre:∀(n:Nat) a,ρ.ob[n]?=some a->ρ'.ob[n]?=some a
 old:∀b o,¬ρ.has b->H b=some o->¬ρ'.has b/\H' b=some o
theorem Ch.refl(ρ:Ad)(H:Hp):Ch ρ H ρ H:=⟨λ_ _ e=>e,λ_ _ n e=>⟨n,e⟩⟩
theorem Ch.trans(a:Ch ρ H ρ1 H1)(b:Ch ρ1 H1 ρ2 H2):Ch ρ H ρ2 H2:=
 ⟨λn x e=>b.pre n x (a.pre n x e),λx o n e=>let⟨n',e'⟩:=a.old x o n e;b.old x o n' e'⟩
structure df(ρ:Ad)(H:Hp)(ρ':Ad)(H':Hp):Prop extends Ch ρ H ρ' H' where
 rs:ρ'.rs=ρ.rs
 res:∀b∈ρ.rs,H' b=H b
theorem df.refl(ρ:Ad)(H:Hp):df ρ H ρ H:=⟨.refl _ _,rfl,λ_ _=>rfl⟩
theorem df.trans(a:df ρ H ρ1 H1)(b:df ρ1 H1 ρ2 H2):df ρ H ρ2 H2:=
 ⟨a.toCh.trans b.toCh,b.rs.trans a.rs,λx hx=>(b.res x (by rw[a.rs];exact hx)).trans (a.res x hx)⟩
instance {ρ ρ':Ad} {H H':Hp}:CoeOut (df ρ H ρ' H') (Ch ρ H ρ' H'):=⟨df.toCh⟩
theorem Ch.rd(S:Ch ρ H ρ' H')(h:Rd H a u)(n:¬ρ.has a):Rd H' a u/\¬ρ'.has a:=by
 rcases h with h |⟨o,h⟩
 ·obtain⟨q,e⟩:=S.old a _ n h;exact⟨.inl e,q⟩
 ·obtain⟨q,e⟩:=S.old a _ n h;exact⟨.inr ⟨o,e⟩,q⟩
mutual
theorem Rep.mono(S:Ch ρ H ρ' H'){v:V}{d:D}(r:Rep K ρ H v d):Rep K ρ' H' v d:=by
 cases r with
 | cj=>exact .cj
 | bl b=>exact .bl b
 | int i=>exact .int i
 | str x=>exact .str x
 | ty n=>exact .ty n
 | tup h l=>exact .tup (h.elim (λ⟨a,n⟩=>.inl (S.rd a n)) .inr) (aD.mono S l)
 | lv h n l=>have ⟨n',h'⟩:=S.old _ _ n h;exact .lv h' n' (aD.mono S l)
 | ro h l=>exact .ro (h.elim (λ⟨a,n⟩=>.inl (S.rd a n)) .inr) (aD.mono S l)
 | dv h n l=>have ⟨n',h'⟩:=S.old _ _ n h;exact .dv h' n' (bD.mono S l)
 | ob e=>exact .ob (S.pre _ _ e)
theorem aD.mono(S:Ch ρ H ρ' H'){vs:List V}{ds:List D}(r:aD K ρ H vs ds):aD K ρ' H' vs ds:=by
 cases r with
 | nil=>exact .nil
 | cons h t=>exact .cons (Rep.mono S h) (aD.mono S t)
theorem bD.mono(S:Ch ρ H ρ' H'){vs:List (Key×V)}{ds:List (Key×D)}(r:bD K ρ H vs ds):bD K ρ' H' vs ds:=by
 cases r with
 | nil=>exact .nil
 | cons h t=>exact .cons (Rep.mono S h) (bD.mono S t)
end
theorem aD.length:∀{vs:List V} {ds:List D},aD K ρ H vs ds->vs.length=ds.length:=by
 intro vs
 induction vs with
 | nil=>intro ds a;cases a;rfl
 | cons v vs ih=>intro ds a;cases a with | cons _ t=>rw[PK,PK,ih t]
theorem aD.got:∀{vs:List V} {ds:List D} {i:Nat} {d:D},aD K ρ H vs ds->ds[i]?=some d->∃v,vs[i]?=some v/\Rep K ρ H v d
 | _,_,_,_,.nil,e=>by simp at e
 | _,_,0,_,.cons r _,e=>by simp at e;subst e;exact⟨_,rfl,r⟩
 | _,_,i+1,d,.cons _ t,e=>by
  obtain⟨u,h1,h2⟩:=aD.got (i:=i) (d:=d) t (by simpa using e);exact⟨u,by simpa using h1,h2⟩
theorem aD.append:∀{vs ws:List V} {ds es:List D},aD K ρ H vs ds->aD K ρ H ws es->aD K ρ H (vs++ws) (ds++es):=by
 intro vs ws
 induction vs with
 | nil=>intro ds es a s;cases a;exact s
 | cons v vs ih=>intro ds es a s;cases a with | cons r t=>exact .cons r (ih t s)
theorem aD.take:∀{vs:List V} {ds:List D} (n:Nat),aD K ρ H vs ds->aD K ρ H (vs.take n) (ds.take n)
 | _,_,0,_=>.nil
 | _,_,_+1,.nil=>.nil
 | _,_,n+1,.cons r t=>.cons r (aD.take n t)
theorem aD.drop:∀{vs:List V} {ds:List D} (n:Nat),aD K ρ H vs ds->aD K ρ H (vs.drop n) (ds.drop n)
 | _,_,0,r=>r
 | _,_,_+1,.nil=>.nil
 | _,_,n+1,.cons _ t=>aD.drop n t
theorem aD.set(r:Rep K ρ H v d):∀{vs:List V} {ds:List D} (i:Nat),aD K ρ H vs ds->aD K ρ H (vs.set i v) (ds.set i d)
 | _,_,_,.nil=>.nil
 | _,_,0,.cons _ t=>.cons r t
 | _,_,i+1,.cons q t=>.cons q (aD.set r i t)
theorem aD.snoc(t:aD K ρ H vs ds)(r:Rep K ρ H v d):aD K ρ H (vs++[v]) (ds++[d]):=t.append (.cons r .nil)
theorem aD.dropLast:∀{vs:List V} {ds:List D},aD K ρ H vs ds->aD K ρ H vs.dropLast ds.dropLast:=by
 intro vs
 induction vs with
 | nil=>intro ds a;cases a;exact .nil
 | cons v vs ih=>intro ds a;cases a with | cons r t=>cases t with
  | nil=>exact .nil
  | cons q t=>exact .cons r (ih (.cons q t))
theorem aD.isEmpty(t:aD K ρ H vs ds):vs.isEmpty=ds.isEmpty:=by cases t <;> rfl
theorem TupAt.sq(h:TupAt K ρ H a vs):kG K H a vs:=by
 rcases h with⟨h,_⟩ | h
 ·exact .inl h
 ·rcases h with(h |⟨o,h⟩) | h
  ·cases h
  ·cases h
  ·exact .inr h
theorem KJ.sq(h:KJ K ρ H a vs):gM K H a vs:=by
 rcases h with⟨h,_⟩ | h
 ·exact .inl h
 ·rcases h with(h |⟨o,h⟩) | h
  ·cases h
  ·cases h
  ·exact .inr h
def AB(K:FR)(ρ:Ad)(H:Hp)(a:Addr):MO->Prop
 | .lst ds=>∃vs,H a=some (.lst vs)/\aD K ρ H vs ds
 | .dct kvs=>∃us,H a=some (.dK us)/\bD K ρ H us kvs
 | .dcH kvs=>∃us ps,H a=some (.Al (OI a us ps))/\aD K ρ H (us.map λu=>V.ref u.1) (kvs.map (·.1))/\aD K ρ H (us.map (·.2)) (kvs.map (·.2))/\oF (kvs.map (·.1))=some ps
 | .exc c=>∃C,JS K c=some (.ref C)/\H a=some (.Al λ_ h=>yd h a C)
structure bM(K:FR)(ρ:Ad)(h:MH)(H:Hp):Prop where
 len:ρ.ob.length=h.length
 nd:ρ.ob.Nodup
 at_:∀(n:Nat) a o,ρ.ob[n]?=some a->h[n]?=some o->AB K ρ H a o
 sH:∀b∈ρ.rs,(∃o,H b=some o)/\b∉ρ.ob
 tb:∀P,ij K P->¬ρ.has P/\H P=some .tb
theorem bM.HR{K:FR}{ρ ρ':Ad}{h:MH}{H H':Hp}(S:bM K ρ h H)(T:Ch ρ H ρ' H'):∀P,ij K P->¬ρ'.has P/\H' P=some .tb:=λP t=>T.old P _ (S.tb P t).1 (S.tb P t).2
theorem AB.has(x:AB K ρ H a o):∃u,H a=some u:=by
 cases o with
 | lst ds=>obtain⟨vs,e,_⟩:=x;exact⟨_,e⟩
 | dct ds=>obtain⟨vs,e,_⟩:=x;exact⟨_,e⟩
 | dcH ds=>obtain⟨vs,_,e,_⟩:=x;exact⟨_,e⟩
 | exc c=>obtain⟨_,_,e⟩:=x;exact⟨_,e⟩
theorem AB.mono(x:AB K ρ H a o)(T:Ch ρ H ρ' H')(e:H' a=H a):AB K ρ' H' a o:=by
 cases o with
 | lst ds=>obtain⟨vs,x,r⟩:=x;exact⟨vs,e.trans x,r.mono T⟩
 | dct ds=>obtain⟨vs,x,r⟩:=x;exact⟨vs,e.trans x,r.mono T⟩
 | dcH ds=>obtain⟨us,ps,x,r,r2,p⟩:=x;exact⟨us,ps,e.trans x,r.mono T,r2.mono T,p⟩
 | exc c=>obtain⟨C,g,x⟩:=x;exact⟨C,g,e.trans x⟩
theorem bM.mem(S:bM K ρ h H)(ha:a∈ρ.ob):∃(n:Nat)(o:MO),ρ.ob[n]?=some a/\h[n]?=some o/\AB K ρ H a o:=by
 obtain⟨n,hn,e⟩:=List.mem_iff_getElem.mp ha;have hn':n < h.length:=by rw[<-S.len];exact hn
 have e1:ρ.ob[n]?=some a:=by rw[PV hn,e]
 exact⟨n,h[n],e1,PV hn',S.at_ n a _ e1 (PV hn')⟩
theorem bM.has(S:bM K ρ h H)(ha:ρ.has a):∃u,H a=some u:=by
 rcases ha with ha | ha
 ·obtain⟨_,_,_,_,x⟩:=S.mem ha;exact x.has
 ·exact(S.sH a ha).1
theorem bM.fresh(S:bM K ρ h H)(hp:H p=none):¬ρ.has p:=λm=>by
 obtain⟨u,e⟩:=S.has m;rw[hp] at e;cases e
theorem df.laid(S:bM K ρ h H)(hp:H p=none):df ρ H ρ (upd H p o):=
 ⟨⟨λ_ _ e=>e,λb u n e=>⟨n,by rw[az (aN e hp)];exact e⟩⟩,rfl,λb hb=>by
  obtain⟨u,e⟩:=(S.sH b hb).1;rw[az (aN e hp)]⟩
theorem bM.same(S:bM K ρ h H)(T:df ρ H ρ H')(k:∀a∈ρ.ob,H' a=H a):bM K ρ h H':=
 ⟨S.len,S.nd,λn a o e1 e2=>(S.at_ n a o e1 e2).mono T.toCh (k a (Pr e1)),λb hb=>⟨by rw[T.res b hb];exact(S.sH b hb).1,(S.sH b hb).2⟩,S.HR T.toCh⟩
theorem bM.laid(S:bM K ρ h H)(hp:H p=none):bM K ρ h (upd H p o):=
 S.same (df.laid S hp) λa ha=>by
  obtain⟨u,e⟩:=S.has (.inl ha);rw[az (aN e hp)]
abbrev Ad.more(ρ:Ad)(p:Addr):Ad:=⟨ρ.ob++[p],ρ.rs⟩
theorem df.made(S:bM K ρ h H)(hp:H p=none):df ρ H (ρ.more p) (upd H p o):=by
 refine⟨⟨λn a e=>?_,λb u n e=>?_⟩,rfl,(df.laid S hp).res⟩
 ·show(ρ.ob++[p])[n]?=_;rw[PJ (Pq.mp e).1];exact e
 ·refine⟨λm=>?_,by rw[az (aN e hp)];exact e⟩;rcases m with m | m
  ·rcases PX.mp m with m | m
   ·exact n (.inl m)
   ·exact aN e hp (PD.mp m)
  ·exact n (.inr m)
theorem bM.made(S:bM K ρ h H)(hp:H p=none)(ho:AB K (ρ.more p) (upd H p u) p o):bM K (ρ.more p) (h++[o]) (upd H p u):=by
 refine⟨by simp[S.len],?_,λn a x e1 e2=>?_,λb hb=>?_,S.HR (df.made S hp).toCh⟩
 ·show(ρ.ob++[p]).Nodup;rw[Te];refine⟨S.nd,by simp,λa ha b hb z=>?_⟩;rw[PD.mp hb] at z;exact S.fresh hp (.inl (z ▸ ha))
 ·by_cases hn:n < ρ.ob.length
  ·have e1:(ρ.ob++[p])[n]?=some a:=e1;rw[PJ hn] at e1;rw[PJ (by rw[<-S.len];exact hn)] at e2;have q:=S.at_ n a x e1 e2;obtain⟨w,ew⟩:=q.has;exact q.mono (df.made S hp).toCh (az (aN ew hp))
  ·have l1:=(Pq.mp e1).1;simp at l1;have hn':n=ρ.ob.length:=by lia
   subst hn';have e1:(ρ.ob++[p])[ρ.ob.length]?=some a:=e1;rw[P0 (Pw _)] at e1;rw[P0 (by rw[S.len];exact Pw _)] at e2;simp at e1;rw[S.len] at e2;simp at e2;subst e1;subst e2;exact ho
 ·obtain⟨⟨v,e⟩,n⟩:=S.sH b hb;have z:=aN e hp;refine⟨⟨v,by rw[az z];exact e⟩,λm=>?_⟩;rcases PX.mp m with m | m
  ·exact n m
  ·exact z (PD.mp m)
theorem df.wrote(S:bM K ρ h H)(ha:a∈ρ.ob):df ρ H ρ (upd H a o):=
 ⟨⟨λ_ _ e=>e,λb u n e=>⟨n,by rw[az (λ(z:b=a)=>n (.inl (by rw[z];exact ha)))];exact e⟩⟩,rfl,λb hb=>az λ(z:b=a)=>(S.sH b hb).2 (by rw[z];exact ha)⟩
theorem bM.wrote(S:bM K ρ h H)(e:ρ.ob[n]?=some a)(ho:AB K ρ (upd H a u) a o):bM K ρ (h.set n o) (upd H a u):=by
 have ha:=Pr e;have T:df ρ H ρ (upd H a u):=df.wrote S ha;refine⟨by rw[QE];exact S.len,S.nd,λm b x e1 e2=>?_,λb hb=>⟨by rw[T.res b hb];exact(S.sH b hb).1,(S.sH b hb).2⟩,S.HR T.toCh⟩
 by_cases hm:n=m
 ·subst hm;have l2:n < h.length:=by rw[<-S.len];exact(Pq.mp e).1
  rw[e] at e1;cases e1;rw[Qf l2] at e2;cases e2;exact ho
 ·rw[Qo hm] at e2;have q:=S.at_ m b x e1 e2;have hb:b≠a:=by
   intro z;subst z;exact hm ((UD (Pq.mp e).1 S.nd).mp (e.trans e1.symm))
  exact q.mono T.toCh (az hb)
abbrev Ad.keep(ρ:Ad)(l:Addr):Ad:=⟨ρ.ob,l::ρ.rs⟩
theorem Ch.keep(hl:H l=none):Ch ρ H (ρ.keep l) (upd H l o):=by
 refine⟨λn a e=>e,λb u n e=>⟨λm=>?_,by rw[az (aN e hl)];exact e⟩⟩;rcases m with m | m
 ·exact n (.inl m)
 ·rcases PB.mp m with m | m
  ·exact aN e hl m
  ·exact n (.inr m)
theorem bM.keep(S:bM K ρ h H)(hl:H l=none):bM K (ρ.keep l) h (upd H l o):=by
 refine⟨S.len,S.nd,λn a x e1 e2=>?_,λb hb=>?_,S.HR (Ch.keep hl)⟩
 ·have q:=S.at_ n a x e1 e2;obtain⟨w,ew⟩:=q.has;exact q.mono (Ch.keep hl) (az (aN ew hl))
 ·rcases PB.mp hb with rfl | hb
  ·exact⟨⟨_,aR⟩,λm=>S.fresh hl (.inl m)⟩
  ·obtain⟨⟨v,e⟩,n⟩:=S.sH b hb;exact⟨⟨v,by rw[az (aN e hl)];exact e⟩,n⟩
theorem Ch.put(hl:l∈ρ.rs):Ch ρ H ρ (upd H l o):=⟨λn a e=>e,λb u n e=>⟨n,by rw[az (λ(z:b=l)=>n (.inr (by rw[z];exact hl)))];exact e⟩⟩
theorem bM.put(S:bM K ρ h H)(hl:l∈ρ.rs):bM K ρ h (upd H l o):=by
 refine⟨S.len,S.nd,λn a x e1 e2=>(S.at_ n a x e1 e2).mono (Ch.put hl) (az λ(z:a=l)=>(S.sH l hl).2 (by rw[<-z];exact Pr e1)),λb hb=>⟨?_,(S.sH b hb).2⟩,S.HR (Ch.put hl)⟩
 by_cases z:b=l
 ·subst z;exact⟨_,aR⟩
 ·rw[az z];exact(S.sH b hb).1
theorem Ch.free{os rs rs':List Addr}{H:Hp}(hs:∀b∈rs',b∈rs):Ch ⟨os,rs⟩ H ⟨os,rs'⟩ H:=⟨λn a e=>e,λb u n e=>⟨λm=>n (m.elim .inl λm=>.inr (hs b m)),e⟩⟩
theorem bM.free{os rs rs':List Addr}{H:Hp}(S:bM K ⟨os,rs⟩ h H)(hs:∀b∈rs',b∈rs):bM K ⟨os,rs'⟩ h H:=
 ⟨S.len,S.nd,λn a x e1 e2=>(S.at_ n a x e1 e2).mono (Ch.free hs) rfl,λb hb=>S.sH b (hs b hb),S.HR (Ch.free hs)⟩
structure cI(K:FR)(ρ:Ad)(H:Hp)(σ:St)(δ:DS):Prop where
 len:σ.length=δ.length
 at_:∀(i:Nat) d,δ[i]?=some (some d)->∃v,σ[i]?=some (some v)/\Rep K ρ H v d
theorem cI.mono(R:cI K ρ H σ δ)(S:Ch ρ H ρ' H'):cI K ρ' H' σ δ:=⟨R.len,λi d e=>let⟨v,a,b⟩:=R.at_ i d e;⟨v,a,b.mono S⟩⟩
theorem cI.set(R:cI K ρ H σ δ)(r:Rep K ρ H v d)(i:Nat):cI K ρ H (σ.set i (some v)) (δ.set i (some d)):=by
 refine⟨by rw[QE,QE];exact R.len,λj e he=>?_⟩
 by_cases hij:i=j
 ·subst hij;have hl:i < δ.length:=by
   have:=(Pq.mp he).1;rw[QE] at this;exact this
  rw[Qf hl] at he;cases he;exact⟨v,by rw[Qf (by rw[R.len];exact hl)],r⟩
 ·rw[Qo hij] at he ⊢;exact R.at_ j e he
abbrev EM:=DS->MH->Option (D×MH)
abbrev TM:=DS->MH->Option (Bool×MH)
abbrev AM:=DS->MH->Option (List D×MH)
inductive Fl where
 | nx | bk | ct | rt (d:D)
abbrev SM:=DS->MH->Option (Fl×DS×MH)
abbrev GM:=D->DS->MH->Option (DS×MH)
abbrev Fn:=List D->MH->Option (D×MH)
inductive HC(K:FR)(ρ:Ad)(H:Hp)(h':MH)(d:D)(v:V)(H':Hp):Prop where
 | mk (ρ'):df ρ H ρ' H'->bM K ρ' h' H'->Rep K ρ' H' v d->HC K ρ H h' d v H'
noncomputable def dm(K:FR)(ρ:Ad)(H:Hp)(h':MH)(d:D):VK:=λv H'=>HC K ρ H h' d v H'
inductive OU(K:FR)(m:EM)(σ:L2.St)(H:Hp)(Q:VK):Prop where
 | mk (ρ δ h d h'):cI K ρ H σ δ->bM K ρ h H->(m δ h=some (d,h'))->(∀v H',dm K ρ H h' d v H'->Q v H')->OU K m σ H Q
def tM(K:FR)(m:EM):TE:=λσ H Q=>OU K m σ H Q
inductive ML(K:FR)(m:TM)(σ:L2.St)(H:Hp)(Q:Bool->Hp->Prop):Prop where
 | mk (ρ δ h b h'):cI K ρ H σ δ->bM K ρ h H->(m δ h=some (b,h'))->(∀ρ' H',df ρ H ρ' H'->bM K ρ' h' H'->Q b H')->ML K m σ H Q
def HV(K:FR)(m:TM):TT:=λσ H Q=>ML K m σ H Q
inductive MR(K:FR)(m:AM)(σ:L2.St)(H:Hp)(Q:List V->Hp->Prop):Prop where
 | mk (ρ δ h ds h'):cI K ρ H σ δ->bM K ρ h H->(m δ h=some (ds,h'))->(∀vs ρ' H',df ρ H ρ' H'->bM K ρ' h' H'->aD K ρ' H' vs ds->Q vs H')->MR K m σ H Q
def ON(K:FR)(m:AM):TA:=λσ H Q=>MR K m σ H Q
inductive MM(K:FR)(m:SM)(E:Ends)(σ:L2.St)(H:Hp):Prop where
 | mk (ρ δ h fl δ' h'):cI K ρ H σ δ->bM K ρ h H->(m δ h=some (fl,δ',h'))->(∀ρ' H',df ρ H ρ' H'->bM K ρ' h' H'->
 match fl with
 | .nx=>∀σ',cI K ρ' H' σ' δ'->E.nx σ' H'
 | .bk=>∀σ',cI K ρ' H' σ' δ'->E.bk σ' H'
 | .ct=>∀σ',cI K ρ' H' σ' δ'->E.ct σ' H'
 | .rt d=>∀v,Rep K ρ' H' v d->E.rt v H')->MM K m E σ H
def G7(K:FR)(m:SM):TS:=λE σ H=>MM K m E σ H
inductive MQ(K:FR)(m:GM)(v:V)(σ:L2.St)(H:Hp)(Q:L2.St->Hp->Prop):Prop where
 | mk (ρ δ h d δ' h'):cI K ρ H σ δ->bM K ρ h H->Rep K ρ H v d->(m d δ h=some (δ',h'))->(∀ρ' H' σ',df ρ H ρ' H'->bM K ρ' h' H'->cI K ρ' H' σ' δ'->Q σ' H')->MQ K m v σ H Q
def Lh(K:FR)(m:GM):TG:=λv σ H Q=>MQ K m v σ H Q
def SE(X:Cx)(e:Expr)(m:EM):Prop:=PE X e (tM X.K m)
def ST(X:Cx)(e:Expr)(m:TM):Prop:=PT X e (HV X.K m)
def SW(X:Cx)(e:Expr)(m:TM):Prop:=PW X e (HV X.K m)
def SA(X:Cx)(es:List Expr)(m:AM):Prop:=PA X es (ON X.K m)
def SS(X:Cx)(s:Stmt)(m:SM):Prop:=PS X s (G7 X.K m)
def BZ(X:Cx)(s:List Stmt)(m:SM):Prop:=wG X s (G7 X.K m)
def SG(X:Cx)(e:Expr)(m:GM):Prop:=PG X e (Lh X.K m)
theorem _root_.L2.PE.imp(h:PE X e t)(i:∀σ H Q,t' σ H Q->t σ H Q):PE X e t':=λpins s σ H Q I q=>h pins s σ H Q I (i σ H Q q)
theorem _root_.L2.PT.imp(h:PT X e t)(i:∀σ H Q,t' σ H Q->t σ H Q):PT X e t':=λpins s σ H Q I q=>h pins s σ H Q I (i σ H Q q)
theorem _root_.L2.PW.imp(h:PW X e t)(i:∀σ H Q,t' σ H Q->t σ H Q):PW X e t':=λwh pins s σ H Q I q=>h wh pins s σ H Q I (i σ H Q q)
theorem _root_.L2.PA.imp(h:PA X e t)(i:∀σ H Q,t' σ H Q->t σ H Q):PA X e t':=λpos pins s σ H Q I q=>h pos pins s σ H Q I (i σ H Q q)
theorem _root_.L2.PS.imp(h:PS X e t)(i:∀E σ H,t' E σ H->t E σ H):PS X e t':=λpins s σ H E I q=>h pins s σ H E I (i E σ H q)
theorem _root_.L2.wG.imp(h:wG X e t)(i:∀E σ H,t' E σ H->t E σ H):wG X e t':=λpins s σ H E I q=>h pins s σ H E I (i E σ H q)
theorem _root_.L2.PG.imp(h:PG X e t)(i:∀v σ H Q,t' v σ H Q->t v σ H Q):PG X e t':=λpins s σ H v u Q I r q=>h pins s σ H v u Q I r (i v σ H Q q)
theorem bE(h:o.bind f=some b):∃a,o=some a/\f a=some b:=RE.mp h
theorem gv(h:o.map f=some b):∃a,o=some a/\f a=b:=P5.mp h
theorem ET{x:D}{α:Type}{g:Bool->Option α}{z:α}(e:(match x with | .bl c=>g c | _=>none)=some z):∃c,x=.bl c/\g c=some z:=by
 cases x <;> first | exact absurd e (by intro z;cases z) | exact⟨_,rfl,e⟩
theorem dm.here(S:bM K ρ h H)(r:Rep K ρ H v d):dm K ρ H h d v H:=⟨ρ,.refl _ _,S,r⟩
theorem dm.step(T:df ρ H ρ1 H1)(p:dm K ρ1 H1 h' d v H'):dm K ρ H h' d v H':=let⟨ρ2,T2,S2,r2⟩:=p;⟨ρ2,T.trans T2,S2,r2⟩
theorem dm.tup(S:bM K ρ h H)(r:aD K ρ H vs ds)(hp:H p=none):dm K ρ H h (.tup ds) (.ref p) (upd H p (.tup vs)):=
 ⟨ρ,df.laid S hp,S.laid hp,.tup (.inl ⟨.inl aR,S.fresh hp⟩) (r.mono (df.laid S hp).toCh)⟩
theorem dm.lv(S:bM K ρ h H)(r:aD K ρ H vs ds)(hp:H p=none):dm K ρ H h (.lv ds) (.ref p) (upd H p (.lst vs)):=
 ⟨ρ,df.laid S hp,S.laid hp,.lv aR (S.fresh hp) (r.mono (df.laid S hp).toCh)⟩
theorem dm.dv(S:bM K ρ h H)(r:bD K ρ H us ds)(hp:H p=none):dm K ρ H h (.dv ds) (.ref p) (upd H p (.dK us)):=
 ⟨ρ,df.laid S hp,S.laid hp,.dv aR (S.fresh hp) (r.mono (df.laid S hp).toCh)⟩
noncomputable def ay(i:Nat):EM:=λδ h=>(δ[i]?).join.map λd=>(d,h)
noncomputable def eK(d:D):EM:=λ_ h=>some (d,h)
noncomputable def ak(f:D->D->MH->Option (D×MH))(a b:EM):EM:=λδ h=>(a δ h).bind λp=>(b δ p.2).bind λq=>f p.1 q.1 q.2
noncomputable def vY(f:D->MH->Option (D×MH))(a:EM):EM:=λδ h=>(a δ h).bind λp=>f p.1 p.2
noncomputable def aM:AM:=λ_ h=>some ([],h)
noncomputable def ag(a:EM)(r:AM):AM:=λδ h=>(a δ h).bind λp=>(r δ p.2).bind λq=>some (p.1::q.1,q.2)
noncomputable def aw(f:Fn)(a:AM):EM:=λδ h=>(a δ h).bind λp=>f p.1 p.2
noncomputable def Ol(t:TM)(a b:EM):EM:=λδ h=>(t δ h).bind λp=>if p.1 then a δ p.2 else b δ p.2
noncomputable def aE(a:EM):TM:=λδ h=>(a δ h).bind λp=>match p.1 with
 | .bl b=>some (b,p.2)
 | _=>none
noncomputable def pE(t:TM):TM:=λδ h=>(t δ h).map λp=>(!p.1,p.2)
noncomputable def pF(a b:TM):TM:=λδ h=>(a δ h).bind λp=>if p.1 then b δ p.2 else some (false,p.2)
noncomputable def Ft(a b:TM):TM:=λδ h=>(a δ h).bind λp=>if p.1 then some (true,p.2) else b δ p.2
noncomputable def Kd(a b:EM):EM:=λδ h=>(a δ h).bind λp=>match p.1 with
 | .bl c=>if c then b δ p.2 else some (.bl false,p.2)
 | _=>none
noncomputable def aJ:Fn:=λds h=>some (.tup ds,h)
inductive OX(K:FR)(f:D->D->MH->Option (D×MH))(x y:V)(H:Hp)(Q:VK):Prop where
 | mk (ρ h d e z h'):bM K ρ h H->Rep K ρ H x d->Rep K ρ H y e->(f d e h=some (z,h'))->(∀v H',dm K ρ H h' z v H'->Q v H')->OX K f x y H Q
def rS(K:FR)(f:D->D->MH->Option (D×MH)):R2:=λx y H Q=>OX K f x y H Q
def oh(X:Cx)(g:Value->Value->Sem Value)(f:D->D->MH->Option (D×MH)):Prop:=oj X g (rS X.K f)
inductive OW(K:FR)(f:D->MH->Option (D×MH))(x:V)(H:Hp)(Q:VK):Prop where
 | mk (ρ h d z h'):bM K ρ h H->Rep K ρ H x d->(f d h=some (z,h'))->(∀v H',dm K ρ H h' z v H'->Q v H')->OW K f x H Q
def rU(K:FR)(f:D->MH->Option (D×MH)):V->Hp->VK->Prop:=λx H Q=>OW K f x H Q
inductive OZ(K:FR)(f:Fn)(vs:List V)(H:Hp)(Q:VK):Prop where
 | mk (ρ h ds z h'):bM K ρ h H->aD K ρ H vs ds->(f ds h=some (z,h'))->(∀v H',dm K ρ H h' z v H'->Q v H')->OZ K f vs H Q
def rF(K:FR)(f:Fn):List V->Hp->VK->Prop:=λvs H Q=>OZ K f vs H Q
def ir(X:Cx)(g:Value)(f:Fn):Prop:=gd X g (rF X.K f)
section
variable {X:Cx} {a b c e:Expr} {es:List Expr} {pos:Pos} {ma mb mc:EM} {mt mu:TM} {m:AM} {f:D->D->MH->Option (D×MH)}
theorem Ii(hN:X.N[i]?=some x)(hv:KA X.env.scope x)(hd:(x==("__debug__":Str))=false:=by ac_nf)(hcd:(x==("__classdict__":Str))=false:=by ac_nf):SE X (.Name x pos) (ay i):=
 (DA hN hv hd hcd).imp λσ H Q ⟨ρ,δ,h,d,h',R,S,e,k⟩=>by
  obtain⟨d',e1,e2⟩:=gv e;cases e2;obtain⟨v,ev,r⟩:=R.at_ i _ (TU.mp e1);exact⟨v,ev,k v H (.here S r)⟩
theorem CZ(hp:PE X e (tC v))(hr:∀ρ H,Rep X.K ρ H v d):SE X e (eK d):=hp.imp λσ H Q ⟨ρ,δ,h,d',h',R,S,ee,k⟩=>by
 cases ee;exact k v H (.here S (hr _ _))
theorem aF{i j}:SE X (.Constant (.int i) j pos) (eK (.int i)):=CZ Ja λ_ _=>.int i
theorem Ha{b j}:SE X (.Constant (.bool b) j pos) (eK (.bl b)):=CZ LQ λ_ _=>.bl b
theorem CT{j}:SE X (.Constant .none j pos) (eK .cj):=CZ DC λ_ _=>.cj
theorem a8{x j}(h:PyData.strOk x=true:=by decide+kernel):SE X (.Constant (.str x) j pos) (eK (.str x)):=CZ IY λ_ _=>.str h
theorem FE(hg:Gl X x)(hm:X.mg x=some u)(r:RelV v u)(hr:∀ρ H,Rep X.K ρ H v d)(hd:(x==("__debug__":Str))=false:=by ac_nf):SE X (.Name x pos) (eK d):=
 CZ (zO hg hm r hd) hr
theorem zJ(h:tM X.K (ak f ma mb) σ H Q):Lf (rS X.K f) (tM X.K ma) (tM X.K mb) σ H Q:=by
 obtain⟨ρ,δ,h,d,h',R,S,e,k⟩:=h;obtain⟨⟨x,h1⟩,e1,e⟩:=bE e;obtain⟨⟨y,h2⟩,e2,e3⟩:=bE e;refine⟨ρ,δ,h,x,h1,R,S,e1,λv H1 ⟨ρ1,T1,S1,r1⟩=>?_⟩;refine⟨ρ1,δ,h1,y,h2,R.mono T1,S1,e2,λu H2 ⟨ρ2,T2,S2,r2⟩=>?_⟩;exact⟨ρ2,h2,x,y,d,h',S2,r1.mono T2,r2,e3,λw H3 p=>k w H3 (p.step (T1.trans T2))⟩
theorem aU(ho:oh X (binaryOp op) f)(ha:SE X a ma)(hb:SE X b mb):SE X (.BinOp a op b pos) (ak f ma mb):=(Hj ho ha hb).imp λ_ _ _=>zJ
theorem Il(ho:oh X (compareOp op) f)(ha:SE X a ma)(hb:SE X b mb)(hm:behindInMarks op b=false):SE X (.Compare a [op] [b] pos) (ak f ma mb):=(F9 ho ha hb hm).imp λ_ _ _=>zJ
theorem iy{op:CmpOp}(ho:oh X (compareOp op) f)(ha:SE X a ma)(hb:SE X b mb)(hm:behindInMarks op b=false):ST X (.Compare a [op] [b] pos) (aE (ak f ma mb)):=
 (FU ho ha hb hm).imp λσ H Q ⟨ρ,δ,h,c,h',R,S,e,k⟩=>by
  obtain⟨⟨x,h1⟩,e1,e2⟩:=bE e;obtain⟨c',rfl,e2⟩:=ET e2;cases e2;refine zJ ⟨ρ,δ,h,.bl c,h1,R,S,e1,λv H' ⟨ρ',T,S',r⟩=>?_⟩;cases r;exact⟨c,rfl,k ρ' H' T S'⟩
theorem zE{op:UnaryOp}{f:D->MH->Option (D×MH)}(ho:MF X (unaryOp op) (rU X.K f))(ha:SE X a ma):SE X (.UnaryOp op a pos) (vY f ma):=(LN ho ha).imp λσ H Q ⟨ρ,δ,h,d,h',R,S,e,k⟩=>by
 obtain⟨⟨x,h1⟩,e1,e⟩:=bE e;exact⟨ρ,δ,h,x,h1,R,S,e1,λv H1 ⟨ρ1,T1,S1,r1⟩=>⟨ρ1,h1,x,d,h',S1,r1,e,λw H3 p=>k w H3 (p.step T1)⟩⟩
theorem aq:SA X [] aM:=DG.imp λσ H Q ⟨ρ,δ,h,d,h',R,S,e,k⟩=>by
 cases e;exact k [] ρ H (.refl _ _) S .nil
theorem aa(ha:SE X e ma)(hr:SA X es m)(hs:starEach (e::es) X.env=(false,eval e X.env)::starEach es X.env:=by ac_nf):SA X (e::es) (ag ma m):=
 (vy ha hr hs).imp λσ H Q ⟨ρ,δ,h,d,h',R,S,e,k⟩=>by
  obtain⟨⟨x,h1⟩,e1,e⟩:=bE e;obtain⟨⟨ys,h2⟩,e2,e3⟩:=bE e;cases e3;refine⟨ρ,δ,h,x,h1,R,S,e1,λv H1 ⟨ρ1,T1,S1,r1⟩=>?_⟩;exact⟨ρ1,δ,h1,ys,h2,R.mono T1,S1,e2,λvs ρ2 H2 T2 S2 rs=>k _ ρ2 H2 (T1.trans T2) S2 (.cons (r1.mono T2) rs)⟩
def kg(m:AM)(n:Nat):Prop:=∀δ h ds h',m δ h=some (ds,h')->ds.length=n
theorem aA:kg aM 0:=λδ h ds h' e=>by cases e;rfl
theorem af(hr:kg m n):kg (ag ma m) (n+1):=λδ h ds h' e=>by
 obtain⟨⟨x,h1⟩,e1,e⟩:=bE e;obtain⟨⟨ys,h2⟩,e2,e3⟩:=bE e;cases e3;rw[PK,hr _ _ _ _ e2]
theorem b7{x1}(h:SA X es m)(hl:kg m n)(hn:n<=sizeLine:=by decide):SE X (.Tuple es x1 pos) (aw aJ m):=(IW h).imp λσ H Q ⟨ρ,δ,h,d,h',R,S,e,k⟩=>by
 obtain⟨⟨x,h1⟩,e1,e⟩:=bE e;cases e;refine⟨ρ,δ,h,x,h1,R,S,e1,λvs ρ1 H1 T1 S1 r1=>⟨by rw[r1.length,hl _ _ _ _ e1];exact hn,λp hp=>k _ _ (dm.step T1 (.tup S1 r1 hp))⟩⟩
inductive MS(K:FR)(m:AM)(σ:L2.St)(H:Hp)(Q:VK):Prop where
 | mk (ρ δ h ds h'):cI K ρ H σ δ->bM K ρ h H->(m δ h=some (ds,h'))->(∀ρ1 H1 p vs,df ρ H ρ1 H1->bM K ρ1 h' H1->H1 p=none->aD K ρ1 H1 vs ds->Q (.ref p) (upd H1 p (.lst vs)))->MS K m σ H Q
def Pe(K:FR)(m:AM):TE:=λσ H Q=>MS K m σ H Q
def lu(X:Cx)(e:Expr)(m:AM):Prop:=PE X e (Pe X.K m)
noncomputable def fB(m:AM):EM:=λδ h=>(m δ h).map λp=>(.lv p.1,p.2)
noncomputable def yb(m:AM):EM:=λδ h=>(m δ h).map λp=>(.ob p.2.length,p.2++[.lst p.1])
theorem dm.ob(S:bM K ρ h H)(r:aD K ρ H vs ds)(hp:H p=none):dm K ρ H (h++[.lst ds]) (.ob h.length) (.ref p) (upd H p (.lst vs)):=
 ⟨ρ.more p,df.made S hp,S.made hp ⟨vs,aR,r.mono (df.made S hp).toCh⟩,.ob (show(ρ.ob++[p])[h.length]?=_ by rw[<-S.len,P0 (Pw _)];simp)⟩
theorem lu.lv(h:lu X e m):SE X e (fB m):=h.imp λσ H Q ⟨ρ,δ,h,d,h',R,S,e,k⟩=>by
 obtain⟨⟨ds,h1⟩,e1,e2⟩:=gv e;cases e2;exact⟨ρ,δ,h,ds,h1,R,S,e1,λρ1 H1 p vs T S1 hp r=>k _ _ (dm.step T (.lv S1 r hp))⟩
theorem lu.ob(h:lu X e m):SE X e (yb m):=h.imp λσ H Q ⟨ρ,δ,h,d,h',R,S,e,k⟩=>by
 obtain⟨⟨ds,h1⟩,e1,e2⟩:=gv e;cases e2;exact⟨ρ,δ,h,ds,h1,R,S,e1,λρ1 H1 p vs T S1 hp r=>k _ _ (dm.step T (.ob S1 r hp))⟩
theorem dE(h:SA X es m)(hl:kg m n)(hn:n<=sizeLine:=by decide):lu X (.List es pos) m:=(I9 h).imp λσ H Q ⟨ρ,δ,h,ds,h',R,S,e,k⟩=>
 ⟨ρ,δ,h,ds,h',R,S,e,λvs ρ1 H1 T1 S1 r1=>⟨by rw[r1.length,hl _ _ _ _ e];exact hn,λp hp=>k ρ1 H1 p vs T1 S1 hp r1⟩⟩
noncomputable def Pk:EM:=λ_ h=>some (.dv [],h)
theorem Lz:SE X (.Dict [] [] pos) Pk:=DF.imp λσ H Q ⟨ρ,δ,h,d,h',R,S,e,k⟩ p hp=>by
 cases e;exact k _ _ (.dv S .nil hp)
theorem FN{σ:St}{H:Hp}{Q:Bool->Hp->Prop}(h:HV X.K (aE ma) σ H Q):tM X.K ma σ H λx H1=>∃c,x=.bl c/\Q c H1:=by
 obtain⟨ρ,δ,h,c,h',R,S,e,k⟩:=h;obtain⟨⟨x,h1⟩,e1,e2⟩:=bE e;obtain⟨c',rfl,e2⟩:=ET e2;cases e2;refine⟨ρ,δ,h,.bl c,h1,R,S,e1,λv H' ⟨ρ',T,S',r⟩=>?_⟩;cases r;exact⟨c,rfl,k ρ' H' T S'⟩
theorem qt(h:ST X a mt):ST X (.UnaryOp .Not a pos) (pE mt):=(IP h).imp λσ H Q ⟨ρ,δ,h,c,h',R,S,e,k⟩=>by
 obtain⟨⟨x,h1⟩,e1,e2⟩:=gv e;cases e2;exact⟨ρ,δ,h,x,h1,R,S,e1,λρ' H' T S'=>k ρ' H' T S'⟩
theorem zy(h:ST X a mt):SW X (.BoolOp .And [a] pos) mt:=FT h
theorem CA(h:ST X a mt):SW X (.BoolOp .Or [a] pos) mt:=IJ h
theorem CB{rest:List Expr}(ha:ST X a mt)(hb:SW X (.BoolOp .And (b::rest) pos) mu):SW X (.BoolOp .And (a::b::rest) pos) (pF mt mu):=(IK ha hb).imp λσ H Q ⟨ρ,δ,h,c,h',R,S,e,k⟩=>by
 obtain⟨⟨x,h1⟩,e1,e2⟩:=bE e;refine⟨ρ,δ,h,x,h1,R,S,e1,λρ' H' T S'=>?_⟩;cases x with
 | true=>rw[Py rfl] at e2 ⊢;exact⟨ρ',δ,h1,c,h',R.mono T,S',e2,λρ2 H2 T2 S2=>k ρ2 H2 (T.trans T2) S2⟩
 | false=>rw[PH (by simp)] at e2 ⊢;cases e2;exact k ρ' H' T S'
theorem G8{rest:List Expr}(ha:ST X a mt)(hb:SW X (.BoolOp .Or (b::rest) pos) mu):SW X (.BoolOp .Or (a::b::rest) pos) (Ft mt mu):=(LM ha hb).imp λσ H Q ⟨ρ,δ,h,c,h',R,S,e,k⟩=>by
 obtain⟨⟨x,h1⟩,e1,e2⟩:=bE e;refine⟨ρ,δ,h,x,h1,R,S,e1,λρ' H' T S'=>?_⟩;cases x with
 | false=>rw[PH (by simp)] at e2 ⊢;exact⟨ρ',δ,h1,c,h',R.mono T,S',e2,λρ2 H2 T2 S2=>k ρ2 H2 (T.trans T2) S2⟩
 | true=>rw[Py rfl] at e2 ⊢;cases e2;exact k ρ' H' T S'
theorem SW.st(h:SW X a mt):ST X a mt:=PW.pt h
theorem CQ{op}(h:SE X a ma):SE X (.BoolOp op [a] pos) ma:=I0 h
theorem Im{rest:List Expr}(ha:SE X a ma)(hb:SE X (.BoolOp .And (b::rest) pos) mb):SE X (.BoolOp .And (a::b::rest) pos) (Kd ma mb):=(Jc ha hb).imp λσ H Q ⟨ρ,δ,h,d,h',R,S,e,k⟩=>by
 obtain⟨⟨x,h1⟩,e1,e2⟩:=bE e;obtain⟨c,rfl,e2⟩:=ET e2;refine⟨ρ,δ,h,.bl c,h1,R,S,e1,λv H' ⟨ρ',T,S',r⟩=>?_⟩;cases r;refine⟨c,rfl,?_⟩;cases c with
 | true=>rw[Py rfl] at e2 ⊢;exact⟨ρ',δ,h1,d,h',R.mono T,S',e2,λv H2 p=>k v H2 (p.step T)⟩
 | false=>rw[PH (by simp)] at e2 ⊢;cases e2;exact k _ _ ⟨ρ',T,S',.bl _⟩
theorem Ly(hc:ST X c mt)(ha:SE X a ma)(hb:SE X b mb):SE X (.IfExp c a b pos) (Ol mt ma mb):=(DE hc ha hb).imp λσ H Q ⟨ρ,δ,h,d,h',R,S,e,k⟩=>by
 obtain⟨⟨x,h1⟩,e1,e2⟩:=bE e;refine⟨ρ,δ,h,x,h1,R,S,e1,λρ' H' T S'=>?_⟩;cases x with
 | true=>rw[Py rfl] at e2 ⊢;exact⟨ρ',δ,h1,d,h',R.mono T,S',e2,λv H2 p=>k v H2 (p.step T)⟩
 | false=>rw[PH (by simp)] at e2 ⊢;exact⟨ρ',δ,h1,d,h',R.mono T,S',e2,λv H2 p=>k v H2 (p.step T)⟩
noncomputable def yk(d:D)(h:MH):Option Bool:=match d with
 | .cj=>some false
 | .bl b=>some b
 | .int i=>some (i !=0)
 | .str x=>if x.length<=sizeLine then some ((x.length:Int) !=0) else none
 | .tup xs=>some (!xs.isEmpty)
 | .dv kvs=>some (!kvs.isEmpty)
 | .ob n=>match h[n]? with
  | some (.lst xs)=>some (!xs.isEmpty)
  | some (.dct kvs)=>some (!kvs.isEmpty)
  | _=>none
 | .lv xs=>some (!xs.isEmpty)
 | .ro xs=>some (!xs.isEmpty)
 | .ty _=>none
noncomputable def uO(a:EM):TM:=λδ h=>(a δ h).bind λp=>(yk p.1 p.2).map λc=>(c,p.2)
theorem bD.isEmpty(t:bD K ρ H us ds):us.isEmpty=ds.isEmpty:=by cases t <;> rfl
theorem zw{K:FR}{ρ:Ad}{H:Hp}{h:MH}{v:V}{d:D}{c:Bool}(S:bM K ρ h H)(r:Rep K ρ H v d)(e:yk d h=some c):G0 K v H c:=by
 cases r with
 | cj=>cases e;exact rfl
 | bl b=>cases e;exact rfl
 | int i=>cases e;exact rfl
 | str hs=>
  unfold yk at e
  by_cases z:‹Str›.length<=sizeLine
  ·simp only[Py z] at e;cases e;exact⟨z,rfl⟩
  ·simp only[PH z] at e;cases e
 | ty n=>exact bU e
 | tup ht l=>cases e;exact .inr (.inl ⟨_,ht.sq,by rw[l.isEmpty]⟩)
 | lv ht n l=>cases e;exact .inl ⟨_,gM.of ht,by rw[l.isEmpty]⟩
 | ro ht l=>cases e;exact .inl ⟨_,ht.sq,by rw[l.isEmpty]⟩
 | dv ht n l=>cases e;exact .inr (.inr ⟨_,ht,by rw[l.isEmpty]⟩)
 | ob hn=>
  unfold yk at e;rename_i a n;cases q:h[n]? with
  | none=>simp only[q] at e;cases e
  | some o=>
   have x:=S.at_ n a o hn q;cases o with
   | lst ds=>simp only[q] at e;cases e;obtain⟨vs,e1,l⟩:=x;exact .inl ⟨_,gM.of e1,by rw[l.isEmpty]⟩
   | dct ds=>simp only[q] at e;cases e;obtain⟨vs,e1,l⟩:=x;exact .inr (.inr ⟨_,e1,by rw[l.isEmpty]⟩)
   | dcH ds=>simp only[q] at e;cases e
   | exc c=>simp only[q] at e;cases e
theorem yo(ha:SE X a ma)(he:∀whole,isTrue a X.env whole=(do let v<-whole;standAt a.pos;holding [v] (truthy v)):=by intro _;ac_nf):ST X a (uO ma):=(Dq ha he).imp λσ H Q ⟨ρ,δ,h,c,h',R,S,e,k⟩=>by
 obtain⟨⟨x,h1⟩,e1,e2⟩:=bE e;obtain⟨c',e3,e4⟩:=gv e2;cases e4;exact⟨ρ,δ,h,x,h1,R,S,e1,λv H' ⟨ρ',T,S',r⟩=>⟨c,zw S' r e3,k ρ' H' T S'⟩⟩
end
mutual
noncomputable def GY:D->D->Bool
 | .cj,.cj=>true
 | .bl a,.bl b=>a==b
 | .int a,.int b=>a==b
 | .str a,.str b=>decide (a=b)
 | .ty a,.ty b=>a==b
 | .tup a,.tup b=>wy a b
 | .lv a,.lv b=>wy a b
 | .ro a,.ro b=>wy a b
 | .dv a,.dv b=>EV a b
 | .ob a,.ob b=>a==b
 | _,_=>false
noncomputable def wy:List D->List D->Bool
 | [],[]=>true
 | a::r,b::s=>GY a b&&wy r s
 | _,_=>false
noncomputable def EV:List (Key×D)->List (Key×D)->Bool
 | [],[]=>true
 |(k,a)::r,(j,b)::s=>decide (k=j)&&GY a b&&EV r s
 | _,_=>false
end
mutual
theorem Ay:∀(a b:D),GY a b=true->a=b
 | .cj,b,h=>by cases b <;> first | rfl |(cases h;done)
 | .bl x,b,h=>by cases b <;> first | exact congrArg _ (eq_of_beq h) |(cases h;done)
 | .int x,b,h=>by cases b <;> first | exact congrArg _ (eq_of_beq h) |(cases h;done)
 | .str x,b,h=>by cases b <;> first | exact congrArg _ (Qy h) |(cases h;done)
 | .ty x,b,h=>by cases b <;> first | exact congrArg _ (eq_of_beq h) |(cases h;done)
 | .ob x,b,h=>by cases b <;> first | exact congrArg _ (eq_of_beq h) |(cases h;done)
 | .tup x,b,h=>by cases b <;> first | exact congrArg _ (iS _ _ h) |(cases h;done)
 | .lv x,b,h=>by cases b <;> first | exact congrArg _ (iS _ _ h) |(cases h;done)
 | .ro x,b,h=>by cases b <;> first | exact congrArg _ (iS _ _ h) |(cases h;done)
 | .dv x,b,h=>by cases b <;> first | exact congrArg _ (wz _ _ h) |(cases h;done)
theorem iS:∀(a b:List D),wy a b=true->a=b
 | [],b,h=>by cases b <;> first | rfl |(cases h;done)
 | x::r,b,h=>by
  cases b with
  | nil=>cases h
  | cons y s=>have h:=P1.mp h;rw[Ay _ _ h.1,iS _ _ h.2]
theorem wz:∀(a b:List (Key×D)),EV a b=true->a=b
 | [],b,h=>by cases b <;> first | rfl |(cases h;done)
 |(k,x)::r,b,h=>by
  cases b with
  | nil=>cases h
  | cons y s=>
   obtain⟨j,y⟩:=y;have h:=P1.mp h;have g:=P1.mp h.1;rw[Qy g.1,Ay _ _ g.2,wz _ _ h.2]
end
mutual
theorem uF:∀(a:D),GY a a=true
 | .cj=>rfl
 | .bl x=>Qs x
 | .int x=>Qs x
 | .str x=>Qb rfl
 | .ty x=>Qs x
 | .ob x=>Qs x
 | .tup x=>eS x
 | .lv x=>eS x
 | .ro x=>eS x
 | .dv x=>n5 x
theorem eS:∀(a:List D),wy a a=true
 | []=>rfl
 | x::r=>P1.mpr ⟨uF x,eS r⟩
theorem n5:∀(a:List (Key×D)),EV a a=true
 | []=>rfl
 |(k,x)::r=>P1.mpr ⟨P1.mpr ⟨Qb rfl,uF x⟩,n5 r⟩
end
noncomputable def EU:MO->MO->Bool
 | .lst a,.lst b=>wy a b
 | .dct a,.dct b=>EV a b
 | .dcH a,.dcH b=>wy (a.map (·.1)) (b.map (·.1))&&wy (a.map (·.2)) (b.map (·.2))
 | .exc a,.exc b=>decide (a=b)
 | _,_=>false
theorem xl:∀{a b:List (D×D)},a.map (·.1)=b.map (·.1)->a.map (·.2)=b.map (·.2)->a=b
 | [],[],_,_=>rfl
 | [],_::_,h,_=>by cases h
 | _::_,[],h,_=>by cases h
 |(x,y)::a,(u,v)::b,h,g=>by
  obtain⟨h1,h2⟩:=List.cons.inj h;obtain⟨g1,g2⟩:=List.cons.inj g;dsimp only at h1 g1;rw[h1,g1,xl h2 g2]
theorem Aw(h:EU a b=true):a=b:=by
 cases a <;> cases b <;> first |(cases h;done) | skip
 ·rw[iS _ _ h]
 ·rw[wz _ _ h]
 ·have h:=P1.mp h;rw[xl (iS _ _ h.1) (iS _ _ h.2)]
 ·rw[Qy h]
theorem uD(a:MO):EU a a=true:=by
 cases a with
 | lst x=>exact eS x
 | dct x=>exact n5 x
 | dcH x=>exact P1.mpr ⟨eS _,eS _⟩
 | exc c=>exact Qb rfl
noncomputable def wA:MH->MH->Bool
 | [],[]=>true
 | a::r,b::s=>EU a b&&wA r s
 | _,_=>false
theorem Ax:∀{a b:MH},wA a b=true->a=b
 | [],b,h=>by cases b <;> first | rfl | simp[wA] at h
 | x::r,b,h=>by
  cases b with
  | nil=>simp[wA] at h
  | cons y s=>simp[wA] at h;rw[Aw h.1,Ax h.2]
noncomputable def cu:SM:=λδ h=>some (.nx,δ,h)
noncomputable def vf:SM:=λ_ _=>none
noncomputable def au(a b:SM):SM:=λδ h=>(a δ h).bind λr=>match r.1 with
 | .nx=>b r.2.1 r.2.2
 | _=>some r
noncomputable def aS(i:Nat)(e:EM):SM:=λδ h=>(e δ h).bind λp=>some (.nx,δ.set i (some p.1),p.2)
noncomputable def fe(e:EM)(g:GM):SM:=λδ h=>(e δ h).bind λp=>(g p.1 δ p.2).bind λq=>some (.nx,q.1,q.2)
noncomputable def gk(e:EM):SM:=λδ h=>(e δ h).bind λp=>some (.nx,δ,p.2)
noncomputable def bg(e:EM):SM:=λδ h=>(e δ h).bind λp=>some (.rt p.1,δ,p.2)
noncomputable def fO(t:TM)(a b:SM):SM:=λδ h=>(t δ h).bind λp=>if p.1 then a δ p.2 else b δ p.2
noncomputable def gN(i:Nat):GM:=λd δ h=>some (δ.set i (some d),h)
abbrev Fj:=List D->DS->MH->Option (DS×MH)
noncomputable def bS:Fj:=λds δ h=>match ds with
 | []=>some (δ,h)
 | _=>none
noncomputable def ar(g:GM)(u:Fj):Fj:=λds δ h=>match ds with
 | []=>none
 | d::r=>(g d δ h).bind λp=>u r p.1 p.2
noncomputable def gT(n:Nat)(u:Fj):GM:=λd δ h=>match d with
 | .tup xs=>if xs.length=n then u xs δ h else none
 | _=>none
abbrev W:=List (Nat×MO)
abbrev IM:=DS->MH->Option (List D×W×MH)
noncomputable def pQ:W->MH->Bool
 | [],_=>true
 |(n,o)::r,h=>(match h[n]? with | some u=>EU u o | none=>false)&&pQ r h
noncomputable def mF(ws:W)(g:GM)(b:SM):List D->SM
 | [],δ,h=>if pQ ws h then some (.nx,δ,h) else none
 | x::r,δ,h=>if pQ ws h then(g x δ h).bind λq=>(b q.1 q.2).bind λz=>match z.1 with
  | .nx=>mF ws g b r z.2.1 z.2.2
  | .ct=>mF ws g b r z.2.1 z.2.2
  | .bk=>some (.nx,z.2.1,z.2.2)
  | .rt d=>some (.rt d,z.2.1,z.2.2)
  else none
noncomputable def iC(i:IM)(g:GM)(b:SM):SM:=λδ h=>(i δ h).bind λp=>mF p.2.1 g b p.1 δ p.2.2
section
variable {X:Cx} {a b c e tg iter:Expr} {es:List Expr} {st:Stmt} {sts rest:List Stmt} {pos:Pos} {ma mb:EM} {mt:TM} {ms mu:SM} {m:AM} {g:GM} {gs:Fj}
theorem bK:BZ X [] cu:=FW.imp λE σ H ⟨ρ,δ,h,fl,δ',h',R,S,e,k⟩=>by
 cases e;exact k ρ H (.refl _ _) S σ R
theorem qu:SS X st vf:=Dt.imp λE σ H ⟨ρ,δ,h,fl,δ',h',R,S,e,k⟩=>by cases e
theorem Iy(hh:G7 X.K (au ms mu) E σ H):Lc (G7 X.K ms) (G7 X.K mu) E σ H:=by
 obtain⟨ρ,δ,h,fl,δ',h',R,S,e,k⟩:=hh;obtain⟨⟨f1,δ1,h1⟩,e1,e2⟩:=bE e;cases f1 with
 | nx=>exact⟨ρ,δ,h,.nx,δ1,h1,R,S,e1,λρ1 H1 T1 S1 σ' R'=>⟨ρ1,δ1,h1,fl,δ',h',R',S1,e2,λρ2 H2 T2 S2=>k ρ2 H2 (T1.trans T2) S2⟩⟩
 | bk=>cases e2;exact⟨ρ,δ,h,.bk,_,_,R,S,e1,λρ1 H1 T1 S1=>k ρ1 H1 T1 S1⟩
 | ct=>cases e2;exact⟨ρ,δ,h,.ct,_,_,R,S,e1,λρ1 H1 T1 S1=>k ρ1 H1 T1 S1⟩
 | rt d=>cases e2;exact⟨ρ,δ,h,.rt d,_,_,R,S,e1,λρ1 H1 T1 S1=>k ρ1 H1 T1 S1⟩
theorem ae(h1:SS X st ms)(h2:BZ X rest mu):BZ X (st::rest) (au ms mu):=(xh h1 h2).imp λ_ _ _=>Iy
theorem aL(h1:SS X st ms):BZ X [st] ms:=FV h1
theorem C8(hh:G7 X.K (aS i ma) E σ H):Fv (tM X.K ma) (xH i) E σ H:=by
 obtain⟨ρ,δ,h,fl,δ',h',R,S,e,k⟩:=hh;obtain⟨⟨x,h1⟩,e1,e2⟩:=bE e;cases e2;exact⟨ρ,δ,h,x,h1,R,S,e1,λv H1 ⟨ρ1,T1,S1,r1⟩=>k ρ1 H1 T1 S1 _ ((R.mono T1).set r1 i)⟩
theorem HY(hN:X.N.Nodup)(hi:X.N[i]?=some x)(hx:Loc X.env.scope x)(he:SE X e ma)(hs:swapsWith e (some (.Name x pos')) pos.line X.env=pure false:=by ac_nf)(hf:X.fn x=true\/X.env.scope.names.lookup x=some .local:=by first | exact .inl rfl | exact .inr rfl | assumption):SS X (.Assign [.Name x pos'] e pos) (aS i ma):=(yH hN hi hx he hs hf).imp λ_ _ _=>C8
theorem Fz(hN:X.N.Nodup)(hi:X.N[i]?=some x)(hx:Loc X.env.scope x)(hf:X.fn x=true\/X.env.scope.names.lookup x=some .local:=by first | exact .inl rfl | exact .inr rfl | assumption):SG X (.Name x pos) (gN i):=
 (F8 hN hi hx hf).imp λv σ H Q ⟨ρ,δ,h,d,δ',h',R,S,r,e,k⟩=>by
  cases e;exact k ρ H _ (.refl _ _) S (R.set r i)
inductive Hy(K:FR)(m:Fj)(vs:List V)(σ:L2.St)(H:Hp)(Q:L2.St->Hp->Prop):Prop where
 | mk (ρ δ h ds δ' h'):cI K ρ H σ δ->bM K ρ h H->aD K ρ H vs ds->(m ds δ h=some (δ',h'))->(∀ρ' H' σ',df ρ H ρ' H'->bM K ρ' h' H'->cI K ρ' H' σ' δ'->Q σ' H')->Hy K m vs σ H Q
noncomputable def Nx(K:FR)(m:Fj):KG:=λvs σ H Q=>Hy K m vs σ H Q
def Ng(X:Cx)(es:List Expr)(m:Fj):Prop:=HD X es (Nx X.K m)
theorem _root_.L2.HD.imp{X:Cx}{e:List Expr}{t t':KG}(h:HD X e t)(i:∀v σ H Q,t' v σ H Q->t v σ H Q):HD X e t':=λpins s σ H v u Q I r q=>h pins s σ H v u Q I r (i v σ H Q q)
theorem gj:Ng X [] bS:=F7.imp λv σ H Q ⟨ρ,δ,h,d,δ',h',R,S,r,e,k⟩=>by
 cases r with
 | nil=>cases e;exact⟨rfl,k ρ H σ (.refl _ _) S R⟩
 | cons _ _=>cases e
theorem bu(h1:SG X e g)(h2:Ng X es gs)(hs:(assignEach (e::es) X.env).map (·.2)=assign e X.env::(assignEach es X.env).map (·.2):=by ac_nf):Ng X (e::es) (ar g gs):=(Dz h1 h2 hs).imp λv σ H Q ⟨ρ,δ,h,d,δ',h',R,S,r,e,k⟩=>by
 cases r with
 | nil=>cases e
 | cons r rs=>
  obtain⟨⟨δ1,h1⟩,e1,e2⟩:=bE e;exact⟨_,_,rfl,ρ,δ,h,_,δ1,h1,R,S,r,e1,λρ1 H1 σ1 T1 S1 R1=>⟨ρ1,δ1,h1,_,δ',h',R1,S1,rs.mono T1,e2,λρ2 H2 σ2 T2 S2 R2=>k ρ2 H2 σ2 (T1.trans T2) S2 R2⟩⟩
theorem jb(hc:X.calm=true)(h:Ng X es gs)(hn:(assignEach es X.env).length=n:=by ac_nf)(hst:(assignEach es X.env).findIdx? (·.1)=none:=by ac_nf):SG X (.Tuple es k0 pos) (gT n gs):=
 (IU hc h hn hst).imp λv σ H Q ⟨ρ,δ,h,d,δ',h',R,S,r,e,k⟩=>by
  cases r <;> first |(exact absurd e (by intro z;cases z)) | skip
  rename_i a vs ds ht l _;unfold gT at e;dsimp only at e
  by_cases z:ds.length=n
  ·rw[Py z] at e;exact⟨a,vs,rfl,ht.sq,by rw[l.length];exact z,ρ,δ,h,ds,δ',h',R,S,l,e,k⟩
  ·rw[PH z] at e;cases e
theorem dY(he:SE X e ma)(hg:SG X tg g)(hs:swapsWithSole [tg] e pos.line X.env=pure false:=by ac_nf)(hw:swappedStores [tg] e X.env=pure none:=by ac_nf)
  (h1:(assignEach [tg] X.env).map (·.2)=[assign tg X.env]:=by ac_nf):SS X (.Assign [tg] e pos) (fe ma g):=(Dv he hg hs hw h1).imp λE σ H ⟨ρ,δ,h,fl,δ',h',R,S,e,k⟩=>by
 obtain⟨⟨x,h1⟩,e1,e2⟩:=bE e;obtain⟨⟨δ2,h2⟩,e4,e3⟩:=bE e2;cases e3;exact⟨ρ,δ,h,x,h1,R,S,e1,λv H1 ⟨ρ1,T1,S1,r1⟩=>⟨ρ1,δ,h1,x,_,_,R.mono T1,S1,r1,e4,λρ2 H2 σ2 T2 S2 R2=>k ρ2 H2 (T1.trans T2) S2 σ2 R2⟩⟩
theorem jO(he:SE X e ma)(hs:swapsWith e none pos.line X.env=pure false:=by ac_nf):SS X (.Expr e pos) (gk ma):=(FY he hs).imp λE σ H ⟨ρ,δ,h,fl,δ',h',R,S,e,k⟩=>by
 obtain⟨⟨x,h1⟩,e1,e2⟩:=bE e;cases e2;exact⟨ρ,δ,h,x,h1,R,S,e1,λv H1 ⟨ρ1,T1,S1,r1⟩=>k ρ1 H1 T1 S1 σ (R.mono T1)⟩
theorem bZ(he:SE X e ma):SS X (.Return (some e) pos) (bg ma):=(IQ he).imp λE σ H ⟨ρ,δ,h,fl,δ',h',R,S,e,k⟩=>by
 obtain⟨⟨x,h1⟩,e1,e2⟩:=bE e;cases e2;exact⟨ρ,δ,h,x,h1,R,S,e1,λv H1 ⟨ρ1,T1,S1,r1⟩=>k ρ1 H1 T1 S1 v r1⟩
theorem cc(hc:ST X c mt)(ha:BZ X sa ms)(hb:BZ X sb mu):SS X (.If c sa sb pos) (fO mt ms mu):=(Hi hc ha hb).imp λE σ H ⟨ρ,δ,h,fl,δ',h',R,S,e,k⟩=>by
 obtain⟨⟨x,h1⟩,e1,e2⟩:=bE e;refine⟨ρ,δ,h,x,h1,R,S,e1,λρ1 H1 T1 S1=>?_⟩;cases x with
 | true=>rw[Py rfl] at e2 ⊢;exact⟨ρ1,δ,h1,fl,δ',h',R.mono T1,S1,e2,λρ2 H2 T2 S2=>k ρ2 H2 (T1.trans T2) S2⟩
 | false=>rw[PH (by simp)] at e2 ⊢;exact⟨ρ1,δ,h1,fl,δ',h',R.mono T1,S1,e2,λρ2 H2 T2 S2=>k ρ2 H2 (T1.trans T2) S2⟩
structure KS(K:FR)(J:It)(ρ:Ad)(H:Hp)(ws:W)(xs:List D):Prop where
 run:∀ρ1 H1 h1,Ch ρ H ρ1 H1->bM K ρ1 h1 H1->pQ ws h1=true->∀i:Nat,(xs.length<=i->J.stop i H1)/\∀x,xs[i]?=some x->J.go i H1/\∀v H2,J.HE i H1 v H2->df ρ1 H1 ρ1 H2/\bM K ρ1 h1 H2/\Rep K ρ1 H2 v x
inductive MP(K:FR)(m:IM)(σ:L2.St)(H:Hp)(R:It->Hp->Prop):Prop where
 | mk (ρ δ h xs ws h'):cI K ρ H σ δ->bM K ρ h H->(m δ h=some (xs,ws,h'))->(∀J ρ1 H1,df ρ H ρ1 H1->bM K ρ1 h' H1->KS K J ρ1 H1 ws xs->R J H1)->MP K m σ H R
def Nw(K:FR)(m:IM):TI:=λσ H R=>MP K m σ H R
def SI(X:Cx)(tg iter:Expr)(m:IM):Prop:=PI X tg iter (Nw X.K m)
theorem _root_.L2.PI.imp(h:PI X tg e t)(i:∀σ H Q,t' σ H Q->t σ H Q):PI X tg e t':=λpins s σ H R I q=>h pins s σ H R I (i σ H R q)
theorem Iz(hh:G7 X.K (iC mi g ms) E σ H):Li (Nw X.K mi) (Lh X.K g) (G7 X.K ms) E σ H:=by
 obtain⟨ρ,δ,h,fl,δ',h',R,S,e,k⟩:=hh;obtain⟨⟨xs,ws,h1⟩,e1,e2⟩:=bE e;refine⟨ρ,δ,h,xs,ws,h1,R,S,e1,λJ ρ1 H1 T1 S1 It=>?_⟩;refine⟨λi m σ2 H2=>∃ρ2 δ2 h2,m=xs.length-i/\i<=xs.length/\df ρ1 H1 ρ2 H2/\cI X.K ρ2 H2 σ2 δ2/\bM X.K ρ2 h2 H2/\mF ws g ms (xs.drop i) δ2 h2=some (fl,δ',h'),⟨_,ρ1,δ,h1,rfl,Ri _,.refl _ _,R.mono T1,S1,e2⟩,?_⟩;rintro i m σ2 H2 ⟨ρ2,δ2,h2,rfl,hi,T2,R2,S2,e3⟩;cases q:xs.drop i with
 | nil=>
  rw[q] at e3;unfold mF at e3
  by_cases hc:pQ ws h2=true
  ·rw[Py hc] at e3;cases e3;have hl:xs.length<=i:=by have:=congrArg List.length q;rw[QR,Q9] at this;lia
   exact .inl ⟨(It.run ρ2 H2 _ T2 S2 hc i).1 hl,k ρ2 H2 (T1.trans T2) S2 σ2 R2⟩
  ·rw[PH hc] at e3;cases e3
 | cons x r=>
  rw[q] at e3;unfold mF at e3
  by_cases hc:pQ ws h2=true
  ·rw[Py hc] at e3;have hx:xs[i]?=some x:=by
    have:=congrArg (λl=>l[0]?) q
    simpa using this
   have hlt:i < xs.length:=(Pq.mp hx).1;have hr:xs.drop (i+1)=r:=by
    have:=congrArg List.tail q
    simpa using this
   obtain⟨⟨δ3,h3⟩,e4,e5⟩:=bE e3;obtain⟨⟨f4,δ4,h4⟩,e6,e7⟩:=bE e5;obtain⟨hgo,hy⟩:=(It.run ρ2 H2 h2 T2 S2 hc i).2 x hx;have NN:∀ρ5 H5 σ5,df ρ2 H2 ρ5 H5->bM X.K ρ5 h4 H5->cI X.K ρ5 H5 σ5 δ4->mF ws g ms r δ4 h4=some (fl,δ',h')->
     ∃m',m' < xs.length-i/\(∃ρ2 δ2 h2,m'=xs.length-(i+1)/\i+1<=xs.length/\df ρ1 H1 ρ2 H5/\cI X.K ρ2 H5 σ5 δ2/\bM X.K ρ2 h2 H5/\mF ws g ms (xs.drop (i+1)) δ2 h2=some (fl,δ',h')):=
    λρ5 H5 σ5 T5 S5 R5 e8=>⟨xs.length-(i+1),by lia,ρ5,δ4,h4,rfl,hlt,T2.trans T5,R5,S5,by rw[hr];exact e8⟩
   refine .inr ⟨hgo,λσ5 H5=>∃ρ5,df ρ2 H2 ρ5 H5/\bM X.K ρ5 h4 H5/\cI X.K ρ5 H5 σ5 δ4/\mF ws g ms r δ4 h4=some (fl,δ',h'),λσ5 H5 ⟨ρ5,T5,S5,R5,e8⟩=>NN ρ5 H5 σ5 T5 S5 R5 e8,λv H3 y3=>?_⟩;obtain⟨T3,S3,r3⟩:=hy v H3 y3;refine⟨ρ2,δ2,h2,x,δ3,h3,R2.mono T3,S3,r3,e4,λρ4 H4 σ4 T4 S4 R4=>?_⟩;refine⟨ρ4,δ3,h3,f4,δ4,h4,R4,S4,e6,λρ5 H5 T5 S5=>?_⟩;have T25:df ρ2 H2 ρ5 H5:=T3.trans (T4.trans T5);cases f4 with
   | nx=>exactλσ' R'=>⟨ρ5,T25,S5,R',e7⟩
   | ct=>exactλσ' R'=>⟨ρ5,T25,S5,R',e7⟩
   | bk=>cases e7;exactλσ' R'=>k ρ5 H5 (T1.trans (T2.trans T25)) S5 σ' R'
   | rt d=>cases e7;exactλv r=>k ρ5 H5 (T1.trans (T2.trans T25)) S5 v r
  ·rw[PH hc] at e3;cases e3
theorem cN(hp:PassesOwn (model X.prog X.w) X.A X.env X.xe)(hc:X.calm=true)(hi:SI X tg iter mi)(hg:SG X tg g)(hb:BZ X body ms)(hs:∀x,foldedSetIterable iter X.env x=pure x:=by intro _;ac_nf):SS X (.For tg iter body [] pos) (iC mi g ms):=
 (IS hp hc hi hg hb hs).imp λ_ _ _=>Iz
end
end Sm
namespace L2
open PySem PySem.Spec PyProof.Rows
theorem IT(hl:PE X l tl):PI X tg l (λσ H R=>tl σ H λx H1=>∃a,x=.ref a/\(((∃xs,gM X.K H1 a xs)/\R (OH X.K a) H1)\/((∃xs,kG X.K H1 a xs)/\R (OG X.K a) H1))):=by
 intro pins s σ H R I h;refine cM (hl pins s σ H _ I h) λv s1 ⟨x,H1,I1,r1,q1⟩=>?_;obtain⟨a,e,q1⟩:=q1;subst e;cases r1;rcases q1 with⟨⟨xs,hq⟩,q⟩ |⟨⟨xs,hq⟩,q⟩
 ·obtain⟨its,rv,p,hz⟩:=I1.list hq;refine wpAny_pyIter_list p.isList ?_;refine⟨s1.heap.objs.size,[s1.heap.objs.size],_,_,H1,rfl,I1.kept (t':=s1.toks) λb o e=>PC _ e,AK a _,⟨_,P8 _ rfl,rfl,rfl⟩,λb hb=>?_,q⟩;have e:b=s1.heap.objs.size:=by simpa using hb
  subst e;exact I1.Bz (Pw _) (I1.ba.fresh (Pw _))
 ·obtain⟨its,rv,p,hz⟩:=I1.tuple hq;refine Sn (show s1.heap.IsTuple a its.toArray from p) ?_;refine⟨s1.heap.objs.size,[s1.heap.objs.size],_,_,H1,rfl,I1.kept (t':=s1.toks) λb o e=>PC _ e,yi a _,⟨_,P8 _ rfl,rfl,rfl⟩,λb hb=>?_,q⟩;have e:b=s1.heap.objs.size:=by simpa using hb
  subst e;exact I1.Bz (Pw _) (I1.ba.fresh (Pw _))
end L2
namespace Sm
open PySem L2
noncomputable def dq(d:D)(h:MH):Option (List D×W):=match d with
 | .lv xs=>some (xs,[])
 | .ro xs=>some (xs,[])
 | .tup xs=>some (xs,[])
 | .ob n=>match h[n]? with
  | some (.lst xs)=>some (xs,[(n,.lst xs)])
  | _=>none
 | _=>none
noncomputable def eG(e:EM):IM:=λδ h=>(e δ h).bind λp=>(dq p.1 p.2).map λq=>(q.1,q.2,p.2)
noncomputable def nS(m:AM):IM:=λδ h=>(m δ h).bind λp=>match p.1 with
 | [.int j]=>if -(2^62)<=j/\j < 2^62 then some ((List.range j.toNat).map λ(k:Nat)=>D.int (k:Int),[],p.2) else none
 | [.int i,.int j]=>if -(2^62)<=i/\i < 2^62/\-(2^62)<=j/\j < 2^62 then some ((List.range (j-i).toNat).map λ(k:Nat)=>D.int (i+(k:Int)),[],p.2) else none
 | _=>none
theorem vQ(hl:∀ρ1 H1 h1,Ch ρ H ρ1 H1->bM K ρ1 h1 H1->pQ ws h1=true->∃vs,aD K ρ1 H1 vs xs/\(∀i:Nat,vs.length<=i->J.stop i H1)/\∀(i:Nat) v,vs[i]?=some v->J.go i H1/\∀u H2,J.HE i H1 u H2->H2=H1/\u=v):KS K J ρ H ws xs:=by
 refine⟨λρ1 H1 h1 T S hc i=>?_⟩;obtain⟨vs,l,s1,s2⟩:=hl ρ1 H1 h1 T S hc;refine⟨λhi=>s1 i (by rw[l.length];exact hi),λx hx=>?_⟩;obtain⟨v,hv,r⟩:=l.got hx;obtain⟨g,y⟩:=s2 i v hv;refine⟨g,λu H2 yy=>?_⟩;obtain⟨rfl,rfl⟩:=y u H2 yy;exact⟨.refl _ _,S,r⟩
theorem JO(hl:∀ρ1 H1 h1,Ch ρ H ρ1 H1->bM K ρ1 h1 H1->pQ ws h1=true->∃vs,aD K ρ1 H1 vs xs/\gM K H1 a vs):KS K (OH K a) ρ H ws xs:=
 vQ λρ1 H1 h1 T S hc=>by
  obtain⟨vs,l,q⟩:=hl ρ1 H1 h1 T S hc;refine⟨vs,l,λi hi=>⟨vs,q,hi⟩,λi v hv=>⟨⟨vs,v,q,hv⟩,λu H2 ⟨e,y⟩=>⟨e,?_⟩⟩⟩;have:=y vs q;rw[hv] at this;exact(Option.some.inj this).symm
theorem JM(hl:∀ρ1 H1 h1,Ch ρ H ρ1 H1->bM K ρ1 h1 H1->pQ ws h1=true->∃vs,aD K ρ1 H1 vs xs/\kG K H1 a vs):KS K (OG K a) ρ H ws xs:=
 vQ λρ1 H1 h1 T S hc=>by
  obtain⟨vs,l,q⟩:=hl ρ1 H1 h1 T S hc;refine⟨vs,l,λi hi=>⟨vs,q,hi⟩,λi v hv=>⟨⟨vs,v,q,hv⟩,λu H2 ⟨e,y⟩=>⟨e,?_⟩⟩⟩;have:=y vs q;rw[hv] at this;exact(Option.some.inj this).symm
theorem GV(hc:pQ [(n,o)] h=true):h[n]?=some o:=by
 unfold pQ at hc;cases q:h[n]? with
 | none=>rw[q] at hc;cases hc
 | some u=>
  rw[q] at hc;simp[pQ] at hc;rw[Aw hc]
inductive SeqAt(K:FR)(H:Hp)(a:Addr)(vs:List V):Bool->Prop where
 | l:gM K H a vs->SeqAt K H a vs true
 | t:kG K H a vs->SeqAt K H a vs false
noncomputable def y1:D->Bool
 | .tup _=>false
 | _=>true
theorem qz(S:bM K ρ h H)(r:Rep K ρ H v d)(e:dq d h=some (xs,ws)):∃a,v=.ref a/\(∃vs,SeqAt K H a vs (y1 d)/\aD K ρ H vs xs)/\
  ∀ρ1 H1 h1,Ch ρ H ρ1 H1->bM K ρ1 h1 H1->pQ ws h1=true->∃vs,aD K ρ1 H1 vs xs/\SeqAt K H1 a vs (y1 d):=by
 cases r with
 | tup ht l=>
  cases e;refine⟨_,rfl,⟨_,.t ht.sq,l⟩,λρ1 H1 h1 T S1 _=>?_⟩;cases(Rep.tup ht l).mono T with
  | tup h1 l1=>exact⟨_,l1,.t h1.sq⟩
 | lv ht n l=>
  cases e;refine⟨_,rfl,⟨_,.l (gM.of ht),l⟩,λρ1 H1 h1 T S1 _=>?_⟩;cases(Rep.lv ht n l).mono T with
  | lv h1 _ l1=>exact⟨_,l1,.l (gM.of h1)⟩
 | ro ht l=>
  cases e;refine⟨_,rfl,⟨_,.l ht.sq,l⟩,λρ1 H1 h1 T S1 _=>?_⟩;cases(Rep.ro ht l).mono T with
  | ro h1 l1=>exact⟨_,l1,.l h1.sq⟩
 | @ob a n hn=>
  unfold dq at e;dsimp only at e;cases q:h[n]? with
  | none=>rw[q] at e;cases e
  | some o=>
   rw[q] at e;cases o with
   | dct _=>exact bU e
   | dcH _=>exact bU e
   | exc _=>exact bU e
   | lst ys=>
    cases e;obtain⟨vs,e1,l⟩:=S.at_ n a _ hn q;refine⟨a,rfl,⟨vs,.l (gM.of e1),l⟩,λρ1 H1 h1 T S1 hc=>?_⟩;obtain⟨us,e2,l2⟩:=S1.at_ n a _ (T.pre n a hn) (GV hc);exact⟨us,l2,.l (gM.of e2)⟩
 | cj=>exact bU e
 | bl b=>exact bU e
 | int i=>exact bU e
 | str x=>exact bU e
 | ty x=>exact bU e
 | dv _ _ _=>exact bU e
section
variable {X:Cx} {a b c e tg iter:Expr} {es:List Expr} {pos:Pos} {ma mb:EM} {mt:TM} {ms mu:SM} {m:AM} {g:GM} {gs:Fj}
theorem gG(h:SE X e ma):SI X tg e (eG ma):=(IT h).imp λσ H Q ⟨ρ,δ,h,xs,ws,h',R,S,e,k⟩=>by
 obtain⟨⟨x,h1⟩,e1,e2⟩:=bE e;obtain⟨⟨ys,w⟩,e3,e4⟩:=gv e2;cases e4;refine⟨ρ,δ,h,x,h1,R,S,e1,λv H1 ⟨ρ1,T1,S1,r1⟩=>?_⟩;obtain⟨a,rfl,⟨vs,q,l⟩,st⟩:=qz S1 r1 e3;refine⟨a,rfl,?_⟩;generalize y1 x=b at q st;cases q with
 | l q=>exact .inl ⟨⟨vs,q⟩,k _ ρ1 H1 T1 S1 (JO λρ2 H2 h2 T2 S2 hc=>by obtain⟨us,l2,q2⟩:=st ρ2 H2 h2 T2 S2 hc;cases q2 with | l q2=>exact⟨us,l2,q2⟩)⟩
 | t q=>exact .inr ⟨⟨vs,q⟩,k _ ρ1 H1 T1 S1 (JM λρ2 H2 h2 T2 S2 hc=>by obtain⟨us,l2,q2⟩:=st ρ2 H2 h2 T2 S2 hc;cases q2 with | t q2=>exact⟨us,l2,q2⟩)⟩
theorem jP:∀(ns:List Int),aD K ρ H (ns.map V.int) (ns.map D.int)
 | []=>.nil
 | _::r=>.cons (.int _) (jP r)
theorem JN(lo:Int)(n:Nat):KS K (Nh lo n) ρ H [] ((List.range n).map λ(k:Nat)=>D.int (lo+(k:Int))):=by
 refine vQ λρ1 H1 h1 T S hc=>⟨(List.range n).map λ(k:Nat)=>V.int (lo+(k:Int)),?_,λi hi=>?_,λi v hv=>?_⟩
 ·have:=jP (K:=K) (ρ:=ρ1) (H:=H1) ((List.range n).map λ(k:Nat)=>lo+(k:Int));rw[QD,QD] at this;exact this
 ·rw[Pp,P6] at hi;exact hi
 ·rw[PR] at hv;obtain⟨j,e1,e2⟩:=gv hv;obtain⟨hlt,e3⟩:=Pq.mp e1;rw[P6] at hlt;rw[SX] at e3;subst e3;subst e2;exact⟨hlt,λu H2 ⟨p,q⟩=>⟨p,q⟩⟩
theorem AY(l:aD K ρ H vs [.int j]):vs=[.int j]:=by
 cases l with
 | cons r l=>cases l;cases r;rfl
theorem cx(hg:Gl X "range")(hm:X.mg "range"=none)(ha:SA X [a] m)(hs:starEach [a] X.env=[(false,eval a X.env)]:=by ac_nf)(hl:kg m 1):SI X tg (.Call (.Name "range" p) [a] [] pos) (nS m):=
 (Be hg hm ha hs).imp λσ H Q zz=>by
  obtain⟨ρ,δ,h,xs,ws,h',R,S,e,k⟩:=zz;obtain⟨⟨x,h1⟩,e1,e2⟩:=bE e;refine⟨ρ,δ,h,x,h1,R,S,e1,λvs ρ1 H1 T1 S1 r1=>?_⟩;obtain⟨d,rfl⟩:=Rm.mp (hl _ _ _ _ e1);cases d <;> first | exact absurd e2 (by intro z;cases z) | skip
  rename_i j;dsimp only at e2
  by_cases z:-(2^62)<=j/\j < 2^62
  ·rw[Py z] at e2;cases e2;refine⟨j,AY r1,z.1,z.2,k _ ρ1 H1 T1 S1 ?_⟩;have:=JN (K:=X.K) (ρ:=ρ1) (H:=H1) 0 j.toNat
   simpa using this
  ·rw[PH z] at e2;cases e2
noncomputable def fH(caps:List (Option Nat))(δ:DS):DS:=caps.map λo=>o.bind λi=>(δ[i]?).join
noncomputable def dD:TM:=λ_ h=>some (true,h)
noncomputable def bH(ws:W)(g:GM)(c:TM)(e:EM):List D->DS->MH->Option (List D×MH)
 | [],_,h=>if pQ ws h then some ([],h) else none
 | x::r,δ,h=>if pQ ws h then(g x δ h).bind λq=>(c q.1 q.2).bind λt=>if t.1 then(e q.1 t.2).bind λy=>(bH ws g c e r q.1 y.2).map λz=>(y.1::z.1,z.2) else bH ws g c e r q.1 t.2 else none
noncomputable def b8(caps:List (Option Nat))(i:IM)(g:GM)(c:TM)(e:EM):AM:=λδ h=>(i δ h).bind λp=>(bH p.2.1 g c e p.1 (fH caps δ) p.2.2).bind λq=>if q.1.length<=sizeLine then some q else none
theorem cI.mP(R:cI K ρ H σ δ)(caps:List (Option Nat)):cI K ρ H (mP caps σ) (fH caps δ):=by
 refine⟨by simp[L2.mP,fH],λi d hd=>?_⟩;unfold fH at hd;rw[PR] at hd;obtain⟨o,e1,e2⟩:=gv hd;cases o with
 | none=>exact bU e2
 | some j=>
  have e3:δ[j]?=some (some d):=TU.mp e2;obtain⟨v,ev,r⟩:=R.at_ j d e3;refine⟨v,?_,r⟩;unfold L2.mP;rw[PR,e1];simp[ev]
def Nf(X:Cx)(ifs:List Expr)(m:TM):Prop:=KO X ifs (HV X.K m)
theorem dA:Nf X [] dD:=λpins s σ H Q I hh=>by
 obtain⟨ρ,δ,h,b,h',R,S,e,k⟩:=hh;cases e;exact F5 pins s σ H Q I (k ρ H (.refl _ _) S)
theorem lD(h:ST X c mt):Nf X [c] mt:=F4 h
theorem zK(hh:tM X.K (fB (b8 caps mi g mt ma)) σ H Q):Cy caps (Nw X.K mi) (Lh X.K g) (HV X.K mt) (tM X.K ma) σ H Q:=by
 obtain⟨ρ,δ,h,d,h',R,S,ee,k⟩:=hh;obtain⟨⟨out,h0⟩,ea,e0⟩:=gv ee;cases e0;obtain⟨⟨xs,ws,h1⟩,e1,eb⟩:=bE ea;obtain⟨⟨ys,h2⟩,e2,e3⟩:=bE eb;dsimp only at e2 e3
 by_cases hz:ys.length<=sizeLine
 ·rw[Py hz] at e3;cases e3;refine⟨ρ,δ,h,xs,ws,h1,R,S,e1,λJ ρ1 H1 T1 S1 It l hl=>?_⟩;have nl:¬ρ1.has l:=S1.fresh hl;have Tl:Ch ρ1 H1 (ρ1.keep l) (upd H1 l (.lst [])):=Ch.keep hl;refine⟨λi m τ2 H2=>∃(ob2:List Addr)(δ2:DS)(h2:MH)(vs:List V)(as bs:List D),m=xs.length-i/\i<=xs.length/\Ch ρ1 H1 ⟨ob2,l::ρ1.rs⟩ H2/\(∀b∈ρ1.rs,H2 b=H1 b)/\cI X.K ⟨ob2,l::ρ1.rs⟩ H2 τ2 δ2/\bM X.K ⟨ob2,l::ρ1.rs⟩ h2 H2/\
    H2 l=some (.lst vs)/\aD X.K ⟨ob2,l::ρ1.rs⟩ H2 vs as/\out=as++bs/\bH ws g mt ma (xs.drop i) δ2 h2=some (bs,h0),
   ⟨_,ρ1.ob,fH caps δ,h1,[],[],out,rfl,Ri _,Tl,λb hb=>az λz=>nl (.inr (z ▸ hb)),((R.mono T1).mP caps).mono Tl,S1.keep hl,aR,.nil,rfl,e2⟩,?_⟩
  rintro i m τ2 H2 ⟨ob2,δ2,h2,vs,as,bs,rfl,hi,T2,rs2,R2,S2,hl2,l2,eo,e3⟩;have hsub:∀b∈ρ1.rs,b∈l::ρ1.rs:=λb hb=>Pz _ hb;have C2:Ch ⟨ob2,l::ρ1.rs⟩ H2 ⟨ob2,ρ1.rs⟩ H2:=Ch.free hsub;have T2':df ρ1 H1 ⟨ob2,ρ1.rs⟩ H2:=⟨T2.trans C2,rfl,rs2⟩;have S2':bM X.K ⟨ob2,ρ1.rs⟩ h2 H2:=S2.free hsub;cases q:xs.drop i with
  | nil=>
   rw[q] at e3;unfold bH at e3
   by_cases hc:pQ ws h2=true
   ·rw[Py hc] at e3;cases e3;rw[Qu] at eo;subst eo;have hle:xs.length<=i:=by have:=congrArg List.length q;rw[QR,Q9] at this;lia
    refine .inl ⟨(It.run _ H2 _ T2 S2 hc i).1 hle,k _ _ ⟨_,T1.trans T2',S2',.lv hl2 (λz=>?_) (l2.mono C2)⟩⟩;rcases z with z | z
    ·exact(S2.sH l Px).2 z
    ·exact nl (.inr z)
   ·rw[PH hc] at e3;cases e3
  | cons x r=>
   rw[q] at e3;unfold bH at e3
   by_cases hc:pQ ws h2=true
   ·rw[Py hc] at e3;have hx:xs[i]?=some x:=by
     have:=congrArg (λl=>l[0]?) q
     simpa using this
    have hlt:i < xs.length:=(Pq.mp hx).1;have hr:xs.drop (i+1)=r:=by
     have:=congrArg List.tail q
     simpa using this
    obtain⟨⟨δ3,h3⟩,e4,e5⟩:=bE e3;obtain⟨⟨t,h4⟩,e6,e7⟩:=bE e5;dsimp only at e4 e5 e6 e7;obtain⟨hgo,hy⟩:=(It.run _ H2 h2 T2 S2 hc i).2 x hx;refine .inr ⟨hgo,λτ5 H5=>∃(ob5:List Addr)(h5:MH)(vs:List V)(as bs:List D),Ch ρ1 H1 ⟨ob5,l::ρ1.rs⟩ H5/\(∀b∈ρ1.rs,H5 b=H1 b)/\cI X.K ⟨ob5,l::ρ1.rs⟩ H5 τ5 δ3/\bM X.K ⟨ob5,l::ρ1.rs⟩ h5 H5/\
     H5 l=some (.lst vs)/\aD X.K ⟨ob5,l::ρ1.rs⟩ H5 vs as/\out=as++bs/\bH ws g mt ma r δ3 h5=some (bs,h0),?_,?_⟩
    ·rintro τ5 H5 ⟨ob5,h5,vs5,as5,bs5,T5,rs5,R5,S5,hl5,l5,eo5,e5⟩;exact⟨xs.length-(i+1),by lia,ob5,δ3,h5,vs5,as5,bs5,rfl,hlt,T5,rs5,R5,S5,hl5,l5,eo5,by rw[hr];exact e5⟩
    ·intro v H3 y3;obtain⟨T3,S3,r3⟩:=hy v H3 y3;refine⟨⟨ob2,l::ρ1.rs⟩,δ2,h2,x,δ3,h3,R2.mono T3,S3,r3,e4,λρ4 H4 τ4 T4 S4 R4=>?_⟩;refine⟨ρ4,δ3,h3,t,h4,R4,S4,e6,λρ5 H5 T5 S5=>?_⟩;have T25:df ⟨ob2,l::ρ1.rs⟩ H2 ρ5 H5:=T3.trans (T4.trans T5);obtain⟨ob5,rs5⟩:=ρ5;have ers:rs5=l::ρ1.rs:=T25.rs;subst ers;cases t with
     | false=>
      rw[PH (by simp)] at e7;refine Mb ?_;exact⟨ob5,h4,vs,as,bs,T2.trans T25.toCh,λb hb=>(T25.res b (hsub b hb)).trans (rs2 b hb),R4.mono T5,S5,(T25.res l Px).trans hl2,l2.mono T25.toCh,eo,e7⟩
     | true=>
      rw[Py rfl] at e7;refine Ma ?_;obtain⟨⟨y,h6⟩,e8,e9⟩:=bE e7;obtain⟨⟨zs,h7⟩,e10,e11⟩:=gv e9;cases e11;refine⟨⟨ob5,l::ρ1.rs⟩,δ3,h4,y,h6,R4.mono T5,S5,e8,λu H6 ⟨ρ6,T6,S6,r6⟩=>?_⟩;have T26:df ⟨ob2,l::ρ1.rs⟩ H2 ρ6 H6:=T25.trans T6;obtain⟨ob6,rs6⟩:=ρ6;have ers:rs6=l::ρ1.rs:=T26.rs;subst ers;have hl6:H6 l=some (.lst vs):=(T26.res l Px).trans hl2;have hml:l∈(⟨ob6,l::ρ1.rs⟩:Ad).rs:=Px;have hlen:vs.length < sizeLine:=by
       have h1:=l2.length;have h2:=congrArg List.length eo;rw[PF,PK] at h2
       lia
      have Cp:Ch ⟨ob6,l::ρ1.rs⟩ H6 ⟨ob6,l::ρ1.rs⟩ (upd H6 l (.lst (vs++[u]))):=Ch.put hml;refine⟨vs,hl6,hlen,ob6,h6,vs++[u],as++[y],zs,(T2.trans T26.toCh).trans Cp,λb hb=>?_,((R4.mono T5.toCh).mono T6.toCh).mono Cp,S6.put hml,aR,((l2.mono T26.toCh).snoc r6).mono Cp,by rw[eo];simp,e10⟩;rw[az (λ(z:b=l)=>nl (.inr (z ▸ hb)))];exact(T26.res b (hsub b hb)).trans (rs2 b hb)
   ·rw[PH hc] at e3;cases e3
 ·rw[PH hz] at e3;cases e3
end
end Sm
namespace Sm
open PySem L2 PySem.Spec PyProof.Rows
section
variable {X:Cx} {a b c e tg iter elt:Expr} {es:List Expr} {pos:Pos} {ma mb:EM} {mt:TM} {ms mu:SM} {m:AM} {g:GM} {gs:Fj}
theorem eV(C:bC X N' caps scope)(hc:X.calm=true)(hi:SI X tg iter mi)(hg:∀C s₃ H₃ fp pl,SG (mR X N' scope C s₃ H₃ fp pl) tg g)(hif:∀C s₃ H₃ fp pl,Nf (mR X N' scope C s₃ H₃ fp pl) ifs mt)(he:∀C s₃ H₃ fp pl,SE (mR X N' scope C s₃ H₃ fp pl) elt ma)(hs:∀x,foldedSetIterable iter X.env x=pure x:=by intro _;ac_nf):
  SE X (.ListComp elt [⟨tg,iter,ifs,0⟩] scope pos) (fB (b8 caps mi g mt ma)):=(DD (g:=Lh X.K g) (tc:=HV X.K mt) (te:=tM X.K ma) C hc hi hg hif he hs).imp λ_ _ _=>zK
theorem iz(hN:X.N.Nodup)(hi':X.N[i]?=some y)(hy:X.env.scope.names.lookup y=some .local)(C:bC X N' caps scope)(hc:X.calm=true)(hi:SI X tg iter mi)(hg:∀C s₃ H₃ fp pl,SG (mR X N' scope C s₃ H₃ fp pl) tg g)(hif:∀C s₃ H₃ fp pl,Nf (mR X N' scope C s₃ H₃ fp pl) ifs mt)(he:∀C s₃ H₃ fp pl,SE (mR X N' scope C s₃ H₃ fp pl) elt ma)(hsw:swapsWith (.ListComp elt [⟨tg,iter,ifs,0⟩] scope pos) (some (.Name y py)) spos.line X.env=pure true:=by ac_nf)(hs:∀x,foldedSetIterable iter X.env x=pure x:=by intro _;ac_nf):
  SS X (.Assign [.Name y py] (.ListComp elt [⟨tg,iter,ifs,0⟩] scope pos) spos) (aS i (fB (b8 caps mi g mt ma))):=
 (Du (g:=Lh X.K g) (tc:=HV X.K mt) (te:=tM X.K ma) hN hi' hy C hc hi hg hif he hsw hs).imp λE σ H hh=>by
  have q:=C8 hh;exact zK q
end
inductive MU(K:FR)(n:Nat)(F:Fn)(vs:List V)(H:Hp)(Q:VK):Prop where
 | mk (ρ h ds d h'):bM K ρ h H->aD K ρ H vs ds->(ds.length=n)->(F ds h=some (d,h'))->(∀v H',dm K ρ H h' d v H'->Q v H')->MU K n F vs H Q
def AS(K:FR)(n:Nat)(F:Fn):Sp:=λvs H Q _=>MU K n F vs H Q
theorem FG(G:eI X.prog X.w X.K X.mg X.base ni k f fd ps (AS X.K n F))(hr:cF k X.A)(hg:Gl X x)(hm:X.mg x=some (.ref f))(hk:PySem.W.keepIn X.K (.ref f)=true)(hb:Binds X.K fd ps [])
  (ha:SA X (e::es) m) (hl:kg m n) (hdb:(x==("__debug__":Str))=false:=by ac_nf) (he:starEach (e::es) X.env=(false,eval e X.env)::starEach es X.env:=by ac_nf) (hpl:(backTo pos (starEach es X.env)).any (·.1)=false:=by ac_nf):
  SE X (.Call (.Name x p) (e::es) [] pos) (aw F m):=(zQ (E:=E0) G hr hg hm hk hb .nil LR ha hdb he hpl).imp λσ H Q ⟨ρ,δ,h,d,h',R,S,e,q⟩=>by
 obtain⟨⟨ds,h1⟩,e1,e2⟩:=bE e;refine⟨ρ,δ,h,ds,h1,R,S,e1,λvs ρ1 H1 T1 S1 r1=>?_⟩;show AS X.K n F (vs++[]) H1 Q E0;rw[Qu];exact⟨ρ1,h1,ds,d,h',S1,r1,hl _ _ _ _ e1,e2,λv H' P=>q v H' (P.step T1)⟩
noncomputable def wY(r:Fl×DS×MH):Option (D×MH):=match r.1 with
 | .rt d=>some (d,r.2.2)
 | .nx=>some (.cj,r.2.2)
 | _=>none
noncomputable def entry(len:Nat)(ds:List D):DS:=ds.map some++List.replicate (len-ds.length) none
noncomputable def jT(len:Nat)(body:SM):Fn:=λds h=>(body (entry len ds) h).bind wY
theorem cI.entry{K:FR}{ρ:Ad}{H:Hp}{vs:List V}{ds:List D}(N:List Str)(l:aD K ρ H vs ds):cI K ρ H (L2.start N vs) (Sm.entry N.length ds):=by
 refine⟨by simp[L2.start,Sm.entry,l.length],λi d hd=>?_⟩;unfold Sm.entry at hd;unfold L2.start
 by_cases hi:i < ds.length
 ·rw[PJ (by simpa using hi),PR] at hd;obtain⟨d',e1,e2⟩:=gv hd;cases e2;obtain⟨v,ev,r⟩:=l.got e1;refine⟨v,?_,r⟩;rw[PJ (by rw[Pp,l.length];exact hi),PR,ev];rfl
 ·rw[P0 (by simpa using hi),TX] at hd
  split at hd <;> cases hd
section
variable {P:Program} {w:World} {K:FR} {mg:Str->Option Value} {base:Heap} {x qual:Str} {st:Stmt} {f:Addr} {fd:FuncData} {N ps:List Str} {k:Nat}
theorem JU(F:sC K x qual st f fd)(Sc:aB N ps (ah st))(hb:∀(cdv:Value)(A:Around)(outer:List Env)(s:Shared)(H:Hp)(E:XK),cF k (A.deeper (envOfC qual (ah st) s.heap.objs.size f cdv))->BZ (eQ ni P w K mg base N qual (ah st) f cdv A outer s H E).DP (cY st) body):
  eI P w K mg base ni (k+1) f fd ps (AS K ps.length (jT N.length body)):=by
 refine F.ok Sc (λvs H Q E h=>?_) (λcdv A outer s H vs Q E hr h=>?_)
 ·obtain⟨ρ,h,ds,d,h',S,r,hl,_⟩:=h;rw[r.length];exact hl
 ·obtain⟨ρ,h,ds,d,h',S,r,hl,e,q⟩:=h;refine⟨_,hb cdv A outer s H E hr,?_⟩;obtain⟨⟨fl,δ1,h1⟩,e1,e2⟩:=bE e;refine⟨ρ,entry N.length ds,h,fl,δ1,h1,cI.entry N r,S,e1,λρ1 H1 T1 S1=>?_⟩;cases fl with
  | nx=>cases e2;exactλσ' R'=>q _ _ ⟨ρ1,T1,S1,.cj⟩
  | rt d=>cases e2;exactλv r=>q _ _ ⟨ρ1,T1,S1,r⟩
  | bk=>cases e2
  | ct=>cases e2
end
mutual
noncomputable def gJ(n:Nat):D->Bool
 | .tup xs=>fk n xs
 | .lv xs=>fk n xs
 | .ro xs=>fk n xs
 | .dv kvs=>GU n kvs
 | .ob m=>decide (m < n)
 | _=>true
noncomputable def fk(n:Nat):List D->Bool
 | []=>true
 | x::r=>gJ n x&&fk n r
noncomputable def GU(n:Nat):List (Key×D)->Bool
 | []=>true
 |(_,x)::r=>gJ n x&&GU n r
end
noncomputable def yc(n:Nat):MO->Bool
 | .lst xs=>fk n xs
 | .dct kvs=>GU n kvs
 | .dcH kvs=>fk n (kvs.map (·.1))&&fk n (kvs.map (·.2))
 | .exc _=>true
abbrev Ad.cut(ρ:Ad)(n:Nat):Ad:=⟨ρ.ob.take n,ρ.rs⟩
theorem Ad.j7{ρ:Ad}{n:Nat}{a:Addr}(h:(ρ.cut n).has a):ρ.has a:=h.elim (λm=>.inl (Rw m)) .inr
mutual
theorem Rep.cut{K:FR}{ρ:Ad}{H:Hp}{n:Nat}{v:V}{d:D}(r:Rep K ρ H v d)(c:gJ n d=true):Rep K (ρ.cut n) H v d:=by
 cases r with
 | cj=>exact .cj
 | bl b=>exact .bl b
 | int i=>exact .int i
 | str x=>exact .str x
 | ty n=>exact .ty n
 | tup h l=>exact .tup (h.elim (λ⟨a,n⟩=>.inl ⟨a,λm=>n (Ad.j7 m)⟩) .inr) (aD.cut l c)
 | lv h n l=>exact .lv h (λm=>n (Ad.j7 m)) (aD.cut l c)
 | ro h l=>exact .ro (h.elim (λ⟨a,n⟩=>.inl ⟨a,λm=>n (Ad.j7 m)⟩) .inr) (aD.cut l c)
 | dv h n l=>exact .dv h (λm=>n (Ad.j7 m)) (bD.cut l c)
 | ob e=>exact .ob ((Qe (Qy c)).trans e)
theorem aD.cut{K:FR}{ρ:Ad}{H:Hp}{n:Nat}{v:List V}{d:List D}(r:aD K ρ H v d)(c:fk n d=true):aD K (ρ.cut n) H v d:=by
 cases r with
 | nil=>exact .nil
 | cons r l=>have c:=P1.mp c;exact .cons (Rep.cut r c.1) (aD.cut l c.2)
theorem bD.cut{K:FR}{ρ:Ad}{H:Hp}{n:Nat}{v:List (Key×V)}{d:List (Key×D)}(r:bD K ρ H v d)(c:GU n d=true):bD K (ρ.cut n) H v d:=by
 cases r with
 | nil=>exact .nil
 | cons r l=>have c:=P1.mp c;exact .cons (Rep.cut r c.1) (bD.cut l c.2)
end
mutual
theorem Rep.clean{K:FR}{ρ:Ad}{H:Hp}{v:V}{d:D}(r:Rep K ρ H v d):gJ ρ.ob.length d=true:=by
 cases r with
 | tup h l=>exact aD.clean l
 | lv h n l=>exact aD.clean l
 | ro h l=>exact aD.clean l
 | dv h n l=>exact bD.clean l
 | ob e=>exact Qb (Pq.mp e).1
 | _=>rfl
theorem aD.clean{K:FR}{ρ:Ad}{H:Hp}{v:List V}{d:List D}(r:aD K ρ H v d):fk ρ.ob.length d=true:=by
 cases r with
 | nil=>rfl
 | cons r l=>exact P1.mpr ⟨Rep.clean r,aD.clean l⟩
theorem bD.clean{K:FR}{ρ:Ad}{H:Hp}{v:List (Key×V)}{d:List (Key×D)}(r:bD K ρ H v d):GU ρ.ob.length d=true:=by
 cases r with
 | nil=>rfl
 | cons r l=>exact P1.mpr ⟨Rep.clean r,bD.clean l⟩
end
theorem AB.cut{K:FR}{ρ:Ad}{H:Hp}{n:Nat}{a:Addr}{o:MO}(x:AB K ρ H a o)(c:yc n o=true):AB K (ρ.cut n) H a o:=by
 cases o with
 | lst ds=>obtain⟨vs,e,l⟩:=x;exact⟨vs,e,l.cut c⟩
 | dct ds=>obtain⟨vs,e,l⟩:=x;exact⟨vs,e,l.cut c⟩
 | dcH ds=>obtain⟨us,ps,e,l,l2,p⟩:=x;have c:=P1.mp c;exact⟨us,ps,e,l.cut c.1,l2.cut c.2,p⟩
 | exc _=>exact x
theorem AB.clean{K:FR}{ρ:Ad}{H:Hp}{a:Addr}{o:MO}(x:AB K ρ H a o):yc ρ.ob.length o=true:=by
 cases o with
 | lst ds=>obtain⟨vs,e,l⟩:=x;exact l.clean
 | dct ds=>obtain⟨vs,e,l⟩:=x;exact l.clean
 | dcH ds=>obtain⟨us,ps,e,l,l2,p⟩:=x;exact P1.mpr ⟨l.clean,l2.clean⟩
 | exc _=>rfl
noncomputable def yl(n:Nat)(h:MH)(d:D):D:=match d with
 | .ob m=>if m < n then .ob m else match h[m]? with
  | some (.lst xs)=>.lv xs
  | some (.dct kvs)=>.dv kvs
  | _=>.ob m
 | d=>d
noncomputable def leave(h:MH)(d:D)(h':MH):Option (D×MH):=
 if gJ h.length (yl h.length h' d)&&(wA (h'.take h.length) h||(h'.take h.length).all (yc h.length)) then some (yl h.length h' d,h'.take h.length) else none
noncomputable def Fd(len:Nat)(body:SM):Fn:=λds h=>((body (entry len ds) h).bind wY).bind λp=>leave h p.1 p.2
theorem dm.leave{K:FR}{ρ:Ad}{H H':Hp}{h h1 h':MH}{d d':D}{v:V}(S:bM K ρ h H)(p:dm K ρ H h1 d v H')(e:Sm.leave h d h1=some (d',h')):dm K ρ H h' d' v H':=by
 obtain⟨ρ1,T,S1,r⟩:=p;unfold Sm.leave at e
 by_cases hc:(gJ h.length (yl h.length h1 d)&&(wA (h1.take h.length) h||(h1.take h.length).all (yc h.length)))=true
 ·rw[Py hc] at e;cases e;rw[Qd] at hc;obtain⟨c1,c2⟩:=hc;have hle:h.length<=h1.length:=by
   rw[<-S.len,<-S1.len];refine Q4 λhlt=>?_;have e1:ρ.ob[ρ1.ob.length]?=some ρ.ob[ρ1.ob.length]:=PV hlt;have:=(Pq.mp (T.pre _ _ e1)).1
   lia
  have hall:∀(m:Nat) o,m < h.length->h1[m]?=some o->yc h.length o=true:=by
   intro m o hm ho;rw[Ra] at c2;rcases c2 with c2 | c2
   ·have e1:=Ax c2;have e2:h[m]?=some o:=by rw[<-e1,Qe hm];exact ho
    have hm':m < ρ.ob.length:=by rw[S.len];exact hm
    have:=(S.at_ m _ o (PV hm') e2).clean;rw[S.len] at this;exact this
   ·rw[Rh] at c2;exact c2 o (Pr (show(h1.take h.length)[m]?=some o by rw[Qe hm];exact ho))
  have Sc:bM K (ρ1.cut h.length) (h1.take h.length) H':=by
   refine⟨by simp[S1.len],S1.nd.sublist (Td _ _),λn a o e1 e2=>?_,λb hb=>⟨(S1.sH b hb).1,λm=>(S1.sH b hb).2 (Rw m)⟩,λP t=>⟨λz=>(S1.tb P t).1 (Ad.j7 z),(S1.tb P t).2⟩⟩;have hn:n < h.length:=by
    have:=(Pq.mp e2).1;rw[PY] at this
    lia
   have e1:(ρ1.ob.take h.length)[n]?=some a:=e1;rw[Qe hn] at e1 e2;exact(S1.at_ n a o e1 e2).cut (hall n o hn e2)
  refine⟨ρ1.cut h.length,⟨⟨λn a e=>?_,λb o n e=>?_⟩,T.rs,T.res⟩,Sc,?_⟩
  ·have hn:n < h.length:=by rw[<-S.len];exact(Pq.mp e).1
   show(ρ1.ob.take h.length)[n]?=some a;rw[Qe hn];exact T.pre n a e
  ·obtain⟨n1,e1⟩:=T.old b o n e;exact⟨λm=>n1 (Ad.j7 m),e1⟩
  ·cases d with
   | ob m=>
    unfold yl at c1 ⊢;dsimp only at c1 ⊢
    by_cases hm:m < h.length
    ·rw[Py hm] at c1 ⊢;exact r.cut c1
    ·rw[PH hm] at c1 ⊢;cases r with
     | ob hn=>
      rename_i a;have na:¬(ρ1.cut h.length).has a:=by
       intro z;rcases z with z | z
       ·obtain⟨j,hj⟩:=SH z;have hj1:j < h.length:=by
         have:=(Pq.mp hj).1;rw[PY] at this
         lia
        rw[Qe hj1] at hj;have:=(UD (Pq.mp hj).1 S1.nd).mp (hj.trans hn.symm)
        lia
       ·exact(S1.sH a z).2 (Pr hn)
      cases q:h1[m]? with
      | none=>rw[q] at c1;exact absurd c1 (by simp[gJ];lia)
      | some o=>
       have x:=S1.at_ m a o hn q;cases o with
       | lst xs=>
        rw[q] at c1;obtain⟨vs,e1,l⟩:=x;exact .lv e1 na (l.cut (by simpa [gJ] using c1))
       | dct xs=>
        rw[q] at c1;obtain⟨vs,e1,l⟩:=x;exact .dv e1 na (l.cut (by simpa [gJ] using c1))
       | dcH xs=>rw[q] at c1;exact absurd c1 (by simp[gJ];lia)
       | exc _=>rw[q] at c1;exact absurd c1 (by simp[gJ];lia)
   | _=>exact r.cut c1
 ·rw[PH hc] at e;cases e
section
variable {P:Program} {w:World} {K:FR} {mg:Str->Option Value} {base:Heap} {x qual:Str} {st:Stmt} {f:Addr} {fd:FuncData} {N ps:List Str} {k:Nat}
theorem fg(G:eI P w K mg base ni k f fd ps (AS K ps.length (jT N.length body))):eI P w K mg base ni k f fd ps (AS K ps.length (Fd N.length body)):=by
 refine G.imp λvs H Q E hh=>?_;obtain⟨ρ,h,ds,d,h',S,r,hl,e,q⟩:=hh;obtain⟨⟨d1,h1⟩,e1,e2⟩:=bE e;exact⟨ρ,h,ds,d1,h1,S,r,hl,e1,λv H' p=>q v H' (p.leave S e2)⟩
end
def spT(K:FR):Sp:=λvs H Q _=>∃(a:Addr)(ns:List Int),vs=[.ref a]/\gM K H a (ns.map V.int)/\ns.length<=63/\(∀b,ij K b->H b=some .tb)/\∀H',(∀b,ij K b->H' b=some .tb)->Q (.bl true) H'
theorem Gv{P:Program}{w:World}{K:FR}{mg:Str->Option Value}{base:Heap}{k:Nat}{f:Addr}{fd:FuncData}{ps:List Str}{F:Fn}(G:eI P w K mg base ni k f fd ps (AS K 1 F))
  (hF:∀ns:List Int,ns.length<=63->∃h',F [.ro (ns.map D.int)] []=some (.bl true,h')):eI P w K mg base ni k f fd ps (spT K):=by
 refine G.imp λvs H Q E hh=>?_;obtain⟨a,ns,rfl,ha,hl,ht,q⟩:=hh;obtain⟨h',e⟩:=hF ns hl;refine⟨⟨[],[]⟩,[],[.ro (ns.map D.int)],.bl true,h',⟨rfl,List.nodup_nil,λn a o e=>by simp at e,λb hb=>absurd hb (by simp),λP t=>⟨λz=>z.elim (λz=>absurd z (by simp)) λz=>absurd z (by simp),ht P t⟩⟩,.cons (.ro ?_ (jP ns)) .nil,rfl,e,λv H' ⟨ρ',T,S,r⟩=>?_⟩
 ·rcases ha with ha | ha
  ·exact .inl ⟨ha,λz=>z.elim (λz=>absurd z (by simp)) λz=>absurd z (by simp)⟩
  ·exact .inr (.inr ha)
 ·cases r;exact q H' λb t=>(S.tb b t).2
noncomputable def zL(h:MH)(d:D):Option PyData:=match d with
 | .ob n=>match h[n]? with
  | some (.lst xs)=>(oF xs).map .list
  | _=>none
 | d=>vw d
mutual
theorem Rep.sS{K:FR}{ρ:Ad}{H:Hp}{v:V}{d:D}{p:PyData}(r:Rep K ρ H v d)(e:vw d=some p):B5 K H v p/\p.canLay0=true:=by
 cases r with
 | cj=>cases e;exact⟨.cj,rfl⟩
 | bl b=>cases e;exact⟨.bl b,rfl⟩
 | int i=>cases e;exact⟨.int i,rfl⟩
 | str hs=>cases e;exact⟨.str _,by simpa [PyData.canLay0] using hs⟩
 | tup h l=>obtain⟨q,e1,rfl⟩:=gv e;obtain⟨a,b⟩:=aD.sS l e1;exact⟨.tup h.sq a,by simpa [PyData.canLay0] using b⟩
 | lv h n l=>obtain⟨q,e1,rfl⟩:=gv e;obtain⟨a,b⟩:=aD.sS l e1;exact⟨.lst (gM.of h) a,by simpa [PyData.canLay0] using b⟩
 | ro h l=>obtain⟨q,e1,rfl⟩:=gv e;obtain⟨a,b⟩:=aD.sS l e1;exact⟨.lst h.sq a,by simpa [PyData.canLay0] using b⟩
 | _=>exact bU e
theorem aD.sS{K:FR}{ρ:Ad}{H:Hp}{v:List V}{d:List D}{p:List PyData}(r:aD K ρ H v d)(e:oF d=some p):sr K H v p/\PyData.canLayAll0 p=true:=by
 cases r with
 | nil=>cases e;exact⟨.nil,rfl⟩
 | cons r l=>
  obtain⟨a,e1,e2⟩:=bE e;obtain⟨b,e3,rfl⟩:=gv e2;obtain⟨a1,a2⟩:=Rep.sS r e1;obtain⟨b1,b2⟩:=aD.sS l e3;exact⟨.cons a1 b1,by simp[PyData.canLayAll0,a2,b2]⟩
end
section
variable {K:FR} {ρ:Ad} {H:Hp} {h:MH} {v:V} {d:D}
theorem lX(S:bM K ρ h H)(r:Rep K ρ H v d)(e:zL h d=some p):B5 K H v p/\p.canLay0=true:=by
 cases r with
 | @ob a n hn=>
  unfold zL at e;dsimp only at e;cases q:h[n]? with
  | none=>rw[q] at e;cases e
  | some o=>
   rw[q] at e;cases o with
   | dct _=>exact bU e
   | dcH _=>exact bU e
   | exc _=>exact bU e
   | lst xs=>
    obtain⟨vs,e1,l⟩:=S.at_ n a _ hn q;obtain⟨b,e3,e4⟩:=gv e;subst e4;obtain⟨b1,b2⟩:=l.sS e3;exact⟨.lst (gM.of e1) b1,by simpa [PyData.canLay0] using b2⟩
 | cj=>exact Rep.sS (Rep.cj (ρ:=ρ)) e
 | bl b=>exact Rep.sS (Rep.bl (ρ:=ρ) b) e
 | int i=>exact Rep.sS (Rep.int (ρ:=ρ) i) e
 | str x=>exact Rep.sS (Rep.str (ρ:=ρ) x) e
 | ty n=>exact Rep.sS (Rep.ty (ρ:=ρ) n) e
 | tup h l=>exact Rep.sS (.tup h l) e
 | lv h n l=>exact Rep.sS (.lv h n l) e
 | ro h l=>exact Rep.sS (.ro h l) e
 | dv h n l=>exact Rep.sS (.dv h n l) e
noncomputable def dS(d:D)(h:MH):Option (List D):=match d with
 | .lv xs=>some xs
 | .ob n=>match h[n]? with
  | some (.lst xs)=>some xs
  | _=>none
 | _=>none
theorem eh(S:bM K ρ h H)(r:Rep K ρ H v d)(e:dS d h=some xs):∃a vs,v=.ref a/\H a=some (.lst vs)/\aD K ρ H vs xs:=by
 cases r with
 | @ob a n hn=>
  unfold dS at e;dsimp only at e;cases q:h[n]? with
  | none=>rw[q] at e;cases e
  | some o=>
   rw[q] at e;cases o with
   | dct _=>exact bU e
   | dcH _=>exact bU e
   | exc _=>exact bU e
   | lst ys=>
    cases e;obtain⟨vs,e1,l⟩:=S.at_ n a _ hn q;exact⟨a,vs,rfl,e1,l⟩
 | lv h n l=>cases e;exact⟨_,_,rfl,h,l⟩
 | _=>exact bU e
noncomputable def dU(d:D)(h:MH):Option (List (Key×D)):=match d with
 | .dv kvs=>some kvs
 | .ob n=>match h[n]? with
  | some (.dct kvs)=>some kvs
  | _=>none
 | _=>none
theorem iR(S:bM K ρ h H)(r:Rep K ρ H v d)(e:dU d h=some xs):∃a vs,v=.ref a/\H a=some (.dK vs)/\bD K ρ H vs xs:=by
 cases r with
 | @ob a n hn=>
  unfold dU at e;dsimp only at e;cases q:h[n]? with
  | none=>rw[q] at e;cases e
  | some o=>
   rw[q] at e;cases o with
   | lst _=>exact bU e
   | dcH _=>exact bU e
   | exc _=>exact bU e
   | dct ys=>
    cases e;obtain⟨vs,e1,l⟩:=S.at_ n a _ hn q;exact⟨a,vs,rfl,e1,l⟩
 | dv h n l=>cases e;exact⟨_,_,rfl,h,l⟩
 | _=>exact bU e
theorem lF(S:bM K ρ h H)(r:Rep K ρ H v d)(e:dq d h=some (xs,ws)):∃a vs,v=.ref a/\(gM K H a vs\/kG K H a vs)/\aD K ρ H vs xs:=by
 obtain⟨a,e1,⟨vs,q,l⟩,_⟩:=qz S r e;refine⟨a,vs,e1,?_,l⟩;generalize y1 d=b at q;cases q with
 | l q=>exact .inl q
 | t q=>exact .inr q
noncomputable def vO:D->Option Key
 | .int i=>some (.inl i)
 | .str x=>some (.inr x)
 | _=>none
noncomputable def pD(kvs:List (Key×D))(k:Key):Option D:=(kvs.find? λkv=>decide (kv.1=k)).map (·.2)
noncomputable def putD(kvs:List (Key×D))(k:Key)(v:D):List (Key×D):=
 if(kvs.any λkv=>decide (kv.1=k))=true then kvs.map (λkv=>if kv.1=k then(kv.1,v) else kv) else kvs++[(k,v)]
theorem jY(r:Rep K ρ H v d)(e:vO d=some k):v=kV k:=by
 cases r with
 | int i=>cases e;rfl
 | str x=>cases e;rfl
 | _=>exact bU e
theorem bD.val:∀{us:List (Key×V)} {kvs:List (Key×D)} (k:Key),bD K ρ H us kvs->(pD kvs k=none/\i8 us k=none)\/∃d v,pD kvs k=some d/\i8 us k=some v/\Rep K ρ H v d:=by
 intro us
 induction us with
 | nil=>intro kvs k a;cases a;exact .inl ⟨rfl,rfl⟩
 | cons u us ih=>
  intro kvs k a;cases a with | @cons j v _ d ds r l=>
  by_cases z:j=k
  ·exact .inr ⟨d,v,by simp[pD,z],by simp[i8,z],r⟩
  ·have h1:pD ((j,d)::ds) k=pD ds k:=by simp only[pD,Rr,z,decide_false]
   have h2:i8 ((j,v)::us) k=i8 us k:=lz z;rw[h1,h2];exact ih k l
theorem bD.length:∀{us:List (Key×V)} {kvs:List (Key×D)},bD K ρ H us kvs->us.length=kvs.length:=by
 intro us
 induction us with
 | nil=>intro kvs a;cases a;rfl
 | cons u us ih=>intro kvs a;cases a with | cons _ l=>rw[PK,PK,ih l]
theorem bD.any(k:Key):∀{us:List (Key×V)} {kvs:List (Key×D)},bD K ρ H us kvs->(us.any λkv=>decide (kv.1=k))=(kvs.any λkv=>decide (kv.1=k))
 | _,_,.nil=>rfl
 | _,_,.cons _ l=>by rw[Rt,Rt,bD.any k l]
theorem bD.map(r:Rep K ρ H v d):∀{us:List (Key×V)} {kvs:List (Key×D)},bD K ρ H us kvs->bD K ρ H (us.map λkv=>if kv.1=k then(kv.1,v) else kv) (kvs.map λkv=>if kv.1=k then(kv.1,d) else kv)
 | _,_,.nil=>.nil
 | _,_,.cons (k:=j) q l=>by
  rw[PN,PN]
  by_cases z:j=k
  ·rw[Py z,Py z];exact .cons r (bD.map r l)
  ·rw[PH z,PH z];exact .cons q (bD.map r l)
theorem bD.append:∀{us vs:List (Key×V)} {ks ls:List (Key×D)},bD K ρ H us ks->bD K ρ H vs ls->bD K ρ H (us++vs) (ks++ls):=by
 intro us vs
 induction us with
 | nil=>intro ks ls a t;cases a;exact t
 | cons u us ih=>intro ks ls a t;cases a with | cons r l=>exact .cons r (ih l t)
theorem bD.put(l:bD K ρ H us kvs)(r:Rep K ρ H v d):bD K ρ H (putK us k v) (putD kvs k d):=by
 unfold putK putD;rw[l.any k]
 by_cases z:(kvs.any λkv=>decide (kv.1=k))=true
 ·rw[Py z,Py z];exact l.map r
 ·rw[PH z,PH z];exact l.append (.cons r .nil)
end
noncomputable def tq(d e:D)(h:MH):Option (D×MH):=match d,e with
 | .int i,.int j=>some (.int (i+j),h)
 | .str a,.str b=>if a.length+b.length<=sizeLine then some (.str (a++b),h) else none
 | .tup [],.tup _=>none
 | .tup (x::xs),.tup ys=>if xs.length+1+ys.length<=sizeLine then some (.tup (x::xs++ys),h) else none
 | d,e=>(dS d h).bind λxs=>(dS e h).bind λys=>if xs.length+ys.length<=sizeLine then some (.lv (xs++ys),h) else none
noncomputable def mG(d e:D)(h:MH):Option (D×MH):=match d,e with
 | .int i,.int j=>some (.int (i-j),h)
 | _,_=>none
noncomputable def my(i j:Int):Bool:=(decide (-(2^64) < i)&&decide (i < 2^64))||(decide (-(2^64) < j)&&decide (j < 2^64))
noncomputable def JW(d e:D)(h:MH):Option (D×MH):=match d,e with
 | .int i,.int j=>if my i j then some (.int (i*j),h) else none
 | _,_=>none
noncomputable def rL(d e:D)(h:MH):Option (D×MH):=match d,e with
 | .int i,.int j=>if 0 < j then some (.int (i % j),h) else none
 | _,_=>none
noncomputable def Ep(d e:D)(h:MH):Option (D×MH):=match d,e with
 | .int i,.int j=>if 0 < j/\j<=10^40 then some (.int (i / j),h) else none
 | _,_=>none
noncomputable def Ej(d e:D)(h:MH):Option (D×MH):=match d,e with
 | .int i,.int j=>if 0<=j/\j<=1000000/\i.natAbs < 2^64 then some (.int (i^j.toNat),h) else none
 | _,_=>none
noncomputable def EG(f:Int->Int->Bool)(d e:D)(h:MH):Option (D×MH):=match d,e with
 | .int i,.int j=>some (.bl (f i j),h)
 | _,_=>none
noncomputable def BG:=EG λi j=>decide (i < j)
noncomputable def JX:=EG λi j=>decide (i<=j)
noncomputable def vV:=EG λi j=>decide (j < i)
noncomputable def Mn:=EG λi j=>decide (j<=i)
noncomputable def Hq(d e:D)(h:MH):Option Bool:=(zL h d).bind λa=>(zL h e).bind λb=>if a.depth<=64/\b.depth<=64 then some (PyData.eqv a b) else none
noncomputable def OR:D->Bool
 | .cj=>true
 | _=>false
noncomputable def JY(d e:D)(h:MH):Option (D×MH):=match e with
 | .cj=>some (.bl (OR d),h)
 | _=>none
noncomputable def j9(d:D)(h:MH):Option (D×MH):=match d with
 | .int i=>some (.int (-i),h)
 | _=>none
noncomputable def inD(d e:D)(h:MH):Option Bool:=match dU e h with
 | some kvs=>(vO d).map λk=>(pD kvs k).isSome
 | none=>match d,e with
  | .str x,.str y=>some (!(Builtin.Str.occurrences y x 0 y.length 1).isEmpty)
  | d,e=>(dq e h).bind λp=>(zL h d).bind λa=>(oF p.1).bind λbs=>if a.depth<=60/\PyData.depthAll bs<=60 then some (bs.any λb=>PyData.eqv b a) else none
noncomputable def Oi(d e:D)(h:MH):Option (D×MH):=(inD d e h).map λc=>(.bl c,h)
noncomputable def iO(d e:D)(h:MH):Option (D×MH):=(inD d e h).map λc=>(.bl (!c),h)
noncomputable def aQ(d e:D)(h:MH):Option (D×MH):=match dU d h with
 | some kvs=>(vO e).bind λk=>(pD kvs k).map λz=>(z,h)
 | none=>match d,e with
  | .str z,.int i=>if z.length<=sizeLine then(gK z.cps.toList i).map λc=>(.str ⟨#[c]⟩,h) else none
  | d,.int i=>(dq d h).bind λp=>(gK p.1 i).map λz=>(z,h)
  | _,_=>none
theorem jl{K:FR}{ρ:Ad}{H:Hp}{x:V}{i:Int}(r:Rep K ρ H x (.int i)):x=.int i:=by cases r;rfl
theorem yC{K:FR}{ρ:Ad}{H:Hp}{x:V}{i:Str}(r:Rep K ρ H x (.str i)):x=.str i/\PyData.strOk i=true:=by cases r with | str h=>exact⟨rfl,h⟩
theorem C7{K:FR}{ρ:Ad}{H:Hp}{x:V}{ds:List D}(r:Rep K ρ H x (.tup ds)):∃a vs,x=.ref a/\TupAt K ρ H a vs/\aD K ρ H vs ds:=by cases r with | tup h l=>exact⟨_,_,rfl,h,l⟩
theorem vz(ho:oj X g (rI C q))(hf:∀d e h z h',f d e h=some (z,h')->∃i j,d=.int i/\e=.int j/\C i j/\h'=h/\∀ρ H,Rep X.K ρ H (q i j) z):oh X g f:=by
 intro pins s σ H x y v u Q I rx ry hh;obtain⟨ρ,h,d,e,z,h',S,rd,re,ee,k⟩:=hh;obtain⟨i,j,rfl,rfl,c,rfl,rz⟩:=hf _ _ _ _ _ ee;obtain rfl:=jl rd;obtain rfl:=jl re;exact ho pins s σ H _ _ v u Q I rx ry ⟨i,j,rfl,rfl,c,k _ _ (.here S (rz _ _))⟩
theorem mq(ho:oj X g (FO q))(hf:∀d e h z h',f d e h=some (z,h')->∃i j,d=.int i/\e=.int j/\h'=h/\∀ρ H,Rep X.K ρ H (q i j) z):oh X g f:=by
 intro pins s σ H x y v u Q I rx ry hh;obtain⟨ρ,h,d,e,z,h',S,rd,re,ee,k⟩:=hh;obtain⟨i,j,rfl,rfl,rfl,rz⟩:=hf _ _ _ _ _ ee;obtain rfl:=jl rd;obtain rfl:=jl re;exact ho pins s σ H _ _ v u Q I rx ry ⟨i,j,rfl,rfl,k _ _ (.here S (rz _ _))⟩
theorem yK:oh X (binaryOp .Sub) mG:=mq Jj λd e h z h' ee=>by
 cases d <;> first |(exact bU ee) | skip
 cases e <;> first |(exact bU ee) | skip
 cases ee;exact⟨_,_,rfl,rfl,rfl,λ_ _=>.int _⟩
theorem Jd:oh X (binaryOp .Mult) JW:=vz Jm λd e h z h' ee=>by
 cases d <;> first |(exact bU ee) | skip
 cases e <;> first |(exact bU ee) | skip
 rename_i i j;unfold JW at ee;dsimp only at ee
 by_cases c:my i j=true
 ·rw[Py c] at ee;cases ee;refine⟨i,j,rfl,rfl,?_,rfl,λ_ _=>.int _⟩;unfold my at c;simp only[Ra,Qd,Qp] at c;exact c
 ·rw[PH c] at ee;cases ee
theorem q9:oh X (binaryOp .Mod) rL:=vz Jn λd e h z h' ee=>by
 cases d <;> first |(exact bU ee) | skip
 cases e <;> first |(exact bU ee) | skip
 rename_i i j;unfold rL at ee;dsimp only at ee
 by_cases c:0 < j
 ·rw[Py c] at ee;cases ee;exact⟨i,j,rfl,rfl,c,rfl,λ_ _=>.int _⟩
 ·rw[PH c] at ee;cases ee
theorem Jg:oh X (binaryOp .FloorDiv) Ep:=vz DL λd e h z h' ee=>by
 cases d <;> first |(exact bU ee) | skip
 cases e <;> first |(exact bU ee) | skip
 rename_i i j;unfold Ep at ee;dsimp only at ee
 by_cases c:0 < j/\j<=10^40
 ·rw[Py c] at ee;cases ee;exact⟨i,j,rfl,rfl,c,rfl,λ_ _=>.int _⟩
 ·rw[PH c] at ee;cases ee
theorem yL:oh X (binaryOp .Pow) Ej:=vz Jl λd e h z h' ee=>by
 cases d <;> first |(exact bU ee) | skip
 cases e <;> first |(exact bU ee) | skip
 rename_i i j;unfold Ej at ee;dsimp only at ee
 by_cases c:0<=j/\j<=1000000/\i.natAbs < 2^64
 ·rw[Py c] at ee;cases ee;exact⟨i,j,rfl,rfl,c,rfl,λ_ _=>.int _⟩
 ·rw[PH c] at ee;cases ee
theorem Aq(ee:EG f d e h=some (z,h')):∃i j,d=.int i/\e=.int j/\h'=h/\z=.bl (f i j):=by
 cases d <;> first |(exact bU ee) | skip
 cases e <;> first |(exact bU ee) | skip
 cases ee;exact⟨_,_,rfl,rfl,rfl,rfl⟩
theorem DI:oh X (compareOp .Lt) BG:=mq LW λd e h z h' ee=>by
 obtain⟨i,j,rfl,rfl,rfl,rfl⟩:=Aq ee;exact⟨i,j,rfl,rfl,rfl,λ_ _=>.bl _⟩
theorem DJ:oh X (compareOp .LtE) JX:=mq LX λd e h z h' ee=>by
 obtain⟨i,j,rfl,rfl,rfl,rfl⟩:=Aq ee;exact⟨i,j,rfl,rfl,rfl,λ_ _=>.bl _⟩
theorem DK:oh X (compareOp .Gt) vV:=mq LY λd e h z h' ee=>by
 obtain⟨i,j,rfl,rfl,rfl,rfl⟩:=Aq ee;exact⟨i,j,rfl,rfl,rfl,λ_ _=>.bl _⟩
theorem Hl:oh X (compareOp .GtE) Mn:=mq LZ λd e h z h' ee=>by
 obtain⟨i,j,rfl,rfl,rfl,rfl⟩:=Aq ee;exact⟨i,j,rfl,rfl,rfl,λ_ _=>.bl _⟩
theorem uM:MF X (unaryOp .USub) (rU X.K j9):=by
 intro pins s σ H x v Q I rx hh;obtain⟨ρ,h,d,z,h',S,rd,ee,k⟩:=hh;cases rd <;> first |(exact bU ee) | skip
 cases ee;exact HN pins s σ H _ v Q I rx ⟨_,rfl,k _ _ (.here S (.int _))⟩
noncomputable def Kn(d e:D)(h:MH):Option (D×MH):=(dS d h).bind λxs=>(dS e h).bind λys=>if xs.length+ys.length<=sizeLine then some (D.lv (xs++ys),h) else none
def M3(d e:D)(h:MH)(p:D×MH):Prop:=(∃i j,d=.int i/\e=.int j)\/(∃a b,d=.str a/\e=.str b)\/(∃x xs ys,d=.tup (x::xs)/\e=.tup ys)\/Kn d e h=some p
theorem wC{d e:D}{h:MH}{p:D×MH}(z:Kn d e h=some p):M3 d e h p:=.inr (.inr (.inr z))
theorem Er{d e:D}{h:MH}{p:D×MH}(ee:tq d e h=some p):M3 d e h p:=by
 cases d with
 | int i=>cases e with
  | int j=>exact .inl ⟨i,j,rfl,rfl⟩
  | _=>exact wC ee
 | str a=>cases e with
  | str b=>exact .inr (.inl ⟨a,b,rfl,rfl⟩)
  | _=>exact wC ee
 | tup xs=>cases e with
  | tup ys=>cases xs with
   | nil=>exact bU ee
   | cons x xs=>exact .inr (.inr (.inl ⟨x,xs,ys,rfl,rfl⟩))
  | _=>cases xs <;> exact wC ee
 | _=>exact wC ee
theorem Jh:oh X (binaryOp .Add) tq:=by
 intro pins s σ H x y v u Q I rx ry hh;obtain⟨ρ,h,d,e,z,h',S,rd,re,ee,k⟩:=hh;have lists:((dS d h).bind λxs=>(dS e h).bind λys=>if xs.length+ys.length<=sizeLine then some (D.lv (xs++ys),h) else none)=some (z,h')->wpAny (model X.prog X.w) X.A (binaryOp .Add v u) (EP X pins σ Q) X.xe s:=by
  intro ee;obtain⟨xs,e1,e4⟩:=bE ee;obtain⟨ys,e2,e3⟩:=bE e4
  by_cases c:xs.length+ys.length<=sizeLine
  ·rw[Py c] at e3;cases e3;obtain⟨a,vs,rfl,ha,la⟩:=eh S rd e1;obtain⟨b,us,rfl,hb,lb⟩:=eh S re e2;exact DN pins s σ H _ _ v u Q I rx ry ⟨a,b,vs,us,rfl,rfl,ha,hb,by rw[la.length,lb.length];exact c,λp hp=>k _ _ (.lv S (la.append lb) hp)⟩
  ·rw[PH c] at e3;cases e3
 rcases(Er ee:(∃i j,d=.int i/\e=.int j)\/(∃a b,d=.str a/\e=.str b)\/(∃x xs ys,d=.tup (x::xs)/\e=.tup ys)\/Kn d e h=some (z,h')) with⟨i,j,rfl,rfl⟩ |⟨a,b,rfl,rfl⟩ |⟨x0,xs,ys,rfl,rfl⟩ | z
 ·cases ee;obtain rfl:=jl rd;obtain rfl:=jl re;exact Jp pins s σ H _ _ v u Q I rx ry ⟨_,_,rfl,rfl,k _ _ (.here S (.int _))⟩
 ·unfold tq at ee;dsimp only at ee
  by_cases c:a.length+b.length<=sizeLine
  ·rw[Py c] at ee;cases ee;obtain⟨rfl,h1⟩:=yC rd;obtain⟨rfl,h2⟩:=yC re;exact yM pins s σ H _ _ v u Q I rx ry ⟨a,b,rfl,rfl,c,k _ _ (.here S (.str (gO h1 h2)))⟩
  ·rw[PH c] at ee;cases ee
 ·unfold tq at ee;dsimp only at ee
  by_cases c:xs.length+1+ys.length<=sizeLine
  ·rw[Py c] at ee;cases ee;obtain⟨a,vs,rfl,h1,l1⟩:=C7 rd;obtain⟨b,us,rfl,h2,l2⟩:=C7 re;refine Ge pins s σ H _ _ v u Q I rx ry ⟨a,b,vs,us,rfl,rfl,h1.sq,h2.sq,?_,?_,λz=>?_,λ_ p hp=>k _ _ (.tup S (l1.append l2) hp)⟩
   ·intro z;rw[z] at l1;cases l1
   ·rw[l1.length,l2.length];exact c
   ·rw[z] at l2;cases l2;rw[Qu] at k;exact k _ _ (.here S (.tup h1 l1))
  ·rw[PH c] at ee;cases ee
 ·exact lists z
theorem j5(h1:p.canLay0=true)(h2:p.depth<=64):SeqAt.shaped p=true:=by
 unfold PySem.SeqAt.shaped;rw[h1,Qb h2];rfl
theorem FK{K:FR}{ρ:Ad}{H:Hp}{v:V}{d:D}(r:Rep K ρ H v d):decide (v=V.cj)=OR d:=by
 cases r <;> rfl
theorem Je:oh X (compareOp .Is) JY:=by
 intro pins s σ H x y v u Q I rx ry hh;obtain⟨ρ,h,d,e,z,h',S,rd,re,ee,k⟩:=hh;cases e <;> first |(exact bU ee) | skip
 cases ee;cases re;refine Jo pins s σ H _ _ v u Q I rx ry ⟨rfl,?_⟩;rw[FK rd];exact k _ _ (.here S (.bl _))
theorem uG{us:List Value}{ds:List PyData}{as:List Addr}(H:ReadsAll h us ds as)(hf:∀u d as,u∈us->Reads h u d as->d∈ds->f u=PyData.eqv d p):us.any f=ds.any λb=>PyData.eqv b p:=by
 cases H with
 | nil=>rfl
 | cons r l=>rw[Rt,Rt,hf _ _ _ Px r Px,uG l λu d as hu hr hd=>hf u d as (Pz _ hu) hr (Pz _ hd)]
open Classical in
noncomputable def Am(h:Heap)(p:PyData)(u:Value):Bool:=if q:∃d as,Reads h u d as/\d.canLay0=true then PyData.eqv q.choose p else false
theorem nX(r:Reads h u d as)(c:d.canLay0=true):Am h p u=PyData.eqv d p:=by
 have q:∃d as,Reads h u d as/\d.canLay0=true:=⟨d,as,r,c⟩;unfold Am;rw[dif_pos q];obtain⟨as',r',c'⟩:=q.choose_spec;rw[PySem.SeqAt.Reads.unique _ _ _ _ _ c' r' r]
theorem cp:∀{ds:List PyData} {d:PyData},PyData.canLayAll0 ds=true->d∈ds->d.canLay0=true
 | x::r,d,c,m=>by
  simp only[PyData.canLayAll0,Qd] at c;rcases PB.mp m with rfl | m
  ·exact c.1
  ·exact cp c.2 m
theorem j6:∀{ds:List PyData} {d:PyData},d∈ds->d.depth<=PyData.depthAll ds
 | x::r,d,m=>by
  simp only[PyData.depthAll];rcases PB.mp m with rfl | m
  ·lia
  ·have:=j6 m;lia
theorem jQ{us:List Value}{ds:List PyData}{as:List Addr}(H:ReadsAll h us ds as)(y:Value)(hy:y∈us):∃d as,Reads h y d as/\d∈ds:=by
 cases H with
 | nil=>cases hy
 | cons r l=>
  rcases PB.mp hy with rfl | hy
  ·exact⟨_,_,r,Px⟩
  ·obtain⟨d,as,a1,a2⟩:=jQ l y hy;exact⟨d,as,a1,Pz _ a2⟩
theorem in_of(hu:X.A.units+64 < cLine)(I:L2.Inv X pins σ H s)(rx:L2.RelV x v)(ry:L2.RelV y u)(S:bM X.K ρ h H)(rd:Rep X.K ρ H x d)(re:Rep X.K ρ H y e){c:Bool}(ee:inD d e h=some c){Q:Bool->Shared->Prop}(hq:∀s',L2.Inv X pins σ H s'->Q c s'):
  wpAny (model X.prog X.w) X.A (compareOp .In v u) (λr s'=>∃c,r=.bool c/\Q c s') X.xe s/\wpAny (model X.prog X.w) X.A (compareOp .NotIn v u) (λr s'=>∃c,r=.bool (!c)/\Q c s') X.xe s:=by
 unfold inD at ee;cases qd:dU e h with
 | some kvs=>
  rw[qd] at ee;obtain⟨k,e1,e2⟩:=gv ee;obtain⟨a,us,rfl,ha,l⟩:=iR S re qd;obtain rfl:u=Value.ref a:=ry;have ek:=jY rd e1;subst ek;have g:m9 H a (kV k) (i8 us k):=m9.k ha;have ec:(i8 us k).isSome=c:=by
   rw[<-e2];rcases l.val k with⟨h1,h2⟩ |⟨d,v,h1,h2,_⟩
   ·rw[h1,h2];rfl
   ·rw[h1,h2];rfl
  refine⟨Om (by lia) I g rx λs' I'=>⟨c,by rw[ec],hq s' I'⟩,GL (by lia) I g rx λs' I'=>⟨c,by rw[ec],hq s' I'⟩⟩
 | none=>
  rw[qd] at ee;dsimp only at ee;have seqs:((dq e h).bind λp=>(zL h d).bind λa=>(oF p.1).bind λbs=>if a.depth<=60/\PyData.depthAll bs<=60 then some (bs.any λb=>PyData.eqv b a) else none)=some c->
    wpAny (model X.prog X.w) X.A (compareOp .In v u) (λr s'=>∃c,r=.bool c/\Q c s') X.xe s/\wpAny (model X.prog X.w) X.A (compareOp .NotIn v u) (λr s'=>∃c,r=.bool (!c)/\Q c s') X.xe s:=by
   intro ee;obtain⟨⟨xs,ws⟩,e1,e2⟩:=bE ee;obtain⟨p,e3,e4⟩:=bE e2;obtain⟨bs,e5,e6⟩:=bE e4
   by_cases w:p.depth<=60/\PyData.depthAll bs<=60
   ·rw[Py w] at e6;cases e6;obtain⟨a,vs,rfl,hq',l⟩:=lF S re e1;obtain rfl:u=Value.ref a:=ry;obtain⟨r1,c1⟩:=lX S rd e3;obtain⟨r2,c2⟩:=l.sS e5;obtain⟨as,ra⟩:=r1.reads I rx;have key:∀its:List Value,Vals vs its->(∀y,y∈its->PySem.SeqAt.EqAt X.A.in1 s y v (Am s.heap p y))/\its.any (Am s.heap p)=bs.any λb=>PyData.eqv b p:=by
     intro its rv;obtain⟨bs',rb⟩:=r2.reads I rv;refine⟨λy hy=>?_,uG rb λu d as _ hr hd=>nX hr (cp c2 hd)⟩;obtain⟨d,as',hr,hd⟩:=jQ rb y hy;rw[nX hr (cp c2 hd)];refine RH d p _ s y v as' as hr ra (cp c2 hd) c1 ?_;have h1:=j6 hd;have h2:min d.depth p.depth<=d.depth:=Su _ _;show X.A.units+1+min d.depth p.depth < cLine;have h3:=w.2
     lia
    rcases hq' with hq' | hq'
    ·obtain⟨its,rv,pl,_⟩:=I.list hq';obtain⟨k1,k2⟩:=key its rv;have k1':∀y,y∈its.toArray->PySem.SeqAt.EqAt X.A.in1 s y v (Am s.heap p y):=λy hy=>k1 y (by simpa using hy);have k2':its.toArray.any (Am s.heap p)=bs.any λb=>PyData.eqv b p:=by rw[<-k2];simp
     exact⟨PySem.SeqAt.in_listAt _ pl.isList k1' ⟨_,rfl,by rw[k2'];exact hq s I⟩,PySem.SeqAt.notIn_listAt _ pl.isList k1' ⟨_,rfl,by rw[k2'];exact hq s I⟩⟩
    ·obtain⟨its,rv,pl,_⟩:=I.tuple hq';obtain⟨k1,k2⟩:=key its rv;have k1':∀y,y∈its.toArray->PySem.SeqAt.EqAt X.A.in1 s y v (Am s.heap p y):=λy hy=>k1 y (by simpa using hy);have k2':its.toArray.any (Am s.heap p)=bs.any λb=>PyData.eqv b p:=by rw[<-k2];simp
     exact⟨PySem.SeqAt.in_tupleAt _ pl k1' ⟨_,rfl,by rw[k2'];exact hq s I⟩,PySem.SeqAt.notIn_tupleAt _ pl k1' ⟨_,rfl,by rw[k2'];exact hq s I⟩⟩
   ·rw[PH w] at e6;cases e6
  split at ee
  ·cases ee;cases rd;cases re;obtain⟨t,rfl⟩:=rx;obtain⟨t',rfl⟩:=ry;exact⟨in_str ⟨_,rfl,hq s I⟩,notIn_str ⟨_,rfl,hq s I⟩⟩
  ·exact seqs ee
theorem LU(hu:X.A.units+64 < cLine):oh X (compareOp .In) Oi:=by
 intro pins s σ H x y v u Q I rx ry hh;obtain⟨ρ,h,d,e,z,h',S,rd,re,ee,k⟩:=hh;obtain⟨c,e1,e2⟩:=gv ee;cases e2;refine cM (in_of hu I rx ry S rd re e1 (Q:=λc' s'=>c'=c/\L2.Inv X pins σ H s') λs' I'=>⟨rfl,I'⟩).1 λr s' ⟨c',hr,hc,I'⟩=>?_;subst hr;subst hc;exact⟨.bl _,H,I',rfl,k _ _ (.here S (.bl _))⟩
theorem xn(hu:X.A.units+64 < cLine):oh X (compareOp .NotIn) iO:=by
 intro pins s σ H x y v u Q I rx ry hh;obtain⟨ρ,h,d,e,z,h',S,rd,re,ee,k⟩:=hh;obtain⟨c,e1,e2⟩:=gv ee;cases e2;refine cM (in_of hu I rx ry S rd re e1 (Q:=λc' s'=>c'=c/\L2.Inv X pins σ H s') λs' I'=>⟨rfl,I'⟩).2 λr s' ⟨c',hr,hc,I'⟩=>?_;subst hr;subst hc;exact⟨.bl _,H,I',rfl,k _ _ (.here S (.bl _))⟩
theorem GZ{K:FR}{ρ:Ad}{H:Hp}{vs:List V}{ds:List D}{i:Int}{d:D}(l:aD K ρ H vs ds)(e:gK ds i=some d):∃v,gK vs i=some v/\Rep K ρ H v d:=by
 unfold gK at e;obtain⟨j,e1,e2⟩:=bE e;obtain⟨v,e3,r⟩:=l.got e2;exact⟨v,by unfold gK;rw[l.length,e1];exact e3,r⟩
theorem BJ{d e z:D}{h h':MH}(ee:aQ d e h=some (z,h')):h'=h/\((∃kvs k,dU d h=some kvs/\vO e=some k/\pD kvs k=some z)\/(∃x i c,d=.str x/\e=.int i/\x.length<=sizeLine/\gK x.cps.toList i=some c/\z=.str ⟨#[c]⟩)\/∃i xs ws,e=.int i/\dq d h=some (xs,ws)/\gK xs i=some z):=by
 unfold aQ at ee
 split at ee
 ·obtain⟨ky,e1,e2⟩:=bE ee;obtain⟨z',e3,e4⟩:=gv e2;cases e4;exact⟨rfl,.inl ⟨_,ky,‹_›,e1,e3⟩⟩
 ·split at ee
  ·split at ee
   ·obtain⟨c,e3,e4⟩:=gv ee;cases e4;exact⟨rfl,.inr (.inl ⟨_,_,c,rfl,rfl,‹_›,e3,rfl⟩)⟩
   ·cases ee
  ·obtain⟨⟨xs,ws⟩,e1,e2⟩:=bE ee;obtain⟨z',e3,e4⟩:=gv e2;cases e4;exact⟨rfl,.inr (.inr ⟨_,xs,ws,rfl,e1,e3⟩)⟩
  ·cases ee
theorem Mc(hu:X.A.units+64 < cLine):MY X (rS X.K aQ):=by
 intro value slice pins s σ H x y v u Q I rx ry hh hs;obtain⟨ρ,h,d,e,z,h',S,rd,re,ee,k⟩:=hh;obtain⟨rfl,hc⟩:=BJ ee;rcases hc with⟨kvs,ky,qd,e1,e3⟩ |⟨x0,i,ch,rfl,rfl,c,e3,rfl⟩ |⟨i,xs,ws,rfl,e1,e3⟩
 ·obtain⟨a,us,rfl,ha,l⟩:=iR S rd qd;obtain rfl:v=Value.ref a:=rx;have ek:=jY re e1;subst ek;rcases l.val ky with⟨h1,h2⟩ |⟨d',w,h1,h2,r⟩
  ·rw[h1] at e3;cases e3
  ·rw[h1] at e3;cases e3;have g:m9 H a (kV ky) (some w):=by rw[<-h2];exact m9.k ha
   exact tail_any (xO I g) Tw.lookup (BO (by lia) I g ry λw' s3 I3 rw'=>⟨w,H,I3,rw',k _ _ (.here S r)⟩) hs
 ·obtain⟨rfl,hs0⟩:=yC rd;obtain rfl:=jl re;exact JL value slice pins s σ H _ _ v u Q I rx ry ⟨x0,i,ch,rfl,rfl,c,e3,k _ _ (.here S (.str (AR hs0 e3)))⟩ hs
 ·obtain⟨a,vs,rfl,hq',l⟩:=lF S rd e1;obtain⟨w,e5,r⟩:=GZ l e3;obtain rfl:=jl re;rcases hq' with hq' | hq'
  ·exact Gy value slice pins s σ H _ _ v u Q I rx ry ⟨a,vs,i,w,rfl,rfl,hq',e5,k _ _ (.here S r)⟩ hs
  ·exact JK value slice pins s σ H _ _ v u Q I rx ry ⟨a,vs,i,w,rfl,rfl,hq',e5,k _ _ (.here S r)⟩ hs
theorem Lx(hu:X.A.units+64 < cLine)(ha:SE X a ma)(hb:SE X b mb)(hs:mZ b:=by unfold mZ;intro _ _;ac_nf):SE X (.Subscript a b pos) (ak aQ ma mb):=(LO (Mc hu) ha hb hs).imp λ_ _ _=>zJ
abbrev PM:=DS->MH->Option (Option Int×MH)
noncomputable def tV:PM:=λ_ h=>some (none,h)
noncomputable def tW(e:EM):PM:=λδ h=>(e δ h).bind λp=>match p.1 with
 | .int i=>some (some i,p.2)
 | _=>none
inductive MN(K:FR)(m:PM)(σ:L2.St)(H:Hp)(Q:Option Int->Hp->Prop):Prop where
 | mk (ρ δ h b h'):cI K ρ H σ δ->bM K ρ h H->(m δ h=some (b,h'))->(∀ρ' H',df ρ H ρ' H'->bM K ρ' h' H'->Q b H')->MN K m σ H Q
noncomputable def Pc(K:FR)(m:PM):TO:=λσ H Q=>MN K m σ H Q
def SP'(X:Cx)(e:Option Expr)(m:PM):Prop:=PO X e (Pc X.K m)
theorem zC:SP' X none tV:=λpins s σ H Q I hh=>by
 obtain⟨ρ,δ,h,b,h',R,S,e,k⟩:=hh;cases e;exact F3 pins s σ H Q I (k ρ H (.refl _ _) S)
theorem zB(he:SE X e ma):SP' X (some e) (tW ma):=λpins s σ H Q I hh=>by
 obtain⟨ρ,δ,h,b,h',R,S,e,k⟩:=hh;obtain⟨⟨x,h1⟩,e1,e2⟩:=bE e;cases x <;> first |(cases e2;done) | skip
 cases e2;refine F2 he pins s σ H Q I ⟨ρ,δ,h,_,_,R,S,e1,λv H' ⟨ρ',T,S',r⟩=>?_⟩;cases r;exact⟨_,rfl,k ρ' H' T S'⟩
noncomputable def cutD(xs:List D)(lo hi:Option Int):List D:=(xs.drop (HT.cG xs.length 0 lo)).take (HT.cG xs.length xs.length hi-HT.cG xs.length 0 lo)
noncomputable def Mm(d:D)(lo hi:Option Int)(h:MH):Option (D×MH):=match d with
 | .str z=>if z.length<=sizeLine then some (.str (Txt.slice z lo hi),h) else none
 | .tup xs=>if HT.cG xs.length 0 lo=0/\HT.cG xs.length xs.length hi=xs.length then none else some (.tup (cutD xs lo hi),h)
 | d=>(dq d h).map λp=>(.lv (cutD p.1 lo hi),h)
inductive MV(K:FR)(x:V)(lo hi:Option Int)(H:Hp)(Q:VK):Prop where
 | mk (ρ h d z h'):bM K ρ h H->Rep K ρ H x d->(Mm d lo hi h=some (z,h'))->(∀v H',dm K ρ H h' z v H'->Q v H')->MV K x lo hi H Q
def Ph(K:FR):V->Option Int->Option Int->Hp->VK->Prop:=λx lo hi H Q=>MV K x lo hi H Q
theorem aD.rX{K:FR}{ρ:Ad}{H:Hp}{vs:List V}{ds:List D}(l:aD K ρ H vs ds)(lo hi:Option Int):aD K ρ H (L2.rX vs lo hi) (cutD ds lo hi):=by
 unfold L2.rX cutD;rw[l.length];exact(l.drop _).take _
theorem G9:KH X (Ph X.K):=by
 intro pins s σ H x v vl vu lo hi sl Q I rx hs pl pu hh;obtain⟨ρ,h,d,z,h',S,rd,ee,k⟩:=hh;have lists:y1 d=true->((dq d h).map λp=>(D.lv (cutD p.1 lo hi),h))=some (z,h')->∃T id,typeLookup (.type T) "__getitem__"=pure (some (.builtin id))/\s.TypeIs v T/\wpAny (model X.prog X.w) X.A (getItem v (.ref sl)) (EP X pins σ Q) X.xe s:=by
  intro nt e2;obtain⟨⟨xs,ws⟩,e1,e2⟩:=gv e2;cases e2;obtain⟨a,rfl,⟨vs,q,l⟩,_⟩:=qz S rd e1;rw[nt] at q;cases q with
  | l q=>exact Fy pins s σ H _ v vl vu lo hi sl Q I rx hs pl pu ⟨a,vs,rfl,q,λp hp=>k _ _ (.lv S (l.rX lo hi) hp)⟩
 cases d with
 | str x0=>
  unfold Mm at ee;dsimp only at ee
  by_cases c:x0.length<=sizeLine
  ·rw[Py c] at ee;cases ee;cases rd with | str hs0=>
   exact Ic pins s σ H _ v vl vu lo hi sl Q I rx hs pl pu ⟨x0,rfl,c,k _ _ (.here S (.str (wL _ _ hs0)))⟩
  ·rw[PH c] at ee;cases ee
 | tup xs=>
  unfold Mm at ee;dsimp only at ee
  by_cases c:HT.cG xs.length 0 lo=0/\HT.cG xs.length xs.length hi=xs.length
  ·rw[Py c] at ee;cases ee
  ·rw[PH c] at ee;cases ee;cases rd with | tup h0 l0=>
   exact Ia pins s σ H _ v vl vu lo hi sl Q I rx hs pl pu ⟨_,_,rfl,h0.sq,by rw[l0.length];exact c,λp hp=>k _ _ (.tup S (l0.rX lo hi) hp)⟩
 | _=>exact lists rfl ee
theorem CY{x:Str}{id:String}{p pos:Pos}{e:Expr}{es:List Expr}{f:Fn}{m:AM}(hc:ir X (.builtin id) f)(hg:Gl X x)(hm:X.mg x=none)(hv:bootBuiltins x=some (.builtin id))(ha:SA X (e::es) m)(hn:x≠"__name__":=by decide)(hdb:(x==("__debug__":Str))=false:=by ac_nf)
  (he:starEach (e::es) X.env=(false,eval e X.env)::starEach es X.env:=by ac_nf) (hpl:(backTo pos (starEach es X.env)).any (·.1)=false:=by ac_nf):SE X (.Call (.Name x p) (e::es) [] pos) (aw f m):=
 (xj hc hg hm hv ha hn hdb he hpl).imp λσ H Q ⟨ρ,δ,h,d,h',R,S,e,k⟩=>by
  obtain⟨⟨ds,h1⟩,e1,e2⟩:=bE e;exact⟨ρ,δ,h,ds,h1,R,S,e1,λvs ρ1 H1 T1 S1 r1=>⟨ρ1,h1,ds,d,h',S1,r1,e2,λv H' P=>k v H' (P.step T1)⟩⟩
theorem CW{x:Str}{id:String}{p pos:Pos}{e:Expr}{es:List Expr}{f:Fn}{m:AM}(hc:ir X (.type id) f)(hg:Gl X x)(hm:X.mg x=none)(hv:bootBuiltins x=some (.type id))(ha:SA X (e::es) m)(hn:x≠"__name__":=by decide)(hdb:(x==("__debug__":Str))=false:=by ac_nf)
  (he:starEach (e::es) X.env=(false,eval e X.env)::starEach es X.env:=by ac_nf) (hpl:(backTo pos (starEach es X.env)).any (·.1)=false:=by ac_nf):SE X (.Call (.Name x p) (e::es) [] pos) (aw f m):=
 (tR hc hg hm hv ha hn hdb he hpl).imp λσ H Q ⟨ρ,δ,h,d,h',R,S,e,k⟩=>by
  obtain⟨⟨ds,h1⟩,e1,e2⟩:=bE e;exact⟨ρ,δ,h,ds,h1,R,S,e1,λvs ρ1 H1 T1 S1 r1=>⟨ρ1,h1,ds,d,h',S1,r1,e2,λv H' P=>k v H' (P.step T1)⟩⟩
noncomputable def cm:Fn:=λds h=>match ds with
 | [.str z]=>if z.length<=sizeLine then some (.int z.length,h) else none
 | [d]=>match dU d h with
  | some kvs=>some (.int kvs.length,h)
  | none=>(dq d h).map λp=>(.int p.1.length,h)
 | _=>none
noncomputable def JZ:Fn:=λds h=>match ds with
 | [.int i]=>some (.int (if i < 0 then -i else i),h)
 | _=>none
noncomputable def dI:Fn:=λds h=>match ds with
 | [d]=>(dq d h).map λp=>(.tup p.1,h)
 | _=>none
theorem rep1{K:FR}{ρ:Ad}{H:Hp}{vs:List V}{d:D}(l:aD K ρ H vs [d]):∃v,vs=[v]/\Rep K ρ H v d:=by
 cases l with
 | cons r l=>cases l;exact⟨_,rfl,r⟩
theorem rep2{K:FR}{ρ:Ad}{H:Hp}{vs:List V}{d e:D}(l:aD K ρ H vs [d,e]):∃v u,vs=[v,u]/\Rep K ρ H v d/\Rep K ρ H u e:=by
 cases l with
 | cons r l=>cases l with
  | cons r' l=>cases l;exact⟨_,_,rfl,r,r'⟩
theorem wa:ir X (.builtin "len") cm:=by
 intro pins s σ H xs us Q I r hh;obtain⟨ρ,h,ds,z,h',S,l,ee,k⟩:=hh
 match ds,l,ee with
 | [],_,ee=>cases ee
 | _::_::_,_,ee=>exact absurd ee (by unfold cm;split <;> simp_all)
 | [d],l,ee=>
  obtain⟨v,rfl,rd⟩:=rep1 l;have oth:(match dU d h with | some kvs=>some (D.int kvs.length,h) | none=>(dq d h).map λp=>(D.int p.1.length,h))=some (z,h')->wpAny (model X.prog X.w) X.A (call (.builtin "len") us) (EP X pins σ Q) X.xe s:=by
   intro ee;cases q:dU d h with
   | some kvs=>
    rw[q] at ee;cases ee;obtain⟨a,ws,rfl,ha,lk⟩:=iR S rd q;refine BU pins s σ H _ us Q I r ⟨a,ws,rfl,ha,k _ _ ?_⟩;rw[lk.length];exact .here S (.int _)
   | none=>
    rw[q] at ee;obtain⟨⟨ys,w⟩,e1,e2⟩:=gv ee;cases e2;obtain⟨a,vs,rfl,hq,l2⟩:=lF S rd e1;refine wq pins s σ H _ us Q I r ⟨a,vs,rfl,hq,k _ _ ?_⟩;rw[l2.length];exact .here S (.int _)
  cases d with
  | str x0=>
   unfold cm at ee;dsimp only at ee
   by_cases c:x0.length<=sizeLine
   ·rw[Py c] at ee;cases ee;cases rd;exact wm pins s σ H _ us Q I r ⟨x0,rfl,c,k _ _ (.here S (.int _))⟩
   ·rw[PH c] at ee;cases ee
  | _=>exact oth ee
theorem Kj:ir X (.builtin "abs") JZ:=by
 intro pins s σ H xs us Q I r hh;obtain⟨ρ,h,ds,z,h',S,l,ee,k⟩:=hh
 match ds,l,ee with
 | [],_,ee=>cases ee
 | d::_::_,_,ee=>cases d <;> exact bU ee
 | [d],l,ee=>
  obtain⟨v,rfl,rd⟩:=rep1 l;cases rd <;> first |(exact bU ee) | skip
  cases ee;exact EL pins s σ H _ us Q I r ⟨_,rfl,k _ _ (.here S (.int _))⟩
theorem jC:ir X (.type "tuple") dI:=by
 intro pins s σ H xs us Q I r hh;obtain⟨ρ,h,ds,z,h',S,l,ee,k⟩:=hh
 match ds,l,ee with
 | [],_,ee=>cases ee
 | _::_::_,_,ee=>cases ee
 | [d],l,ee=>
  obtain⟨v,rfl,rd⟩:=rep1 l;obtain⟨⟨ys,w⟩,e1,e2⟩:=gv ee;cases e2;obtain⟨a,rfl,⟨vs,q,l2⟩,_⟩:=qz S rd e1;refine tu pins s σ H _ us Q I r ⟨a,vs,rfl,?_⟩;generalize hb:y1 d=b at q;cases q with
  | l q=>exact .inl ⟨q,λp hp=>k _ _ (.tup S l2 hp)⟩
  | t q=>
   refine .inr ⟨q,k _ _ ?_⟩;cases rd <;> first |(cases hb;done) | skip
   cases e1;exact .here S (.tup ‹_› ‹_›)
noncomputable def E3(m:AM):AM:=λδ h=>(m δ h).bind λp=>match p.1 with
 | [d]=>(dq d p.2).map λq=>(q.1,p.2)
 | _=>none
theorem FA(hg:Gl X x)(hm:X.mg x=none)(hv:bootBuiltins x=some (.type "list"))(ha:SA X [e] m)(hl:kg m 1)(hn:x≠"__name__":=by decide)(hdb:(x==("__debug__":Str))=false:=by ac_nf)(he:starEach [e] X.env=(false,eval e X.env)::starEach [] X.env:=by ac_nf)(hpl:(backTo pos (starEach [] X.env)).any (·.1)=false:=by ac_nf):lu X (.Call (.Name x p) [e] [] pos) (E3 m):=
 (tR wk hg hm hv ha hn hdb he hpl).imp λσ H Q zz=>by
  obtain⟨ρ,δ,h,d,h',R,S,e,k⟩:=zz;obtain⟨⟨ds,h1⟩,e1,e2⟩:=bE e;refine⟨ρ,δ,h,ds,h1,R,S,e1,λvs ρ1 H1 T1 S1 r1=>?_⟩;obtain⟨d,rfl⟩:=Rm.mp (hl _ _ _ _ e1);obtain⟨⟨ys,w⟩,e3,e4⟩:=gv e2;cases e4;obtain⟨v,rfl,rd⟩:=rep1 r1;obtain⟨a,ws,rfl,hq,l2⟩:=lF S1 rd e3;exact⟨a,ws,rfl,hq,λl hl=>k ρ1 H1 l ws T1 S1 hl l2⟩
noncomputable def td(o i v:D)(h:MH):Option MH:=match o with
 | .ob n=>match h[n]? with
  | some (.lst xs)=>match i with
   | .int j=>(sZ xs.length j).map λp=>h.set n (.lst (xs.set p v))
   | _=>none
  | some (.dct kvs)=>(vO i).bind λk=>if kvs.length < sizeLine then some (h.set n (.dct (putD kvs k v))) else none
  | _=>none
 | _=>none
noncomputable def pO(o i:EM):GM:=λv δ h=>(o δ h).bind λp=>(i δ p.2).bind λq=>(td p.1 q.1 v q.2).map λh'=>(δ,h')
inductive HA(K:FR)(o i v:V)(H:Hp)(Q:Hp->Prop):Prop where
 | mk (ρ h a b c h'):bM K ρ h H->Rep K ρ H o a->Rep K ρ H i b->Rep K ρ H v c->(td a b c h=some h')->(∀ρ' H',df ρ H ρ' H'->bM K ρ' h' H'->Q H')->HA K o i v H Q
def NW(K:FR):V->V->V->Hp->(Hp->Prop)->Prop:=λo i v H Q=>HA K o i v H Q
theorem FX(hu:X.A.units+64 < cLine):KL X (NW X.K):=by
 intro pins s σ H o i v ov iv u Q I ro ri rv hh;obtain⟨ρ,h,a,b,c,h',S,ra,rb,rc,ee,k⟩:=hh;cases ra <;> first |(exact bU ee) | skip
 rename_i a n hn;unfold td at ee;dsimp only at ee;cases q:h[n]? with
 | none=>rw[q] at ee;cases ee
 | some w=>
  rw[q] at ee;have x:=S.at_ n a w hn q;have ma:=Pr hn;cases w with
  | lst xs=>
   dsimp only at ee;cases rb <;> first |(exact bU ee) | skip
   rename_i j;obtain⟨p,e1,e2⟩:=gv ee;cases e2;obtain⟨vs,e3,l⟩:=x;have T:df ρ H ρ (upd H a (.lst (vs.set p v))):=df.wrote S ma;exact set_list pins s σ H _ _ v ov iv u Q I ro ri rv ⟨a,vs,j,p,rfl,rfl,e3,by rw[l.length];exact e1,k ρ _ T (S.wrote hn ⟨_,aR,(l.set rc p).mono T.toCh⟩)⟩
  | dct kvs=>
   dsimp only at ee;obtain⟨ky,e1,e2⟩:=bE ee
   by_cases z:kvs.length < sizeLine
   ·rw[Py z] at e2;cases e2;obtain⟨us,e3,l⟩:=x;have ek:=jY rb e1;subst ek;obtain rfl:ov=Value.ref a:=ro;have T:df ρ H ρ (upd H a (.dK (putK us ky v))):=df.wrote S ma;exact BN (by lia) I (G3.k e3 (by rw[l.length];exact z)) ri rv λs' I'=>⟨_,I',k ρ _ T (S.wrote hn ⟨_,aR,(l.put rc).mono T.toCh⟩)⟩
   ·rw[PH z] at e2;cases e2
  | dcH _=>exact bU ee
  | exc _=>exact bU ee
theorem jd (hu:X.A.units+64 < cLine) (ho:SE X o mo) (hi:SE X i mi) (ha:∀v,assign (.Subscript o i pos) X.env v=(do
   let ov<-holding [v] (eval o X.env);let iv<-holding [v,ov] (eval i X.env)
   standAt pos
   holding [v,ov,iv] (setItem ov iv v)
   release [v,ov,iv] []):=by intro _;ac_nf):SG X (.Subscript o i pos) (pO mo mi):=
 (IV ho hi (FX hu) ha).imp λv σ H Q ⟨ρ,δ,h,d,δ',h',R,S,r,e,k⟩=>by
  obtain⟨⟨x,h1⟩,e1,e2⟩:=bE e;obtain⟨⟨y,h2⟩,e3,e4⟩:=bE e2;obtain⟨h3,e5,e6⟩:=gv e4;cases e6;exact⟨ρ,δ,h,x,h1,R,S,e1,λov H1 ⟨ρ1,T1,S1,r1⟩=>⟨ρ1,δ,h1,y,h2,R.mono T1,S1,e3,λiv H2 ⟨ρ2,T2,S2,r2⟩=>
   ⟨ρ2,h2,x,y,d,_,S2,r1.mono T2,r2,r.mono (T1.trans T2).toCh,e5,λρ3 H3 T3 S3=>k ρ3 H3 σ (T1.trans (T2.trans T3)) S3 (R.mono (T1.trans (T2.trans T3)).toCh)⟩⟩⟩
abbrev AE:=D->List D->MH->Option (D×MH)
inductive OY(K:FR)(f:AE)(x:V)(vs:List V)(H:Hp)(Q:VK):Prop where
 | mk (ρ h d ds z h'):bM K ρ h H->Rep K ρ H x d->aD K ρ H vs ds->(f d ds h=some (z,h'))->(∀v H',dm K ρ H h' z v H'->Q v H')->OY K f x vs H Q
def rM(K:FR)(f:AE):V->List V->Hp->VK->Prop:=λx vs H Q=>OY K f x vs H Q
noncomputable def eM(isT:D->MH->Bool)(f:AE)(o:EM)(m:AM):EM:=λδ h=>(o δ h).bind λp=>if isT p.1 p.2 then(m δ p.2).bind λq=>f p.1 q.1 q.2 else none
noncomputable def dh(d:D)(h:MH):Bool:=(dS d h).isSome
noncomputable def D8(d:D)(h:MH):Bool:=(dU d h).isSome
noncomputable def eg:AE:=λd ds h=>match d,ds with
 | .ob n,[y]=>match h[n]? with
  | some (.lst xs)=>if xs.length < sizeLine then some (.cj,h.set n (.lst (xs++[y]))) else none
  | _=>none
 | _,_=>none
noncomputable def jV:AE:=λd ds h=>match d,ds with
 | .ob n,[y]=>match h[n]? with
  | some (.lst xs)=>(dS y h).bind λzs=>if xs.length+zs.length<=sizeLine then some (.cj,h.set n (.lst (xs++zs))) else none
  | _=>none
 | _,_=>none
noncomputable def Gn:AE:=λd ds h=>match d,ds with
 | .ob n,[]=>match h[n]? with
  | some (.lst xs)=>(xs[xs.length-1]?).map λy=>(y,h.set n (.lst xs.dropLast))
  | _=>none
 | _,_=>none
theorem ix{K:FR}{ρ:Ad}{H:Hp}{h:MH}{v:V}{d:D}(S:bM K ρ h H)(r:Rep K ρ H v d)(e:dh d h=true):G4 K "list" v H:=by
 obtain⟨xs,e1⟩:=Rg.mp e;obtain⟨a,vs,rfl,ha,_⟩:=eh S r e1;exact .inl ⟨rfl,vs,gM.of ha⟩
theorem HP{K:FR}{ρ:Ad}{H:Hp}{h:MH}{v:V}{d:D}(S:bM K ρ h H)(r:Rep K ρ H v d)(e:D8 d h=true):G4 K "dict" v H:=by
 obtain⟨xs,e1⟩:=Rg.mp e;obtain⟨a,vs,rfl,ha,_⟩:=iR S r e1;exact .inr (.inr (.inl ⟨rfl,.inl ⟨vs,ha⟩⟩))
theorem kJ{T id:String}{name:Str}{o e:Expr}{es:List Expr}{apos cpos:Pos}{f:AE}{mo:EM}{m:AM}{isT:D->MH->Bool}(hT:∀{K:FR} {ρ:Ad} {H:Hp} {h:MH} {v:V} {d:D},bM K ρ h H->Rep K ρ H v d->isT d h=true->G4 K T v H)
  (pa:PlainAttrs T) (slot:Slot T name id) (hty:typeOf (.builtin id)=pure (.type "method_descriptor")) (hm:AD X id (rM X.K f)) (ho:SE X o mo) (ha:SA X (e::es) m)
  (hbase:attributeBase o name X.env (eval o X.env)=eval o X.env:=by ac_nf)
  (hfew:((backTo cpos (starEach (e::es) X.env)).all (λx=>!x.1)&&(backToKw cpos (keywordEach [] X.env)).all (λx=>x.1.isSome)
   &&decide ((e::es).length+([]:List Keyword).length+(if([]:List Keyword).isEmpty then 0 else 1) < 30))=true:=by ac_nf)
  (hline:(apos.endLine==cpos.line)=true:=by ac_nf) (hs:starEach (e::es) X.env=(false,eval e X.env)::starEach es X.env:=by ac_nf) (hplain:(backTo cpos (starEach es X.env)).any (·.1)=false:=by ac_nf):
  SE X (.Call (.Attribute o name apos) (e::es) [] cpos) (eM isT f mo m):=(LP pa slot hty hm ho ha hbase hfew hline hs hplain).imp λσ H Q ⟨ρ,δ,h,d,h',R,S,e,k⟩=>by
 obtain⟨⟨x,h1⟩,e1,e2⟩:=bE e;dsimp only at e2
 by_cases c:isT x h1=true
 ·rw[Py c] at e2;obtain⟨⟨ds,h2⟩,e3,e4⟩:=bE e2;exact⟨ρ,δ,h,x,h1,R,S,e1,λv H1 ⟨ρ1,T1,S1,r1⟩=>⟨hT S1 r1 c,ρ1,δ,h1,ds,h2,R.mono T1,S1,e3,λvs ρ2 H2 T2 S2 r2=>⟨ρ2,h2,x,ds,d,h',S2,r1.mono T2,r2,e4,λw H3 p=>k w H3 (p.step (T1.trans T2))⟩⟩⟩
 ·rw[PH c] at e2;cases e2
theorem Lw{T id:String}{name:Str}{o:Expr}{apos cpos:Pos}{f:AE}{mo:EM}{isT:D->MH->Bool}(hT:∀{K:FR} {ρ:Ad} {H:Hp} {h:MH} {v:V} {d:D},bM K ρ h H->Rep K ρ H v d->isT d h=true->G4 K T v H)
  (pa:PlainAttrs T) (slot:Slot T name id) (hty:typeOf (.builtin id)=pure (.type "method_descriptor")) (hm:AD X id (rM X.K f)) (ho:SE X o mo)
  (hbase:attributeBase o name X.env (eval o X.env)=eval o X.env:=by ac_nf) (hline:(apos.endLine==cpos.line)=true:=by ac_nf):
  SE X (.Call (.Attribute o name apos) [] [] cpos) (eM isT f mo aM):=(Jb pa slot hty hm ho hbase hline).imp λσ H Q ⟨ρ,δ,h,d,h',R,S,e,k⟩=>by
 obtain⟨⟨x,h1⟩,e1,e2⟩:=bE e;dsimp only at e2
 by_cases c:isT x h1=true
 ·rw[Py c] at e2;exact⟨ρ,δ,h,x,h1,R,S,e1,λv H1 ⟨ρ1,T1,S1,r1⟩=>⟨hT S1 r1 c,ρ1,h1,x,[],d,h',S1,r1,.nil,e2,λw H3 p=>k w H3 (p.step T1)⟩⟩
 ·rw[PH c] at e2;cases e2
theorem yR{K:FR}{ρ:Ad}{H:Hp}{h:MH}{n:Nat}{xs:List D}{v:V}(S:bM K ρ h H)(r:Rep K ρ H v (.ob n))(q:h[n]?=some (.lst xs)):∃a vs,v=.ref a/\ρ.ob[n]?=some a/\H a=some (.lst vs)/\aD K ρ H vs xs:=by
 cases r with
 | ob hn=>obtain⟨vs,e,l⟩:=S.at_ n _ _ hn q;exact⟨_,vs,rfl,hn,e,l⟩
theorem jU:AD X "list.append" (rM X.K eg):=by
 intro pins s σ H x xs v us Q I rx rs hh;obtain⟨ρ,h,d,ds,z,h',S,rd,l,ee,k⟩:=hh;cases d <;> first |(exact bU ee) | skip
 rename_i n
 match ds,l,ee with
 | [],_,ee=>exact bU ee
 | _::_::_,_,ee=>exact bU ee
 | [y],l,ee=>
  unfold eg at ee;dsimp only at ee;cases q:h[n]? with
  | none=>rw[q] at ee;cases ee
  | some w=>
   rw[q] at ee;cases w with
   | dct _=>exact bU ee
   | dcH _=>exact bU ee
   | exc _=>exact bU ee
   | lst ys=>
    dsimp only at ee
    by_cases c:ys.length < sizeLine
    ·rw[Py c] at ee;cases ee;obtain⟨a,vs,rfl,hn,e1,l1⟩:=yR S rd q;obtain⟨u,rfl,ru⟩:=rep1 l;have T:df ρ H ρ (upd H a (.lst (vs++[u]))):=df.wrote S (Pr hn);exact t4 pins s σ H _ _ v us Q I rx rs ⟨a,vs,u,rfl,rfl,e1,by rw[l1.length];exact c,k _ _ ⟨ρ,T,S.wrote hn ⟨_,aR,(l1.snoc ru).mono T.toCh⟩,.cj⟩⟩
    ·rw[PH c] at ee;cases ee
theorem t5:AD X "list.extend" (rM X.K jV):=by
 intro pins s σ H x xs v us Q I rx rs hh;obtain⟨ρ,h,d,ds,z,h',S,rd,l,ee,k⟩:=hh;cases d <;> first |(exact bU ee) | skip
 rename_i n
 match ds,l,ee with
 | [],_,ee=>exact bU ee
 | _::_::_,_,ee=>exact bU ee
 | [y],l,ee=>
  unfold jV at ee;dsimp only at ee;cases q:h[n]? with
  | none=>rw[q] at ee;cases ee
  | some w=>
   rw[q] at ee;cases w with
   | dct _=>exact bU ee
   | dcH _=>exact bU ee
   | exc _=>exact bU ee
   | lst ys=>
    dsimp only at ee;obtain⟨zs,e2,e3⟩:=bE ee
    by_cases c:ys.length+zs.length<=sizeLine
    ·rw[Py c] at e3;cases e3;obtain⟨a,vs,rfl,hn,e1,l1⟩:=yR S rd q;obtain⟨u,rfl,ru⟩:=rep1 l;obtain⟨b,ws,rfl,eb,l2⟩:=eh S ru e2;have T:df ρ H ρ (upd H a (.lst (vs++ws))):=df.wrote S (Pr hn);exact Bl pins s σ H _ _ v us Q I rx rs ⟨a,b,vs,ws,rfl,rfl,e1,eb,by rw[l1.length,l2.length];exact c,k _ _ ⟨ρ,T,S.wrote hn ⟨_,aR,(l1.append l2).mono T.toCh⟩,.cj⟩⟩
    ·rw[PH c] at e3;cases e3
theorem Jx:AD X "list.pop" (rM X.K Gn):=by
 intro pins s σ H x xs v us Q I rx rs hh;obtain⟨ρ,h,d,ds,z,h',S,rd,l,ee,k⟩:=hh;cases d <;> first |(exact bU ee) | skip
 rename_i n
 match ds,l,ee with
 | _::_,_,ee=>exact bU ee
 | [],l,ee=>
  unfold Gn at ee;dsimp only at ee;cases q:h[n]? with
  | none=>rw[q] at ee;cases ee
  | some w=>
   rw[q] at ee;cases w with
   | dct _=>exact bU ee
   | dcH _=>exact bU ee
   | exc _=>exact bU ee
   | lst ys=>
    dsimp only at ee;obtain⟨y,e2,e3⟩:=gv ee;cases e3;obtain⟨a,vs,rfl,hn,e1,l1⟩:=yR S rd q;cases l;obtain⟨u,e4,r4⟩:=l1.got e2;have T:df ρ H ρ (upd H a (.lst vs.dropLast)):=df.wrote S (Pr hn);exact Ju pins s σ H _ _ v us Q I rx rs ⟨a,vs,u,rfl,rfl,e1,by rw[l1.length];exact e4,k _ _ ⟨ρ,T,S.wrote hn ⟨_,aR,l1.dropLast.mono T.toCh⟩,r4.mono T.toCh⟩⟩
end Sm
namespace Sb
open PySem L2 PySem.Spec PyProof.Rows
open Builtin.SmallTypes (nextOf ownedTupleIsFree ownedTupleHandOut)
noncomputable def kn:Bool->String
 | true=>"list_iterator"
 | false=>"tuple_iterator"
def At(b:Bool)(h:Heap)(j l:Addr)(i:Nat):Prop:=∃o,h.get? j=some o/\o.cls=.type (kn b)/\o.data=.fields #[.ref l,.int i 0]
def Of(b:Bool)(h:Heap)(l:Addr)(items:Array Value):Prop:=match b with
 | true=>h.IsList l items
 | false=>h.IsTuple l items
theorem At.up(x:At b h j l i)(k:∀o,h.get? j=some o->h'.get? j=some o):At b h' j l i:=let⟨o,e,r⟩:=x;⟨o,k o e,r⟩
theorem At.lt(x:At b h j l i):j < h.objs.size:=let⟨_,e,_⟩:=x;PU e
theorem L4(hj:At b s.heap j l i)(hl:Of b s.heap l items)(hx:items[i]?=some x)(k:∀h',At b h' j l (i+1)->Heap.SameBut j s.heap h'->Q x {s with heap:=h'}):wpAny (model P w) A (nextOf (.ref j)) Q E s:=by
 cases b with
 | true=>exact wpAny_nextOf_list_item (show s.heap.IsListIter j l i from hj) (show s.heap.IsList l items from hl) hx k
 | false=>
  have hj':s.heap.IsTupleIter j l i:=hj;obtain⟨o,eo,ec,ed⟩:=hj';obtain⟨ol,el,_,nl,edl⟩:=(show s.heap.IsTuple l items from hl);unfold nextOf;refine Pu (Q2 (name:=Str.ofString "__next__") (show s.TypeIs (.ref j) "tuple_iterator" from⟨o,eo,ec⟩) RB
   (Rq RB (show s.TypeIs (.ref j) "tuple_iterator" from⟨o,eo,ec⟩) Ue ?_ (T8 _)))
  show wpAny _ _ (field (.ref j) 0 >>=_) _ _ s;refine Pu (QS eo ed (x:=.ref l) rfl ?_);show wpAny _ _ (if(Value.ref l==Value.none)=true then _ else _) _ _ s;rw[PH (show ¬((Value.ref l==Value.none)=true) by exact Rp)];show wpAny _ _ (field (.ref j) 1 >>=_) _ _ s;refine Pu (QS eo ed (x:=.int i 0) rfl ?_);show wpAny _ _ (seqItems? (.ref l) >>=_) _ _ s;refine Pu (wpAny_seqItems el edl ?_);simp only[QW,hx];refine Pu (wpAny_setField eo ed (by simp) (PZ ⟨x,rfl,PZ (k _ ?_ (Heap.SameBut.update ..))⟩));exact⟨_,Heap.get?_update_self _ eo (Obj.isFreed_of_fields (Obj.data_mapFields ed _)),(Obj.cls_mapFields ..).trans ec,by rw[Obj.data_mapFields ed];simp[rawInt]⟩
theorem L5(hh:A.handled=none)(hj:At b s.heap j l i)(hl:Of b s.heap l items)(hx:items[i]?=none)(k:∀h' e,Heap.ExtBut j s.heap h'->(∃o,h'.get? e=some o/\o.cls=.type "StopIteration")->E (.ref e) {s with heap:=h'}):wpAny (model P w) A (nextOf (.ref j)) Q E s:=by
 cases b with
 | true=>exact wpAny_nextOf_list_end hh (show s.heap.IsListIter j l i from hj) (show s.heap.IsList l items from hl) hx k
 | false=>
  have hj':s.heap.IsTupleIter j l i:=hj;obtain⟨o,eo,ec,ed⟩:=hj';obtain⟨ol,el,_,nl,edl⟩:=(show s.heap.IsTuple l items from hl);unfold nextOf;refine Pu (Q2 (name:=Str.ofString "__next__") (show s.TypeIs (.ref j) "tuple_iterator" from⟨o,eo,ec⟩) RB
   (Rq RB (show s.TypeIs (.ref j) "tuple_iterator" from⟨o,eo,ec⟩) Ue ?_ (T8 _)))
  show wpAny _ _ (field (.ref j) 0 >>=_) _ _ s;refine Pu (QS eo ed (x:=.ref l) rfl ?_);show wpAny _ _ (if(Value.ref l==Value.none)=true then _ else _) _ _ s;rw[PH (show ¬((Value.ref l==Value.none)=true) by exact Rp)];show wpAny _ _ (field (.ref j) 1 >>=_) _ _ s;refine Pu (QS eo ed (x:=.int i 0) rfl ?_);show wpAny _ _ (seqItems? (.ref l) >>=_) _ _ s;refine Pu (wpAny_seqItems el edl ?_);simp only[QW,hx];refine Pu (Ti (Pu (wpAny_setField eo ed (by simp) ?_)));show wpAny _ _ (newExc (.type "StopIteration") [] >>=_) _ _ _;refine Pu ?_;simp only[newExc,newTuple];refine Pu (Q1 ?_ (by size_fits));refine Pu (m:=firstArgMember _ _) (wpAny_of_eq (a:=Value.none) (by first |(simp only[firstArgMember];rfl) | rfl) ?_);refine Q1 ?_ (by size_fits);simp only[raiseNew];refine Pu (wpAny_handled ?_)
  first | rw[hh] | rw[show A.in1.handled=none from hh]
  refine Pu (PZ (wpAny_throw (k _ _ (((Heap.SameBut.update ..).extBut.push _).push _) ⟨_,P8 _ rfl,rfl⟩)))
open Builtin.SmallTypes (nextOf ownedTupleIsFree ownedTupleHandOut)
variable {P:Program} {w:World} {A:Around} {E:Value->Shared->Prop} {s:Shared} {b c:Bool}
theorem BM{e j l:Addr}{i:Nat}{items:Array Value}{x old:Value}{Q:Option Value->Shared->Prop}(hE:IsEnum s.heap e j i old)(hj:At b s.heap j l i)(hl:Of b s.heap l items)(hx:items[i]?=some x)(ne:e≠j)
  (k:∀h',IsEnumOut h' e j ((i:Int)+1) x s.heap.objs.size->At b h' j l (i+1)->h'.get? s.heap.objs.size=some {cls:=.type "tuple",data:=.seq #[.int i s.toks,x]}->h'.objs.size=s.heap.objs.size+1->
   (∀a o,a≠e->a≠j->s.heap.get? a=some o->h'.get? a=some o)->Q (some (.ref s.heap.objs.size)) {s with heap:=h',toks:=s.toks+1}):wpAny (model P w) A (pyNext (.ref e)) Q E s:=by
 have hT:s.TypeIs (.ref e) "enumerate":=⟨_,hE,rfl⟩;unfold pyNext;refine Pu (Th (Q2 (name:=Str.ofString "__next__") hT Rx (Rq Rx hT F.entry_enumerate_next ?_ (UC _))));obtain⟨hp,g,d,tk,os⟩:=s;show wpAny _ _ (field (.ref e) 2 >>=_) _ _ _;refine Pu (QS hE rfl (x:=.ref j) rfl (Pu (L4 hj hl hx λk₁ j₁ t₁=>?_)));replace t₁:Heap.SameBut j hp k₁:=t₁;have E₁:IsEnum k₁ e j i old:=(t₁.2 e ne).trans hE;show wpAny _ _ (field (.ref e) 3 >>=_) _ _ ⟨k₁,g,d,tk,os⟩;refine Pu (QS E₁ rfl (x:=rawInt i) rfl ?_);show wpAny _ _ (field (.ref e) 4 >>=_) _ _ ⟨k₁,g,d,tk,os⟩;refine Pu (QS E₁ rfl (x:=.none) rfl ?_);show wpAny _ _ (mkInt i >>=_) _ _ ⟨k₁,g,d,tk,os⟩;refine Pu (wpAny_mkInt ?_);show wpAny _ _ (setField (.ref e) 3 (rawInt ((i:Int)+1)) >>=_) _ _ ⟨k₁,g,d,tk+1,os⟩;refine Pu (wpAny_setField_rec E₁ (by simp) λk₂ E₂ t₂=>?_);replace t₂:Heap.SameBut e k₁ k₂:=t₂;replace E₂:IsEnum k₂ e j ((i:Int)+1) old:=E₂;show wpAny _ _ (setField (.ref e) 4 .none >>=_) _ _ ⟨k₂,g,d,tk+1,os⟩;refine Pu (wpAny_setField_rec E₂ (by simp) λk₃ E₃ t₃=>?_);replace t₃:Heap.SameBut e k₂ k₃:=t₃;replace E₃:IsEnum k₃ e j ((i:Int)+1) old:=E₃;show wpAny _ _ (newTuple [.int i tk,x] >>=_) _ _ ⟨k₃,g,d,tk+1,os⟩;refine Pu (wpAny_newTuple ?_);have E₄:IsEnum (k₃.push {cls:=.type "tuple",data:=.seq #[.int i tk,x]}) e j ((i:Int)+1) old:=PC _ E₃;generalize eq₄:k₃.push {cls:=.type "tuple",data:=.seq #[.int i tk,x]}=k₄ at E₄;have sz:k₃.objs.size=hp.objs.size:=by rw[t₃.1,t₂.1,t₁.1]
 have lte:e < hp.objs.size:=PU hE;have tp:k₄.get? hp.objs.size=some {cls:=.type "tuple",data:=.seq #[.int i tk,x]}:=by rw[<-eq₄,<-sz];exact P8 _ rfl
 have sz₄:k₄.objs.size=hp.objs.size+1:=by rw[<-eq₄,SY,sz]
 have up₄:∀a o,a≠e->a≠j->hp.get? a=some o->k₄.get? a=some o:=λa o z1 z2 q=>by
  rw[<-eq₄];exact PC _ (t₃.extBut a o z1 (t₂.extBut a o z1 (t₁.extBut a o z2 q)))
 have j₄:At b k₄ j l (i+1):=j₁.up λo q=>by rw[<-eq₄];exact PC _ (t₃.extBut j o (Q0 ne) (t₂.extBut j o (Q0 ne) q))
 show wpAny _ _ (ownedTupleIsFree (.ref e) >>=_) _ _ ⟨k₄,g,d,tk+1,os⟩;rw[sz];clear eq₄ E₃ t₃ E₂ t₂ E₁ t₁ j₁ sz k₃ k₂ k₁;refine Pu ?_;unfold ownedTupleIsFree;refine Pu (QS E₄ rfl (x:=.none) rfl (PZ ?_));simp only[Se];refine Pu (Ti (Pu (QS E₄ rfl (x:=old) rfl (Pu (wpAny_setField_rec E₄ (by simp) λk₅ E₅ t₅=>?_)))));replace t₅:Heap.SameBut e k₄ k₅:=t₅;replace E₅:IsEnum k₅ e j ((i:Int)+1) x:=E₅;show wpAny _ _ (ownedTupleHandOut (.ref e) (.ref hp.objs.size) >>=_) _ _ ⟨k₅,g,d,tk+1,os⟩;refine Pu ?_;unfold ownedTupleHandOut;refine Pu (wpAny_setField_rec E₅ (by simp) λk₆ E₆ t₆=>?_);replace t₆:Heap.SameBut e k₅ k₆:=t₆;replace E₆:IsEnumOut k₆ e j ((i:Int)+1) x hp.objs.size:=E₆;refine wpAny_setField_rec E₆ (by simp) λk₇ E₇ t₇=>?_;replace t₇:Heap.SameBut e k₆ k₇:=t₇;replace E₇:IsEnumOut k₇ e j ((i:Int)+1) x hp.objs.size:=E₇;have up:∀a o,a≠e->k₄.get? a=some o->k₇.get? a=some o:=λa o z q=>t₇.extBut a o z (t₆.extBut a o z (t₅.extBut a o z q));refine Pu (wpAny_letGo (PZ ⟨_,rfl,PZ (k k₇ E₇ (j₄.up λo q=>up j o (Q0 ne) q) (up _ _ (Sr lte) tp) ?_ λa o z1 z2 q=>up a o z1 (up₄ a o z1 z2 q))⟩));rw[t₇.1,t₆.1,t₅.1,sz₄]
theorem Ew{e j l:Addr}{i:Nat}{items:Array Value}{old:Value}{Q:Option Value->Shared->Prop}(hh:A.handled=none)(hE:IsEnum s.heap e j i old)(hj:At b s.heap j l i)(hl:Of b s.heap l items)(hx:items[i]?=none)
  (k:∀h',Heap.ExtBut j s.heap h'->Q none {s with heap:=h'}):wpAny (model P w) A (pyNext (.ref e)) Q E s:=by
 have hT:s.TypeIs (.ref e) "enumerate":=⟨_,hE,rfl⟩;unfold pyNext;refine Pu (Th (Q2 (name:=Str.ofString "__next__") hT Rx (Rq Rx hT F.entry_enumerate_next ?_ (UC _))));show wpAny _ _ (field (.ref e) 2 >>=_) _ _ _;refine Pu (QS hE rfl (x:=.ref j) rfl (Pu (L5 hh hj hl hx λh' y he' ⟨o,ho,hc⟩=>?_)));exact Pu (wpAny_isInstance (T:="StopIteration") (b:=true) ⟨o,ho,hc⟩ isSubtype_stop (PZ (k _ he')))
theorem BL(x:Of b s.heap l items)(k:∀h',IsEnum h' (s.heap.objs.size+1) s.heap.objs.size 0 .none->At b h' s.heap.objs.size l 0->h'.objs.size=s.heap.objs.size+2->(∀a o,s.heap.get? a=some o->h'.get? a=some o)->Q (.ref (s.heap.objs.size+1)) {s with heap:=h'}):
  wpAny (model P w) A (call (.type "enumerate") [.ref l]) Q E s:=by
 cases b with
 | true=>exact call_enumerate_list (show s.heap.IsList l items from x) k
 | false=>
  have mt:PySem.Meets (Builtin.«enumerate.__new__» ⟨[.type "enumerate",.ref l],[]⟩) (λ_ R s=>s.heap.IsTuple l items/\
    R (.ok (.ret (.ref (s.heap.push {cls:=.type "tuple_iterator",data:=.fields #[.ref l,.int 0 0]}).objs.size)))
     {s with heap:=(s.heap.push {cls:=.type "tuple_iterator",data:=.fields #[.ref l,.int 0 0]}).push {cls:=.type "enumerate",data:=.fields #[.none,.bool false,.ref s.heap.objs.size,rawInt 0,.none,.none]}}):=
   .of_wp λprog w A R s h=>by
    obtain⟨hp,g,d,tk,os⟩:=s;obtain⟨hl,h⟩:=h;have sub:=sub_enumerate;have hL:Heap.IsTuple (Shared.heap ⟨hp,g,d,tk,os⟩) l items:=hl;obtain⟨o0,e0,c0,n0,d0⟩:=id hL
    wp_walk
    refine wpAny_stack_any λst=>PZ ?_
    split
    ·rename_i c _ _ _ _ _;cases(c==Value.type "enumerate")
     ·wp_walk using Sn hL
      exact⟨_,rfl,h⟩
     ·wp_walk using Sn hL
      exact⟨_,rfl,h⟩
    ·wp_walk using Sn hL
     exact⟨_,rfl,h⟩
  refine callType_new F.called_enumerate (by decide) (F.typeCall_enumerate_1 _) (F.newCall_enumerate_1 _) (λobj=>F.args_object_init_2 obj _) F.entry_enumerate_new mt ⟨x,?_⟩;have z1:(s.heap.push {cls:=.type "tuple_iterator",data:=.fields #[.ref l,.int 0 0]}).objs.size=s.heap.objs.size+1:=SY ..;show _/\_;rw[z1];have eE:IsEnum ((s.heap.push {cls:=.type "tuple_iterator",data:=.fields #[.ref l,.int 0 0]}).push
    {cls:=.type "enumerate",data:=.fields #[.none,.bool false,.ref s.heap.objs.size,rawInt 0,.none,.none]}) (s.heap.objs.size+1) s.heap.objs.size 0 .none:=by
   have q:=P8 (s.heap.push {cls:=.type "tuple_iterator",data:=.fields #[.ref l,.int 0 0]}) (o:={cls:=.type "enumerate",data:=.fields #[.none,.bool false,.ref s.heap.objs.size,rawInt 0,.none,.none]}) rfl;rw[z1] at q;exact q
  refine⟨⟨_,eE,rfl⟩,k _ eE ⟨_,PC _ (P8 _ rfl),rfl,rfl⟩ (by rw[SY,z1]) λa o q=>PC _ (PC _ q)⟩
end Sb
namespace Sb
open PySem L2 PySem.Spec PyProof.Rows
open Builtin.SmallTypes (nextOf ownedTupleIsFree ownedTupleHandOut)
section
variable {X:Cx} {pins:List (Addr×Obj)} {σ:L2.St} {H:Hp} {s:Shared} {h':Heap} {fp:List Addr}
theorem zv(I:L2.Inv X pins σ H s)(k:∀b o,b∉fp->s.heap.get? b=some o->h'.get? b=some o)(hf:∀b∈fp,kd X pins H b):L2.Inv X pins σ H {s with heap:=h',toks:=t'}:=by
 have nit:∀b u,H b=some u->b∉fp:=λb u e z=>by rw[(hf b z).1] at e;cases e
 have nL:X.env.locals∉fp:=λz=>(hf _ z).2.1 rfl;refine I.step (g':=s.gens) (d':=s.drawn) (ch:=fp) (λb hb=>?_) (λb o _ _ hc e _=>k b o hc e) (λb o _ _ hc e _=>⟨o.slots,k b o hc e⟩) (λ_ _ _ _ n=>n)
  (λb o hc e=>⟨o,k b o hc e⟩) (λ_ _ e=>e) (λ_ _ _ e=>e) (λb ps e=>⟨#[],by rw[e];simp⟩) (λm hm=>?_) (λb u e=>?_) I.bare
 ·obtain⟨f0,f1,f2,f3,f4,f5⟩:=hf b hb;exact⟨f3,f1,f4,f5⟩
 ·obtain⟨o,es,ep,ho,r⟩:=hm;exact⟨o,es,ep,k _ o nL ho,r⟩
 ·refine(I.ba b u e).nz (λc v hc q=>k c v ?_ q) (λ_ q=>q) λ_ _ q=>q;rcases hc with z | z
  ·rw[z];exact nit b u e
  ·exact nit c _ z
theorem Fs(I:L2.Inv X pins σ H s)(k:∀b o,b∉fp->s.heap.get? b=some o->h'.get? b=some o)(hf:∀b∈fp,kd X pins H b)(hlt:∀b∈fp,b < s.heap.objs.size)(ht:h'.get? s.heap.objs.size=some {cls:=.type "tuple",data:=.seq us.toArray n})(r:Vals vs us)(hz:vs.length<=sizeLine):L2.Inv X pins σ (upd H s.heap.objs.size (.tup vs)) {s with heap:=h',toks:=t'}:=by
 have nit:∀b u,H b=some u->b∉fp:=λb u e z=>by rw[(hf b z).1] at e;cases e
 have nL:X.env.locals∉fp:=λz=>(hf _ z).2.1 rfl;have hp:H s.heap.objs.size=none:=I.ba.fresh (Pw _);have np:∀b o,s.heap.get? b=some o->b≠s.heap.objs.size:=λb o e=>P9 (PU e);have nH:∀b u,H b=some u->b≠s.heap.objs.size:=λb u e=>aN e hp;refine I.step (g':=s.gens) (d':=s.drawn) (ch:=fp) (λb hb=>?_) (λb o _ _ hc e _=>k b o hc e) (λb o _ _ hc e _=>⟨o.slots,k b o hc e⟩) (λb o _ e n=>by rw[az (np b o e)];exact n)
  (λb o hc e=>⟨o,k b o hc e⟩) (λb _ e=>by rw[az (nH b _ e)];exact e) (λb _ _ e=>by rw[az (nH b _ e)];exact e) (λb ps e=>⟨#[],by rw[az (nH b _ e),e];simp⟩) (λm hm=>?_) (λb u e=>?_) I.bare
 ·obtain⟨f0,f1,f2,f3,f4,f5⟩:=hf b hb;exact⟨f3,f1,f4,f5⟩
 ·obtain⟨o,es,ep,ho,q⟩:=hm;exact⟨o,es,ep,k _ o nL ho,q⟩
 ·by_cases z:b=s.heap.objs.size
  ·subst z;rw[aR] at e;cases e;exact⟨hz,us,r,⟨_,ht,rfl,⟨n,rfl⟩,rfl⟩⟩
  ·rw[az z] at e;refine(I.ba b u e).nz (λc v hc q=>k c v ?_ q) (λc q=>?_) (λc u q=>?_) λc u q=>?_
   ·rcases hc with y | y
    ·rw[y];exact nit b u e
    ·exact nit c _ y
   ·rw[az (nH _ _ q)];exact q
   ·rw[az (nH _ _ q)];exact q
   ·rw[az (nH _ _ q)];exact q
end
def Fi(b:Bool)(K:FR)(H:Hp)(l:Addr)(xs:List V):Prop:=match b with
 | true=>gM K H l xs
 | false=>kG K H l xs
theorem Fi.of(I:L2.Inv X pins σ H s)(q:Fi b X.K H l xs):∃its:List Value,Vals xs its/\Of b s.heap l its.toArray:=by
 cases b with
 | true=>obtain⟨its,r,p,_⟩:=I.list (show gM X.K H l xs from q);exact⟨its,r,p.isList⟩
 | false=>obtain⟨its,r,p,_⟩:=I.tuple (show kG X.K H l xs from q);exact⟨its,r,p⟩
theorem Fi.inj(I:L2.Inv X pins σ H s)(q:Fi b X.K H l xs)(q':Fi b X.K H l ys):xs=ys:=by
 cases b with
 | true=>exact I.xA q q'
 | false=>exact I.tx q q'
noncomputable def O4(b:Bool)(K:FR)(l:Addr):It:=
 ⟨λi H=>∃xs x,Fi b K H l xs/\xs[i]?=some x,λi H x H'=>∃p y,H p=none/\x=.ref p/\H'=upd H p (.tup [.int (i:Int),y])/\∀xs,Fi b K H l xs->xs[i]?=some y,λi H=>∃xs,Fi b K H l xs/\xs.length<=i⟩
theorem AL{P:Program}{w:World}{K:FR}{es:List Expr}{k0:Nat}{pos:Pos}(b:Bool)(l e j:Addr)(ne:e≠j):Turn P w K (.Tuple es k0 pos) (O4 b K l) [e,j] e (λi h=>(∃old,IsEnum h e j i old)/\At b h j l i) where
 mem:=by simp
 obj:=λi h st a ha=>by
  obtain⟨⟨old,h1⟩,o,h2,_,d2⟩:=st;simp at ha;rcases ha with rfl | rfl
  ·exact⟨_,h1,λv z=>by cases z⟩
  ·exact⟨o,h2,λv z=>by rw[d2] at z;cases z⟩
 keep:=λi h h' ⟨⟨old,h1⟩,h2⟩ k=>⟨⟨old,k e (by simp) _ h1⟩,h2.up λo q=>k j (by simp) o q⟩
 item:=by
  intro X hP hw hK hc i pins s σ H E I hf st hg;subst hP hw hK;obtain⟨xs,x,hq,hx⟩:=hg;obtain⟨⟨old,h1⟩,h2⟩:=st;obtain⟨its,rv,hO⟩:=hq.of I;obtain⟨u,hu,ru⟩:=rv.get hx;have hlt:∀a∈[e,j],a < s.heap.objs.size:=λa ha=>by
   simp at ha;rcases ha with rfl | rfl
   ·exact PU h1
   ·exact h2.lt
  refine BM h1 h2 hO (x:=u) (by simpa using hu) ne λh' a1 a2 a3 a4 a5=>⟨_,rfl,wpAny_letOwnedTupleGo_enum a1 λh'' b1 b2=>?_⟩;have hp:H s.heap.objs.size=none:=I.ba.fresh (Pw _);have I1:=Fs (t':=s.toks+1) (vs:=[.int (i:Int),x]) (us:=[.int i s.toks,u]) (n:=0) I (λa o ha q=>a5 a o (λz=>ha (by simp[z])) (λz=>ha (by simp[z])) q) hf hlt a3 (.cons ⟨_,rfl⟩ (.cons ru .nil)) (show 2<=sizeLine by decide);have hf1:∀a∈[e,j],kd X pins (upd H s.heap.objs.size (.tup [.int (i:Int),x])) a:=λa ha=>by
   obtain⟨f0,f⟩:=hf a ha;exact⟨by rw[az (P9 (hlt a ha))];exact f0,f⟩
  have I2:=zv (t':=s.toks+1) I1 (h':=h'') (λa o ha q=>b2.extBut a o (λz=>ha (by simp[z])) q) hf1;exact⟨.ref s.heap.objs.size,_,I2,rfl,⟨_,x,hp,rfl,rfl,λys hy=>by rw[hy.inj I hq];exact hx⟩,⟨⟨_,by simpa using b1⟩,a2.up λo q=>b2.extBut j o (Q0 ne) q⟩,λa ha=>(hf1 a ha).1⟩
 done:=by
  intro X hP hw hK hc i pins s σ H E I hf st hg;subst hP hw hK;obtain⟨xs,hq,hx⟩:=hg;obtain⟨⟨old,h1⟩,h2⟩:=st;obtain⟨its,rv,hO⟩:=hq.of I;have hl:=rv.length;exact Ew (I.ok.hd hc) h1 h2 hO (by simp;lia) λh' eb=>⟨rfl,zv (t':=s.toks) I (λa o ha q=>eb a o (λz=>ha (by simp[z])) q) hf⟩
 self:=λA i s Q E ⟨⟨old,h1⟩,_⟩ q=>by
  have hT:s.TypeIs (.ref e) "enumerate":=⟨_,h1,rfl⟩;refine wpAny_pyIter_slot hT F.slot_enumerate_iter (Rq F.slot_enumerate_iter hT F.entry_enumerate_iter ?_ (F.args_enumerate_iter_1 _));show wpAny _ _ (ret (.ref e)) _ _ s;exact PZ ⟨_,rfl,"enumerate",_,hT,Rx.lookup,q⟩
theorem BW:bootBuiltins "enumerate"=some (.type "enumerate"):=by decide+kernel
theorem F6(hg:Gl X "enumerate")(hm:X.mg "enumerate"=none)(ha:PA X [a] ta)(hs:starEach [a] X.env=[(false,eval a X.env)]:=by ac_nf):
  PI X (.Tuple es k0 tpos) (.Call (.Name "enumerate" p) [a] [] pos) (λσ H R=>ta σ H λvs H1=>∃l b,vs=[.ref l]/\(∃xs,Fi b X.K H1 l xs)/\R (O4 b X.K l) H1):=by
 intro pins s σ H R I h;refine Call_ (jy I hg hm BW (QJ (cM (ha pos pins s σ H _ I h) λus s1 ⟨vs,H1,I1,r1,q1⟩=>?_) hs rfl));obtain⟨l,b,e,⟨xs,hq⟩,q⟩:=q1;subst e;obtain⟨u,rfl,ru⟩:=Vals.one r1;obtain rfl:u=Value.ref l:=ru;obtain⟨its,rv,hO⟩:=hq.of I1;refine BL hO λh' a1 a2 a3 a4=>?_;have I2:L2.Inv X pins σ H1 {s1 with heap:=h'}:=I1.kept (t':=s1.toks) a4;have hf:∀c∈[s1.heap.objs.size+1,s1.heap.objs.size],kd X pins H1 c:=λc hc=>by
  simp at hc;rcases hc with rfl | rfl
  ·exact I1.Bz (SF _) (I1.ba.fresh (SF _))
  ·exact I1.Bz (Pw _) (I1.ba.fresh (Pw _))
 have T:=AL (P:=X.prog) (w:=X.w) (K:=X.K) (es:=es) (k0:=k0) (pos:=tpos) b l (s1.heap.objs.size+1) s1.heap.objs.size (Nat.succ_ne_self _);refine T.self X.A 0 {s1 with heap:=h'} _ X.xe ⟨⟨_,a1⟩,a2⟩ ?_;exact⟨_,[s1.heap.objs.size+1,s1.heap.objs.size],_,_,H1,rfl,I2,T,⟨⟨_,a1⟩,a2⟩,hf,q⟩
end Sb
namespace Sm
open PySem L2 PySem.Spec PyProof.Rows
noncomputable def kE:Nat->List D->List D
 | _,[]=>[]
 | k,x::r=>.tup [.int (k:Int),x]::kE (k+1) r
theorem nY:∀(xs:List D)(k i:Nat),(kE k xs)[i]?=(xs[i]?).map λx=>.tup [.int ((k+i:Nat):Int),x]
 | [],k,i=>by simp[kE]
 | x::r,k,0=>by simp[kE]
 | x::r,k,i+1=>by
  show(kE (k+1) r)[i]?=_;rw[nY r (k+1) i];simp only[Qz];congr 1
  funext y
  rw[show k+1+i=k+(i+1) by lia]
theorem cD:∀(xs:List D)(k:Nat),(kE k xs).length=xs.length
 | [],_=>rfl
 | _::r,k=>by simp[kE,cD r (k+1)]
theorem SeqAt.M8{K:FR}{H:Hp}{a:Addr}{vs:List V}{b:Bool}(q:SeqAt K H a vs b):Sb.Fi b K H a vs:=by
 cases q with
 | l q=>exact q
 | t q=>exact q
noncomputable def rH(m:AM):IM:=λδ h=>(m δ h).bind λp=>match p.1 with
 | [d]=>(dq d p.2).map λq=>(kE 0 q.1,q.2,p.2)
 | _=>none
theorem Ob{α:Type}{l:List α}(h:l.length=2):∃a b,l=[a,b]:=by
 cases l with
 | nil=>cases h
 | cons a l=>obtain⟨b,rfl⟩:=Rm.mp (Nat.succ.inj h);exact⟨a,b,rfl⟩
theorem lE(hg:Gl X "enumerate")(hm:X.mg "enumerate"=none)(ha:SA X [a] m)(hl:kg m 1)(hs:starEach [a] X.env=[(false,eval a X.env)]:=by ac_nf):SI X (.Tuple es k0 tpos) (.Call (.Name "enumerate" p) [a] [] pos) (rH m):=
 (Sb.F6 hg hm ha hs).imp λσ H Q zz=>by
  obtain⟨ρ,δ,h,xs,ws,h',R,S,e,k⟩:=zz;obtain⟨⟨ds,h1⟩,e1,e2⟩:=bE e;refine⟨ρ,δ,h,ds,h1,R,S,e1,λvs ρ1 H1 T1 S1 r1=>?_⟩;obtain⟨d,rfl⟩:=Rm.mp (hl _ _ _ _ e1);obtain⟨⟨ys,w⟩,e3,e4⟩:=gv e2;cases e4;obtain⟨v,rfl,rd⟩:=rep1 r1;obtain⟨a,rfl,⟨us,q,l⟩,st⟩:=qz S1 rd e3;refine⟨a,y1 d,rfl,⟨us,q.M8⟩,k _ ρ1 H1 T1 S1 ⟨λρ2 H2 h2 T2 S2 hc i=>?_⟩⟩;obtain⟨ws,l2,q2⟩:=st ρ2 H2 h2 T2 S2 hc;refine⟨λhi=>⟨ws,q2.M8,by rw[l2.length];rw[cD] at hi;exact hi⟩,λx hx=>?_⟩;rw[nY] at hx;obtain⟨y,ey,hx⟩:=gv hx;subst hx;obtain⟨v,ev,rv⟩:=l2.got ey;refine⟨⟨ws,v,q2.M8,ev⟩,λu H3 ⟨p,y',hp,hu,hH,hy⟩=>?_⟩;subst hu;subst hH;have hy':y'=v:=by have:=hy ws q2.M8;rw[ev] at this;exact(Option.some.inj this).symm
  subst hy';refine⟨df.laid S2 hp,S2.laid hp,.tup (.inl ⟨.inl aR,S2.fresh hp⟩) (.cons ?_ (.cons (rv.mono (df.laid S2 hp).toCh) .nil))⟩;rw[QT];exact .int _
noncomputable def vW(ls:List (Key×D)):List (Key×D)->Option Bool
 | []=>some true
 |(k,v)::r=>match pD ls k with
  | none=>some false
  | some u=>(vw v).bind λa=>(vw u).bind λb=>if a.depth<=60/\b.depth<=60 then(vW ls r).map λc=>PyData.eqv a b&&c else none
noncomputable def Ez(ks ls:List (Key×D)):Option Bool:=if ks.length=ls.length then vW ls ks else some false
noncomputable def Hr(d e:D)(h:MH):Option Bool:=match dU d h,dU e h with
 | some ks,some ls=>Ez ks ls
 | _,_=>Hq d e h
noncomputable def cR(d e:D)(h:MH):Option (D×MH):=(Hr d e h).map λc=>(.bl c,h)
noncomputable def jz(d e:D)(h:MH):Option (D×MH):=(Hr d e h).map λc=>(.bl (!c),h)
theorem GB(hu:X.A.units+64 < cLine)(I:L2.Inv X pins σ H s)(lb:bD X.K ρ H vs ls)(rb:KV vs kb):
  ∀{us:List (Key×V)} {ks:List (Key×D)} {ka:List (Key×Value)} {c:Bool},bD X.K ρ H us ks->KV us ka->vW ls ks=some c->PySem.W.KeqHits X.A.in1 s kb ka c:=by
 intro us
 induction us with
 | nil=>
  intro ks ka c a ra e;cases a;cases ra;cases e;exact .nil
 | cons u0 us ih=>
  intro ks ka c a ra e;cases a with | @cons k v _ d _ r l=>
  cases ra with
  | cons ra rr=>
   rename_i p ka;obtain⟨k',y⟩:=p;obtain⟨ek,ry⟩:=ra;dsimp only at ek ry;subst ek;simp only[vW] at e;have rel:=rb.val k;rcases lb.val k with⟨h1,h2⟩ |⟨d',v',h1,h2,r'⟩
   ·rw[h1] at e;cases e;rw[h2] at rel;refine .miss ?_;cases q:valueAt kb k with
    | none=>rfl
    | some _=>rw[q] at rel;exact rel.elim
   ·rw[h1] at e;obtain⟨a,e1,e⟩:=bE e;obtain⟨b,e2,e⟩:=bE e
    by_cases z:a.depth<=60/\b.depth<=60
    ·rw[Py z] at e;obtain⟨c',e3,e4⟩:=gv e;subst e4;rw[h2] at rel;cases q:valueAt kb k with
     | none=>rw[q] at rel;exact rel.elim
     | some y'=>
      rw[q] at rel;obtain⟨r1,c1⟩:=r.sS e1;obtain⟨r2,c2⟩:=r'.sS e2;obtain⟨as,ra1⟩:=r1.reads I ry;obtain⟨bs,ra2⟩:=r2.reads I rel;refine .hit q (RH a b _ s y y' as bs ra1 ra2 c1 c2 ?_) (ih l rr e3);have:min a.depth b.depth<=a.depth:=Su _ _;show X.A.units+1+min a.depth b.depth < cLine
      lia
    ·rw[PH z] at e;cases e
theorem Eu(hu:X.A.units+64 < cLine)(I:L2.Inv X pins σ H s)(rx:L2.RelV x v)(ry:L2.RelV y u)(S:bM X.K ρ h H)(rd:Rep X.K ρ H x d)(re:Rep X.K ρ H y e)(ee:Hr d e h=some c):
  (∀Q:Value->Shared->Prop,Q (.bool c) s->wpAny (model X.prog X.w) X.A (compareOp .Eq v u) Q X.xe s)/\∀Q:Value->Shared->Prop,Q (.bool (!c)) s->wpAny (model X.prog X.w) X.A (compareOp .NotEq v u) Q X.xe s:=by
 have data:Hq d e h=some c->(∀Q:Value->Shared->Prop,Q (.bool c) s->wpAny (model X.prog X.w) X.A (compareOp .Eq v u) Q X.xe s)/\∀Q:Value->Shared->Prop,Q (.bool (!c)) s->wpAny (model X.prog X.w) X.A (compareOp .NotEq v u) Q X.xe s:=by
  intro ee;obtain⟨a,e3,e4⟩:=bE ee;obtain⟨b,e5,e6⟩:=bE e4
  by_cases w:a.depth<=64/\b.depth<=64
  ·rw[Py w] at e6;cases e6;obtain⟨r1,c1⟩:=lX S rd e3;obtain⟨r2,c2⟩:=lX S re e5;obtain⟨as,ra⟩:=r1.reads I rx;obtain⟨bs,rb⟩:=r2.reads I ry;exact⟨λQ q=>eq_dataH ra rb (j5 c1 w.1) (j5 c2 w.2) hu q,λQ q=>ne_dataH ra rb (j5 c1 w.1) (j5 c2 w.2) hu q⟩
  ·rw[PH w] at e6;cases e6
 unfold Hr at ee;cases q1:dU d h with
 | none=>rw[q1] at ee;exact data ee
 | some ks=>
  cases q2:dU e h with
  | none=>rw[q1,q2] at ee;exact data ee
  | some ls=>
   rw[q1,q2] at ee;obtain⟨a,us,rfl,ha,la⟩:=iR S rd q1;obtain⟨b,ws,rfl,hb,lb⟩:=iR S re q2;obtain rfl:v=Value.ref a:=rx;obtain rfl:u=Value.ref b:=ry;obtain⟨_,na,ka,ra,da⟩:=An I.ba ha;obtain⟨_,nb,kb,rb,db⟩:=An I.ba hb;have l1:ka.length=ks.length:=by rw[<-la.length];exact(Paired.length ra).symm
   have l2:kb.length=ls.length:=by rw[<-lb.length];exact(Paired.length rb).symm
   dsimp only[Ez] at ee
   by_cases z:ks.length=ls.length
   ·rw[Py z] at ee;have hits:=GB hu I lb rb la ra ee;have ez:(ka.length==kb.length&&c)=c:=by rw[l1,l2,z,Qs,TH]
    exact⟨λQ q=>PySem.W.keq_eq na nb da db (by lia) (λ_=>hits) (by rw[ez];exact q),λQ q=>PySem.W.keq_ne na nb da db (by lia) (λ_=>hits) (by rw[ez];exact q)⟩
   ·rw[PH z] at ee;cases ee;have ez:(ka.length==kb.length&&false)=false:=Bool.and_false _;have nh:ka.length=kb.length->PySem.W.KeqHits X.A.in1 s kb ka false:=λq=>absurd (by rw[<-l1,<-l2];exact q) z;exact⟨λQ q=>PySem.W.keq_eq na nb da db (by lia) nh (by rw[ez];exact q),λQ q=>PySem.W.keq_ne na nb da db (by lia) nh (by rw[ez];exact q)⟩
theorem Jf(hu:X.A.units+64 < cLine):oh X (compareOp .Eq) cR:=by
 intro pins s σ H x y v u Q I rx ry hh;obtain⟨ρ,h,d,e,z,h',S,rd,re,ee,k⟩:=hh;obtain⟨c,e1,e2⟩:=gv ee;cases e2;exact(Eu hu I rx ry S rd re e1).1 _ ⟨.bl _,H,I,rfl,k _ _ (.here S (.bl _))⟩
theorem qZ(hu:X.A.units+64 < cLine):oh X (compareOp .NotEq) jz:=by
 intro pins s σ H x y v u Q I rx ry hh;obtain⟨ρ,h,d,e,z,h',S,rd,re,ee,k⟩:=hh;obtain⟨c,e1,e2⟩:=gv ee;cases e2;exact(Eu hu I rx ry S rd re e1).2 _ ⟨.bl _,H,I,rfl,k _ _ (.here S (.bl _))⟩
noncomputable def yS(acc:List (Key×D))(ps:List (Key×D)):List (Key×D):=ps.foldl (λa p=>putD a p.1 p.2) acc
theorem bD.merge{K:FR}{ρ:Ad}{H:Hp}:∀{kvs:List (Key×V)} {ps:List (Key×D)} {acc:List (Key×V)} {ac:List (Key×D)},bD K ρ H acc ac->bD K ρ H kvs ps->bD K ρ H (fV acc kvs) (yS ac ps):=by
 intro kvs
 induction kvs with
 | nil=>intro ps acc ac a b;cases b;exact a
 | cons x kvs ih=>intro ps acc ac a b;cases b with | @cons k v _ d _ r l=>exact ih (acc:=putK acc k v) (ac:=putD ac k d) (a.put r) l
theorem Av:bootBuiltins "list"=some (.type "list"):=by decide+kernel
theorem jD:bootBuiltins "tuple"=some (.type "tuple"):=by decide+kernel
theorem Kv:bootBuiltins "int"=some (.type "int"):=by decide+kernel
theorem ER:bootBuiltins "str"=some (.type "str"):=by decide+kernel
theorem wx:bootBuiltins "len"=some (.builtin "len"):=by decide+kernel
theorem Kw:bootBuiltins "abs"=some (.builtin "abs"):=by decide+kernel
noncomputable def HM(sc:Scope)(x:Str):Bool:=match sc.names.lookup x with
 | some .local=>true
 | some .cell=>true
 | some .free=>true
 | _=>false
noncomputable def Gr(sc:Scope)(x:Str):Bool:=match sc.names.lookup x with
 | some .local=>true
 | some .cell=>true
 | _=>false
noncomputable def Nd(X:Cx)(x:Str):Bool:=X.fn x||(match X.env.scope.names.lookup x with
 | some .local=>true
 | _=>false)
theorem HL(h:HM sc x=true):KA sc x:=by
 unfold HM at h
 split at h <;> first |(cases h;done) | skip
 ·exact .inl ‹_›
 ·exact .inr (.inl ‹_›)
 ·exact .inr (.inr ‹_›)
theorem DX(h:Gr sc x=true):Loc sc x:=by
 unfold Gr at h
 split at h <;> first |(cases h;done) | skip
 ·exact .inl ‹_›
 ·exact .inr ‹_›
theorem Ec(h:Nd X x=true):X.fn x=true\/X.env.scope.names.lookup x=some .local:=by
 unfold Nd at h;rw[Ra] at h;rcases h with h | h
 ·exact .inl h
 ·split at h
  ·exact .inr ‹_›
  ·cases h
theorem sv(i:Nat)(hN:X.N[i]?=some x:=by ac_nf)(hv:HM X.env.scope x=true:=by ac_nf)(hd:(x==("__debug__":Str))=false:=by ac_nf)(hcd:(x==("__classdict__":Str))=false:=by ac_nf):SE X (.Name x pos) (ay i):=Ii hN (HL hv) hd hcd
theorem sset(i:Nat)(hN:X.N.Nodup)(he:SE X e ma)(hi:X.N[i]?=some x:=by ac_nf)(hx:Gr X.env.scope x=true:=by ac_nf)(hs:swapsWith e (some (.Name x pos')) pos.line X.env=pure false:=by ac_nf)(hf:Nd X x=true:=by ac_nf):SS X (.Assign [.Name x pos'] e pos) (aS i ma):=HY hN hi (DX hx) he hs (Ec hf)
theorem sgn(i:Nat)(hN:X.N.Nodup)(hi:X.N[i]?=some x:=by ac_nf)(hx:Gr X.env.scope x=true:=by ac_nf)(hf:Nd X x=true:=by ac_nf):SG X (.Name x pos) (gN i):=Fz hN hi (DX hx) (Ec hf)
noncomputable def ve(i j:Nat)(m:AM):SM:=λδ h=>(m δ h).bind λp=>match p.1 with
 | [a,b]=>some (.nx,(δ.set i (some a)).set j (some b),p.2)
 | _=>none
theorem yp(i j:Nat){kt k2 pt2}(hN:X.N.Nodup)(hl:kg m 2)(hc:X.calm=true)(hij:i≠j)(P:PS X (.Assign [.Tuple [.Name x px,.Name y py] kt pt] (.Tuple [a,b] k2 pt2) pos) (Le i j (ON X.K m))):
  SS X (.Assign [.Tuple [.Name x px,.Name y py] kt pt] (.Tuple [a,b] k2 pt2) pos) (ve i j m):=P.imp λE σ H zz=>by
 obtain⟨ρ,δ,h,fl,δ',h',R,S,e,k⟩:=zz;obtain⟨⟨ds,h1⟩,e1,e2⟩:=bE e;refine⟨ρ,δ,h,ds,h1,R,S,e1,λvs ρ1 H1 T1 S1 r1=>?_⟩;obtain⟨d,d',rfl⟩:=Ob (hl _ _ _ _ e1);cases e2;obtain⟨v,u,rfl,rd,rd'⟩:=rep2 r1;exact⟨v,u,rfl,k ρ1 H1 T1 S1 _ (((R.mono T1.toCh).set rd i).set rd' j)⟩
structure Df(P:Program)(w:World)(K:FR)(mg:Str->Option Value)(base:Heap)(nm:Str)(k:Nat)(ps:List Str)(n:Nat)(F:Fn):Prop where
 ex:∃(f:Addr)(fd:FuncData),eI P w K mg base ni k f fd ps (AS K n F)/\PySem.W.keepIn K (.ref f)=true/\Binds K fd ps []/\mg nm=some (.ref f)
theorem LA(d:Df X.prog X.w X.K X.mg X.base nm k ps n F)(hr:cF k' X.A)(hk:k<=k')(ha:SA X (e::es) m)(hl:kg m n)(hg:Gl X nm:=by unfold Gl;ac_nf)(hdb:(nm==("__debug__":Str))=false:=by ac_nf)(he:starEach (e::es) X.env=(false,eval e X.env)::starEach es X.env:=by ac_nf)(hpl:(backTo pos (starEach es X.env)).any (·.1)=false:=by ac_nf):SE X (.Call (.Name nm p) (e::es) [] pos) (aw F m):=by
 obtain⟨f,fd,G,kf,bf,mf⟩:=d.ex;exact FG G (hr.mono hk) hg mf kf bf ha hl hdb he hpl
theorem iH{P:Program}{w:World}{K:FR}{mg:Str->Option Value}{base:Heap}{k n:Nat}{f:Addr}{fd:FuncData}{ps:List Str}:eI P w K mg base ni k f fd ps (AS K n λ_ _=>none):=
 ⟨λvs H Q E hh=>(by obtain⟨_,_,_,_,_,_,_,_,e,_⟩:=hh;cases e),λA outer s H args us vs Q E _ _ _ _ hh=>(by obtain⟨_,_,_,_,_,_,_,_,e,_⟩:=hh;cases e)⟩
end Sm
namespace L2
open PySem PySem.Spec PyProof.Rows
section
variable {X:Cx} {N':List Str} {caps:List (Option Nat)} {scope:Scope} {e tg iter:Expr} {ifs:List Expr} {p:Pos} {wi:TI} {g:TG} {tc:TT} {tm:Addr->TK} {o:Addr->HO} {na:Sem Value} {act:Addr->Env->Sem Unit}
end
end L2
namespace Sm
open PySem L2 PySem.Spec PyProof.Rows
structure Ac(α:Type)where
 at_:FR->Ad->Hp->Addr->α->Prop
 mono:∀{K:FR} {ρ ρ':Ad} {H H':Hp} {l:Addr} {a:α},at_ K ρ H l a->Ch ρ H ρ' H'->H' l=H l->at_ K ρ' H' l a
abbrev MK(α:Type):=DS->MH->α->Option (DS×MH×α)
section
variable {α:Type} {K:FR} {A:Ac α} {l:Addr} {g:GM} {mt:TM} {m:MK α}
end
section
variable {α:Type} {X:Cx} {A:Ac α} {g:GM} {mt:TM} {m:MK α} {mi:IM} {e tg iter:Expr} {ifs:List Expr} {d:Nat} {p:Pos} {act:Addr->Env->Sem Unit}
end
end Sm
namespace L2
open PySem PySem.Spec PyProof.Rows
section
variable {P:Program} {w:World} {A:Around} {E:Value->Shared->Prop} {s:Shared} {a:Addr} {ks:List Str}
end
noncomputable def B3(a b:Str):Bool:=!ltCps b.cps.toList a.cps.toList
theorem iN:B3 a b=true↔strKind.kle a.cps.toList b.cps.toList:=by
 unfold B3 KeyOrd.kle;rw[ltCps_eq];simp
theorem ua(a b c:Str)(h1:B3 a b=true)(h2:B3 b c=true):B3 a c=true:=iN.mpr (KeyOrd.kle_trans (iN.mp h1) (iN.mp h2))
theorem Bt(a b:Str):(B3 a b||B3 b a)=true:=by
 rw[Ra]
 by_cases z:strKind.klt b.cps.toList a.cps.toList
 ·exact .inr (iN.mpr (KeyOrd.kle_of_klt z))
 ·exact .inl (iN.mpr (KeyOrd.kle_of_not_klt z))
theorem D2(a b:Str)(h1:B3 a b=true)(h2:B3 b a=true):a=b:=by
 have:=KeyOrd.kle_antisymm (iN.mp h1) (iN.mp h2);cases a;cases b;congr 1;exact Array.toList_inj.mp this
noncomputable def iX(ks:List Str):List Str:=ks.mergeSort B3
theorem fN(ks:List Str):(iX ks).Perm ks:=Ur _ _
theorem uR(ks:List Str):(iX ks).Pairwise λa b=>B3 a b=true:=TV ua Bt ks
theorem tO:∀(l:List Str)(p:Str),risingS p l=true->(p::l).Pairwise λa b=>B3 a b=true
 | [],p,_=>by simp
 | x::r,p,h=>by
  have h':(!ltCps x.cps.toList p.cps.toList&&risingS x r)=true:=h;rw[Qd] at h';have ih:=tO r x h'.2;refine Ux.mpr ⟨λy hy=>?_,ih⟩;rcases PB.mp hy with rfl | hy
  ·exact h'.1
  ·exact ua _ _ _ h'.1 ((Ux.mp ih).1 y hy)
theorem CI(hp:ss.Perm ks)(h:sortedS ss=true):ss=iX ks:=by
 refine TF (λa b _ _=>D2 a b) ?_ (uR ks) (hp.trans (fN ks).symm)
 match ss,h with
 | [],_=>exact .nil
 | x::r,h=>exact tO r x h
end L2
namespace Sm
open PySem L2 PySem.Spec PyProof.Rows
theorem bD.len{K:FR}{ρ:Ad}{H:Hp}:∀{us:List (Key×V)} {ks:List (Key×D)},bD K ρ H us ks->us.length=ks.length
 | _,_,.nil=>rfl
 | _,_,.cons _ r=>by rw[PK,PK,r.len]
end Sm
namespace L2
open PySem PySem.Spec PyProof.Rows
theorem AI{us:List Value}{ss:List Str}(a:StrsAre us ss):Vals (ss.map V.str) us:=by
 induction a with
 | nil=>exact .nil
 | cons x t r ih=>exact .cons ⟨t,rfl⟩ ih
end L2
namespace Sm
open PySem L2 PySem.Spec PyProof.Rows
section
variable {α:Type} {K:FR} {A:Ac α} {g:GM} {mt:TM} {m:MK α}
end
section
variable {X:Cx} {k v tg iter elt tg2 iter2:Expr} {pos:Pos} {mk mv me:EM} {mt mt2:TM} {g g2:GM} {N':List Str} {caps:List (Option Nat)} {scope:Scope} {ifs ifs2:List Expr} {mi mi2:IM}
theorem nB{K:FR}{ρ:Ad}{H:Hp}:∀(ss:List Str),(∀k∈ss,PyData.strOk k=true)->aD K ρ H (ss.map V.str) (ss.map D.str)
 | [],_=>.nil
 | x::r,h=>.cons (.str (h x Px)) (nB r λk hk=>h k (Pz _ hk))
end
end Sm
namespace L2
open PySem PySem.Spec PyProof.Rows
section
variable {X:Cx} {e st:Expr} {te ts:TE} {pos p2:Pos}
end
end L2
namespace Sm
open PySem L2 PySem.Spec PyProof.Rows
section
variable {X:Cx} {e st a b c:Expr} {ma ms mb mc:EM} {pos p2:Pos}
abbrev HB:=DS->MH->Option (List (Key×D)×MH)
noncomputable def Gb:HB:=λ_ h=>some ([],h)
noncomputable def eJ(k v:EM)(r:HB):HB:=λδ h=>(k δ h).bind λp=>(v δ p.2).bind λq=>(vO p.1).bind λkk=>(r δ q.2).map λz=>((kk,q.1)::z.1,z.2)
inductive MJ(K:FR)(m:HB)(σ:L2.St)(H:Hp)(Q:List (V×V)->Hp->Prop):Prop where
 | mk (ρ δ h kvs h'):cI K ρ H σ δ->bM K ρ h H->(m δ h=some (kvs,h'))->(∀us ρ' H',df ρ H ρ' H'->bM K ρ' h' H'->bD K ρ' H' us kvs->Q (us.map λkv=>(kV kv.1,kv.2)) H')->MJ K m σ H Q
def Pb(K:FR)(m:HB):L2.St->Hp->(List (V×V)->Hp->Prop)->Prop:=λσ H Q=>MJ K m σ H Q
def SP(X:Cx)(pos:Pos)(keys:List (Option Expr))(vals:List Expr)(m:HB):Prop:=∃trs,KN X pos keys vals trs/\∀σ H Q,Pb X.K m σ H Q->uP trs σ H Q
theorem CF:SP X pos [] [] Gb:=⟨[],F1,λσ H Q ⟨ρ,δ,h,kvs,h',R,S,e,k⟩=>by
 cases e;exact k [] ρ H (.refl _ _) S .nil⟩
theorem dZ(hk:SE X kx mk)(hv:SE X vx mv)(hr:SP X pos ks vs m):SP X pos (some kx::ks) (vx::vs) (eJ mk mv m):=by
 obtain⟨trs,h1,h2⟩:=hr;refine⟨_,Dw hk hv h1,λσ H Q ⟨ρ,δ,h,kvs,h',R,S,ee,k⟩=>?_⟩;obtain⟨⟨x,ha⟩,e1,e2⟩:=bE ee;obtain⟨⟨y,hb⟩,e3,e4⟩:=bE e2;obtain⟨kk,e5,e6⟩:=bE e4;obtain⟨⟨zs,hz⟩,e7,e8⟩:=gv e6;cases e8;refine⟨ρ,δ,h,x,ha,R,S,e1,λv H1 ⟨ρ1,T1,S1,r1⟩=>⟨ρ1,δ,ha,y,hb,R.mono T1.toCh,S1,e3,λu H2 ⟨ρ2,T2,S2,r2⟩=>?_⟩⟩;refine h2 σ H2 _ ⟨ρ2,δ,hb,zs,_,(R.mono T1.toCh).mono T2.toCh,S2,e7,λus ρ3 H3 T3 S3 r3=>?_⟩;have ek:=jY r1 e5;subst ek;exact k ((kk,u)::us) ρ3 H3 ((T1.trans T2).trans T3) S3 (.cons (r2.mono T3.toCh) r3)
noncomputable def Ht(m:HB):EM:=λδ h=>(m δ h).bind λp=>if p.1.length<=15 then some (.dv (yS [] p.1),p.2) else none
theorem FF(h:SP X pos keys vals m)(hall:keys.all (·.isSome)=true)(hl:keys.length=vals.length)(h0:keys≠[])(hp:∀trs,KN X pos keys vals trs->PE X (.Dict keys vals pos) (Cw trs)):SE X (.Dict keys vals pos) (Ht m):=by
 obtain⟨trs,h1,h2⟩:=h;refine(hp trs h1).imp λσ H Q ⟨ρ,δ,h,d,h',R,S,ee,k⟩ p hpn=>?_;obtain⟨⟨kvs,ha⟩,e1,e2⟩:=bE ee;dsimp only at e2
 by_cases z:kvs.length<=15
 ·rw[Py z] at e2;cases e2;have Tl:Ch ρ H (ρ.keep p) (upd H p (.dK [])):=Ch.keep hpn;have nl:¬ρ.has p:=S.fresh hpn;refine h2 σ _ _ ⟨ρ.keep p,δ,h,kvs,_,R.mono Tl,S.keep hpn,e1,λus ρ2 H2 T2 S2 r2=>?_⟩;have hp2:H2 p=some (.dK []):=(T2.res p Px).trans aR;refine⟨hp2,us,rfl,by rw[r2.len];exact z,?_⟩;obtain⟨ob2,rs2⟩:=ρ2;have ers:rs2=p::ρ.rs:=T2.rs;subst ers;have hml:p∈(⟨ob2,p::ρ.rs⟩:Ad).rs:=Px;have hsub:∀b∈ρ.rs,b∈p::ρ.rs:=λb hb=>Pz _ hb;have hne:∀b∈ρ.rs,b≠p:=λb hb z=>nl (.inr (z ▸ hb));have Cp:Ch ⟨ob2,p::ρ.rs⟩ H2 ⟨ob2,p::ρ.rs⟩ (upd H2 p (.dK (fV [] us))):=Ch.put hml;have C2:Ch ⟨ob2,p::ρ.rs⟩ (upd H2 p (.dK (fV [] us))) ⟨ob2,ρ.rs⟩ (upd H2 p (.dK (fV [] us))):=Ch.free hsub;refine k _ _ ⟨⟨ob2,ρ.rs⟩,⟨((Tl.trans T2.toCh).trans Cp).trans C2,rfl,λb hb=>?_⟩,(S2.put hml).free hsub,.dv aR (λz=>?_) ((bD.merge .nil r2).mono (Cp.trans C2))⟩
  ·show upd H2 p _ b=H b;rw[az (hne b hb),T2.res b (hsub b hb)];exact az (hne b hb)
  ·rcases z with z | z
   ·exact(S2.sH p Px).2 z
   ·exact nl (.inr z)
 ·rw[PH z] at e2;cases e2
end
end Sm
namespace L2
open PySem PySem.Spec PyProof.Rows
open HT in
theorem AN{t sl:Addr}{items:Array Value}{vl vu:Value}{lo hi:Option Int}{Q:Value->Shared->Prop}(ht:IsTup s.heap t items)(hs:s.heap.IsSliceOf sl vl vu .none)(pl:IsPart vl lo)(pu:IsPart vu hi)
  (hw:cG items.size 0 lo=0/\cG items.size items.size hi=items.size) (h:Q (.ref t) s):wpAny (model prog w) A (getItem (.ref t) (.ref sl)) Q E s:=by
 obtain⟨os,hos,hcs,kc⟩:=id hs;have hTs:s.TypeIs (.ref sl) "slice":=⟨os,hos,hcs⟩;unfold getItem
 try with_reducible refine R6 ?_
 first | refine Pu (PZ ?_) | skip
 refine Pu (wpAny_sequenceKey ht.typeIs (by decide) ?_);refine Pu (Q2 (name:=Str.ofString "__getitem__") ht.typeIs Qt (Rq Qt ht.typeIs entry_tuple_getitem ?_ (args_tuple_getitem _ _)));show wpAny _ _ (Builtin.Tuple.tupleItemsOf (.ref t) >>=_) _ _ s;refine Pu (tupleItemsOf_ ht (Pu (wpAny_typeOf hTs ?_)));rw[Py (by decide)];refine Pu (gQ hs pl pu ?_);show wpAny _ _ (if(((cG items.size 0 lo:Nat):Int)==0&&(1:Int)==1&&(cG items.size items.size hi-cG items.size 0 lo)==items.size)=true then _ else _) _ _ s;rw[Py (by rw[hw.1,hw.2];simp)];unfold Builtin.Tuple.tupleIsExact;simp only[bind_assoc,pure_bind];refine Pu (wpAny_typeOf ht.typeIs ?_);rw[Py (by decide)]
 first
  | exact Pu (Ti (PZ ⟨_,rfl,PZ h⟩))
  | exact Pu (Ti (Pu (PZ (PZ ⟨_,rfl,PZ h⟩))))
def NR(K:FR):V->Option Int->Option Int->Hp->VK->Prop:=λx lo hi H Q=>∃a xs,x=.ref a/\kG K H a xs/\(HT.cG xs.length 0 lo=0/\HT.cG xs.length xs.length hi=xs.length)/\Q (.ref a) H
theorem CJ:KH X (NR X.K):=by
 intro pins s σ H x v vl vu lo hi sl Q I rx hs pl pu h;obtain⟨a,xs,rfl,hx,hw,q⟩:=h;cases rx;obtain⟨its,r,ht,hz⟩:=I.tuple hx;have hlen:its.toArray.size=xs.length:=by rw[PQ];exact r.length.symm
 exact⟨"tuple",_,Qt.lookup,ht.typeIs,AN ht hs pl pu (by rw[hlen];exact hw) ⟨.ref a,H,I,rfl,q⟩⟩
end L2
namespace Sm
open PySem L2 PySem.Spec PyProof.Rows
section
variable {X:Cx}
noncomputable def gg(d:D)(lo hi:Option Int)(h:MH):Option (D×MH):=match d with
 | .tup xs=>if HT.cG xs.length 0 lo=0/\HT.cG xs.length xs.length hi=xs.length then some (.tup xs,h) else some (.tup (cutD xs lo hi),h)
 | d=>Mm d lo hi h
noncomputable def ib(a:EM)(l u:PM):EM:=λδ h=>(a δ h).bind λp=>(l δ p.2).bind λq=>(u δ q.2).bind λr=>gg p.1 q.1 r.1 r.2
inductive Hz(K:FR)(x:V)(lo hi:Option Int)(H:Hp)(Q:VK):Prop where
 | mk (ρ h d z h'):bM K ρ h H->Rep K ρ H x d->(gg d lo hi h=some (z,h'))->(∀v H',dm K ρ H h' z v H'->Q v H')->Hz K x lo hi H Q
def NV(K:FR):V->Option Int->Option Int->Hp->VK->Prop:=λx lo hi H Q=>Hz K x lo hi H Q
theorem HX:KH X (NV X.K):=by
 intro pins s σ H x v vl vu lo hi sl Q I rx hs pl pu hh;obtain⟨ρ,h,d,z,h',S,rd,ee,k⟩:=hh;cases d with
 | tup xs=>
  unfold gg at ee;dsimp only at ee
  by_cases c:HT.cG xs.length 0 lo=0/\HT.cG xs.length xs.length hi=xs.length
  ·rw[Py c] at ee;cases ee;have rd0:=rd;cases rd with | tup h0 l0=>
   exact CJ pins s σ H _ v vl vu lo hi sl Q I rx hs pl pu ⟨_,_,rfl,h0.sq,by rw[l0.length];exact c,k _ _ (.here S rd0)⟩
  ·rw[PH c] at ee;exact G9 pins s σ H x v vl vu lo hi sl Q I rx hs pl pu ⟨ρ,h,_,z,h',S,rd,by unfold Mm;dsimp only;rw[PH c];exact ee,k⟩
 | _=>exact G9 pins s σ H x v vl vu lo hi sl Q I rx hs pl pu ⟨ρ,h,_,z,h',S,rd,ee,k⟩
theorem CP{a:Expr}{lo hi:Option Expr}{pos p2:Pos}{ma:EM}{ml mu:PM}(ha:SE X a ma)(hl:SP' X lo ml)(hu:SP' X hi mu):SE X (.Subscript a (.Slice lo hi none p2) pos) (ib ma ml mu):=
 (DB HX ha hl hu).imp λσ H Q ⟨ρ,δ,h,d,h',R,S,e,k⟩=>by
  obtain⟨⟨x,h1⟩,e1,e2⟩:=bE e;obtain⟨⟨l,h2⟩,e3,e4⟩:=bE e2;obtain⟨⟨u,h3⟩,e5,e6⟩:=bE e4;exact⟨ρ,δ,h,x,h1,R,S,e1,λv H1 ⟨ρ1,T1,S1,r1⟩=>⟨ρ1,δ,h1,l,h2,R.mono T1.toCh,S1,e3,λρ2 H2 T2 S2=>⟨ρ2,δ,h2,u,h3,(R.mono T1.toCh).mono T2.toCh,S2,e5,λρ3 H3 T3 S3=>
   ⟨ρ3,h3,x,d,h',S3,r1.mono (T2.trans T3).toCh,e6,λw H4 p=>k w H4 (p.step (T1.trans (T2.trans T3)))⟩⟩⟩⟩
noncomputable def nW:Fn:=λds h=>match ds with
 | [.bl b]=>some (.int (if b then 1 else 0),h)
 | _=>none
theorem Ki:ir X (.type "int") nW:=by
 intro pins s σ H xs us Q I r hh;obtain⟨ρ,h,ds,z,h',S,l,ee,k⟩:=hh
 match ds,l,ee with
 | [],_,ee=>exact bU ee
 | _::_::_,_,ee=>exact absurd ee (by unfold nW;split <;> simp_all)
 | [d],l,ee=>
  obtain⟨v,rfl,rd⟩:=rep1 l;cases rd <;> first |(exact bU ee) | skip
  cases ee;obtain⟨u,rfl,ru⟩:=Vals.one r;cases ru;exact call_int_bool ⟨.int _,H,I.kept (t':=s.toks+1) (h':=s.heap) λ_ _ e=>e,⟨_,rfl⟩,k _ _ (.here S (.int _))⟩
noncomputable def hW(d e:D)(h:MH):Option (D×MH):=match d,e with
 | .str x,.int n=>if x.length<=1000/\0<=n/\n<=1000/\PyData.strOk (Txt.mul x n)=true then some (.str (Txt.mul x n),h) else none
 | d,e=>JW d e h
theorem gq:oh X (binaryOp .Mult) hW:=by
 intro pins s σ H x y v u Q I rx ry hh;obtain⟨ρ,h,d,e,z,h',S,rd,re,ee,k⟩:=hh;unfold hW at ee
 split at ee
 ·rename_i x0 n
  by_cases c:x0.length<=1000/\0<=n/\n<=1000/\PyData.strOk (Txt.mul x0 n)=true
  ·rw[Py c] at ee;cases ee;cases rd;cases re;obtain⟨t1,rfl⟩:=rx;obtain⟨t2,rfl⟩:=ry;obtain⟨c1,c2,c3,c4⟩:=c;refine SB.mul ⟨?_,λ_ _=>?_,λ_ _=>?_⟩ λt' k'=>⟨.str _,H,I.kept (t':=k') (h':=s.heap) λ_ _ e=>e,⟨t',rfl⟩,k _ _ (.here S (.str c4))⟩
   ·rw[Qm (by lia),Qm (by lia)];rfl
   ·have h1:(9007199254740991:Int)<=(2^63-1) / n:=by
     refine Int.le_ediv_of_mul_le (by lia) ?_;have:9007199254740991*n<=9007199254740991*1000:=Int.mul_le_mul_of_nonneg_left c3 (by decide)
     lia
    lia
   ·have h1:x0.length*n.toNat<=1000*1000:=Nat.mul_le_mul c1 (by lia);refine Qm ?_;have:=Rz
    lia
  ·rw[PH c] at ee;cases ee
 ·exact Jd pins s σ H x y v u Q I rx ry ⟨ρ,h,_,_,z,h',S,rd,re,ee,k⟩
noncomputable def iQ(f f':D->D->MH->Option (D×MH))(ma mb mc:EM):EM:=λδ h=>(ma δ h).bind λp=>(mb δ p.2).bind λq=>(f p.1 q.1 q.2).bind λr=>match r.1 with
 | .bl true=>(mc δ r.2).bind λu=>f' q.1 u.1 u.2
 | .bl false=>some (.bl false,r.2)
 | _=>none
theorem Dc(hh:tM X.K (iQ f f' ma mb mc) σ H Q):Cz (rS X.K f) (rS X.K f') (tM X.K ma) (tM X.K mb) (tM X.K mc) σ H Q:=by
 obtain⟨ρ,δ,h,d,h',R,S,ee,k⟩:=hh;obtain⟨⟨x,h1⟩,e1,e2⟩:=bE ee;obtain⟨⟨y,h2⟩,e3,e4⟩:=bE e2;obtain⟨⟨z,h3⟩,e5,e6⟩:=bE e4;dsimp only at e3 e5 e6;refine⟨ρ,δ,h,x,h1,R,S,e1,λv H1 ⟨ρ1,T1,S1,r1⟩=>⟨ρ1,δ,h1,y,h2,R.mono T1.toCh,S1,e3,λu H2 ⟨ρ2,T2,S2,r2⟩=>⟨ρ2,h2,x,y,z,h3,S2,r1.mono T2.toCh,r2,e5,λw H3 ⟨ρ3,T3,S3,r3⟩=>?_⟩⟩⟩;cases z with
 | bl b=>
  cases r3;refine⟨b,rfl,?_⟩;cases b with
  | false=>
   cases e6;exact Mb (k _ _ (dm.step (T1.trans (T2.trans T3)) (.here S3 (.bl false))))
  | true=>
   obtain⟨⟨u',h4⟩,e7,e8⟩:=bE e6;have T:=T1.trans (T2.trans T3);exact Ma ⟨ρ3,δ,h3,u',h4,R.mono T.toCh,S3,e7,λv' H4 ⟨ρ4,T4,S4,r4⟩=>⟨ρ4,h4,y,u',d,h',S4,r2.mono (T3.trans T4).toCh,r4,e8,λw' H5 P=>k w' H5 (P.step (T.trans T4))⟩⟩
 | _=>exact bU e6
theorem wM(ho:oh X (compareOp op) f)(ho':oh X (compareOp op') f')(ha:SE X a ma)(hb:SE X b mb)(hc:SE X c mc)(hm:lastMarks [op,op'] [b,c]=false:=by with_unfolding_all rfl):
  ST X (.Compare a [op,op'] [b,c] pos) (aE (iQ f f' ma mb mc)):=(Dr ho ho' ha hb hc hm).imp λσ H Q h=>Dc (FN h)
end
end Sm
namespace L2
open PySem PySem.Spec PyProof.Rows
section
variable {X:Cx} {e st:Expr} {te ts:TE} {pos p2:Pos}
end
end L2
namespace Sm
open PySem L2 PySem.Spec PyProof.Rows
section
variable {X:Cx} {e st:Expr} {ma ms:EM} {pos p2:Pos}
end
end Sm
namespace L2
open PySem PySem.Spec PyProof.Rows
open HT in
theorem EJ{t b:Addr}{vs ws:List Value}{Q:Value->Shared->Prop}(ht:IsTup s.heap t vs.toArray)(hb:IsTup s.heap b ws.toArray)(hv:vs=[])(h:Q (.ref b) s):wpAny (model prog w) A (binaryOp .Add (.ref t) (.ref b)) Q E s:=by
 obtain⟨⟨cls,dd,data,sl⟩,ho,hc,n,hd⟩:=id ht;obtain⟨⟨cls2,dd2,data2,sl2⟩,ho2,hc2,n2,hd2⟩:=id hb;simp only at hc hd hc2 hd2;subst hc hd hc2 hd2;exact concat_meets ⟨_,ho,rfl⟩ ⟨_,ho2,rfl⟩ Tz Uu Sq So (Sj _ _)
   (tuple_addW0 t b vs.toArray ws.toArray n n2 dd dd2 sl sl2 (by simp[hv])) ⟨ho,ho2,h⟩
theorem DM:oj X (binaryOp .Add) (λx y H Q=>∃a b ys,x=.ref a/\y=.ref b/\kG X.K H a []/\kG X.K H b ys/\Q (.ref b) H):=by
 intro pins s σ H x y v u Q I rx ry h;obtain⟨a,b,ys,rfl,rfl,ha,hb,q⟩:=h;cases rx;cases ry;obtain⟨its,r1,p1,_⟩:=I.tuple ha;obtain⟨its2,r2,p2,_⟩:=I.tuple hb;exact EJ p1 p2 (r1.pY.mpr rfl) ⟨.ref b,H,I,rfl,q⟩
end L2
namespace Sm
open PySem L2 PySem.Spec PyProof.Rows
noncomputable def av(d e:D)(h:MH):Option (D×MH):=match d,e with
 | .tup [],.tup ys=>some (.tup ys,h)
 | d,e=>tq d e h
theorem aX:oh X (binaryOp .Add) av:=by
 intro pins s σ H x y v u Q I rx ry hh;obtain⟨ρ,h,d,e,z,h',S,rd,re,ee,k⟩:=hh;unfold av at ee
 split at ee
 ·cases ee;have re0:=re;cases rd with | tup h1 l1=>cases re with | tup h2 l2=>
  cases l1;exact DM pins s σ H _ _ v u Q I rx ry ⟨_,_,_,rfl,rfl,h1.sq,h2.sq,k _ _ (.here S re0)⟩
 ·exact Jh pins s σ H _ _ v u Q I rx ry ⟨ρ,h,_,_,z,h',S,rd,re,ee,k⟩
noncomputable def Ek:Fn:=λds h=>match ds with
 | [.int i,.int j]=>some (.int (if j < i then j else i),h)
 | _=>none
noncomputable def rN:Fn:=λds h=>match ds with
 | [.int i,.int j]=>some (.int (if j > i then j else i),h)
 | _=>none
theorem Kh(hc:X.calm=true):ir X (.builtin "min") Ek:=by
 intro pins s σ H xs us Q I r hh;obtain⟨ρ,h,ds,z,h',S,l,ee,k⟩:=hh
 match ds,l,ee with
 | [],_,ee=>exact bU ee
 | [_],_,ee=>exact absurd ee (by unfold Ek;split <;> simp_all)
 | _::_::_::_,_,ee=>exact absurd ee (by unfold Ek;split <;> simp_all)
 | [d,e],l,ee=>
  obtain⟨v,w,rfl,rd,re⟩:=rep2 l;cases rd <;> first |(exact bU ee) | skip
  cases re <;> first |(exact bU ee) | skip
  cases ee;exact BR hc pins s σ H _ us Q I r ⟨_,_,rfl,k _ _ (.here S (.int _))⟩
theorem ED(hc:X.calm=true):ir X (.builtin "max") rN:=by
 intro pins s σ H xs us Q I r hh;obtain⟨ρ,h,ds,z,h',S,l,ee,k⟩:=hh
 match ds,l,ee with
 | [],_,ee=>exact bU ee
 | [_],_,ee=>exact absurd ee (by unfold rN;split <;> simp_all)
 | _::_::_::_,_,ee=>exact absurd ee (by unfold rN;split <;> simp_all)
 | [d,e],l,ee=>
  obtain⟨v,w,rfl,rd,re⟩:=rep2 l;cases rd <;> first |(exact bU ee) | skip
  cases re <;> first |(exact bU ee) | skip
  cases ee;exact BS hc pins s σ H _ us Q I r ⟨_,_,rfl,k _ _ (.here S (.int _))⟩
noncomputable def Jz:AE:=λd ds h=>(dU d h).bind λkvs=>match ds with
 | [k]=>(vO k).map λkey=>((pD kvs key).getD .cj,h)
 | [k,x]=>(vO k).map λkey=>((pD kvs key).getD x,h)
 | _=>none
theorem Jy(hu:X.A.units+1 < cLine):AD X "dict.get" (rM X.K Jz):=by
 intro pins s σ H x xs v us Q I rx rs hh;obtain⟨ρ,h,d,ds,z,h',S,rd,l,ee,k⟩:=hh;obtain⟨kvs,e1,e2⟩:=bE ee;obtain⟨a,ws,rfl,ha,lk⟩:=iR S rd e1;obtain rfl:v=Value.ref a:=rx
 match ds,l,e2 with
 | [],_,e2=>exact bU e2
 | [y],l,e2=>
  obtain⟨key,e3,e4⟩:=gv e2;cases e4;obtain⟨yv,rfl,ry⟩:=rep1 l;obtain⟨u,rfl,ru⟩:=Vals.one rs;have hy:=jY ry e3;subst hy;refine Kf hu I (m9.k ha) ru λw' s' I' r'=>⟨_,H,I',r',k _ _ ?_⟩;rcases lk.val key with⟨q1,q2⟩ |⟨d',v',q1,q2,q3⟩
  ·rw[q1,q2];exact .here S .cj
  ·rw[q1,q2];exact .here S q3
 | [y,x0],l,e2=>
  obtain⟨key,e3,e4⟩:=gv e2;cases e4;obtain⟨yv,xv,rfl,ry,rx0⟩:=rep2 l;obtain⟨u,u2,rfl,ru,ru2⟩:=Vals.two rs;have hy:=jY ry e3;subst hy;refine Ke hu I (m9.k ha) ru ru2 λw' s' I' r'=>⟨_,H,I',r',k _ _ ?_⟩;rcases lk.val key with⟨q1,q2⟩ |⟨d',v',q1,q2,q3⟩
  ·rw[q1,q2];exact .here S rx0
  ·rw[q1,q2];exact .here S q3
 | _::_::_::_,_,e2=>exact absurd e2 (by simp)
noncomputable def Kc(a b:EM):EM:=λδ h=>(a δ h).bind λp=>(yk p.1 p.2).bind λc=>if c=true then some p else b δ p.2
end Sm
namespace L2
open PySem PySem.Spec PyProof.Rows
section
variable {X:Cx} {a b:Expr} {rest:List Expr} {pos:Pos} {ta tb:TE}
theorem IZ(ha:PE X a ta)(hb:PE X (.BoolOp .Or (b::rest) pos) tb):PE X (.BoolOp .Or (a::b::rest) pos) (λσ H Q=>ta σ H λx H1=>∃c,G0 X.K x H1 c/\if c=true then Q x H1 else tb σ H1 Q):=by
 intro pins s σ H Q I h;refine BoolOp_or (cM (ha pins s σ H _ I h) λv s1 ⟨x,H1,I1,r1,c,ht,q1⟩=>?_);refine cM (Cs pins s1 σ H1 x v (λc H2=>if c=true then Q x H2 else tb σ H2 Q) I1 r1 ⟨c,ht,q1⟩) λc' s2 ⟨H2,I2,q2⟩=>?_;cases c' with
 | false=>exact hb pins s2 σ H2 Q I2 q2
 | true=>exact⟨x,H2,I2,r1,q2⟩
end
end L2
namespace Sm
open PySem L2 PySem.Spec PyProof.Rows
section
variable {X:Cx} {a b:Expr} {pos:Pos} {ma mb:EM}
theorem Ij{rest:List Expr}(ha:SE X a ma)(hb:SE X (.BoolOp .Or (b::rest) pos) mb):SE X (.BoolOp .Or (a::b::rest) pos) (Kc ma mb):=(IZ ha hb).imp λσ H Q ⟨ρ,δ,h,d,h',R,S,e,k⟩=>by
 obtain⟨⟨x,h1⟩,e1,e2⟩:=bE e;obtain⟨c,e3,e4⟩:=bE e2;refine⟨ρ,δ,h,x,h1,R,S,e1,λv H' ⟨ρ',T,S',r⟩=>⟨c,zw S' r e3,?_⟩⟩;cases c with
 | false=>rw[PH (by simp)] at e4 ⊢;exact⟨ρ',δ,h1,d,h',R.mono T,S',e4,λv H2 p=>k v H2 (p.step T)⟩
 | true=>rw[Py rfl] at e4 ⊢;cases e4;exact k _ _ ⟨ρ',T,S',r⟩
end
end Sm
namespace L2
open PySem PySem.Spec PyProof.Rows
end L2
namespace Sm
open PySem L2 PySem.Spec PyProof.Rows
theorem Ku:bootBuiltins "min"=some (.builtin "min"):=by decide+kernel
theorem ES:bootBuiltins "max"=some (.builtin "max"):=by decide+kernel
section
variable {X:Cx} {g:GM} {mt:TM} {ma:EM}
end
end Sm
namespace L2
open PySem PySem.Spec PyProof.Rows
theorem jM:∀{ss:List Str} {us:List Value},Vals (ss.map V.str) us->StrsAre us ss
 | [],_,.nil=>.nil
 | x::r,_,.cons q l=>by obtain⟨t,rfl⟩:=q;exact .cons x t (jM l)
theorem zh:gd X (.builtin "sorted") (λxs H Q=>∃a ss,xs=[.ref a]/\gM X.K H a (ss.map V.str)/\ss.length < 64/\∀l,H l=none->Q (.ref l) (upd H l (.lst ((iX ss).map V.str)))):=by
 intro pins s σ H xs us Q I r h;obtain⟨a,ss,rfl,ha,h64,q⟩:=h;obtain⟨u,rfl,ru⟩:=vals1 r;cases ru;obtain⟨its,rv,p,hz⟩:=I.list ha;have hS:=jM rv;have hlen:its.length=ss.length:=by have:=rv.length;rw[Pp] at this;exact this.symm
 refine sorted_strs p.isList hS (by lia) λout ss' h1 h2 h3=>?_;have:=CI h2 h3;subst this;have hl:s.heap.objs.size<=s.heap.objs.size+1:=SF _;obtain⟨e,ho⟩:=sortedAll_at s.heap its out;have hz':((iX ss).map V.str).length<=sizeLine:=by rw[Pp,(fN ss).length_eq,Rz];lia
 refine⟨.ref (s.heap.objs.size+1),_,I.laid (t':=s.toks) (o:=.lst ((iX ss).map V.str)) (λb o q=>sortedAll_old q) hl ⟨hz',out.toList,e,AI h1,?_⟩,rfl,q _ (I.ba.fresh hl)⟩;rw[ho]
end L2
namespace Sm
open PySem L2 PySem.Spec PyProof.Rows
noncomputable def rG:List D->Option (List Int)
 | []=>some []
 | .int i::r=>(rG r).map λis=>i::is
 | _=>none
theorem xF:∀{xs:List D} {ns:List Int},rG xs=some ns->xs=ns.map D.int
 | [],_,e=>by cases e;rfl
 | d::r,ns,e=>by
  cases d <;> first |(exact bU e) | skip
  obtain⟨is,e1,e2⟩:=gv (show(rG r).map _=some ns from e);cases e2;rw[xF e1];rfl
theorem ue:∀(ns:List Int),rG (ns.map D.int)=some ns
 | []=>rfl
 | n::r=>by show(rG (r.map D.int)).map _=_;rw[ue r];rfl
theorem yD{K:FR}{ρ:Ad}{H:Hp}:∀{vs:List V} {ns:List Int},aD K ρ H vs (ns.map D.int)->vs=ns.map V.int:=by
 intro vs ns
 induction ns generalizing vs with
 | nil=>intro a;cases a;rfl
 | cons n r ih=>intro a;cases a with | cons q l=>cases q;rw[ih l];rfl
noncomputable def om:List D->Option (List Str)
 | []=>some []
 | .str i::r=>(om r).map λis=>i::is
 | _=>none
theorem qq:∀{xs:List D} {ns:List Str},om xs=some ns->xs=ns.map D.str
 | [],_,e=>by cases e;rfl
 | d::r,ns,e=>by
  cases d <;> first |(exact bU e) | skip
  obtain⟨is,e1,e2⟩:=gv (show(om r).map _=some ns from e);cases e2;rw[qq e1];rfl
theorem ny:∀(ns:List Str),om (ns.map D.str)=some ns
 | []=>rfl
 | n::r=>by show(om (r.map D.str)).map _=_;rw[ny r];rfl
theorem kN{K:FR}{ρ:Ad}{H:Hp}:∀{vs:List V} {ns:List Str},aD K ρ H vs (ns.map D.str)->vs=ns.map V.str/\∀k∈ns,PyData.strOk k=true
 | _,[],.nil=>⟨rfl,λ_ h=>(nomatch h)⟩
 | _,n::r,.cons q l=>by
  cases q with
  | str h=>
   obtain⟨e,f⟩:=kN l;refine⟨by rw[e];rfl,λk hk=>?_⟩;rcases PB.mp hk with rfl | hk
   ·exact h
   ·exact f k hk
noncomputable def Ef:Fn:=λds h=>match ds with
 | [d]=>(dS d h).bind λxs=>(om xs).bind λns=>if ns.length < 64 then some (.lv ((iX ns).map D.str),h) else none
 | _=>none
theorem EB:ir X (.builtin "sorted") Ef:=by
 intro pins s σ H xs us Q I r hh;obtain⟨ρ,h,ds,z,h',S,l,ee,k⟩:=hh
 match ds,l,ee with
 | [],_,ee=>exact bU ee
 | _::_::_,_,ee=>exact bU ee
 | [d],l,ee=>
  obtain⟨v,rfl,rd⟩:=rep1 l;obtain⟨ys,e1,e2⟩:=bE ee;obtain⟨ns,e3,e4⟩:=bE e2
  by_cases c:ns.length < 64
  ·rw[Py c] at e4;cases e4;obtain⟨a,vs,rfl,ha,la⟩:=eh S rd e1;have:=qq e3;subst this;obtain⟨e5,f⟩:=kN la;subst e5;refine zh pins s σ H _ us Q I r ⟨a,ns,rfl,gM.of ha,c,λl hl=>k _ _ (.lv S (nB _ λx hx=>f x ((fN ns).mem_iff.mp hx)) hl)⟩
  ·rw[PH c] at e4;cases e4
section
variable {α:Type} {K:FR} {A:Ac α} {l:Addr} {g:GM} {mt:TM} {m:MK α}
mutual
theorem Rep.calm(hs:∀a,ρ'.has a->ρ.has a){v:V}{d:D}(r:Rep K ρ H v d)(c:gJ 0 d=true):Rep K ρ' H v d:=by
 cases r with
 | cj=>exact .cj
 | bl b=>exact .bl b
 | int i=>exact .int i
 | str h=>exact .str h
 | ty n=>exact .ty n
 | tup h l=>exact .tup (h.elim (λ⟨a,n⟩=>.inl ⟨a,λz=>n (hs _ z)⟩) .inr) (aD.calm hs l c)
 | lv h n l=>exact .lv h (λz=>n (hs _ z)) (aD.calm hs l c)
 | ro h l=>exact .ro (h.elim (λ⟨a,n⟩=>.inl ⟨a,λz=>n (hs _ z)⟩) .inr) (aD.calm hs l c)
 | dv h n l=>exact .dv h (λz=>n (hs _ z)) (bD.calm hs l c)
 | ob e=>simp[gJ] at c
theorem aD.calm(hs:∀a,ρ'.has a->ρ.has a){vs:List V}{ds:List D}(r:aD K ρ H vs ds)(c:fk 0 ds=true):aD K ρ' H vs ds:=by
 cases r with
 | nil=>exact .nil
 | cons r l=>have c:=P1.mp c;exact .cons (Rep.calm hs r c.1) (aD.calm hs l c.2)
theorem bD.calm(hs:∀a,ρ'.has a->ρ.has a){vs:List (Key×V)}{ds:List (Key×D)}(r:bD K ρ H vs ds)(c:GU 0 ds=true):bD K ρ' H vs ds:=by
 cases r with
 | nil=>exact .nil
 | cons r l=>have c:=P1.mp c;exact .cons (Rep.calm hs r c.1) (bD.calm hs l c.2)
end
end
section
variable {X:Cx} {k v tg iter:Expr} {pos:Pos} {mk mv:EM} {mt:TM} {g:GM} {N':List Str} {caps:List (Option Nat)} {scope:Scope} {ifs:List Expr} {mi:IM}
end
theorem uy:bootBuiltins "sorted"=some (.builtin "sorted"):=by decide+kernel
end Sm
namespace L2
open PySem PySem.Spec PyProof.Rows
end L2
namespace Sm
open PySem L2 PySem.Spec PyProof.Rows
end Sm
namespace L2
open PySem PySem.Spec PyProof.Rows
end L2
namespace Sm
open PySem L2 PySem.Spec PyProof.Rows
end Sm
namespace Hd
open PySem PySem.W PySem.Spec PyProof.Rows L2 Sm
noncomputable def k8:Obj->Bool
 |⟨.none,none,.fields vs,sl⟩=>vs.isEmpty&&sl.isEmpty
 | _=>false
noncomputable def xD(o:Obj):Bool:=!k8 o
theorem uN(h:k8 o=true):o={cls:=.none,data:=.fields #[]}:=by
 unfold k8 at h
 split at h
 ·rw[Qd] at h;have e1:=UH.mp h.1;have e2:=UH.mp h.2;subst e1;subst e2;rfl
 ·cases h
theorem gy(h:∀vs,o.data≠.fields vs):xD o=true:=by
 unfold xD;cases q:k8 o with
 | false=>rfl
 | true=>exact absurd (by rw[uN q]) (h #[])
theorem Ee{o:Obj}{vs:Array Value}{i:Nat}{x:Value}(e:o.data=.fields vs)(h:vs[i]?=some x):xD o=true:=by
 unfold xD;cases q:k8 o with
 | false=>rfl
 | true=>rw[uN q] at e;cases e;simp at h
noncomputable def D7(h:Heap)(a:Addr):Option (Addr×Obj):=match h.get? a with
 | some o=>if xD o then some (a,o) else none
 | none=>none
noncomputable def sY(h:Heap):Frag:=(List.range h.objs.size).filterMap (D7 h)
noncomputable def qa(h:Heap)(c:Addr):Option Value:=match h.get? c with
 | some ⟨.type "code",_,.fields vs,_⟩=>match (vs[11]?:Option Value) with
  | some (.ref P)=>match h.get? P with
   | some o=>if k8 o then some (.ref P) else none
   | none=>none
  | _=>none
 | _=>none
noncomputable def ym(h:Heap):List Value:=(List.range h.objs.size).filterMap (qa h)
noncomputable def aC(h:Heap):Frag:=if((sY h).lookup mainGlobals).isSome=true then sY h++[(mainGlobals,{cls:=.none,data:=.fields (ym h).toArray})] else sY h
theorem jZ{h:Heap}{a:Addr}:(aC h).lookup a=(sY h).lookup a:=by
 unfold aC
 split
 ·rename_i hs;rw[List.lookup_append];cases q:(sY h).lookup a with
  | some o=>rfl
  | none=>
   rw[Option.none_or];rw[Qj];cases r:a==mainGlobals with
   | false=>rfl
   | true=>rw[QX.mp r] at q;rw[q] at hs;cases hs
 ·rfl
theorem jW(h:Heap)(a:Addr):∀l:List Addr,(l.filterMap (D7 h)).lookup a=if a∈l then(D7 h a).map (·.2) else none
 | []=>rfl
 | b::r=>by
  have ih:=jW h a r
  by_cases hb:a=b
  ·subst hb;rw[Py Px];rw[QN];cases e:D7 h a with
   | none=>
    dsimp only;rw[ih,e]
    split <;> rfl
   | some p=>
    have hp:p.1=a:=by
     unfold D7 at e
     split at e
     ·split at e
      ·cases e;rfl
      ·cases e
     ·cases e
    obtain⟨p1,p2⟩:=p;dsimp only at hp;subst hp;simp
  ·have hm:(a∈b::r)↔a∈r:=by simp[hb]
   rw[QN];cases e:D7 h b with
   | none=>dsimp only;rw[ih];simp only[hm]
   | some p=>
    have hp:p.1=b:=by
     unfold D7 at e
     split at e
     ·split at e
      ·cases e;rfl
      ·cases e
     ·cases e
    obtain⟨p1,p2⟩:=p;dsimp only at hp;subst hp;have hab:(a==p1)=false:=by simpa using hb
    rw[Qj,hab];dsimp only;rw[ih];simp only[hm]
theorem bB(e:h.get? a=some o)(f:xD o=true):(aC h).lookup a=some o:=by
 rw[jZ];unfold sY;rw[jW,Py]
 ·unfold D7;rw[e];dsimp only;rw[Py f];rfl
 ·rw[QB];exact PU e
theorem Gx(h:Heap):(aC h).In h:=λa o e=>by
 rw[jZ] at e;unfold sY at e;rw[jW] at e
 split at e
 ·unfold D7 at e;cases g:h.get? a with
  | none=>rw[g] at e;cases e
  | some o'=>
   rw[g] at e;dsimp only at e
   split at e
   ·cases e;rfl
   ·cases e
 ·cases e
theorem zd(e:qa h c=some v):∃P,v=.ref P/\isCodeTable h P/\h.get? P=some {cls:=.none,data:=.fields #[]}:=by
 unfold qa at e
 split at e
 ·rename_i vs sl hc
  split at e
  ·rename_i P h11
   split at e
   ·rename_i o hP
    split at e
    ·rename_i ht;cases e;exact⟨P,rfl,⟨c,_,_,hc,rfl,rfl,h11⟩,by rw[hP,uN ht]⟩
    ·cases e
   ·cases e
  ·cases e
 ·cases e
theorem HS(g:h.Ns mainGlobals mg)(t:ij (aC h) b):isCodeTable h b/\h.get? b=some {cls:=.none,data:=.fields #[]}/\(aC h).lookup b=none:=by
 obtain⟨vs,m,hv⟩:=t;have key:.ref b∈ym h:=by
  have nf:∀vs:Array Value,(mainGlobals,({cls:=.none,data:=.fields vs}:Obj))∉sY h:=λvs m=>by
   obtain⟨a,_,e⟩:=Q5.mp m;unfold D7 at e
   split at e
   ·rename_i o ho
    split at e
    ·cases e;obtain⟨o',es,ep,g1,g2,_⟩:=g;rw[g1] at ho;cases ho;cases g2
    ·cases e
   ·cases e
  unfold aC at m
  split at m
  ·rcases PX.mp m with m | m
   ·exact absurd m (nf vs)
   ·have e:=PD.mp m;cases e
    simpa using hv
  ·exact absurd m (nf vs)
 obtain⟨c,_,e⟩:=Q5.mp key;obtain⟨P,e1,e2,e3⟩:=zd e;cases e1;refine⟨e2,e3,?_⟩;rw[jZ];unfold sY;rw[jW]
 split
 ·unfold D7;rw[e3];rfl
 ·rfl
noncomputable def posOf(s:Stmt):Pos:=match s with
 | .FunctionDef _ _ _ _ _ _ _ _ _ p=>p
 | _=>⟨0,0,0,0⟩
noncomputable def lW(n:Str)(s:Stmt):DefRec:=⟨n,mL s,cY s,ah s,posOf s⟩
theorem GQ(r:h.CodeRec cd q):codeIn (aC h) cd q=true:=by
 obtain⟨c,o,vs,t,rfl,g,d,e⟩:=r;have f:xD o=true:=Ee d e;unfold codeIn;dsimp only;rw[bB g f];obtain⟨oc,od,dt,sl⟩:=o;dsimp only at d;subst d;dsimp only;obtain⟨l⟩:=vs;cases l with
 | nil=>cases e
 | cons x l=>cases l with
  | nil=>cases e
  | cons y r=>cases y <;> first |(cases e;simp;done) |(cases e;done)
theorem Af{q:Program}{loose:List Str}{mean:ExcName->Option Value}{mg mb:Str->Option Value}{h:Heap}(T:Top q loose mean mg mb h){n:Str}{st:Stmt}(e:(recsOf q).find? (λe=>e.name==n)=some (lW n st)):
  ∃f fd,mg n=some (.ref f)/\sC (aC h) n n st f fd:=by
 have hm:lW n st∈recsOf q:=Tx e;obtain⟨a,o,pm,code,doc,m,g,d,c⟩:=T.fn _ hm;have f:xD o=true:=gy λvs z=>by rw[d] at z;cases z
 have lk:=bB g f;have kp:keepIn (aC h) (.ref a)=true:=by
  unfold keepIn;dsimp only;rw[lk];obtain⟨oc,od,dt,sl⟩:=o;dsimp only at d;subst d;rfl
 obtain⟨oc,od,dt,sl⟩:=o;dsimp only at d;subst d;exact⟨a,_,m,⟨oc,od,.none,doc,pm,_,code,_,sl,rfl,lk,GQ c⟩,kp⟩
theorem _root_.L2.sC.one{K:Frag}{x qual:Str}{st:Stmt}{f:Addr}{fd:FuncData}{p:Str}(F:sC K x qual st f fd)
  (h:∀(kV doc pm:Value)(an:Option Addr)(cdv ct:Value)(u:Value),bindArgs (PySem.W.fnOf x qual (mL st) (cY st) (ah st) .none kV doc pm an cdv ct) ⟨[u],[]⟩=pure [(p,u)]) (s:Shared) (u:Value):BindsTo s fd ⟨[u],[]⟩ [(p,u)]:=by
 obtain⟨oc,od,kV,doc,pm,an,cdv,ct,osl,rfl,lk,hcd⟩:=F.ex;exact .of_eq (h kV doc pm an cdv ct u)
theorem JR{l:OpenLaw}{q:Program}{loose:List Str}{XP:(Str->Option Value)->Heap->Prop}{YP:World->Heap->Prop}{d:DefRec}{k:Nat}(hn:l.most=some 63)(hdf:d.params.defaults=[])(hr:cF k callerA)
  (F:∀(w:World)(s₀:Shared)(mg mb:Str->Option Value)(h:Heap),Ground q loose [] XP w s₀ mg mb h->YP w h->∃(fa:Addr)(fd:FuncData),mg d.name=some (.ref fa)/\(∀(s:Shared)(u:Value),BindsTo s fd ⟨[u],[]⟩ [("_law_script",u)])/\
   ∀base:Heap,(aC h).In base->base.Ns mainGlobals mg->eI l.prog w (aC h) mg base ni k fa fd ["_law_script"] (spT (aC h))):
  WalkO q loose XP YP l.row.toRowW d [] (λf vs=>PySem.call f vs):=by
 refine Att.xY hn hdf λw s₀ s₁ mg mb fa o pm cd doc a vs ns G Y ho hd hcd hmg hobj hints hlen hg=>?_;obtain⟨fa',fd,e,hb,hF⟩:=F w s₀ mg mb _ G Y;rw[e] at hmg;cases hmg;exact D3 (Gx _) G.T.g G.T.b G.T.builtins G.T.nolimit hg hobj hints (PL hlen (by decide)) hr hF hb (λ_=>HS G.T.g) (λH hS ht=>⟨a,ns,rfl,hS,hlen,ht,λ_ t=>⟨rfl,t⟩⟩) λ_ _ _ z=>z
noncomputable def freeOk(q:Program)(loose xs:List Str):Bool:=xs.all λx=>!startupNames.contains x&&!(looseW q loose).contains x&&!((recsOf q).map (·.name)).contains x&&!((litsOf q).map (·.1)).contains x&&!((clssOf q (looseW q loose)).map (·.name)).contains x
theorem cX(T:Top q (looseW q loose) mean mg mb h)(e:freeOk q loose xs=true)(hx:x∈xs):mg x=none:=by
 have:=Rh.mp e x hx;simp only[Qd,UG,List.contains_eq_mem,TJ] at this;exact T.free x this.1.1.1.1 this.1.1.1.2 this.1.1.2 this.1.2 this.2
end Hd
namespace Sm
open PySem L2
noncomputable def L9(f:Expr->Option D):List Expr->Option (List D)
 | []=>some []
 | e::es=>(f e).bind λd=>(L9 f es).bind λds=>some (d::ds)
noncomputable def kD:Nat->Expr->Option D
 | 0,_=>none
 | n+1,e=>match e with
  | .Constant .none _ _=>some .cj
  | .Constant (.bool b) _ _=>some (.bl b)
  | .Constant (.int i) _ _=>some (.int i)
  | .Constant (.str x) _ _=>if PyData.strOk x then some (.str x) else none
  | .UnaryOp .USub (.Constant (.int i) _ _) _=>some (.int (-i))
  | .Tuple es _ _=>(L9 (kD n) es).bind λds=>if ds.length<=1000 then some (.tup ds) else none
  | .List es _=>(L9 (kD n) es).bind λds=>if ds.length<=1000 then some (.lv ds) else none
  | .Dict [] [] _=>some (.dv [])
  | _=>none
noncomputable def aK(ds:List D):AM:=λ_ h=>some (ds,h)
theorem MD(ds:List D):kg (aK ds) ds.length:=λδ h xs h' e=>by cases e;rfl
section
variable {X:Cx}
theorem CC(h:kD n e=some d)(es:List Expr):starEach (e::es) X.env=(false,eval e X.env)::starEach es X.env:=by
 cases n with
 | zero=>exact bU h
 | succ n=>cases e <;> first | rfl |(exfalso;exact(nomatch h))
theorem vd(hf:∀{e:Expr} {d:D},f e=some d->SE X e (eK d))(hs:∀{e:Expr} {d:D},f e=some d->∀es:List Expr,starEach (e::es) X.env=(false,eval e X.env)::starEach es X.env):
  ∀{es:List Expr} {ds:List D},L9 f es=some ds->SA X es (aK ds)
 | [],ds,h=>by cases h;exact aq
 | e::es,ds,h=>by
  unfold L9 at h;obtain⟨d,e1,h⟩:=bE h;obtain⟨r,e2,h⟩:=bE h;cases h;exact(aa (hf e1) (vd hf hs e2) (hs e1 es):SA X _ (ag (eK d) (aK r)))
theorem cC:∀(n:Nat) {e:Expr} {d:D},kD n e=some d->SE X e (eK d)
 | 0,_,_,h=>by cases h
 | n+1,e,d,h=>by
  cases e <;> first |(exact bU h) | skip
  case Constant c _ _=>
   cases c <;> first |(exact bU h) | skip
   case none=>cases h;exact CT
   case bool=>cases h;exact Ha
   case int=>cases h;exact aF
   case str x=>
    have h:(if PyData.strOk x then some (D.str x) else none)=some d:=h
    by_cases hs:PyData.strOk x=true
    ·rw[Py hs] at h;cases h;exact a8 hs
    ·rw[PH hs] at h;cases h
  case UnaryOp o e _=>
   cases o <;> first |(exact bU h) | skip
   cases e <;> first |(exact bU h) | skip
   rename_i c _ _;cases c <;> first |(exact bU h) | skip
   cases h;exact(zE uM aF:SE X _ (vY j9 (eK _)))
  case Tuple es _ _=>
   obtain⟨ds,e1,e2⟩:=bE h
   by_cases hl:ds.length<=1000
   ·rw[Py hl] at e2;cases e2;exact(b7 (vd (cC n) CC e1) (MD ds) (PL hl (by decide)):SE X _ (aw aJ (aK ds)))
   ·rw[PH hl] at e2;cases e2
  case List es _=>
   obtain⟨ds,e1,e2⟩:=bE h
   by_cases hl:ds.length<=1000
   ·rw[Py hl] at e2;cases e2;exact(lu.lv (dE (vd (cC n) CC e1) (MD ds) (PL hl (by decide))):SE X _ (fB (aK ds)))
   ·rw[PH hl] at e2;cases e2
  case Dict ks vs _=>
   cases ks <;> first |(exact bU h) | skip
   cases vs <;> first |(exact bU h) | skip
   cases h;exact Lz
end
end Sm
namespace L2
open PySem PySem.Spec PyProof.Rows
noncomputable def kj(ns:List Int):List Int:=ns.mergeSort λa b=>decide (a<=b)
theorem iA(ns:List Int):(kj ns).Perm ns:=Ur _ _
theorem uQ(ns:List Int):(kj ns).Pairwise (·<=·):=by
 have:=TV (le:=λa b:Int=>decide (a<=b)) (λa b c h1 h2=>by simp at h1 h2 ⊢;lia) (λa b=>by simp;lia) ns;exact this.imp λh=>by simpa using h
theorem CH(hp:ss.Perm ns)(h:ss.Pairwise (·<=·)):ss=kj ns:=
 TF (λa b _ _ h1 h2=>Int.le_antisymm h1 h2) h (uQ ns) (hp.trans (iA ns).symm)
theorem zi:gd X (.builtin "sorted") (λxs H Q=>∃a ss,xs=[.ref a]/\gM X.K H a (ss.map V.int)/\ss.length < 64/\∀l,H l=none->Q (.ref l) (upd H l (.lst ((kj ss).map V.int)))):=by
 intro pins s σ H xs us Q I r h;obtain⟨a,ss,rfl,ha,h64,q⟩:=h;obtain⟨u,rfl,ru⟩:=vals1 r;cases ru;obtain⟨its,rv,p,hz⟩:=I.list ha;have hS:=intsAre_of rv;have hlen:its.length=ss.length:=by have:=rv.length;rw[Pp] at this;exact this.symm
 refine sorted_ints p.isList hS (by lia) λout ss' h1 h2 h3=>?_;have:=CH h2 h3;subst this;have hl:s.heap.objs.size<=s.heap.objs.size+1:=SF _;obtain⟨e,ho⟩:=sortedAll_at s.heap its out;have hz':((kj ss).map V.int).length<=sizeLine:=by rw[Pp,(iA ss).length_eq,Rz];lia
 refine⟨.ref (s.heap.objs.size+1),_,I.laid (t':=s.toks) (o:=.lst ((kj ss).map V.int)) (λb o q=>sortedAll_old q) hl ⟨hz',out.toList,e,nr h1,?_⟩,rfl,q _ (I.ba.fresh hl)⟩;rw[ho]
end L2
namespace Sm
open PySem L2 PySem.Spec PyProof.Rows
noncomputable def Eg:Fn:=λds h=>match ds with
 | [d]=>(dS d h).bind λxs=>(rG xs).bind λns=>if ns.length < 64 then some (.lv ((kj ns).map D.int),h) else none
 | _=>none
theorem repL_ints'{K:FR}{ρ:Ad}{H:Hp}:∀(ns:List Int),aD K ρ H (ns.map V.int) (ns.map D.int)
 | []=>.nil
 | n::r=>.cons (.int n) (repL_ints' r)
theorem EC:ir X (.builtin "sorted") Eg:=by
 intro pins s σ H xs us Q I r hh;obtain⟨ρ,h,ds,z,h',S,l,ee,k⟩:=hh
 match ds,l,ee with
 | [],_,ee=>exact bU ee
 | _::_::_,_,ee=>exact bU ee
 | [d],l,ee=>
  obtain⟨v,rfl,rd⟩:=rep1 l;obtain⟨ys,e1,e2⟩:=bE ee;obtain⟨ns,e3,e4⟩:=bE e2
  by_cases c:ns.length < 64
  ·rw[Py c] at e4;cases e4;obtain⟨a,vs,rfl,ha,la⟩:=eh S rd e1;have:=xF e3;subst this;have:=yD la;subst this;exact zi pins s σ H _ us Q I r ⟨a,ns,rfl,gM.of ha,c,λl hl=>k _ _ (.lv S (repL_ints' _) hl)⟩
  ·rw[PH c] at e4;cases e4
noncomputable def za(m:HB):EM:=λδ h=>(m δ h).bind λp=>if p.1.length<=15 then some (.ob p.2.length,p.2++[.dct (yS [] p.1)]) else none
theorem CU(h:SP X pos keys vals m)(hall:keys.all (·.isSome)=true)(hl:keys.length=vals.length)(h0:keys≠[])(hp:∀trs,KN X pos keys vals trs->PE X (.Dict keys vals pos) (Cw trs)):SE X (.Dict keys vals pos) (za m):=by
 obtain⟨trs,h1,h2⟩:=h;refine(hp trs h1).imp λσ H Q ⟨ρ,δ,h,d,h',R,S,ee,k⟩ p hpn=>?_;obtain⟨⟨kvs,ha⟩,e1,e2⟩:=bE ee;dsimp only at e2
 by_cases z:kvs.length<=15
 ·rw[Py z] at e2;cases e2;have Tl:Ch ρ H (ρ.keep p) (upd H p (.dK [])):=Ch.keep hpn;have nl:¬ρ.has p:=S.fresh hpn;refine h2 σ _ _ ⟨ρ.keep p,δ,h,kvs,_,R.mono Tl,S.keep hpn,e1,λus ρ2 H2 T2 S2 r2=>?_⟩;have hp2:H2 p=some (.dK []):=(T2.res p Px).trans aR;refine⟨hp2,us,rfl,by rw[r2.len];exact z,?_⟩;obtain⟨ob2,rs2⟩:=ρ2;have ers:rs2=p::ρ.rs:=T2.rs;subst ers;have hml:p∈(⟨ob2,p::ρ.rs⟩:Ad).rs:=Px;have npo:p∉ob2:=(S2.sH p hml).2;have hne:∀b∈ρ.rs,b≠p:=λb hb z=>nl (.inr (z ▸ hb));generalize hH3:upd H2 p (.dK (fV [] us))=H3;have at3:∀b,b≠p->H3 b=H2 b:=λb hb=>by rw[<-hH3,az hb]
  have C23:Ch ⟨ob2,p::ρ.rs⟩ H2 ⟨ob2++[p],ρ.rs⟩ H3:=by
   refine⟨λn a e=>?_,λb o nb eb=>⟨λz=>?_,?_⟩⟩
   ·show(ob2++[p])[n]?=_;rw[PJ (Pq.mp e).1];exact e
   ·rcases z with z | z
    ·rcases PX.mp z with z | z
     ·exact nb (.inl z)
     ·exact nb (.inr (by rw[PD.mp z];exact Px))
    ·exact nb (.inr (Pz _ z))
   ·rw[at3 b (λz=>nb (.inr (by rw[z];exact Px)))];exact eb
  refine k _ _ ⟨⟨ob2++[p],ρ.rs⟩,⟨(Tl.trans T2.toCh).trans C23,rfl,λb hb=>?_⟩,?_,.ob (by show(ob2++[p])[ha.length]?=_;rw[<-S2.len];simp)⟩
  ·rw[at3 b (hne b hb),T2.res b (Pz _ hb)];exact az (hne b hb)
  ·refine⟨by show(ob2++[p]).length=_;simp;exact S2.len,?_,λn a x e1 e2=>?_,λb hb=>?_,S.HR ((Tl.trans T2.toCh).trans C23)⟩
   ·show(ob2++[p]).Nodup;rw[Te];exact⟨S2.nd,by simp,λa ha b hb z=>npo (by rw[<-PD.mp hb,<-z];exact ha)⟩
   ·have e1:(ob2++[p])[n]?=some a:=e1;have hlen:ob2.length=ha.length:=S2.len
    by_cases hn:n < ob2.length
    ·rw[PJ hn] at e1;rw[PJ (by lia)] at e2;exact(S2.at_ n a x e1 e2).mono C23 (at3 a λz=>npo (z ▸ Pr e1))
    ·have l1:=(Pq.mp e1).1;simp at l1;have hn':n=ob2.length:=by lia
     subst hn';rw[P0 (Pw _)] at e1;rw[P0 (by lia),hlen] at e2;simp at e1 e2;subst e1;subst e2;exact⟨fV [] us,by rw[<-hH3];exact aR,(bD.merge .nil r2).mono C23⟩
   ·obtain⟨⟨o,eo⟩,nb⟩:=S2.sH b (Pz _ hb);refine⟨⟨o,by rw[at3 b (hne b hb)];exact eo⟩,λz=>?_⟩;rcases PX.mp z with z | z
    ·exact nb z
    ·exact hne b hb (PD.mp z)
 ·rw[PH z] at e2;cases e2
noncomputable def tj(d e:D)(h:MH):Option (D×MH):=match e with
 | .int n=>(dS d h).bind λxs=>if 0<=n/\n<=1000/\xs.length<=1000 then some (.lv (List.replicate n.toNat xs).flatten,h) else none
 | _=>none
theorem aD.rep{K:FR}{ρ:Ad}{H:Hp}{vs:List V}{ds:List D}(h:aD K ρ H vs ds):∀k:Nat,aD K ρ H (List.replicate k vs).flatten (List.replicate k ds).flatten
 | 0=>.nil
 | k+1=>by
  rw[Qw,Qw,QV,QV];exact h.append (aD.rep h k)
theorem nI:oh X (binaryOp .Mult) tj:=by
 intro pins s σ H x y v u Q I rx ry hh;obtain⟨ρ,h,d,e,z,h',S,rd,re,ee,k⟩:=hh;cases e <;> first |(exact bU ee) | skip
 rename_i n;obtain⟨xs,e1,e2⟩:=bE (show(dS d h).bind _=_ from ee)
 by_cases c:0<=n/\n<=1000/\xs.length<=1000
 ·rw[Py c] at e2;cases e2;obtain⟨a,vs,rfl,ha,la⟩:=eh S rd e1;cases re;have hb:xs.length*n.toNat<=1000*1000:=Nat.mul_le_mul c.2.2 (by lia);exact Jk pins s σ H _ _ v u Q I rx ry ⟨a,n,vs,rfl,rfl,ha,by lia,by lia,by rw[la.length,show sizeLine=16777216 from rfl];lia,λl hl=>k _ _ (.lv S (la.rep _) hl)⟩
 ·rw[PH c] at e2;cases e2
end Sm
namespace L2
open PySem PySem.Spec PyProof.Rows
theorem tw:∀(us:List Value)(o:Nat),(∀(j:Nat) v,us[j]?=some v->∃t,v=.int ((o:Int)+j) t)->Vals ((List.range' o us.length).map λ(k:Nat)=>V.int k) us
 | [],_,_=>.nil
 | u::r,o,h=>by
  rw[PK,List.range'_succ,PN];obtain⟨t,e⟩:=h 0 u rfl;refine .cons ⟨t,by rw[e];simp⟩ (tw r (o+1) λj v hv=>?_);obtain⟨t,e⟩:=h (j+1) v (by simpa using hv);exact⟨t,by rw[e];congr 1;lia⟩
theorem Bf(hc:X.calm=true)(hg1:Gl X "list")(hm1:X.mg "list"=none)(hg2:Gl X "range")(hm2:X.mg "range"=none)(hv:bootBuiltins "list"=some (.type "list"))(ha:PA X [a] ta)(hs:starEach [a] X.env=[(false,eval a X.env)]):
  PE X (.Call (.Name "list" p) [.Call (.Name "range" p2) [a] [] pos2] [] pos) (λσ H Q=>ta σ H λvs H1=>∃j:Int,vs=[.int j]/\0<=j/\j<=1000/\∀l,H1 l=none->Q (.ref l) (upd H1 l (.lst ((List.range j.toNat).map λ(k:Nat)=>V.int k)))):=by
 intro pins s σ H Q I h;refine Rf (jy I hg1 hm1 hv ?_);refine QJ ?_ rfl rfl;show wpAny _ _ (spliced ((false,eval (.Call (.Name "range" p2) [a] [] pos2) X.env)::backTo pos (starEach [] X.env))) _ _ s;refine Tn ?_;refine Rf (jy I hg2 hm2 boot_range (QJ (cM (ha pos2 pins s σ H _ I h) λus s1 ⟨vs,H1,I1,r1,q1⟩=>?_) hs rfl));obtain⟨j,e,j0,j1,q⟩:=q1;subst e;cases r1 with
 | cons r rr=>
  cases rr;obtain⟨t,rfl⟩:=r;refine call_range_1 ?_;have I2:Inv X pins σ H1 {s1 with heap:=s1.heap.push {cls:=.type "range",data:=.fields #[.int 0 s1.toks,.int j t,.int 1 (s1.toks+1)]},toks:=s1.toks+1+1}:=I1.kept λb o e=>PC _ e;refine Tt ?_;refine call_list_range (n:=j.toNat) (I1.ok.hd hc) (IsRange.new ..) (small_one (by lia) (by lia) (by lia) (by lia)) (by rw[rangeSize_one];split <;> lia) (by lia) λh' tk acc' c' hk hS' hacc=>?_;have hlen:acc'.toList.length=j.toNat:=by rw[Ry];exact hacc.1
  have hv:Vals ((List.range j.toNat).map λ(k:Nat)=>V.int k) acc'.toList:=by
   have:=tw acc'.toList 0 λi v hv=>by
    obtain⟨t,e⟩:=hacc.2 i v (by simpa using hv);exact⟨t,by rw[e];congr 1;simp⟩
   rw[hlen] at this;rw[List.range_eq_range'];exact this
  refine⟨.ref _,_,I2.laid (t':=tk) (o:=.lst ((List.range j.toNat).map λ(k:Nat)=>V.int k)) hk (Pw _) ⟨by rw[Pp,P6,Rz];lia,acc'.toList,c',hv,?_⟩,rfl,q _ (I2.ba.fresh (Pw _))⟩;rw[hS']
end L2
namespace Sm
open PySem L2 PySem.Spec PyProof.Rows
noncomputable def Kz(m:AM):AM:=λδ h=>(m δ h).bind λp=>match p.1 with
 | [.int j]=>if 0<=j/\j<=1000 then some ((List.range j.toNat).map λ(k:Nat)=>D.int k,p.2) else none
 | _=>none
theorem qL{K:FR}{ρ:Ad}{H:Hp}:∀l:List Nat,aD K ρ H (l.map λ(k:Nat)=>V.int k) (l.map λ(k:Nat)=>D.int k)
 | []=>.nil
 | n::r=>.cons (.int n) (qL r)
theorem AV(hc:X.calm=true)(hg1:Gl X "list")(hm1:X.mg "list"=none)(hg2:Gl X "range")(hm2:X.mg "range"=none)(hv:bootBuiltins "list"=some (.type "list"))(ha:SA X [a] m)(hs:starEach [a] X.env=[(false,eval a X.env)]:=by ac_nf):
  lu X (.Call (.Name "list" p) [.Call (.Name "range" p2) [a] [] pos2] [] pos) (Kz m):=(Bf hc hg1 hm1 hg2 hm2 hv ha hs).imp λσ H Q ⟨ρ,δ,h,ds,h',R,S,e,k⟩=>by
 obtain⟨⟨xs,h1⟩,e1,e2⟩:=bE e;dsimp only at e2
 split at e2
 ·rename_i j
  split at e2
  ·rename_i c;cases e2;refine⟨ρ,δ,h,_,_,R,S,e1,λvs ρ1 H1 T1 S1 r1=>?_⟩;obtain⟨v,rfl,rd⟩:=rep1 r1;cases rd;exact⟨j,rfl,c.1,c.2,λl hl=>k ρ1 H1 l _ T1 S1 hl (qL _)⟩
  ·cases e2
 ·cases e2
noncomputable def BY(ma mb:EM):AM:=λδ h=>(ma δ h).bind λp=>(mb δ p.2).bind λq=>(dS p.1 q.2).bind λxs=>(dS q.1 q.2).bind λys=>if xs.length+ys.length<=sizeLine then some (xs++ys,q.2) else none
theorem uX(ha:SE X a ma)(hb:SE X b mb):lu X (.BinOp a .Add b pos) (BY ma mb):=(Hj DN ha hb).imp λσ H Q ⟨ρ,δ,h,ds,h',R,S,e,k⟩=>by
 obtain⟨⟨x,h1⟩,e1,e2⟩:=bE e;obtain⟨⟨y,h2⟩,e3,e4⟩:=bE e2;obtain⟨xs,e5,e6⟩:=bE e4;obtain⟨ys,e7,e8⟩:=bE e6;dsimp only at e3 e5 e7
 split at e8
 ·rename_i c;cases e8;refine⟨ρ,δ,h,x,h1,R,S,e1,λv H1 ⟨ρ1,T1,S1,r1⟩=>⟨ρ1,δ,h1,y,h2,R.mono T1.toCh,S1,e3,λu H2 ⟨ρ2,T2,S2,r2⟩=>?_⟩⟩;obtain⟨a,vs,rfl,hA,lA⟩:=eh S2 (r1.mono T2.toCh) e5;obtain⟨b,us,rfl,hB,lB⟩:=eh S2 r2 e7;exact⟨a,b,vs,us,rfl,rfl,hA,hB,by rw[lA.length,lB.length];exact c,λp hp=>k ρ2 H2 p (vs++us) (T1.trans T2) S2 hp (lA.append lB)⟩
 ·cases e8
end Sm
namespace Sm
open PySem L2
theorem qT:∀cs:List Int,oF (cs.map D.int)=some (cs.map PyData.int)
 | []=>rfl
 | c::r=>by simp only[PN,oF,vw,qT r,Qc,Qk]
theorem lj:∀cs:List Int,PyData.depthAll (cs.map PyData.int)=0
 | []=>rfl
 | c::r=>by simp only[PN,PyData.depthAll,lj r,PyData.depth];rfl
theorem uf{h:MH}{c:Nat}{cs:List Int}(hc:h[c]?=some (.lst (cs.map D.int))):jz (.ob c) (.lv []) h=some (.bl (!cs.isEmpty),h):=by
 simp only[jz,Hr,dU,hc,Hq,zL,qT,vw,oF,Qk,Qc,PyData.depth,lj];cases cs <;> rfl
theorem gI(hn:h[n]?=some (.lst xs))(e:gK xs i=some d):aQ (.ob n) (.int i) h=some (d,h):=by
 simp only[aQ,dU,hn,dq,Qc,e,Qk]
theorem vU(hn:h[n]?=some (.lst xs)):cm [.ob n] h=some (.int xs.length,h):=by
 simp only[cm,dU,hn,dq,Qk]
theorem mH(hn:h[n]?=some (.lst xs))(e:sZ xs.length i=some p):td (.ob n) (.int i) d h=some (h.set n (.lst (xs.set p d))):=by
 simp only[td,hn,e,Qk]
theorem E2(cs:List Int)(i:Int)(h0:0<=i)(h1:i < cs.length):∃z,gK (cs.map D.int) i=some (.int z):=by
 have hlt:i.toNat < cs.length:=by lia
 refine⟨cs[i.toNat]'hlt,?_⟩;have e:((i.toNat:Nat):Int)=i:=RX h0;have q:gK (cs.map D.int) ((i.toNat:Nat):Int)=some (D.int (cs[i.toNat]'hlt)):=qf (by rw[PR,PV hlt];rfl);rw[e] at q;exact q
theorem EY(h0:0<=i)(h1:i < xs.length):∃v,gK xs i=some v/\v∈xs:=by
 have hlt:i.toNat < xs.length:=by lia
 have e:((i.toNat:Nat):Int)=i:=RX h0;have q:gK xs ((i.toNat:Nat):Int)=some (xs[i.toNat]'hlt):=qf (PV hlt);rw[e] at q;exact⟨_,q,List.getElem_mem hlt⟩
end Sm
namespace Sm
open PySem
def Rn{α:Type}(o:Option α)(Q:α->Prop):Prop:=∃a,o=some a/\Q a
theorem rv(e:o=some a)(q:Q a):Rn o Q:=⟨a,e,q⟩
theorem Rn.imp(r:Rn o Q)(f:∀a,Q a->Q' a):Rn o Q':=let⟨a,e,q⟩:=r;⟨a,e,f a q⟩
theorem aW(r:Rn o λa=>Rn (f a) Q):Rn (o.bind f) Q:=by
 obtain⟨a,e,b,e2,q⟩:=r;exact⟨b,by rw[e];exact e2,q⟩
theorem C5(r:Rn o λa=>Q (f a)):Rn (o.map f) Q:=by
 obtain⟨a,e,q⟩:=r;exact⟨f a,by rw[e];rfl,q⟩
theorem fD(e:δ[i]?=some (some d))(q:Q (d,h)):Rn (ay i δ h) Q:=⟨(d,h),by unfold ay;rw[e];rfl,q⟩
theorem Fb(q:Q (d,h)):Rn (eK d δ h) Q:=⟨_,rfl,q⟩
theorem lY(r:Rn (a δ h) λp=>Rn (b δ p.2) λq=>Rn (f p.1 q.1 q.2) Q):Rn (ak f a b δ h) Q:=aW (r.imp λ_ r=>aW r)
theorem NO(r:Rn (a δ h) λp=>Rn (f p.1 p.2) Q):Rn (vY f a δ h) Q:=aW r
theorem i5(q:Q ([],h)):Rn (aM δ h) Q:=⟨_,rfl,q⟩
theorem cA(r:Rn (a δ h) λp=>Rn (m δ p.2) λq=>Q (p.1::q.1,q.2)):Rn (ag a m δ h) Q:=aW (r.imp λ_ r=>aW (r.imp λ_ q=>⟨_,rfl,q⟩))
theorem Dj(r:Rn (m δ h) λp=>Rn (f p.1 p.2) Q):Rn (aw f m δ h) Q:=aW r
theorem NQ(r:Rn (t δ h) λp=>(p.1=true->Rn (a δ p.2) Q)/\(p.1=false->Rn (b δ p.2) Q)):Rn (Ol t a b δ h) Q:=aW (r.imp λp ⟨q1,q2⟩=>by
 obtain⟨c,h⟩:=p;cases c with
 | true=>exact q1 rfl
 | false=>exact q2 rfl)
theorem jo(r:Rn (a δ h) λp=>∃c,p.1=.bl c/\Q (c,p.2)):Rn (aE a δ h) Q:=aW (r.imp λp ⟨c,e,q⟩=>⟨(c,p.2),by rw[e],q⟩)
theorem vn(r:Rn (a δ h) λp=>∃c,yk p.1 p.2=some c/\Q (c,p.2)):Rn (uO a δ h) Q:=aW (r.imp λp ⟨c,e,q⟩=>⟨(c,p.2),by rw[e];rfl,q⟩)
theorem jm(r:Rn (t δ h) λp=>Q (!p.1,p.2)):Rn (Sm.pE t δ h) Q:=C5 r
theorem IB(r:Rn (a δ h) λp=>(p.1=true->Rn (b δ p.2) Q)/\(p.1=false->Q (false,p.2))):Rn (Sm.pF a b δ h) Q:=aW (r.imp λp ⟨q1,q2⟩=>by
 obtain⟨c,h⟩:=p;cases c with
 | true=>exact q1 rfl
 | false=>exact⟨_,rfl,q2 rfl⟩)
theorem Hg(r:Rn (a δ h) λp=>(p.1=true->Q (true,p.2))/\(p.1=false->Rn (b δ p.2) Q)):Rn (Sm.Ft a b δ h) Q:=aW (r.imp λp ⟨q1,q2⟩=>by
 obtain⟨c,h⟩:=p;cases c with
 | true=>exact⟨_,rfl,q1 rfl⟩
 | false=>exact q2 rfl)
theorem LJ(r:Rn (a δ h) λp=>∃c,p.1=.bl c/\(c=true->Rn (b δ p.2) Q)/\(c=false->Q (.bl false,p.2))):Rn (Kd a b δ h) Q:=aW (r.imp λp ⟨c,e,q1,q2⟩=>by
 rw[e];cases c with
 | true=>exact q1 rfl
 | false=>exact⟨_,rfl,q2 rfl⟩)
theorem vp(r:Rn (m δ h) λp=>Q (.lv p.1,p.2)):Rn (fB m δ h) Q:=C5 r
theorem NP(r:Rn (m δ h) λp=>Q (.ob p.2.length,p.2++[.lst p.1])):Rn (yb m δ h) Q:=C5 r
theorem ID(r:Rn (m δ h) λp=>∃d xs ws,p.1=[d]/\dq d p.2=some (xs,ws)/\Q (xs,p.2)):Rn (E3 m δ h) Q:=aW (r.imp λp ⟨d,xs,ws,e,e2,q⟩=>⟨(xs,p.2),by rw[e];dsimp only;rw[e2];rfl,q⟩)
theorem LB(q:Q (none,h)):Rn (tV δ h) Q:=⟨_,rfl,q⟩
theorem LC(r:Rn (a δ h) λp=>∃i,p.1=.int i/\Q (some i,p.2)):Rn (tW a δ h) Q:=aW (r.imp λp zz=>by obtain⟨c,e,q⟩:=zz;exact⟨_,by rw[e],q⟩)
abbrev SQ:=Fl×DS×MH->Prop
theorem IC(q:Q (.nx,δ,h)):Rn (cu δ h) Q:=⟨_,rfl,q⟩
def zx(b:SM)(Q:SQ):SQ:=λr=>match r.1 with
 | .nx=>Rn (b r.2.1 r.2.2) Q
 | _=>Q r
theorem fE(r:Rn (a δ h) (zx b Q)):Rn (au a b δ h) Q:=aW (r.imp λp q=>by
 obtain⟨f,δ',h'⟩:=p;cases f with
 | nx=>exact q
 | bk=>exact⟨_,rfl,q⟩
 | ct=>exact⟨_,rfl,q⟩
 | rt d=>exact⟨_,rfl,q⟩)
theorem xb(r:Rn (e δ h) λp=>Q (.nx,δ.set i (some p.1),p.2)):Rn (aS i e δ h) Q:=aW (r.imp λ_ q=>⟨_,rfl,q⟩)
theorem Dl(r:Rn (e δ h) λp=>Rn (g p.1 δ p.2) λq=>Q (.nx,q.1,q.2)):Rn (fe e g δ h) Q:=aW (r.imp λ_ r=>aW (r.imp λ_ q=>⟨_,rfl,q⟩))
theorem Dk(r:Rn (e δ h) λp=>Q (.nx,δ,p.2)):Rn (gk e δ h) Q:=aW (r.imp λ_ q=>⟨_,rfl,q⟩)
theorem xc(r:Rn (e δ h) λp=>Q (.rt p.1,δ,p.2)):Rn (bg e δ h) Q:=aW (r.imp λ_ q=>⟨_,rfl,q⟩)
theorem xa(r:Rn (t δ h) λp=>(p.1=true->Rn (a δ p.2) Q)/\(p.1=false->Rn (b δ p.2) Q)):Rn (fO t a b δ h) Q:=aW (r.imp λp ⟨q1,q2⟩=>by
 obtain⟨c,h⟩:=p;cases c with
 | true=>exact q1 rfl
 | false=>exact q2 rfl)
theorem LD(r:Rn (m δ h) λp=>∃a b,p.1=[a,b]/\Q (.nx,(δ.set i (some a)).set j (some b),p.2)):Rn (ve i j m δ h) Q:=aW (r.imp λp zz=>by obtain⟨a,b,e,q⟩:=zz;exact⟨_,by rw[e],q⟩)
theorem A9(q:Q (δ.set i (some d),h)):Rn (gN i d δ h) Q:=⟨_,rfl,q⟩
theorem IG(r:Rn (o δ h) λp=>Rn (i δ p.2) λq=>Rn (td p.1 q.1 v q.2) λh'=>Q (δ,h')):Rn (Sm.pO o i v δ h) Q:=aW (r.imp λ_ r=>aW (r.imp λ_ r=>C5 r))
theorem IF(hn:xs.length=n)(r:Rn (u xs δ h) Q):Rn (gT n u (.tup xs) δ h) Q:=by
 unfold gT;dsimp only;rw[Py hn];exact r
theorem gX(r:Rn (g d δ h) λp=>Rn (u xs p.1 p.2) Q):Rn (ar g u (d::xs) δ h) Q:=aW r
theorem vq(q:Q (δ,h)):Rn (bS [] δ h) Q:=⟨_,rfl,q⟩
def FJ(Q:D×MH->Prop):SQ:=λr=>match r.1 with
 | .rt d=>Q (d,r.2.2)
 | .nx=>Q (.cj,r.2.2)
 | _=>False
theorem N5(q:Q (d,h)):FJ Q (.rt d,δ,h):=q
theorem N6(q:Q (.cj,h)):FJ Q (.nx,δ,h):=q
theorem qp(r:Rn (b δ h) Q):zx b Q (.nx,δ,h):=r
theorem Nq(q:Q (.rt d,δ,h)):zx b Q (.rt d,δ,h):=q
def Hm(I:DS->MH->Prop)(Q:SQ):SQ:=λz=>match z.1 with
 | .nx=>I z.2.1 z.2.2
 | .ct=>I z.2.1 z.2.2
 | .bk=>Q (.nx,z.2.1,z.2.2)
 | .rt d=>Q (.rt d,z.2.1,z.2.2)
theorem Oc(q:I δ h):Hm I Q (.nx,δ,h):=q
theorem bF(r:Rn (b (entry len ds) h) (FJ Q)):Rn (jT len b ds h) Q:=aW (r.imp λp q=>by
 obtain⟨f,δ',h'⟩:=p;cases f with
 | nx=>exact⟨_,rfl,q⟩
 | rt d=>exact⟨_,rfl,q⟩
 | bk=>exact q.elim
 | ct=>exact q.elim)
theorem LI(r:Rn (i δ h) λp=>Rn (mF p.2.1 g b p.1 δ p.2.2) Q):Rn (iC i g b δ h) Q:=aW r
theorem cQ:∀{xs:List D} {δ:DS} {h:MH} (I:Nat->DS->MH->Prop),I 0 δ h->(∀i δ h,i<=xs.length->I i δ h->pQ ws h=true)->
  (∀i x δ h,xs[i]?=some x->I i δ h->Rn (g x δ h) λq=>Rn (b q.1 q.2) (Hm (I (i+1)) Q))->(∀δ h,I xs.length δ h->Q (.nx,δ,h))->Rn (mF ws g b xs δ h) Q
 | [],δ,h,I,h0,hc,_,hq=>by
  unfold mF;rw[Py (hc 0 δ h (Pw _) h0)];exact⟨_,rfl,hq δ h h0⟩
 | x::xs,δ,h,I,h0,hc,ht,hq=>by
  unfold mF;rw[Py (hc 0 δ h (Ri _) h0)];obtain⟨q,e1,z,e2,hz⟩:=ht 0 x δ h rfl h0;rw[e1];show Rn ((b q.1 q.2).bind _) Q;rw[e2];obtain⟨f,δ',h'⟩:=z;have next:I 1 δ' h'->Rn (mF ws g b xs δ' h') Q:=λhi=>cQ (λi=>I (i+1)) hi (λi δ h hl=>hc (i+1) δ h (RT hl)) (λi x δ h hx=>ht (i+1) x δ h (by simpa using hx)) hq
  cases f with
  | nx=>exact next hz
  | ct=>exact next hz
  | bk=>exact⟨_,rfl,hz⟩
  | rt d=>exact⟨_,rfl,hz⟩
theorem fv(r:Rn (e δ h) λp=>∃xs ws,dq p.1 p.2=some (xs,ws)/\Q (xs,ws,p.2)):Rn (eG e δ h) Q:=aW (r.imp λp ⟨xs,ws,e,q⟩=>⟨(xs,ws,p.2),by rw[e];rfl,q⟩)
theorem fQ(r:Rn (m δ h) λp=>∃j:Int,p.1=[.int j]/\-(2^62)<=j/\j < 2^62/\Q ((List.range j.toNat).map λ(k:Nat)=>D.int (k:Int),[],p.2)):Rn (nS m δ h) Q:=aW (r.imp λp ⟨j,e,h1,h2,q⟩=>by
 rw[e];dsimp only;rw[Py ⟨h1,h2⟩];exact⟨_,rfl,q⟩)
theorem lZ(r:Rn (m δ h) λp=>∃d xs ws,p.1=[d]/\dq d p.2=some (xs,ws)/\Q (kE 0 xs,ws,p.2)):Rn (rH m δ h) Q:=
 aW (r.imp λp zz=>by obtain⟨d,xs,ws,e1,e2,q⟩:=zz;exact⟨_,by rw[e1];dsimp only;rw[e2];rfl,q⟩)
theorem IH(r:Rn (i δ h) λp=>Rn (bH p.2.1 g c e p.1 (fH caps δ) p.2.2) λq=>q.1.length<=sizeLine/\Q q):Rn (b8 caps i g c e δ h) Q:=
 aW (r.imp λp r=>aW (r.imp λq ⟨hz,hq⟩=>⟨q,by rw[Py hz],hq⟩))
theorem vt(hc:pQ ws h=true)(f:D->Option D)(J:DS->Prop):∀{xs:List D} {δ:DS},J δ->
  (∀x∈xs,∀δ,J δ->Rn (g x δ h) λq=>q.2=h/\Rn (c q.1 h) λt=>t.2=h/\J q.1/\(t.1=true->∃y,f x=some y/\Rn (e q.1 h) λp=>p=(y,h))/\(t.1=false->f x=none))->
  bH ws g c e xs δ h=some (xs.filterMap f,h)
 | [],δ,_,_=>by unfold bH;rw[Py hc];rfl
 | x::xs,δ,hJ,ht=>by
  unfold bH;rw[Py hc];obtain⟨⟨δ1,h1⟩,e1,rfl,⟨t,h2⟩,e2,rfl,J1,q1,q2⟩:=ht x Px δ hJ;rw[e1];dsimp only[Option.bind_some] at e2 q1 q2 ⊢;rw[e2];dsimp only[Option.bind_some];have ih:=vt hc f J J1 (xs:=xs) λy hy=>ht y (Pz _ hy);cases t with
  | true=>
   obtain⟨y,ef,p,ep,rfl⟩:=q1 rfl;rw[Py rfl,ep];dsimp only[Option.bind_some];rw[ih,QN,ef];rfl
  | false=>
   rw[PH (by simp),ih,QN,q2 rfl]
end Sm
namespace Sm
theorem IA(q:Q (d,h))(e:δ[i]?=some (some d):=by with_unfolding_all rfl):Rn (ay i δ h) Q:=fD e q
theorem LH(r:Rn (u xs δ h) Q)(hn:xs.length=n:=by with_unfolding_all rfl):Rn (gT n u (.tup xs) δ h) Q:=IF hn r
end Sm
namespace Sm
open PySem L2
theorem yG(hh:Rn (a δ h) λp=>Rn (l δ p.2) λq=>Rn (u δ q.2) λr=>Rn (gg p.1 q.1 r.1 r.2) Q):Rn (ib a l u δ h) Q:=aW (hh.imp λ_ x=>aW (x.imp λ_ y=>aW y))
theorem qS(hh:Rn (ma δ h) λp=>Rn (mb δ p.2) λq=>Rn (f p.1 q.1 q.2) λr=>∃b,r.1=.bl b/\if b=true then Rn (mc δ r.2) λu=>Rn (f' q.1 u.1 u.2) Q else Q (.bl false,r.2)):Rn (iQ f f' ma mb mc δ h) Q:=
 aW (hh.imp λp x=>aW (x.imp λq y=>aW (y.imp λr ⟨b,e,k⟩=>by
  rw[e];cases b with
  | true=>rw[Py rfl] at k;exact aW k
  | false=>rw[PH (by simp)] at k;exact⟨_,rfl,k⟩)))
theorem K1(q:Q (.tup ds,h)):Rn (aJ ds h) Q:=⟨_,rfl,q⟩
theorem K3(q:Q (.int (-a),h)):Rn (j9 (.int a) h) Q:=⟨_,rfl,q⟩
theorem w_add(q:Q (.int (a+b),h)):Rn (av (.int a) (.int b) h) Q:=⟨_,rfl,q⟩
theorem w_sub(q:Q (.int (a-b),h)):Rn (mG (.int a) (.int b) h) Q:=⟨_,rfl,q⟩
theorem w_lt(q:Q (.bl (decide (a < b)),h)):Rn (BG (.int a) (.int b) h) Q:=⟨_,rfl,q⟩
theorem Nj(q:Q (.bl (decide (b < a)),h)):Rn (vV (.int a) (.int b) h) Q:=⟨_,rfl,q⟩
theorem Nk(q:Q (.bl (decide (b<=a)),h)):Rn (Mn (.int a) (.int b) h) Q:=⟨_,rfl,q⟩
theorem K9(q:Q (.bl (a==b),h)):Rn (cR (.int a) (.int b) h) Q:=⟨_,rfl,q⟩
theorem K8(q:Q (.bl (x==y),h)):Rn (cR (.str x) (.str y) h) Q:=⟨_,rfl,q⟩
theorem K4(q:Q (.bl (!(x==y)),h)):Rn (jz (.str x) (.str y) h) Q:=⟨_,rfl,q⟩
theorem K7(q:Q (d,h)):Rn (aQ (.tup (d::r)) (.int 0) h) Q:=⟨_,by
 show((gK (d::r) 0).map λz=>(z,h))=_;have:gK (d::r) 0=some d:=by unfold gK;rw[show sZ (d::r).length 0=some 0 by unfold sZ;simp;try lia];rfl
 rw[this];rfl,q⟩
theorem K6(q:Q (e,h)):Rn (aQ (.tup (d::e::r)) (.int 1) h) Q:=⟨_,by
 show((gK (d::e::r) 1).map λz=>(z,h))=_;have:gK (d::e::r) 1=some e:=by unfold gK;rw[show sZ (d::e::r).length 1=some 1 by unfold sZ;simp;try lia];rfl
 rw[this];rfl,q⟩
theorem K5(q:Q (f,h)):Rn (aQ (.tup (d::e::f::r)) (.int 2) h) Q:=⟨_,by
 show((gK (d::e::f::r) 2).map λz=>(z,h))=_;have:gK (d::e::f::r) 2=some f:=by unfold gK;rw[show sZ (d::e::f::r).length 2=some 2 by unfold sZ;simp;try lia];rfl
 rw[this];rfl,q⟩
theorem HI(q:Q (.int r.length,h)):Rn (cm [.tup r] h) Q:=⟨_,rfl,q⟩
theorem HJ(q:Q (.int r.length,h)):Rn (cm [.lv r] h) Q:=⟨_,rfl,q⟩
inductive sA{α β:Type}(R:α->β->Prop):List α->List β->Prop where
 | nil:sA R [] []
 | cons {x y xs ys}:R x y->sA R xs ys->sA R (x::xs) (y::ys)
theorem sA.length{xs:List α}{ys:List β}(a:sA R xs ys):ys.length=xs.length:=by
 induction a with
 | nil=>rfl
 | cons _ t ih=>rw[PK,PK,ih]
theorem sA.right{xs:List α}{ys:List β}(a:sA R xs ys):∀y∈ys,∃x∈xs,R x y:=by
 induction a with
 | nil=>exactλ_ h=>(nomatch h)
 | cons r t ih=>
  intro y h;rcases PB.mp h with rfl | h
  ·exact⟨_,Px,r⟩
  ·obtain⟨x,hx,r⟩:=ih y h;exact⟨x,Pz _ hx,r⟩
theorem pX(R:D->D->Prop):∀{xs:List D} {δ:DS} {h:MH} (J:Nat->DS->MH->Prop),J 0 δ h->(∀i δ h,i<=xs.length->J i δ h->pQ ws h=true)->
  (∀i x δ h,xs[i]?=some x->J i δ h->Rn (g x δ h) λq=>Rn (e q.1 q.2) λy=>R x y.1/\J (i+1) q.1 y.2)->Rn (bH ws g dD e xs δ h) λp=>sA R xs p.1/\∃δ',J xs.length δ' p.2
 | [],δ,h,J,hJ,hc,_=>by
  unfold bH;rw[Py (hc 0 δ h (Pw _) hJ)];exact⟨_,rfl,.nil,δ,hJ⟩
 | x::xs,δ,h,J,hJ,hc,ht=>by
  unfold bH;rw[Py (hc 0 δ h (Ri _) hJ)];obtain⟨⟨δ1,h1⟩,e1,⟨y,h2⟩,e2,r,J1⟩:=ht 0 x δ h rfl hJ;dsimp only at e2 r J1;obtain⟨⟨ys,h3⟩,e3,a,δ',J2⟩:=pX R (xs:=xs) (λi=>J (i+1)) J1 (λi δ h hl=>hc (i+1) δ h (RT hl)) λi y δ h hy=>ht (i+1) y δ h (by simpa using hy);refine⟨(y::ys,h3),?_,.cons r a,δ',J2⟩;rw[e1];dsimp only[Option.bind_some];show((some (true,h1)).bind _)=_;dsimp only[Option.bind_some];rw[Py rfl,e2];dsimp only[Option.bind_some];rw[e3];rfl
theorem pW(R:D->D->Prop):∀{xs:List D} {δ:DS} {h:MH} (J:Nat->DS->MH->Prop),J 0 δ h->(∀i δ h,i<=xs.length->J i δ h->pQ ws h=true)->
  (∀i x δ h,xs[i]?=some x->J i δ h->Rn (g x δ h) λq=>Rn (c q.1 q.2) λt=>(t.1=true->Rn (e q.1 t.2) λy=>R x y.1/\J (i+1) q.1 y.2)/\(t.1=false->J (i+1) q.1 t.2))->Rn (bH ws g c e xs δ h) λp=>p.1.length<=xs.length/\(∀y∈p.1,∃x∈xs,R x y)/\∃δ',J xs.length δ' p.2
 | [],δ,h,J,hJ,hc,_=>by
  unfold bH;rw[Py (hc 0 δ h (Pw _) hJ)];exact⟨_,rfl,Pw _,λ_ z=>(nomatch z),δ,hJ⟩
 | x::xs,δ,h,J,hJ,hc,ht=>by
  unfold bH;rw[Py (hc 0 δ h (Ri _) hJ)];obtain⟨⟨δ1,h1⟩,e1,⟨t,h2⟩,e2,q1,q2⟩:=ht 0 x δ h rfl hJ;dsimp only at e2 q1 q2;rw[e1];dsimp only[Option.bind_some];rw[e2];dsimp only[Option.bind_some];have next:=λ{δ':DS} {h':MH} (J1:J 1 δ' h')=>pW R (xs:=xs) (λi=>J (i+1)) J1 (λi δ h hl=>hc (i+1) δ h (RT hl)) λi y δ h hy=>ht (i+1) y δ h (by simpa using hy)
  cases t with
  | true=>
   obtain⟨⟨y,h3⟩,e3,r,J1⟩:=q1 rfl;dsimp only at r J1;obtain⟨⟨ys,h4⟩,e4,l,a,δ',J2⟩:=next J1
   refine⟨(y::ys,h4),?_,RT l,λz hz=>?_,δ',J2⟩
   ·rw[Py rfl,e3];dsimp only[Option.bind_some];rw[e4];rfl
   ·rcases PB.mp hz with rfl | hz
    ·exact⟨x,Px,r⟩
    ·obtain⟨u,hu,r⟩:=a z hz;exact⟨u,Pz _ hu,r⟩
  | false=>
   obtain⟨⟨ys,h4⟩,e4,l,a,δ',J2⟩:=next (q2 rfl)
   refine⟨(ys,h4),?_,Ta l,λz hz=>?_,δ',J2⟩
   ·rw[PH (by decide),e4]
   ·obtain⟨u,hu,r⟩:=a z hz;exact⟨u,Pz _ hu,r⟩
theorem Mr(r:Rn (e δ h) λp=>Rn (b (δ.set i (some p.1)) p.2) Q):Rn (au (aS i e) b δ h) Q:=fE (xb (r.imp λ_ q=>qp q))
theorem Mw(r:Rn (e δ h) λp=>Rn (g p.1 δ p.2) λq=>Rn (b q.1 q.2) Q):Rn (au (fe e g) b δ h) Q:=fE (Dl (r.imp λ_ q=>q.imp λ_ q=>qp q))
theorem Ks(r:Rn (e δ h) λp=>Rn (b δ p.2) Q):Rn (au (gk e) b δ h) Q:=fE (Dk (r.imp λ_ q=>qp q))
theorem Pl(r:Rn (m δ h) λq=>Q (d::q.1,q.2))(e:δ[i]?=some (some d):=by with_unfolding_all rfl):Rn (ag (ay i) m δ h) Q:=cA (fD e r)
theorem Pm(r:Rn (m δ h) λq=>Q (d::q.1,q.2)):Rn (ag (eK d) m δ h) Q:=cA (Fb r)
theorem Ow(r:Rn (f [d] h) Q)(e:δ[i]?=some (some d):=by with_unfolding_all rfl):Rn (aw f (ag (ay i) aM) δ h) Q:=Dj (cA (fD e (i5 r)))
theorem Ov(r:Rn (f [d,d'] h) Q)(e:δ[i]?=some (some d):=by with_unfolding_all rfl)(e':δ[j]?=some (some d'):=by with_unfolding_all rfl):Rn (aw f (ag (ay i) (ag (ay j) aM)) δ h) Q:=Dj (cA (fD e (cA (fD e' (i5 r)))))
theorem Ou(r:Rn (f [d,d',d''] h) Q)(e:δ[i]?=some (some d):=by with_unfolding_all rfl)(e':δ[j]?=some (some d'):=by with_unfolding_all rfl)(e'':δ[k]?=some (some d''):=by with_unfolding_all rfl):Rn (aw f (ag (ay i) (ag (ay j) (ag (ay k) aM))) δ h) Q:=Dj (cA (fD e (cA (fD e' (cA (fD e'' (i5 r)))))))
theorem Mt(r:Rn (f d c h) Q)(e:δ[i]?=some (some d):=by with_unfolding_all rfl):Rn (ak f (ay i) (eK c) δ h) Q:=lY (fD e (Fb r))
theorem Ms(r:Rn (f d d' h) Q)(e:δ[i]?=some (some d):=by with_unfolding_all rfl)(e':δ[j]?=some (some d'):=by with_unfolding_all rfl):Rn (ak f (ay i) (ay j) δ h) Q:=lY (fD e (fD e' r))
theorem Oq(r:Rn (b δ h) λq=>Rn (f d q.1 q.2) Q)(e:δ[i]?=some (some d):=by with_unfolding_all rfl):Rn (ak f (ay i) b δ h) Q:=lY (fD e r)
theorem Ot(r:Rn (a δ h) λq=>Rn (f q.1 c q.2) Q):Rn (ak f a (eK c) δ h) Q:=lY (r.imp λ_ r=>Fb r)
theorem Mv(q:Q ((δ.set i (some a)).set j (some b),h)):Rn (gT 2 (ar (gN i) (ar (gN j) bS)) (.tup [a,b]) δ h) Q:=IF rfl (gX (A9 (gX (A9 (vq q)))))
theorem Mu(q:Q (((δ.set i (some a)).set j (some b)).set k (some c),h)):Rn (gT 3 (ar (gN i) (ar (gN j) (ar (gN k) bS))) (.tup [a,b,c]) δ h) Q:=IF rfl (gX (A9 (gX (A9 (gX (A9 (vq q)))))))
theorem Ko(q:Q (.rt d,δ,h))(e:δ[i]?=some (some d):=by with_unfolding_all rfl):Rn (bg (ay i) δ h) Q:=xc (fD e q)
theorem Kp(q:Q (.rt d,δ,h)):Rn (bg (eK d) δ h) Q:=xc (Fb q)
end Sm
namespace L2
open PySem PySem.Spec PyProof.Rows
abbrev Oa:Hp:=λ_=>none
structure Tab(P:Program)(w:World)(K:FR)(mg:Str->Option Value)(nm:Str)(tb:List (Str×List Int)):Prop where
 ex:∃(a:Addr)(o:Obj)(es:Array DictEntry)(ep:Nat)(kvs:List (Str×Value)),mg nm=some (.ref a)/\K.lookup a=some o/\o.ExactDict/\o.data=.dict es ep/\(a==sysModules)=false/\KeysOf (strKind P w) es/\Pairs (strKind P w) es.toList kvs/\(kvs.map (·.1)).Nodup/\
  Sm.sA (λ(x:Str×List Int)(y:Str×Value)=>x.1=y.1/\∃(t:Addr)(u:Obj)(its:Array Value)(n:Nat),y.2=.ref t/\K.lookup t=some u/\u.cls=.type "tuple"/\u.dict=none/\u.data=.seq its n/\its.size<=sizeLine/\IntsAre its.toList x.2) tb kvs
theorem AQ{K:FR}:∀{tb:List (Str×List Int)} {kvs:List (Str×Value)},Sm.sA (λ(x:Str×List Int)(y:Str×Value)=>x.1=y.1/\∃(t:Addr)(u:Obj)(its:Array Value)(n:Nat),y.2=.ref t/\K.lookup t=some u/\u.cls=.type "tuple"/\u.dict=none/\u.data=.seq its n/\its.size<=sizeLine/\IntsAre its.toList x.2) tb kvs->∀x:Str,
  (∀is,tb.lookup x=some is->∃t,valueAt kvs x=some (.ref t)/\∀H,kG K H t (is.map V.int))/\(valueAt kvs x).isSome=(tb.lookup x).isSome:=by
 intro tb kvs h
 induction h with
 | nil=>exactλx=>⟨λis e=>(nomatch e),rfl⟩
 | @cons p q tb kvs r l ih=>
  intro x;obtain⟨a,is0⟩:=p;obtain⟨b,v⟩:=q;obtain⟨e0,t,u,its,n,e1,h1,h2,h3,h4,h5,h6⟩:=r;dsimp only at e0 e1 h6;subst e0;subst e1
  by_cases hx:x=a
  ·subst hx;have hv:valueAt ((x,Value.ref t)::kvs) x=some (.ref t):=by unfold valueAt;simp
   have hl:((x,is0)::tb).lookup x=some is0:=by simp
   refine⟨λis e=>?_,by rw[hv,hl];rfl⟩;rw[hl] at e;cases e;exact⟨t,hv,λH=>.inr ⟨u,its,n,h1,h2,h4,h5,nr h6,h3⟩⟩
  ·have hv:valueAt ((a,Value.ref t)::kvs) x=valueAt kvs x:=by
    unfold valueAt;rw[List.find?_cons_of_neg (by simpa using λz=>hx z.symm)]
   have hl:((a,is0)::tb).lookup x=tb.lookup x:=by
    rw[Qj,show(x==a)=false by simpa using hx]
   rw[hv,hl];exact ih x
theorem Tab.dict(T:Tab X.prog X.w X.K X.mg nm tb)(I:Inv X pins σ H s):∃(a:Addr)(kvs:List (Str×Value)),X.mg nm=some (.ref a)/\(a==sysModules)=false/\s.heap.DictOf (strKind X.prog X.w) a kvs/\∀x:Str,
  (∀is,tb.lookup x=some is->∃t,valueAt kvs x=some (.ref t)/\∀H,kG X.K H t (is.map V.int))/\(valueAt kvs x).isSome=(tb.lookup x).isSome:=by
 obtain⟨a,o,es,ep,kvs,h1,h2,h3,h4,h5,h6,h7,h8,h9⟩:=T.ex;exact⟨a,kvs,h1,h5,⟨o,es,ep,I.z5 a o h2,h3,h4,h6,h7,h8⟩,AQ h9⟩
theorem IX(T:Tab X.prog X.w X.K X.mg nm tb)(hg:Gl X nm)(hi:PE X i ti)(hs:G1 i)(hd:(nm==("__debug__":Str))=false):
  PE X (.Subscript (.Name nm p) i pos) (λσ H Q=>ti σ H λy H1=>∃x is,y=.str x/\tb.lookup x=some is/\∀t,kG X.K Oa t (is.map V.int)->Q (.ref t) H1):=by
 intro pins s σ H Q I h;obtain⟨a,kvs,hm,hsm,dd,hv⟩:=T.dict I;refine Fw Tw.lookup hs (jX I hg hm (cM (hi pins s σ H _ I h) λiv s2 ⟨y,H2,I2,ry,x,is,ey,l,q⟩=>?_) hd);subst ey;obtain⟨t,rfl⟩:=ry;obtain⟨a',kvs',hm',hsm',dd',hv'⟩:=T.dict I2;rw[hm] at hm';cases hm';obtain⟨u,e,sq⟩:=(hv' x).1 is l;exact⟨dd'.typeIs,wpAny_getItem_of (by show Value.isStrOf x (.str x t)=true;unfold Value.isStrOf;simp) dd'.mapOf e ⟨.ref u,H2,I2.tok _,rfl,q u (sq _)⟩⟩
end L2
namespace Sm
open PySem L2 PySem.Spec PyProof.Rows
noncomputable def GF(tb:List (Str×List Int))(d:D)(h:MH):Option (D×MH):=match d with
 | .str x=>(tb.lookup x).map λis=>(.tup (is.map D.int),h)
 | _=>none
theorem CO(T:Tab X.prog X.w X.K X.mg nm tb)(hi:SE X i mi)(hg:Gl X nm:=by unfold Gl;ac_nf)(hs:G1 i:=by unfold G1;intro _ _;ac_nf)(hd:(nm==("__debug__":Str))=false:=by ac_nf):SE X (.Subscript (.Name nm p) i pos) (vY (GF tb) mi):=
 (IX T hg hi hs hd).imp λσ H Q ⟨ρ,δ,h,d,h',R,S,e,k⟩=>by
  obtain⟨⟨x,h1⟩,e1,e2⟩:=bE e;dsimp only at e2;refine⟨ρ,δ,h,x,h1,R,S,e1,λv H1 ⟨ρ1,T1,S1,r1⟩=>?_⟩;unfold GF at e2
  split at e2
  ·rename_i y;obtain⟨is,e3,e4⟩:=gv e2;cases e4;cases r1;exact⟨_,is,rfl,e3,λt sq=>k _ _ ⟨ρ1,T1,S1,.tup (.inr sq) (repL_ints' is)⟩⟩
  ·cases e2
end Sm
namespace Hd
open PySem PySem.W PySem.Spec PyProof.Rows L2 Sm
abbrev Sub(h h':Heap):Prop:=∀b o,h.get? b=some o->h'.get? b=some o
theorem yB(k:Sub h h')(x:rowAt h e=some r):rowAt h' e=some r:=by
 unfold rowAt at x ⊢
 split at x
 ·split at x
  ·split at x
   ·rename_i u hu;rw[k _ _ hu];exact x
   ·cases x
  ·cases x
 ·cases x
theorem oD(k:Sub h h'):∀{es:List DictEntry} {r:List (Str×Int×List Int)},kK h es=some r->kK h' es=some r
 | [],_,x=>x
 | e::es,r,x=>by
  unfold kK at x ⊢;obtain⟨y,e1,x⟩:=RE.mp x;obtain⟨ys,e2,x⟩:=P5.mp x;rw[yB k e1,oD k e2];exact congrArg some x
theorem yn(k:Sub h h')(x:tabAt h nm=some r):tabAt h' nm=some r:=by
 have hg:∀v,h.nsMap mainGlobals nm=some v->h'.nsMap mainGlobals nm=some v:=λv e=>by
  unfold Heap.nsMap at e ⊢
  split at e
  ·rename_i o ho;rw[k _ _ ho];exact e
  ·cases e
 unfold tabAt at x ⊢
 split at x
 ·rename_i a ha;rw[hg _ ha];dsimp only
  split at x
  ·cases x
  ·rename_i hs;rw[PH hs]
   split at x
   ·rename_i o ho;rw[k _ _ ho];dsimp only
    split at x
    ·rename_i hc;rw[Py hc]
     split at x
     ·exact oD k x
     ·cases x
    ·cases x
   ·cases x
 ·cases x
theorem xE:∀{vs:List Value} {is:List Int},z7 vs=some is->IntsAre vs is
 | [],_,e=>by cases e;exact .nil
 | v::r,is,e=>by
  cases v <;> first |(exact bU e) | skip
  obtain⟨js,e1,e2⟩:=P5.mp (show(z7 r).map _=some is from e);subst e2;exact .cons _ _ (xE e1)
theorem xT(h:Ar v t=true):v=.type t:=by
 unfold Ar at h
 split at h
 ·rw[Qy h]
 ·cases h
theorem qJ:∀{es:List DictEntry} {tb:List (Str×List Int)},kK h es=some (tb.map λx=>(x.1,hashStr w x.1,x.2))->
  ∃kvs:List (Str×Value),(∀e∈es,∃k,(PySem.strKind P w).is k e.key=true/\e.hash=(PySem.strKind P w).hash k)/\Pairs (PySem.strKind P w) es kvs/\kvs.map (·.1)=tb.map (·.1)/\
   sA (λ(x:Str×List Int)(y:Str×Value)=>x.1=y.1/\∃(t:Addr)(u:Obj)(its:Array Value)(n:Nat),y.2=.ref t/\(aC h).lookup t=some u/\u.cls=.type "tuple"/\u.dict=none/\u.data=.seq its n/\its.size<=sizeLine/\IntsAre its.toList x.2) tb kvs
 | [],tb,x=>by
  have hz:tb=[]:=by
   have:=Option.some.inj x;exact List.map_eq_nil_iff.mp this.symm
  subst hz;exact⟨[],λ_ z=>(nomatch z),.nil,rfl,.nil⟩
 | e::es,tb,x=>by
  unfold kK at x;obtain⟨y,e1,x⟩:=RE.mp x;obtain⟨ys,e2,x⟩:=P5.mp x;cases tb with
  | nil=>cases x
  | cons q tb=>
   rw[PN] at x;obtain⟨rfl,rfl⟩:=List.cons.inj x;obtain⟨kvs,h1,h2,h3,h4⟩:=qJ (P:=P) e2;unfold rowAt at e1
   split at e1
   ·rename_i x0 tk hk
    split at e1
    ·rename_i t hv
     split at e1
     ·rename_i u hu
      split at e1
      ·rename_i hc;rw[Qd] at hc
       split at e1
       ·rename_i its n hd
        split at e1
        ·rename_i hs;obtain⟨is,e3,e4⟩:=P5.mp e1;have e5:x0=q.1:=congrArg (·.1) e4;have e6:e.hash=hashStr w q.1:=congrArg (·.2.1) e4;have e7:is=q.2:=congrArg (·.2.2) e4;have hki:(PySem.strKind P w).is q.1 e.key=true:=by rw[hk,e5];show Value.isStrOf q.1 (.str q.1 tk)=true;unfold Value.isStrOf;simp
         refine⟨(q.1,.ref t)::kvs,λe' he'=>?_,.cons hki hv h2,by rw[PN,PN,h3],.cons ⟨rfl,t,u,its,n,rfl,bB hu (gy λvs z=>by rw[hd] at z;cases z),xT hc.1,by simpa using hc.2,hd,PL hs (by decide),by rw[<-e7];exact xE e3⟩ h4⟩;rcases PB.mp he' with rfl | he'
         ·exact⟨q.1,hki,e6⟩
         ·exact h1 e' he'
        ·cases e1
       ·cases e1
      ·cases e1
     ·cases e1
    ·cases e1
   ·cases e1
theorem tab_of(x:tabAt h nm=some (tb.map λx=>(x.1,hashStr w x.1,x.2)))(g:h.Ns mainGlobals mg)(nd:(tb.map (·.1)).Nodup):Tab P w (aC h) mg nm tb:=by
 unfold tabAt at x
 split at x
 ·rename_i a ha
  split at x
  ·cases x
  ·rename_i hs
   split at x
   ·rename_i o ho
    split at x
    ·rename_i hc;rw[Qd,Qd] at hc
     split at x
     ·rename_i es ep hd;obtain⟨kvs,h1,h2,h3,h4⟩:=qJ (P:=P) x;have hm:mg nm=some (.ref a):=by
       obtain⟨o',es',ep',g1,g2,_,g3⟩:=g;rw[<-g3 nm,<-ha];unfold Heap.nsMap;rw[g1];dsimp only;rw[g2]
      exact⟨a,o,es,ep,kvs,hm,bB ho (gy λvs z=>by rw[hd] at z;cases z),⟨xT hc.1.1,by simpa using hc.1.2,Qy hc.2⟩,hd,by simpa using hs,λe he=>h1 e (RV.mpr he),h2,by rw[h3];exact nd,h4⟩
     ·cases x
    ·cases x
   ·cases x
 ·cases x
end Hd
namespace L2
open PySem PySem.Spec PyProof.Rows
end L2
namespace Sm
open PySem L2 PySem.Spec PyProof.Rows
end Sm
namespace Sb
open PySem L2 PySem.Spec PyProof.Rows
open Builtin.SmallTypes (nextOf ownedTupleIsFree ownedTupleHandOut)
end Sb
namespace PySem
end PySem
namespace L2
open PySem PySem.Spec PyProof.Rows
end L2
namespace L2
open PySem PySem.Spec PyProof.Rows Sb
end L2
namespace Sm
open PySem L2 PySem.Spec PyProof.Rows Sb
end Sm
namespace Sb
open PySem L2 PySem.Spec PyProof.Rows
variable {P:Program} {w:World} {A:Around} {E:Value->Shared->Prop} {s:Shared} {b c:Bool}
end Sb
namespace Sb
open PySem L2 PySem.Spec PyProof.Rows
variable {P:Program} {w:World} {A:Around} {E:Value->Shared->Prop} {s:Shared} {b c:Bool}
end Sb
namespace L2
open PySem PySem.Spec PyProof.Rows Sb
end L2
namespace Sm
open PySem L2 PySem.Spec PyProof.Rows Sb
end Sm
namespace PySem
end PySem
namespace L2
open PySem PySem.Spec PyProof.Rows
end L2
namespace Sm
open PySem L2 PySem.Spec PyProof.Rows
end Sm
namespace L2
open PySem PySem.Spec PyProof.Rows
end L2
namespace L2
open PySem PySem.Spec PyProof.Rows PySem.SeqAt
end L2
namespace Sm
open PySem L2 PySem.Spec PyProof.Rows
def OK(mg:Str->Option Value)(x:Str)(d:D):Prop:=∃(v:V)(u:Value),mg x=some u/\RelV v u/\∀K ρ H,Rep K ρ H v d
theorem CV(C:OK X.mg x d)(hg:Gl X x)(hd:(x==("__debug__":Str))=false:=by ac_nf):SE X (.Name x pos) (eK d):=by
 obtain⟨v,u,h1,h2,h3⟩:=C;exact FE hg h1 h2 (λρ H=>h3 X.K ρ H) hd
end Sm
namespace Hd
open PySem PySem.W PySem.Spec PyProof.Rows L2 Sm
theorem GO(T:Top q loose mean mg mb h)(e:valOf q x=some (.int i)):OK mg x (.int i):=by
 obtain⟨v,h1,h2⟩:=T.const x _ e;have:=h2 h;cases this with
 | int _ t=>exact⟨.int i,_,h1,⟨t,rfl⟩,λ_ _ _=>.int i⟩
end Hd
namespace L2
open PySem PySem.Spec PyProof.Rows
end L2
namespace Sm
open PySem L2 PySem.Spec PyProof.Rows
end Sm
namespace L2
open PySem PySem.Spec PyProof.Rows
end L2
namespace Sm
open PySem L2 PySem.Spec PyProof.Rows
end Sm
namespace L2
open PySem PySem.Spec PyProof.Rows
end L2
namespace Sm
open PySem L2
end Sm
namespace Sm
open PySem L2 PySem.Spec PyProof.Rows
end Sm
namespace L2
open PySem PySem.Spec PyProof.Rows
end L2
namespace Sm
open PySem L2 PySem.Spec PyProof.Rows
theorem ft(d:Df X.prog X.w X.K X.mg X.base nm k ps n F)(hr:cF k' X.A)(ha:SA X (e::es) m)(hk:k<=k':=by decide)(hl:kg m n:=by repeat(first | exact aA | refine af ?_))(hg:Gl X nm:=by unfold Gl;ac_nf)(hdb:(nm==("__debug__":Str))=false:=by ac_nf)(he:starEach (e::es) X.env=(false,eval e X.env)::starEach es X.env:=by ac_nf)(hpl:(backTo pos (starEach es X.env)).any (·.1)=false:=by ac_nf):SE X (.Call (.Name nm p) (e::es) [] pos) (aw F m):=LA d hr hk ha hl hg hdb he hpl
theorem E9{x:Str}{id:String}{p pos:Pos}{e:Expr}{es:List Expr}{f:Fn}{m:AM}(hc:ir X (.builtin id) f)(hm:X.mg x=none)(hv:bootBuiltins x=some (.builtin id))(ha:SA X (e::es) m)(hg:Gl X x:=by unfold Gl;ac_nf)(hn:x≠"__name__":=by decide)(hdb:(x==("__debug__":Str))=false:=by ac_nf)
  (he:starEach (e::es) X.env=(false,eval e X.env)::starEach es X.env:=by ac_nf) (hpl:(backTo pos (starEach es X.env)).any (·.1)=false:=by ac_nf):SE X (.Call (.Name x p) (e::es) [] pos) (aw f m):=CY hc hg hm hv ha hn hdb he hpl
theorem Hb{x:Str}{id:String}{p pos:Pos}{e:Expr}{es:List Expr}{f:Fn}{m:AM}(hc:ir X (.type id) f)(hm:X.mg x=none)(hv:bootBuiltins x=some (.type id))(ha:SA X (e::es) m)(hg:Gl X x:=by unfold Gl;ac_nf)(hn:x≠"__name__":=by decide)(hdb:(x==("__debug__":Str))=false:=by ac_nf)
  (he:starEach (e::es) X.env=(false,eval e X.env)::starEach es X.env:=by ac_nf) (hpl:(backTo pos (starEach es X.env)).any (·.1)=false:=by ac_nf):SE X (.Call (.Name x p) (e::es) [] pos) (aw f m):=CW hc hg hm hv ha hn hdb he hpl
theorem six(hr:cF k X.A)(ha:SE X a ma)(hb:SE X b mb)(hs:mZ b:=by unfold mZ;intro _ _;ac_nf):SE X (.Subscript a b pos) (ak aQ ma mb):=Lx hr.units ha hb hs
end Sm
namespace Hd
open PySem PySem.W PySem.Spec PyProof.Rows L2 Sm
theorem u0{P:List Value->Prop}(h:P [])(us:List Value)(hl:us.length=0):P us:=by cases us with | nil=>exact h | cons _ _=>cases hl
theorem u1{P:List Value->Prop}(h:∀a,P [a])(us:List Value)(hl:us.length=1):P us:=by
 cases us with
 | nil=>cases hl
 | cons a r=>exact u0 (P:=λr=>P (a::r)) (h a) r (Nat.succ.inj hl)
theorem u2{P:List Value->Prop}(h:∀a b,P [a,b])(us:List Value)(hl:us.length=2):P us:=by
 cases us with
 | nil=>cases hl
 | cons a r=>exact u1 (P:=λr=>P (a::r)) (h a) r (Nat.succ.inj hl)
theorem u3{P:List Value->Prop}(h:∀a b c,P [a,b,c])(us:List Value)(hl:us.length=3):P us:=by
 cases us with
 | nil=>cases hl
 | cons a r=>exact u2 (P:=λr=>P (a::r)) (h a) r (Nat.succ.inj hl)
theorem u4{P:List Value->Prop}(h:∀a b c d,P [a,b,c,d])(us:List Value)(hl:us.length=4):P us:=by
 cases us with
 | nil=>cases hl
 | cons a r=>exact u3 (P:=λr=>P (a::r)) (h a) r (Nat.succ.inj hl)
theorem u5{P:List Value->Prop}(h:∀a b c d e,P [a,b,c,d,e])(us:List Value)(hl:us.length=5):P us:=by
 cases us with
 | nil=>cases hl
 | cons a r=>exact u4 (P:=λr=>P (a::r)) (h a) r (Nat.succ.inj hl)
theorem u6{P:List Value->Prop}(h:∀a b c d e f,P [a,b,c,d,e,f])(us:List Value)(hl:us.length=6):P us:=by
 cases us with
 | nil=>cases hl
 | cons a r=>exact u5 (P:=λr=>P (a::r)) (h a) r (Nat.succ.inj hl)
theorem u7{P:List Value->Prop}(h:∀a b c d e f g,P [a,b,c,d,e,f,g])(us:List Value)(hl:us.length=7):P us:=by
 cases us with
 | nil=>cases hl
 | cons a r=>exact u6 (P:=λr=>P (a::r)) (h a) r (Nat.succ.inj hl)
theorem L7{q:Program}{loose:List Str}{mean:ExcName->Option Value}{mg mb:Str->Option Value}{h base:Heap}{P:Program}{w:World}(T:Top q loose mean mg mb h){n:Str}{st:Stmt}(e:(recsOf q).find? (λe=>e.name==n)=some (lW n st)){ps:List Str}{k N:Nat}{F:Fn}
  (hb:∀{f:Addr} {fd:FuncData},sC (aC h) n n st f fd->Binds (aC h) fd ps []) (ok:∀{f:Addr} {fd:FuncData},sC (aC h) n n st f fd->keepIn (aC h) (.ref f)=true->Binds (aC h) fd ps []->mg n=some (.ref f)->eI P w (aC h) mg base ni k f fd ps (AS (aC h) N F)):Df P w (aC h) mg base n k ps N F:=by
 obtain⟨f,fd,m,G⟩:=Af T e;exact⟨f,fd,ok G G.kp (hb G) m,G.kp,hb G,m⟩
end Hd
namespace L2
open PySem PySem.Spec PyProof.Rows Builtin.Str
theorem Gk{X:Cx}:AD X "str.join" (λx vs H Q=>∃p a ss,x=.str p/\vs=[.ref a]/\(gM X.K H a (ss.map V.str)\/kG X.K H a (ss.map V.str))/\(ss.map (·.length)).sum+ss.length*p.length<=16777216/\Q (.str (Txt.join p ss)) H):=by
 intro pins s σ H x xs v us Q I rx rs h;obtain⟨p,a,ss,rfl,rfl,ha,hz,q⟩:=h;obtain⟨t,rfl⟩:=rx;obtain⟨u,rfl,ru⟩:=vals1 rs;cases ru;rcases ha with ha | ha
 ·obtain⟨its,rv,p,_⟩:=I.list ha;exact join_list p.isList (by simpa using jM rv) hz λt' k=>⟨.str _,H,I.kept (t':=k) λ_ _ e=>e,⟨t',rfl⟩,q⟩
 ·obtain⟨its,rv,p,_⟩:=I.tuple ha;exact join_tuple p (by simpa using jM rv) hz λt' k=>⟨.str _,H,I.kept (t':=k) λ_ _ e=>e,⟨t',rfl⟩,q⟩
theorem qk:∀(l:List (Str×Tok)),Vals ((l.map (·.1)).map V.str) (strValues l)
 | []=>.nil
 |(x,t)::r=>.cons ⟨t,rfl⟩ (qk r)
theorem CD{prog:Program}{w:World}{A:Around}{E:Value->Shared->Prop}{s:Shared}{x y:Str}{t u:Tok}{Q:Value->Shared->Prop}(hy:(y.length==0)=false)
  (hq:∀l k,l.map (·.1)=Txt.split x y->Q (.ref s.heap.objs.size) {s with toks:=k,heap:=s.heap.push {cls:=.type "list",data:=.seq (strValues l).toArray}})
  (hsz:x.length<=sizeLine) (hsz2:(partsBetween x (occurrences x y 0 x.length (x.length+1)) y.length).length<=sizeLine):
  wpAny (model prog w) A (call (.builtin "str.split") [.str x t,.str y u]) Q E s:=by
 cases h1:(decide (x.length < y.length)||decide (strKind x < strKind y))
 ·cases hf:(occurrences x y 0 x.length (x.length+1)).isEmpty
  ·refine RA RG (SN _ _ _) Ts (Tj _ _) (meets_str_split_sep x y t u h1 hy hf hsz hsz2) ?_;show wants Q E _ {s with toks:=_,heap:=s.heap.push {cls:=.type "list",data:=.seq (strsFrom s.toks (partsBetween x (occurrences x y 0 x.length (x.length+1)) y.length)).toArray}};rw[strsFrom_eq];exact hq (numbered s.toks _) _ ((numbered_texts _ _).trans ((PH (SJ h1)).trans (PH (SJ hf))).symm)
  ·exact RA RG (SN _ _ _) Ts (Tj _ _) (meets_str_split_not_found x y t u h1 hy hf)
    (hq [(x,t)] _ ((PH (SJ h1)).trans (Py hf)).symm)
 ·exact RA RG (SN _ _ _) Ts (Tj _ _) (meets_str_split_cannot_occur x y t u h1)
   (hq [(x,t)] _ (Py h1).symm)
theorem DT{X:Cx}:AD X "str.split" (λx vs H Q=>∃p y,x=.str p/\vs=[.str y]/\(y.length==0)=false/\p.length<=sizeLine/\(Txt.split p y).length<=sizeLine/\(partsBetween p (occurrences p y 0 p.length (p.length+1)) y.length).length<=sizeLine/\∀l,H l=none->Q (.ref l) (upd H l (.lst ((Txt.split p y).map V.str)))):=by
 intro pins s σ H x xs v us Q I rx rs h;obtain⟨p,y,rfl,rfl,hy,hz,hz1,hz2,q⟩:=h;obtain⟨t,rfl⟩:=rx;obtain⟨u,rfl,ru⟩:=vals1 rs;obtain⟨t',rfl⟩:=ru;refine CD hy (λl k e=>?_) hz hz2;rw[<-e] at q hz1;exact⟨.ref s.heap.objs.size,_,I.laid (t':=k) (o:=.lst ((l.map (·.1)).map V.str)) (λb ob q=>PC _ q) (Pw _)
  ⟨by rw[Pp];exact hz1,strValues l,_,qk l,P8 _ rfl⟩,rfl,q _ (I.ba.fresh (Pw _))⟩
end L2
namespace L2
open PySem PySem.Spec PyProof.Rows
end L2
namespace Sm
open PySem L2 PySem.Spec PyProof.Rows Builtin.Str
theorem gO{x y:Str}(hx:PyData.strOk x=true)(hy:PyData.strOk y=true):PyData.strOk (x++y)=true:=by
 unfold PyData.strOk at*;show(x.cps++y.cps).all _=true;rw[Array.all_append,hx,hy];rfl
noncomputable def isStr(d:D)(_:MH):Bool:=match d with
 | .str _=>true
 | _=>false
theorem ty_str{K:FR}{ρ:Ad}{H:Hp}{h:MH}{v:V}{d:D}(S:bM K ρ h H)(r:Rep K ρ H v d)(e:isStr d h=true):G4 K "str" v H:=by
 cases r <;> first |(cases e;done) | exact rfl
noncomputable def oU:AE:=λd ds h=>match d,ds with
 | .str x,[y]=>(dq y h).bind λp=>(om p.1).bind λns=>if(ns.map (·.length)).sum+ns.length*x.length<=16777216 then some (.str (Str.join x ns),h) else none
 | _,_=>none
theorem kI{x:Str}(hx:PyData.strOk x=true):∀ns:List Str,(∀y∈ns,PyData.strOk y=true)->PyData.strOk (Str.join x ns)=true
 | [],_=>by ac_nf
 | [y],h=>h y (.head _)
 | y::z::r,h=>gO (gO (h y (.head _)) hx) (kI hx (z::r) λa ha=>h a (.tail _ ha))
theorem pZ{X:Cx}:AD X "str.join" (rM X.K oU):=by
 intro pins s σ H x xs v us Q I rx rs hh;obtain⟨ρ,h,d,ds,z,h',S,rd,l,ee,k⟩:=hh;cases rd <;> first |(exact bU ee) | skip
 rename_i p hp
 match ds,l,ee with
 | [],_,ee=>cases ee
 | _::_::_,_,ee=>cases ee
 | [y],l,ee=>
  obtain⟨⟨ys,w⟩,e1,e2⟩:=bE ee;obtain⟨ns,e3,e4⟩:=bE e2
  by_cases c:(ns.map (·.length)).sum+ns.length*p.length<=16777216
  ·rw[Py c] at e4;cases e4;obtain⟨v1,rfl,ry⟩:=rep1 l;obtain⟨a,vs,rfl,hq,l2⟩:=lF S ry e1;have:=qq e3;dsimp only at this;subst this;obtain⟨e5,f⟩:=kN l2;subst e5;refine Gk pins s σ H _ _ v us Q I rx rs ⟨p,a,ns,rfl,rfl,hq,c,?_⟩;rw[show Txt.join p ns=Str.join p ns from StrLaws.glued_eq_join p ns];exact k _ _ (.here S (.str (kI hp ns f)))
  ·rw[PH c] at e4;cases e4
noncomputable def nM:AE:=λd ds h=>match d,ds with
 | .str x,[.str y]=>if(y.length==0)=false/\x.length<=sizeLine/\(Txt.split x y).length<=sizeLine/\(partsBetween x (occurrences x y 0 x.length (x.length+1)) y.length).length<=sizeLine/\(Txt.split x y).all PyData.strOk=true then some (.lv ((Txt.split x y).map D.str),h) else none
 | _,_=>none
theorem xx{X:Cx}:AD X "str.split" (rM X.K nM):=by
 intro pins s σ H x xs v us Q I rx rs hh;obtain⟨ρ,h,d,ds,z,h',S,rd,l,ee,k⟩:=hh;cases rd <;> first |(exact bU ee) | skip
 rename_i p hp
 match ds,l,ee with
 | [],_,ee=>cases ee
 | y::_::_,_,ee=>cases y <;> exact bU ee
 | [y],l,ee=>
  obtain⟨v1,rfl,ry⟩:=rep1 l;cases ry <;> first |(exact bU ee) | skip
  rename_i q hq _;unfold nM at ee;dsimp only at ee
  split at ee
  ·rename_i c;cases ee;exact DT pins s σ H _ _ v us Q I rx rs ⟨p,q,rfl,rfl,c.1,c.2.1,c.2.2.1,c.2.2.2.1,λl hl=>k _ _ (.lv S (nB _ λx hx=>Rh.mp c.2.2.2.2 x hx) hl)⟩
  ·cases ee
theorem tD(i:Int):PyData.strOk (Str.ofString (toString i))=true:=by
 unfold PyData.strOk;rw[UB];intro c hc;refine Qb (Nat.lt_of_not_le λh=>?_);exact int_text_free' c ⟨by lia,.inr (by lia)⟩ i (RV.mpr hc)
noncomputable def xI:Fn:=λds h=>match ds with
 | [.int i]=>if i.natAbs.log2 < 1920 then some (.str (toString i),h) else none
 | _=>none
theorem Ao{X:Cx}:ir X (.type "str") xI:=by
 intro pins s σ H xs us Q I r hh;obtain⟨ρ,h,ds,z,h',S,l,ee,k⟩:=hh
 match ds,l,ee with
 | [],_,ee=>cases ee
 | d::_::_,_,ee=>cases d <;> exact bU ee
 | [d],l,ee=>
  obtain⟨v,rfl,rd⟩:=rep1 l;cases rd <;> first |(exact bU ee) | skip
  unfold xI at ee;dsimp only at ee
  split at ee
  ·rename_i c;cases ee;refine wj pins s σ H _ us Q I r ⟨_,rfl,c,k _ _ (.here S (.str ?_))⟩;exact tD _
  ·cases ee
end Sm
namespace L2
open PySem PySem.Spec PyProof.Rows
section
variable {X:Cx}
end
end L2
namespace Sm
open PySem L2 PySem.Spec PyProof.Rows
section
variable {X:Cx}
end
theorem Bw{h:Heap}{f:Value->Bool}{p:PyData}:∀{us:List Value} {ds:List PyData} {as:List Addr},ReadsAll h us ds as->(∀u d as,u∈us->Reads h u d as->d∈ds->f u=PyData.eqv d p)->us.findIdx? f=ds.findIdx? λb=>PyData.eqv b p:=by
 intro us
 induction us with
 | nil=>intro ds as r _;cases r;rfl
 | cons v us ih=>
  intro ds as r hf;cases r with | cons r l=>
  rw[Uz,Uz,hf _ _ _ Px r Px,ih l λu d as hu hr hd=>hf u d as (Pz _ hu) hr (Pz _ hd)]
noncomputable def zY:AE:=λd ds h=>match ds with
 | [x]=>(dS d h).bind λys=>(zL h x).bind λp=>(oF ys).bind λbs=>if p.depth<=60/\PyData.depthAll bs<=60 then(bs.findIdx? λb=>PyData.eqv b p).map λj:Nat=>(D.int (Int.ofNat j),h) else none
 | _=>none
theorem Bn{X:Cx}(hu:X.A.units+64 < cLine):AD X "list.index" (rM X.K zY):=by
 intro pins s σ H x xs v us Q I rx rs hh;obtain⟨ρ,h,d,ds,z,h',S,rd,l,ee,k⟩:=hh
 match ds,l,ee with
 | [],_,ee=>exact bU ee
 | _::_::_,_,ee=>exact bU ee
 | [y],l,ee=>
  obtain⟨ys,e1,e2⟩:=bE ee;obtain⟨p,e3,e4⟩:=bE e2;obtain⟨bs,e5,e6⟩:=bE e4
  by_cases w:p.depth<=60/\PyData.depthAll bs<=60
  ·rw[Py w] at e6;obtain⟨j,e7,e8⟩:=gv e6;cases e8;obtain⟨a,vs,rfl,ha,l1⟩:=eh S rd e1;obtain rfl:v=Value.ref a:=rx;obtain⟨yv,rfl,ry⟩:=rep1 l;obtain⟨u,rfl,ru⟩:=Vals.one rs;obtain⟨r1,c1⟩:=lX S ry e3;obtain⟨r2,c2⟩:=l1.sS e5;obtain⟨as,ra⟩:=r1.reads I ru;obtain⟨its,rv,pl,hz⟩:=I.list (.inl (.inl ha));obtain⟨bs',rb⟩:=r2.reads I rv;have hj:=(Bw (f:=Am s.heap p) rb λu d as _ hr hd=>nX hr (cp c2 hd)).trans e7;obtain⟨j1,j2,j3⟩:=List.findIdx?_eq_some_iff_getElem.mp hj;have key:∀y,y∈its.toArray->PySem.SeqAt.EqAt X.A.in1 s y u (Am s.heap p y):=by
    intro y hy;obtain⟨d,as',hr,hd⟩:=jQ rb y (by simpa using hy);rw[nX hr (cp c2 hd)];refine RH d p _ s y u as' as hr ra (cp c2 hd) c1 ?_;have h1:=j6 hd;have h2:min d.depth p.depth<=d.depth:=Su _ _;show X.A.units+1+min d.depth p.depth < cLine;have h3:=w.2
    lia
   obtain⟨o,n,g,o1,o2,o3⟩:=pl;obtain⟨oc,od,oda,os⟩:=o;dsimp only at o1 o2 o3;subst o1 o2 o3;have hz2:=rv.length;rw[Rz] at hz;refine RA TL ⟨_,g,rfl⟩ PySem.F.entry_list_index (PySem.F.args_list_index_2 _ _)
    (PySem.SeqAt.list_indexAt a its.toArray n none os u (Am s.heap p) j (by simpa using j1) (by lia) (by simpa using j2) (λm hm hlt=>by simpa using j3 m hlt)) ⟨g,key,?_⟩
   exact⟨.int _,H,I.kept (t':=s.toks+1) λ_ _ e=>e,⟨_,rfl⟩,k _ _ (.here S (.int _))⟩
  ·rw[PH w] at e6;cases e6
end Sm
namespace L2
open PySem PySem.Spec PyProof.Rows
end L2
namespace Sm
open PySem L2 PySem.Spec PyProof.Rows
end Sm
namespace L2
open PySem PySem.Spec PyProof.Rows
section
variable {P:Program} {w:World} {A:Around} {E:Value->Shared->Prop} {s:Shared} {a:Addr} {es:Array (Int×Value)}
end
end L2
namespace L2
open PySem PySem.Spec PyProof.Rows PySem.SeqAt
end L2
namespace L2
open PySem PySem.Spec PyProof.Rows
section
variable {P:Program} {w:World} {A:Around} {E:Value->Shared->Prop} {s:Shared} {a:Addr} {ks:List Int}
end
end L2
namespace Sm
open PySem L2 PySem.Spec PyProof.Rows
end Sm
namespace L2
open PySem PySem.Spec PyProof.Rows
end L2
namespace Sm
open PySem L2 PySem.Spec PyProof.Rows
end Sm
namespace L2
open PySem PySem.Spec PyProof.Rows PySem.SeqAt
section
variable {P:Program} {w:World} {E:Value->Shared->Prop}
end
noncomputable local instance:DecidableEq PyData:=λa b=>Classical.propDecidable _
end L2
namespace L2
open PySem PySem.Spec PyProof.Rows PySem.W
section
variable {ks:List PKey} {i j:Nat}
end
section
variable {P:Program} {w:World} {A:Around} {E:Value->Shared->Prop} {s:Shared}
end
end L2
namespace L2
open PySem PySem.Spec PyProof.Rows PySem.W PySem.SeqAt
section
variable {P:Program} {w:World} {A:Around} {E:Value->Shared->Prop} {s:Shared} {a:Addr}
end
end L2
namespace Sm
open PySem L2 PySem.Spec PyProof.Rows
end Sm
namespace L2
open PySem PySem.Spec PyProof.Rows
noncomputable def G2(lo c:Int)(n:Nat):It:=⟨λi _=>i < n,λi H x H'=>H'=H/\x=.int (lo+i*c),λi _=>n<=i⟩
theorem wK{P:Program}{w:World}{K:FR}{tg:Expr}(it:Addr)(lo c:Int)(n:Nat):Turn P w K tg (G2 lo c n) [it] it (λi h=>IsRangeIter h it (lo+(i:Nat)*c) ((n:Int)-(i:Nat)) c) where
 mem:=by simp
 obj:=λi h st b hb=>by
  have e:b=it:=by simpa using hb
  subst e;exact⟨_,st,λv z=>by
   have z':Data.fields _=Data.cell v:=z;cases z'⟩
 keep:=λi h h' st k=>k it (by simp) _ st
 item:=by
  intro X hP hw hK hc i pins s σ H E I hf st hg;subst hP hw hK;obtain⟨f0,f1,f2,f3,f4,f5⟩:=hf it (by simp);have W:=Walks.range (prog:=X.prog) (w:=X.w) (I.ok.hd hc) it lo c n;refine W.item i s _ _ hg st λv h' tk hv st' kk=>?_;obtain⟨t,rfl⟩:=hv;have I1:Inv X pins σ H {s with heap:=h',toks:=tk}:=I.turned (λb o hb e=>kk b o (by simpa using hb) e) f0 f1 f3 f4 f5;exact⟨_,rfl,Ae (s:={s with heap:=h',toks:=tk}) (n:="range_iterator") st' rfl rfl (by decide) ⟨.int (lo+i*c),H,I1,⟨t,rfl⟩,⟨rfl,rfl⟩,st',λb hb=>(hf b hb).1⟩⟩
 done:=by
  intro X hP hw hK hc i pins s σ H E I hf st hg;subst hP hw hK;obtain⟨f0,f1,f2,f3,f4,f5⟩:=hf it (by simp);exact wpAny_pyNext_range_end (I.ok.hd hc) st (by have:n<=i:=hg;lia) λh' eb=>⟨rfl,I.turned (t':=s.toks) (λb o hb e=>eb b o hb e) f0 f1 f3 f4 f5⟩
 self:=λ_ _ _ _ _ st h=>wpAny_pyIter_rangeiter st h
def Fc(i j c:Int):Prop:=(-1000000<=i/\i<=1000000)/\(-1000000<=j/\j<=1000000)/\0 < c/\c<=1000
instance:Decidable (Fc i j c):=by unfold Fc;exact inferInstance
theorem size_pos(h:Fc i j c):0<=Builtin.Range.rangeSize i j c/\Builtin.Range.rangeSize i j c<=2000000:=by
 obtain⟨h1,h2,h3,h4⟩:=h;unfold Builtin.Range.rangeSize;rw[Py h3]
 split
 ·have:=Int.ediv_nonneg (a:=j-i-1) (b:=c) (by lia) (by lia);have:=Int.ediv_le_self (a:=j-i-1) c (by lia)
  lia
 ·lia
theorem AZ{pins:List (Addr×Obj)}{σ:St}{H:Hp}{s:Shared}{R:It->Hp->Prop}{E:Value->Shared->Prop}{lo hi c:Int}{t u v:Tok}{tk:Nat}(I:Inv X pins σ H s)(h1:Fc lo hi c)
  (q:R (G2 lo c (Builtin.Range.rangeSize lo hi c).toNat) H):wpAny (model X.prog X.w) X.A (pyIter (.ref s.heap.objs.size)) (OB X pins σ tg R) E {s with heap:=s.heap.push {cls:=.type "range",data:=.fields #[.int lo t,.int hi u,.int c v]},toks:=tk}:=by
 have hsz:=size_pos h1;refine wpAny_pyIter_range (IsRange.new ..) ?_ ?_
 ·obtain⟨g1,g2,g3,g4⟩:=h1;unfold Builtin.Range.small;simp only[Builtin.Range.rangeFitsLong,Qd,Ra,Qp,QX,show c > 0 from g3,Se];refine⟨⟨⟨⟨⟨?_,?_⟩,?_,?_⟩,?_,?_⟩,?_,?_⟩,.inr ⟨?_,?_⟩⟩ <;> lia
 have I1:Inv X pins σ H {s with heap:=s.heap.push {cls:=.type "range",data:=.fields #[.int lo t,.int hi u,.int c v]},toks:=tk}:=I.kept λb o e=>PC _ e;refine⟨(s.heap.push {cls:=.type "range",data:=.fields #[.int lo t,.int hi u,.int c v]}).objs.size,[(s.heap.push {cls:=.type "range",data:=.fields #[.int lo t,.int hi u,.int c v]}).objs.size],_,_,H,rfl,
  I1.kept (t':=tk) λb o e=>PC _ e,wK _ lo c (Builtin.Range.rangeSize lo hi c).toNat,?_,λb hb=>?_,q⟩
 ·have e1:lo+((0:Nat):Int)*c=lo:=by simp
  have e2:(((Builtin.Range.rangeSize lo hi c).toNat:Nat):Int)-((0:Nat):Int)=Builtin.Range.rangeSize lo hi c:=by lia
  show IsRangeIter _ _ (lo+((0:Nat):Int)*c) ((((Builtin.Range.rangeSize lo hi c).toNat:Nat):Int)-((0:Nat):Int)) c;rw[e1,e2];exact P8 _ rfl
 ·have e:b=(s.heap.push {cls:=.type "range",data:=.fields #[.int lo t,.int hi u,.int c v]}).objs.size:=by simpa using hb
  subst e;exact I1.Bz (Pw _) (I1.ba.fresh (Pw _))
def Md(ta:TA):TI:=λσ H R=>ta σ H λvs H1=>∃i j c:Int,vs=[.int i,.int j,.int c]/\Fc i j c/\R (G2 i c (Builtin.Range.rangeSize i j c).toNat) H1
theorem Bd{X:Cx}{tg a b c:Expr}{p pos:Pos}{ta:TA}(hg:Gl X "range")(hm:X.mg "range"=none)(ha:PA X [a,b,c] ta)(hs:starEach [a,b,c] X.env=[(false,eval a X.env),(false,eval b X.env),(false,eval c X.env)]:=by rfl)(hs2:starEach [b,c] X.env=[(false,eval b X.env),(false,eval c X.env)]:=by rfl):
  PI X tg (.Call (.Name "range" p) [a,b,c] [] pos) (Md ta):=by
 intro pins s σ H R I h;refine Call_ (jy I hg hm boot_range (QJ (cM (ha pos pins s σ H _ I h) λus s1 ⟨vs,H1,I1,r1,q1⟩=>?_) (by rw[hs,hs2]) (by rw[hs2];rfl)));obtain⟨i,j,d,e,q2,q⟩:=q1;subst e;cases r1 with
 | cons r rr=>
  cases rr with
  | cons r' rr=>
   cases rr with
   | cons r'' rr=>
    cases rr;obtain⟨t,rfl⟩:=r;obtain⟨t',rfl⟩:=r';obtain⟨t'',rfl⟩:=r'';refine call_range_3 (by have:=q2.2.2.1;lia) (AZ I1 q2 q) (.inl ?_);obtain⟨g1,g2,g3,g4⟩:=q2;exact PyProof.noPylong_small (by lia)
end L2
namespace Sm
open PySem L2 PySem.Spec PyProof.Rows
noncomputable def GA(m:AM):IM:=λδ h=>(m δ h).bind λp=>match p.1 with
 | [.int i,.int j,.int c]=>if Fc i j c then some ((List.range (Builtin.Range.rangeSize i j c).toNat).map λ(k:Nat)=>D.int (i+(k:Int)*c),[],p.2) else none
 | _=>none
theorem Gz{K:FR}{ρ:Ad}{H:Hp}(lo c:Int)(n:Nat):KS K (G2 lo c n) ρ H [] ((List.range n).map λ(k:Nat)=>D.int (lo+(k:Int)*c)):=by
 refine vQ λρ1 H1 h1 T S hc=>⟨(List.range n).map λ(k:Nat)=>V.int (lo+(k:Int)*c),?_,λi hi=>?_,λi v hv=>?_⟩
 ·have:=jP (K:=K) (ρ:=ρ1) (H:=H1) ((List.range n).map λ(k:Nat)=>lo+(k:Int)*c);rw[QD,QD] at this;exact this
 ·rw[Pp,P6] at hi;exact hi
 ·rw[PR] at hv;obtain⟨j,e1,e2⟩:=gv hv;obtain⟨hlt,e3⟩:=Pq.mp e1;rw[P6] at hlt;rw[SX] at e3;subst e3;subst e2;exact⟨hlt,λu H2 ⟨p,q⟩=>⟨p,q⟩⟩
theorem AU{X:Cx}{tg a b c:Expr}{p pos:Pos}{m:AM}(hg:Gl X "range")(hm:X.mg "range"=none)(ha:SA X [a,b,c] m)(hs:starEach [a,b,c] X.env=[(false,eval a X.env),(false,eval b X.env),(false,eval c X.env)]:=by ac_nf)(hs2:starEach [b,c] X.env=[(false,eval b X.env),(false,eval c X.env)]:=by ac_nf)(hl:kg m 3):
  SI X tg (.Call (.Name "range" p) [a,b,c] [] pos) (GA m):=
 (Bd hg hm ha hs hs2).imp λσ H Q ⟨ρ,δ,h,xs,ws,h',R,S,e,k⟩=>by
  obtain⟨⟨x,h1⟩,e1,e2⟩:=bE e;refine⟨ρ,δ,h,x,h1,R,S,e1,λvs ρ1 H1 T1 S1 r1=>?_⟩;dsimp only at e2
  split at e2
  ·rename_i _ i j d
   by_cases z:Fc i j d
   ·rw[Py z] at e2;cases e2;refine⟨i,j,d,?_,z,k _ ρ1 H1 T1 S1 (Gz i d _)⟩;cases r1 with
    | cons r l=>cases l with
     | cons r' l=>cases l with
      | cons r'' l=>cases l;cases r;cases r';cases r'';rfl
   ·rw[PH z] at e2;cases e2
  ·cases e2
end Sm
namespace L2
open PySem PySem.Spec PyProof.Rows PySem.SeqAt
end L2
namespace Sm
open PySem L2 PySem.Spec PyProof.Rows
end Sm
namespace Sm
open PySem L2 PySem.Spec PyProof.Rows PySem.SeqAt
noncomputable local instance:DecidableEq PyData:=λa b=>Classical.propDecidable _
section
variable {K:FR} {ρ ρ':Ad} {H H':Hp}
end
section
variable {X:Cx}
end
end Sm
namespace Sm
open PySem L2 PySem.Spec PyProof.Rows
abbrev v0:EM:=ay 0
abbrev v1:EM:=ay 1
abbrev v2:EM:=ay 2
abbrev v3:EM:=ay 3
abbrev v4:EM:=ay 4
abbrev v5:EM:=ay 5
abbrev v6:EM:=ay 6
abbrev v7:EM:=ay 7
abbrev v8:EM:=ay 8
abbrev v9:EM:=ay 9
abbrev v10:EM:=ay 10
abbrev v11:EM:=ay 11
abbrev Np:EM:=ay 12
abbrev Nm:EM:=ay 13
abbrev OM:EM:=ay 14
abbrev ki(i:Int):EM:=eK (.int i)
abbrev ks(x:Str):EM:=eK (.str x)
abbrev a1(x:EM):AM:=ag x aM
abbrev a2(x y:EM):AM:=ag x (ag y aM)
abbrev a3(x y z:EM):AM:=ag x (ag y (ag z aM))
abbrev a4(x y z u:EM):AM:=ag x (ag y (ag z (ag u aM)))
section
variable {P:Program} {w:World} {K:FR} {mg:Str->Option Value} {base:Heap} {x qual:Str} {st:Stmt} {f:Addr} {fd:FuncData} {N ps:List Str} {k:Nat}
theorem aO(F:sC K x qual st f fd)(Sc:aB N ps (ah st))(hb:∀(cdv:Value)(A:Around)(outer:List Env)(s:Shared)(H:Hp)(E:XK),cF k (A.deeper (envOfC qual (ah st) s.heap.objs.size f cdv))->N.Nodup->BZ (eQ ni P w K mg base N qual (ah st) f cdv A outer s H E).DP (cY st) body):
  eI P w K mg base ni (k+1) f fd ps (AS K ps.length (jT N.length body)):=JU F Sc λc A o s H E hr=>hb c A o s H E hr Sc.nd
end
theorem Lp{op:CmpOp}(ho:oh X (compareOp op) f)(ha:SE X a ma)(hb:SE X b mb)(hm:behindInMarks op b=false:=by first | exact iI _ | ac_nf):ST X (.Compare a [op] [b] pos) (aE (ak f ma mb)):=iy ho ha hb hm
theorem Lv{op:CmpOp}(ho:oh X (compareOp op) f)(ha:SE X a ma)(hb:SE X b mb)(hm:behindInMarks op b=false:=by first | exact iI _ | ac_nf):SE X (.Compare a [op] [b] pos) (ak f ma mb):=Il ho ha hb hm
theorem NH{x1}(h:SA X es aM):SE X (.Tuple es x1 pos) (aw aJ aM):=b7 h aA
theorem NG{x1}(h:SA X es (ag m0 aM)):SE X (.Tuple es x1 pos) (aw aJ (ag m0 aM)):=b7 h (af aA)
theorem NF{x1}(h:SA X es (ag m0 (ag m1 aM))):SE X (.Tuple es x1 pos) (aw aJ (ag m0 (ag m1 aM))):=b7 h (af (af aA))
theorem ND{x1}(h:SA X es (ag m0 (ag m1 (ag m2 aM)))):SE X (.Tuple es x1 pos) (aw aJ (ag m0 (ag m1 (ag m2 aM)))):=b7 h (af (af (af aA)))
theorem NC{x1}(h:SA X es (ag m0 (ag m1 (ag m2 (ag m3 aM))))):SE X (.Tuple es x1 pos) (aw aJ (ag m0 (ag m1 (ag m2 (ag m3 aM))))):=b7 h (af (af (af (af aA))))
theorem NB{x1}(h:SA X es (ag m0 (ag m1 (ag m2 (ag m3 (ag m4 (ag m5 aM))))))):SE X (.Tuple es x1 pos) (aw aJ (ag m0 (ag m1 (ag m2 (ag m3 (ag m4 (ag m5 aM))))))):=b7 h (af (af (af (af (af (af aA))))))
theorem NL(h:SA X es aM):lu X (.List es pos) aM:=dE h aA
theorem NK(h:SA X es (ag m0 aM)):lu X (.List es pos) (ag m0 aM):=dE h (af aA)
theorem NJ(h:SA X es (ag m0 (ag m1 aM))):lu X (.List es pos) (ag m0 (ag m1 aM)):=dE h (af (af aA))
theorem NI(h:SA X es (ag m0 (ag m1 (ag m2 (ag m3 (ag m4 (ag m5 (ag m6 (ag m7 aM))))))))):lu X (.List es pos) (ag m0 (ag m1 (ag m2 (ag m3 (ag m4 (ag m5 (ag m6 (ag m7 aM)))))))):=dE h (af (af (af (af (af (af (af (af aA))))))))
end Sm
namespace Hd
open PySem PySem.W PySem.Spec PyProof.Rows L2 Sm
theorem bj{q:Program}{loose:List Str}{mean:ExcName->Option Value}{mg mb:Str->Option Value}{h base:Heap}{P:Program}{w:World}(T:Top q loose mean mg mb h){n:Str}{st:Stmt}(e:(recsOf q).find? (λe=>e.name==n)=some (lW n st)){ps:List Str}{k N:Nat}{F:Fn}
  (ok:∀{f:Addr} {fd:FuncData},sC (aC h) n n st f fd->keepIn (aC h) (.ref f)=true->Binds (aC h) fd ps []->mg n=some (.ref f)->eI P w (aC h) mg base ni k f fd ps (AS (aC h) N F)) (hb:∀{f:Addr} {fd:FuncData},sC (aC h) n n st f fd->Binds (aC h) fd ps []:=by walk_at "b"):Df P w (aC h) mg base n k ps N F:=L7 T e hb ok
end Hd
namespace L2
open PySem PySem.Spec PyProof.Rows
section
variable {P:Program} {w:World} {A:Around} {E:Value->Shared->Prop} {s:Shared} {d J:Addr} {o:Obj} {es:Array DictEntry} {ep:Nat}
end
end L2
namespace Sm
open PySem L2 PySem.Spec PyProof.Rows PySem.SeqAt
end Sm
namespace Sb
open PySem L2 PySem.Spec PyProof.Rows
open Builtin.SmallTypes (nextOf ownedTupleIsFree ownedTupleHandOut)
section
variable {P:Program} {w:World} {A:Around} {E:Value->Shared->Prop} {s:Shared} {b c:Bool}
end
section
variable {P:Program} {w:World} {A:Around} {E:Value->Shared->Prop} {s:Shared}
end
end Sb
namespace Sm
open PySem L2 PySem.Spec PyProof.Rows
end Sm
namespace L2
open PySem PySem.Spec PyProof.Rows
end L2
namespace Sm
open PySem L2 PySem.Spec PyProof.Rows
mutual
noncomputable def Hh:D->Bool
 | .cj=>true
 | .bl _=>true
 | .int _=>true
 | .str _=>true
 | .tup xs=>Dn xs
 | _=>false
noncomputable def Dn:List D->Bool
 | []=>true
 | x::r=>Hh x&&Dn r
end
section
variable {K:FR} {ρ ρ':Ad} {H H':Hp} (hh:∀b vs,Rd H b (.tup vs)->¬ρ.has b->Rd H' b (.tup vs)/\¬ρ'.has b)
include hh
mutual
theorem C6{v:V}{d:D}(r:Rep K ρ H v d)(f:Hh d=true):Rep K ρ' H' v d:=by
 cases r with
 | cj=>exact .cj
 | bl b=>exact .bl b
 | int i=>exact .int i
 | str h=>exact .str h
 | tup h l=>exact .tup (h.elim (λ⟨a,n⟩=>.inl (hh _ _ a n)) .inr) (tL l f)
 | _=>cases f
theorem tL{vs:List V}{ds:List D}(r:aD K ρ H vs ds)(f:Dn ds=true):aD K ρ' H' vs ds:=by
 cases r with
 | nil=>exact .nil
 | cons h t=>
  have f:=P1.mp f;exact .cons (C6 h f.1) (tL t f.2)
end
end
end Sm
namespace L2
open PySem PySem.Spec PyProof.Rows
def OT(h:Heap)(x T:Addr)(C:Value):Prop:=
 ∃oe vs oT ts,h.get? x=some oe/\oe.cls=C/\oe.data=.fields vs/\vs[1]?=some (.ref T)/\T≠x/\h.get? T=some oT/\oT.data=.fields ts/\ts[3]?=some .none
noncomputable def iu(P:Program)(w:World):AG:=λouter H s E e s'=>∃x T C H',e=.ref x/\s.heap.get? x=none/\s.heap.get? T=none/\H' x=none/\H' T=none/\OT s'.heap x T C/\s'.os=s.os/\AllBare s'.gens/\
 Un (j4 outer) [] H H' s.heap s'.heap/\j8 P w H' s'.heap/\E C none H'
theorem cf.ex(x:cf P w H h a o):∃u,h.get? a=some u:=by
 cases o with
 | lst xs=>obtain⟨_,_,_,_,e⟩:=x;exact⟨_,e⟩
 | tup xs=>obtain⟨_,_,_,o,e,_⟩:=x;exact⟨_,e⟩
 | dK kvs=>obtain⟨_,_,_,_,o,_,_,e,_⟩:=x;exact⟨_,e⟩
 | dT kvs=>obtain⟨_,_,_,_,o,_,_,e,_⟩:=x;exact⟨_,e⟩
 | set S n=>obtain⟨o,_,_,_,e,_⟩:=x;exact⟨_,e⟩
 | ins C dx fs=>obtain⟨_,_,_,e,_⟩:=x;exact⟨_,e⟩
 | own y=>exact x
 | xd fs=>obtain⟨_,⟨_,_,_,e,_⟩,_⟩:=x;exact⟨_,e⟩
 | tK lo hi=>obtain⟨_,_,_,e⟩:=x;exact⟨_,e⟩
 | pd ob u=>exact⟨_,x.1⟩
 | G5 ps=>exact⟨_,x⟩
 | met f y=>exact⟨_,x⟩
 | ext φ=>exact x.2.1
 | Al φ=>exact x.2.1
 | tb=>obtain⟨_,e,_⟩:=x;exact⟨_,e⟩
theorem p0{h base base':Heap}:∀{l:List Env},h.FunFrames base l->(∀b∈j4 l,base'.get? b=none)->h.FunFrames base' l
 | [],_,_=>trivial
 | env::r,⟨hk,⟨L,o,hf,hn,ho,hd⟩,hr⟩,k=>by
  have k':∀b,b=L\/b∈j4 r->base'.get? b=none:=λb hb=>k b (by unfold j4;rw[QN,hf];exact PB.mpr hb);exact⟨hk,⟨L,o,hf,k' L (.inl rfl),ho,hd⟩,p0 hr λb hb=>k' b (.inr hb)⟩
abbrev Kg(CX:AG)(P:Program)(w:World)(K:FR)(mg:Str->Option Value)(base:Heap)(N:List Str)(qual:Str)(scope:Scope)(fn:Str->Bool)(cl:List (Str×Addr))(f:Addr)(cd:Value)(A:Around)(outer:List Env)(s:Shared)(H:Hp)(E:XK):Cx where
 prog:=P
 w:=w
 K:=K
 mg:=mg
 base:=base
 A:=A.deeper (PySem.W.envX qual scope s.heap.objs.size f cd cl)
 N:=N
 s₀:=s
 H₀:=H
 env:=PySem.W.envX qual scope s.heap.objs.size f cd cl
 outer:=outer
 stack:=PySem.W.envX qual scope s.heap.objs.size f cd cl::outer
 ex:=[]
 calm:=true
 fn:=fn
 pn:=[]
 xe:=λe s'=>wpAny (model P w) (A.deeper (PySem.W.envX qual scope s.heap.objs.size f cd cl)) (leaving (PySem.W.envX qual scope s.heap.objs.size f cd cl) e) (λ_ s''=>CX outer H s E e s'') (λe' s''=>CX outer H s E e' s'') s'
section
variable {CX:AG} {P:Program} {w:World} {K:FR} {mg:Str->Option Value} {base:Heap} {N:List Str} {qual:Str} {scope:Scope} {fn:Str->Bool} {cl:List (Str×Addr)} {f:Addr} {cd:Value} {A:Around} {outer:List Env} {s₀:Shared} {H₀:Hp} {E:XK} {pins:List (Addr×Obj)} {σ:St} {H:Hp} {s:Shared} {x T:Addr} {C:Value}
theorem xC(J:Inv (Kg (iu P w) P w K mg base N qual scope fn cl f cd A outer s₀ H₀ E) pins σ H s)(hx0:s₀.heap.get? x=none)(hHx:H x=none)(hT:∀b,b∈(x::ts)->H b=none/\s₀.heap.get? b=none){h':Heap}
  (hl:Heap.Left (PySem.W.hideAll s.heap ((x::ts)++j4 (PySem.W.envX qual scope s₀.heap.objs.size f cd cl::outer))) (PySem.W.envX qual scope s₀.heap.objs.size f cd cl::outer) x C s.heap h') (e:E C none H):iu P w outer H₀ s₀ E (.ref x) {s with heap:=h'}:=by
 obtain⟨st,ff,⟨oe,vs,T,oT,tr,he,hc,hd,h1,hbT,hTx,hgT,hdT,h3⟩,sl⟩:=hl;have keep:∀b o,s.heap.get? b=some o->b∉(x::ts)->b∉j4 (PySem.W.envX qual scope s₀.heap.objs.size f cd cl::outer)->h'.get? b=some o:=λb o eb n1 n2=>
  st b o (RW _ eb λz=>(PX.mp z).elim n1 n2)
 have fr:∀b∈j4 (PySem.W.envX qual scope s₀.heap.objs.size f cd cl::outer),H b=none:=J.pU;have fo:∀b o,s₀.heap.get? b=some o->b∉j4 outer->b∉j4 (PySem.W.envX qual scope s₀.heap.objs.size f cd cl::outer):=λb o eb n z=>by
  rcases PB.mp (show b∈s₀.heap.objs.size::j4 outer from z) with z | z
  ·rw[z] at eb;exact absurd (PU eb) (RC _)
  ·exact n z
 have hTT:H T=none/\s₀.heap.get? T=none:=by
  by_cases z:T∈x::ts
  ·exact hT T z
  ·by_cases z2:T∈j4 (PySem.W.envX qual scope s₀.heap.objs.size f cd cl::outer)
   ·obtain⟨_,o,eo,hn⟩:=ff.mem z2;rw[hgT] at eo;cases eo;exact absurd hdT (hn _)
   ·have hn:s.heap.get? T=none:=by
     cases q:s.heap.get? T with
     | none=>rfl
     | some o=>rw[RW _ q λy=>(PX.mp y).elim z z2] at hbT;cases hbT
    refine⟨?_,?_⟩
    ·cases q:H T with
     | none=>rfl
     | some u=>obtain⟨o,eo⟩:=(J.ba T u q).ex;rw[hn] at eo;cases eo
    ·cases q:s₀.heap.get? T with
     | none=>rfl
     | some o=>obtain⟨o',eo⟩:=J.base.there T o q (λy=>(nomatch y));rw[hn] at eo;cases eo
 have sx:∀b o,s₀.heap.get? b=some o->b∉x::ts:=λb o eb z=>by rw[(hT b z).2] at eb;cases eb
 refine⟨x,T,C,H,rfl,hx0,hTT.2,hHx,hTT.1,⟨oe,vs,oT,tr,he,hc,hd,h1,hTx,hgT,hdT,h3⟩,J.os,J.bare,⟨λb o eb n hb _=>?_,λb o eb n hb _=>?_,λb o eb n _=>J.base.free b o eb n (λy=>(nomatch y)),λb o eb _=>?_,J.base.nu,J.base.mE,J.base.nv⟩,?_,e⟩
 ·exact keep b o (J.base.keep b o eb n hb (λy=>(nomatch y))) (sx b o eb) (fo b o eb hb)
 ·obtain⟨sl1,e1⟩:=J.base.slot b o eb n hb (λy=>(nomatch y));obtain⟨_,o',eo,hn⟩:=J.stack.mem (Pz _ hb);rw[e1] at eo;cases eo;obtain⟨sl2,e2⟩:=sl b _ e1 hn;exact⟨sl2,e2⟩
 ·obtain⟨o1,e1⟩:=J.base.there b o eb (λy=>(nomatch y))
  by_cases z:b∈j4 (PySem.W.envX qual scope s₀.heap.objs.size f cd cl::outer)
  ·obtain⟨_,o',eo,hn⟩:=J.stack.mem z;obtain⟨sl2,e2⟩:=sl b _ eo hn;exact⟨_,e2⟩
  ·exact⟨_,keep b _ e1 (sx b o eb) z⟩
 ·have nt:∀b u,H b=some u->b∉x::ts/\b∉j4 (PySem.W.envX qual scope s₀.heap.objs.size f cd cl::outer):=λb u eb=>⟨λz=>(by rw[(hT b z).1] at eb;cases eb),λz=>(by rw[fr b z] at eb;cases eb)⟩;intro b u eb;refine(J.ba b u eb).nz (λc v hc q=>?_) (λ_ q=>q) λ_ _ q=>q;have:∃u,H c=some u:=by
   rcases hc with rfl | hc
   ·exact⟨u,eb⟩
   ·exact⟨_,hc⟩
  obtain⟨u',eu⟩:=this;exact keep c v q (nt c u' eu).1 (nt c u' eu).2
theorem AH(J:Inv (Kg (iu P w) P w K mg base N qual scope fn cl f cd A outer s₀ H₀ E) pins σ H s)(hx0:s₀.heap.get? x=none)(hHx:H x=none){oe:Obj}{vs:Array Value}(he:s.heap.get? x=some oe)(hd:oe.data=.fields vs)(h1:vs[1]?=some .none)(e:E oe.cls none H):
  (Kg (iu P w) P w K mg base N qual scope fn cl f cd A outer s₀ H₀ E).xe (.ref x) s:=by
 refine wpAny_leaving_first (base:=PySem.W.hideAll s.heap ([x]++j4 (PySem.W.envX qual scope s₀.heap.objs.size f cd cl::outer))) J.ok.frames (p0 J.stack λb hb=>QU _ (P7 _ hb)) rfl he (λb o eb=>R7 _ eb) (QU _ (QH _ Px)) hd h1 λh' hl=>?_;refine xC (ts:=[]) J hx0 hHx (λb hb=>?_) hl e;rw[PD.mp hb];exact⟨hHx,hx0⟩
theorem Ca(J:Inv (Kg (iu P w) P w K mg base N qual scope fn cl f cd A outer s₀ H₀ E) pins σ H s)(hx0:s₀.heap.get? x=none)(hT0:s₀.heap.get? T=none)(hHx:H x=none)(hHT:H T=none)(hX:OT s.heap x T C)(e:E C none H):
  (Kg (iu P w) P w K mg base N qual scope fn cl f cd A outer s₀ H₀ E).xe (.ref x) s:=by
 obtain⟨oe,vs,oT,tr,he,hc,hd,h1,hTx,hgT,hdT,h3⟩:=hX;refine wpAny_leaving_next (cls:=C) (base:=PySem.W.hideAll s.heap ([x,T]++j4 (PySem.W.envX qual scope s₀.heap.objs.size f cd cl::outer))) J.ok.frames (p0 J.stack λb hb=>QU _ (P7 _ hb)) rfl ⟨oe,vs,T,oT,tr,he,hc,hd,h1,QU _ (QH _ (Pz _ Px)),hTx,hgT,hdT,h3⟩ (λb o eb=>R7 _ eb) (QU _ (QH _ Px)) λh' hl=>?_;refine xC (ts:=[T]) J hx0 hHx (λb hb=>?_) hl e;rcases PB.mp hb with rfl | hb
 ·exact⟨hHx,hx0⟩
 ·rw[PD.mp hb];exact⟨hHT,hT0⟩
theorem zS:Passes (iu P w) (Kg (iu P w) P w K mg base N qual scope fn cl f cd A outer s₀ H₀ E) E:=λpins σ H s e s' I h=>by
 obtain⟨x,T,C,H',rfl,nx,nT,hx,hT,X,os,bare,un,ba,q⟩:=h;have J:Inv (Kg (iu P w) P w K mg base N qual scope fn cl f cd A outer s₀ H₀ E) pins σ H' s':=I.call' os un ba bare λb z=>(nomatch z);have old:∀b,s.heap.get? b=none->s₀.heap.get? b=none:=λb hb=>by
  cases q:s₀.heap.get? b with
  | none=>rfl
  | some o=>obtain⟨o',eo⟩:=I.base.there b o q (λy=>(nomatch y));rw[hb] at eo;cases eo
 exact Ca J (old x nx) (old T nT) hx hT X q
end
section
variable {P:Program} {w:World} {K:FR} {mg:Str->Option Value} {base:Heap} {N:List Str} {qual:Str} {scope:Scope} {f:Addr} {cd:Value} {A:Around} {outer:List Env} {s₀:Shared} {H₀:Hp} {E:XK} {pins:List (Addr×Obj)} {σ:St} {H:Hp} {s:Shared} {x T:Addr} {C:Value}
theorem Cb(J:Inv (eQ (iu P w) P w K mg base N qual scope f cd A outer s₀ H₀ E) pins σ H s)(hx0:s₀.heap.get? x=none)(hHx:H x=none){oe:Obj}{vs:Array Value}(he:s.heap.get? x=some oe)(hd:oe.data=.fields vs)(h1:vs[1]?=some .none)(e:E oe.cls none H):
  (eQ (iu P w) P w K mg base N qual scope f cd A outer s₀ H₀ E).xe (.ref x) s:=AH (fn:=λ_=>true) (cl:=cellsFrom (s₀.heap.objs.size+1) scope.names []) J hx0 hHx he hd h1 e
theorem zT:Passes (iu P w) (eQ (iu P w) P w K mg base N qual scope f cd A outer s₀ H₀ E) E:=zS (fn:=λ_=>true) (cl:=cellsFrom (s₀.heap.objs.size+1) scope.names [])
end
structure E4(mg:Str->Option Value)(base:Heap)(nm:Str)(C:Addr):Prop where
 own:OwnCls nm C [.type "ValueError",.type "Exception",.type "BaseException",.type "object"] "ValueError.__new__" mg base
section
variable {P:Program} {w:World} {K:FR} {mg:Str->Option Value} {base:Heap} {N:List Str} {qual:Str} {scope:Scope} {f:Addr} {cd:Value} {A:Around} {outer:List Env} {s₀:Shared} {H₀:Hp} {E:XK}
theorem Ds{nm:Str}{C:Addr}{a:Expr}{np cpos pos:Pos}{ta:TA}(O:E4 mg base nm C)(hg:Gl (eQ (iu P w) P w K mg base N qual scope f cd A outer s₀ H₀ E) nm)(ha:PA (eQ (iu P w) P w K mg base N qual scope f cd A outer s₀ H₀ E) [a] ta)
  (he:starEach [a] (envOfC qual scope s₀.heap.objs.size f cd)=[(false,eval a (envOfC qual scope s₀.heap.objs.size f cd))]) (hdb:(nm==("__debug__":Str))=false):
  PS (eQ (iu P w) P w K mg base N qual scope f cd A outer s₀ H₀ E) (.Raise (some (.Call (.Name nm np) [a] [] cpos)) none pos) (λ_ σ H=>ta σ H λvs H1=>vs.length<=sizeLine/\E (.ref C) none H1):=by
 intro pins s σ H D I h;obtain⟨tl,Nn,nm',q,bs,hdct,sn,sub,ab,col,dd,k0,k1,k2,k3,k5,mN,hC,hN,hni,T⟩:=O.own.obj;refine wpAny_Raise_call_subU (C:=C) (nm:=nm') (q:=q) (N:=Nn) (bs:=bs) (bm:=tl) (hdct:=hdct) (sn:=sn) (sub:=sub) (ab:=ab) (col:=col) (dd:=dd) (k0:=k0) (k1:=k1) (k2:=k2) (k3:=k3) (k5:=k5)
  R8 (by decide) R8 (mN:=mN) (T.hasType R8.hasBase) (I.ok.hd rfl) (by
   show(backTo cpos (starEach [a] (envOfC qual scope s₀.heap.objs.size f cd))).any (·.1)=false;rw[he];rfl) hni (jX I hg O.own.bound ⟨rfl,?_⟩ hdb)
 show wpAny _ _ (evalArgs (.ref C) true (backTo cpos (starEach [a] (envOfC qual scope s₀.heap.objs.size f cd))) []) _ _ s;have hh:=ha cpos pins s σ H _ I h;have hh:wpAny _ _ (spliced (backTo cpos (starEach [a] (envOfC qual scope s₀.heap.objs.size f cd)))) _ _ s:=hh;rw[he] at hh ⊢;refine Calls.evalArgs_plain (Qr hh (λus s2 hq=>?_) λ_ _ y=>y);obtain⟨vs,H1,I1,r1,hl,q1⟩:=hq;refine⟨rfl,by rw[<-r1.length];exact hl,I1.bk _ _ hC,hN.keeps I1.bk,T.keeps I1.bk,λh' e hm=>?_⟩;have I2:Inv (eQ (iu P w) P w K mg base N qual scope f cd A outer s₀ H₀ E) pins σ H1 {s2 with heap:=h'}:=I1.kept (t':=s2.toks) hm.keeps;obtain⟨t,ht,_,_⟩:=hm.there;refine Cb I2 ?_ ?_ ht rfl rfl q1
 ·cases q:s₀.heap.get? e with
  | none=>rfl
  | some o=>obtain⟨o',eo⟩:=I1.base.there e o q (λy=>(nomatch y));rw[hm.new] at eo;cases eo
 ·cases q:H1 e with
  | none=>rfl
  | some u=>obtain⟨o,eo⟩:=(I1.ba e u q).ex;rw[hm.new] at eo;cases eo
end
end L2
namespace Sm
open PySem L2 PySem.Spec PyProof.Rows
abbrev XM:=DS->MH->Option (Str×MH)
abbrev Xn:=List D->MH->Option (Str×MH)
def ME(K:FR)(mg:Str->Option Value)(E:XK)(ρ:Ad)(H:Hp)(c:Str)(h':MH):Prop:=∀C ρ' H',mg c=some C->df ρ H ρ' H'->bM K ρ' h' H'->E C none H'
theorem ME.step{K:FR}{mg:Str->Option Value}{E:XK}{ρ ρ1:Ad}{H H1:Hp}{c:Str}{h':MH}(k:ME K mg E ρ H c h')(T:df ρ H ρ1 H1):ME K mg E ρ1 H1 c h':=λC ρ' H' m T' S=>k C ρ' H' m (T.trans T') S
inductive MG(K:FR)(mg:Str->Option Value)(E:XK)(x:XM)(σ:L2.St)(H:Hp):Prop where
 | mk (ρ δ h c h'):cI K ρ H σ δ->bM K ρ h H->x δ h=some (c,h')->ME K mg E ρ H c h'->MG K mg E x σ H
def XE(X:Cx)(E:XK)(e:Expr)(x:XM):Prop:=PE X e λσ H _=>MG X.K X.mg E x σ H
def XS(X:Cx)(E:XK)(s:Stmt)(x:XM):Prop:=PS X s λ_ σ H=>MG X.K X.mg E x σ H
def Fg(X:Cx)(E:XK)(s:List Stmt)(x:XM):Prop:=wG X s λ_ σ H=>MG X.K X.mg E x σ H
noncomputable def M5:XM:=λ_ _=>none
noncomputable def Fq(a b:XM):XM:=λδ h=>match a δ h with
 | some r=>some r
 | none=>b δ h
noncomputable def HH(t:TM)(a b:XM):XM:=λδ h=>(t δ h).bind λp=>if p.1 then a δ p.2 else b δ p.2
noncomputable def wH(a:SM)(b:XM):XM:=λδ h=>(a δ h).bind λr=>match r.1 with
 | .nx=>b r.2.1 r.2.2
 | _=>none
noncomputable def E8(f:Xn)(a:AM):XM:=λδ h=>(a δ h).bind λp=>f p.1 p.2
noncomputable def nj(c:Str)(a:AM):XM:=λδ h=>(a δ h).map λp=>(c,p.2)
noncomputable def Jv(len:Nat)(body:XM):Xn:=λds h=>body (entry len ds) h
inductive MT(K:FR)(mg:Str->Option Value)(n:Nat)(F:Xn)(vs:List V)(H:Hp)(E:XK):Prop where
 | mk (ρ h ds c h'):bM K ρ h H->aD K ρ H vs ds->ds.length=n->F ds h=some (c,h')->ME K mg E ρ H c h'->MT K mg n F vs H E
def Lr(K:FR)(mg:Str->Option Value)(n:Nat)(F:Xn):Sp:=λvs H _ E=>MT K mg n F vs H E
section
variable {X:Cx} {E:XK} {a b c e tg iter elt:Expr} {es:List Expr} {st:Stmt} {sa sb sts:List Stmt} {pos:Pos} {ma mb:EM} {mt:TM} {ms mu:SM} {m:AM} {x y:XM}
theorem ye:Fg X E sts M5:=λ_ _ _ _ _ _ h=>by obtain⟨_,_,_,_,_,_,_,z,_⟩:=h;cases z
theorem B6(ha:Fg X E sts x)(hb:Fg X E sts y):Fg X E sts (Fq x y):=λpins s σ H D I ⟨ρ,δ,h,c,h',R,S,z,k⟩=>by
 unfold Fq at z;cases q:x δ h with
 | none=>rw[q] at z;exact hb pins s σ H D I ⟨ρ,δ,h,c,h',R,S,z,k⟩
 | some r=>rw[q] at z;cases z;exact ha pins s σ H D I ⟨ρ,δ,h,c,h',R,S,q,k⟩
theorem fc(h1:XS X E st x):Fg X E (st::sts) x:=λpins s σ H D I h=>
 Q7 (cM (h1 pins s σ H {nx:=λ_ _=>False,rt:=λ_ _=>False,bk:=λ_ _=>False,ct:=λ_ _=>False} I h) λf s1 q=>by
  cases f with
  | next=>obtain⟨_,_,_,q⟩:=q;exact q.elim
  | ret v=>obtain⟨_,_,_,_,_,q⟩:=q;exact q.elim
  | brk=>obtain⟨_,_,_,q⟩:=q;exact q.elim
  | cont=>obtain⟨_,_,_,q⟩:=q;exact q.elim)
theorem ly(h1:SS X st ms)(h2:Fg X E sts x):Fg X E (st::sts) (wH ms x):=(xh h1 h2).imp λD σ H ⟨ρ,δ,h,c,h',R,S,z,k⟩=>by
 obtain⟨⟨fl,δ1,h1⟩,e1,e2⟩:=bE z;refine⟨ρ,δ,h,fl,δ1,h1,R,S,e1,λρ1 H1 T1 S1=>?_⟩;cases fl with
 | nx=>exactλσ' R'=>⟨ρ1,δ1,h1,c,h',R',S1,e2,k.step T1⟩
 | bk=>cases e2
 | ct=>cases e2
 | rt d=>cases e2
theorem B8(hc:ST X c mt)(ha:Fg X E sa x)(hb:Fg X E sb y):XS X E (.If c sa sb pos) (HH mt x y):=(Hi hc ha hb).imp λD σ H ⟨ρ,δ,h,c,h',R,S,z,k⟩=>by
 obtain⟨⟨b,h1⟩,e1,e2⟩:=bE z;refine⟨ρ,δ,h,b,h1,R,S,e1,λρ1 H1 T1 S1=>?_⟩;cases b with
 | true=>rw[Py rfl] at e2 ⊢;exact⟨ρ1,δ,h1,c,h',R.mono T1.toCh,S1,e2,k.step T1⟩
 | false=>rw[PH (by simp)] at e2 ⊢;exact⟨ρ1,δ,h1,c,h',R.mono T1.toCh,S1,e2,k.step T1⟩
theorem HF(he:XE X E e x)(hs:swapsWithSole [tg] e pos.line X.env=pure false:=by ac_nf)(hw:swappedStores [tg] e X.env=pure none:=by ac_nf)(h1:(assignEach [tg] X.env).map (·.2)=[assign tg X.env]:=by ac_nf)
  (hg:PG X tg g):XS X E (.Assign [tg] e pos) x:=Dv he hg hs hw h1
theorem Fm(G:eI X.prog X.w X.K X.mg X.base (iu X.prog X.w) k f fd ps (Lr X.K X.mg n F))(hp:Passes (iu X.prog X.w) X E)(hr:cF k X.A)(hg:Gl X nm)(hm:X.mg nm=some (.ref f))(hk:PySem.W.keepIn X.K (.ref f)=true)(hb:Binds X.K fd ps [])
  (ha:SA X (e::es) m) (hl:kg m n) (hdb:(nm==("__debug__":Str))=false:=by ac_nf) (he:starEach (e::es) X.env=(false,eval e X.env)::starEach es X.env:=by ac_nf) (hpl:(backTo pos (starEach es X.env)).any (·.1)=false:=by ac_nf):
  XE X E (.Call (.Name nm p) (e::es) [] pos) (E8 F m):=(zQ (E:=E) G hr hg hm hk hb .nil hp ha hdb he hpl).imp λσ H Q ⟨ρ,δ,h,c,h',R,S,z,q⟩=>by
 obtain⟨⟨ds,h1⟩,e1,e2⟩:=bE z;refine⟨ρ,δ,h,ds,h1,R,S,e1,λvs ρ1 H1 T1 S1 r1=>?_⟩;show Lr X.K X.mg n F (vs++[]) H1 Q E;rw[Qu];exact⟨ρ1,h1,ds,c,h',S1,r1,hl _ _ _ _ e1,e2,q.step T1⟩
end
section
variable {P:Program} {w:World} {K:FR} {mg:Str->Option Value} {base:Heap} {N:List Str} {qual:Str} {scope:Scope} {f:Addr} {cd:Value} {A:Around} {outer:List Env} {s₀:Shared} {H₀:Hp} {E:XK}
theorem B7{nm:Str}{C:Addr}{a:Expr}{np cpos pos:Pos}{ma:EM}(O:E4 mg base nm C)(hg:Gl (eQ (iu P w) P w K mg base N qual scope f cd A outer s₀ H₀ E) nm)(ha:SE (eQ (iu P w) P w K mg base N qual scope f cd A outer s₀ H₀ E) a ma)
  (he:starEach [a] (envOfC qual scope s₀.heap.objs.size f cd)=[(false,eval a (envOfC qual scope s₀.heap.objs.size f cd))]:=by ac_nf) (hdb:(nm==("__debug__":Str))=false:=by ac_nf):
  XS (eQ (iu P w) P w K mg base N qual scope f cd A outer s₀ H₀ E) E (.Raise (some (.Call (.Name nm np) [a] [] cpos)) none pos) (nj nm (ag ma aM)):=
 (Ds O hg (aa ha aq he) he hdb).imp λD σ H ⟨ρ,δ,h,c,h',R,S,z,k⟩=>by
  obtain⟨⟨ds,h1⟩,e1,e2⟩:=P5.mp z;cases e2;refine⟨ρ,δ,h,ds,h1,R,S,e1,λvs ρ1 H1 T1 S1 r1=>⟨?_,k _ ρ1 H1 O.own.bound T1 S1⟩⟩;rw[r1.length];obtain⟨⟨d,h2⟩,f1,f2⟩:=bE e1;cases f2;exact(by decide:1<=sizeLine)
end
section
variable {P:Program} {w:World} {K:FR} {mg:Str->Option Value} {base:Heap} {x qual:Str} {st:Stmt} {f:Addr} {fd:FuncData} {N ps:List Str} {k:Nat} {body:XM}
theorem JT(F:sC K x qual st f fd)(Sc:aB N ps (ah st))(hb:∀(cdv:Value)(A:Around)(outer:List Env)(s:Shared)(H:Hp)(E:XK),cF k (A.deeper (envOfC qual (ah st) s.heap.objs.size f cdv))->N.Nodup->Fg (eQ (iu P w) P w K mg base N qual (ah st) f cdv A outer s H E) E (cY st) body):
  eI P w K mg base (iu P w) (k+1) f fd ps (Lr K mg ps.length (Jv N.length body)):=by
 obtain⟨oc,od,kV,doc,pm,an,cdv,ct,osl,rfl,lk,hcd⟩:=F.ex;refine Eb lk hcd Sc (λvs H Q E h=>?_) λA outer s H vs Q E hr h=>?_
 ·obtain⟨ρ,h,ds,c,h',S,r,hl,_⟩:=h;rw[r.length];exact hl
 ·obtain⟨ρ,h,ds,c,h',S,r,hl,e,q⟩:=h;exact⟨_,hb cdv A outer s H E hr Sc.nd,ρ,entry N.length ds,h,c,h',cI.entry N r,S,e,q⟩
end
end Sm
namespace L2
open PySem PySem.Spec PyProof.Rows PySem.F
def xZ(h:Heap)(C:Addr)(bm:List Value):Prop:=∃nm q N bs hdct sn sub ab col dd k0 k1 k2 k3 k5 newId,h.get? C=some (excClassObj nm q C N bs bm hdct sn sub ab col dd k0 k1 k2 k3 k5 newId)
section
variable {M:Model} {A:Around} {E:Value->Shared->Prop}
theorem KY{h:Heap}{g:Array GenState}{d:Drawn}{t:Nat}{os:OsState}{e C D:Addr}{oe:Obj}{bm bmC:List Value}{Q:Bool->Shared->Prop}
  (hD:xZ h D bm) (hC:xZ h C bmC) (he:h.get? e=some oe) (hcls:oe.cls=.ref D) (hbase:bmC.contains (.type "BaseException")=true) {b:Bool} (hb:(Value.ref D::bm).contains (.ref C)=b)
  (hq:Q b ⟨h,g,d,t,os⟩):wpAny M A (excMatches (.ref e) (.ref C)) Q E ⟨h,g,d,t,os⟩:=by
 obtain⟨_,_,_,_,_,_,_,_,_,_,_,_,_,_,_,_,hD⟩:=hD;obtain⟨_,_,_,_,_,_,_,_,_,_,_,_,_,_,_,_,hC⟩:=hC;have hcB:(Value.ref C::bmC).contains (.type "BaseException")=true:=by rw[List.contains_cons,hbase,Bool.or_true]
 have f:=tc_notTuple;unfold excMatches
 repeat(first |(with_reducible refine Tq he ?_;rw[hcls]) | with_reducible refine Tq hC ?_ | with_reducible refine Tq hD ?_ |(with_reducible refine wpAny_isSubtype_exc hC ?_;rw[hcB]) |(with_reducible refine wpAny_isSubtype_exc hD ?_;rw[hb]) | wp_step)
 cases b with
 | true=>repeat(first | exact hq | wp_step)
 | false=>repeat(first | exact hq | wp_step)
end
end L2
namespace L2
open PySem PySem.Spec PySem.W PySem.Calls PyProof.Rows Builtin Builtin.ObjectAttr Builtin.Getset_descriptor
section
variable {prog:Program} {w:World} {A:Around} {E:Value->Shared->Prop} {s:Shared} {K:Frag} {x D:Addr}
structure XQ(K:Frag)(D:Addr):Prop where
 ga:findIn K (.ref D) "__getattribute__"=some (some (.builtin "BaseException.__getattribute__"))
 gr:findIn K (.ref D) "__getattr__"=some none
 cl:findIn K (.ref D) "__class__"=some (some (.builtin "object.__class__"))
 ob:mroIn K D (.type "object")=some true
 be:mroIn K D (.type "BaseException")=some true
theorem yd.type{M:Model}{h:Heap}(I:yd h x D):Looks M h (typeOf (.ref x)) (.ref D):=by
 obtain⟨o,h1,h2⟩:=I;exact h2 ▸ (Looks.ld h1).andThen .now
theorem HG{R:Result->Shared->Prop}{tp:Value}(X:K.In s.heap)(I:yd s.heap x D)(hm:mroIn K D (.type "object")=some true)(h:R (.ok (.ret (.ref D))) s):
  codeAny (model prog w) A (.call (.builtin "getset_descriptor.__get__") ⟨[.builtin "object.__class__",.ref x,tp],[]⟩) R s:=by
 obtain⟨hh,g,dr,t,os⟩:=s;have L0:=I.type (M:=model prog w);have L1:=looks_mroIn (M:=model prog w) X hm;refine codeAny_call_builtin KF.slot_gs.plain KF.entry_gs (KF.slot_gs.check _ _ _ _ _ _ _ _ KF.type_class (KF.args_gs _ _ _) ?_);unfold Builtin.«getset_descriptor.__get__» descrGet;rw[dga_obj];refine Pu (PZ ?_);unfold descrGetter descrCheckInstance descrNameAndClass isInstance;simp only[KF.owner_class]
 repeat lk
 refine⟨Code.quiet_builtin _ (by decide+kernel),codeAny_builtin KF.entry_class ?_⟩;unfold Builtin.«object.__class__» shownTypeOf
 repeat lk
 exact h
theorem Ce{tk:Tok}{Q:Fin->Shared->Prop}(C:XQ K D)(X:K.In s.heap)(I:yd s.heap x D)(hq:Q (.done (.ret (.ref D))) s):
  wpAny (model prog w) A (Builtin.«object.__getattribute__» ⟨[.ref x,.str "__class__" tk],[]⟩) Q E s:=by
 obtain⟨h,g,d,t,os⟩:=s;have L0:=I.type (M:=model prog w);have L1:=looks_findIn (M:=model prog w) X C.cl;unfold Builtin.«object.__getattribute__»
 repeat(any_goals (first | assumption | lk | wp_step))
 show wpAny _ _ (run (.call (.builtin "getset_descriptor.__get__") ⟨[.builtin "object.__class__",.ref x,.ref D],[]⟩) none) _ _ _;refine wpAny_run (HG X I C.ob ?_);exact PZ (PZ hq)
theorem Cg{M:Model}{nameV:Value}{Q:Unit->Shared->Prop}(C:XQ K D)(X:K.In s.heap)(I:yd s.heap x D)(hq:Q () s):wpAny M A (checkBuiltinCall "BaseException.__getattribute__" ⟨[.ref x,nameV],[]⟩) Q E s:=by
 obtain⟨h,g,d,t,os⟩:=s;have hk:builtinKind "BaseException.__getattribute__"=some .slot:=by decide+kernel
 have hsplit:splitId "BaseException.__getattribute__"=some ("BaseException","__getattribute__"):=by decide+kernel
 have ha:=F.args_bexc_ga (.ref x) nameV;have L0:=I.type (M:=M);have L1:=looks_mroIn (M:=M) X C.be;simp only[checkBuiltinCall,hk,hsplit];refine Pu ?_
 ·unfold isInstance
  repeat(first | lk | wp_step)
  exact hq
theorem K0{tk:Tok}{fill expr:Bool}{Q:Value->Shared->Prop}(C:XQ K D)(X:K.In s.heap)(I:yd s.heap x D)(hq:Q (.ref D) s):
  wpAny (model prog w) A (getAttrBy (.ref x) (.str "__class__" tk) fill expr) Q E s:=by
 obtain⟨h,g,d,t,os⟩:=s;have hx0:(expr&&onTheHeap (Value.builtin "BaseException.__getattribute__"))=false:=by cases expr <;> rfl
 have hx2:(Value.builtin "BaseException.__getattribute__"==Value.builtin "object.__getattribute__")=false:=by decide+kernel
 have hx1:(onTheHeap (Value.ref D)&&Value.builtin "BaseException.__getattribute__"==Value.builtin "object.__getattribute__")=false:=by rw[hx2];rfl
 have f3:=F.excAttr_ValueError.ga.bind (.ref x);have L0:=I.type (M:=model prog w);have L1:=looks_findIn (M:=model prog w) X C.ga;have L2:=looks_findIn (M:=model prog w) X C.gr;unfold getAttrBy
 repeat(any_goals (first | assumption | lk | wp_step))
 show wpAny _ _ (Sem.attempt (holding _ (callGetattribute (.ref x) (.str "__class__" tk) (.builtin "BaseException.__getattribute__") expr))) _ _ _;refine Th (R6 ?_);unfold callGetattribute
 repeat(any_goals (first | assumption | lk | wp_step))
 show wpAny _ _ (run (.call (.builtin "BaseException.__getattribute__") ⟨[.ref x,.str "__class__" tk],[]⟩) none) _ _ _;refine wpAny_run (codeAny_call_builtin F.attrBase_ValueError.ga.plain F.entry_bexc_ga (Cg C X I (Ce C X I ?_)));exact PZ (handed_on rfl hq)
theorem Cf{Q:Option Value->Shared->Prop}(C:XQ K D)(X:K.In s.heap)(I:yd s.heap x D)(h:Q (some (.ref D)) {s with toks:=s.toks+1}):wpAny (model prog w) A (getAttr? (.ref x) "__class__") Q E s:=by
 obtain⟨hh,g,d,t,os⟩:=s;unfold getAttr? getAttrBy?;refine Pu (wpAny_mkText (Pu (Th (K0 (s:=⟨hh,g,d,t+1,os⟩) C X I ?_))));exact PZ h
end
theorem D6{K:Frag}{x D:Addr}(C:XQ K D)(hdct:(clsIn K D).isSome=true):KitX K (.ref x) (.ref D) (λh=>yd h x D) where
 ty:=λ_ _ _ I=>I.type
 it:=λ_ _ X _=>by
  obtain⟨cdD,hcD⟩:=Rg.mp hdct;unfold clsIn at hcD
  split at hcD
  ·rename_i c' d' cd' sl' ho;intro A' Q' E' s' k q;unfold isType loadHead;exact Pu (wpAny_loadPart (k _ _ (X _ _ ho)) (PZ q))
  ·cases hcD
 ne:=λh tp dd its n sl X htp=>by
  obtain⟨cdD,hcD⟩:=Rg.mp hdct;refine Bool.eq_false_iff.mpr λq=>?_;have e:D=tp:=Value.ref.inj (QX.mp q);subst e;unfold clsIn at hcD
  split at hcD
  ·rename_i c' d' cd' sl' ho;have z:=(X _ _ ho).symm.trans htp;cases z
  ·cases hcD
 ca:=λX I k=>Cf C X I k
theorem yZ{prog:Program}{w:World}{A:Around}{E:Value->Shared->Prop}{s:Shared}{Q:Value->Shared->Prop}{K:Frag}{x D:Addr}{c:Value}{b:Bool}(C:XQ K D)(hdct:(clsIn K D).isSome=true)(X:K.In s.heap)(I:yd s.heap x D)(e:kitOne K (.ref D) c=some b)
  (h:∀tk,Q (.bool b) {s with toks:=tk}):wpAny (model prog w) A (call (.builtin "isinstance") [.ref x,c]) Q E s:=kia_one (D6 C hdct) X I e (λz=>nomatch z) h
end L2
namespace L2
open PySem PySem.Spec PyProof.Rows
section
variable {X:Cx} {pins:List (Addr×Obj)} {σ:St} {H:Hp} {s s':Shared} {E:XK} {e:Value} {L:Addr} {rest:List Env}
theorem sh(I:Inv X pins σ H s)(hs:X.stack=X.env::rest)(hf:X.env.frame=some L)(h:iu X.prog X.w X.stack H s E e s'):
  ∃x C H',e=.ref x/\E C none H'/\∀{M:Model} {B:Around} {F:Value->Shared->Prop} {Q:Unit->Shared->Prop},B.frames=some X.stack->
   (∀s3,Inv X pins σ H' s3->(∃o vs,s3.heap.get? x=some o/\o.cls=C/\o.data=.fields vs)->H' x=none->s.heap.get? x=none->
    (∀{M':Model} {B':Around} {F':Value->Shared->Prop} {Q':Unit->Shared->Prop},(∀s4,Inv X pins σ H' s4->(∃o vs,s4.heap.get? x=some o/\o.cls=C/\o.data=.fields vs)->Q' () s4)->wpAny M' B' (setFlight (.ref x) none) Q' F' s3)->Q () s3)->
   wpAny M B (noteFrame (.ref x) X.env) (λ_ s2=>wpAny M B (setFlight (.ref x) none) Q F s2) F s':=by
 obtain⟨x,T,C,H',rfl,nx,nT,hx,hT,⟨oe,vs,oT,tr,he,hc,hd,h1,hTx,hgT,hdT,h3⟩,os,bare,un,ba,q⟩:=h;have J:Inv X pins σ H' s':=I.call' os un ba bare λb z=>(nomatch z);refine⟨x,C,H',rfl,q,λ{M B F Q} hfr k=>?_⟩;have h0:vs[0]?=some (vs[0]'(S9 (by decide) (Sa.mp h1).1)):=Array.getElem?_eq_getElem _;have hide:∀b,b∈[x,T]++j4 X.stack->(PySem.W.hideAll s'.heap ([x,T]++j4 X.stack)).get? b=none:=λb hb=>QU _ hb;have FL:Heap.FlyingW (PySem.W.hideAll s'.heap ([x,T]++j4 X.stack)) (X.env::rest) x C (vs[0]'(S9 (by decide) (Sa.mp h1).1)) s'.heap:=
  ⟨λb o eb=>R7 _ eb,hide x (QH _ Px),hs ▸ p0 J.stack (λb hb=>hide b (P7 _ hb)),oe,vs,T,oT,tr,he,⟨hc,h0⟩,hd,h1,hide T (QH _ (Pz _ Px)),hTx,hgT,hdT,h3⟩
 have fr:∀b∈j4 X.stack,H' b=none:=J.pU;have sx:∀b o,s.heap.get? b=some o->b≠x/\b≠T:=λb o eb=>⟨λz=>(by rw[z,nx] at eb;cases eb),λz=>(by rw[z,nT] at eb;cases eb)⟩;have fin:∀h3',Heap.FlyingW (PySem.W.hideAll s'.heap ([x,T]++j4 X.stack)) (X.env::rest) x C (vs[0]'(S9 (by decide) (Sa.mp h1).1)) h3'->s'.heap.UpToSlots h3'->
   Inv X pins σ H' {s' with heap:=h3'}/\∃o vs,h3'.get? x=some o/\o.cls=C/\o.data=.fields vs:=λh3' fl U=>by
  obtain⟨st,_,ff,tr⟩:=fl;have keep:∀b o,s'.heap.get? b=some o->b≠x->b≠T->b∉j4 X.stack->h3'.get? b=some o:=λb o eb n1 n2 n3=>st b o (RW _ eb λz=>by
   rcases PX.mp z with z | z
   ·rcases PB.mp z with z | z
    ·exact n1 z
    ·exact n2 (PD.mp z)
   ·exact n3 z)
  refine⟨I.call' (ch:=[]) os ⟨λb o eb n hb hx'=>keep b o (un.keep b o eb n hb hx') (sx b o eb).1 (sx b o eb).2 hb,λb o eb n hb hx'=>?_,un.free,λb o eb hx'=>?_,un.nu,un.mE,un.nv⟩ (λb u eb=>?_) bare λb z=>(nomatch z),?_⟩
  ·obtain⟨sl1,e1⟩:=un.slot b o eb n hb hx';obtain⟨_,o',eo,hn⟩:=J.stack.mem hb;rw[e1] at eo;cases eo;obtain⟨sl2,e2⟩:=U b _ e1 hn;exact⟨sl2,e2⟩
  ·obtain⟨o1,e1⟩:=un.there b o eb hx'
   by_cases z:b∈j4 X.stack
   ·obtain⟨_,o',eo,hn⟩:=J.stack.mem z;obtain⟨sl2,e2⟩:=U b _ eo hn;exact⟨_,e2⟩
   ·exact⟨_,keep b _ e1 (sx b o eb).1 (sx b o eb).2 z⟩
  ·refine(ba b u eb).nz (λc v hc' q'=>?_) (λ_ q'=>q') λ_ _ q'=>q';have:∃u,H' c=some u:=by
    rcases hc' with rfl | hc'
    ·exact⟨u,eb⟩
    ·exact⟨_,hc'⟩
   obtain⟨u',eu⟩:=this;exact keep c v q' (λz=>by rw[z,hx] at eu;cases eu) (λz=>by rw[z,hT] at eu;cases eu) λz=>by rw[fr c z] at eu;cases eu
  ·obtain⟨oe',vs',_,_,_,he',hc',hd',_⟩:=tr;exact⟨oe',vs',he',hc'.1,hd'⟩
 refine wpAny_looks_onW (hs ▸ hfr) hf FL λh2 hh u1=>wpAny_landsW hh λh3' fl u2=>?_;obtain⟨J3,x3⟩:=fin h3' fl (u1.trans u2);refine k _ J3 x3 hx nx λ{M' B' F' Q'} k'=>?_;obtain⟨st,fb,ff,tr⟩:=id fl;refine wpAny_setFlight_noneW (s:={s' with heap:=h3'}) st ff tr λh4' k1 k2 k3 k4=>?_;obtain⟨J4,x4⟩:=fin h4' ⟨k1,fb,k2,k3⟩ ((u1.trans u2).trans λb o hb hn=>⟨o.slots,k4 b o hb hn⟩);exact k' _ J4 x4
end
end L2
namespace L2
open PySem PySem.Spec PySem.Calls PyProof.Rows
section
variable {prog:Program} {w:World} {A:Around} {E:Value->Shared->Prop} {s:Shared} {env:Env}
theorem By{e C D:Addr}{bm bmC:List Value}{t:Expr}{n:Str}{b₀:Stmt}{suite:List Stmt}{pos:Pos}{rest:List ExceptHandler}{Q:Flow->Shared->Prop}(hbase:bmC.contains (.type "BaseException")=true)(hb:(Value.ref D::bm).contains (.ref C)=true)
  (h:wpAny (model prog w) (A.mark (some (.ref e))) (eval t env) (λc s₁=>c=.ref C/\xZ s₁.heap D bm/\xZ s₁.heap C bmC/\(∃oe,s₁.heap.get? e=some oe/\oe.cls=.ref D)/\
   wpAny (model prog w) (A.mark (some (.ref e))) (setFlight (.ref e) none) (λ_ s₂=>
     wpAny (model prog w) (A.mark (some (.ref e))) (storeName env n (.ref e)) (λ_ s₃=>
      wpAny (model prog w) (A.mark (some (.ref e))) (execs (b₀::suite) env)
       (λf s₄=>wpAny (model prog w) A (do bindName env n .none;unbindBehindTheSuite env n pos) (λ_ s₅=>Q f s₅) E s₄)
       (AsSuiteRaised (model prog w) (A.mark (some (.ref e))) env n pos (notedBy (model prog w) (A.mark (some (.ref e))) env (cameBackBy (model prog w) A env E))) s₃) (notedBy (model prog w) (A.mark (some (.ref e))) env (cameBackBy (model prog w) A env E)) s₂) (notedBy (model prog w) (A.mark (some (.ref e))) env (cameBackBy (model prog w) A env E)) s₁) (notedBy (model prog w) (A.mark (some (.ref e))) env (cameBackBy (model prog w) A env E)) s):
  wpAny (model prog w) A (handleBy (.ref e) env (.ExceptHandler (some t) (some n) (b₀::suite) pos::rest)) Q E s:=by
 refine wpAny_handleBy_cons (codeAny_handlers_test (Qr h (λc s₁ h₁=>?_) λ_ _ y=>y)) (by intro q;cases q);obtain⟨rfl,OD,OC,⟨oe,he,hcls⟩,hk⟩:=h₁;obtain⟨hh,g,d,tk,os⟩:=s₁;exact KY OD OC he hcls hbase hb (codeAny_handlers_suite_as hk)
end
abbrev Cx.Fe(X:Cx)(v:Value)(E:Value->Shared->Prop):Cx:={X with A:=X.A.mark (some v),calm:=false,xe:=E}
section
variable {X:Cx} {v:Value} {E:Value->Shared->Prop} {pins:List (Addr×Obj)} {σ:St} {H:Hp} {s:Shared}
theorem Cx.Ok.Fe(ok:X.Ok):(X.Fe v E).Ok:=
 ⟨ok.mod,ok.kind,ok.glob,ok.blt,ok.above,ok.inj,ok.has,ok.KR,(λz=>nomatch z),ok.frames,ok.Lo,ok.Oj,ok.bs,ok.Ff,ok.Bk,ok.Es,ok.nV,ok.Ho⟩
theorem Inv.Fe(I:Inv X pins σ H s):Inv (X.Fe v E) pins σ H s:=⟨I.ok.Fe,I.os,I.bare,I.base,I.loc,I.cell,I.free,I.fX,I.pin,I.ba,I.len⟩
theorem Inv.N7(I:Inv X pins σ H s){s':Shared}{σ':St}{H':Hp}(J:Inv (X.Fe v E) pins σ' H' s'):Inv X pins σ' H' s':=⟨I.ok,J.os,J.bare,J.base,J.loc,J.cell,J.free,J.fX,J.pin,J.ba,J.len⟩
end
section
variable {X:Cx} {pins:List (Addr×Obj)} {σ:St} {H:Hp} {s:Shared}
theorem AJ{M:Model}{A:Around}{E:Value->Shared->Prop}{i:Nat}{x:Str}{v:V}{Q:Unit->Shared->Prop}(I:Inv X pins σ H s)(hN:X.N.Nodup)(hi:X.N[i]?=some x)(hk:X.env.scope.names.lookup x=some .local)(hv:σ[i]?=some (some v))
  (h:∀s',Inv X pins (σ.set i none) H s'->Q () s'):wpAny M A (unbindName X.env x) Q E s:=by
 obtain⟨m,hn,hl⟩:=id I.loc;have hcls:(X.env.scope.kind==.class||(X.env.scope.kind==.module&&X.env.locals !=X.env.globals))=false:=by rw[I.ok.kind];rfl
 have hiσ:i < σ.length:=by rw[I.len];exact(Pq.mp hi).1
 have EF:=I.EF;have tracked:∀{a:Addr} {h':Heap},(∃o,s.heap.get? a=some o/\H a=none)->Heap.SameBut a s.heap h'->j8 X.prog X.w H h':=λ{a h'} ha hs b ob e=>by
  obtain⟨_,_,hfree⟩:=ha;refine(I.ba b ob e).nz (λc w' hc q=>(hs.2 c ?_).trans q) (λ_ q=>q) λ_ _ q=>q;rintro rfl;rcases hc with rfl | hc
  ·rw[hfree] at e;cases e
  ·rw[hfree] at hc;cases hc
 obtain⟨u0,_,q0⟩:=hl i x v hi hv (.inl hk);have hm:m x=some u0:=by
  rcases q0 with⟨_,e⟩ |⟨k,_⟩
  ·exact e
  ·have hk':X.env.kindOf x=some .local:=hk;rw[hk'] at k;rcases k with k | k <;> cases k
 refine wpAny_unbindName_local (m:=m) hk hn hm hcls λh' u' hn' hs=>?_;obtain⟨oL,_,_,hoL,_⟩:=id hn;refine h _ ⟨I.ok,I.os,I.bare,⟨λb o e n hb hx=>?_,λb o e n hb hx=>?_,I.base.free,λb o e hx=>?_,I.base.nu,I.base.mE,I.base.nv⟩,⟨_,hn',λj y v' e1 e2 e3=>?_⟩,λy c e=>?_,I.free,I.fX,λp hp=>?_,tracked ⟨oL,hoL,I.free⟩ hs,by simpa using I.len⟩
 ·exact(hs.2 b (P9 (P2 (PU e) I.ok.above))).trans (I.base.keep b o e n hb hx)
 ·obtain⟨sl,e1⟩:=I.base.slot b o e n hb hx;exact⟨sl,(hs.2 b (P9 (P2 (PU e) I.ok.above))).trans e1⟩
 ·obtain⟨o',e1⟩:=I.base.there b o e hx;exact⟨o',(hs.2 b (P9 (P2 (PU e) I.ok.above))).trans e1⟩
 ·by_cases hj:j=i
  ·subst hj;rw[Qf hiσ] at e2;cases e2
  ·rw[Qo (Q0 hj)] at e2;obtain⟨u',r',q⟩:=hl j y v' e1 e2 e3;refine⟨u',r',?_⟩;rcases q with⟨k,e⟩ |⟨k,c,e,z⟩
   ·refine .inl ⟨k,?_⟩;have:y≠x:=λe=>hj (rg hN e1 (e ▸ hi));simp[this,e]
   ·exact .inr ⟨k,c,e,z.sameBut hs (EF y c e)⟩
 ·obtain⟨w',z⟩:=I.cell y c e;exact⟨w',z.sameBut hs (EF y c e)⟩
 ·obtain⟨e,n,ne,nf,d⟩:=I.pin p hp;exact⟨(hs.2 p.1 ne).trans e,n,ne,nf,d⟩
end
end L2
namespace L2
open PySem PySem.Spec PySem.W PySem.Calls PyProof.Rows
structure B2(K:Frag)(mg:Str->Option Value)(cd:Value)(P:Addr):Prop where
 hd:∃c o vs file tf flags tg inF text tt,cd=.ref c/\K.lookup c=some o/\o.cls=.type "code"/\o.data=.fields vs/\vs[11]?=some (.ref P)/\vs.getD 11 .none=.ref P/\vs.getD 18 .none=.str file tf/\
  vs.getD 7 .none=.int flags tg/\vs.getD 9 .none=.bool inF/\vs.getD 10 .none=.int text tt/\c≠P
 tab:ij K P
 bm:∃bm ob,mg "__builtins__"=some (.ref bm)/\bm≠builtinsNs/\K.lookup bm=some ob/\ob.cls=.type "module"/\ob.dict=some builtinsNs/\ob.data=.plain
theorem zk{pos:Pos}{x c:Value}{a b:Int}:∀(l:List Value),TriplesOk l->codeAmong pos (l++[rawInt a,rawInt b,c])=some x->codeAmong pos l=some x\/x=c:=by
 intro l
 fun_induction TriplesOk l with
 | case1=>
  intro _ h;right;simp only[QC,codeAmong,rawInt] at h
  split at h
  ·exact(Option.some.inj h).symm
  ·cases h
 | case2 a' t b' u y rest ih=>
  intro ht h;simp only[Qv,codeAmong] at h ⊢
  split at h
  ·left;rename_i hc;rw[Py hc];exact h
  ·rename_i hc;rw[PH hc];exact ih ht h
 | case3 l h1 h2=>exactλh=>h.elim
section
variable {X:Cx} {pins:List (Addr×Obj)} {σ:St} {H:Hp} {s:Shared} {P:Addr} {params:Arguments} {body:Expr} {scope:Scope} {pos:Pos} {cl:List (Str×Addr)} {Q:Value->Shared->Prop} {E:Value->Shared->Prop}
structure O3(K:Frag)(mg:Str->Option Value)(P:Addr)(params:Arguments)(body:Expr)(scope:Scope)(cl:List (Str×Addr))(H:Hp)(f:Addr):Prop where
 ex:∃qn c' ctv oc vs q t,H f=some (.pd (kla_obj "<lambda>" qn params body scope cl ((mg "__name__").getD .none) c' ctv) (.own f))/\H c'=some (.pd oc (.own P))/\oc.data=.fields vs/\vs[1]?=some (.str q t)
theorem JE(I:Inv X pins σ H s)(L:B2 X.K X.mg X.env.code P)(tP:H P=some .tb)(hd:defaultsOf params X.env=([],[]))(hcl:closureFor scope X.env=pure cl)
  (h:∀s' H' f,Inv X pins σ H' s'->(∀b o,H b=some o->H' b=some o)->(∀b,s.heap.objs.size<=b\/H' b=H b)->s.heap.objs.size<=f->O3 X.K X.mg P params body scope cl H' f->Q (.ref f) s'):
  wpAny (model X.prog X.w) X.A (eval (.Lambda params body scope pos) X.env) Q E s:=by
 obtain⟨c,oc,vsc,file,tf,flags,tg,inF,text,tt,ec,hc,c1,c2,c3,c4,c5,c6,c7,c8,c9⟩:=L.hd;have C:CodeHd s.heap c P:=⟨oc,vsc,file,tf,flags,tg,inF,text,tt,I.z5 _ _ hc,c1,c2,c3,c4,c5,c6,c7,c8,c9⟩;obtain⟨ps,hP,ht,hcodes⟩:=(show cf X.prog X.w H s.heap P .tb from I.ba P _ tP);have hg:s.heap.Ns mainGlobals X.mg:=I.mod.glob.keeps I.bk;obtain⟨bm,ob,b1,b2,b3,b4,b5,b6⟩:=L.bm;have hbm:=I.z5 _ _ b3;have hgP:mainGlobals≠P:=λq=>by
  obtain⟨o,es,ep,e,hd,_⟩:=hg;rw[q,hP] at e;cases e;cases hd
 have hbP:bm≠P:=λq=>by rw[q,hP] at hbm;cases hbm;cases b4
 have hbG:bm≠mainGlobals:=λq=>by
  obtain⟨o,es,ep,e,hd,_⟩:=hg;rw[<-q,hbm] at e;cases e;rw[hd] at b6;cases b6
 have hB:s.heap.BuiltinsAt X.mg P:=⟨bm,ob,b1,b2,hbG,hbP,hbm,b4,b5,b6⟩;refine kla_eval hd ?_;have old:∀b o,H b=some o->b < s.heap.objs.size:=λb o e=>I.ba.lt e;cases hf:codeAmong pos ps.toList with
 | some cv=>
  obtain⟨c',oc',vs',q',t',rfl,e1,e2,e3⟩:=hcodes pos cv hf;refine kla_makeFunctionHit (mg:=X.mg) hcl I.ok.glob hg ec C hP ht hf hB λctv h' tk hk hsz=>?_;have hn:H h'.objs.size=none:=I.ba.fresh hsz;refine h _ (upd H h'.objs.size (.pd (kla_obj "<lambda>" (X.env.qual++"<lambda>") params body scope cl ((X.mg "__name__").getD .none) c' ctv) (.own h'.objs.size))) _ (I.laid (t':=tk) (λb o e=>PC _ (hk b o e)) hsz ?_) (λb o e=>by rw[az (aN e hn)];exact e) (λb=>?_) hsz ⟨_,c',ctv,oc',vs',q',t',aR,by rw[az (aN e1 hn)];exact e1,e2,e3⟩
  ·exact⟨P8 _ rfl,_,P8 _ rfl⟩
  ·by_cases hb:b=h'.objs.size
   ·exact .inl (hb ▸ hsz)
   ·exact .inr (az hb)
 | none=>
  refine kla_makeFunction (mg:=X.mg) hcl I.ok.glob hg ec C hP ht hf hgP hB λc' ctv h' tk hx hge hlt hrec htb=>?_;obtain⟨c₂,oc',vs',t',e2,hoc,hd',hv⟩:=hrec;cases e2;have hPs:P < s.heap.objs.size:=PU hP;have hszf:s.heap.objs.size<=h'.objs.size:=PL hge (Rk hlt);have n1:H c'=none:=I.ba.fresh hge;have n2:H h'.objs.size=none:=I.ba.fresh hszf;have nf:c'≠h'.objs.size:=P9 hlt;generalize hfo:kla_obj "<lambda>" (X.env.qual++"<lambda>") params body scope cl ((X.mg "__name__").getD .none) c' ctv=fo;have hfr:fo.isFreed=false:=by rw[<-hfo];rfl
  have nn:∀{b o},H b=some o->upd (upd H c' (.pd oc' (.own P))) h'.objs.size (.pd fo (.own h'.objs.size)) b=some o:=λ{b o} e=>by
   rw[az (aN e n2),az (aN e n1)];exact e
  have nb:∀{b},b < s.heap.objs.size->upd (upd H c' (.pd oc' (.own P))) h'.objs.size (.pd fo (.own h'.objs.size)) b=H b:=λ{b} e=>by
   rw[az (P9 (P2 e hszf)),az (P9 (P2 e hge))]
  have kp:∀b o,b≠P->s.heap.get? b=some o->(h'.push fo).get? b=some o:=λb o hb e=>PC _ (hx b o hb e);have I':Inv X pins σ (upd (upd H c' (.pd oc' (.own P))) h'.objs.size (.pd fo (.own h'.objs.size))) {s with heap:=h'.push fo,toks:=tk}:=by
   refine I.step (g':=s.gens) (d':=s.drawn) (t':=tk) (ch:=[]) (λ_ z=>nomatch z) (λb o _ _ _ e n=>kp b o (λz=>by rw[z,tP] at n;cases n) e) (λb o _ _ _ e n=>⟨o.slots,kp b o (λz=>by rw[z,tP] at n;cases n) e⟩)
    (λb o _ e n=>by rw[nb (PU e)];exact n) (λb o _ e=>?_) (λb xs e=>nn e) (λb o u e=>nn e) (λb qs e=>⟨#[],by rw[nn e];simp⟩) (λm hm=>?_) (λb u e=>?_) I.bare
   ·by_cases hb:b=P
    ·exact⟨_,PC _ (hb ▸ htb)⟩
    ·exact⟨o,kp b o hb e⟩
   ·obtain⟨o,es,ep,ho,r⟩:=hm;exact⟨o,es,ep,kp _ o (λz=>by have:=I.free;rw[z,tP] at this;cases this) ho,r⟩
   ·by_cases h1:b=h'.objs.size
    ·subst h1;rw[aR] at e;cases e;exact⟨P8 _ hfr,_,P8 _ hfr⟩
    ·rw[az h1] at e
     by_cases h2:b=c'
     ·subst h2;rw[aR] at e;cases e;exact⟨PC _ hoc,_,PC _ hoc⟩
     ·rw[az h2] at e
      by_cases h3:b=P
      ·subst h3;rw[tP] at e;cases e;refine⟨_,PC _ htb,?_,λpos' x ex=>?_⟩
       ·rw[show(ps++#[rawInt pos.line,rawInt pos.col,Value.ref c']).toList=ps.toList++[rawInt pos.line,rawInt pos.col,.ref c'] by simp];exact TriplesOk_snoc _ _ _ _ ht
       ·rw[show(ps++#[rawInt pos.line,rawInt pos.col,Value.ref c']).toList=ps.toList++[rawInt pos.line,rawInt pos.col,.ref c'] by simp] at ex;rcases zk _ ht ex with z | z
        ·obtain⟨c₃,o₃,v₃,q₃,t₃,f1,f2,f3⟩:=hcodes pos' x z;exact⟨c₃,o₃,v₃,q₃,t₃,f1,nn f2,f3⟩
        ·exact⟨c',oc',vs',_,t',z,by rw[az nf,aR],hd',hv⟩
      ·refine(I.ba b u e).nz (λc v hc' q=>?_) (λ_ q=>nn q) (λ_ _ q=>nn q) λ_ _ q=>nn q;refine kp c v ?_ q;rcases hc' with rfl | hc'
       ·exact h3
       ·intro z;rw[z,tP] at hc';cases hc'
  refine h _ _ _ I' (λb o e=>nn e) (λb=>?_) hszf ⟨_,c',ctv,oc',vs',_,t',by rw[hfo];exact aR,by rw[az nf,aR],hd',hv⟩
  by_cases hb:b < s.heap.objs.size
  ·exact .inr (nb hb)
  ·exact .inl (Q4 hb)
end
abbrev GN(CX:AG)(P:Program)(w:World)(K:FR)(mg:Str->Option Value)(base:Heap)(N:List Str)(qual:Str)(scope:Scope)(cl:List (Str×Addr))(f:Addr)(cd:Value)(A:Around)(outer:List Env)(s:Shared)(H:Hp)(E:XK):Cx where
 prog:=P
 w:=w
 K:=K
 mg:=mg
 base:=base
 A:=A.deeper (envX qual scope s.heap.objs.size f cd cl)
 N:=N
 s₀:=s
 H₀:=H
 env:=envX qual scope s.heap.objs.size f cd cl
 outer:=outer
 stack:=envX qual scope s.heap.objs.size f cd cl::outer
 ex:=[]
 calm:=true
 fn:=λ_=>false
 pn:=[]
 xe:=λe s'=>wpAny (model P w) (A.deeper (envX qual scope s.heap.objs.size f cd cl)) (leaving (envX qual scope s.heap.objs.size f cd cl) e) (λ_ s''=>CX outer H s E e s'') (λe' s''=>CX outer H s E e' s'') s'
structure M0(H:Hp)(h:Heap)(N:List Str)(scope:Scope)(cl:List (Str×Addr))(σ:St):Prop where
 inj:∀x y c,cl.lookup x=some c->cl.lookup y=some c->x=y
 has:∀x,scope.names.lookup x=some .free->∃c,cl.lookup x=some c
 cell:∀x c,cl.lookup x=some c->H c=none/\∃v,h.IsCell c v
 val:∀(j:Nat) x v,N[j]?=some x->σ[j]?=some (some v)->∃u c,RelV v u/\scope.names.lookup x=some .free/\cl.lookup x=some c/\h.IsCell c (some u)
 len:σ.length=N.length
theorem M0.keep(C:M0 H h N scope cl σ)(k:∀b o,H b=none->h.get? b=some o->(∃sl,h'.get? b=some {o with slots:=sl})/\H' b=none):M0 H' h' N scope cl σ:=
 ⟨C.inj,C.has,λx c e=>by
  obtain⟨n,v,o,ho,hd⟩:=C.cell x c e;obtain⟨⟨sl,a⟩,b⟩:=k c o n ho;exact⟨b,v,_,a,hd⟩,λj x v e1 e2=>by
  obtain⟨u,c,r,f,l,o,ho,hd⟩:=C.val j x v e1 e2;obtain⟨⟨sl,a⟩,b⟩:=k c o (C.cell x c l).1 ho;exact⟨u,c,r,f,l,_,a,hd⟩,C.len⟩
structure sy(N:List Str)(sc:Scope):Prop where
 kind:sc.kind=.function
 co:sc.isCoroutine=false
 gen:sc.isGenerator=false
 rh:∀y∈sc.names,y.2≠.cell
section
variable {CX:AG} {P:Program} {w:World} {K:FR} {mg:Str->Option Value} {base:Heap} {N:List Str} {scope:Scope} {f Pt:Addr} {A:Around} {outer:List Env} {s:Shared} {H:Hp} {E:XK} {Q:VK} {params:Arguments} {body:Expr} {cl:List (Str×Addr)} {σ:St} {t:TE}
theorem D5(S:sy N scope)(hp:∀fd:FuncData,fd.params=params->fd.defaults=.none->fd.kwdefaults=.none->bindArgs fd ⟨[],[]⟩=pure [])(e0:E7 P w K mg base A outer s H)(hr:A.handled=none)(hdep:A.depth < recursionLimit)(F:O3 K mg Pt params body scope cl H f)(C:M0 H s.heap N scope cl σ)
  (hb:∀q cd,PE (GN CX P w K mg base N q scope cl f cd A outer s H E) body t) (ht:t σ H Q):
  codeAny (model P w) A (.call (.ref f) ⟨[],[]⟩) (CR CX outer P w H s Q E) s:=by
 obtain⟨qn,c',ctv,oc,vs,q,tk,h1,h2,h3,h4⟩:=F.ex;obtain⟨ho,_⟩:=(show cf P w H s.heap f _ from e0.ba f _ h1);obtain⟨hoc,_⟩:=(show cf P w H s.heap c' _ from e0.ba c' _ h2);have lim:s.heap.NoLimit:=e0.mod.nolimit.keeps λb o e=>(e0.bs b o e).1;refine codeAny_of_tree ?_;show wpAny _ A.in1 (callAny (.ref f) ⟨[],[]⟩) _ _ s;simp only[callAny];refine Pu (wpAny_load ho ?_);simp only[callFunction,S.co,S.gen];refine Pu (m:=field (.ref c') 1) (QS hoc h3 h4 (Pu (PZ ?_)));rw[hp _ rfl rfl rfl];refine Pu (PZ ?_);refine Pu (wpAny_newFunctionEnv S.rh (λx hx=>nomatch hx) (λh₁ hns hsb=>?_) S.kind);have hk₁:∀b o,s.heap.get? b=some o->h₁.get? b=some o:=λb o e=>hsb.extBut b o (P9 (PU e)) (PC _ e);refine Pu (wpAny_enterFrame (lim.keeps hk₁) hdep (PZ (And.intro rfl ?_)));show codeAny _ A (.expr body (envX q scope s.heap.objs.size f (.ref c') cl)) _ _;have noA:∀b:Addr,b∉(GN CX P w K mg base N q scope cl f (.ref c') A outer s H E).ex:=λb z=>absurd (show b∈([]:List Addr) from z) (by simp);have I:Inv (GN CX P w K mg base N q scope cl f (.ref c') A outer s H E) [] σ H {s with heap:=h₁,toks:=s.toks+([]:List (Str×Value)).length}:=by
  refine⟨⟨e0.mod,S.kind,rfl,rfl,Pw _,C.inj,λx hx=>?_,λy c h _=>absurd (show false=true from h) (by decide),λ_=>hr,Around.frames_deeper e0.frames,.inr ⟨rfl,rfl⟩,λb z=>absurd z (noA b),e0.bs,e0.Ff,λb _ _=>noA b,λb z=>absurd z (noA b),e0.nV,e0.Ho⟩,
   rfl,e0.bare,Un.kept hk₁,⟨_,hns,λj x v e1 e2 e3=>?_⟩,λx c e=>?_,e0.ba.fresh (Pw _),λx c e=>(C.cell x c e).1,λp hp=>absurd (show p∈([]:List (Addr×Obj)) from hp) (by simp),e0.ba.kept hk₁,C.len⟩
  ·have hx:scope.names.lookup x=some .cell\/scope.names.lookup x=some .free:=hx;rcases hx with z | z
   ·exact absurd rfl (S.rh _ (Qh z))
   ·exact C.has x z
  ·obtain⟨u,c,r,fr,l,o,ho',hd⟩:=C.val j x v e1 e2;exact⟨u,r,.inr ⟨.inr fr,c,l,o,hk₁ _ _ ho',hd⟩⟩
  ·obtain⟨_,v,o,ho',hd⟩:=C.cell x c e;exact⟨v,o,hk₁ _ _ ho',hd⟩
 refine kla_codeExpr (Qr (hb q (.ref c') [] _ σ H Q I ht) (λu s' hs=>?_) λe s' hs=>hs);obtain⟨v,H',J,rv,qv⟩:=hs;exact⟨v,H',J.os,J.bare,J.base,J.ba,rv,qv⟩
end
section
variable {X:Cx} {pins:List (Addr×Obj)} {σ:St} {H:Hp} {s:Shared}
theorem Inv.La{a:Addr}{u:HO}(I:Inv X pins σ H s)(n:H a=none)(h0:X.s₀.heap.get? a=none)(hd:∃o vs,s.heap.get? a=some o/\o.data=.fields vs)(hp:∀p∈X.pn++pins,p.1≠a)(new:cf X.prog X.w (upd H a u) s.heap a u):
  Inv X pins σ (upd H a u) s:=by
 obtain⟨oa,va,ha,hda⟩:=hd;have old:∀b o,X.s₀.heap.get? b=some o->b≠a:=λb o e z=>by rw[z,h0] at e;cases e
 have nn:∀{b o},H b=some o->upd H a u b=some o:=λ{b o} e=>by rw[az (aN e n)];exact e
 refine⟨I.ok,I.os,I.bare,⟨I.base.keep,I.base.slot,λb o e m hx=>?_,I.base.there,λb xs e=>nn (I.base.nu b xs e),λb o u e=>nn (I.base.mE b o u e),λb ps e=>?_⟩,I.loc,I.cell,?_,λx c e=>?_,λp hq=>?_,λb v e=>?_,I.len⟩
 ·rw[az (old b o e)];exact I.base.free b o e m hx
 ·obtain⟨more,e1⟩:=I.base.nv b ps e;exact⟨more,nn e1⟩
 ·obtain⟨m,⟨o,es,ep,ho,hdl,_⟩,_⟩:=I.loc;rw[az (λz=>by rw[z,ha] at ho;cases ho;rw[hda] at hdl;cases hdl)];exact I.free
 ·obtain⟨v,o,ho,hdc⟩:=I.cell x c e;rw[az (λz=>by rw[z,ha] at ho;cases ho;rw[hda] at hdc;cases hdc)];exact I.fX x c e
 ·obtain⟨e,m,r⟩:=I.pin p hq;exact⟨e,by rw[az (hp p hq)];exact m,r⟩
 ·by_cases z:b=a
  ·subst z;rw[aR] at e;cases e;exact new
  ·rw[az z] at e;exact(I.ba b v e).nz (λ_ _ _ q=>q) (λ_ q=>nn q) (λ_ _ q=>nn q) λ_ _ q=>nn q
theorem Ka{cn:Str}{f:Addr}{p1 p2:Pos}{i:Nat}{ho:Obj}{fd:FuncData}{Q:Value->Shared->Prop}{E:Value->Shared->Prop}(I:Inv X pins σ H s)(hN:X.N[i]?=some cn)(hv:KA X.env.scope cn)(hσ:σ[i]?=some (some (.ref f)))(hf:s.heap.get? f=some ho)(hd:ho.data=.func fd)
  (h:wpAny (model X.prog X.w) X.A (call (.ref f) []) Q E s) (hdb:(cn==("__debug__":Str))=false) (hcd:(cn==("__classdict__":Str))=false):
  wpAny (model X.prog X.w) X.A (eval (.Call (.Name cn p1) [] [] p2) X.env) Q E s:=by
 refine Rf ?_;obtain⟨m,hn,hl⟩:=I.loc;obtain⟨u,r,l⟩:=hl i cn _ hN hσ hv;obtain rfl:u=Value.ref f:=r;have fin:wpAny (model X.prog X.w) X.A (callWith p2 (.ref f) [] (backTo p2 (starEach [] X.env)) (backToKw p2 (keywordEach [] X.env))) Q E s:=by
  refine callWith_of (P:=λh=>∃o,h.get? f=some o/\o.data=.func fd) rfl (λh ⟨o,e1,e2⟩=>⟨.frame,.inl rfl,(Looks.ld (part:=none) e1).andThen ?_⟩) (evalArgs_nil3 ⟨⟨ho,hf,hd⟩,h⟩);rw[e2];exact .now
 rcases l with⟨hk,hm⟩ |⟨hk,c,hc,hcell⟩
 ·exact SK (wpAny_loadName_local I.ok.kind hk hn hm fin) hdb
 ·rcases hk with hk | hk
  ·exact SK (wpAny_loadName_cell I.ok.kind hk hc hcell fin) hdb
  ·exact SK (wpAny_loadName_free I.ok.kind hk hc hcell fin hcd) hdb
end
section
variable {X:Cx} {pins:List (Addr×Obj)} {σ:St} {H:Hp} {s:Shared}
theorem Cr{L:Addr}{rest:List Env}{cau en:Str}{CS:Addr}{p4 p5 p6 p7 p8 p9:Pos}{body:List Stmt}{Qn:Hp->Prop}{E1:XK}{Q:Flow->Shared->Prop}{E:Value->Shared->Prop}
  (I:Inv X pins σ H s) (hs:X.stack=X.env::rest) (hf:X.env.frame=some L) (hNd:X.N.Nodup) (h1:X.N[1]?=some cau) (h2:X.N[2]?=some en) (l1:X.env.scope.names.lookup cau=some .local) (l2:X.env.scope.names.lookup en=some .local)
  (hg:Gl X "StuckError") (hm:X.mg "StuckError"=some (.ref CS)) (hsw:swapsWith (.Name en p6) (some (.Name cau p5)) p7.line X.env=pure false) (hd:(en==("__debug__":Str))=false) (hcd:(en==("__classdict__":Str))=false)
  (hcall:wpAny (model X.prog X.w) X.A (execs body X.env) (λf s'=>f=.next/\∃H',Inv X pins σ H' s'/\Qn H') (λe s'=>iu X.prog X.w X.stack H s E1 e s') s)
  (hE:∀C H',E1 C none H'->∃D bm bmC,C=.ref D/\(∀h,X.K.In h->xZ h D bm/\xZ h CS bmC)/\bmC.contains (.type "BaseException")=true/\(Value.ref D::bm).contains (.ref CS)=true)
  (hz:∀b,s.heap.get? b=none->X.s₀.heap.get? b=none)
  (k1:∀s' H',Inv X pins σ H' s'->Qn H'->Q .next s')
  (k2:∀s' H' x D,Inv X pins ((((σ.set 2 (some (.ref x))).set 1 (some (.ref x))).set 2 (some .cj)).set 2 none) (upd H' x (.Al λ_ h=>yd h x D)) s'->E1 (.ref D) none H'->H' x=none->Q .next s'):
  wpAny (model X.prog X.w) X.A (exec (.Try body [.ExceptHandler (some (.Name "StuckError" p4)) (some en) [.Assign [.Name cau p5] (.Name en p6) p7] p8] [] [] p9) X.env) Q E s:=by
 refine wpAny_Try_except (Qr hcall (λf s' hq=>?_) λe s' hx=>?_)
 ·obtain⟨rfl,H',I',q⟩:=hq;exact RL (k1 _ _ I' q)
 ·obtain⟨x,C,H',rfl,e1,kk⟩:=sh I hs hf hx;refine kk I.ok.frames λs3 I3 fx nx n0 fl2=>?_;obtain⟨D,bm,bmC,rfl,ho,hb1,hb2⟩:=hE _ _ e1;obtain⟨o,vs,e3,e4,e5⟩:=fx;refine By hb1 hb2 ?_;refine jX (X:=X.Fe (.ref x) E) I3.Fe hg hm ?_;refine⟨rfl,(ho _ I3.z5).1,(ho _ I3.z5).2,⟨o,e3,e4⟩,fl2 λs4 I4 ⟨o4,vs4,f3,f4,f5⟩=>?_⟩;have I4':Inv X pins σ (upd H' x (.Al λ_ h=>yd h x D)) s4:=I4.La nx (hz x n0) ⟨o4,vs4,f3,f5⟩ (λp hp z=>by
   obtain⟨e,_⟩:=I.pin p hp;rw[z,n0] at e;cases e) ⟨⟨o4,f3,f4⟩,⟨o4,f3⟩,λh1 h2 ⟨o,a,b⟩ k=>⟨o,k o a,b⟩⟩
  have hl2:2 < σ.length:=by rw[I.len];exact(Pq.mp h2).1
  refine gP (v:=.ref x) I4' hNd h2 (.inl l2) rfl (λs5 I5=>?_) (.inr l2);refine Q7 (cM (yH (X:=X.Fe (.ref x) (AsSuiteRaised (model X.prog X.w) (X.A.mark (some (.ref x))) X.env en p8 (notedBy (model X.prog X.w) (X.A.mark (some (.ref x))) X.env (cameBackBy (model X.prog X.w) X.A X.env E)))) (i:=1) hNd h1 (.inl l1) (DA (i:=2) h2 (.inl l2) hd hcd) hsw (.inr l1) pins s5 _ _
   {nx:=λσ' H2=>σ'=(σ.set 2 (some (.ref x))).set 1 (some (.ref x))/\H2=upd H' x (.Al λ_ h=>yd h x D),rt:=λ_ _=>False,bk:=λ_ _=>False,ct:=λ_ _=>False} I5.Fe ⟨.ref x,by rw[Qf hl2],rfl,rfl⟩) λf s6 q=>?_)
  cases f with
  | ret v=>obtain⟨_,_,_,_,_,q⟩:=q;exact q.elim
  | brk=>obtain⟨_,_,_,q⟩:=q;exact q.elim
  | cont=>obtain⟨_,_,_,q⟩:=q;exact q.elim
  | next=>
   obtain⟨σ6,H6,I6,rfl,rfl⟩:=q;have I6:=I4.N7 I6;refine RL ?_;refine Pu (Ul (gP (v:=.cj) I6 hNd h2 (.inl l2) rfl (λs7 I7=>?_) (.inr l2)));unfold unbindBehindTheSuite;refine wpAny_onRaise (AJ (v:=.cj) I7 hNd h2 l2 (by rw[Qf];simpa using hl2) λs8 I8=>?_);exact k2 _ _ x D I8 e1 nx
end
section
variable {X:Cx} {pins:List (Addr×Obj)} {σ:St} {H:Hp} {s:Shared} {N':List Str} {caps:List (Option Nat)} {scope:Scope}
theorem Inv.cells(S:bC X N' caps scope)(I:Inv X pins σ H s):M0 H s.heap N' scope (fZ X.env scope.names []) (mP caps σ):=by
 refine⟨λx y c h1 h2=>I.ok.inj x y c (S.look I.ok h1) (S.look I.ok h2),λx h=>ic (env:=X.env) scope.names [] (Qh h),λx c e=>⟨I.fX x c (S.look I.ok e),I.cell x c (S.look I.ok e)⟩,λj x v e1 e2=>?_,by
  show(caps.map _).length=N'.length;rw[Pp];exact S.len⟩
 have e2':(caps.map λo=>o.bind λi=>(σ[i]?).join)[j]?=some (some v):=e2;rw[PR] at e2';cases hcj:caps[j]? with
 | none=>rw[hcj] at e2';cases e2'
 | some oi=>
  rw[hcj] at e2';have e2'':(oi.bind λi=>(σ[i]?).join)=some v:=Option.some.inj e2';cases oi with
  | none=>cases e2''
  | some i=>
   have hσ:(σ[i]?).join=some v:=e2'';have hσ':σ[i]?=some (some v):=by
    cases hs:σ[i]? with
    | none=>rw[hs] at hσ;cases hσ
    | some w=>rw[hs] at hσ;rw[show w=some v from hσ]
   obtain⟨hX,hfr⟩:=S.OS j i x hcj e1;obtain⟨m,_,hl⟩:=I.loc;have hcgt:=S.sh _ (Qh hfr) rfl;have hvis:KA X.env.scope x:=by
    rcases hcgt with z | z
    ·exact .inr (.inl z)
    ·exact .inr (.inr z)
   obtain⟨u,ru,lk⟩:=hl i x v hX hσ' hvis;obtain⟨c,hcc⟩:=ic (env:=X.env) scope.names [] (Qh hfr);refine⟨u,c,ru,hfr,hcc,?_⟩;rcases lk with⟨z,_⟩ |⟨_,c',hc',hcell⟩
   ·have z':X.env.kindOf x=some .local:=z;rcases hcgt with q | q
    ·rw[z'] at q;cases q
    ·rw[z'] at q;cases q
   ·have:=S.look I.ok hcc;rw[this] at hc';cases hc';exact hcell
end
abbrev wF(X:Cx)(ns:List Str)(fn:Str)(st:Stmt)(fr:Addr)(cdv:Value)(s1:Shared)(H1:Hp):Cx:=eQ ni X.prog X.w X.K X.mg X.base ns fn (ah st) fr cdv X.A X.stack s1 H1 λ_ _ _=>False
end L2
namespace Sm
open PySem L2 PySem.Spec PySem.W PySem.Calls PyProof.Rows
noncomputable def Cv(mt:SM)(c:Str)(h:MH):Option (D×MH):=((mt [none,some (.ob h.length),none,none] (h++[.exc c])).bind wY).bind λp=>leave h p.1 p.2
noncomputable def Lb(mt:SM)(h:MH):Option (D×MH):=((mt [none,some .cj,none,none] h).bind wY).bind λp=>leave h p.1 p.2
noncomputable def eA(cls:List Str)(caps:List (Option Nat))(mt:SM)(x:XM)(m:EM):EM:=λδ h=>match x (fH caps δ) h with
 | some (c,h')=>if c∈cls then Cv mt c h' else none
 | none=>(m (fH caps δ) h).bind λp=>Lb mt p.2
structure XC(K:Frag)(mg:Str->Option Value)(CS:Addr)(c:Str):Prop where
 ex:∃D bm bmC,mg c=some (.ref D)/\JS K c=some (.ref D)/\(∀h,K.In h->xZ h D bm/\xZ h CS bmC)/\bmC.contains (.type "BaseException")=true/\(Value.ref D::bm).contains (.ref CS)=true
section
variable {X:Cx} {fn cn cau en mk:Str} {fr CS Pt:Addr} {fd:FuncData} {st:Stmt} {tail:List Stmt} {mt:SM} {k:Nat} {x:XM} {m:EM} {Nl:List Str} {caps:List (Option Nat)} {scope:Scope} {params:Arguments} {body:Expr} {cls:List Str}
 {pa pb' pc p1 p2 p3 p4 p5 p6 p7 p8 p9 pn lpos pos:Pos} {j:Nat}
theorem yu(F:sC X.K fn fn st fr fd)(Sc:aB [cn,cau,en,mk] [cn] (ah st))(hmf:X.mg fn=some (.ref fr))(hkf:keepIn X.K (.ref fr)=true)
  (hbind:∀(s:Shared)(u:Value),BindsTo s fd ⟨[u],[]⟩ [(cn,u)])
  (hbody:cY st=.Assign [.Name cau pa] (.Constant .none j pb') pc::.Try [.Expr (.Call (.Name cn p1) [] [] p2) p3] [.ExceptHandler (some (.Name "StuckError" p4)) (some en) [.Assign [.Name cau p5] (.Name en p6) p7] p8] [] [] p9::tail)
  (l0:(ah st).names.lookup cn=some .local) (l1:(ah st).names.lookup cau=some .local) (l2:(ah st).names.lookup en=some .local) (lg:(ah st).names.lookup ("StuckError":Str)=some .globalImplicit)
  (hms:X.mg "StuckError"=some (.ref CS)) (hC:∀c∈cls,XC X.K X.mg CS c)
  (n0:(cn==("__debug__":Str))=false) (n0':(cn==("__classdict__":Str))=false) (n2:(en==("__debug__":Str))=false) (n2':(en==("__classdict__":Str))=false)
  (sw1:∀env,swapsWith (.Constant .none j pb') (some (.Name cau pa)) pc.line env=pure false) (sw2:∀env,swapsWith (.Name en p6) (some (.Name cau p5)) p7.line env=pure false) (sw3:∀env,swapsWith (.Call (.Name cn p1) [] [] p2) none p3.line env=pure false)
  (htail:∀(cdv:Value)(A:Around)(outer:List Env)(s:Shared)(H:Hp)(E:XK),cF (k+1) (A.deeper (envOfC fn (ah st) s.heap.objs.size fr cdv))->BZ (eQ ni X.prog X.w X.K X.mg X.base [cn,cau,en,mk] fn (ah st) fr cdv A outer s H E).DP tail mt)
  (hr:cF (k+2) X.A) (L:B2 X.K X.mg X.env.code Pt) (hd:defaultsOf params X.env=([],[])) (hp:∀fd:FuncData,fd.params=params->fd.defaults=.none->fd.kwdefaults=.none->bindArgs fd ⟨[],[]⟩=pure []) (LS:sy Nl scope) (C:bC X Nl caps scope)
  (hx:∀(q:Str)(cd:Value)(f:Addr)(cl:List (Str×Addr)) (A:Around) (outer:List Env) (s:Shared) (H:Hp) (E:XK),cF k (A.deeper (envX q scope s.heap.objs.size f cd cl))->XE (GN (iu X.prog X.w) X.prog X.w X.K X.mg X.base Nl q scope cl f cd A outer s H E) E body x)
  (hm:∀(q:Str)(cd:Value)(f:Addr)(cl:List (Str×Addr)) (A:Around) (outer:List Env) (s:Shared) (H:Hp) (E:XK),cF k (A.deeper (envX q scope s.heap.objs.size f cd cl))->SE (GN (iu X.prog X.w) X.prog X.w X.K X.mg X.base Nl q scope cl f cd A outer s H E) body m)
  (hg:Gl X fn) (hdb:(fn==("__debug__":Str))=false) (hst:starEach [.Lambda params body scope lpos] X.env=[(false,eval (.Lambda params body scope lpos) X.env)]):
  SE X (.Call (.Name fn pn) [.Lambda params body scope lpos] [] pos) (eA cls caps mt x m):=by
 intro pins s σ H Q I ⟨ρ,δ,h,d,h',R,S,ee,kq⟩;refine Rf (jX I hg hmf ?_ hdb);refine Uv (h₀:=X.base) (rest:=[]) I.ok.mod.Nc hkf ?_ hst (by rfl);rw[hst];show wpAny _ _ (spliced ((false,eval (.Lambda params body scope lpos) X.env)::backTo pos [])) _ _ s;have tP:H Pt=some .tb:=(S.tb Pt L.tab).2;refine Tn (JE I L tP hd (ll (C.has I.ok)) λs1 H1 f I1 hext hnew hfs Fl=>Tt ⟨I1.z5,?_⟩);have T1:df ρ H ρ H1:=⟨⟨λ_ _ e=>e,λb o n e=>⟨n,hext b o e⟩⟩,rfl,λb hb=>by
  obtain⟨u,e⟩:=(S.sH b hb).1;rw[e,hext b u e]⟩
 have S1:bM X.K ρ h H1:=S.same T1 λa ha=>by
  obtain⟨u,e⟩:=S.has (.inl ha);rw[e,hext a u e]
 have R1:cI X.K ρ H1 (mP caps σ) (fH caps δ):=(R.mono T1.toCh).mP caps;have Cl1:=I1.cells C;have e0:=I1.Kb;obtain⟨oc,od,kV,doc,pm,an,cdv,ct,osl,rfl,lk,hcd⟩:=F.ex;have KX:X.K.In s1.heap:=I1.z5;have lim:s1.heap.NoLimit:=I1.nolimit;have hkind:∀y∈[(cn,Value.ref f)],(ah st).names.lookup y.1=some .local\/((ah st).names.lookup y.1=some .cell/\((cellsFrom (s1.heap.objs.size+1) (ah st).names []).lookup y.1).isSome=true):=λy hy=>by
  rw[PD.mp hy];exact .inl l0
 show wpAny _ _ (call (.ref fr) [.ref f]) _ _ s1;refine wpAny_call (SO (R:=CR ni X.stack X.prog X.w H1 s1 Q (λ_ _ _=>False)) (codeAny_call_function hr.depth (KX _ _ lk) rfl Sc.co Sc.gen rfl (codeRec_of KX hcd) (hbind _ _ _ _ _ _ ?_)) λr s' hq=>?_);rotate_left
 ·cases r with
  | error e=>exact False.elim hq
  | ok fl=>
   cases fl with
   | ret u=>exact I1.after hq
   | next=>exact False.elim hq
   | brk=>exact False.elim hq
   | cont=>exact False.elim hq
 refine Uk Sc.kind hkind λenv he s2 z=>?_;subst he;refine⟨lim.keeps z.toInCall.keep,codeAny_func ?_⟩;have Ir:Inv (wF X [cn,cau,en,mk] fn st fr cdv s1 H1) [] (start [cn,cau,en,mk] [.ref f]) H1 s2:=ud (us:=[.ref f]) (vs:=[.ref f]) Sc hr.hd e0 rfl (.cons rfl .nil) z;have hr1:cF (k+1) (wF X [cn,cau,en,mk] fn st fr cdv s1 H1).A:=hr.deeper _;rw[hbody];refine Q7 (Qr (yH (X:=wF X [cn,cau,en,mk] fn st fr cdv s1 H1) (i:=1) Sc.nd rfl (.inl l1) DC (sw1 _) (.inl rfl) [] s2 _ H1
  {nx:=λσ' H2=>σ'=[some (.ref f),some .cj,none,none]/\H2=H1,rt:=λ_ _=>False,bk:=λ_ _=>False,ct:=λ_ _=>False} Ir ⟨rfl,rfl⟩) (λfl s3 q=>?_) λe s' hq=>hq)
 cases fl with
 | ret v=>obtain⟨_,_,_,_,_,q⟩:=q;exact q.elim
 | brk=>obtain⟨_,_,_,q⟩:=q;exact q.elim
 | cont=>obtain⟨_,_,_,q⟩:=q;exact q.elim
 | next=>
 obtain⟨σ3,H3,I3,rfl,rfl⟩:=q;have fin:∀{s':Shared} {σ':L2.St} {H':Hp} {v:V} {u:Value},Inv (wF X [cn,cau,en,mk] fn st fr cdv s1 H3) [] σ' H' s'->RelV v u->Q v H'->CE X.stack X.prog X.w H3 s1 Q u s':=
  λ{s' σ' H' v u} J rv q=>⟨v,H',J.os,J.bare,J.base,J.ba,rv,q⟩
 have tl:∀{s4:Shared} {σ4:L2.St} {H4:Hp} {ρ4:Ad} {δ4:DS} {h4:MH} {d4:D} {h5:MH},Inv (wF X [cn,cau,en,mk] fn st fr cdv s1 H3) [] σ4 H4 s4->cI X.K ρ4 H4 σ4 δ4->bM X.K ρ4 h4 H4->(mt δ4 h4).bind wY=some (d4,h5)->(∀v H',dm X.K ρ4 H4 h5 d4 v H'->Q v H')->
   wpAny (model X.prog X.w) (wF X [cn,cau,en,mk] fn st fr cdv s1 H3).A (execs tail (wF X [cn,cau,en,mk] fn st fr cdv s1 H3).env) (λfl s'=>CR ni X.stack X.prog X.w H3 s1 Q (λ_ _ _=>False) (.ok (.ret (match fl with | .ret v=>v | _=>.none))) s') (wF X [cn,cau,en,mk] fn st fr cdv s1 H3).xe s4:=λ{s4 σ4 H4 ρ4 δ4 h4 d4 h5} I4 R4 S4 e4 k4=>by
  obtain⟨⟨fl,δ5,h6⟩,e5,e6⟩:=bE e4;refine Qr (htail cdv X.A X.stack s1 H3 (λ_ _ _=>False) hr1 [] s4 σ4 H4 {nx:=λ_ H'=>Q .cj H',rt:=Q} (I4.qj _) ⟨ρ4,δ4,h4,fl,δ5,h6,R4,S4,e5,λρ6 H6 T6 S6=>?_⟩) (λf' s' hs=>?_) λe s' hq=>hq.elim
  ·cases fl with
   | nx=>cases e6;exactλσ' R'=>k4 _ _ ⟨ρ6,T6,S6,.cj⟩
   | rt d=>cases e6;exactλv r=>k4 _ _ ⟨ρ6,T6,S6,r⟩
   | bk=>cases e6
   | ct=>cases e6
  ·cases f' with
   | ret u=>obtain⟨v,σ',H',J,rv,q⟩:=hs;exact fin J.gF rv q
   | next=>obtain⟨σ',H',J,q⟩:=hs;exact fin (v:=V.cj) (u:=Value.none) J.gF rfl q
   | brk=>obtain⟨_,_,_,q⟩:=hs;exact False.elim q
   | cont=>obtain⟨_,_,_,q⟩:=hs;exact False.elim q
 have run:∀{t:TE} {Qn:VK} {E1:XK},(∀q cd,PE (GN (iu X.prog X.w) X.prog X.w X.K X.mg X.base Nl q scope (fZ X.env scope.names []) f cd (wF X [cn,cau,en,mk] fn st fr cdv s1 H3).A (wF X [cn,cau,en,mk] fn st fr cdv s1 H3).stack s3 H3 E1) body t)->t (mP caps σ) H3 Qn->
   wpAny (model X.prog X.w) (wF X [cn,cau,en,mk] fn st fr cdv s1 H3).A (execs [.Expr (.Call (.Name cn p1) [] [] p2) p3] (wF X [cn,cau,en,mk] fn st fr cdv s1 H3).env) (λf' s'=>f'=.next/\∃H',Inv (wF X [cn,cau,en,mk] fn st fr cdv s1 H3) [] [some (.ref f),some .cj,none,none] H' s'/\∃v,Qn v H') (λe s'=>iu X.prog X.w (wF X [cn,cau,en,mk] fn st fr cdv s1 H3).stack H3 s3 E1 e s') s3:=λ{t Qn E1} hb ht=>by
  obtain⟨qn,c',ctv',oc',vs',q',tk',f1,f2,f3,f4⟩:=Fl.ex;obtain⟨hof,_⟩:=(show cf X.prog X.w H3 s3.heap f _ from I3.ba f _ f1);refine Q7 (wpAny_Expr_any (Ka (X:=(wF X [cn,cau,en,mk] fn st fr cdv s1 H3)) (i:=0) I3 rfl (.inl l0) rfl hof rfl (wpAny_call (SO (D5 LS hp I3.Kb hr1.hd hr1.depth Fl (Cl1.keep λb o n e=>⟨I3.base.any e n (λz=>nomatch z),n⟩) hb ht) λr s' hq=>?_)) n0 n0') I3.quiet (sw3 _));cases r with
  | error e=>exact hq
  | ok fl=>
   cases fl with
   | ret u=>
    obtain⟨v,H',I',_,q⟩:=I3.after hq;exact RL ⟨rfl,H',I',v,q⟩
   | next=>exact False.elim hq
   | brk=>exact False.elim hq
   | cont=>exact False.elim hq
 have hz:∀b,s3.heap.get? b=none->s1.heap.get? b=none:=λb hb=>by
  cases q:s1.heap.get? b with
  | none=>rfl
  | some o=>obtain⟨o',e⟩:=I3.base.there b o q (λz=>nomatch z);rw[hb] at e;cases e
 have hrl:∀(q:Str)(cd:Value),cF k ((wF X [cn,cau,en,mk] fn st fr cdv s1 H3).A.deeper (envX q scope s3.heap.objs.size f cd (fZ X.env scope.names []))):=λq cd=>hr1.deeper _;unfold eA at ee;cases hq:x (fH caps δ) h with
 | some p=>
  obtain⟨c,h1⟩:=p;rw[hq] at ee;dsimp only at ee
  by_cases hc:c∈cls
  ·rw[Py hc] at ee;obtain⟨⟨d4,h5⟩,e4,e6⟩:=bE ee;obtain⟨D,bm,bmC,mD,gD,hob,hb1,hb2⟩:=(hC c hc).ex;refine Q7 (Cr (X:=(wF X [cn,cau,en,mk] fn st fr cdv s1 H3)) (rest:=X.stack) (L:=s1.heap.objs.size) (E1:=λC _ H'=>∃ρ',X.mg c=some C/\df ρ H3 ρ' H'/\bM X.K ρ' h1 H') (Qn:=λH'=>∃v:V,(λ_ _=>False:VK) v H') I3 rfl rfl Sc.nd rfl rfl l1 l2 lg hms (sw2 _) n2 n2'
    (run (t:=λσ H _=>MG X.K X.mg (λC _ H'=>∃ρ',X.mg c=some C/\df ρ H3 ρ' H'/\bM X.K ρ' h1 H') x σ H) (Qn:=λ_ _=>False) (E1:=(λC _ H'=>∃ρ',X.mg c=some C/\df ρ H3 ρ' H'/\bM X.K ρ' h1 H')) (λq cd=>hx q cd f _ _ _ s3 H3 _ (hrl q cd)) ⟨ρ,_,h,c,h1,R1,S1,hq,λC ρ' H' m T S=>⟨ρ',m,T,S⟩⟩) (λC H' hh=>?_) hz (λs4 H4 _ hh=>?_) λs4 H4 y D4 I4 hh hn=>?_)
   ·obtain⟨ρ',m,_⟩:=hh;rw[mD] at m;cases m;exact⟨D,bm,bmC,rfl,hob,hb1,hb2⟩
   ·obtain⟨_,q⟩:=hh;exact q.elim
   ·obtain⟨ρ',m,T,S4⟩:=hh;rw[mD] at m;cases m;have S5:bM X.K (ρ'.more y) (h1++[.exc c]) (upd H4 y (.Al λ_ h=>yd h y D)):=S4.made hn ⟨D,gD,aR⟩;refine Qr (tl I4 (ρ4:=ρ'.more y) (δ4:=[none,some (.ob h1.length),none,none]) ⟨rfl,λi d hd=>?_⟩ S5 e4 λv H' pp=>?_) (λ_ _ q=>q) λ_ _ q=>q
    ·match i,hd with
     | 0,hd=>cases hd
     | 1,hd=>cases hd;exact⟨.ref y,rfl,.ob (by show(ρ'.ob++[y])[h1.length]?=_;rw[<-S4.len];simp)⟩
     | 2,hd=>cases hd
     | 3,hd=>cases hd
     | _+4,hd=>cases hd
    ·obtain⟨ρ6,T6,S6,r6⟩:=pp;have p2:dm X.K ρ' H4 h5 d4 v H':=⟨ρ6,(df.made S4 hn).trans T6,S6,r6⟩;obtain⟨ρ7,T7,S7,r7⟩:=p2.leave S4 e6;exact kq v H' ⟨ρ7,(T1.trans T).trans T7,S7,r7⟩
  ·rw[PH hc] at ee;cases ee
 | none=>
  rw[hq] at ee;dsimp only at ee;obtain⟨⟨d1,h1⟩,e1,e2⟩:=bE ee;obtain⟨⟨d4,h5⟩,e4,e6⟩:=bE e2;refine Q7 (Cr (X:=(wF X [cn,cau,en,mk] fn st fr cdv s1 H3)) (rest:=X.stack) (L:=s1.heap.objs.size) (E1:=λ_ _ _=>False) (Qn:=λH'=>∃v:V,dm X.K ρ H3 h1 d1 v H') I3 rfl rfl Sc.nd rfl rfl l1 l2 lg hms (sw2 _) n2 n2'
    (run (t:=tM X.K m) (Qn:=dm X.K ρ H3 h1 d1) (E1:=λ_ _ _=>False) (λq cd=>hm q cd f _ _ _ s3 H3 _ (hrl q cd)) ⟨ρ,_,h,d1,h1,R1,S1,e1,λv H' p=>p⟩) (λC H' hh=>hh.elim) hz (λs4 H4 I4 hh=>?_) λs4 H4 y D4 I4 hh hn=>hh.elim)
  obtain⟨v0,ρ',T,S4,r0⟩:=hh;refine Qr (tl I4 (ρ4:=ρ') (δ4:=[none,some .cj,none,none]) ⟨rfl,λi d hd=>?_⟩ S4 e4 λv H' pp=>?_) (λ_ _ q=>q) λ_ _ q=>q
  ·match i,hd with
   | 0,hd=>cases hd
   | 1,hd=>cases hd;exact⟨.cj,rfl,.cj⟩
   | 2,hd=>cases hd
   | 3,hd=>cases hd
   | _+4,hd=>cases hd
  ·obtain⟨ρ7,T7,S7,r7⟩:=dm.leave S4 pp e6;exact kq v H' ⟨ρ7,(T1.trans T).trans T7,S7,r7⟩
end
structure EX(K:Frag)(mg:Str->Option Value)(tb:List (Str×List Str))(ns:List Str):Prop where
 own:∀c as,tb.lookup c=some as->∃D,mg c=some (.ref D)/\JS K c=some (.ref D)/\XQ K D/\(clsIn K D).isSome=true/\(∀n∈ns,∃N,mg n=some (.ref N)/\kitOne K (.ref D) (.ref N)=some (decide (n∈as)))/\kitOne K (.ref D) (.type "ValueError")=some true
noncomputable def nZ(tb:List (Str×List Str))(n:Str)(m:EM):EM:=λδ h=>(m δ h).bind λp=>match p.1 with
 | .ob k=>match p.2[k]? with
  | some (.exc c)=>(tb.lookup c).map λas=>(.bl (decide (n∈as)),p.2)
  | _=>none
 | _=>none
section
variable {X:Cx} {a b:Expr} {m:EM} {tb:List (Str×List Str)} {ns:List Str} {n:Str} {pn pb pos:Pos}
theorem JP{ρ:Ad}{H:Hp}{h:MH}{k:Nat}{c:Str}{v:V}(S:bM X.K ρ h H)(r:Rep X.K ρ H v (.ob k))(e:h[k]?=some (.exc c)):∃x C,v=.ref x/\JS X.K c=some (.ref C)/\H x=some (.Al λ_ h=>yd h x C):=by
 cases r with
 | ob er=>
  obtain⟨C,g,x⟩:=S.at_ _ _ _ er e;exact⟨_,C,rfl,g,x⟩
theorem EK:gd X (.builtin "isinstance") (λvs H Q=>∃x D cv b,vs=[.ref x,cv]/\H x=some (.Al λ_ h=>yd h x D)/\XQ X.K D/\(clsIn X.K D).isSome=true/\(∀u,RelV cv u->kitOne X.K (.ref D) u=some b)/\Q (.bl b) H):=by
 intro pins s σ H vs us Q I r ⟨x,D,cv,b,e,hx,xq,hcl,hk,q⟩;subst e;obtain⟨u1,u2,rfl,r1,r2⟩:=Vals.two r;obtain rfl:u1=Value.ref x:=r1;obtain⟨⟨o,f1,f2⟩,_,_⟩:=(show cf X.prog X.w H s.heap x _ from I.ba x _ hx);exact yZ xq hcl I.z5 ⟨o,f1,f2⟩ (hk u2 r2) λtk=>⟨.bl _,H,I.tok tk,rfl,q⟩
theorem tF{cv:V}(ha:SE X a m)(hb:PE X b (tC cv))(hk:∀c as,tb.lookup c=some as->∃D,JS X.K c=some (.ref D)/\XQ X.K D/\(clsIn X.K D).isSome=true/\∀u,RelV cv u->kitOne X.K (.ref D) u=some (decide (n∈as)))
  (hg:Gl X "isinstance") (hm:X.mg "isinstance"=none) (he:starEach [a,b] X.env=(false,eval a X.env)::starEach [b] X.env) (he2:starEach [b] X.env=[(false,eval b X.env)]) (hpl:(backTo pos (starEach [b] X.env)).any (·.1)=false):
  SE X (.Call (.Name "isinstance" pn) [a,b] [] pos) (nZ tb n m):=
 (xj (EK (X:=X)) hg hm boot_isinstance (vy ha (vy hb DG he2) he) (by decide) (by decide) he hpl).imp λσ H Q ⟨ρ,δ,h,d,h',R,S,ee,kq⟩=>by
  obtain⟨⟨d1,h1⟩,e1,e2⟩:=bE ee;cases d1 with
  | ob k=>
   dsimp only at e2;cases hq:h1[k]? with
   | none=>rw[hq] at e2;cases e2
   | some o=>
    rw[hq] at e2;cases o with
    | exc c=>
     obtain⟨as,e3,e4⟩:=gv e2;cases e4;obtain⟨D,gD,xq,hcl,hkit⟩:=hk c as e3;refine⟨ρ,δ,h,.ob k,_,R,S,e1,λv H1 ⟨ρ1,T1,S1,rv⟩=>?_⟩;obtain⟨x,C,rfl,gC,hx⟩:=JP S1 rv hq;rw[gD] at gC;cases gC;exact⟨x,D,cv,_,rfl,hx,xq,hcl,hkit,kq _ _ ⟨ρ1,T1,S1,.bl _⟩⟩
    | _=>cases e2
  | _=>cases e2
theorem Ik(E:EX X.K X.mg tb ns)(ha:SE X a m)(h0:∃c as,tb.lookup c=some as)(hn:n∈ns)(hgn:Gl X n)(hg:Gl X "isinstance")(hm:X.mg "isinstance"=none)(hd:(n==("__debug__":Str))=false)(he:starEach [a,.Name n pb] X.env=(false,eval a X.env)::starEach [.Name n pb] X.env)(he2:starEach [.Name n pb] X.env=[(false,eval (.Name n pb) X.env)])
  (hpl:(backTo pos (starEach [.Name n pb] X.env)).any (·.1)=false):SE X (.Call (.Name "isinstance" pn) [a,.Name n pb] [] pos) (nZ tb n m):=by
 obtain⟨c0,as0,e0⟩:=h0;obtain⟨_,_,_,_,_,h5,_⟩:=E.own c0 as0 e0;obtain⟨N,mN,_⟩:=h5 n hn;refine tF (cv:=.ref N) ha (zO hgn mN rfl hd) (λc as e=>?_) hg hm he he2 hpl;obtain⟨D,mD,gD,xq,hcl,h5,_⟩:=E.own c as e;obtain⟨N',mN',hk⟩:=h5 n hn;rw[mN] at mN';cases mN';exact⟨D,gD,xq,hcl,λu ru=>by cases(show u=Value.ref N from ru);exact hk⟩
theorem FD(E:EX X.K X.mg tb ns)(ha:SE X a m)(hv:∀c as,tb.lookup c=some as->decide (("ValueError":Str)∈as)=true)(hgn:Gl X "ValueError")(hmn:X.mg "ValueError"=none)(hg:Gl X "isinstance")(hm:X.mg "isinstance"=none)
  (he:starEach [a,.Name "ValueError" pb] X.env=(false,eval a X.env)::starEach [.Name "ValueError" pb] X.env) (he2:starEach [.Name "ValueError" pb] X.env=[(false,eval (.Name "ValueError" pb) X.env)])
  (hpl:(backTo pos (starEach [.Name "ValueError" pb] X.env)).any (·.1)=false):SE X (.Call (.Name "isinstance" pn) [a,.Name "ValueError" pb] [] pos) (nZ tb "ValueError" m):=by
 refine tF (cv:=.ty "ValueError") ha (Ga hgn hmn (u:=.type "ValueError") (by ac_nf) rfl) (λc as e=>?_) hg hm he he2 hpl;obtain⟨D,mD,gD,xq,hcl,_,h6⟩:=E.own c as e;exact⟨D,gD,xq,hcl,λu ru=>by cases(show u=Value.type "ValueError" from ru);rw[hv c as e];exact h6⟩
end
noncomputable def zZ:AE:=λd ds h=>match ds with
 | [x]=>(dS d h).bind λys=>(zL h x).bind λp=>(oF ys).bind λbs=>if p.depth<=60/\PyData.depthAll bs<=60 then some (D.int (Int.ofNat (bs.countP λb=>PyData.eqv b p)),h) else none
 | _=>none
theorem BQ{h:Heap}{f:Value->Bool}{p:PyData}:∀{us:List Value} {ds:List PyData} {as:List Addr},ReadsAll h us ds as->(∀u d as,u∈us->Reads h u d as->d∈ds->f u=PyData.eqv d p)->us.countP f=ds.countP λb=>PyData.eqv b p:=by
 intro us
 induction us with
 | nil=>intro ds as r _;cases r;rfl
 | cons v us ih=>
  intro ds as r hf;cases r with | cons r l=>
  rw[List.countP_cons,List.countP_cons,hf _ _ _ Px r Px,ih l λu d as hu hr hd=>hf u d as (Pz _ hu) hr (Pz _ hd)]
theorem Bo{X:Cx}(hu:X.A.units+64 < cLine):AD X "list.count" (rM X.K zZ):=by
 intro pins s σ H x xs v us Q I rx rs hh;obtain⟨ρ,h,d,ds,z,h',S,rd,l,ee,k⟩:=hh
 match ds,l,ee with
 | [],_,ee=>exact bU ee
 | _::_::_,_,ee=>exact bU ee
 | [y],l,ee=>
  obtain⟨ys,e1,e2⟩:=bE ee;obtain⟨p,e3,e4⟩:=bE e2;obtain⟨bs,e5,e6⟩:=bE e4
  by_cases w:p.depth<=60/\PyData.depthAll bs<=60
  ·rw[Py w] at e6;cases e6;obtain⟨a,vs,rfl,ha,l1⟩:=eh S rd e1;obtain rfl:v=Value.ref a:=rx;obtain⟨yv,rfl,ry⟩:=rep1 l;obtain⟨u,rfl,ru⟩:=Vals.one rs;obtain⟨r1,c1⟩:=lX S ry e3;obtain⟨r2,c2⟩:=l1.sS e5;obtain⟨as,ra⟩:=r1.reads I ru;obtain⟨its,rv,pl,hz⟩:=I.list (.inl (.inl ha));obtain⟨bs',rb⟩:=r2.reads I rv;have hj:=BQ (f:=Am s.heap p) rb λu d as _ hr hd=>nX hr (cp c2 hd);have key:∀y,y∈its.toArray->PySem.SeqAt.EqAt X.A.in1 s y u (Am s.heap p y):=by
    intro y hy;obtain⟨d,as',hr,hd⟩:=jQ rb y (by simpa using hy);rw[nX hr (cp c2 hd)];refine RH d p _ s y u as' as hr ra (cp c2 hd) c1 ?_;have h1:=j6 hd;have h2:min d.depth p.depth<=d.depth:=Su _ _;show X.A.units+1+min d.depth p.depth < cLine;have h3:=w.2
    lia
   obtain⟨o,n,g,o1,o2,o3⟩:=pl;obtain⟨oc,od,oda,os⟩:=o;dsimp only at o1 o2 o3;subst o1 o2 o3;refine RA TN ⟨_,g,rfl⟩ PySem.F.entry_list_count (PySem.F.args_list_count_2 _ _)
    (PySem.SeqAt.list_countAt a its.toArray n none os u (Am s.heap p)) ⟨g,key,?_⟩
   exact⟨.int _,H,I.kept (t':=s.toks+1) λ_ _ e=>e,⟨s.toks,by rw[<-hj];rfl⟩,k _ _ (.here S (.int _))⟩
  ·rw[PH w] at e6;cases e6
end Sm
namespace Hd
open PySem PySem.W PySem.Spec PyProof.Rows L2 Sm
section
variable {h:Heap}
theorem Js{ns:Addr}{name:Str}{r:Option Value}(e:tZ h ns name=some r):nsIn (aC h) ns name=some r:=by
 unfold tZ at e;unfold nsIn
 split at e
 ·rename_i c d es n sl ho;rw[bB ho (gy λvs z=>by cases z)];exact e
 ·cases e
theorem Gd{v:Value}{name:Str}{r:Option Value}(e:ju h name v=some r):ownIn (aC h) name v=some r:=by
 cases v with
 | ref a=>
  unfold ju at e;unfold ownIn;dsimp only at e ⊢
  split at e
  ·rename_i c d cd sl ho;rw[bB ho (gy λvs z=>by cases z)];exact Js e
  ·cases e
 | _=>exact e
theorem uH{name:Str}{r:Option Value}:∀{vs:List Value},cB h name vs=some r->alongIn (aC h) name vs=some r
 | [],e=>e
 | c::vs,e=>by
  unfold cB at e;unfold alongIn;cases q:ju h name c with
  | none=>rw[q] at e;cases e
  | some w=>
   rw[q] at e;rw[Gd q];cases w with
   | some v=>exact e
   | none=>exact uH (vs:=vs) e
theorem qc{c:Str}{C:Addr}{cd:ClassData}(e:clsAt h c=some (C,cd)):h.nsMap mainGlobals c=some (.ref C)/\∃d sl,(aC h).lookup C=some ⟨.type "type",d,.cls cd,sl⟩:=by
 unfold clsAt at e
 split at e
 ·rename_i C' hg
  split at e
  ·rename_i d cd' sl ho;cases e;exact⟨hg,d,sl,bB ho (gy λvs z=>by cases z)⟩
  ·cases e
 ·cases e
theorem Mk{mg:Str->Option Value}{c:Str}{v:Value}(g:h.Ns mainGlobals mg)(e:mg c=some v):JS (aC h) c=some v:=by
 obtain⟨o,es,ep,ho,hd,sk,hm⟩:=g;unfold JS;rw[bB ho (gy λvs z=>by rw[hd] at z;cases z)];dsimp only;rw[hd];dsimp only;rw[<-hm c] at e;unfold nsFind findBy at e;rw[<-Array.find?_toList] at e;rw[show(λe:DictEntry=>e.key.isStr c)=λe=>Value.isStrOf c e.key from funext λx=>by cases x.key <;> rfl] at e;exact e
theorem vK{o:Obj}(hd:∀vs,o.data≠.fields vs){a:Addr}{base:Heap}(X:(aC h).In base)(e:h.get? a=some o):base.get? a=some o:=X _ _ (bB e (gy hd))
theorem zW{base:Heap}(X:(aC h).In base){N:Addr}{m:Str->Option Value}(x:h.Ns N m):base.Ns N m:=by
 obtain⟨o,es,ep,ho,hd,r⟩:=x;exact⟨o,es,ep,vK (λvs z=>by rw[hd] at z;cases z) X ho,hd,r⟩
theorem AO{base:Heap}(X:(aC h).In base){bmB tl:List Value}(T:OwnTail h bmB tl):OwnTail base bmB tl:=by
 induction T with
 | base=>exact .base
 | own hA hN hni _ ih=>exact .own (vK (λvs z=>by cases z) X hA) (zW X hN) hni ih
abbrev Co:List Value:=[.type "ValueError",.type "Exception",.type "BaseException",.type "object"]
section
variable {q:Program} {loose:List Str} {mean:ExcName->Option Value} {mg mb:Str->Option Value} {c:Str}
theorem Fo{base:Heap}(T:Top q loose mean mg mb h)(hs:specOf q c=some ("ValueError.__new__",Co))(X:(aC h).In base):∃C,E4 mg base c C:=by
 obtain⟨C,O,_⟩:=T.ownAt hs;have O:=O.own;obtain⟨bm,N,nm,q',bs,hdct,sn,sub,ab,col,dd,k0,k1,k2,k3,k5,mN,hC,hN,hni,T'⟩:=O.obj;exact⟨C,⟨O.bound,bm,N,nm,q',bs,hdct,sn,sub,ab,col,dd,k0,k1,k2,k3,k5,mN,vK (λvs z=>by cases z) X hC,zW X hN,hni,AO X T'⟩⟩
theorem vg{cs ns:List Str}{tab:List (Option (List (Option Bool)))}(Y:pP h cs ns=tab){i:Nat}(hi:cs[i]?=some c){r:List (Option Bool)}(hr:tab[i]?=some (some r)):kC h ns c=some r:=by
 subst Y;unfold pP at hr;rw[PR,hi] at hr;exact Option.some.inj hr
theorem rR{ns:List Str}{r:List (Option Bool)}(e:kC h ns c=some r):∃C cd,clsAt h c=some (C,cd)/\cB h "__getattribute__" cd.mro=some (some (.builtin "BaseException.__getattribute__"))/\cB h "__getattr__" cd.mro=some none/\cB h "__class__" cd.mro=some (some (.builtin "object.__class__"))/\
  cd.mro.contains (.type "object")=true/\cd.mro.contains (.type "BaseException")=true/\cd.mro.contains (.type "ValueError")=true/\cd.mro.contains (.ref C)=true/\r=ns.map (isAt h cd):=by
 unfold kC at e;obtain⟨⟨C,cd⟩,e1,e2⟩:=RE.mp e;dsimp only at e2
 split at e2
 ·rename_i hh;simp only[Qd] at hh;cases e2;exact⟨C,cd,e1,QX.mp hh.1.1.1.1.1.1,QX.mp hh.1.1.1.1.1.2,QX.mp hh.1.1.1.1.2,hh.1.1.1.2,hh.1.1.2,hh.1.2,hh.2,rfl⟩
 ·cases e2
theorem zX{C:Addr}{cd:ClassData}{d:Option Addr}{sl:Array (Option Value)}(lk:(aC h).lookup C=some ⟨.type "type",d,.cls cd,sl⟩){v:Value}{b:Bool}(e:cd.mro.contains v=b)(hn:cd.mro.contains (.type "object")=true):mroIn (aC h) C v=some b:=by
 have hc:clsIn (aC h) C=some cd:=by unfold clsIn;rw[lk]
 unfold mroIn;rw[hc];show(if cd.mro.isEmpty then none else some (cd.mro.contains v))=some b;rw[PH (λz=>by rw[List.isEmpty_iff.mp z] at hn;cases hn),e]
theorem mg_of{mg:Str->Option Value}{n:Str}{v:Value}(g:h.Ns mainGlobals mg)(e:h.nsMap mainGlobals n=some v):mg n=some v:=by
 obtain⟨o,es,ep,g1,g2,_,g3⟩:=g;rw[<-g3 n,<-e];unfold Heap.nsMap;rw[g1];dsimp only;rw[g2]
theorem Mo{tb:List (Str×List Str)}{ns:List Str}(T:Top q loose mean mg mb h)(Y:pP h (tb.map (·.1)) ns=tb.map λp=>some (ns.map λn=>some (decide (n∈p.2)))):EX (aC h) mg tb ns:=by
 refine⟨λc as e=>?_⟩;obtain⟨i,hi⟩:=SH (Qh e);have hr:=vg (c:=c) Y (i:=i) (by rw[PR,hi];rfl) (r:=ns.map λn=>some (decide (n∈as))) (by rw[PR,hi];rfl);obtain⟨D,cd,hc,a1,a2,a3,b1,b2,b3,b4,hn⟩:=rR hr;obtain⟨g,d,sl,lk⟩:=qc hc;have mD:=mg_of T.g g;have hcl:clsIn (aC h) D=some cd:=by unfold clsIn;rw[lk]
 have fi:∀{nm:Str} {r:Option Value},cB h nm cd.mro=some r->findIn (aC h) (.ref D) nm=some r:=λ{nm r} e=>by
  unfold findIn;dsimp only;rw[lk];exact uH e
 refine⟨D,mD,Mk T.g mD,⟨fi a1,fi a2,fi a3,zX lk b1 b1,zX lk b2 b1⟩,by rw[hcl];rfl,λn hnn=>?_,?_⟩
 ·have hx:=Tf.mp hn n hnn;obtain⟨⟨N,cdN⟩,e1,e2⟩:=P5.mp hx.symm;obtain⟨gN,dN,slN,lkN⟩:=qc e1;refine⟨N,mg_of T.g gN,?_⟩;dsimp only at e2;unfold kitOne
  by_cases z:N=D
  ·subst z;rw[Py (by simp),<-e2,b4]
  ·rw[PH (by simpa using λy=>z y.symm)];unfold kitCls;dsimp only;rw[Py (by
    have:clsIn (aC h) N=some cdN:=by unfold clsIn;rw[lkN]
    have t2:typeIn (aC h) (.ref N)=some (.type "type"):=by unfold typeIn;dsimp only;rw[lkN];rfl
    rw[this,t2];rfl)]
   rw[<-e2];exact zX lk rfl b1
 ·unfold kitOne;rw[PH (by simp)];unfold kitCls;dsimp only;rw[Py (by decide+kernel)];exact zX lk b3 b1
theorem KZ{tb:List (Str×List Str)}{ns:List Str}{i1 i2:String}{CS:Addr}(T:Top q loose mean mg mb h)(Y:pP h (tb.map (·.1)) ns=tb.map λp=>some (ns.map λn=>some (decide (n∈p.2))))(mS:mg "StuckError"=some (.ref CS))(hS:specOf q "StuckError"=some (i2,Co))(hn:("StuckError":Str)∈ns)
  (hs:specOf q c=some (i1,Co)) (he:∃as,tb.lookup c=some as/\("StuckError":Str)∈as):XC (aC h) mg CS c:=by
 obtain⟨as,e,hm⟩:=he;obtain⟨i,hi⟩:=SH (Qh e);have hr:=vg (c:=c) Y (i:=i) (by rw[PR,hi];rfl) (r:=ns.map λn=>some (decide (n∈as))) (by rw[PR,hi];rfl);obtain⟨D,cd,hc,_,_,_,_,b2,_,_,hnn⟩:=rR hr;obtain⟨g,d,sl,lk⟩:=qc hc;have mD:=mg_of T.g g;have hx:=Tf.mp hnn _ hn;obtain⟨⟨N,cdN⟩,e1,e2⟩:=P5.mp hx.symm;obtain⟨gN,_⟩:=qc e1;have mN:=mg_of T.g gN;rw[mS] at mN;cases mN;obtain⟨C1,O1,_⟩:=T.ownAt hs;obtain⟨C2,O2,_⟩:=T.ownAt hS;have z1:=O1.bound;rw[mD] at z1;cases z1;have z2:=O2.bound;rw[mS] at z2;cases z2;obtain⟨bm1,N1,nm1,q1,bs1,hd1,sn1,sb1,ab1,col1,dd1,k10,k11,k12,k13,k15,mN1,hC1,_,_,T1⟩:=O1.obj;obtain⟨bm2,N2,nm2,q2,bs2,hd2,sn2,sb2,ab2,col2,dd2,k20,k21,k22,k23,k25,mN2,hC2,_,_,T2⟩:=O2.obj;have l1:=bB hC1 (gy λvs z=>by cases z);have l2:=bB hC2 (gy λvs z=>by cases z);rw[lk] at l1;refine⟨D,bm1,bm2,mD,Mk T.g mD,λh' X=>⟨⟨_,_,_,_,_,_,_,_,_,_,_,_,_,_,_,_,X _ _ (bB hC1 (gy λvs z=>by cases z))⟩,⟨_,_,_,_,_,_,_,_,_,_,_,_,_,_,_,_,X _ _ l2⟩⟩,T2.tail.hasType (by decide),?_⟩;have ec:cd.mro=.ref D::bm1:=by injection l1 with l1;injection l1 with _ _ l1 _;injection l1 with l1;rw[l1]
 rw[<-ec];dsimp only at e2;rw[e2];exact Qb hm
theorem Gw{n:Str}{st:Stmt}{f:Addr}{fd:FuncData}(T:Top q loose mean mg mb h)(e:(recsOf q).find? (λe=>e.name==n)=some (lW n st))(F:sC (aC h) n n st f fd)(m:mg n=some (.ref f)):∃P,B2 (aC h) mg fd.code P:=by
 obtain⟨a,o,fd',c,P,m',ho,hd,hcd,hi,ht⟩:=T.tab _ (Tx e);have m':mg n=some (.ref a):=m';rw[m] at m';cases m';obtain⟨oc,od,kV,doc,pm,an,cdv,ct,osl,rfl,lk,_⟩:=F.ex;have lk2:=bB ho (gy λvs z=>by rw[hd] at z;cases z);rw[lk] at lk2;cases lk2;cases hd;obtain⟨oC,vs,file,tf,flags,tg,inF,text,tt,op,f1,f2,f3,f4,f5,f6,f7,_,_,_,f11⟩:=hi;obtain⟨⟨oC',vs',g1,g2,g3,g4⟩,hP⟩:=ht;rw[f1] at g1;cases g1;rw[f2] at g3;cases g3;obtain⟨bm,ob,b1,b2,b3,b4,b5,b6⟩:=T.bmain;refine⟨P,⟨c,oC,vs,file,tf,flags,tg,inF,text,tt,hcd,bB f1 (Ee f2 g4),g2,f2,g4,f3,f4,f5,f6,f7,f11⟩,?_,⟨bm,ob,b1,b2,bB b3 (gy λvs z=>by rw[b6] at z;cases z),b4,b5,b6⟩⟩;have hin:.ref P∈ym h:=by
  refine Q5.mpr ⟨c,QB.mpr (PU f1),?_⟩;obtain⟨k0,k1,k2,k3⟩:=oC;dsimp only at g2 f2;subst g2 f2;simp[qa,f1,g4,hP,k8]
 unfold aC;have hs:((sY h).lookup mainGlobals).isSome=true:=by
  obtain⟨o,es,ep,g1,g2,_⟩:=T.g;rw[<-jZ,bB g1 (gy λvs z=>by rw[g2] at z;cases z)];rfl
 rw[Py hs];exact⟨_,P7 _ (PD.mpr rfl),by simpa using hin⟩
end
end
section
variable {h h':Heap}
theorem DO(k:Sub h h'){n:Str}{v:Value}(e:h.nsMap mainGlobals n=some v):h'.nsMap mainGlobals n=some v:=by
 unfold Heap.nsMap at e ⊢
 split at e
 ·rename_i o ho;rw[k _ _ ho];exact e
 ·cases e
theorem xS(k:Sub h h'){c:Str}{p:Addr×ClassData}(e:clsAt h c=some p):clsAt h' c=some p:=by
 unfold clsAt at e ⊢
 split at e
 ·rename_i C' hg;rw[DO k hg];dsimp only
  split at e
  ·rename_i d cd' sl ho;rw[k _ _ ho];exact e
  ·cases e
 ·cases e
theorem Bi(k:Sub h h'){ns:Addr}{name:Str}{r:Option Value}(e:tZ h ns name=some r):tZ h' ns name=some r:=by
 unfold tZ at e ⊢
 split at e
 ·rename_i c d es n sl ho;rw[k _ _ ho];exact e
 ·cases e
theorem DH(k:Sub h h'){v:Value}{name:Str}{r:Option Value}(e:ju h name v=some r):ju h' name v=some r:=by
 cases v with
 | ref a=>
  unfold ju at e ⊢;dsimp only at e ⊢
  split at e
  ·rename_i c d cd sl ho;rw[k _ _ ho];exact Bi k e
  ·cases e
 | _=>exact e
theorem iT(k:Sub h h'){name:Str}{r:Option Value}:∀{vs:List Value},cB h name vs=some r->cB h' name vs=some r
 | [],e=>e
 | c::vs,e=>by
  unfold cB at e ⊢;cases q:ju h name c with
  | none=>rw[q] at e;cases e
  | some w=>
   rw[q] at e;rw[DH k q];cases w with
   | some v=>exact e
   | none=>exact iT k (vs:=vs) e
theorem C0(k:Sub h h'){ns:List Str}{c:Str}{bs:List Bool}(e:kC h ns c=some (bs.map some)):kC h' ns c=some (bs.map some):=by
 obtain⟨C,cd,hc,a1,a2,a3,b1,b2,b3,b4,hn⟩:=rR e;unfold kC;rw[xS k hc];show(if _ then some (ns.map (isAt h' cd)) else none)=_;rw[Py (by rw[iT k a1,iT k a2,iT k a3,b1,b2,b3,b4];rfl)];congr 1;rw[hn];refine Us λn hnn=>?_;have:∃b,isAt h cd n=some b:=by
  have:isAt h cd n∈bs.map some:=by rw[hn];exact SR hnn
  obtain⟨b,_,e⟩:=Ql.mp this;exact⟨b,e.symm⟩
 obtain⟨b,eb⟩:=this;unfold isAt at eb ⊢;obtain⟨p,e1,e2⟩:=P5.mp eb;rw[e1,xS k e1]
abbrev xM(tb:List (Str×List Str))(ns:List Str):List (Option (List (Option Bool))):=tb.map λp=>some (ns.map λn=>some (decide (n∈p.2)))
theorem uo(k:Sub h h'){ns:List Str}:∀{tb:List (Str×List Str)},pP h (tb.map (·.1)) ns=xM tb ns->pP h' (tb.map (·.1)) ns=xM tb ns
 | [],_=>rfl
 | p::tb,e=>by
  obtain⟨e1,e2⟩:=List.cons.inj (show kC h ns p.1::pP h (tb.map (·.1)) ns=some (ns.map λn=>some (decide (n∈p.2)))::xM tb ns from e);have e1:kC h ns p.1=some ((ns.map λn=>decide (n∈p.2)).map some):=by rw[e1,QD];rfl
  show kC h' ns p.1::pP h' (tb.map (·.1)) ns=_;rw[uo k e2,C0 k e1,QD];rfl
end
structure Dx(P:Program)(w:World)(K:FR)(mg:Str->Option Value)(base:Heap)(nm:Str)(k:Nat)(ps:List Str)(n:Nat)(F:Xn):Prop where
 ex:∃(f:Addr)(fd:FuncData),eI P w K mg base (iu P w) k f fd ps (Lr K mg n F)/\PySem.W.keepIn K (.ref f)=true/\Binds K fd ps []/\mg nm=some (.ref f)
theorem DU{q:Program}{loose:List Str}{mean:ExcName->Option Value}{mg mb:Str->Option Value}{h base:Heap}{P:Program}{w:World}{n:Str}{st:Stmt}{k N:Nat}{ps:List Str}{F:Xn}(T:Top q loose mean mg mb h)(e:(recsOf q).find? (λe=>e.name==n)=some (lW n st))
  (ok:∀{f:Addr} {fd:FuncData},sC (aC h) n n st f fd->eI P w (aC h) mg base (iu P w) k f fd ps (Lr (aC h) mg N F)) (hb:∀{f:Addr} {fd:FuncData},sC (aC h) n n st f fd->Binds (aC h) fd ps []:=by walk_at "b"):Dx P w (aC h) mg base n k ps N F:=by
 obtain⟨f,fd,m,Fn⟩:=Af T e;exact⟨f,fd,ok Fn,Fn.kp,hb Fn,m⟩
end Hd
namespace Sm
open PySem L2 PySem.Spec PySem.W PySem.Calls PyProof.Rows
section
variable {X:Cx} {E:XK} {e:Expr} {es:List Expr} {m:AM} {nm:Str} {k k' n:Nat} {ps:List Str} {F:Xn} {p pos:Pos}
theorem M4(d:Hd.Dx X.prog X.w X.K X.mg X.base nm k ps n F)(hr:cF k' X.A)(hp:Passes (iu X.prog X.w) X E)(ha:SA X (e::es) m)(hk:k<=k':=by decide)(hl:kg m n:=by repeat(first | exact aA | refine af ?_))(hg:Gl X nm:=by unfold Gl;ac_nf)(hdb:(nm==("__debug__":Str))=false:=by ac_nf)(he:starEach (e::es) X.env=(false,eval e X.env)::starEach es X.env:=by ac_nf)(hpl:(backTo pos (starEach es X.env)).any (·.1)=false:=by ac_nf):
  XE X E (.Call (.Name nm p) (e::es) [] pos) (E8 F m):=by
 obtain⟨f,fd,G,kf,bf,mf⟩:=d.ex;exact Fm G hp (hr.mono hk) hg mf kf bf ha hl hdb he hpl
end
theorem KW{X:Cx}{E:XK}{e tg:Expr}{pos:Pos}{x:XM}{g:GM}(he:XE X E e x)(hg:SG X tg g)(hs:swapsWithSole [tg] e pos.line X.env=pure false:=by ac_nf)(hw:swappedStores [tg] e X.env=pure none:=by ac_nf)(h1:(assignEach [tg] X.env).map (·.2)=[assign tg X.env]:=by ac_nf):XS X E (.Assign [tg] e pos) x:=HF he hs hw h1 hg
section
variable {P:Program} {w:World} {K:FR} {mg:Str->Option Value} {base:Heap} {N:List Str} {qual:Str} {scope:Scope} {f:Addr} {cd:Value} {A:Around} {outer:List Env} {s₀:Shared} {H₀:Hp} {E:XK} {cl:List (Str×Addr)}
theorem zR:Passes (iu P w) (GN (iu P w) P w K mg base N qual scope cl f cd A outer s₀ H₀ E) E:=zS (fn:=λ_=>false) (cl:=cl)
theorem Ni{nm:Str}{a:Expr}{np cpos pos:Pos}{ma:EM}(O:∃C,E4 mg base nm C)(ha:SE (eQ (iu P w) P w K mg base N qual scope f cd A outer s₀ H₀ E) a ma)(hg:Gl (eQ (iu P w) P w K mg base N qual scope f cd A outer s₀ H₀ E) nm:=by unfold Gl;ac_nf)
  (he:starEach [a] (envOfC qual scope s₀.heap.objs.size f cd)=[(false,eval a (envOfC qual scope s₀.heap.objs.size f cd))]:=by ac_nf) (hdb:(nm==("__debug__":Str))=false:=by ac_nf):
  XS (eQ (iu P w) P w K mg base N qual scope f cd A outer s₀ H₀ E) E (.Raise (some (.Call (.Name nm np) [a] [] cpos)) none pos) (nj nm (ag ma aM)):=by
 obtain⟨C,O⟩:=O;exact B7 O hg ha he hdb
end
section
variable {P:Program} {w:World} {K:FR} {mg:Str->Option Value} {base:Heap} {x qual:Str} {st:Stmt} {f:Addr} {fd:FuncData} {N ps:List Str} {k:Nat} {body:SM}
theorem GD(F:sC K x qual st f fd)(hL:∃Pt,B2 K mg fd.code Pt)(Sc:aB N ps (ah st))(hb:∀(cdv:Value)(A:Around)(outer:List Env)(s:Shared)(H:Hp)(E:XK),(∃Pt,B2 K mg cdv Pt)->cF k (A.deeper (envOfC qual (ah st) s.heap.objs.size f cdv))->BZ (eQ ni P w K mg base N qual (ah st) f cdv A outer s H E).DP (cY st) body):
  eI P w K mg base ni (k+1) f fd ps (AS K ps.length (jT N.length body)):=by
 obtain⟨oc,od,kV,doc,pm,an,cdv,ct,osl,rfl,lk,hcd⟩:=F.ex;refine Eb lk hcd Sc (λvs H Q E h=>?_) λA outer s H vs Q E hr h=>?_
 ·obtain⟨ρ,h,ds,d,h',S,r,hl,_⟩:=h;rw[r.length];exact hl
 ·obtain⟨ρ,h,ds,d,h',S,r,hl,e,q⟩:=h;refine⟨_,wG.DP (hb cdv A outer s H E hL hr),?_⟩;obtain⟨⟨fl,δ1,h1⟩,e1,e2⟩:=bE e;refine⟨ρ,entry N.length ds,h,fl,δ1,h1,cI.entry N r,S,e1,λρ1 H1 T1 S1=>?_⟩;cases fl with
  | nx=>cases e2;exactλσ' R'=>q _ _ ⟨ρ1,T1,S1,.cj⟩
  | rt d=>cases e2;exactλv r=>q _ _ ⟨ρ1,T1,S1,r⟩
  | bk=>cases e2
  | ct=>cases e2
end
structure OV(P:Program)(w:World)(K:Frag)(mg:Str->Option Value)(base:Heap)(fn:Str)(mt:SM)(cls:List Str):Prop where
 ex:∃(fr CS:Addr)(fd:FuncData)(st:Stmt)(cn cau en mk:Str)(tail:List Stmt)(pa pb' pc p1 p2 p3 p4 p5 p6 p7 p8 p9:Pos)(j:Nat),sC K fn fn st fr fd/\aB [cn,cau,en,mk] [cn] (ah st)/\mg fn=some (.ref fr)/\keepIn K (.ref fr)=true/\
  (∀(s:Shared)(u:Value),BindsTo s fd ⟨[u],[]⟩ [(cn,u)])/\
  (cY st=.Assign [.Name cau pa] (.Constant .none j pb') pc::.Try [.Expr (.Call (.Name cn p1) [] [] p2) p3] [.ExceptHandler (some (.Name "StuckError" p4)) (some en) [.Assign [.Name cau p5] (.Name en p6) p7] p8] [] [] p9::tail)/\
  ((ah st).names.lookup cn=some .local/\(ah st).names.lookup cau=some .local/\(ah st).names.lookup en=some .local/\(ah st).names.lookup ("StuckError":Str)=some .globalImplicit)/\
  (mg "StuckError"=some (.ref CS)/\∀c∈cls,XC K mg CS c)/\
  ((cn==("__debug__":Str))=false/\(cn==("__classdict__":Str))=false/\(en==("__debug__":Str))=false/\(en==("__classdict__":Str))=false)/\
  ((∀env,swapsWith (.Constant .none j pb') (some (.Name cau pa)) pc.line env=pure false)/\(∀env,swapsWith (.Name en p6) (some (.Name cau p5)) p7.line env=pure false)/\(∀env,swapsWith (.Call (.Name cn p1) [] [] p2) none p3.line env=pure false))/\
  (∀(k:Nat)(cdv:Value)(A:Around)(outer:List Env)(s:Shared)(H:Hp)(E:XK),cF k (A.deeper (envOfC fn (ah st) s.heap.objs.size fr cdv))->BZ (eQ ni P w K mg base [cn,cau,en,mk] fn (ah st) fr cdv A outer s H E).DP tail mt)
theorem My(fd:FuncData)(h:fd.params={posonlyargs:=[],args:=[],vararg:=none,kwonlyargs:=[],kw_defaults:=[],kwarg:=none,defaults:=[]})(h2:fd.defaults=.none)(h3:fd.kwdefaults=.none):bindArgs fd ⟨[],[]⟩=pure []:=by
 cases fd;dsimp only at h h2 h3;subst h h2 h3;rfl
theorem Lq{X:Cx}{fn:Str}{mt:SM}{k k':Nat}{x:XM}{m:EM}{Nl:List Str}{caps:List (Option Nat)}{scope:Scope}{params:Arguments}{body:Expr}{cls:List Str}{pn lpos pos:Pos}{cdv:Value}(R:OV X.prog X.w X.K X.mg X.base fn mt cls)(hL:∃Pt,B2 X.K X.mg cdv Pt)
  (hr:cF k' X.A) (hk:k+2<=k') (C:bC X Nl caps scope)
  (hx:∀(q:Str)(cd:Value)(f:Addr)(cl:List (Str×Addr)) (A:Around) (outer:List Env) (s:Shared) (H:Hp) (E:XK),cF k (A.deeper (envX q scope s.heap.objs.size f cd cl))->XE (GN (iu X.prog X.w) X.prog X.w X.K X.mg X.base Nl q scope cl f cd A outer s H E) E body x)
  (hm:∀(q:Str)(cd:Value)(f:Addr)(cl:List (Str×Addr)) (A:Around) (outer:List Env) (s:Shared) (H:Hp) (E:XK),cF k (A.deeper (envX q scope s.heap.objs.size f cd cl))->SE (GN (iu X.prog X.w) X.prog X.w X.K X.mg X.base Nl q scope cl f cd A outer s H E) body m)
  (hcd:X.env.code=cdv:=by ac_nf) (hd:defaultsOf params X.env=([],[]):=by ac_nf) (hp:∀fd:FuncData,fd.params=params->fd.defaults=.none->fd.kwdefaults=.none->bindArgs fd ⟨[],[]⟩=pure []:=by exact My)
  (LS:sy Nl scope:=by exact⟨rfl,rfl,rfl,by decide+kernel⟩) (hg:Gl X fn:=by unfold Gl;ac_nf) (hdb:(fn==("__debug__":Str))=false:=by ac_nf) (hst:starEach [.Lambda params body scope lpos] X.env=[(false,eval (.Lambda params body scope lpos) X.env)]:=by ac_nf):
  SE X (.Call (.Name fn pn) [.Lambda params body scope lpos] [] pos) (eA cls caps mt x m):=by
 obtain⟨fr,CS,fd,st,cn,cau,en,mk,tail,pa,pb',pc,p1,p2,p3,p4,p5,p6,p7,p8,p9,j,F,Sc,hmf,hkf,hb,hbody,⟨l0,l1,l2,lg⟩,⟨hms,hC⟩,⟨n0,n0',n2,n2'⟩,⟨s1,s2,s3⟩,ht⟩:=R.ex;obtain⟨Pt,L⟩:=hL;rw[<-hcd] at L;exact yu F Sc hmf hkf hb hbody l0 l1 l2 lg hms hC n0 n0' n2 n2' s1 s2 s3 (λcdv A outer s H E hr=>ht _ cdv A outer s H E hr) (hr.mono hk) L hd hp LS C hx hm hg hdb hst
section
variable {X:Cx} {a:Expr} {m:EM} {tb:List (Str×List Str)} {ns:List Str} {n:Str} {pn pb pos:Pos}
theorem CM(E:EX X.K X.mg tb ns)(hm:X.mg "isinstance"=none)(ha:SE X a m)(h0:tb.isEmpty=false:=by ac_nf)(hn:n∈ns:=by decide+kernel)(hgn:Gl X n:=by unfold Gl;ac_nf)(hg:Gl X "isinstance":=by unfold Gl;ac_nf)(hd:(n==("__debug__":Str))=false:=by ac_nf)
  (he:starEach [a,.Name n pb] X.env=(false,eval a X.env)::starEach [.Name n pb] X.env:=by ac_nf) (he2:starEach [.Name n pb] X.env=[(false,eval (.Name n pb) X.env)]:=by ac_nf) (hpl:(backTo pos (starEach [.Name n pb] X.env)).any (·.1)=false:=by ac_nf):SE X (.Call (.Name "isinstance" pn) [a,.Name n pb] [] pos) (nZ tb n m):=
 Ik E ha (by cases tb with | nil=>cases h0 | cons p r=>obtain⟨c0,a0⟩:=p;exact⟨c0,a0,by simp[Qj]⟩) hn hgn hg hm hd he he2 hpl
theorem Ls(E:EX X.K X.mg tb ns)(hm:X.mg "isinstance"=none)(hmn:X.mg "ValueError"=none)(ha:SE X a m)(hv:∀c as,tb.lookup c=some as->decide (("ValueError":Str)∈as)=true)(hgn:Gl X "ValueError":=by unfold Gl;ac_nf)(hg:Gl X "isinstance":=by unfold Gl;ac_nf)
  (he:starEach [a,.Name "ValueError" pb] X.env=(false,eval a X.env)::starEach [.Name "ValueError" pb] X.env:=by ac_nf) (he2:starEach [.Name "ValueError" pb] X.env=[(false,eval (.Name "ValueError" pb) X.env)]:=by ac_nf) (hpl:(backTo pos (starEach [.Name "ValueError" pb] X.env)).any (·.1)=false:=by ac_nf):
  SE X (.Call (.Name "isinstance" pn) [a,.Name "ValueError" pb] [] pos) (nZ tb "ValueError" m):=FD E ha hv hgn hmn hg hm he he2 hpl
theorem O8(h:tb.all (λp=>decide (("ValueError":Str)∈p.2))=true):∀c as,tb.lookup c=some as->decide (("ValueError":Str)∈as)=true:=λc as e=>Rh.mp h _ (Qh e)
end
end Sm
namespace Hd
open PySem PySem.W PySem.Spec PyProof.Rows L2 Sm
theorem NM{q:Program}{loose:List Str}{mean:ExcName->Option Value}{mg mb:Str->Option Value}{h:Heap}{tb:List (Str×List Str)}{ns cls:List Str}(T:Top q loose mean mg mb h)(Y:pP h (tb.map (·.1)) ns=xM tb ns)(hS:specOf q "StuckError"=some ("ValueError.__new__",Co))(hn:("StuckError":Str)∈ns)
  (hc:∀c∈cls,specOf q c=some ("ValueError.__new__",Co)/\∃as,tb.lookup c=some as/\("StuckError":Str)∈as):∃CS,mg "StuckError"=some (.ref CS)/\∀c∈cls,XC (aC h) mg CS c:=by
 obtain⟨CS,O,_⟩:=T.ownAt hS;exact⟨CS,O.bound,λc hcm=>KZ T Y O.bound hS hn (hc c hcm).1 (hc c hcm).2⟩
end Hd
namespace Pg
open PySem Sm L2
abbrev Term:=Str×Int
abbrev Lock:=Str×Term
inductive Row where
 | say (w:Str)
 | call (d:Str) (ts:List Term)
 | within (l:Lock) (b:List Row)
 | all (ls:List Lock) (b:List Row)
 | ask (l:Lock) (b e:List Row)
 | mQ (s t:Term) (a b c:List Row)
 | either (a b:List Row)
 | again (a:List Row)
noncomputable def bq(t:Term):D:=.tup [.str t.1,.int t.2]
noncomputable def aG(l:Lock):D:=.tup [.str l.1,bq l.2]
mutual
noncomputable def ax:Row->D
 | .say w=>.tup [.str "say",.str w]
 | .call d ts=>.tup [.str "call",.str d,.tup (ts.map bq)]
 | .within l b=>.tup [.str "within",aG l,.tup (b9 b)]
 | .all ls b=>.tup [.str "all",.tup (ls.map aG),.tup (b9 b)]
 | .ask l b e=>.tup [.str "ask",aG l,.tup (b9 b),.tup (b9 e)]
 | .mQ s t a b c=>.tup [.str "by",bq s,bq t,.tup (b9 a),.tup (b9 b),.tup (b9 c)]
 | .either a b=>.tup [.str "either",.tup (b9 a),.tup (b9 b)]
 | .again a=>.tup [.str "again",.tup (b9 a)]
noncomputable def b9:List Row->List D
 | []=>[]
 | r::rs=>ax r::b9 rs
end
theorem aY:∀l:List Row,b9 l=l.map ax
 | []=>by simp[b9]
 | r::rs=>by simp[b9,aY rs]
mutual
noncomputable def cnt:Row->Nat
 | .say _=>1
 | .call _ _=>1
 | .within _ b=>1+ao b
 | .all _ b=>1+ao b
 | .ask _ b e=>1+ao b+ao e
 | .mQ _ _ a b c=>1+ao a+ao b+ao c
 | .either a b=>1+ao a+ao b
 | .again a=>1+ao a
noncomputable def ao:List Row->Nat
 | []=>0
 | r::rs=>cnt r+ao rs
end
theorem mO:∀a b:List Row,ao (a++b)=ao a+ao b
 | [],b=>by simp[ao]
 | r::a,b=>by simp[ao,mO a b];lia
theorem r8:∀a:List Row,a.length<=ao a
 | []=>by simp
 | r::a=>by
  have:=r8 a;have:1<=cnt r:=by cases r <;> simp[cnt] <;> lia
  simp[ao];lia
structure Wd where
 names:List Str
 aj:List Str
 params:List (List Str)
def eP(ps:List Str)(t:Term):Prop:=(t.1=Str.ofString ""\/t.1∈ps)/\-99<=t.2/\t.2<=99
def fA(W:Wd)(ps:List Str)(l:Lock):Prop:=l.1∈W.names/\eP ps l.2
mutual
def bG(W:Wd)(ps:List Str):Nat->Row->Prop
 | _,.say w=>w∈W.names++W.aj
 | _,.call d ts=>(∃(j:Nat)(qs:List Str),W.aj[j]?=some d/\W.params[j]?=some qs/\ts.length=qs.length)/\∀t∈ts,eP ps t
 | n,.within l b=>fA W ps l/\n < 5/\b.length<=12/\bN W ps (n+1) b
 | n,.all ls b=>(2<=ls.length/\ls.length<=4/\ls.Nodup/\∀l∈ls,fA W ps l)/\n < 5/\b.length<=12/\bN W ps (n+1) b
 | n,.ask l b e=>fA W ps l/\n < 5/\b.length<=12/\e.length<=12/\bN W ps (n+1) b/\bN W ps (n+1) e
 | n,.mQ s t a b c=>eP ps s/\eP ps t/\n < 5/\a.length<=12/\b.length<=12/\c.length<=12/\bN W ps (n+1) a/\bN W ps (n+1) b/\bN W ps (n+1) c
 | n,.either a b=>n < 5/\a.length<=12/\b.length<=12/\bN W ps (n+1) a/\bN W ps (n+1) b
 | n,.again a=>n < 5/\a.length<=12/\bN W ps (n+1) a
def bN(W:Wd)(ps:List Str):Nat->List Row->Prop
 | _,[]=>True
 | n,r::rs=>bG W ps n r/\bN W ps n rs
end
theorem tY{W:Wd}{ps:List Str}{n:Nat}:∀{a b:List Row},bN W ps n a->bN W ps n b->bN W ps n (a++b)
 | [],b,_,h=>h
 | r::a,b,h,h'=>by
  unfold bN at h;show bN W ps n (r::(a++b));unfold bN;exact⟨h.1,tY h.2 h'⟩
theorem tX{W:Wd}{ps:List Str}{n:Nat}:∀{a:List Row},bN W ps n a->∀r∈a,bG W ps n r
 | [],_,_,z=>by cases z
 | r::a,h,x,hx=>by
  unfold bN at h;rcases PB.mp hx with rfl | hx
  ·exact h.1
  ·exact tX h.2 x hx
end Pg
set_option hygiene false in
local macro_rules | `(tactic| ac_rfl) => do {let t <- (("|Sm.sv _|Sm.aF|Sm.aq|Sm.aa ? ?|Sm.ae ? ?|Sm.aL ?|Sm.bZ ?|Sm.sset _ @ ?|Sm.cc ? ? ?|Sm.bK|Sm.six hr ? ?|Sm.ft @ hr ?|Sm.a8|Sm.CT|Sm.Ha|Sm.NF ?|Sm.NG ?|Sm.ND ?|Sm.NH ?|Sm.NC ?|Sm.stp5 ?|Sm.NB ?|Sm.Lp ? ? ?|Sm.aU ? ? ?|Sm.aX|Sm.Jf hr.units|Sm.qZ hr.units|Sm.DI|Sm.DK|Sm.DJ|Sm.Hl|Sm.Je|Sm.os_notN|Sm.LU hr.units|Sm.xn hr.units|Sm.yK|Sm.q9|Sm.zE Sm.uM ?|Sm.CP ? ? ?|Sm.zC|Sm.zB ?|Sm.dY ? ?|Sm.jb rfl ?|Sm.bu ? ?|Sm.gj|Sm.sgn _ @|Sm.E9 Sm.wa B.Az Sm.wx ?|Sm.Hb Sm.jC B.mT Sm.jD ?|Sm.yo ?|Sm.qt ?|Sm.Ly ? ? ?|Sm.jO ?|Sm.kJ Sm.ix PySem.F.plainAttrs_list PySem.F.slot_list_append PySem.F.type_list_append Sm.jU ? ?|Sm.Lw Sm.ix PySem.F.plainAttrs_list PySem.F.slot_list_pop PySem.F.type_list_pop Sm.Jx ?|Sm.lu.lv ?|Sm.lu.ob ?|Sm.NL ?|Sm.NK ?|Sm.NJ ?|Sm.sfl3 ?|Sm.sfl4 ?|Sm.sfl5 ?|Sm.sfl6 ?|Sm.sfl7 ?|Sm.NI ?|Sm.CB ? ?|Sm.G8 ? ?|Sm.zy ?|Sm.CA ?|Sm.cN PassesOwn.never rfl ? ? ?|Sm.gG ?|Sm.ss_brk|Sm.E9 Sm.ED~rfl B.Hx Sm.ES ?|Sm.E9 Sm.Kh~rfl B.Mz Sm.Ku ?|Sm.Hb Sm.Ki B.MA Sm.Kv ?|Sm.E9 Sm.Kj B.MB Sm.Kw ?|Sm.Lv ? ? ?|Sm.SW.st ?".splitOn "|").drop 1).toArray.mapM (λl => do {let x <- (l.splitOn " ").toArray.mapM (λz => if z == "?" then `(?_) else if z == "_" then `(_) else if z == "@" then `(‹_›) else(let y := (z.splitOn "~").toArray.map (λw => (Lean.mkIdent w.toName : Lean.TSyntax `term));pure (Lean.Syntax.mkApp y[0]! (y.extract 1 y.size))));`(Lean.Parser.Tactic.tacticSeq| refine $(Lean.Syntax.mkApp x[0]! (x.extract 1 x.size)) <;> ac_rfl)});`(tactic| with_reducible first $[| $t]*)}
local macro_rules | `(tactic| walk_at "v") => `(tactic|(conv => arg 2;whnf))
local macro_rules | `(tactic| walk_at "u") => `(tactic|(walk_at "v";ac_rfl))
namespace Mi
open PySem L2 Sm PySem.Spec PyProof.Rows
local macro_rules | `(tactic| walk_at "b") => `(tactic| first | exactλF => F.binds λ_ _ _ _ _ _ => Hd.u1 (λ_ => rfl) | exactλF => F.binds λ_ _ _ _ _ _ => Hd.u2 (λ_ _ => rfl) | exactλF => F.binds λ_ _ _ _ _ _ => Hd.u3 (λ_ _ _ => rfl) | exactλF => F.binds λ_ _ _ _ _ _ => Hd.u4 (λ_ _ _ _ => rfl) | exactλF => F.binds λ_ _ _ _ _ _ => Hd.u5 (λ_ _ _ _ _ => rfl) | exactλF => F.binds λ_ _ _ _ _ _ => Hd.u6 (λ_ _ _ _ _ _ => rfl) | exactλF => F.binds λ_ _ _ _ _ _ => Hd.u7 (λ_ _ _ _ _ _ _ => rfl))
structure Bs(P:Program)(w:World)(K:FR)(mg:Str->Option Value):Prop where
 wB:mg "ValueError"=none
 MB:mg "abs"=none
 fm:mg "enumerate"=none
 MA:mg "int"=none
 dc:mg "isinstance"=none
 Az:mg "len"=none
 EW:mg "list"=none
 Hx:mg "max"=none
 Mz:mg "min"=none
 cZ:mg "range"=none
 xX:mg "sorted"=none
 Hw:mg "str"=none
 mT:mg "tuple"=none
 kH:OK mg "MOST_IN_LOT" (.int (12))
 x8:Tab P w K mg "SHAPES" eL
 KU:EX K mg gf pM
 S_:∃CS,mg "StuckError"=some (.ref CS)/\∀c∈ph,XC K mg CS c
abbrev Rc(x:Str)(s:Stmt):Prop:=(recsOf view).find? (λe=>e.name==x)=some (Hd.lW x s)
abbrev lO:Stmt:=top 24
abbrev mn:List Str:=["_law_script"]
theorem sG:aB ["_law_script"] mn (ah lO):=by walk_at "s"
theorem qQ:Rc "_law_drawn" lO:=by ac_nf
noncomputable def fL:Fn:=jT 1
  (bg (yb (a3 (ki 0) (yb (E3 (a1 (ib v0 tV (tW (ki 63)))))) (ki 0))))
abbrev oy:Stmt:=top 25
abbrev oN:List Str:=["_law_state"]
theorem iB:aB ["_law_state","_law_cells","_law_tour","_law_cell","_law_mixed"] oN (ah oy):=by walk_at "s"
theorem sO:Rc "_law_load" oy:=by ac_nf
noncomputable def jJ:Fn:=jT 5
  (au (aS 1 (ak aQ v0 (ki 1)))
  (au (aS 2 (ak aQ v0 (ki 2)))
  (au (fe (ak av v2 (ki 1)) (pO v0 (ki 2)))
  (au (aS 3 (ki 0))
  (au (fO (aE (ak jz v1 (fB aM))) (aS 3 (ak aQ v1 (ak rL v2 (aw cm (a1 v1))))) cu)
  (fO (pF (aE (ak BG v2 (aw cm (a1 v1)))) (aE (ak Mn (aw JZ (a1 v3)) (ak Ej (ki 10) (ki 18))))) (fe (aw JZ (a1 v3)) (pO v0 (ki 0))) (au (aS 4 (ak rL (ak hW (ak av (ak av (ak rL v3 (ki 2305843009213693951)) (ak hW (ak hW (ki 7919) v2) v2)) (ki 11)) (ki 48271)) (ki 2305843009213693951)))
  (au (aS 4 (ak rL (ak hW v4 v4) (ki 2305843009213693921)))
  (fe (ak av (ak rL (ak av (ak av (ak hW v4 (ki 69621)) v2) (ki 104729)) (ki 2305843009213693951)) (ak Ej (ki 10) (ki 9))) (pO v0 (ki 0)))))))))))
abbrev ow:Stmt:=top 26
abbrev oK:List Str:=["_law_state","_law_many"]
theorem vb:aB ["_law_state","_law_many","_law_found"] oK (ah ow):=by walk_at "s"
theorem sM:Rc "_law_next" ow:=by ac_nf
noncomputable def aH:Fn:=jT 3
  (au (fO (aE (ak BG (ak aQ v0 (ki 0)) v1)) (gk (aw jJ (a1 v0))) cu)
  (au (aS 2 (ak rL (ak aQ v0 (ki 0)) v1))
  (au (fe (ak Ep (ak aQ v0 (ki 0)) v1) (pO v0 (ki 0)))
  (bg v2))))
abbrev tI:Stmt:=top 27
abbrev tU:List Str:=["_law_state","_law_some"]
theorem yA:aB ["_law_state","_law_some"] tU (ah tI):=by walk_at "s"
theorem w9:Rc "_law_of" tI:=by ac_nf
noncomputable def aT:Fn:=jT 2
  (bg (ak aQ v1 (aw aH (a2 v0 (aw cm (a1 v1))))))
abbrev lL:Stmt:=top 28
abbrev mh:List Str:=["_law_state","_law_many"]
theorem kl:aB ["_law_state","_law_many","_law_letters","_law_stem","_law_k","_law_at","_law_first","_law_stride"] mh (ah lL):=by walk_at "s"
theorem qN:Rc "_law_words" lL:=by ac_nf
noncomputable def eD:Fn:=jT 8
  (au (aS 2 (ks "abcdefghijklmnopqrstuvwxyz"))
  (au (aS 3 (ks ""))
  (au (iC (nS (a1 (aw aT (a2 v0 (eK (.lv [.int 0,.int 1,.int 1,.int 2,.int 3,.int 6])))))) (gN 4) (aS 3 (ak av v3 (ak aQ v2 (aw aH (a2 v0 (ki 26)))))))
  (au (aS 5 (aw aH (a2 v0 (ak av (aw cm (a1 v3)) (ki 1)))))
  (au (aS 6 (aw aH (a2 v0 (ki 26))))
  (au (aS 7 (aw aT (a2 v0 (eK (.lv [.int 1,.int 3,.int 5,.int 7,.int 9,.int 11])))))
  (bg (fB (b8 [none,some 5,some 6,some 2,some 3,some 7] (nS (a1 v1)) (gN 0) dD (ak av (ak av (ib v4 tV (tW v1)) (ak aQ v3 (ak rL (ak av v2 (ak hW v5 v0)) (ki 26)))) (ib v4 (tW v1) tV)))))))))))
abbrev lK:Stmt:=top 29
abbrev md:List Str:=["_law_state","_law_most","_law_odd"]
theorem cK:aB ["_law_state","_law_most","_law_odd","_law_names","_law_deeds","_law_params","_law_many","_law_floors"] md (ah lK):=by walk_at "s"
theorem qM:Rc "_law_world" lK:=by ac_nf
noncomputable def iU:Fn:=jT 8
  (au (aS 3 (aw eD (a2 v0 (aw aT (a2 v0 (eK (.lv [.int 1,.int 2,.int 2,.int 3,.int 4,.int 6])))))))
  (au (aS 4 (aw eD (a2 v0 (aw aT (a2 v0 (eK (.lv [.int 1,.int 1,.int 2,.int 2,.int 3,.int 4,.int 6])))))))
  (au (aS 5 (aw eD (a2 v0 (ki 3))))
  (au (aS 6 (fB (b8 [none,some 0] (eG v4) (gN 0) dD (aw aT (a2 v1 (eK (.lv [.int 0,.int 1,.int 1,.int 2,.int 2,.int 3])))))))
  (au (aS 7 (aw Eg (a1 (fB (b8 [none,some 3,some 0] (eG v4) (gN 0) dD (aw aH (a2 v2 (aw cm (a1 v1)))))))))
  (au (aS 5 (fB (b8 [none,some 5] (eG v6) (gN 0) dD (ib v1 tV (tW v0)))))
  (bg (za (eJ (ks "names") v3 (eJ (ks "deeds") v4 (eJ (ks "params") v5 (eJ (ks "floors") v7 (eJ (ks "left") v1 (eJ (ks "odd") v2 Gb))))))))))))))
abbrev ko:Stmt:=top 30
abbrev kr:List Str:=["_law_state","_law_world_here"]
theorem qA:aB ["_law_state","_law_world_here"] kr (ah ko):=by walk_at "s"
theorem pH:Rc "_law_is_odd" ko:=by ac_nf
noncomputable def dz:Fn:=jT 2
  (bg (Kd (ak vV (ak aQ v1 (ks "odd")) (ki 0)) (ak cR (aw aH (a2 v0 (ak aQ v1 (ks "odd")))) (ki 0))))
abbrev ot:Stmt:=top 31
abbrev oI:List Str:=["_law_state","_law_params"]
theorem uZ:aB ["_law_state","_law_params","_law_far"] oI (ah ot):=by walk_at "s"
theorem sJ:Rc "_law_term" ot:=by ac_nf
noncomputable def bW:Fn:=jT 3
  (au (aS 2 (ak mG (aw aH (a2 v0 (ki 81))) (ki 40)))
  (au (fO (pF (aE (ak vV (aw cm (a1 v1)) (ki 0))) (aE (ak vV (aw aH (a2 v0 (ki 5))) (ki 0)))) (bg (aw aJ (a2 (aw aT (a2 v0 v1)) (aw aT (a2 v0 (fB (ag (ki 0) (ag (ki 0) (ag (ki 0) (ag (ki 0) (ag (ki 1) (a4 (ki 1) (vY j9 (ki 1)) (ki 2) v2)))))))))))) cu)
  (bg (aw aJ (a2 (ks "") (aw aT (a2 v0 (fB (ag (ki 0) (ag (ki 0) (ag (ki 1) (ag (ki 1) (a4 (ki 2) (ki 3) (vY j9 (ki 1)) v2)))))))))))))
abbrev oB:Stmt:=top 33
abbrev oQ:List Str:=["_law_state","_law_world_here","_law_deed","_law_top"]
theorem fJ:aB ["_law_state","_law_world_here","_law_deed","_law_top","_law_some","_law_other","_law_terms"] oQ (ah oB):=by walk_at "s"
theorem sR:Rc "_law_call" oB:=by ac_nf
noncomputable def gE:Fn:=jT 7
  (au (aS 4 (fB (b8 [none,some 2,some 3,some 1] (nS (a1 (aw cm (a1 (ak aQ v1 (ks "deeds")))))) (gN 0) (pF (aE (ak vV (ak aQ (ak aQ v3 (ks "floors")) v0) v2)) (aE (ak Mn v0 v1))) v0)))
  (au (fO (uO (aw dz (a2 v0 v1))) (aS 4 (fB (Kz (a1 (aw cm (a1 (ak aQ v1 (ks "deeds")))))))) cu)
  (au (fO (aE (ak cR v4 (fB aM))) (bg (aw aJ (a2 (ks "say") (ak aQ (ak aQ v1 (ks "deeds")) v2)))) cu)
  (au (aS 5 (aw aT (a2 v0 v4)))
  (au (aS 6 (fB (b8 [none,some 2,some 0,some 1] (eG (ak aQ (ak aQ v1 (ks "params")) v5)) (gN 0) dD (aw bW (a2 v2 (ak aQ (ak aQ v3 (ks "params")) v1))))))
  (bg (aw aJ (a3 (ks "call") (ak aQ (ak aQ v1 (ks "deeds")) v5) (aw dI (a1 v6))))))))))
abbrev ox:Stmt:=top 32
abbrev oM:List Str:=["_law_state","_law_world_here","_law_deed","_law_top","_law_held"]
theorem lI:aB ["_law_state","_law_world_here","_law_deed","_law_top","_law_held","_law_low","_law_at","_law_name","_law_same","_law_word","_law_more"] oM (ah ox):=by walk_at "s"
theorem sN:Rc "_law_lock" ox:=by ac_nf
noncomputable def fq:Fn:=jT 11
  (au (aS 5 (aw rN (a2 v3 (ak aQ (ak aQ v1 (ks "floors")) v2))))
  (au (fO (aE (ak cR v5 (aw cm (a1 (ak aQ v1 (ks "names")))))) (bg (aw aJ (a2 (eK .cj) (eK .cj)))) cu)
  (au (aS 6 (ak av v5 (aw aH (a2 v0 (ak mG (aw cm (a1 (ak aQ v1 (ks "names")))) v5)))))
  (au (fO (uO (aw dz (a2 v0 v1))) (aS 6 (aw aH (a2 v0 (aw cm (a1 (ak aQ v1 (ks "names"))))))) cu)
  (au (aS 7 (ak aQ (ak aQ v1 (ks "names")) v6))
  (au (aS 8 (fB (b8 [none,some 7] (eG v4) (gN 0) (aE (ak cR (ak aQ v0 (ki 0)) v1)) (ak aQ v0 (ki 1)))))
  (au (fO (pF (aE (ak jz v8 (fB aM))) (pE (uO (aw dz (a2 v0 v1))))) (au (fe (ak aQ v8 (vY j9 (ki 1))) (gT 2 (ar (gN 9) (ar (gN 10) bS))))
  (bg (aw aJ (a2 v6 (aw aJ (a2 v7 (aw aJ (a2 v9 (aw Ek (a2 (ki 99) (ak av (ak av v10 (ki 1)) (aw aH (a2 v0 (ki 2)))))))))))))) cu)
  (bg (aw aJ (a2 v6 (aw aJ (a2 v7 (aw bW (a2 v0 (ak aQ (ak aQ v1 (ks "params")) v2)))))))))))))))
abbrev qH:Stmt:=top 37
abbrev kX:List Str:=["_law_state","_law_world_here","_law_deed","_law_deep","_law_top","_law_held","_law_most"]
theorem wV:aB ["_law_state","_law_world_here","_law_deed","_law_deep","_law_top","_law_held","_law_most","_law_rows","_law_k"] kX (ah qH):=by walk_at "s"
theorem lV:Rc "_law_lot" qH:=by ac_nf
abbrev qG:Stmt:=top 36
abbrev kW:List Str:=["_law_state","_law_world_here","_law_deed","_law_deep","_law_top","_law_held"]
theorem cO:aB ["_law_state","_law_world_here","_law_deed","_law_deep","_law_top","_law_held","_law_way","_law_one","_law_other","_law_lots","_law_sort_here"] kW (ah qG):=by walk_at "s"
theorem lU:Rc "_law_row" qG:=by ac_nf
abbrev km:Stmt:=top 35
abbrev gH:List Str:=["_law_state","_law_world_here","_law_deed","_law_deep","_law_top","_law_held","_law_way"]
theorem cP:aB ["_law_state","_law_world_here","_law_deed","_law_deep","_law_top","_law_held","_law_way","_law_at","_law_lock_here","_law_some","_law_high","_law_turn","_law_low","_law_other","_law_lot_here"] gH (ah km):=by walk_at "s"
theorem i4:Rc "_law_locked" km:=by ac_nf
abbrev i3:Stmt:=top 34
abbrev fz:List Str:=["_law_state","_law_world_here","_law_deed","_law_deep","_law_top","_law_held"]
theorem cV:aB ["_law_state","_law_world_here","_law_deed","_law_deep","_law_top","_law_held","_law_low","_law_name","_law_one","_law_other","_law_lots","_law_first","_law_second","_law_inner"] fz (ah i3):=by walk_at "s"
theorem gn:Rc "_law_two_ways" i3:=by ac_nf
mutual
noncomputable def bJ:Nat->Fn
 | 0=>λ_ _=>none
 | n+1=>Fd 9
  (au (aS 7 (yb aM))
  (au (iC (nS (a1 (aw aH (a2 v0 (ak av (aw aT (a2 v0 (ak av (ak tj (fB (a1 v6)) (ki 15)) (fB (a1 (ki 12)))))) (ki 1)))))) (gN 8) (fO (aE (ak vV (ak aQ v1 (ks "left")) (ki 0))) (au (fe (ak mG (ak aQ v1 (ks "left")) (ki 1)) (pO v1 (ks "left")))
  (gk (eM dh eg v7 (a1 (aw (gb n) (ag v0 (ag v1 (a4 v2 v3 v4 v5)))))))) cu))
  (bg (aw dI (a1 v7)))))
noncomputable def gb:Nat->Fn
 | 0=>λ_ _=>none
 | n+1=>jT 11
  (au (aS 6 (aw aH (a2 v0 (ki 16))))
  (au (fO (Ft (aE (ak BG v6 (ki 2))) (pF (aE (ak cR v3 (ki 5))) (aE (ak BG v6 (ki 11))))) (bg (aw aJ (a2 (ks "say") (aw aT (a2 v0 (ak av (ak aQ v1 (ks "names")) (ak aQ v1 (ks "deeds")))))))) cu)
  (au (fO (Ft (aE (ak vV v6 (ki 12))) (aE (ak cR v3 (ki 5)))) (bg (aw gE (a4 v0 v1 v2 v4))) cu)
  (au (fO (pF (aE (ak cR v6 (ki 12))) (pF (aE (ak BG v3 (ki 3))) (aE (ak vV (ak aQ v1 (ks "left")) (ki 5))))) (bg (aw (cJ n) (ag v0 (ag v1 (a4 v2 v3 v4 v5))))) cu)
  (au (fO (Ft (aE (ak cR v6 (ki 11))) (aE (ak cR v6 (ki 12)))) (au (ve 7 8 (a2 (aw bW (a2 v0 (ak aQ (ak aQ v1 (ks "params")) v2))) (aw bW (a2 v0 (ak aQ (ak aQ v1 (ks "params")) v2)))))
  (au (aS 9 (fB (b8 [none,some 2,some 3,some 5,some 0,some 4,some 1] (nS (a1 (ki 3))) (gN 0) dD (aw (bJ n) (ag v4 (ag v6 (ag v1 (a4 (ak av v2 (ki 1)) v5 v3 (ki 2)))))))))
  (bg (ak av (aw aJ (a3 (ks "by") v7 v8)) (aw dI (a1 v9)))))) cu)
  (au (fO (aE (ak cR v6 (ki 10))) (au (aS 9 (fB (b8 [none,some 2,some 3,some 5,some 0,some 4,some 1] (nS (a1 (ki 2))) (gN 0) dD (aw (bJ n) (ag v4 (ag v6 (ag v1 (a4 (ak av v2 (ki 1)) v5 v3 (ki 2)))))))))
  (bg (ak av (aw aJ (a1 (ks "either"))) (aw dI (a1 v9))))) cu)
  (au (fO (aE (ak cR v6 (ki 9))) (bg (aw aJ (a2 (ks "again") (aw (bJ n) (ag v0 (ag v1 (ag v2 (a4 (ak av v3 (ki 1)) v4 v5 (ki 2))))))))) cu)
  (au (aS 10 (aw aT (a2 v0 (eK (.lv [.str "within",.str "within",.str "within",.str "within",.str "ask",.str "all"])))))
  (bg (aw (dy n) (ag v0 (ag v1 (ag v2 (a4 v3 v4 v5 v10))))))))))))))
noncomputable def dy:Nat->Fn
 | 0=>λ_ _=>none
 | n+1=>Fd 15
  (au (fe (aw fq (ag v0 (a4 v1 v2 v4 v5))) (gT 2 (ar (gN 7) (ar (gN 8) bS))))
  (au (fO (aE (ak JY v7 (eK .cj))) (bg (aw aJ (a2 (ks "say") (ak aQ (ak aQ v1 (ks "deeds")) v2)))) cu)
  (au (fO (aE (ak cR v6 (ks "all"))) (au (ve 9 10 (a2 (yb (a1 v8)) v7))
  (au (iC (nS (a1 (aw aT (a2 v0 (eK (.lv [.int 1,.int 1,.int 2,.int 3])))))) (gN 11) (au (fe (aw fq (ag v0 (a4 v1 v2 v4 v5))) (gT 2 (ar (gN 12) (ar (gN 13) bS))))
  (au (aS 10 (aw rN (a2 v10 Np)))
  (aS 9 (yb (BY v9 (ak tj (fB (a1 Nm)) (aw nW (a1 (ak iO Nm v9))))))))))
  (au (fO (aE (ak cR (aw cm (a1 v9)) (ki 1))) (gk (eM dh eg v9 (a1 (aw aJ (a2 (ak aQ v8 (ki 0)) (aw aJ (a2 (ak aQ (ak aQ v8 (ki 1)) (ki 0)) (ak mG (ak av (ak aQ (ak aQ v8 (ki 1)) (ki 1)) (ki 1)) (ak hW (ki 2) (aw nW (a1 (ak vV (ak aQ (ak aQ v8 (ki 1)) (ki 1)) (ki 90))))))))))))) cu)
  (au (aS 10 (ak av v10 (aw nW (a1 (ak cR (ak aQ v1 (ks "odd")) (ki 0))))))
  (bg (aw aJ (a3 (ks "all") (aw dI (a1 v9)) (aw (bJ n) (ag v0 (ag v1 (ag v2 (a4 (ak av v3 (ki 1)) (aw rN (a2 v4 v10)) (ak av v5 v9) (ki 3))))))))))))) cu)
  (au (aS 14 (aw (bJ n) (ag v0 (ag v1 (ag v2 (a4 (ak av v3 (ki 1)) (aw rN (a2 v4 v7)) (ak av v5 (fB (a1 v8))) (ki 3)))))))
  (au (fO (aE (ak cR v6 (ks "ask"))) (bg (aw aJ (a4 (ks "ask") v8 OM (aw (bJ n) (ag v0 (ag v1 (ag v2 (a4 (ak av v3 (ki 1)) v4 v5 (ki 2))))))))) cu)
  (bg (aw aJ (a3 (ks "within") v8 OM))))))))
noncomputable def cJ:Nat->Fn
 | 0=>λ_ _=>none
 | n+1=>Fd 14
  (au (aS 6 (aw rN (a2 v4 (ak aQ (ak aQ v1 (ks "floors")) v2))))
  (au (fO (aE (ak cR v6 (aw cm (a1 (ak aQ v1 (ks "names")))))) (bg (aw aJ (a2 (ks "say") (ak aQ (ak aQ v1 (ks "deeds")) v2)))) cu)
  (au (fO (aE (ak jz (fB (b8 [none,some 6,some 1] (eG v5) (gN 0) (aE (ak cR (ak aQ v0 (ki 0)) (ak aQ (ak aQ v2 (ks "names")) v1))) v0)) (fB aM))) (bg (aw aJ (a2 (ks "say") (ak aQ (ak aQ v1 (ks "deeds")) v2)))) cu)
  (au (aS 7 (ak aQ (ak aQ v1 (ks "names")) v6))
  (au (fe (ak mG (ak aQ v1 (ks "left")) (ki 5)) (pO v1 (ks "left")))
  (au (ve 8 9 (a2 (aw bW (a2 v0 (ak aQ (ak aQ v1 (ks "params")) v2))) (aw bW (a2 v0 (ak aQ (ak aQ v1 (ks "params")) v2)))))
  (au (aS 10 (yb aM))
  (au (iC (eG (fB (a2 (aw aJ (a2 v8 v9)) (aw aJ (a2 v9 v8))))) (gT 2 (ar (gN 11) (ar (gN 12) bS))) (au (aS 13 (aw (bJ n) (ag v0 (ag v1 (ag v2 (a4 (ak av v3 (ki 3)) v6 (ak av v5 (fB (a2 (aw aJ (a2 v7 v11)) (aw aJ (a2 v7 Np))))) (ki 2)))))))
  (gk (eM dh eg v10 (a1 (aw aJ (a1 (aw aJ (a3 (ks "within") (aw aJ (a2 v7 v11)) (aw aJ (a1 (aw aJ (a3 (ks "within") (aw aJ (a2 v7 Np)) Nm)))))))))))))
  (bg (aw aJ (ag (ks "by") (ag v8 (a4 v9 (ak aQ v10 (ki 0)) (aw aJ (a1 (aw aJ (a3 (ks "within") (aw aJ (a2 v7 v8)) (aw aJ aM))))) (ak aQ v10 (ki 1)))))))))))))))
end
abbrev ji:Stmt:=top 38
abbrev jr:List Str:=["_law_state","_law_most","_law_odd"]
theorem iY:aB ["_law_state","_law_most","_law_odd","_law_world_here","_law_deeds","_law_k","_law_deed","_law_rows"] jr (ah ji):=by walk_at "s"
theorem nE:Rc "_law_program" ji:=by ac_nf
noncomputable def gc:Fn:=Fd 8
  (au (aS 3 (aw iU (a3 v0 v1 v2)))
  (au (aS 4 (yb aM))
  (au (iC (rH (a1 (ak aQ v3 (ks "deeds")))) (gT 2 (ar (gN 5) (ar (gN 6) bS))) (au (aS 7 (aw (bJ 20) (ag v0 (ag v3 (ag v5 (a4 (ki 1) (vY j9 (ki 1)) (fB aM) (aw aT (a2 v0 (eK (.lv [.int 1,.int 2,.int 3,.int 4,.int 12]))))))))))
  (gk (eM dh eg v4 (a1 (aw aJ (a3 v6 (aw dI (a1 (ak aQ (ak aQ v3 (ks "params")) v5))) v7)))))))
  (bg (aw aJ (a2 (aw dI (a1 (aw Ef (a1 (ak aQ v3 (ks "names")))))) (aw dI (a1 v4))))))))
abbrev qI:Stmt:=top 39
abbrev qY:List Str:=["_law_state"]
theorem wW:aB ["_law_state"] qY (ah qI):=by walk_at "s"
theorem vj:Rc "_law_any" qI:=by ac_nf
noncomputable def lx:Fn:=jT 1
  (bg (aw gc (a3 v0 (aw aT (a2 v0 (eK (.lv [.int 4,.int 8,.int 12,.int 20,.int 40,.int 60])))) (aw aT (a2 v0 (eK (.lv [.int 0,.int 2,.int 5,.int 9])))))))
abbrev gR:Stmt:=top 40
abbrev gY:List Str:=["_law_term_here"]
theorem lG:aB ["_law_term_here","_law_word","_law_more"] gY (ah gR):=by walk_at "s"
theorem kO:Rc "_law_term_text" gR:=by ac_nf
noncomputable def bt:Fn:=jT 3
  (au (fe v0 (gT 2 (ar (gN 1) (ar (gN 2) bS))))
  (au (fO (Ft (aE (ak cR v1 (ks ""))) (aE (ak cR v2 (ki 0)))) (bg (Kc v1 (aw xI (a1 v2)))) cu)
  (bg (ak av (ak av v1 (ak hW (ks "+") (aw nW (a1 (ak vV v2 (ki 0)))))) (aw xI (a1 v2))))))
abbrev gU:Stmt:=top 41
abbrev gZ:List Str:=["_law_lock_here"]
theorem lH:aB ["_law_lock_here"] gZ (ah gU):=by walk_at "s"
theorem kP:Rc "_law_lock_text" gU:=by ac_nf
noncomputable def bY:Fn:=jT 1
  (bg (ak av (ak av (ak aQ v0 (ki 0)) (ks ":")) (aw bt (a1 (ak aQ v0 (ki 1))))))
abbrev oz:Stmt:=top 42
abbrev oO:List Str:=["_law_row_here"]
theorem vc:aB ["_law_row_here"] oO (ah oz):=by walk_at "s"
theorem sP:Rc "_law_head" oz:=by ac_nf
noncomputable def jK:Fn:=jT 1
  (au (fO (aE (ak cR (ak aQ v0 (ki 0)) (ks "say"))) (bg (ak av (ks "say ") (ak aQ v0 (ki 1)))) cu)
  (au (fO (aE (ak cR (ak aQ v0 (ki 0)) (ks "call"))) (bg (eM isStr oU (ks " ") (a1 (ak av (fB (a2 (ks "call") (ak aQ v0 (ki 1)))) (fB (b8 [none] (eG (ak aQ v0 (ki 2))) (gN 0) dD (aw bt (a1 v0)))))))) cu)
  (au (fO (aE (ak cR (ak aQ v0 (ki 0)) (ks "all"))) (bg (eM isStr oU (ks " ") (a1 (ak av (fB (a1 (ks "all"))) (fB (b8 [none] (eG (ak aQ v0 (ki 1))) (gN 0) dD (aw bY (a1 v0)))))))) cu)
  (au (fO (aE (ak Oi (ak aQ v0 (ki 0)) (aw aJ (a2 (ks "within") (ks "ask"))))) (bg (ak av (ak av (ak aQ v0 (ki 0)) (ks " ")) (aw bY (a1 (ak aQ v0 (ki 1)))))) cu)
  (au (fO (aE (ak cR (ak aQ v0 (ki 0)) (ks "by"))) (bg (ak av (ak av (ak av (ks "by ") (aw bt (a1 (ak aQ v0 (ki 1))))) (ks " ")) (aw bt (a1 (ak aQ v0 (ki 2)))))) cu)
  (bg (ak aQ v0 (ki 0))))))))
abbrev gS:Stmt:=top 43
abbrev eO:List Str:=["_law_lot_here","_law_first"]
theorem bw:aB ["_law_lot_here","_law_first","_law_found","_law_number","_law_row_here","_law_mine","_law_first_lot","_law_lots","_law_place","_law_inner","_law_lines_here"] eO (ah gS):=by walk_at "s"
theorem fP:Rc "_law_lot_lines" gS:=by ac_nf
noncomputable def bX:Nat->Fn
 | 0=>λ_ _=>none
 | n+1=>jT 11
  (au (ve 2 3 (a2 (yb aM) v1))
  (au (iC (eG v0) (gN 4) (au (aS 5 v3)
  (au (gk (eM dh eg v2 (a1 (aw aJ (a2 v5 (aw jK (a1 v4)))))))
  (au (aS 3 (ak av v3 (ki 1)))
  (au (aS 6 (eM D8 Jz (Ht (eJ (ks "say") (ki 2) (eJ (ks "call") (ki 3) (eJ (ks "by") (ki 3) (eJ (ks "either") (ki 1) (eJ (ks "again") (ki 1) Gb)))))) (a2 (ak aQ v4 (ki 0)) (ki 2))))
  (au (aS 7 (ib v4 (tW v6) tV))
  (au (iC (rH (a1 v7)) (gT 2 (ar (gN 8) (ar (gN 9) bS))) (au (aS 2 (yb (BY v2 (ak tj (fB (a1 (aw aJ (a2 v5 (ks "or"))))) (aw nW (a1 (ak vV v8 (ki 0))))))))
  (au (fe (aw (bX n) (a2 v9 v3)) (gT 2 (ar (gN 10) (ar (gN 3) bS))))
  (aS 2 (yb (BY v2 v10))))))
  (aS 2 (yb (BY v2 (ak tj (fB (a1 (aw aJ (a2 v5 (ks "end"))))) (aw nW (a1 (ak vV (aw cm (a1 v7)) (ki 0)))))))))))))))
  (bg (aw aJ (a2 v2 v3)))))
abbrev lN:Stmt:=top 44
abbrev mm:List Str:=["_law_program_here"]
theorem eW:aB ["_law_program_here","_law_found","_law_number","_law_deed","_law_params","_law_rows","_law_lines_here"] mm (ah lN):=by walk_at "s"
theorem qP:Rc "_law_lines" lN:=by ac_nf
noncomputable def iW:Fn:=Fd 7
  (au (ve 1 2 (a2 (fB (a1 (aw aJ (a2 (vY j9 (ki 1)) (eM isStr oU (ks " ") (a1 (ak av (aw aJ (a1 (ks "locks"))) (ak aQ v0 (ki 0))))))))) (ki 0)))
  (au (iC (eG (ak aQ v0 (ki 1))) (gT 3 (ar (gN 3) (ar (gN 4) (ar (gN 5) bS)))) (au (fe (aw (bX 8) (a2 v5 v2)) (gT 2 (ar (gN 6) (ar (gN 2) bS))))
  (aS 1 (ak av (ak av (ak av v1 (fB (a1 (aw aJ (a2 (vY j9 (ki 1)) (eM isStr oU (ks " ") (a1 (ak av (aw aJ (a2 (ks "deed") v3)) v4)))))))) v6) (fB (a1 (aw aJ (a2 (vY j9 (ki 1)) (ks "end")))))))))
  (bg v1)))
abbrev jj:Stmt:=top 46
abbrev jt:List Str:=["_law_texts_here"]
theorem dB:aB ["_law_texts_here","_law_counts","_law_most","_law_deep","_law_rows","_law_text","_law_word"] jt (ah jj):=by walk_at "s"
theorem nF:Rc "_law_measure" jj:=by ac_nf
noncomputable def eF:Fn:=Fd 7
  (au (fe (aw aJ (a4 (yb aM) (ki 0) (ki 0) (ki 0))) (gT 4 (ar (gN 1) (ar (gN 2) (ar (gN 3) (ar (gN 4) bS))))))
  (au (iC (eG (ib v0 (tW (ki 1)) tV)) (gN 5) (au (aS 6 (ak aQ (eM isStr nM v5 (a1 (ks " "))) (ki 0)))
  (fO (aE (ak cR v5 (ks "or"))) (fe (ki 0) (pO v1 (vY j9 (ki 1)))) (fO (aE (ak cR v5 (ks "end"))) (gk (eM dh Gn v1 aM)) (au (fO (aE (ak jz v1 (fB aM))) (au (fe (ak av (ak aQ v1 (vY j9 (ki 1))) (ki 1)) (pO v1 (vY j9 (ki 1))))
  (ve 4 2 (a2 (ak av v4 (ki 1)) (aw rN (a2 v2 (ak aQ v1 (vY j9 (ki 1)))))))) cu)
  (fO (aE (ak iO v6 (aw aJ (a2 (ks "say") (ks "call"))))) (au (gk (eM dh eg v1 (a1 (ki 0))))
  (aS 3 (aw rN (a2 v3 (aw cm (a1 v1)))))) cu))))))
  (bg (aw aJ (a3 v2 v3 v4)))))
abbrev lM:Stmt:=top 45
abbrev mj:List Str:=["_law_lines_here"]
theorem sF:aB ["_law_lines_here"] mj (ah lM):=by walk_at "s"
theorem qO:Rc "_law_texts" lM:=by ac_nf
noncomputable def iV:Fn:=jT 1
  (bg (fB (b8 [none,none] (eG v0) (gT 2 (ar (gN 0) (ar (gN 1) bS))) dD v1)))
abbrev ou:Stmt:=top 47
abbrev oJ:List Str:=["_law_lines_here","_law_number"]
theorem u9:aB ["_law_lines_here","_law_number"] oJ (ah ou):=by walk_at "s"
theorem sL:Rc "_law_sort" ou:=by ac_nf
noncomputable def gB:Fn:=jT 2
  (bg (ak aQ (eM isStr nM (ak aQ (fB (b8 [none,none,some 1] (eG v0) (gT 2 (ar (gN 0) (ar (gN 1) bS))) (aE (ak cR v0 v2)) v1)) (ki 0)) (a1 (ks " "))) (ki 0)))
abbrev tH:Stmt:=top 10
abbrev tT:List Str:=["row"]
theorem yx:aB ["row"] tT (ah tH):=by walk_at "s"
theorem w5:Rc "lots_of" tH:=by ac_nf
noncomputable def dR:Fn:=jT 1
  (bg (ib v0 (tW (ak aQ (vY (GF eL) (ak aQ v0 (ki 0))) (ki 0))) tV))
abbrev qD:Stmt:=top 12
abbrev kT:List Str:=["lot","ahead"]
theorem wR:aB ["lot","ahead","found","number","row","path","at","inner"] kT (ah qD):=by walk_at "s"
theorem lS:Rc "paths_in" qD:=by ac_nf
noncomputable def dJ:Nat->Fn
 | 0=>λ_ _=>none
 | n+1=>Fd 8
  (au (aS 2 (yb aM))
  (au (iC (rH (a1 v0)) (gT 2 (ar (gN 3) (ar (gN 4) bS))) (au (aS 5 (ak av v1 (aw aJ (a1 v3))))
  (au (gk (eM dh eg v2 (a1 (aw aJ (a2 v5 v4)))))
  (iC (rH (a1 (aw dR (a1 v4)))) (gT 2 (ar (gN 6) (ar (gN 7) bS))) (gk (eM dh jV v2 (a1 (aw (dJ n) (a2 v7 (ak av v5 (aw aJ (a1 v6))))))))))))
  (bg v2)))
abbrev oq:Stmt:=top 13
abbrev oH:List Str:=["program"]
theorem uY:aB ["program","found","deed","name","params","rows"] oH (ah oq):=by walk_at "s"
theorem sI:Rc "places_of" oq:=by ac_nf
noncomputable def dQ:Fn:=Fd 6
  (au (aS 1 (yb aM))
  (au (iC (rH (a1 (ak aQ v0 (ki 1)))) (gT 2 (ar (gN 2) (ar (gT 3 (ar (gN 3) (ar (gN 4) (ar (gN 5) bS)))) bS))) (gk (eM dh jV v1 (a1 (fB (b8 [none,none,some 2] (eG (aw (dJ 8) (a2 v5 (aw aJ aM)))) (gT 2 (ar (gN 0) (ar (gN 1) bS))) dD (aw aJ (a3 v2 v0 v1))))))))
  (bg v1)))
abbrev qC:Stmt:=top 18
abbrev kS:List Str:=["program","number"]
theorem je:aB ["program","number","places"] kS (ah qC):=by walk_at "s"
theorem lR:Rc "place_of" qC:=by ac_nf
noncomputable def eU:Fn:=jT 3
  (au (aS 2 (aw dQ (a1 v0)))
  (au (fO (pE (aE (iQ JX BG (ki 0) v1 (aw cm (a1 v2))))) vf cu)
  (bg (ak aQ v2 v1))))
abbrev qF:Stmt:=top 11
abbrev qW:List Str:=["row"]
theorem wU:aB ["row"] qW (ah qF):=by walk_at "s"
theorem vi:Rc "locks_of" qF:=by ac_nf
noncomputable def dO:Fn:=jT 1
  (au (fO (aE (ak cR (ak aQ v0 (ki 0)) (ks "all"))) (bg (ak aQ v0 (ki 1))) cu)
  (bg (Ol (aE (ak Oi (ak aQ v0 (ki 0)) (aw aJ (a2 (ks "within") (ks "ask"))))) (aw aJ (a1 (ak aQ v0 (ki 1)))) (aw aJ aM))))
abbrev iZ:Stmt:=top 19
abbrev fw:List Str:=["program","number"]
theorem br:aB ["program","number","deed","path","row"] fw (ah iZ):=by walk_at "s"
theorem gm:Rc "locking_place" iZ:=by ac_nf
noncomputable def dC:Fn:=jT 5
  (au (fe (aw eU (a2 v0 v1)) (gT 3 (ar (gN 2) (ar (gN 3) (ar (gN 4) bS)))))
  (au (fO (pE (uO (aw dO (a1 v4)))) vf cu)
  (bg (aw aJ (a3 v2 v3 v4)))))
abbrev wX:Stmt:=top 16
abbrev xm:List Str:=["rows","path"]
theorem AX:aB ["rows","path","lot","at"] xm (ah wX):=by walk_at "s"
theorem yF:Rc "lot_on" wX:=by ac_nf
noncomputable def iq:Fn:=jT 4
  (au (aS 2 v0)
  (au (iC (GA (a3 (ki 1) (aw cm (a1 v1)) (ki 2))) (gN 3) (aS 2 (ak aQ (aw dR (a1 (ak aQ v2 (ak aQ v1 (ak mG v3 (ki 1)))))) (ak aQ v1 v3))))
  (bg v2)))
abbrev tG:Stmt:=top 15
abbrev tS:List Str:=["program","deed"]
theorem yw:aB ["program","deed"] tS (ah tG):=by walk_at "s"
theorem wZ:Rc "rows_in" tG:=by ac_nf
noncomputable def fM:Fn:=jT 2
  (bg (ak aQ (ak aQ (ak aQ v0 (ki 1)) v1) (ki 2)))
abbrev qE:Stmt:=top 20
abbrev kU:List Str:=["lot","path","some"]
theorem jf:aB ["lot","path","some","at","row","place"] kU (ah qE):=by walk_at "s"
theorem lT:Rc "lot_with" qE:=by ac_nf
noncomputable def dM:Nat->Fn
 | 0=>λ_ _=>none
 | n+1=>jT 6
  (au (aS 3 (ak aQ v1 (ki 0)))
  (au (fO (aE (ak vV (aw cm (a1 v1)) (ki 1))) (au (aS 4 (ak aQ v0 v3))
  (au (aS 5 (ak av (ak aQ (vY (GF eL) (ak aQ v4 (ki 0))) (ki 0)) (ak aQ v1 (ki 1))))
  (aS 2 (aw aJ (a1 (ak av (ak av (ib v4 tV (tW v5)) (aw aJ (a1 (aw (dM n) (a3 (ak aQ v4 v5) (ib v1 (tW (ki 2)) tV) v2))))) (ib v4 (tW (ak av v5 (ki 1))) tV))))))) cu)
  (bg (ak av (ak av (ib v0 tV (tW v3)) v2) (ib v0 (tW (ak av v3 (ki 1))) tV)))))
abbrev jh:Stmt:=top 21
abbrev jq:List Str:=["program","deed","path","some"]
theorem pG:aB ["program","deed","path","some","names","deeds","name","params","rows"] jq (ah jh):=by walk_at "s"
theorem nC:Rc "program_with" jh:=by ac_nf
noncomputable def f9:Fn:=jT 9
  (au (fe v0 (gT 2 (ar (gN 4) (ar (gN 5) bS))))
  (au (fe (ak aQ v5 v1) (gT 3 (ar (gN 6) (ar (gN 7) (ar (gN 8) bS)))))
  (bg (aw aJ (a2 v4 (ak av (ak av (ib v5 tV (tW v1)) (aw aJ (a1 (aw aJ (a3 v6 v7 (aw (dM 6) (a3 v8 v2 v3))))))) (ib v5 (tW (ak av v1 (ki 1))) tV)))))))
abbrev jg:Stmt:=top 22
abbrev fT:List Str:=["program","number"]
theorem bp:aB ["program","number","deed","path","row","some"] fT (ah jg):=by walk_at "s"
theorem gW:Rc "without_lock" jg:=by ac_nf
noncomputable def cT:Fn:=jT 6
  (au (fe (aw dC (a2 v0 v1)) (gT 3 (ar (gN 2) (ar (gN 3) (ar (gN 4) bS)))))
  (au (aS 5 (ak aQ (aw dR (a1 v4)) (ki 0)))
  (au (fO (aE (ak vV (ak av (ak mG (aw cm (a1 (aw iq (a2 (aw fM (a2 v0 v2)) v3)))) (ki 1)) (aw cm (a1 v5))) (ki 12))) vf cu)
  (bg (aw f9 (a4 v0 v2 v3 v5))))))
abbrev oA:Stmt:=top 49
abbrev oP:List Str:=["_law_state"]
theorem cW:aB ["_law_state","_law_many","_law_inner","_law_lot_here","_law_lock_here","_law_some","_law_row_here","_law_at","_law_rows","_law_program_here"] oP (ah oA):=by walk_at "s"
theorem sQ:Rc "_law_full" oA:=by ac_nf
noncomputable def jL:Fn:=jT 10
  (au (ve 1 2 (a2 (ak av (ki 8) (aw aH (a2 v0 (ki 5)))) (aw aH (a2 v0 (ki 13)))))
  (au (aS 3 (aw dI (a1 (fB (b8 [none] (nS (a1 v2)) (gN 0) dD (aw aJ (a2 (ks "say") (ak aQ (ks "abcdefghijkl") v0))))))))
  (au (aS 4 (aw aJ (a2 (ks "a") (aw aJ (a2 (ks "") (aw aH (a2 v0 (ki 9))))))))
  (au (aS 5 (fB (a3 (aw aJ (a3 (ks "within") v4 v3)) (aw aJ (a3 (ks "all") (aw aJ (a2 v4 (eK (.tup [.str "b",.tup [.str "",.int 0]])))) v3)) (aw aJ (a4 (ks "ask") v4 v3 (ib v3 tV (tW (ki 2))))))))
  (au (aS 6 (aw aT (a2 v0 v5)))
  (au (aS 7 (aw aH (a2 v0 v1)))
  (au (aS 8 (ak av (ak av (aw dI (a1 (ak tj (fB (a1 (aw aJ (a2 (ks "say") (ks "z"))))) v7))) (aw aJ (a1 v6))) (aw dI (a1 (ak tj (fB (a1 (aw aJ (a2 (ks "say") (ks "y"))))) (ak mG (ak mG v1 (ki 1)) v7))))))
  (au (aS 9 (aw aJ (a2 (aw aJ (a2 (ks "a") (ks "b"))) (aw aJ (a1 (aw aJ (a3 (ks "go") (aw aJ aM) (aw aJ (a1 (aw aJ (a2 (ks "again") v8)))))))))))
  (bg (aw aJ (a3 v9 v7 (ak av (ak av (ib v8 tV (tW v7)) v3) (ib v8 (tW (ak av v7 (ki 1))) tV)))))))))))))
abbrev lJ:Stmt:=top 50
abbrev Hk:List Str:=["_law_script"]
theorem yz:aB ["_law_script","_law_state","_law_turn","_law_program_here","_law_lines_here","_law_many","_law_none","_law_number","_law_at","_law_rows"] Hk (ah lJ):=by walk_at "s"
theorem zI:Rc "law" lJ:=by ac_nf
abbrev cy:Stmt:=top 48
abbrev qX:List Str:=["_law_call_here"]
theorem fu:aB ["_law_call_here","_law_caught","e","_law_marks"] qX (ah cy):=by walk_at "s"
theorem nD:Rc "_law_refused" cy:=by ac_nf
noncomputable def su:SM:=
 (au (fO (Ft (aE (ak JY (ay 1) (eK .cj))) (pE (uO (nZ gf "ValueError" (ay 1))))) (bg (eK (.str ""))) cu)
  (au (aS 3 (fB (ag (nZ gf "NoRow" (ay 1)) (ag (nZ gf "NoLock" (ay 1)) (ag (nZ gf "NoText" (ay 1)) aM)))))
  (au (aS 3 (ak av (ay 3) (fB (ag (nZ gf "NoLine" (ay 1)) (ag (nZ gf "NoStep" (ay 1)) aM)))))
  (au (fO (aE (ak jz (eM dh zZ (ay 3) (ag (eK (.bl true)) aM)) (eK (.int 1)))) (bg (eK (.str "two"))) cu)
  (bg (ak aQ (eK (.lv [.str "NoRow",.str "NoLock",.str "NoText",.str "NoLine",.str "NoStep"])) (eM dh zY (ay 3) (ag (eK (.bl true)) aM))))))))
noncomputable def cE:Xn:=Jv 3
  (wH (aS 2 (aw dQ (ag (ay 0) aM)))
  (HH (pE (aE (iQ JX BG (eK (.int 0)) (ay 1) (aw cm (ag (ay 2) aM))))) (nj "NoRow" (ag (eK (.str "there is no row of this number")) aM)) M5))
noncomputable def a9:Xn:=Jv 5
  (Fq (E8 cE (ag (ay 0) (ag (ay 1) aM))) (wH (fe (aw eU (ag (ay 0) (ag (ay 1) aM))) (gT 3 (ar (gN 2) (ar (gN 3) (ar (gN 4) bS)))))
  (HH (pE (uO (aw dO (ag (ay 4) aM)))) (nj "NoRow" (ag (eK (.str "the row of this number has no lock")) aM)) M5)))
noncomputable def bA:Xn:=Jv 6
  (Fq (E8 a9 (ag (ay 0) (ag (ay 1) aM))) (wH (fe (aw dC (ag (ay 0) (ag (ay 1) aM))) (gT 3 (ar (gN 2) (ar (gN 3) (ar (gN 4) bS)))))
  (wH (aS 5 (ak aQ (aw dR (ag (ay 4) aM)) (eK (.int 0))))
  (HH (aE (ak vV (ak av (ak mG (aw cm (ag (aw iq (ag (aw fM (ag (ay 0) (ag (ay 2) aM))) (ag (ay 3) aM))) aM)) (eK (.int 1))) (aw cm (ag (ay 5) aM))) (eK (.int 12)))) (nj "NoRow" (ag (eK (.str "the lot would have too many rows")) aM)) M5))))
noncomputable def x9:Fn:=jT 10
  (au (aS 1 (aw fL (a1 v0)))
  (au (iC (nS (a1 (ki 2))) (gN 2) (au (aS 3 (aw lx (a1 v1)))
  (au (aS 4 (aw iW (a1 v3)))
  (au (aS 5 (ak aQ (aw eF (a1 (aw iV (a1 v4)))) (ki 2)))
  (au (aS 6 (fB (b8 [none,some 4] (nS (a1 v5)) (gN 0) (aE (ak iO (aw gB (a2 v1 v0)) (eK (.tup [.str "within",.str "all",.str "ask"])))) v0)))
  (iC (eG (ak av v6 (fB (ag v5 (ag (ak av v5 (ki 1)) (a4 (vY j9 (ki 1)) (ak mG (vY j9 v5) (ki 1)) (ak Ej (ki 10) (ki 20)) (ak av v5 (aw aH (a2 v1 (ki 99)))))))))) (gN 7) (fO (aE (ak jz (eA ph [some 7,some 3] su (E8 bA (a2 v1 v0)) (aw cT (a2 v1 v0))) (ks "NoRow"))) (bg (eK (.bl false))) cu)))))))
  (au (iC (nS (a1 (ki 6))) (gN 2) (au (fe (aw jL (a1 v1)) (gT 3 (ar (gN 3) (ar (gN 8) (ar (gN 9) bS)))))
  (fO (aE (ak vV (aw cm (a1 v9)) (ki 12))) (fO (aE (ak jz (eA ph [some 8,some 3] su (E8 bA (a2 v1 (ak av (ki 1) v0))) (aw cT (a2 v1 (ak av (ki 1) v0)))) (ks "NoRow"))) (bg (eK (.bl false))) cu) (fO (aE (ak jz (aw cT (a2 v3 (ak av (ki 1) v8))) (aw aJ (a2 (aw aJ (a2 (ks "a") (ks "b"))) (aw aJ (a1 (aw aJ (a3 (ks "go") (aw aJ aM) (aw aJ (a1 (aw aJ (a2 (ks "again") v9)))))))))))) (bg (eK (.bl false))) cu))))
  (bg (eK (.bl true))))))
structure Cc where
 l:PySem.W.OpenLaw
 w:World
 h:Heap
 mg:Str->Option Value
 base:Heap
section
variable (c:Cc)
abbrev mY:Prop:=Df c.l.prog c.w (Hd.aC c.h) c.mg c.base "_law_drawn" 1 mn 1 fL
abbrev pv:Prop:=Df c.l.prog c.w (Hd.aC c.h) c.mg c.base "_law_load" 1 oN 1 jJ
abbrev bV:Prop:=Df c.l.prog c.w (Hd.aC c.h) c.mg c.base "_law_next" 2 oK 2 aH
abbrev de:Prop:=Df c.l.prog c.w (Hd.aC c.h) c.mg c.base "_law_of" 3 tU 2 aT
abbrev mV:Prop:=Df c.l.prog c.w (Hd.aC c.h) c.mg c.base "_law_words" 4 mh 2 eD
abbrev mU:Prop:=Df c.l.prog c.w (Hd.aC c.h) c.mg c.base "_law_world" 5 md 3 iU
abbrev gL:Prop:=Df c.l.prog c.w (Hd.aC c.h) c.mg c.base "_law_is_odd" 3 kr 2 dz
abbrev gA:Prop:=Df c.l.prog c.w (Hd.aC c.h) c.mg c.base "_law_term" 4 oI 2 bW
abbrev pB:Prop:=Df c.l.prog c.w (Hd.aC c.h) c.mg c.base "_law_call" 5 oQ 4 gE
abbrev pq:Prop:=Df c.l.prog c.w (Hd.aC c.h) c.mg c.base "_law_lock" 5 oM 5 fq
abbrev zr:Prop:=Df c.l.prog c.w (Hd.aC c.h) c.mg c.base "_law_lot" 26 kX 7 (bJ 20)
abbrev KD:Prop:=Df c.l.prog c.w (Hd.aC c.h) c.mg c.base "_law_row" 26 kW 6 (gb 20)
abbrev Fh:Prop:=Df c.l.prog c.w (Hd.aC c.h) c.mg c.base "_law_locked" 26 gH 7 (dy 20)
abbrev B4:Prop:=Df c.l.prog c.w (Hd.aC c.h) c.mg c.base "_law_two_ways" 26 fz 6 (cJ 20)
abbrev jH:Prop:=Df c.l.prog c.w (Hd.aC c.h) c.mg c.base "_law_program" 27 jr 3 gc
abbrev so:Prop:=Df c.l.prog c.w (Hd.aC c.h) c.mg c.base "_law_any" 28 qY 1 lx
abbrev eT:Prop:=Df c.l.prog c.w (Hd.aC c.h) c.mg c.base "_law_term_text" 1 gY 1 bt
abbrev il:Prop:=Df c.l.prog c.w (Hd.aC c.h) c.mg c.base "_law_lock_text" 2 gZ 1 bY
abbrev pz:Prop:=Df c.l.prog c.w (Hd.aC c.h) c.mg c.base "_law_head" 3 oO 1 jK
abbrev og:Prop:=Df c.l.prog c.w (Hd.aC c.h) c.mg c.base "_law_lot_lines" 12 eO 2 (bX 8)
abbrev mX:Prop:=Df c.l.prog c.w (Hd.aC c.h) c.mg c.base "_law_lines" 13 mm 1 iW
abbrev jI:Prop:=Df c.l.prog c.w (Hd.aC c.h) c.mg c.base "_law_measure" 1 jt 1 eF
abbrev mW:Prop:=Df c.l.prog c.w (Hd.aC c.h) c.mg c.base "_law_texts" 1 mj 1 iV
abbrev pj:Prop:=Df c.l.prog c.w (Hd.aC c.h) c.mg c.base "_law_sort" 1 oJ 2 gB
abbrev ik:Prop:=Df c.l.prog c.w (Hd.aC c.h) c.mg c.base "lots_of" 1 tT 1 dR
abbrev zp:Prop:=Df c.l.prog c.w (Hd.aC c.h) c.mg c.base "paths_in" 10 kT 2 (dJ 8)
abbrev jG:Prop:=Df c.l.prog c.w (Hd.aC c.h) c.mg c.base "places_of" 11 oH 1 dQ
abbrev lq:Prop:=Df c.l.prog c.w (Hd.aC c.h) c.mg c.base "place_of" 12 kS 2 eU
abbrev lr:Prop:=Df c.l.prog c.w (Hd.aC c.h) c.mg c.base "locks_of" 1 qW 1 dO
abbrev fC:Prop:=Df c.l.prog c.w (Hd.aC c.h) c.mg c.base "locking_place" 13 fw 2 dC
abbrev sm:Prop:=Df c.l.prog c.w (Hd.aC c.h) c.mg c.base "lot_on" 2 xm 2 iq
abbrev n6:Prop:=Df c.l.prog c.w (Hd.aC c.h) c.mg c.base "rows_in" 1 tS 2 fM
abbrev zq:Prop:=Df c.l.prog c.w (Hd.aC c.h) c.mg c.base "lot_with" 7 kU 3 (dM 6)
abbrev jF:Prop:=Df c.l.prog c.w (Hd.aC c.h) c.mg c.base "program_with" 8 jq 4 f9
abbrev jE:Prop:=Df c.l.prog c.w (Hd.aC c.h) c.mg c.base "without_lock" 14 fT 2 cT
abbrev pA:Prop:=Df c.l.prog c.w (Hd.aC c.h) c.mg c.base "_law_full" 4 oP 1 jL
abbrev O0:Prop:=OV c.l.prog c.w (Hd.aC c.h) c.mg c.base "_law_refused" su ph
abbrev pC:Prop:=Hd.Dx c.l.prog c.w (Hd.aC c.h) c.mg c.base "place_of" 12 kS 2 cE
abbrev ip:Prop:=Hd.Dx c.l.prog c.w (Hd.aC c.h) c.mg c.base "locking_place" 13 fw 2 a9
abbrev i7:Prop:=Hd.Dx c.l.prog c.w (Hd.aC c.h) c.mg c.base "without_lock" 14 fT 2 bA
structure Xr:Prop where
 wD:∃C,E4 c.mg c.base "NoRow" C
end
section
variable {c:Cc} {mb:Str->Option Value} {mean:ExcName->Option Value} (T:Top view (PySem.W.looseW view (["SHAPES"]:List Str)) mean c.mg mb c.h) (B:Bs c.l.prog c.w (Hd.aC c.h) c.mg)
include T B
theorem sX:mY c:=Hd.bj T qQ λF _ _ _=>
 (aO F sG λ_ _ _ _ _ _ hr _=>by walk_at "v";with_reducible exact(aL (bZ (lu.ob (dE (aa aF (aa (lu.ob (FA (by unfold Gl;ac_nf) B.EW Av (by ac_rfl) (af aA))) (by ac_rfl))) (af (af (af aA))))))))
theorem vG:pv c:=Hd.bj T sO λF _ _ _=>
 (aO F iB λ_ _ _ _ _ _ hr _=>by walk_at "v";with_reducible exact(ae (by ac_rfl)
   (ae (by ac_rfl)
   (ae (dY (by ac_rfl) (jd hr.units (sv 0) aF))
   (ae (by ac_rfl)
   (ae (by ac_rfl)
   (aL (cc (SW.st (CB (by ac_rfl) (zy (iy Hl (by ac_rfl) (aU yL aF aF) (iI _))))) (aL (dY (by ac_rfl) (jd hr.units (sv 0) aF))) (ae (sset 4 iB.nd (aU q9 (aU gq (aU aX (aU aX (by ac_rfl) (aU gq (aU gq aF (sv 2)) (sv 2))) aF) aF) aF))
   (ae (sset 4 iB.nd (aU q9 (aU gq (sv 4) (sv 4)) aF))
   (aL (dY (aU aX (aU q9 (aU aX (aU aX (aU gq (sv 4) aF) (sv 2)) aF) aF) (aU yL aF aF)) (jd hr.units (sv 0) aF)))))))))))))
theorem vE(d12:pv c):bV c:=Hd.bj T sM λF _ _ _=>
 (aO F vb λ_ _ _ _ _ _ hr _=>by walk_at "v";with_reducible exact(ae (by ac_rfl)
   (ae (by ac_rfl)
   (ae (dY (aU Jg (by ac_rfl) (sv 1)) (jd hr.units (sv 0) aF))
   (by ac_rfl)))))
theorem yP(d13:bV c):de c:=Hd.bj T w9 λF _ _ _=>
 (aO F yA λ_ _ _ _ _ _ hr _=>by walk_at "u")
theorem sU(d14:de c)(d13:bV c):mV c:=Hd.bj T qN λF _ _ _=>
 (aO F kl λ_ _ _ _ _ _ hr _=>by walk_at "v";with_reducible exact(ae (by ac_rfl)
   (ae (by ac_rfl)
   (ae (cN Qq rfl (cx (by unfold Gl;ac_nf) B.cZ (aa (ft d14 hr (aa (sv 0) (aa (cC 9 (by ac_nf)) aq))) aq) (hl:=(af aA))) (by ac_rfl) (by ac_rfl))
   (ae (by ac_rfl)
   (ae (by ac_rfl)
   (ae (sset 7 kl.nd (ft d14 hr (aa (sv 0) (aa (cC 9 (by ac_nf)) aq))))
   (aL (bZ (eV (N':=["_law_k","_law_at","_law_first","_law_letters","_law_stem","_law_stride"]) (caps:=[none,some 5,some 6,some 2,some 3,some 7]) (bc (by ac_nf)) rfl (cx (by unfold Gl;ac_nf) B.cZ (by ac_rfl) (hl:=(af aA))) (λ_ _ _ _ _=>(sgn 0 (by show(["_law_k","_law_at","_law_first","_law_letters","_law_stem","_law_stride"]:List Str).Nodup;decide+kernel))) (λ_ _ _ _ _=>dA) (λ_ _ _ _ _=>(aU aX (aU aX (by ac_rfl) (six hr (sv 3) (aU q9 (aU aX (sv 2) (aU gq (sv 5) (sv 0))) aF))) (by ac_rfl)))))))))))))
theorem sT(d15:mV c)(d14:de c)(d13:bV c):mU c:=Hd.bj T qM λF _ _ _=>
 (aO F cK λ_ _ _ _ _ _ hr _=>by walk_at "v";with_reducible exact(ae (sset 3 cK.nd (ft d15 hr (aa (sv 0) (aa (ft d14 hr (aa (sv 0) (aa (cC 9 (by ac_nf)) aq))) aq))))
   (ae (sset 4 cK.nd (ft d15 hr (aa (sv 0) (aa (ft d14 hr (aa (sv 0) (aa (cC 9 (by ac_nf)) aq))) aq))))
   (ae (by ac_rfl)
   (ae (iz (i:=6) cK.nd (by ac_nf) (by ac_nf) (N':=["_law_deed","_law_state"]) (caps:=[none,some 0]) (bc (by ac_nf)) rfl (gG (sv 4)) (λ_ _ _ _ _=>(sgn 0 (by show(["_law_deed","_law_state"]:List Str).Nodup;decide+kernel))) (λ_ _ _ _ _=>dA) (λ_ _ _ _ _=>(ft d14 hr (aa (sv 1) (aa (cC 9 (by ac_nf)) aq)))))
   (ae (sset 7 cK.nd (E9 EC B.xX uy (aa (eV (N':=["_law_deed","_law_names","_law_state"]) (caps:=[none,some 3,some 0]) (bc (by ac_nf)) rfl (gG (sv 4)) (λ_ _ _ _ _=>(sgn 0 (by show(["_law_deed","_law_names","_law_state"]:List Str).Nodup;decide+kernel))) (λ_ _ _ _ _=>dA) (λ_ _ _ _ _=>(by ac_rfl))) aq)))
   (ae (sset 5 cK.nd (eV (N':=["_law_k","_law_params"]) (caps:=[none,some 5]) (bc (by ac_nf)) rfl (gG (sv 6)) (λ_ _ _ _ _=>(sgn 0 (by show(["_law_k","_law_params"]:List Str).Nodup;decide+kernel))) (λ_ _ _ _ _=>dA) (λ_ _ _ _ _=>(by ac_rfl))))
   (aL (bZ (CU (dZ a8 (sv 3) (dZ a8 (sv 4) (dZ a8 (sv 5) (dZ a8 (sv 7) (dZ a8 (sv 1) (dZ a8 (sv 2) CF)))))) (by ac_nf) (by ac_nf) (by simp) λtrs h=>zP h (by ac_nf) (by ac_nf) (by simp) (by decide)))))))))))
theorem rf(d13:bV c):gL c:=Hd.bj T pH λF _ _ _=>
 (aO F qA λ_ _ _ _ _ _ hr _=>by walk_at "v";with_reducible exact(aL (bZ (Im (by ac_rfl) (CQ (by ac_rfl))))))
theorem vC(d13:bV c)(d14:de c):gA c:=Hd.bj T sJ λF _ _ _=>
 (aO F uZ λ_ _ _ _ _ _ hr _=>by walk_at "v";with_reducible exact(ae (by ac_rfl)
   (ae (cc (by ac_rfl) (aL (bZ (b7 (aa (by ac_rfl) (aa (ft d14 hr (aa (sv 0) (aa (lu.lv (dE (by ac_rfl) (af (af (af (af (af (af (af (af (af aA))))))))))) aq))) aq)) (af (af aA))))) bK)
   (by ac_rfl))))
theorem vJ(d17:gL c)(d14:de c)(d18:gA c):pB c:=Hd.bj T sR λF _ _ _=>
 (aO F fJ λ_ _ _ _ _ _ hr _=>by walk_at "v";with_reducible exact(ae (iz (i:=4) fJ.nd (by ac_nf) (by ac_nf) (N':=["_law_k","_law_deed","_law_top","_law_world_here"]) (caps:=[none,some 2,some 3,some 1]) (bc (by ac_nf)) rfl (cx (by unfold Gl;ac_nf) B.cZ (by ac_rfl) (hl:=(af aA))) (λ_ _ _ _ _=>(sgn 0 (by show(["_law_k","_law_deed","_law_top","_law_world_here"]:List Str).Nodup;decide+kernel))) (λ_ _ _ _ _=>(lD (by ac_rfl))) (λ_ _ _ _ _=>(sv 0)))
   (ae (cc (by ac_rfl) (aL (sset 4 fJ.nd (lu.lv (AV rfl (by unfold Gl;ac_nf) B.EW (by unfold Gl;ac_nf) B.cZ Av (by ac_rfl))))) bK)
   (ae (by ac_rfl)
   (ae (by ac_rfl)
   (ae (iz (i:=6) fJ.nd (by ac_nf) (by ac_nf) (N':=["_law_one","_law_deed","_law_state","_law_world_here"]) (caps:=[none,some 2,some 0,some 1]) (bc (by ac_nf)) rfl (by ac_rfl) (λ_ _ _ _ _=>(sgn 0 (by show(["_law_one","_law_deed","_law_state","_law_world_here"]:List Str).Nodup;decide+kernel))) (λ_ _ _ _ _=>dA) (λ_ _ _ _ _=>(by ac_rfl)))
   (by ac_rfl)))))))
theorem vF(d13:bV c)(d17:gL c)(d18:gA c):pq c:=Hd.bj T sN λF _ _ _=>
 (aO F lI λ_ _ _ _ _ _ hr _=>by walk_at "v";with_reducible exact(ae (by ac_rfl)
   (ae (by ac_rfl)
   (ae (by ac_rfl)
   (ae (by ac_rfl)
   (ae (by ac_rfl)
   (ae (iz (i:=8) lI.nd (by ac_nf) (by ac_nf) (N':=["_law_lock_here","_law_name"]) (caps:=[none,some 7]) (bc (by ac_nf)) rfl (gG (sv 4)) (λ_ _ _ _ _=>(sgn 0 (by show(["_law_lock_here","_law_name"]:List Str).Nodup;decide+kernel))) (λ_ _ _ _ _=>(lD (by ac_rfl))) (λ_ _ _ _ _=>(by ac_rfl)))
   (by ac_rfl))))))))
theorem zV(d13:bV c)(d14:de c)(d20:pB c)(d18:gA c)(d19:pq c):∀n,Df c.l.prog c.w (Hd.aC c.h) c.mg c.base "_law_lot" (6+n) kX 7 (bJ n)/\Df c.l.prog c.w (Hd.aC c.h) c.mg c.base "_law_row" (6+n) kW 6 (gb n)/\Df c.l.prog c.w (Hd.aC c.h) c.mg c.base "_law_locked" (6+n) gH 7 (dy n)/\Df c.l.prog c.w (Hd.aC c.h) c.mg c.base "_law_two_ways" (6+n) fz 6 (cJ n)
 | 0=>⟨Hd.bj T lV λ_ _ _ _=>iH,Hd.bj T lU λ_ _ _ _=>iH,Hd.bj T i4 λ_ _ _ _=>iH,Hd.bj T gn λ_ _ _ _=>iH⟩
 | n+1=>by
  obtain⟨d24,d23,d22,d21⟩:=zV d13 d14 d20 d18 d19 n;refine⟨?_,?_,?_,?_⟩
  ·exact Hd.bj T lV λF _ _ _=>fg (aO F wV λ_ _ _ _ _ _ hr _=>by walk_at "v";with_reducible exact(ae (by ac_rfl)
   (ae (cN Qq rfl (cx (by unfold Gl;ac_nf) B.cZ (aa (ft d13 hr (aa (sv 0) (aa (aU aX (ft d14 hr (aa (sv 0) (aa (aU aX (aU nI (by ac_rfl) aF) (by ac_rfl)) aq)) (PL (by decide) (Qa _ _))) aF) aq)) (PL (by decide) (Qa _ _))) aq) (hl:=(af aA))) (by ac_rfl) (aL (cc (by ac_rfl) (ae (dY (by ac_rfl) (jd hr.units (sv 1) a8))
   (aL (jO (kJ (isT:=dh) ix QF RI Si jU (sv 7) (aa (ft d23 hr (by ac_rfl) (Pw _)) aq))))) bK)))
   (by ac_rfl))))
  ·exact Hd.bj T lU λF _ _ _=>(aO F cO λ_ _ _ _ _ _ hr _=>by walk_at "v";with_reducible exact(ae (sset 6 cO.nd (ft d13 hr (by ac_rfl) (PL (by decide) (Qa _ _))))
   (ae (cc (by ac_rfl) (aL (bZ (b7 (aa a8 (aa (ft d14 hr (by ac_rfl) (PL (by decide) (Qa _ _))) aq)) (af (af aA))))) bK)
   (ae (cc (by ac_rfl) (aL (bZ (ft d20 hr (by ac_rfl) (PL (by decide) (Qa _ _))))) bK)
   (ae (cc (by ac_rfl) (aL (bZ (ft d21 hr (by ac_rfl) (Pw _)))) bK)
   (ae (cc (by ac_rfl) (ae (yp 7 8 cO.nd (af (af aA)) rfl (by decide) (by with_unfolding_all exact(kQ rfl cO.nd rfl rfl (by decide) rfl rfl (aa (ft d18 hr (aa (sv 0) (aa (six hr (six hr (sv 1) a8) (sv 2)) aq)) (PL (by decide) (Qa _ _))) (aa (ft d18 hr (aa (sv 0) (aa (six hr (six hr (sv 1) a8) (sv 2)) aq)) (PL (by decide) (Qa _ _))) aq)) rfl)))
   (ae (iz (i:=9) cO.nd (by ac_nf) (by ac_nf) (N':=["_law_k","_law_deed","_law_deep","_law_held","_law_state","_law_top","_law_world_here"]) (caps:=[none,some 2,some 3,some 5,some 0,some 4,some 1]) (bc (by ac_nf)) rfl (cx (by unfold Gl;ac_nf) B.cZ (by ac_rfl) (hl:=(af aA))) (λ_ _ _ _ _=>(sgn 0 (by show(["_law_k","_law_deed","_law_deep","_law_held","_law_state","_law_top","_law_world_here"]:List Str).Nodup;decide+kernel))) (λ_ _ _ _ _=>dA) (λ_ _ _ _ _=>(ft d24 hr (by ac_rfl) (Pw _))))
   (by ac_rfl))) bK)
   (ae (cc (by ac_rfl) (ae (iz (i:=9) cO.nd (by ac_nf) (by ac_nf) (N':=["_law_k","_law_deed","_law_deep","_law_held","_law_state","_law_top","_law_world_here"]) (caps:=[none,some 2,some 3,some 5,some 0,some 4,some 1]) (bc (by ac_nf)) rfl (cx (by unfold Gl;ac_nf) B.cZ (by ac_rfl) (hl:=(af aA))) (λ_ _ _ _ _=>(sgn 0 (by show(["_law_k","_law_deed","_law_deep","_law_held","_law_state","_law_top","_law_world_here"]:List Str).Nodup;decide+kernel))) (λ_ _ _ _ _=>dA) (λ_ _ _ _ _=>(ft d24 hr (by ac_rfl) (Pw _))))
   (by ac_rfl)) bK)
   (ae (cc (by ac_rfl) (aL (bZ (b7 (aa a8 (aa (ft d24 hr (by ac_rfl) (Pw _)) aq)) (af (af aA))))) bK)
   (ae (sset 10 cO.nd (ft d14 hr (aa (sv 0) (aa (cC 9 (by ac_nf)) aq)) (PL (by decide) (Qa _ _))))
   (aL (bZ (ft d22 hr (by ac_rfl) (Pw _)))))))))))))
  ·exact Hd.bj T i4 λF _ _ _=>fg (aO F cP λ_ _ _ _ _ _ hr _=>by walk_at "v";with_reducible exact(ae (dY (ft d19 hr (by ac_rfl) (PL (by decide) (Qa _ _))) (by ac_rfl))
   (ae (by ac_rfl)
   (ae (cc (by ac_rfl) (ae (yp 9 10 cP.nd (af (af aA)) rfl (by decide) (by with_unfolding_all exact(kQ rfl cP.nd rfl rfl (by decide) rfl rfl (aa (lu.ob (dE (aa (sv 8) aq) (af aA))) (aa (sv 7) aq)) rfl)))
   (ae (cN Qq rfl (cx (by unfold Gl;ac_nf) B.cZ (aa (ft d14 hr (aa (sv 0) (aa (cC 9 (by ac_nf)) aq)) (PL (by decide) (Qa _ _))) aq) (hl:=(af aA))) (by ac_rfl) (ae (dY (ft d19 hr (by ac_rfl) (PL (by decide) (Qa _ _))) (by ac_rfl))
   (ae (by ac_rfl)
   (aL (sset 9 cP.nd (lu.ob (uX (sv 9) (aU nI (by ac_rfl) (by ac_rfl)))))))))
   (ae (cc (by ac_rfl) (aL (jO (kJ (isT:=dh) ix QF RI Si jU (sv 9) (aa (b7 (aa (by ac_rfl) (aa (b7 (aa (by ac_rfl) (aa (aU yK (by ac_rfl) (aU gq aF (by ac_rfl))) aq)) (af (af aA))) aq)) (af (af aA))) aq)))) bK)
   (ae (by ac_rfl)
   (aL (bZ (b7 (aa a8 (aa (by ac_rfl) (aa (ft d24 hr (by ac_rfl) (Pw _)) aq))) (af (af (af aA)))))))))) bK)
   (ae (sset 14 cP.nd (ft d24 hr (by ac_rfl) (Pw _)))
   (ae (cc (by ac_rfl) (aL (bZ (b7 (aa a8 (aa (sv 8) (aa (sv 14) (aa (ft d24 hr (by ac_rfl) (Pw _)) aq)))) (af (af (af (af aA))))))) bK)
   (by ac_rfl)))))))
  ·exact Hd.bj T gn λF _ _ _=>fg (aO F cV λ_ _ _ _ _ _ hr _=>by walk_at "v";with_reducible exact(ae (by ac_rfl)
   (ae (by ac_rfl)
   (ae (cc (iy (qZ hr.units) (eV (N':=["_law_lock_here","_law_low","_law_world_here"]) (caps:=[none,some 6,some 1]) (bc (by ac_nf)) rfl (gG (sv 5)) (λ_ _ _ _ _=>(sgn 0 (by show(["_law_lock_here","_law_low","_law_world_here"]:List Str).Nodup;decide+kernel))) (λ_ _ _ _ _=>(lD (by ac_rfl))) (λ_ _ _ _ _=>(sv 0))) (by ac_rfl) (iI _)) (by ac_rfl) bK)
   (ae (by ac_rfl)
   (ae (dY (by ac_rfl) (jd hr.units (sv 1) a8))
   (ae (yp 8 9 cV.nd (af (af aA)) rfl (by decide) (by with_unfolding_all exact(kQ rfl cV.nd rfl rfl (by decide) rfl rfl (aa (ft d18 hr (aa (sv 0) (aa (six hr (six hr (sv 1) a8) (sv 2)) aq)) (PL (by decide) (Qa _ _))) (aa (ft d18 hr (aa (sv 0) (aa (six hr (six hr (sv 1) a8) (sv 2)) aq)) (PL (by decide) (Qa _ _))) aq)) rfl)))
   (ae (by ac_rfl)
   (ae (cN Qq rfl (by ac_rfl) (by ac_rfl) (ae (sset 13 cV.nd (ft d24 hr (by ac_rfl) (Pw _)))
   (by ac_rfl)))
   (by ac_rfl))))))))))
theorem pK(d16:mU c)(d24:zr c)(d14:de c):jH c:=Hd.bj T nE λF _ _ _=>
 fg (aO F iY λ_ _ _ _ _ _ hr _=>by walk_at "v";with_reducible exact(ae (by ac_rfl)
   (ae (by ac_rfl)
   (ae (cN Qq rfl (lE (by unfold Gl;ac_nf) B.fm (by ac_rfl) (af aA)) (by ac_rfl) (ae (sset 7 iY.nd (ft d24 hr (aa (sv 0) (aa (sv 3) (aa (sv 5) (aa aF (aa (by ac_rfl) (aa (by ac_rfl) (aa (ft d14 hr (aa (sv 0) (aa (cC 9 (by ac_nf)) aq))) aq)))))))))
   (by ac_rfl)))
   (aL (bZ (b7 (aa (Hb jC B.mT jD (aa (E9 EB B.xX uy (by ac_rfl)) aq)) (by ac_rfl)) (af (af aA)))))))))
theorem xr(d25:jH c)(d14:de c):so c:=Hd.bj T vj λF _ _ _=>
 (aO F wW λ_ _ _ _ _ _ hr _=>by walk_at "v";with_reducible exact(aL (bZ (ft d25 hr (aa (sv 0) (aa (ft d14 hr (aa (sv 0) (aa (cC 9 (by ac_nf)) aq))) (aa (ft d14 hr (aa (sv 0) (aa (cC 9 (by ac_nf)) aq))) aq)))))))
theorem mw:eT c:=Hd.bj T kO λF _ _ _=>
 (aO F lG λ_ _ _ _ _ _ hr _=>by walk_at "v";with_reducible exact(ae (by ac_rfl)
   (ae (cc (by ac_rfl) (aL (bZ (Ij (sv 1) (CQ (Hb Ao B.Hw ER (by ac_rfl)))))) bK)
   (aL (bZ (aU aX (aU aX (sv 1) (aU gq a8 (by ac_rfl))) (Hb Ao B.Hw ER (by ac_rfl))))))))
theorem mx(d27:eT c):il c:=Hd.bj T kP λF _ _ _=>
 (aO F lH λ_ _ _ _ _ _ hr _=>by walk_at "u")
theorem vH(d27:eT c)(d28:il c):pz c:=Hd.bj T sP λF _ _ _=>
 (aO F vc λ_ _ _ _ _ _ hr _=>by walk_at "v";with_reducible exact(ae (by ac_rfl)
   (ae (cc (by ac_rfl) (aL (bZ (kJ (isT:=isStr) ty_str QZ RO RN pZ a8 (aa (aU aX (by ac_rfl) (eV (N':=["_law_term_here"]) (caps:=[none]) (bc (by ac_nf)) rfl (by ac_rfl) (λ_ _ _ _ _=>(sgn 0 (by show(["_law_term_here"]:List Str).Nodup;decide+kernel))) (λ_ _ _ _ _=>dA) (λ_ _ _ _ _=>(by ac_rfl)))) aq)))) bK)
   (ae (cc (by ac_rfl) (aL (bZ (kJ (isT:=isStr) ty_str QZ RO RN pZ a8 (aa (aU aX (by ac_rfl) (eV (N':=["_law_lock_here"]) (caps:=[none]) (bc (by ac_nf)) rfl (by ac_rfl) (λ_ _ _ _ _=>(sgn 0 (by show(["_law_lock_here"]:List Str).Nodup;decide+kernel))) (λ_ _ _ _ _=>dA) (λ_ _ _ _ _=>(by ac_rfl)))) aq)))) bK)
   (by ac_rfl)))))
theorem gu(d29:pz c):∀n,Df c.l.prog c.w (Hd.aC c.h) c.mg c.base "_law_lot_lines" (4+n) eO 2 (bX n)
 | 0=>Hd.bj T fP λ_ _ _ _=>iH
 | n+1=>by
  have d30:=gu d29 n;exact Hd.bj T fP λF _ _ _=>(aO F bw λ_ _ _ _ _ _ hr _=>by walk_at "v";with_reducible exact(ae (yp 2 3 bw.nd (af (af aA)) rfl (by decide) (by with_unfolding_all exact(kQ rfl bw.nd rfl rfl (by decide) rfl rfl (aa (lu.ob (dE aq aA)) (aa (sv 1) aq)) rfl)))
   (ae (cN Qq rfl (gG (sv 0)) (by ac_rfl) (ae (by ac_rfl)
   (ae (jO (kJ (isT:=dh) ix QF RI Si jU (sv 2) (aa (b7 (aa (sv 5) (aa (ft d29 hr (by ac_rfl) (PL (by decide) (Qa _ _))) aq)) (af (af aA))) aq)))
   (ae (by ac_rfl)
   (ae (sset 6 bw.nd (kJ (isT:=D8) HP PySem.F.plainAttrs_dict Ru PySem.F.type_dict_get (Jy (Mf hr)) (FF (dZ a8 aF (dZ a8 aF (dZ a8 aF (dZ a8 aF (dZ a8 aF CF))))) (by ac_nf) (by ac_nf) (by simp) λtrs h=>zP h (by ac_nf) (by ac_nf) (by simp) (by decide)) (by ac_rfl)))
   (ae (by ac_rfl)
   (ae (cN Qq rfl (lE (by unfold Gl;ac_nf) B.fm (by ac_rfl) (af aA)) (by ac_rfl) (ae (sset 2 bw.nd (lu.ob (uX (sv 2) (aU nI (by ac_rfl) (by ac_rfl)))))
   (ae (dY (ft d30 hr (by ac_rfl) (Pw _)) (by ac_rfl))
   (aL (sset 2 bw.nd (lu.ob (uX (sv 2) (sv 10))))))))
   (aL (sset 2 bw.nd (lu.ob (uX (sv 2) (aU nI (by ac_rfl) (by ac_rfl)))))))))))))
   (by ac_rfl))))
theorem sW(d30:og c):mX c:=Hd.bj T qP λF _ _ _=>
 fg (aO F eW λ_ _ _ _ _ _ hr _=>by walk_at "v";with_reducible exact(ae (yp 1 2 eW.nd (af (af aA)) rfl (by decide) (by with_unfolding_all exact(kQ rfl eW.nd rfl rfl (by decide) rfl rfl (aa (lu.lv (dE (aa (b7 (aa (zE uM aF) (aa (kJ (isT:=isStr) ty_str QZ RO RN pZ a8 (aa (aU aX (b7 (aa a8 aq) (af aA)) (six hr (sv 0) aF)) aq)) aq)) (af (af aA))) aq) (af aA))) (aa aF aq)) rfl)))
   (ae (cN Qq rfl (by ac_rfl) (by ac_rfl) (ae (by ac_rfl)
   (aL (sset 1 eW.nd (aU aX (aU aX (aU aX (sv 1) (lu.lv (dE (aa (b7 (aa (by ac_rfl) (aa (kJ (isT:=isStr) ty_str QZ RO RN pZ a8 (by ac_rfl)) aq)) (af (af aA))) aq) (af aA)))) (sv 6)) (by ac_rfl))))))
   (by ac_rfl))))
theorem pL:jI c:=Hd.bj T nF λF _ _ _=>
 fg (aO F dB λ_ _ _ _ _ _ hr _=>by walk_at "v";with_reducible exact(ae (by ac_rfl)
   (ae (cN Qq rfl (by ac_rfl) (by ac_rfl) (ae (sset 6 dB.nd (six hr (kJ (isT:=isStr) ty_str QZ RG TZ xx (sv 5) (by ac_rfl)) aF))
   (aL (cc (by ac_rfl) (aL (dY aF (jd hr.units (sv 1) (by ac_rfl)))) (aL (cc (by ac_rfl) (by ac_rfl) (ae (cc (by ac_rfl) (ae (dY (by ac_rfl) (jd hr.units (sv 1) (by ac_rfl)))
   (aL (yp 4 2 dB.nd (af (af aA)) rfl (by decide) (by with_unfolding_all exact(kQ rfl dB.nd rfl rfl (by decide) rfl rfl (aa (aU aX (sv 4) aF) (aa (E9 (ED rfl) B.Hx ES (aa (sv 2) (aa (six hr (sv 1) (zE uM aF)) aq))) aq)) rfl))))) bK)
   (by ac_rfl))))))))
   (by ac_rfl))))
theorem sV:mW c:=Hd.bj T qO λF _ _ _=>
 (aO F sF λ_ _ _ _ _ _ hr _=>by walk_at "v";with_reducible exact(aL (bZ (eV (N':=["_law_number","_law_text"]) (caps:=[none,none]) (bc (by ac_nf)) rfl (gG (sv 0)) (λ_ _ _ _ _=>(jb rfl (bu (sgn 0 (by show(["_law_number","_law_text"]:List Str).Nodup;decide+kernel)) (bu (sgn 1 (by show(["_law_number","_law_text"]:List Str).Nodup;decide+kernel)) gj)))) (λ_ _ _ _ _=>dA) (λ_ _ _ _ _=>(sv 1))))))
theorem vD:pj c:=Hd.bj T sL λF _ _ _=>
 (aO F u9 λ_ _ _ _ _ _ hr _=>by walk_at "v";with_reducible exact(aL (bZ (six hr (kJ (isT:=isStr) ty_str QZ RG TZ xx (six hr (eV (N':=["_law_mine","_law_text","_law_number"]) (caps:=[none,none,some 1]) (bc (by ac_nf)) rfl (gG (sv 0)) (λ_ _ _ _ _=>(jb rfl (bu (sgn 0 (by show(["_law_mine","_law_text","_law_number"]:List Str).Nodup;decide+kernel)) (bu (sgn 1 (by show(["_law_mine","_law_text","_law_number"]:List Str).Nodup;decide+kernel)) gj)))) (λ_ _ _ _ _=>(lD (by ac_rfl))) (λ_ _ _ _ _=>(sv 1))) aF) (by ac_rfl)) aF))))
theorem yO:ik c:=Hd.bj T w5 λF _ _ _=>
 (aO F yx λ_ _ _ _ _ _ hr _=>by walk_at "v";with_reducible exact(aL (bZ (CP (sv 0) (zB (six hr (CO B.x8 (by ac_rfl)) aF)) zC))))
theorem oR(d0:ik c):∀n,Df c.l.prog c.w (Hd.aC c.h) c.mg c.base "paths_in" (2+n) kT 2 (dJ n)
 | 0=>Hd.bj T lS λ_ _ _ _=>iH
 | n+1=>by
  have d2:=oR d0 n;exact Hd.bj T lS λF _ _ _=>fg (aO F wR λ_ _ _ _ _ _ hr _=>by walk_at "v";with_reducible exact(ae (by ac_rfl)
   (ae (cN Qq rfl (lE (by unfold Gl;ac_nf) B.fm (by ac_rfl) (af aA)) (by ac_rfl) (ae (by ac_rfl)
   (ae (by ac_rfl)
   (aL (cN Qq rfl (lE (by unfold Gl;ac_nf) B.fm (aa (ft d0 hr (by ac_rfl) (PL (by decide) (Qa _ _))) aq) (af aA)) (by ac_rfl) (aL (jO (kJ (isT:=dh) ix QF Sy TB t5 (sv 2) (aa (ft d2 hr (by ac_rfl) (Pw _)) aq)))))))))
   (by ac_rfl))))
theorem vB(d2:zp c):jG c:=Hd.bj T sI λF _ _ _=>
 fg (aO F uY λ_ _ _ _ _ _ hr _=>by walk_at "v";with_reducible exact(ae (by ac_rfl)
   (ae (cN Qq rfl (lE (by unfold Gl;ac_nf) B.fm (by ac_rfl) (af aA)) (by ac_rfl) (aL (jO (kJ (isT:=dh) ix QF Sy TB t5 (sv 1) (aa (eV (N':=["path","row","deed"]) (caps:=[none,none,some 2]) (bc (by ac_nf)) rfl (by ac_rfl) (λ_ _ _ _ _=>(jb rfl (bu (sgn 0 (by show(["path","row","deed"]:List Str).Nodup;decide+kernel)) (bu (sgn 1 (by show(["path","row","deed"]:List Str).Nodup;decide+kernel)) gj)))) (λ_ _ _ _ _=>dA) (λ_ _ _ _ _=>(by ac_rfl))) aq)))))
   (by ac_rfl))))
theorem xo(d3:jG c):lq c:=Hd.bj T lR λF _ _ _=>
 (aO F je λ_ _ _ _ _ _ hr _=>by walk_at "v";with_reducible exact(ae (by ac_rfl)
   (ae (cc (qt (wM DJ DI aF (sv 1) (by ac_rfl))) (aL qu) bK)
   (by ac_rfl))))
theorem xp:lr c:=Hd.bj T vi λF _ _ _=>
 (aO F wU λ_ _ _ _ _ _ hr _=>by walk_at "u")
theorem nK(d6:lq c)(d1:lr c):fC c:=Hd.bj T gm λF _ _ _=>
 (aO F br λ_ _ _ _ _ _ hr _=>by walk_at "v";with_reducible exact(ae (by ac_rfl)
   (ae (cc (by ac_rfl) (aL qu) bK)
   (by ac_rfl))))
theorem Bg(d0:ik c):sm c:=Hd.bj T yF λF _ _ _=>
 (aO F AX λ_ _ _ _ _ _ hr _=>by walk_at "v";with_reducible exact(ae (by ac_rfl)
   (ae (cN Qq rfl (AU (by unfold Gl;ac_nf) B.cZ (by ac_rfl) (hl:=(af (af (af aA))))) (by ac_rfl) (by ac_rfl))
   (by ac_rfl))))
theorem yN:n6 c:=Hd.bj T wZ λF _ _ _=>
 (aO F yw λ_ _ _ _ _ _ hr _=>by walk_at "u")
theorem oS:∀n,Df c.l.prog c.w (Hd.aC c.h) c.mg c.base "lot_with" (1+n) kU 3 (dM n)
 | 0=>Hd.bj T lT λ_ _ _ _=>iH
 | n+1=>by
  have d8:=oS  n;exact Hd.bj T lT λF _ _ _=>(aO F jf λ_ _ _ _ _ _ hr _=>by walk_at "v";with_reducible exact(ae (by ac_rfl)
   (ae (cc (by ac_rfl) (ae (by ac_rfl)
   (ae (sset 5 jf.nd (aU aX (six hr (CO B.x8 (by ac_rfl)) aF) (by ac_rfl)))
   (aL (sset 2 jf.nd (b7 (aa (aU aX (aU aX (by ac_rfl) (b7 (aa (ft d8 hr (by ac_rfl) (Pw _)) aq) (af aA))) (by ac_rfl)) aq) (af aA)))))) bK)
   (by ac_rfl))))
theorem pJ(d8:zq c):jF c:=Hd.bj T nC λF _ _ _=>
 (aO F pG λ_ _ _ _ _ _ hr _=>by walk_at "u")
theorem pI(d7:fC c)(d0:ik c)(d5:sm c)(d4:n6 c)(d9:jF c):jE c:=Hd.bj T gW λF _ _ _=>
 (aO F bp λ_ _ _ _ _ _ hr _=>by walk_at "v";with_reducible exact(ae (by ac_rfl)
   (ae (by ac_rfl)
   (ae (cc (iy DK (by ac_rfl) (CV B.kH (by unfold Gl;ac_nf)) (iI _)) (aL qu) bK)
   (by ac_rfl)))))
theorem vI(d13:bV c)(d14:de c):pA c:=Hd.bj T sQ λF _ _ _=>
 (aO F cW λ_ _ _ _ _ _ hr _=>by walk_at "v";with_reducible exact(ae (yp 1 2 cW.nd (af (af aA)) rfl (by decide) (by with_unfolding_all exact(kQ rfl cW.nd rfl rfl (by decide) rfl rfl (aa (aU aX aF (ft d13 hr (aa (sv 0) (aa aF aq)))) (aa (ft d13 hr (aa (sv 0) (aa aF aq))) aq)) rfl)))
   (ae (sset 3 cW.nd (Hb jC B.mT jD (aa (eV (N':=["_law_k"]) (caps:=[none]) (bc (by ac_nf)) rfl (cx (by unfold Gl;ac_nf) B.cZ (by ac_rfl) (hl:=(af aA))) (λ_ _ _ _ _=>(sgn 0 (by show(["_law_k"]:List Str).Nodup;decide+kernel))) (λ_ _ _ _ _=>dA) (λ_ _ _ _ _=>(by ac_rfl))) aq)))
   (ae (by ac_rfl)
   (ae (sset 5 cW.nd (lu.lv (dE (aa (by ac_rfl) (aa (b7 (aa a8 (aa (b7 (aa (sv 4) (aa (cC 9 (by ac_nf)) aq)) (af (af aA))) (by ac_rfl))) (af (af (af aA)))) (by ac_rfl))) (af (af (af aA))))))
   (ae (by ac_rfl)
   (ae (by ac_rfl)
   (ae (sset 8 cW.nd (aU aX (aU aX (Hb jC B.mT jD (aa (aU nI (by ac_rfl) (sv 7)) aq)) (by ac_rfl)) (Hb jC B.mT jD (aa (aU nI (by ac_rfl) (by ac_rfl)) aq))))
   (by ac_rfl)))))))))
theorem Jq:O0 c:=by
 obtain⟨f,fd,m,F⟩:=Hd.Af T nD;obtain⟨CS,h1,h2⟩:=B.S_;have hb:∃(tail:List Stmt)(pa pb pc p1 p2 p3 p4 p5 p6 p7 p8 p9:Pos)(j:Nat),cY cy=.Assign [.Name "_law_caught" pa] (.Constant .none j pb) pc::.Try [.Expr (.Call (.Name "_law_call_here" p1) [] [] p2) p3] [.ExceptHandler (some (.Name "StuckError" p4)) (some "e") [.Assign [.Name "_law_caught" p5] (.Name "e" p6) p7] p8] [] [] p9::tail/\∀(k:Nat)(cdv:Value)(A:Around)(outer:List Env)(s:Shared)(H:Hp)(E:XK),cF k (A.deeper (envOfC "_law_refused" (ah cy) s.heap.objs.size f cdv))->BZ (eQ ni c.l.prog c.w (Hd.aC c.h) c.mg c.base ["_law_call_here","_law_caught","e","_law_marks"] "_law_refused" (ah cy) f cdv A outer s H E).DP tail su:=by
  refine⟨_,_,_,_,_,_,_,_,_,_,_,_,_,_,by(conv=>lhs;whnf),λk cdv A outer s H E hr=>?_⟩;unfold su;(conv=>arg 2;whnf);with_reducible exact(ae (cc (SW.st (G8 (by ac_rfl) (CA (qt (yo (Ls (tb:=gf) (ns:=pM) B.KU B.dc B.wB (sv 1) (O8 (by decide+kernel)))))))) (by ac_rfl) bK)
   (ae (sset 3 fu.nd (lu.lv (dE (aa (CM (tb:=gf) (ns:=pM) B.KU B.dc (sv 1)) (aa (CM (tb:=gf) (ns:=pM) B.KU B.dc (sv 1)) (aa (CM (tb:=gf) (ns:=pM) B.KU B.dc (sv 1)) aq))) (af (af (af aA))))))
   (ae (sset 3 fu.nd (aU aX (sv 3) (lu.lv (dE (aa (CM (tb:=gf) (ns:=pM) B.KU B.dc (sv 1)) (aa (CM (tb:=gf) (ns:=pM) B.KU B.dc (sv 1)) aq)) (af (af aA))))))
   (ae (cc (iy (qZ hr.units) (kJ (isT:=dh) ix QF TN PySem.F.type_list_count (Bo hr.units) (sv 3) (by ac_rfl)) aF (iI _)) (by ac_rfl) bK)
   (aL (bZ (six hr (cC 9 (by ac_nf)) (kJ (isT:=dh) ix QF TL PySem.F.type_list_index (Bn hr.units) (sv 3) (by ac_rfl)))))))))
 obtain⟨tail,pa,pb,pc,p1,p2,p3,p4,p5,p6,p7,p8,p9,j,e,ht⟩:=hb;exact⟨f,CS,fd,cy,"_law_call_here","_law_caught","e","_law_marks",tail,pa,pb,pc,p1,p2,p3,p4,p5,p6,p7,p8,p9,j,F,fu,m,F.kp,F.one (λ_ _ _ _ _ _ _=>rfl),e,⟨by ac_nf,by ac_nf,by ac_nf,by ac_nf⟩,⟨h1,h2⟩,⟨by ac_nf,by ac_nf,by ac_nf,by ac_nf⟩,⟨λ_=>by ac_nf,λ_=>by ac_nf,λ_=>by ac_nf⟩,ht⟩
theorem vA(R:Xr c)(d3:jG c):pC c:=Hd.DU T lR λF=>
 JT F je λcdv A outer s H E hr _=>by(conv=>arg 3;whnf);with_reducible exact(ly (sset 2 je.nd (ft d3 hr (aa (sv 0) aq)))
   (fc (B8 (qt (wM DJ DI aF (sv 1) (E9 wa B.Az wx (aa (sv 2) aq)))) (fc (Ni R.wD a8)) ye)))
theorem mr(R:Xr c)(d1:lr c)(d6:lq c)(x6:pC c):ip c:=Hd.DU T gm λF=>
 JT F br λcdv A outer s H E hr _=>by(conv=>arg 3;whnf);with_reducible exact(B6 (fc (KW (g:=(gT 3 (ar (gN 2) (ar (gN 3) (ar (gN 4) bS))))) (M4 x6 hr zT (aa (sv 0) (aa (sv 1) aq))) (jb rfl (bu (sgn 2 br.nd) (bu (sgn 3 br.nd) (bu (sgn 4 br.nd) gj)))))) (ly (dY (ft d6 hr (aa (sv 0) (aa (sv 1) aq))) (jb rfl (bu (sgn 2 br.nd) (bu (sgn 3 br.nd) (bu (sgn 4 br.nd) gj)))))
   (fc (B8 (qt (yo (ft d1 hr (aa (sv 4) aq)))) (fc (Ni R.wD a8)) ye))))
theorem nJ(R:Xr c)(d5:sm c)(d4:n6 c)(d0:ik c)(d7:fC c)(x7:ip c):i7 c:=Hd.DU T gW λF=>
 JT F bp λcdv A outer s H E hr _=>by(conv=>arg 3;whnf);with_reducible exact(B6 (fc (KW (g:=(gT 3 (ar (gN 2) (ar (gN 3) (ar (gN 4) bS))))) (M4 x7 hr zT (aa (sv 0) (aa (sv 1) aq))) (jb rfl (bu (sgn 2 bp.nd) (bu (sgn 3 bp.nd) (bu (sgn 4 bp.nd) gj)))))) (ly (dY (ft d7 hr (aa (sv 0) (aa (sv 1) aq))) (jb rfl (bu (sgn 2 bp.nd) (bu (sgn 3 bp.nd) (bu (sgn 4 bp.nd) gj)))))
   (ly (sset 5 bp.nd (six hr (ft d0 hr (aa (sv 4) aq)) aF))
   (fc (B8 (iy DK (aU aX (aU yK (E9 wa B.Az wx (aa (ft d5 hr (aa (ft d4 hr (aa (sv 0) (aa (sv 2) aq))) (aa (sv 3) aq))) aq)) aF) (E9 wa B.Az wx (aa (sv 5) aq))) (CV B.kH (by unfold Gl;ac_nf)) (iI _)) (fc (Ni R.wD a8)) ye)))))
theorem Jr(F:sC (Hd.aC c.h) "law" "law" lJ f fd)(m:c.mg "law"=some (.ref f))(RF:O0 c)(d11:mY c)(d26:so c)(d31:mX c)(d33:jI c)(d32:mW c)(d34:pj c)(d13:bV c)(d10:jE c)(d36:pA c)(x10:i7 c):eI c.l.prog c.w (Hd.aC c.h) c.mg c.base ni 29 f fd Hk (AS (Hd.aC c.h) 1 x9):=
 (GD F (Hd.Gw T zI F m) yz λcdv A outer s H E hL hr=>by have:=yz.nd;(conv=>arg 2;whnf);with_reducible exact(ae (by ac_rfl)
   (ae (cN Qq rfl (cx (by unfold Gl;ac_nf) B.cZ (by ac_rfl) (hl:=(af aA))) (by ac_rfl) (ae (by ac_rfl)
   (ae (by ac_rfl)
   (ae (by ac_rfl)
   (ae (iz (i:=6) yz.nd (by ac_nf) (by ac_nf) (N':=["_law_number","_law_lines_here"]) (caps:=[none,some 4]) (bc (by ac_nf)) rfl (cx (by unfold Gl;ac_nf) B.cZ (by ac_rfl) (hl:=(af aA))) (λ_ _ _ _ _=>(sgn 0 (by show(["_law_number","_law_lines_here"]:List Str).Nodup;decide+kernel))) (λ_ _ _ _ _=>(lD (iy (xn hr.units) (by ac_rfl) (cC 9 (by ac_nf)) (by ac_nf)))) (λ_ _ _ _ _=>(sv 0)))
   (aL (cN Qq rfl (gG (aU aX (sv 6) (lu.lv (dE (aa (sv 5) (aa (by ac_rfl) (aa (by ac_rfl) (aa (by ac_rfl) (aa (aU yL aF aF) (by ac_rfl)))))) (af (af (af (af (af (af aA)))))))))) (by ac_rfl) (aL (cc (iy (qZ hr.units) (Lq (k:=14) (Nl:=["_law_number","_law_program_here"]) (caps:=[some 7,some 3]) RF hL hr (by decide) (bc (by ac_nf)) (λ_ _ _ _ _ _ _ _ _ hr=>(M4 x10 hr zR (by ac_rfl))) (λ_ _ _ _ _ _ _ _ _ hr=>(by ac_rfl))) a8 (iI _)) (by ac_rfl) bK)))))))))
   (ae (cN Qq rfl (cx (by unfold Gl;ac_nf) B.cZ (by ac_rfl) (hl:=(af aA))) (by ac_rfl) (ae (by ac_rfl)
   (aL (cc (by ac_rfl) (aL (cc (iy (qZ hr.units) (Lq (k:=14) (Nl:=["_law_at","_law_program_here"]) (caps:=[some 8,some 3]) RF hL hr (by decide) (bc (by ac_nf)) (λ_ _ _ _ _ _ _ _ _ hr=>(M4 x10 hr zR (by ac_rfl))) (λ_ _ _ _ _ _ _ _ _ hr=>(by ac_rfl))) a8 (iI _)) (by ac_rfl) bK)) (by ac_rfl)))))
   (by ac_rfl)))))
theorem MC(R:Xr c)(m:c.mg "law"=some (.ref f))(F:sC (Hd.aC c.h) "law" "law" lJ f fd)(hF:∀ns:List Int,ns.length<=63->∃h',x9 [.ro (ns.map D.int)] []=some (.bl true,h')):eI c.l.prog c.w (Hd.aC c.h) c.mg c.base ni 29 f fd ["_law_script"] (spT (Hd.aC c.h)):=by
 have d11:=sX T B;have d12:=vG T B;have d13:=vE T B d12;have d14:=yP T B d13;have d15:=sU T B d14 d13;have d16:=sT T B d15 d14 d13;have d17:=rf T B d13;have d18:=vC T B d13 d14;have d20:=vJ T B d17 d14 d18;have d19:=vF T B d13 d17 d18;obtain⟨d24,d23,d22,d21⟩:=zV T B d13 d14 d20 d18 d19 20;have d25:=pK T B d16 d24 d14;have d26:=xr T B d25 d14;have d27:=mw T B;have d28:=mx T B d27;have d29:=vH T B d27 d28;have d30:=gu T B d29 8;have d31:=sW T B d30;have d33:=pL T B;have d32:=sV T B;have d34:=vD T B;have d0:=yO T B;have d2:=oR T B d0 8;have d3:=vB T B d2;have d6:=xo T B d3;have d1:=xp T B;have d7:=nK T B d6 d1;have d5:=Bg T B d0;have d4:=yN T B;have d8:=oS T B  6;have d9:=pJ T B d8;have d10:=pI T B d7 d0 d5 d4 d9;have d36:=vI T B d13 d14;have RF:=Jq T B;have x6:=vA T B R d3;have x7:=mr T B R d1 d6 x6;have x10:=nJ T B R d5 d4 d0 d7 x7;exact Gv (Jr T B F m RF d11 d26 d31 d33 d32 d34 d13 d10 d36 x10) hF
end
theorem hU:Hd.freeOk view (["SHAPES"]:List Str) ["ValueError","abs","enumerate","int","isinstance","len","list","max","min","range","sorted","str","tuple"]=true:=by decide+kernel
theorem all_mk{l:PySem.W.OpenLaw}{w:World}{h:Heap}{mg mb:Str->Option Value}{mean:ExcName->Option Value}(T:Top view (PySem.W.looseW view (["SHAPES"]:List Str)) mean mg mb h)
  (Y_SHAPES:Hd.tabAt h "SHAPES"=some (eL.map λx=>(x.1,hashStr w x.1,x.2)))
  (Y_x:Hd.pP h (gf.map (·.1)) pM=Hd.xM gf pM)
  (hF:∀ns:List Int,ns.length<=63->∃h',x9 [.ro (ns.map D.int)] []=some (.bl true,h')):
  ∃(fa:Addr)(fd:FuncData),mg "law"=some (.ref fa)/\(∀(s:Shared)(v:Value),BindsTo s fd ⟨[v],[]⟩ [("_law_script",v)])/\∀base:Heap,(Hd.aC h).In base->base.Ns mainGlobals mg->eI l.prog w (Hd.aC h) mg base ni 29 fa fd ["_law_script"] (spT (Hd.aC h)):=by
 have B:Bs l.prog w (Hd.aC h) mg:=⟨Hd.cX T hU (Pr (i:=0) rfl),Hd.cX T hU (Pr (i:=1) rfl),Hd.cX T hU (Pr (i:=2) rfl),Hd.cX T hU (Pr (i:=3) rfl),Hd.cX T hU (Pr (i:=4) rfl),Hd.cX T hU (Pr (i:=5) rfl),Hd.cX T hU (Pr (i:=6) rfl),Hd.cX T hU (Pr (i:=7) rfl),Hd.cX T hU (Pr (i:=8) rfl),Hd.cX T hU (Pr (i:=9) rfl),Hd.cX T hU (Pr (i:=10) rfl),Hd.cX T hU (Pr (i:=11) rfl),Hd.cX T hU (Pr (i:=12) rfl),Hd.GO T (by ac_nf),Hd.tab_of Y_SHAPES T.g (by decide+kernel),Hd.Mo T Y_x,Hd.NM T Y_x (by ac_nf) (by decide+kernel) (Uq.mpr ⟨⟨by ac_nf,_,rfl,by decide+kernel⟩,List.forall_mem_nil _⟩)⟩;obtain⟨f,fd,m,F⟩:=Hd.Af T zI;exact⟨f,fd,m,F.one λ_ _ _ _ _ _ _=>rfl,λbase KB _=>MC (c:=⟨l,w,h,mg,base⟩) T B ⟨Hd.Fo T (by ac_nf) KB⟩ m F hF⟩
end Mi
local macro_rules | `(tactic| walk_at $s:str) => let k := s.getString.front;let a := "|Sm.Mr|Sm.Mw|Sm.Ks|Sm.Mt|Sm.Ms|Sm.Ot|Sm.Oq|Sm.Ow|Sm.Ov|Sm.Ou|Sm.Pl|Sm.Pm|Sm.Mv|Sm.Mu|Sm.Ko|Sm.Kp|Sm.fE|Sm.qp|Sm.xb|Sm.Dl|Sm.Dk|Sm.xc|Sm.xa|Sm.IC|Sm.LD|Sm.r_sbrk|Sm.r_scont|Sm.lY|Sm.NO|Sm.Fb|Sm.Dj|Sm.cA|Sm.i5|Sm.NQ|Sm.vp|Sm.NP|Sm.r_dv|Sm.r_do|Sm.jo|Sm.vn|Sm.jm|Sm.IB|Sm.Hg|Sm.LJ|Sm.r_or|Sm.r_not|Sm.r_sl|Sm.LB|Sm.LC|Sm.A9|Sm.IG|Sm.gX|Sm.vq|Sm.LI|Sm.IH|Sm.N5|Sm.N6|Sm.Nq|Sm.t_bk|Sm.t_ct|Sm.Oc|Sm.l_ct|Sm.l_bk|Sm.l_rt|Sm.IA|Sm.LH";if k != 'o' && k != 'g' && k != 'r' then Lean.Macro.throwUnsupported else do {let t <- (((if k == 'r' then a ++ "|Sm.K1|Sm.K3|Sm.w_add|Sm.w_sub|Sm.w_lt|Sm.w_le|Sm.Nj|Sm.Nk|Sm.K9|Sm.w_neI|Sm.K8|Sm.K4|Sm.K7|Sm.K6|Sm.K5|Sm.HI|Sm.HJ|Sm.yG" else a).splitOn "|").drop 1).toArray.mapM (λn => `(Lean.Parser.Tactic.tacticSeq| refine $(Lean.mkIdent n.toName) ?_));if k == 'o' then `(tactic| with_reducible first $[| $t]*) else `(tactic|((repeat with_reducible first $[| $t]*);(try dsimp only)))}
namespace Mi
open PySem Sm
theorem kM(hb:0 < b)(q:Q (.int (a % b),h)):Rn (rL (.int a) (.int b) h) Q:=⟨_,by unfold rL;dsimp only;rw[Py hb],q⟩
theorem Iv(hb:0 < b)(hb2:b<=10^40)(q:Q (.int (a / b),h)):Rn (Ep (.int a) (.int b) h) Q:=⟨_,by unfold Ep;dsimp only;rw[Py ⟨hb,hb2⟩],q⟩
theorem nA(hb:my a b=true)(q:Q (.int (a*b),h)):Rn (hW (.int a) (.int b) h) Q:=⟨_,by show(if my a b then _ else _)=_;rw[Py hb],q⟩
theorem mul_r(h1:-(2^64) < b)(h2:b < 2^64):my a b=true:=by unfold my;simp only[Ra,Qd,Qp];exact .inr ⟨h1,h2⟩
theorem DR(h1:-(2^64) < a)(h2:a < 2^64):my a b=true:=by unfold my;simp only[Ra,Qd,Qp];exact .inl ⟨h1,h2⟩
theorem Bq{h:MH}{s c:Nat}{cs:List Int}{n t:Int}(hs:h[s]?=some (.lst [.int n,.ob c,.int t]))(hc:h[c]?=some (.lst (cs.map D.int)))(ne:c≠s)(t0:0<=t)(tB:t < 2^60):
  Rn (jJ [.ob s] h) λp=>∃n',0<=n'/\p=(.cj,h.set s (.lst [.int n',.ob c,.int (t+1)])):=by
 have hl:s < h.length:=(Pq.mp hs).1;generalize hH:h.set s (.lst [.int n,.ob c,.int (t+1)])=H;have Hs:H[s]?=some (.lst [.int n,.ob c,.int (t+1)]):=by rw[<-hH];exact Qf hl
 have Hc:H[c]?=some (.lst (cs.map D.int)):=by rw[<-hH,Qo (Q0 ne)];exact hc
 have set0:∀v:Int,td (.ob s) (.int 0) (.int v) H=some (h.set s (.lst [.int v,.ob c,.int (t+1)])):=λv=>by
  rw[mH (p:=0) Hs rfl,<-hH,List.set_set];rfl
 have e3:td (.ob s) (.int 2) (.int (t+1)) h=some H:=by rw[mH (p:=2) hs rfl,<-hH];rfl
 have e4:cm [.ob c] H=some (.int cs.length,H):=by rw[vU Hc,Pp]
 refine bF ?_;walk_at "g";refine rv (gI hs rfl) ?_;walk_at "g";refine rv (gI hs rfl) ?_;walk_at "g";refine rv rfl ?_;walk_at "g";refine rv e3 ?_;walk_at "g";refine rv (uf Hc) ⟨_,rfl,λhne=>?pos,λhne=>?neg⟩
 case' pos=>
  have hpos:0 < cs.length:=by cases cs with | nil=>simp at hne | cons _ _=>simp
  walk_at "g";refine rv e4 (kM (by lia) ?_);obtain⟨z,hz⟩:=E2 cs (t % (cs.length:Int)) (QO _ (by lia)) (Q6 _ (by lia));refine rv (gI Hc hz) ?_
 all_goals
  walk_at "g";refine rv e4 (rv rfl ⟨_,rfl,?_⟩);refine(λmix=>⟨λc1=>?thenA,λ_=>⟨λz=>(nomatch z),λ_=>mix⟩⟩) ?thenB
  case thenA=>
   walk_at "g";refine rv rfl ?_;walk_at "g";refine rv rfl (rv rfl ⟨_,rfl,λc2=>?_,λ_=>mix⟩);walk_at "g";refine rv rfl ?_;walk_at "g";refine rv (set0 _) ?_;walk_at "g";exact⟨_,by split <;> lia,rfl⟩
  case thenB=>
   walk_at "g";refine kM (by decide) ?_;walk_at "g";refine nA (DR (by decide) (by decide)) ?_;walk_at "g";refine nA (mul_r (by lia) (by lia)) (rv rfl ?_);walk_at "g";refine rv rfl ?_;walk_at "g";refine nA (mul_r (by decide) (by decide)) ?_;walk_at "g";refine kM (by decide) ?_;walk_at "g";refine nA (DR (Int.lt_of_lt_of_le (by decide) (QO _ (by decide))) (Int.lt_trans (Q6 _ (by decide)) (by decide))) ?_;walk_at "g";refine kM (by decide) ?_;walk_at "g";refine nA (mul_r (by decide) (by decide)) ?_;walk_at "g";refine rv rfl ?_;walk_at "g";refine rv rfl ?_;walk_at "g";refine kM (by decide) ?_;walk_at "g";refine rv rfl (rv rfl ?_);walk_at "g";refine rv (set0 _) ?_;walk_at "g";exact⟨_,Int.add_nonneg (QO _ (by decide)) (by decide),rfl⟩
structure St(s c:Nat)(cs:List Int)(R:Nat)(h:MH):Prop where
 st:∃n t:Int,h[s]?=some (.lst [.int n,.ob c,.int t])/\0<=n/\0<=t/\t+R<=2^60
 ce:h[c]?=some (.lst (cs.map D.int))
 ne:c≠s
def sD(s:Nat)(h h':MH):Prop:=h'.length=h.length/\∀k,k≠s->h'[k]?=h[k]?
theorem sD.refl(s:Nat)(h:MH):sD s h h:=⟨rfl,λ_ _=>rfl⟩
theorem sD.trans(a:sD s h h1)(b:sD s h1 h2):sD s h h2:=⟨b.1.trans a.1,λk n=>(b.2 k n).trans (a.2 k n)⟩
theorem sD.set:sD s h (h.set s o):=⟨QE,λk n=>Qo (Q0 n)⟩
section
variable {s c R:Nat} {cs:List Int} {h:MH}
theorem St.le(S:St s c cs R h)(hB:R'<=R):St s c cs R' h:=by
 obtain⟨n,t,e,a,b,d⟩:=S.st;exact⟨⟨n,t,e,a,b,by lia⟩,S.ce,S.ne⟩
theorem St.dn(k:Nat)(S:St s c cs (R+k) h):St s c cs R h:=S.le (Qa _ _)
theorem St.set{R':Nat}{n t:Int}(S:St s c cs R h)(h1:0<=n)(h2:0<=t)(h3:t+R'<=2^60):St s c cs R' (h.set s (.lst [.int n,.ob c,.int t])):=by
 obtain⟨n0,t0,e,_⟩:=S.st;exact⟨⟨n,t,Qf (Pq.mp e).1,h1,h2,h3⟩,by rw[Qo (Q0 S.ne)];exact S.ce,S.ne⟩
theorem St.more(S:St s c cs R h)(g:MH):St s c cs R (h++g):=by
 obtain⟨n,t,e,r⟩:=S.st;exact⟨⟨n,t,by rw[PJ (Pq.mp e).1];exact e,r⟩,by rw[PJ (Pq.mp S.ce).1];exact S.ce,S.ne⟩
theorem St.off(S:St s c cs R h)(h1:k≠s)(h2:k≠c):St s c cs R (h.set k o):=by
 obtain⟨n,t,e,r⟩:=S.st;exact⟨⟨n,t,by rw[Qo h1];exact e,r⟩,by rw[Qo h2];exact S.ce,S.ne⟩
theorem St.lt(S:St s c cs R h):s < h.length/\c < h.length:=by
 obtain⟨n,t,e,r⟩:=S.st;exact⟨(Pq.mp e).1,(Pq.mp S.ce).1⟩
structure Sb(s c:Nat)(cs:List Int)(h0:MH)(R:Nat)(h:MH):Prop where
 S:St s c cs R h
 b:sD s h0 h
theorem St.sb(S:St s c cs R h):Sb s c cs h R h:=⟨S,sD.refl _ _⟩
theorem Sb.dn(k:Nat)(A:Sb s c cs h0 (R+k) h):Sb s c cs h0 R h:=⟨A.S.dn k,A.b⟩
theorem Sb.le(A:Sb s c cs h0 R h)(hR:R'<=R):Sb s c cs h0 R' h:=⟨A.S.le hR,A.b⟩
theorem Sb.at_(A:Sb s c cs h0 R h)(e:h0[k]?=some o)(n:k≠s):h[k]?=some o:=(A.b.2 k n).trans e
variable {h0:MH}
theorem cS{m:Int}{Q:D×MH->Prop}(A:Sb s c cs h0 (R+1) h)(m0:0 < m)(m1:m<=10^40)(k:∀(r:Int)(h1:MH),0<=r->r < m->Sb s c cs h0 R h1->Q (.int r,h1)):Rn (aH [.ob s,.int m] h) Q:=by
 have S:=A.S;obtain⟨n,t,hs,n0,t0,tB⟩:=S.st;refine bF ?_;walk_at "g";refine rv (gI hs rfl) ?_;walk_at "g";refine rv rfl ⟨_,rfl,λ_=>?pos,λ_=>?neg⟩
 case' pos=>
  walk_at "g";obtain⟨p,ep,n',n0',rfl⟩:=Bq hs S.ce S.ne t0 (by lia);refine rv ep ?_;have S1:St s c cs R (h.set s (.lst [.int n',.ob c,.int (t+1)])):=S.set n0' (by lia) (by lia);have b1:sD s h (h.set s (.lst [.int n',.ob c,.int (t+1)])):=sD.set
 case' neg=>
  have S1:St s c cs R h:=S.dn 1;have b1:sD s h h:=sD.refl s h
 all_goals
  generalize h.set s (MO.lst [D.int _,D.ob c,D.int (t+1)])=h1 at*;obtain⟨n2,t2,hs2,n02,t02,tB2⟩:=S1.st;walk_at "g";refine rv (gI hs2 rfl) ?_;walk_at "g";refine kM m0 ?_;walk_at "g";refine rv (gI hs2 rfl) ?_;walk_at "g";refine Iv m0 m1 ?_;walk_at "g";refine rv (mH (p:=0) hs2 rfl) ?_;walk_at "g";exact k _ _ (QO _ (by lia)) (Q6 _ m0) ⟨S1.set (Int.ediv_nonneg n02 (by lia)) t02 tB2,A.b.trans (b1.trans sD.set)⟩
theorem EN(A:Sb s c cs h0 (R+1) h)(hd:d=.lv xs\/d=.tup xs)(l0:0 < xs.length)(l1:xs.length<=1000000)(k:∀(x:D)(h1:MH),x∈xs->Sb s c cs h0 R h1->Q (x,h1)):Rn (aT [.ob s,d] h) Q:=by
 refine bF ?_;walk_at "g";have e1:cm [d] h=some (.int xs.length,h):=by rcases hd with rfl | rfl <;> rfl
 refine rv e1 ?_;walk_at "g";refine cS A (by lia) (by lia) λr h' r0 r1 A1=>?_;obtain⟨v,e3,hv⟩:=EY r0 r1;have e4:aQ d (.int r) h'=some (v,h'):=by rcases hd with rfl | rfl <;> simp only[aQ,dU,dq,Qc,e3,Qk]
 refine rv e4 ?_;walk_at "g";exact k v h' hv A1
theorem kF{is:List Int}{Q:D×MH->Prop}(P:Int->Prop)(hP:∀i∈is,P i)(A:Sb s c cs h0 (R+1) h)(k:∀(i:Int)(h1:MH),P i->i∈is->Sb s c cs h0 R h1->Q (.int i,h1))(l0:0 < is.length:=by simp)(l1:is.length<=1000:=by simp):Rn (aT [.ob s,.lv (is.map D.int)] h) Q:=
 EN A (.inl rfl) (by rw[Pp];exact l0) (by rw[Pp];lia) λx h1 hx A1=>by
  obtain⟨i,hi,rfl⟩:=Ql.mp hx;exact k i h1 (hP i hi) hi A1
end
theorem zb(ns:List Int)(hn:ns.length<=63)(R:Nat)(hR:R<=2^60):∃cs:List Int,fL [.ro (ns.map D.int)] []=some (.ob 1,[.lst (cs.map D.int),.lst [.int 0,.ob 0,.int 0]])/\St 1 0 cs R [.lst (cs.map D.int),.lst [.int 0,.ob 0,.int 0]]:=by
 refine⟨(ns.drop (HT.cG ns.length 0 none)).take (HT.cG ns.length ns.length (some 63)-HT.cG ns.length 0 none),?_,⟨⟨0,0,rfl,by decide,by decide,by lia⟩,rfl,by decide⟩⟩;have e:Rn (fL [.ro (ns.map D.int)] []) λp=>p=(.ob 1,[.lst (((ns.drop (HT.cG ns.length 0 none)).take (HT.cG ns.length ns.length (some 63)-HT.cG ns.length 0 none)).map D.int),.lst [.int 0,.ob 0,.int 0]]):=by
  refine bF ?_;walk_at "g";refine ID ?_;walk_at "g";refine⟨_,rfl,rv rfl ?_⟩;walk_at "g";refine⟨_,_,_,rfl,rfl,?_⟩;walk_at "g";simp only[cutD,Pp,TC,Sk,Q9,QC,Qv,PK]
 obtain⟨p,ep,rfl⟩:=e;exact ep
end Mi
namespace Mi
open PySem Sm L2
theorem bI(hl:a.length+b.length<=10000):av (.str a) (.str b) h=some (.str (a++b),h):=by
 show(if a.length+b.length<=sizeLine then some (D.str (a++b),h) else none)=_;rw[Py (by rw[show sizeLine=16777216 from rfl];lia)]
theorem Eo(hl:a.length<=10000):cm [.str a] h=some (.int a.length,h):=by
 show(if a.length<=sizeLine then some (D.int a.length,h) else none)=_;rw[Py (by rw[show sizeLine=16777216 from rfl];lia)]
theorem xJ(hl:a.length<=10000):gg (.str a) lo hi h=some (.str (Txt.slice a lo hi),h):=by
 show(if a.length<=sizeLine then some (D.str (Txt.slice a lo hi),h) else none)=_;rw[Py (by rw[show sizeLine=16777216 from rfl];lia)]
noncomputable def sg(z:Str)(i:Int):Str:=match gK z.cps.toList i with
 | some c=>⟨#[c]⟩
 | none=>""
theorem GJ(hl:z.length<=10000)(h0:0<=i)(h1:i < z.cps.toList.length):(sg z i).length=1/\aQ (.str z) (.int i) h=some (.str (sg z i),h):=by
 obtain⟨v,e,_⟩:=EY (xs:=z.cps.toList) h0 h1;have e1:sg z i=⟨#[v]⟩:=by unfold sg;rw[e]
 rw[e1];refine⟨rfl,?_⟩;show(if z.length<=sizeLine then(gK z.cps.toList i).map λc=>(D.str ⟨#[c]⟩,h) else none)=_;rw[Py (by rw[show sizeLine=16777216 from rfl];lia),e];rfl
noncomputable def eY:Str:="abcdefghijklmnopqrstuvwxyz"
theorem k6(h0:0<=i)(h1:i < 26):(sg eY i).length=1/\aQ (.str "abcdefghijklmnopqrstuvwxyz") (.int i) h=some (.str (sg eY i),h):=
 GJ (z:=eY) (by decide) h0 (by rw[show(eY.cps.toList.length:Int)=26 by decide];exact h1)
def low(w:Str):Prop:=∀c∈w.cps,97<=c/\c<=122
theorem Gp:low "":=λc hc=>absurd (show c∈(#[]:Array Nat) from hc) (by simp)
theorem vM(ha:low a)(hb:low b):low (a++b):=by
 intro c hc;have hc':c∈a.cps++b.cps:=hc;rcases Array.mem_append.mp hc' with z | z
 ·exact ha c z
 ·exact hb c z
theorem t6(l u:Option Int)(h:low x):low (Txt.slice x l u):=by
 unfold Txt.slice
 split
 ·exact h
 ·intro c hc;have hc':c∈(List.filterMap (x.cps[·]?) (Builtin.Str.strSliceIndices l u 1 x.length)).toArray:=hc;rw[List.mem_toArray] at hc';obtain⟨i,_,e⟩:=Q5.mp hc';exact h c (Ui e)
theorem JC(h:low w):PyData.strOk w=true:=jN.mpr λc hc=>by have:=(h c hc).2;exact QQ this (by decide)
theorem yY:eY.cps.toList=(List.range 26).map (97+·):=by decide+kernel
theorem wg(h0:0<=i)(h1:i < 26):sg eY i=⟨#[97+i.toNat]⟩:=by
 obtain⟨n,rfl⟩:=QA h0;have:gK eY.cps.toList (n:Int)=some (97+n):=by
  rw[yY];exact qf (by rw[PR,List.getElem?_range (by exact Ss.mp h1)];rfl)
 unfold sg;rw[this];rfl
theorem xV(h0:0<=i)(h1:i < 26):low (sg eY i):=by
 rw[wg h0 h1];intro c hc;have:c=97+i.toNat:=by simpa using hc
 lia
theorem wQ(h0:0<=j):(Txt.slice x none (some j)).length<=j.toNat:=by
 have key:(Builtin.Str.strSliceIndices none (some j) 1 x.length).length<=j.toNat:=by
  unfold Builtin.Str.strSliceIndices sliceRange;simp only[show(1:Int) > 0 by decide,Se,Pp,P6]
  (split <;> (try split) <;> (try split) <;> (try simp only[Ud]) <;> lia)
 unfold Txt.slice
 split
 ·next z=>simp at z;have:x.cps.size=x.length:=rfl;lia
 ·show(List.filterMap _ (Builtin.Str.strSliceIndices none (some j) 1 x.length)).toArray.size<=_;rw[PQ];exact PL (Sl _ _) key
theorem wO(h0:0<=j):(Txt.slice x (some j) none).length<=x.length-j.toNat:=by
 have key:(Builtin.Str.strSliceIndices (some j) none 1 x.length).length<=x.length-j.toNat:=by
  unfold Builtin.Str.strSliceIndices sliceRange;simp only[show(1:Int) > 0 by decide,Se,Pp,P6]
  (split <;> (try split) <;> (try split) <;> (try simp only[Ud]) <;> lia)
 unfold Txt.slice
 split
 ·next z=>simp at z;have:x.cps.size=x.length:=rfl;lia
 ·show(List.filterMap _ (Builtin.Str.strSliceIndices (some j) none 1 x.length)).toArray.size<=_;rw[PQ];exact PL (Sl _ _) key
theorem zj{a b x y:Str}(e:a++x++b=a++y++b):x=y:=by
 have e1:(a.cps++x.cps)++b.cps=(a.cps++y.cps)++b.cps:=congrArg Str.cps e;have e2:=congrArg Array.toList e1;simp only[RY] at e2;have e3:=List.append_cancel_left (List.append_cancel_right e2);cases x;cases y;exact congrArg Str.mk (Array.toList_inj.mp e3)
noncomputable def wordAt(stem:Str)(at_ first stride:Int)(k:Int):Str:=Txt.slice stem none (some at_)++sg eY ((first+stride*k) % 26)++Txt.slice stem (some at_) none
theorem Cj{stem:Str}{at_ first stride:Int}{k j:Nat}(hs:stride∈[1,3,5,7,9,11])(hk:k < 6)(hj:j < 6)(e:wordAt stem at_ first stride k=wordAt stem at_ first stride j):k=j:=by
 have e1:=zj (show Txt.slice stem none (some at_)++_++Txt.slice stem (some at_) none=Txt.slice stem none (some at_)++_++_ from e);rw[wg (QO _ (by decide)) (Q6 _ (by decide)),wg (QO _ (by decide)) (Q6 _ (by decide))] at e1;have e2:97+((first+stride*k) % 26).toNat=97+((first+stride*j) % 26).toNat:=by injection e1 with e1;injection e1 with e1;injection e1
 have e3:(first+stride*k) % 26=(first+stride*j) % 26:=by
  have a1:=QO (first+stride*k) (show(26:Int)≠0 by decide);have a2:=QO (first+stride*j) (show(26:Int)≠0 by decide);rw[<-RX a1,<-RX a2,Nat.add_left_cancel e2]
 have e4:=Int.emod_eq_emod_iff_emod_sub_eq_zero.mp e3;rw[show first+stride*(k:Int)-(first+stride*(j:Int))=stride*((k:Int)-(j:Int)) by rw[Int.mul_sub,Int.add_sub_add_left]] at e4;exact(by decide:∀s∈([1,3,5,7,9,11]:List Int),∀k:Nat,k < 6->∀j:Nat,j < 6->(s*((k:Int)-(j:Int))) % 26=0->k=j) stride hs k hk j hj e4
theorem wt{h:MH}{s c R:Nat}{cs:List Int}{m:Int}{h0:MH}{Q:D×MH->Prop}(A:Sb s c cs h0 (R+20) h)(m0:0<=m)(m1:m<=6)
  (kk:∀(ws:List Str)(h1:MH),ws.length=m.toNat->(∀w∈ws,1<=w.length/\w.length<=7/\low w)->ws.Nodup->Sb s c cs h0 R h1->Q (.lv (ws.map D.str),h1)):Rn (eD [.ob s,.int m] h) Q:=by
 refine bF ?_;walk_at "g";refine fQ ?_;walk_at "g";refine kF (is:=[0,1,1,2,3,6]) (λi=>0<=i/\i<=6) (by decide) A λk h1 hk _ A1=>?_;walk_at "g";refine⟨k,rfl,by exact QM (by decide) hk.1,by exact Ro hk.2 (by decide),?_⟩;refine cQ (λi δ h'=>∃stem d4,δ=[some (.ob s),some (.int m),some (.str "abcdefghijklmnopqrstuvwxyz"),some (.str stem),d4,none,none,none]/\stem.length<=i/\low stem/\Sb s c cs h0 (R+19-i) h')
  ⟨"",_,rfl,Pw _,Gp,A1⟩ (λ_ _ _ _ _=>rfl) ?_ ?_
 ·rintro i x δ h2 hx ⟨stem,d4,rfl,hst,ba,A2⟩;have hi:i < k.toNat:=by
   have:=(Pq.mp hx).1
   simpa using this
  rw[show R+19-i=R+19-(i+1)+1 by lia] at A2;walk_at "g";refine cS A2 (by decide) (by decide) λr h3 r0 r1 A3=>?_;walk_at "g";obtain⟨hc,e4⟩:=k6 (h:=h3) r0 r1;refine rv e4 ?_;walk_at "g";refine rv (bI (by lia)) ?_;walk_at "g";exact⟨stem++sg eY r,_,rfl,by rw[Qi];lia,vM ba (xV r0 r1),A3⟩
 ·rintro δ h2 ⟨stem,d4,rfl,hst,ba,A2⟩;rw[Pp,P6] at hst A2;have A2:Sb s c cs h0 (R+3) h2:=A2.le (by lia);walk_at "g";refine rv (Eo (by lia)) ?_;walk_at "g";refine rv (a:=(.int ((stem.length:Int)+1),h2)) rfl ?_;walk_at "g";refine cS A2 (by simp) (by lia) λat_ h3 a0 a1 A3=>?_
  walk_at "g";refine cS A3 (by decide) (by decide) λfirst h4 f0 f1 A4=>?_
  walk_at "g";refine kF (is:=[1,3,5,7,9,11]) (λi=>0<=i/\i<=11) (by decide) A4 λstride h5 ht tm A5=>?_;obtain⟨t0,t1⟩:=ht;walk_at "g";refine fQ ?_;walk_at "g";refine⟨m,rfl,by exact QM (by decide) m0,by exact Ro m1 (by decide),?_⟩;have hw:∀k:Int,1<=(wordAt stem at_ first stride k).length/\(wordAt stem at_ first stride k).length<=7/\low (wordAt stem at_ first stride k):=by
   intro k;have c0:=QO (first+stride*k) (show(26:Int)≠0 by decide);have c1:=Q6 (first+stride*k) (show(0:Int) < 26 by decide);obtain⟨hc,e⟩:=k6 (i:=(first+stride*k) % 26) (h:=[]) c0 c1;have s1:=wQ (x:=stem) a0;have s2:=wO (x:=stem) a0;have s3:low (wordAt stem at_ first stride k):=vM (vM (t6 _ _ ba) (xV c0 c1)) (t6 _ _ ba);refine(λ(z:_/\_)=>⟨z.1,z.2,s3⟩) ?_;unfold wordAt;rw[Qi,Qi]
   lia
  refine rv (vt rfl (λx=>match x with | .int k=>some (.str (wordAt stem at_ first stride k)) | _=>none) (λδ=>∃d0,δ=[d0,some (.int at_),some (.int first),some (.str "abcdefghijklmnopqrstuvwxyz"),some (.str stem),some (.int stride)]) ⟨_,rfl⟩ ?_) ⟨?_,?_⟩
  ·rintro x hx δ ⟨d0,rfl⟩;obtain⟨k,hk,rfl⟩:=Ql.mp hx;refine rv rfl ⟨rfl,rv rfl ⟨rfl,⟨_,rfl⟩,λ_=>⟨_,rfl,?_⟩,λz=>(nomatch z)⟩⟩;refine lY (lY (yG ?_));walk_at "g";refine⟨_,rfl,rv (xJ (a:=stem) (by lia)) ?_⟩;walk_at "g";refine nA (DR (by exact QM (by decide) t0) (by exact Ro t1 (by decide))) ?_;refine rv (a:=(.int (first+stride*(k:Int)),h5)) rfl ?_;walk_at "g";refine kM (by decide) ?_;obtain⟨hc,e⟩:=k6 (i:=(first+stride*(k:Int)) % 26) (h:=h5) (QO _ (by decide)) (Q6 _ (by decide));have s1:=Txt.slice_le stem none (some at_);have s2:=Txt.slice_le stem (some at_) none;refine rv e (rv (bI (by lia)) ?_);refine yG ?_;walk_at "g";refine⟨_,rfl,?_⟩;walk_at "g";refine rv (xJ (a:=stem) (by lia)) (rv (bI (by rw[Qi];lia)) ?_);rfl
  ·rw[R9];exact PL (Sl _ _) (by rw[P6,show sizeLine=16777216 from rfl];lia)
  ·walk_at "g";rw[show List.filterMap (λx=>match x with | D.int k=>some (D.str (wordAt stem at_ first stride k)) | _=>none) ((List.range m.toNat).map λ(k:Nat)=>D.int k)=((List.range m.toNat).map λ(k:Nat)=>wordAt stem at_ first stride (k:Int)).map D.str by
    rw[R9,QD];exact congrFun (Uh (f:=D.str∘λ(k:Nat)=>wordAt stem at_ first stride (k:Int))) _]
   refine kk _ h5 (by simp) (λw hw'=>?_) ?_ A5
   ·obtain⟨k,_,rfl⟩:=Ql.mp hw';exact hw k
   ·rw[List.nodup_iff_pairwise_ne,List.pairwise_map];refine(List.nodup_range (n:=m.toNat)).imp_of_mem λ{a b} ha hb hab e=>hab ?_;have:=QB.mp ha;have:=QB.mp hb;exact Cj tm (by lia) (by lia) e
theorem sD.app{s:Nat}{hb h2:MH}{o:MO}(b:sD s (hb++[o]) h2)(hs:s < hb.length):∃hb',h2=hb'++[o]/\sD s hb hb':=by
 have hl:h2.length=hb.length+1:=by rw[b.1];simp
 refine⟨h2.take hb.length,?_,by rw[PY];lia,λk hk=>?_⟩
 ·refine UE λk=>?_
  by_cases z:k < hb.length
  ·rw[PJ (by rw[PY];lia),Qe z]
  ·by_cases z2:k=hb.length
   ·subst z2;rw[b.2 _ (by exact Sr hs),P0 (Pw _),P0 (by rw[PY];lia),PY];rw[show min hb.length h2.length=hb.length by lia]
   ·rw[Qx (by lia),Qx (by rw[PF,PY];simp;lia)]
 ·by_cases z:k < hb.length
  ·rw[Qe z,b.2 k hk,PJ z]
  ·rw[Qx (by rw[PY];lia),Qx (by exact Q4 z)]
theorem St.cut{s c:Nat}{cs:List Int}{B:Nat}{hb g:MH}(S:Mi.St s c cs B (hb++g))(h1:s < hb.length)(h2:c < hb.length):Mi.St s c cs B hb:=by
 obtain⟨n,t,e,r⟩:=S.st;have e2:=S.ce;rw[PJ h1] at e;rw[PJ h2] at e2;exact⟨⟨n,t,e,r⟩,e2,S.ne⟩
def Cl(h:MH):Prop:=∀o∈h,yc h.length o=true
theorem Au(n:Nat):∀js:List Int,fk n (js.map D.int)=true
 | []=>rfl
 | j::r=>by rw[PN];show(gJ n (.int _)&&fk n _)=true;rw[Au n r];rfl
theorem Cl.but{s c:Nat}{cs:List Int}{B:Nat}{h h':MH}(C:Cl h)(S:Mi.St s c cs B h')(b:sD s h h'):Cl h':=by
 intro o ho;obtain⟨k,hk⟩:=RQ.mp ho
 by_cases z:k=s
 ·subst z;obtain⟨n,t,e,_⟩:=S.st;rw[e] at hk;cases hk;show(true&&(decide (c < h'.length)&&(true&&true)))=true;rw[Qb S.lt.2];rfl
 ·rw[b.2 k z] at hk;rw[b.1];exact C o (Pr hk)
theorem rB{h hb g:MH}{d:D}(hl:hb.length=h.length)(C:Cl hb)(h1:∀n,d≠.ob n)(h2:gJ h.length d=true):leave h d (hb++g)=some (d,hb):=by
 have h3:yl h.length (hb++g) d=d:=by
  cases d with
  | ob n=>exact absurd rfl (h1 n)
  | _=>rfl
 unfold leave;rw[h3,<-hl,Rj (Pw _),QG,hl,h2];have:(hb.all (yc h.length))=true:=by
  rw[Rh];intro o ho;rw[<-hl];exact C o ho
 rw[this,Bool.or_true];rfl
theorem Oo{n:Nat}{o:MO}{h:MH}(e:h[n]?=some o):pQ [(n,o)] h=true:=by
 unfold pQ;rw[e];dsimp only;rw[uD];rfl
theorem Cl.add{h:MH}(C:Cl h){o:MO}(ho:yc (h.length+1) o=true)(up:∀o∈h,yc h.length o=true->yc (h.length+1) o=true):Cl (h++[o]):=by
 intro x hx;rw[PF,Sz];rcases PX.mp hx with z | z
 ·exact up x z (C x z)
 ·rw[PD.mp z];exact ho
mutual
theorem EI{n m:Nat}(hm:n<=m):∀d:D,gJ n d=true->gJ m d=true
 | .cj,_=>rfl
 | .bl _,_=>rfl
 | .int _,_=>rfl
 | .str _,_=>rfl
 | .ty _,_=>rfl
 | .ob k,h=>by simp only[gJ,Qp] at h ⊢;exact PL h hm
 | .tup xs,h=>by simp only[gJ] at h ⊢;exact lp hm xs h
 | .lv xs,h=>by simp only[gJ] at h ⊢;exact lp hm xs h
 | .ro xs,h=>by simp only[gJ] at h ⊢;exact lp hm xs h
 | .dv xs,h=>by simp only[gJ] at h ⊢;exact zg hm xs h
theorem lp{n m:Nat}(hm:n<=m):∀d:List D,fk n d=true->fk m d=true
 | [],_=>rfl
 | x::r,h=>by
  simp only[fk,Qd] at h ⊢;exact⟨EI hm x h.1,lp hm r h.2⟩
theorem zg{n m:Nat}(hm:n<=m):∀d:List (Key×D),GU n d=true->GU m d=true
 | [],_=>rfl
 |(_,x)::r,h=>by
  simp only[GU,Qd] at h ⊢;exact⟨EI hm x h.1,zg hm r h.2⟩
end
theorem Kl{n m:Nat}(hm:n<=m)(o:MO)(h:yc n o=true):yc m o=true:=by
 cases o with
 | lst xs=>exact lp hm xs h
 | dct xs=>exact zg hm xs h
 | dcH xs=>have h:=P1.mp h;exact P1.mpr ⟨lp hm _ h.1,lp hm _ h.2⟩
 | exc _=>rfl
theorem Cl.snoc{h:MH}(C:Cl h){o:MO}(ho:yc (h.length+1) o=true):Cl (h++[o]):=C.add ho λx _ z=>Kl (SF _) x z
theorem Cl.set{h:MH}(C:Cl h){n:Nat}{o:MO}(ho:yc h.length o=true):Cl (h.set n o):=by
 intro x hx;rw[QE];rcases List.mem_or_eq_of_mem_set hx with z | z
 ·exact C x z
 ·rw[z];exact ho
theorem Km{n:Nat}:∀{xs:List D},(∀x∈xs,gJ n x=true)->fk n xs=true
 | [],_=>rfl
 | x::r,h=>by
  show(gJ n x&&fk n r)=true;rw[h x Px,Km λy hy=>h y (Pz _ hy)];rfl
end Mi
namespace Sm
open PySem L2
theorem bx{α:Type}{o:Option α}{a:α}(r:Rn o λp=>p=a):o=some a:=let⟨_,e,q⟩:=r;by rw[e,q]
theorem rO(hl:xs.length+ys.length<=10000):av (.tup xs) (.tup ys) h=some (.tup (xs++ys),h):=by
 cases xs with
 | nil=>rfl
 | cons x xs=>
  show(if xs.length+1+ys.length<=sizeLine then some (D.tup (x::xs++ys),h) else none)=_;rw[Py (by rw[show sizeLine=16777216 from rfl];rw[PK] at hl;exact PL hl (by decide))]
theorem tt(a:A):(true=true->A)/\(true=false->B):=⟨λ_=>a,λz=>(nomatch z)⟩
theorem ff(b:B):(false=true->A)/\(false=false->B):=⟨λz=>(nomatch z),λ_=>b⟩
end Sm
namespace Mi
open PySem Sm L2 Pg
noncomputable def ng(W:Wd)(fl:List Int)(left odd:Int):MO:=.dct [(.inr (Str.ofString "names"),.lv (W.names.map D.str)),(.inr (Str.ofString "deeds"),.lv (W.aj.map D.str)),(.inr (Str.ofString "params"),.lv (W.params.map λps=>.lv (ps.map D.str))),(.inr (Str.ofString "floors"),.lv (fl.map D.int)),(.inr (Str.ofString "left"),.int left),(.inr (Str.ofString "odd"),.int odd)]
structure sj(W:Wd)(fl:List Int)(odd:Int):Prop where
 n1:1<=W.names.length
 n2:W.names.length<=6
 d1:1<=W.aj.length
 d2:W.aj.length<=6
 pl:W.params.length=W.aj.length
 p3:∀ps∈W.params,ps.length<=3
 Oh:fl.length=W.aj.length
 f0:∀f∈fl,0<=f/\f < W.names.length
 o0:0<=odd
 o1:odd<=1000
 sn:∀w∈W.names,1<=w.length/\w.length<=7/\low w
 sd:∀w∈W.aj,1<=w.length/\w.length<=7/\low w
 sp:∀ps∈W.params,∀w∈ps,1<=w.length/\w.length<=7/\low w
 nn:W.names.Nodup
 nd:W.aj.Nodup
 np:∀ps∈W.params,ps.Nodup
section
variable {h:MH} {wd:Nat} {W:Wd} {fl:List Int} {left odd:Int}
theorem dW(hw:h[wd]?=some (ng W fl left odd)):aQ (.ob wd) (.str (Str.ofString "names")) h=some (.lv (W.names.map D.str),h):=by simp only[aQ,dU,hw,ng];rfl
theorem dX(hw:h[wd]?=some (ng W fl left odd)):aQ (.ob wd) (.str (Str.ofString "deeds")) h=some (.lv (W.aj.map D.str),h):=by simp only[aQ,dU,hw,ng];rfl
theorem cU(hw:h[wd]?=some (ng W fl left odd)):aQ (.ob wd) (.str (Str.ofString "params")) h=some (.lv (W.params.map λps=>.lv (ps.map D.str)),h):=by simp only[aQ,dU,hw,ng];rfl
theorem nq(hw:h[wd]?=some (ng W fl left odd)):aQ (.ob wd) (.str (Str.ofString "floors")) h=some (.lv (fl.map D.int),h):=by simp only[aQ,dU,hw,ng];rfl
theorem pS(hw:h[wd]?=some (ng W fl left odd)):aQ (.ob wd) (.str (Str.ofString "left")) h=some (.int left,h):=by simp only[aQ,dU,hw,ng];rfl
theorem yh(hw:h[wd]?=some (ng W fl left odd)):aQ (.ob wd) (.str (Str.ofString "odd")) h=some (.int odd,h):=by simp only[aQ,dU,hw,ng];rfl
theorem Ck(hw:h[wd]?=some (ng W fl left odd))(v:Int):td (.ob wd) (.str (Str.ofString "left")) (.int v) h=some (h.set wd (ng W fl v odd)):=by
 have h1:(6:Nat) < sizeLine:=by decide
 simp only[td,hw,ng,vO,Qc,PK,Q9];rw[Py h1];rfl
end
section
variable {h h0:MH} {s c wd R:Nat} {cs:List Int} {W:Wd} {fl:List Int} {left odd:Int} {Q:D×MH->Prop}
theorem EO(A:Sb s c cs h0 (R+1) h)(hw:h[wd]?=some (ng W fl left odd))(ok:sj W fl odd)(k:∀(b:Bool)(h1:MH),Sb s c cs h0 R h1->Q (.bl b,h1)):Rn (dz [.ob s,.ob wd] h) Q:=by
 refine bF ?_;nofun;refine rv (yh hw) ?_;nofun;refine⟨_,rfl,λz=>?_,λz=>?_⟩
 ·nofun;refine rv (yh hw) ?_;nofun;refine cS A (Qy z) (by have:=ok.o1;exact QM this (by decide)) λm h1 _ _ A1=>?_;nofun;exact k _ _ A1
 ·nofun;exact k _ _ (A.dn 1)
theorem wu{ps:List Str}(A:Sb s c cs h0 (R+4) h)(hp:ps.length<=3)(k:∀(t:Term)(h1:MH),eP ps t->t.2<=40->Sb s c cs h0 R h1->Q (bq t,h1)):Rn (bW [.ob s,.lv (ps.map D.str)] h) Q:=by
 refine bF ?_;nofun;refine cS A (by decide) (by decide) λm h1 m0 m1 A1=>?_;nofun;have plain:∀{h2:MH} {P:D×MH->Prop},Sb s c cs h0 (R+1) h2->(∀(i:Int)(h3:MH),-40<=i/\i<=40->Sb s c cs h0 R h3->P (.int i,h3))->Rn (aT [.ob s,.lv [.int 0,.int 0,.int 1,.int 1,.int 2,.int 3,.int (-1),.int (m-40)]] h2) P:=λA2 kk=>
  kF (is:=[0,0,1,1,2,3,-1,m-40]) (λi=>-40<=i/\i<=40) (by intro x hx;simp at hx;lia) A2 λi h3 hi _ A3=>kk i h3 hi A3
 refine⟨_,rfl,λz=>?_,λz=>⟨λz=>(nomatch z),λ_=>?_⟩⟩
 ·have z:0 < ps.length:=by simpa using z
  nofun;refine cS A1 (by decide) (by decide) λm2 h2 _ _ A2=>?_;nofun;refine⟨_,rfl,λ_=>?_,λ_=>?_⟩
  ·nofun;refine EN A2 (.inl rfl) (by simpa using z) (by simp;lia) λd3 h3 hd3 A3=>?_;obtain⟨w,hw,rfl⟩:=Ql.mp hd3;nofun;refine kF (is:=[0,0,0,0,1,1,-1,2,m-40]) (λi=>-40<=i/\i<=40) (by intro x hx;simp at hx;lia) A3 λi h4 hi _ A4=>?_;nofun;exact k (w,i) h4 ⟨.inr hw,by dsimp only;exact QM (by decide) hi.1,by dsimp only;exact QM hi.2 (by decide)⟩ hi.2 A4
  ·nofun;refine plain (A2.dn 1) λi h3 hi A3=>?_;nofun;exact k (Str.ofString "",i) h3 ⟨.inl rfl,by dsimp only;exact QM (by decide) hi.1,by dsimp only;exact QM hi.2 (by decide)⟩ hi.2 A3
 ·nofun;refine plain (A1.dn 2) λi h3 hi A3=>?_;nofun;exact k (Str.ofString "",i) h3 ⟨.inl rfl,by dsimp only;exact QM (by decide) hi.1,by dsimp only;exact QM hi.2 (by decide)⟩ hi.2 A3
end
theorem bR{α:Type}{xs:List α}{f:α->D}{h:MH}{j:Nat}{x:α}(e:xs[j]?=some x):aQ (.lv (xs.map f)) (.int j) h=some (f x,h):=by
 have hj:j < xs.length:=by
  rcases Nat.lt_or_ge j xs.length with z | z
  ·exact z
  ·rw[Qx z] at e;cases e
 show((gK (xs.map f) j).map λz=>(z,h))=_;have:gK (xs.map f) j=some (f x):=by
  unfold gK;rw[show sZ (xs.map f).length j=some j by unfold sZ;simp;exact hj];show(xs.map f)[j]?=_;rw[PR,e];rfl
 rw[this];rfl
theorem iP(i j:Int)(h:MH):rN [.int i,.int j] h=some (.int (max i j),h):=by
 show some (D.int (if j > i then j else i),h)=_;rw[show(if j > i then j else i)=max i j by split <;> lia]
theorem GI(i j:Int)(h:MH):Ek [.int i,.int j] h=some (.int (min i j),h):=by
 show some (D.int (if j < i then j else i),h)=_;rw[show(if j < i then j else i)=min i j by split <;> lia]
theorem z9{α:Type}{o:Option Bool}{x y:Option α}{X Y:α->Prop}(r:∃c,o=some c/\(c=true->Rn x Y)/\(c=false->Rn y Y))(f:∀p,Y p->X p):∃c,o=some c/\(c=true->Rn x X)/\(c=false->Rn y X):=
 let⟨c,e,a,b⟩:=r
 ⟨c,e,λz=>(a z).imp f,λz=>(b z).imp f⟩
noncomputable def qo(t:Term):PyData:=.tuple [.str t.1,.int t.2]
theorem tN:∀ts:List Term,oF (ts.map bq)=some (ts.map qo)
 | []=>rfl
 | c::r=>by simp only[PN,oF,tN r,bq,vw,Qc,Qk];rfl
theorem pf:∀ts:List Term,PyData.depthAll (ts.map qo)<=1
 | []=>by simp[PyData.depthAll]
 | c::r=>by
  have:=pf r;simp only[PN,PyData.depthAll,qo,PyData.depth]
  lia
theorem y4(ts:List Term)(h:MH):jz (.lv (ts.map bq)) (.lv []) h=some (.bl (!ts.isEmpty),h):=by
 have:=pf ts;simp only[jz,Hr,dU,Hq,zL,tN,vw,oF,Qk,Qc];rw[Py ⟨show PyData.depthAll _+1<=64 by exact QQ this (by decide),by decide⟩];cases ts <;> rfl
section
variable {h h0:MH} {s c wd R:Nat} {cs:List Int} {W:Wd} {fl:List Int} {left odd:Int} {Q:D×MH->Prop}
theorem Kq{ps:List Str}{j:Nat}{top:Int}{held:List Lock}(A:Sb s c cs h0 (R+10) h)(hw0:h0[wd]?=some (ng W fl left odd))(hne:wd≠s)(ok:sj W fl odd)(hp:W.params[j]?=some ps)(hj:j < W.aj.length)(ht:top<=W.names.length)(hh:∀l∈held,fA W ps l)(hl:held.length<=1000)
  (k1:∀(k:Int)(l:Lock)(h1:MH),max top (fl[j]?.getD 0) < W.names.length->0<=k->k < W.names.length->fA W ps l->Sb s c cs h0 R h1->Q (.tup [.int k,aG l],h1))
  (k2:∀(h1:MH),max top (fl[j]?.getD 0)=W.names.length->Sb s c cs h0 R h1->Q (.tup [.cj,.cj],h1)):Rn (fq [.ob s,.ob wd,.int j,.int top,.lv (held.map aG)] h) Q:=by
 have hw:=A.at_ hw0 hne;obtain⟨f,hf⟩:∃f,fl[j]?=some f:=⟨_,PV (by rw[ok.Oh];exact hj)⟩;have hfm:=ok.f0 f (Pr hf);have n2:=ok.n2;rw[hf] at k1 k2;dsimp only[Option.getD_some] at k1 k2;refine bF ?_;nofun;refine rv (nq hw) ?_;nofun;refine rv (bR hf) ?_;nofun;refine rv (iP top f h) ?_;have lo0:0<=max top f:=by lia
 have lo1:max top f<=W.names.length:=by lia
 generalize max top f=lo at lo0 lo1 k1 k2 ⊢;nofun;refine rv (dW hw) ?_;nofun;refine⟨_,rfl,λz=>?_,λz=>?_⟩
 ·have z:lo=W.names.length:=by simpa using z
  nofun;exact k2 h z (A.dn 10)
 have z:lo≠W.names.length:=by simpa using z
 have z0:lo < W.names.length:=by lia
 have k1:=λk l h1=>k1 k l h1 z0;clear k2;nofun;refine rv (dW hw) ?_;nofun;simp only[Pp];refine cS A (by lia) (by lia) λm h1 m0 m1 A1=>?_;nofun;refine EO A1 (A1.at_ hw0 hne) ok λb h2 A2=>?_;nofun;refine z9 (Y:=λr=>∃(k:Int)(h3:MH),r=(Fl.nx,[some (.ob s),some (.ob wd),some (.int j),some (.int top),some (.lv (held.map aG)),some (.int lo),some (.int k),none,none,none,none],h3)/\0<=k/\k < W.names.length/\Sb s c cs h0 (R+7) h3) ?_ ?_
 ·refine⟨b,rfl,λ_=>?_,λ_=>?_⟩
  ·nofun;refine rv (dW (A2.at_ hw0 hne)) ?_;nofun;simp only[Pp];refine cS A2 (by exact Ro hfm.1 hfm.2) (by lia) λk h3 k0 k1 A3=>?_;exact⟨k,h3,rfl,k0,k1,A3⟩
  ·nofun;exact⟨lo+m,h2,rfl,by lia,by lia,A2.dn 1⟩
 rintro _ ⟨k,h3,rfl,k0,kL,A3⟩;have hw3:=A3.at_ hw0 hne;have k1:=λl h1=>k1 k l h1 k0 kL;obtain⟨kn,rfl⟩:=QA k0;obtain⟨nm,hnm⟩:∃f,W.names[kn]?=some f:=⟨_,PV (by exact Ss.mp kL)⟩;show Rn _ _;nofun;refine rv (dW hw3) ?_;nofun;refine rv (bR hnm) ?_;nofun;refine fv ?_;nofun;refine⟨_,_,rfl,?_⟩;obtain⟨⟨ys,h4⟩,e4,hyl,hym,δ4,hh4,_⟩:=pW (ws:=[]) (g:=gN 0) (c:=aE (ak cR (ak aQ (ay 0) (eK (D.int 0))) (ay 1))) (e:=ak aQ (ay 0) (eK (D.int 1))) (λx y=>∃l∈held,x=aG l/\y=bq l.2)
  (xs:=held.map aG) (δ:=[none,some (.str nm)]) (h:=h3) (λj δ h'=>h'=h3/\∃d0,δ=[d0,some (.str nm)]) ⟨rfl,_,rfl⟩ (λ_ _ _ _ _=>rfl) (by
   rintro i x δ h' hx ⟨rfl,d0,rfl⟩;obtain⟨l,hl,rfl⟩:=Ql.mp (Pr hx);nofun;refine rv (a:=(.str l.1,_)) rfl ?_;nofun;refine⟨_,rfl,λ_=>?_,λ_=>⟨rfl,_,rfl⟩⟩;nofun;exact rv (a:=(bq l.2,_)) rfl ⟨⟨l,hl,rfl,rfl⟩,rfl,_,rfl⟩)
 dsimp only at hh4;subst hh4;refine rv e4 ⟨PL hyl (by rw[Pp,show sizeLine=16777216 from rfl];exact PL hl (by decide)),?_⟩;obtain⟨ts,rfl,htm⟩:∃ts:List Term,ys=ts.map bq/\∀t∈ts,eP ps t:=by
  clear e4 hyl
  induction ys with
  | nil=>exact⟨[],rfl,λ_ z=>(nomatch z)⟩
  | cons y r ih=>
   obtain⟨js,rfl,h1⟩:=ih λz hz=>hym z (Pz _ hz);obtain⟨x,hx,l,hl,rfl,rfl⟩:=hym y Px;exact⟨l.2::js,rfl,Uq.mpr ⟨(hh l hl).2,h1⟩⟩
 nofun;have pl:=ok.p3 ps (Pr hp);refine rv (y4 ts _) ⟨_,rfl,λz=>?_,λz=>⟨λz=>(nomatch z),λ_=>?_⟩⟩
 ·nofun;refine EO A3 hw3 ok λb' h5 A5=>⟨_,rfl,λ_=>?_,λ_=>?_⟩
  ·have hts:ts≠[]:=by rintro rfl;cases z
   obtain⟨us,last,rfl⟩:∃us last,ts=us++[last]:=⟨ts.dropLast,ts.getLast hts,(List.dropLast_concat_getLast hts).symm⟩;have hlast:=htm last (by simp);nofun;refine rv (a:=(bq last,_)) (by
    show((gK ((us++[last]).map bq) (-1)).map λz=>(z,h5))=_;rw[P4];show((gK (us.map bq++[bq last]) (-1)).map λz=>(z,h5))=_;rw[EZ];rfl) ?_
   nofun;refine rv (a:=_) rfl ?_;nofun;refine cS A5 (by decide) (by decide) λm6 h6 m60 m61 A6=>?_;nofun;refine rv (GI _ _ _) ?_;nofun;exact k1 (nm,(last.1,min 99 (last.2+1+m6))) h6 ⟨Pr hnm,hlast.1,by dsimp only;have:=hlast.2;lia,by dsimp only;lia⟩ (A6.dn 5)
  ·nofun;refine rv (cU (A5.at_ hw0 hne)) ?_;nofun;refine rv (bR hp) ?_;nofun;refine wu (A5.dn 2) pl λt h6 tk _ A6=>?_;nofun;exact k1 (nm,t) h6 ⟨Pr hnm,tk⟩ A6
 ·nofun;refine rv (cU hw3) ?_;nofun;refine rv (bR hp) ?_;nofun;refine wu (A3.dn 3) pl λt h6 tk _ A6=>?_;nofun;exact k1 (nm,t) h6 ⟨Pr hnm,tk⟩ A6
end
theorem xK(cs:List Int)(h:MH):cR (.lv (cs.map D.int)) (.lv []) h=some (.bl cs.isEmpty,h):=by
 simp only[cR,Hr,dU,Hq,zL,qT,vw,oF,Qk,Qc,PyData.depth,lj];cases cs <;> rfl
theorem II(r:Rn (m δ h) λp=>∃j:Int,p.1=[.int j]/\0<=j/\j<=1000/\Q ((List.range j.toNat).map λ(k:Nat)=>D.int (k:Int),p.2)):Rn (Kz m δ h) Q:=aW (r.imp λp ⟨j,e,h1,h2,q⟩=>by
 rw[e];dsimp only;rw[Py ⟨h1,h2⟩];exact⟨_,rfl,q⟩)
section
variable {h h0:MH} {s c wd R:Nat} {cs:List Int} {W:Wd} {fl:List Int} {left odd:Int} {Q:D×MH->Prop}
theorem Kt{top:Int}(A:Sb s c cs h0 (R+14) h)(hw0:h0[wd]?=some (ng W fl left odd))(hne:wd≠s)(ok:sj W fl odd)(hp:W.params[j]?=some ps)(hj:j < W.aj.length)
  (kk:∀(r:Row)(h1:MH),(∀n,bG W ps n r)->cnt r=1->Sb s c cs h0 R h1->Q (ax r,h1)):Rn (gE [.ob s,.ob wd,.int j,.int top] h) Q:=by
 have hw:=A.at_ hw0 hne;have d2:=ok.d2;have pl:=ok.p3 ps (Pr hp);obtain⟨dj,hdj⟩:∃f,W.aj[j]?=some f:=⟨_,PV hj⟩;refine bF ?_;nofun;refine fQ ?_;nofun;refine rv (dX hw) ?_;nofun;refine⟨(W.aj.map D.str).length,rfl,by rw[Pp];simp,by rw[Pp];lia,?_⟩;rw[Pp,QW];obtain⟨⟨ys,h1⟩,e1,hyl,hym,δ1,hh1,_⟩:=pW (ws:=[]) (g:=gN 0) (c:=pF (aE (ak vV (ak aQ (ak aQ (ay 3) (eK (.str "floors"))) (ay 0)) (ay 2))) (aE (ak Mn (ay 0) (ay 1)))) (e:=ay 0) (λx y=>y=x)
  (xs:=(List.range W.aj.length).map λ(k:Nat)=>D.int (k:Int)) (δ:=[none,some (.int j),some (.int top),some (.ob wd)]) (h:=h) (λi δ h'=>h'=h/\∃d0,δ=[d0,some (.int j),some (.int top),some (.ob wd)]) ⟨rfl,_,rfl⟩ (λ_ _ _ _ _=>rfl) (by
   rintro i x δ h' hx ⟨rfl,d0,rfl⟩;rw[PR] at hx;obtain⟨k,hk,hk2⟩:=P5.mp hx;subst hk2;have hkl:k < fl.length:=by rw[ok.Oh];exact QB.mp (Pr hk)
   obtain⟨f,hf⟩:∃f,fl[k]?=some f:=⟨_,PV hkl⟩;nofun;refine rv (nq hw) ?_;nofun;refine rv (bR hf) ?_;nofun;refine⟨_,rfl,λ_=>?_,λ_=>⟨λz=>(nomatch z),λ_=>⟨rfl,_,rfl⟩⟩⟩;nofun;refine⟨_,rfl,λ_=>?_,λ_=>⟨rfl,_,rfl⟩⟩;nofun;exact⟨rfl,rfl,_,rfl⟩)
 dsimp only at hh1;subst hh1;refine rv e1 ⟨PL hyl (by rw[Pp,P6,show sizeLine=16777216 from rfl];exact PL d2 (by decide)),?_⟩;have hint:∀zs:List D,(∀y∈zs,∃x,x∈(List.range W.aj.length).map (λ(k:Nat)=>D.int (k:Int))/\y=x)->∃js:List Int,zs=js.map D.int/\∀k∈js,0<=k/\k < W.aj.length:=by
  intro zs hz
  induction zs with
  | nil=>exact⟨[],rfl,λ_ z=>(nomatch z)⟩
  | cons y r ih=>
   obtain⟨js,rfl,q⟩:=ih λz hz'=>hz z (Pz _ hz');obtain⟨x,hx,rfl⟩:=hz y Px;obtain⟨k,hk,rfl⟩:=Ql.mp hx;exact⟨k::js,rfl,λi hi=>by
    rcases PB.mp hi with rfl | hi
    ·have:=QB.mp hk;clear ih;lia
    ·exact q i hi⟩
 have hyn:ys.length<=6:=by
  have h9:ys.length<=_:=hyl;rw[Pp,P6] at h9;exact PL h9 d2
 obtain⟨js,rfl,hjs⟩:=hint ys hym;rw[Pp] at hyn;nofun;refine EO A hw ok λb h2 A2=>?_;have hw2:=A2.at_ hw0 hne;nofun;refine z9 (Y:=λr=>∃(ks:List Int),r=(Fl.nx,[some (.ob s),some (.ob wd),some (.int j),some (.int top),some (.lv (ks.map D.int)),none,none],h2)/\ks.length<=6/\∀k∈ks,0<=k/\k < W.aj.length) ?_ ?_
 ·refine⟨b,rfl,λ_=>?_,λ_=>?_⟩
  ·nofun;refine II ?_;nofun;refine rv (dX hw2) ?_;nofun;refine⟨(W.aj.map D.str).length,rfl,by rw[Pp];simp,by rw[Pp];lia,?_⟩;rw[Pp,QW];obtain⟨ks,hk1,hk2⟩:=hint _ λy hy=>⟨y,hy,rfl⟩;refine⟨ks,?_,?_,hk2⟩
   ·show _=_;rw[<-hk1];rfl
   ·have:=congrArg List.length hk1;rw[Pp,Pp,P6] at this
    lia
  ·nofun;exact⟨js,rfl,hyn,hjs⟩
 rintro _ ⟨ks,rfl,kn,hks⟩;show Rn _ _;nofun;refine rv (xK ks _) ⟨_,rfl,λz=>?_,λz=>?_⟩
 ·nofun;refine rv (dX hw2) ?_;nofun;refine rv (bR hdj) ?_;nofun;have:=kk (.say dj) h2 (λn=>by unfold bG;exact P7 _ (Pr hdj)) (by rw[cnt]) (A2.dn 13);rw[ax] at this;exact this
 have z0:0 < ks.length:=by cases ks with | nil=>cases z | cons _ _=>simp
 nofun;refine EN A2 (.inl rfl) (by simpa using z0) (by simp;lia) λd3 h3 hd3 A3=>?_;have hw3:=A3.at_ hw0 hne;obtain⟨k,hk,rfl⟩:=Ql.mp hd3;obtain⟨k0,k1⟩:=hks k hk;obtain⟨kn',rfl⟩:=QA k0;have hkl:kn' < W.aj.length:=by exact Ss.mp k1
 obtain⟨dk,hdk⟩:∃f,W.aj[kn']?=some f:=⟨_,PV hkl⟩;obtain⟨qs,hqs⟩:∃f,W.params[kn']?=some f:=⟨_,PV (by rw[ok.pl];exact hkl)⟩;have ql:=ok.p3 qs (Pr hqs);nofun;refine fv ?_;nofun;refine rv (cU hw3) ?_;nofun;refine rv (bR hqs) ?_;refine⟨_,_,rfl,?_⟩;obtain⟨⟨zs,h4⟩,e4,hzs,δ4,_,A4⟩:=pX (ws:=[]) (g:=gN 0) (e:=aw bW (ag (ay 2) (ag (ak aQ (ak aQ (ay 3) (eK (.str "params"))) (ay 1)) aM))) (λ_ y=>∃t:Term,y=bq t/\eP ps t)
  (xs:=qs.map D.str) (δ:=[none,some (.int j),some (.ob s),some (.ob wd)]) (h:=h3) (λi δ h'=>(∃d0,δ=[d0,some (.int j),some (.ob s),some (.ob wd)])/\Sb s c cs h0 (R+4*(3-i)) h') ⟨⟨_,rfl⟩,A3⟩ (λ_ _ _ _ _=>rfl) (by
   rintro i x δ h' hx ⟨⟨d0,rfl⟩,Ai⟩;have hi:i < 3:=by
    have:=(Pq.mp hx).1;rw[Pp] at this
    lia
   rw[show R+4*(3-i)=R+4*(3-(i+1))+4 by clear Ai;lia] at Ai;have hwi:=Ai.at_ hw0 hne;nofun;refine rv (cU hwi) ?_;nofun;refine rv (bR hp) ?_;nofun;exact wu Ai pl λt h6 tk _ A6=>⟨⟨t,rfl,tk⟩,⟨_,rfl⟩,A6⟩)
 obtain⟨ts,rfl,htm⟩:∃ts:List Term,zs=ts.map bq/\∀t∈ts,eP ps t:=by
  have hr:=hzs.right;clear e4 hzs A4;dsimp only at hr
  induction zs with
  | nil=>exact⟨[],rfl,λ_ z=>(nomatch z)⟩
  | cons y r ih=>
   obtain⟨js,rfl,h1⟩:=ih λz hz=>hr z (Pz _ hz);obtain⟨x,hx,t,rfl,tk⟩:=hr y Px;exact⟨t::js,rfl,λj hj=>by
    rcases PB.mp hj with rfl | hj
    ·exact tk
    ·exact h1 j hj⟩
 have hzl:=hzs.length;dsimp only at hzl;rw[Pp,Pp] at hzl;refine rv e4 ⟨by dsimp only;rw[Pp,show sizeLine=16777216 from rfl];lia,?_⟩;have A4:Sb s c cs h0 R h4:=A4.le (Qa _ _);have hw4:=A4.at_ hw0 hne;nofun;refine rv (dX hw4) ?_;nofun;refine rv (bR hdk) ?_;nofun;refine rv (a:=(.tup (ts.map bq),_)) rfl ?_;nofun;have:=kk (.call dk ts) h4 (λn=>by unfold bG;exact⟨⟨kn',qs,hdk,hqs,hzl⟩,htm⟩) (by rw[cnt]) A4;rw[ax] at this;exact this
end
def gh(s wd:Nat)(h h':MH):Prop:=h'.length=h.length/\∀k,k≠s->k≠wd->h'[k]?=h[k]?
theorem gh.refl(s wd:Nat)(h:MH):gh s wd h h:=⟨rfl,λ_ _ _=>rfl⟩
theorem gh.trans(a:gh s wd h h1)(b:gh s wd h1 h2):gh s wd h h2:=⟨b.1.trans a.1,λk n m=>(b.2 k n m).trans (a.2 k n m)⟩
theorem sD.two(a:sD s h h1):gh s wd h h1:=⟨a.1,λk n _=>a.2 k n⟩
theorem gh.set:gh s wd h (h.set wd o):=⟨QE,λk _ n=>Qo (Q0 n)⟩
theorem gh.Ox(b:gh s wd (hb++g) h2)(hs:s < hb.length)(hw:wd < hb.length):∃hb',h2=hb'++g/\gh s wd hb hb':=by
 have hl:h2.length=hb.length+g.length:=by rw[b.1];simp
 refine⟨h2.take hb.length,?_,by rw[PY];lia,λk hk hk'=>?_⟩
 ·refine UE λk=>?_
  by_cases z:k < hb.length
  ·rw[PJ (by rw[PY];lia),Qe z]
  ·rw[b.2 _ (by lia) (by lia),P0 (by exact Q4 z),P0 (by rw[PY];lia),PY];rw[show min hb.length h2.length=hb.length by lia]
 ·by_cases z:k < hb.length
  ·rw[Qe z,b.2 k hk hk',PJ z]
  ·rw[Qx (by rw[PY];lia),Qx (by exact Q4 z)]
theorem ie(n:Nat):∀js:List Str,fk n (js.map D.str)=true
 | []=>rfl
 | j::r=>by rw[PN];show(gJ n (.str _)&&fk n _)=true;rw[ie n r];rfl
theorem uw(n:Nat):∀js:List (List Str),fk n (js.map λps=>.lv (ps.map D.str))=true
 | []=>rfl
 | j::r=>by rw[PN];show(fk n (j.map D.str)&&fk n _)=true;rw[ie n j,uw n r];rfl
theorem zf(n:Nat)(W:Wd)(fl:List Int)(l odd:Int):yc n (ng W fl l odd)=true:=by
 show(fk n _&&(fk n _&&(fk n _&&(fk n _&&(true&&(true&&true))))))=true;rw[ie,ie,uw,Au];rfl
structure En where
 s:Nat
 c:Nat
 wd:Nat
 cs:List Int
 W:Wd
 fl:List Int
 odd:Int
 ok:sj W fl odd
 ne:wd≠s
 nc:wd≠c
structure Wb(E:En)(h0:MH)(R l:Nat)(h:MH):Prop where
 S:St E.s E.c E.cs R h
 w:h[E.wd]?=some (ng E.W E.fl l E.odd)
 C:Cl h
 b:gh E.s E.wd h0 h
section
variable {E:En} {h0 h h1 h' g:MH} {R R' l l' k:Nat} {Q:D×MH->Prop}
theorem Wb.lt(A:Wb E h0 R l h):E.s < h.length/\E.c < h.length/\E.wd < h.length:=⟨A.S.lt.1,A.S.lt.2,(Pq.mp A.w).1⟩
theorem Wb.by(A:Wb E h0 R l h)(B:Sb E.s E.c E.cs h R' h1):Wb E h0 R' l h1:=⟨B.S,(B.b.2 _ E.ne).trans A.w,A.C.but B.S B.b,A.b.trans B.b.two⟩
theorem Wb.le(A:Wb E h0 R l h)(hR:R'<=R):Wb E h0 R' l h:=⟨A.S.le hR,A.w,A.C,A.b⟩
theorem Wb.here(A:Wb E h0 R l h):Wb E h R l h:=⟨A.S,A.w,A.C,gh.refl _ _ _⟩
theorem Wb.tr(A:Wb E h1 R l h)(b:gh E.s E.wd h0 h1):Wb E h0 R l h:=⟨A.S,A.w,A.C,b.trans A.b⟩
theorem Wb.set(A:Wb E h0 R l h)(v:Nat):Wb E h0 R v (h.set E.wd (ng E.W E.fl v E.odd)):=
 ⟨A.S.off E.ne E.nc,Qf A.lt.2.2,A.C.set (zf _ _ _ _ _),A.b.trans gh.set⟩
theorem Wb.push(A:Wb E h0 R l h)(ho:yc (h.length+1) o=true):Wb E (h++[o]) R l (h++[o]):=⟨A.S.more _,by rw[PJ A.lt.2.2];exact A.w,A.C.snoc ho,gh.refl _ _ _⟩
theorem Kk(C:Cl h)(S:St E.s E.c E.cs R h')(w:h'[E.wd]?=some (ng E.W E.fl l E.odd))(b:gh E.s E.wd h h'):Cl h':=by
 intro o ho;obtain⟨k,hk⟩:=RQ.mp ho
 by_cases z:k=E.s
 ·subst z;obtain⟨n,t,e,_⟩:=S.st;rw[e] at hk;cases hk;show(true&&(decide (E.c < h'.length)&&(true&&true)))=true;rw[Qb S.lt.2];rfl
 ·by_cases z2:k=E.wd
  ·subst z2;rw[w] at hk;cases hk;exact zf _ _ _ _ _
  ·rw[b.2 k z z2] at hk;rw[b.1];exact C o (Pr hk)
theorem Wb.pop(A0:Wb E h0 R0 l0 h)(A:Wb E (h++g) R l h'):∃hb,h'=hb++g/\hb.length=h.length/\Wb E h0 R l hb:=by
 obtain⟨h1,h2,h3⟩:=A0.lt;obtain⟨hb,rfl,b⟩:=A.b.Ox h1 h3;have e:=b.1;have S:=A.S.cut (by lia) (by lia);have w:=A.w;rw[PJ (by lia)] at w;exact⟨hb,rfl,e,S,w,Kk A0.C S w b,A0.b.trans b⟩
theorem w_next(A:Wb E h0 (R+1) l h)(m0:0 < m)(m1:m<=10^40)(k:∀(r:Int)(h1:MH),0<=r->r < m->Wb E h0 R l h1->Q (.int r,h1)):Rn (aH [.ob E.s,.int m] h) Q:=
 cS A.S.sb m0 m1 λr h1 r0 r1 S1=>k r h1 r0 r1 (A.by S1)
theorem K2(A:Wb E h0 (R+1) l h)(hd:d=.lv xs\/d=.tup xs)(l0:0 < xs.length)(l1:xs.length<=1000000)(k:∀(x:D)(h1:MH),x∈xs->Wb E h0 R l h1->Q (x,h1)):Rn (aT [.ob E.s,d] h) Q:=
 EN A.S.sb hd l0 l1 λx h1 hx S1=>k x h1 hx (A.by S1)
theorem Cm{is:List Int}(P:Int->Prop)(hP:∀i∈is,P i)(A:Wb E h0 (R+1) l h)(k:∀(i:Int)(h1:MH),P i->Wb E h0 R l h1->Q (.int i,h1))(l0:0 < is.length:=by simp)(l1:is.length<=1000:=by simp):Rn (aT [.ob E.s,.lv (is.map D.int)] h) Q:=
 kF P hP A.S.sb (λi h1 hi _ S1=>k i h1 hi (A.by S1)) l0 l1
theorem uL(A:Wb E h0 (R+4) l h)(hp:ps.length<=3)(k:∀(t:Term)(h1:MH),eP ps t->Wb E h0 R l h1->Q (bq t,h1)):Rn (bW [.ob E.s,.lv (ps.map D.str)] h) Q:=
 wu A.S.sb hp λt h1 ht _ S1=>k t h1 ht (A.by S1)
structure Cd(W:Wd)(j:Nat)(ps:List Str)(d:Nat)(top:Int)(held:List Lock):Prop where
 hp:W.params[j]?=some ps
 hj:j < W.aj.length
 d1:1<=d
 ht:top<=W.names.length
 hh:∀x∈held,fA W ps x
 hl:held.length<=4*d
variable {j d f:Nat} {ps:List Str} {top:Int} {held:List Lock}
theorem Cd.more{W:Wd}{n:Nat}{top':Int}{ls:List Lock}(G:Cd W j ps d top held)(ht:top'<=W.names.length)(hl:ls.length<=4*n)(ho:∀x∈ls,fA W ps x):Cd W j ps (d+n) top' (held++ls):=
 ⟨G.hp,G.hj,PL G.d1 (Qa _ _),ht,λx hx=>(PX.mp hx).elim (G.hh x) (ho x),by have:=G.hl;rw[PF];lia⟩
theorem Cd.deep{W:Wd}(G:Cd W j ps d top held):Cd W j ps (d+1) top held:=⟨G.hp,G.hj,Ta G.d1,G.ht,G.hh,by have:=G.hl;lia⟩
theorem Cd.pl(G:Cd E.W j ps d top held):ps.length<=3:=E.ok.p3 ps (Pr G.hp)
theorem Cn(A:Wb E h0 (R+10) l h)(G:Cd E.W j ps d top held)(hd:d<=5)(k1:∀(k:Int)(x:Lock)(h1:MH),max top (E.fl[j]?.getD 0) < E.W.names.length->0<=k->k < E.W.names.length->fA E.W ps x->Wb E h0 R l h1->Q (.tup [.int k,aG x],h1))
  (k2:∀(h1:MH),max top (E.fl[j]?.getD 0)=E.W.names.length->Wb E h0 R l h1->Q (.tup [.cj,.cj],h1)):Rn (fq [.ob E.s,.ob E.wd,.int j,.int top,.lv (held.map aG)] h) Q:=
 Kq A.S.sb A.w E.ne E.ok G.hp G.hj G.ht G.hh (by have:=G.hl;lia) (λk x h1 a b c e S1=>k1 k x h1 a b c e (A.by S1)) λh1 a S1=>k2 h1 a (A.by S1)
theorem HK(A:Wb E h0 (R+14) l h)(G:Cd E.W j ps d top held)(k:∀(r:Row)(h1:MH),(∀n,bG E.W ps n r)->cnt r=1->Wb E h0 R l h1->Q (ax r,h1)):Rn (gE [.ob E.s,.ob E.wd,.int j,.int top] h) Q:=
 Kt A.S.sb A.w E.ne E.ok G.hp G.hj λr h1 a b S1=>k r h1 a b (A.by S1)
abbrev E6(E:En)(h0:MH)(R l:Nat)(ps:List Str)(d:Nat)(Q:D×MH->Prop):Prop:=∀(r:Row)(l':Nat)(h':MH),bG E.W ps d r->l'+cnt r=l+1->Wb E h0 (R+100*l') l' h'->Q (ax r,h')
abbrev OF(E:En)(h0:MH)(R l:Nat)(ps:List Str)(d:Nat)(Q:D×MH->Prop):Prop:=∀(t:List Row)(l':Nat)(h':MH),bN E.W ps d t->t.length<=12->l'+ao t=l->Wb E h0 (R+100*l') l' h'->Q (.tup (b9 t),h')
def B1(E:En)(f:Nat):Prop:=∀{h0 h:MH} {R l j:Nat} {ps:List Str} {d:Nat} {top:Int} {held:List Lock} {most:Int} {Q:D×MH->Prop},Wb E h0 (R+100*l+4) l h->Cd E.W j ps d top held->d<=5->3*(5-d)+2<=f->1<=most->most<=12->OF E h0 R l ps d Q->
 Rn (bJ f [.ob E.s,.ob E.wd,.int j,.int d,.int top,.lv (held.map aG),.int most] h) Q
def KI(E:En)(f:Nat):Prop:=∀{h0 h:MH} {R l j:Nat} {ps:List Str} {d:Nat} {top:Int} {held:List Lock} {Q:D×MH->Prop},Wb E h0 (R+100*l+100) l h->Cd E.W j ps d top held->d<=5->3*(5-d)+1<=f->E6 E h0 R l ps d Q->
 Rn (gb f [.ob E.s,.ob E.wd,.int j,.int d,.int top,.lv (held.map aG)] h) Q
def E5(E:En)(f:Nat):Prop:=∀{h0 h:MH} {R l j:Nat} {ps:List Str} {d:Nat} {top:Int} {held:List Lock} {way:Str} {Q:D×MH->Prop},Wb E h0 (R+100*l+95) l h->Cd E.W j ps d top held->d < 5->3*(5-d)<=f->way∈[Str.ofString "within",Str.ofString "ask",Str.ofString "all"]->E6 E h0 R l ps d Q->
 Rn (dy f [.ob E.s,.ob E.wd,.int j,.int d,.int top,.lv (held.map aG),.str way] h) Q
def KC(E:En)(f:Nat):Prop:=∀{h0 h:MH} {R l j:Nat} {ps:List Str} {d:Nat} {top:Int} {held:List Lock} {Q:D×MH->Prop},Wb E h0 (R+100*l+95) l h->Cd E.W j ps d top held->d < 3->5 < l->3*(5-d)<=f->E6 E h0 R l ps d Q->
 Rn (cJ f [.ob E.s,.ob E.wd,.int j,.int d,.int top,.lv (held.map aG)] h) Q
end
theorem oE(r:Rn (b (entry len ds) h) (FJ λp=>Rn (leave h p.1 p.2) Q)):Rn (Fd len b ds h) Q:=by
 obtain⟨p,e,q⟩:=bF r;obtain⟨z,e2,k⟩:=q;refine⟨z,?_,k⟩;have e:((b (entry len ds) h).bind wY)=some p:=e;show((b (entry len ds) h).bind wY).bind _=_;rw[e];exact e2
theorem jn{isT:D->MH->Bool}{f:AE}{o:EM}{m:AM}{δ:DS}{h:MH}{Q:D×MH->Prop}(r:Rn (o δ h) λp=>isT p.1 p.2=true/\Rn (m δ p.2) λq=>Rn (f p.1 q.1 q.2) Q):Rn (eM isT f o m δ h) Q:=
 aW (r.imp λp ⟨e,r⟩=>by rw[Py e];exact aW r)
theorem dw(e:h[n]?=some (.lst xs)):dh (.ob n) h=true:=by unfold dh dS;dsimp only;rw[e];rfl
theorem dH(e:h[n]?=some (.lst xs))(hl:xs.length < sizeLine):eg (.ob n) [y] h=some (.cj,h.set n (.lst (xs++[y]))):=by unfold eg;dsimp only;rw[e];dsimp only;rw[Py hl]
theorem wc(n:Nat)(t:Term):gJ n (bq t)=true:=rfl
theorem qe(n:Nat)(t:Lock):gJ n (aG t)=true:=rfl
theorem eR(n:Nat)(f:α->D)(hf:∀x,gJ n (f x)=true):∀xs:List α,fk n (xs.map f)=true
 | []=>rfl
 | x::r=>by rw[PN];show(gJ n (f x)&&fk n _)=true;rw[hf x,eR n f hf r];rfl
mutual
theorem se(n:Nat):∀r:Row,gJ n (ax r)=true
 | .say w=>by rw[ax];rfl
 | .call d ts=>by rw[ax];show(true&&(true&&(fk n _&&true)))=true;rw[eR n _ (wc n)];rfl
 | .within l b=>by rw[ax];show(true&&(gJ n (aG l)&&(fk n _&&true)))=true;rw[qe,eC n b];rfl
 | .all ls b=>by rw[ax];show(true&&(fk n _&&(fk n _&&true)))=true;rw[eR n _ (qe n),eC n b];rfl
 | .ask l b e=>by rw[ax];show(true&&(gJ n (aG l)&&(fk n _&&(fk n _&&true))))=true;rw[qe,eC n b,eC n e];rfl
 | .mQ s t a b c=>by rw[ax];show(true&&(gJ n (bq s)&&(gJ n (bq t)&&(fk n _&&(fk n _&&(fk n _&&true))))))=true;rw[wc,wc,eC n a,eC n b,eC n c];rfl
 | .either a b=>by rw[ax];show(true&&(fk n _&&(fk n _&&true)))=true;rw[eC n a,eC n b];rfl
 | .again a=>by rw[ax];show(true&&(fk n _&&true))=true;rw[eC n a];rfl
theorem eC(n:Nat):∀r:List Row,fk n (b9 r)=true
 | []=>by rw[b9];rfl
 | r::rs=>by rw[b9];show(gJ n _&&fk n _)=true;rw[se n r,eC n rs];rfl
end
theorem lh(e:H.length=n):(H++[a])[n]?=some a:=by rw[<-e];simp
theorem yt(e:H.length=n):(H++[a]).set n b=H++[b]:=by rw[<-e];simp
section
variable {E:En} {f:Nat}
theorem yX(hr:KI E f):B1 E (f+1):=by
 intro h0 h R l j ps d top held most Q A G d5 hf m0 m1 k;unfold bJ;refine oE ?_;nofun;refine fQ ?_;nofun;refine rv (a:=(.lv (List.replicate 15 (D.int most)),_)) rfl ?_;nofun;refine rv (a:=(.lv ((List.replicate 15 most++[12]).map D.int),_)) rfl ?_;nofun;refine Cm (λi=>1<=i/\i<=12) (by intro x hx;simp at hx;lia) (A.push (o:=.lst []) rfl) λi h2 hi A2=>?_;nofun;refine w_next (m:=i+1) A2 (by lia) (by exact Ro hi.2 (by decide)) λm h3 n0 n1 A3=>?_;nofun;refine⟨m,rfl,by exact QM (by decide) n0,by lia,?_⟩;obtain⟨hb,rfl,hbl,A3⟩:=A.pop A3;refine cQ (λi δ h'=>∃(t:List Row)(l':Nat)(d8:Option D)(hb:MH),δ=[some (.ob E.s),some (.ob E.wd),some (.int j),some (.int d),some (.int top),some (.lv (held.map aG)),some (.int most),some (.ob h.length),d8]/\h'=hb++[.lst (b9 t)]/\hb.length=h.length/\bN E.W ps d t/\t.length<=i/\l'+ao t=l/\Wb E h0 (R+100*l'+2) l' hb)
  ⟨[],l,_,hb,rfl,by rw[b9],hbl,by unfold bN;trivial,Pw _,by simp[ao],A3⟩ (λ_ _ _ _ _=>rfl) ?_ ?_
 ·rintro q x δ h' hx ⟨t,l',d8,hb,rfl,rfl,hbl,okl,hll,hc,A4⟩;have hq:q < 12:=by
   have:=(Pq.mp hx).1;simp at this
   lia
  have A5:=A4.push (o:=.lst (b9 t)) (eC _ t);nofun;refine rv (pS A5.w) ?_;nofun;refine⟨_,rfl,λz=>?_,λz=>?_⟩
  ·obtain⟨l1,rfl⟩:∃n,l'=n+1:=⟨l'-1,by have:=Qy z;lia⟩;nofun;refine rv (pS A5.w) ?_;nofun;refine rv (Ck A5.w _) ?_;rw[show((l1+1:Nat):Int)-1=(l1:Int) by simp];have A6:=A5.set l1;nofun;refine jn ?_;nofun;refine⟨dw (xs:=b9 t) (by rw[Qo (by have:=A4.lt;lia)];exact lh hbl),?_⟩;nofun;refine hr (R:=R+2) (A6.le (by lia)) G d5 (by exact RK hf) λr l6 h6 okr cr A7=>?_;obtain⟨hb6,rfl,hbl6,A8⟩:=A4.pop A7;nofun;have hl6:=hbl6.trans hbl;refine rv (dH (lh hl6) (by rw[aY,Pp,show sizeLine=16777216 from rfl];lia)) ?_;rw[yt hl6];nofun;have hcn:ao (t++[r])=ao t+cnt r:=by rw[mO];simp[ao]
   exact⟨t++[r],l6,_,hb6,rfl,by rw[aY,aY,P4];rfl,hl6,tY okl (by unfold bN;exact⟨okr,by unfold bN;trivial⟩),by simp;exact hll,by lia,A8.le (by lia)⟩
  ·nofun;exact⟨t,l',_,hb,rfl,rfl,hbl,okl,by exact Ta hll,hc,A4⟩
 ·rintro δ h' ⟨t,l',d8,hb,rfl,rfl,hbl,okl,hll,hc,A4⟩;rw[Pp,P6] at hll;nofun;refine rv (a:=(.tup (b9 t),hb++[.lst (b9 t)])) (by simp only[dI,dq,lh hbl,Qk]) ?_;nofun;exact rv (rB hbl A4.C (λn z=>(nomatch z)) (eC _ t)) (k t l' hb okl (by lia) hc (A4.le (by lia)))
end
theorem zM:∀{xs:List D} {δ:DS} {h:MH} (J:List D->DS->MH->Prop),J [] δ h->(∀ys δ h,J ys δ h->pQ ws h=true)->
  (∀x ys δ h,x∈xs->ys.length < xs.length->J ys δ h->Rn (g x δ h) λq=>Rn (e q.1 q.2) λy=>J (ys++[y.1]) q.1 y.2)->Rn (bH ws g dD e xs δ h) λp=>p.1.length=xs.length/\∃δ',J p.1 δ' p.2
 | [],δ,h,J,hJ,hc,_=>by
  unfold bH;rw[Py (hc [] δ h hJ)];exact⟨_,rfl,rfl,δ,hJ⟩
 | x::xs,δ,h,J,hJ,hc,ht=>by
  unfold bH;rw[Py (hc [] δ h hJ)];obtain⟨⟨δ1,h1⟩,e1,⟨y,h2⟩,e2,J1⟩:=ht x [] δ h Px (Nat.succ_pos _) hJ;obtain⟨⟨ys,h3⟩,e3,a,δ',J2⟩:=zM (ws:=ws) (g:=g) (e:=e) (xs:=xs) (λys=>J (y::ys)) J1 (λys δ h=>hc (y::ys) δ h) λx ys δ h hx hl=>ht x (y::ys) δ h (Pz _ hx) (Nat.succ_lt_succ hl);refine⟨(y::ys,h3),?_,congrArg Nat.succ a,δ',J2⟩;rw[e1];dsimp only[Option.bind_some];show((some (true,h1)).bind _)=_;dsimp only[Option.bind_some] at e2 e3 ⊢;rw[Py rfl,e2];dsimp only[Option.bind_some];rw[e3];rfl
theorem rP(f:α->D)(xs ys:List α)(h:MH)(hl:xs.length+ys.length<=1000):av (.lv (xs.map f)) (.lv (ys.map f)) h=some (.lv ((xs++ys).map f),h):=by
 rw[P4];simp only[av,tq,dS,Qc,Pp];rw[Py (by rw[show sizeLine=16777216 from rfl];exact PL hl (by decide))]
theorem LG(P:Prop)[Decidable P](e:Rn (t δ h) λp=>p=(decide P,h))(q1:P->Rn (x δ h) Q)(q2:¬P->Rn (y δ h) Q):Rn (fO t x y δ h) Q:=by
 refine xa (e.imp ?_);rintro _ rfl;exact⟨λz=>q1 (Qy z),λz=>q2 (SV z)⟩
theorem eX(P:Prop)[Decidable P](e:Rn (t δ h) λp=>p=(decide P,h))(q1:P->Rn (x δ h) (zx b Q))(q2:¬P->Rn (b δ h) Q):Rn (au (fO t x cu) b δ h) Q:=
 fE (LG P e q1 λz=>⟨_,rfl,q2 z⟩)
theorem dT [Decidable P](p:P)(h:MH):(true,h)=(decide P,h):=by rw[Qb p]
theorem dF [Decidable P](p:¬P)(h:MH):(false,h)=(decide P,h):=by rw[Qm p]
section
variable {E:En} {f:Nat}
theorem t7{n:Nat}(hlot:B1 E f){h0 h:MH}{R l j:Nat}{ps:List Str}{d:Nat}{top:Int}{held:List Lock}{Q:List D×MH->Prop}
  (A:Wb E h0 (R+100*l+12) l h) (hn:n<=3) (G:Cd E.W j ps d top held) (d5:d < 5) (hf:3*(5-d)<=f) (k:∀(lots:List (List Row)) (l':Nat) (h':MH),lots.length=n->(∀t∈lots,t.length<=12/\bN E.W ps (d+1) t)->l'+(lots.map ao).sum=l->Wb E h0 (R+100*l') l' h'->Q (lots.map (λt=>D.tup (b9 t)),h')):
  Rn (bH [] (gN 0) Sm.dD (aw (bJ f) (ag (ay 4) (ag (ay 6) (ag (ay 1) (ag (ak av (ay 2) (eK (.int 1))) (ag (ay 5) (ag (ay 3) (ag (eK (.int 2)) aM)))))))) ((List.range n).map λ(k:Nat)=>D.int k) [none,some (.int j),some (.int d),some (.lv (held.map aG)),some (.ob E.s),some (.int top),some (.ob E.wd)] h) Q:=by
 refine(zM (ws:=[]) (λys δ h'=>∃(d0:Option D)(lots:List (List Row)) (l':Nat),δ=[d0,some (.int j),some (.int d),some (.lv (held.map aG)),some (.ob E.s),some (.int top),some (.ob E.wd)]/\ys=lots.map (λt=>D.tup (b9 t))/\(∀t∈lots,t.length<=12/\bN E.W ps (d+1) t)/\l'+(lots.map ao).sum=l/\Wb E h0 (R+100*l'+(12-4*lots.length)) l' h') ⟨none,[],l,rfl,rfl,λ_ z=>(nomatch z),by simp,A⟩ (λ_ _ _ _=>rfl) ?_).imp ?_
 ·rintro x _ δ h' hx hys ⟨d0,lots,l',rfl,rfl,ba,hc,A1⟩;rw[Pp,Pp,P6] at hys;nofun;refine hlot (R:=R+(8-4*lots.length)) (d:=d+1) (A1.le (by lia)) G.deep d5 (by lia) (by decide) (by decide) λt l2 h2 okl hll cr A2=>?_;refine⟨_,lots++[t],l2,rfl,by rw[P4];rfl,λu z=>?_,by simp;lia,A2.le (by rw[PF,Sz];lia)⟩;rcases PX.mp z with z | z
  ·exact ba u z
  ·rw[PD.mp z];exact⟨hll,okl⟩
 ·rintro⟨ys,h2⟩ ⟨hy,_,d0,lots,l',_,he,ba,hc,A1⟩;dsimp only at hy he;subst he;rw[Pp,Pp,P6] at hy;exact k lots l' h2 hy ba hc (A1.le (by simp))
theorem vg(hlot:B1 E f)(hlk:E5 E f)(htw:KC E f):KI E (f+1):=by
 intro h0 h R l j ps d top held Q A G d5 hf k;have pl:=G.pl;have n1:=E.ok.n1;have n2:=E.ok.n2;have d2:=E.ok.d2;unfold gb;refine bF ?_;nofun;refine w_next (m:=16) A (by decide) (by decide) λw h1 w0 w1 A1=>?_;refine eX (w < 2\/(d=5/\w < 11)) ?_ (λz=>?_) (λz=>?_)
 ·nofun;refine⟨_,rfl,λz=>?_,λz=>?_⟩
  ·have z:w < 2:=by simpa using z
   exact dT (.inl z) _
  ·have z:¬w < 2:=by simpa using z
   nofun;refine⟨_,rfl,λy=>?_,λy=>?_⟩
   ·have y0:(d:Int)=5:=by simpa using y
    have y:d=5:=by lia
    nofun;refine⟨_,rfl,?_⟩;rw[show decide (w < 11)=decide (w < 2\/(d=5/\w < 11)) from decide_eq_decide.mpr (by lia)]
   ·have y0:(d:Int)≠5:=by simpa using y
    have y:d≠5:=by lia
    exact dF (by lia) _
 ·nofun;refine rv (dW A1.w) ?_;nofun;refine rv (dX A1.w) ?_;nofun;refine rv (rP D.str E.W.names E.W.aj _ (by lia)) ?_;nofun;refine K2 (xs:=(E.W.names++E.W.aj).map D.str) A1 (.inl rfl) (by simp;lia) (by simp;lia) λx h2 hx A2=>?_;obtain⟨w',hw',rfl⟩:=Ql.mp hx;nofun;rw[show D.tup [.str "say",.str w']=ax (.say w') by rw[ax]];exact k (.say w') l h2 (by unfold bG;exact hw') (by rw[cnt]) (A2.le (by lia))
 have nd:d=5->11<=w:=by lia
 have w2:2<=w:=by lia
 refine eX (12 < w\/d=5) ?_ (λz=>?_) (λz=>?_)
 ·nofun;refine⟨_,rfl,λy=>?_,λy=>?_⟩
  ·have y:12 < w:=by simpa using y
   exact dT (.inl y) _
  ·have y:¬12 < w:=by simpa using y
   nofun;refine⟨_,rfl,?_⟩;rw[show((d:Int)==5)=decide (12 < w\/d=5) by
    rw[Rb];simp only[QX,Qp];lia]
 ·nofun;refine HK (R:=R+100*l) (A1.le (by simp)) G λr h2 okr cr A2=>?_;nofun;exact k r l h2 (okr d) (by rw[cr]) A2
 have d4:d < 5:=by lia
 refine eX (w=12/\d < 3/\5 < (l:Int)) ?_ (λz=>?_) (λz=>?_)
 ·nofun;refine⟨_,rfl,λy=>?_,λy=>?_⟩
  ·have y:w=12:=by simpa using y
   nofun;refine⟨_,rfl,λx=>?_,λx=>?_⟩
   ·have x0:(d:Int) < 3:=by simpa using x
    have x:d < 3:=by exact Ss.mp x0
    nofun;refine rv (pS A1.w) ?_;nofun;refine⟨_,rfl,?_⟩;rw[show decide (5 < (l:Int))=decide (w=12/\d < 3/\5 < (l:Int)) from decide_eq_decide.mpr (by lia)]
   ·have x0:¬(d:Int) < 3:=by simpa using x
    have x:¬d < 3:=by lia
    exact dF (by lia) _
  ·have y:w≠12:=by simpa using y
   exact dF (by clear y z;lia) _
 ·nofun;refine htw (R:=R) (A1.le (by simp)) G z.2.1 (by exact Ss.mp z.2.2) (by exact RK hf) λr l2 h2 okr cr A2=>?_;nofun;exact k r l2 h2 okr cr A2
 refine eX (w=11\/w=12) ?_ (λz=>?_) (λz=>?_)
 ·nofun;refine⟨_,rfl,λy=>?_,λy=>?_⟩
  ·have y:w=11:=by simpa using y
   exact dT (.inl y) _
  ·have y:w≠11:=by simpa using y
   nofun;refine⟨_,rfl,?_⟩;rw[show(w==12)=decide (w=11\/w=12) by rw[Rb];simp only[QX,Qp];lia]
 ·show Rn (au _ _ _ _) _;nofun;refine rv (cU A1.w) ?_;nofun;refine rv (bR G.hp) ?_;nofun;refine uL A1 pl λt1 h2 tk1 A2=>?_;nofun;refine rv (cU A2.w) ?_;nofun;refine rv (bR G.hp) ?_;nofun;refine uL A2 pl λt2 h3 tk2 A3=>?_;nofun;refine⟨_,_,rfl,?_⟩;nofun;refine fQ ?_;nofun;refine⟨3,rfl,by lia,by lia,?_⟩;refine t7 (n:=3) (R:=R) hlot (A3.le (by simp)) (by lia) G d4 (by exact RK hf) λlots l4 h4 hn ba cr A4=>?_
  match lots,hn with
  | [x,y,v],_=>
   refine⟨by show 3<=sizeLine;decide,?_⟩;nofun;refine rv (a:=(.tup [.tup (b9 x),.tup (b9 y),.tup (b9 v)],_)) rfl ?_;nofun;refine rv (a:=(ax (.mQ t1 t2 x y v),_)) (by rw[ax];rfl) ?_;nofun;simp only[PN,Rl,Q3,List.sum_nil] at cr;have hx:=ba x (by simp);have hy:=ba y (by simp);have hv:=ba v (by simp);exact k (.mQ t1 t2 x y v) l4 h4 (by unfold bG;exact⟨tk1,tk2,d4,hx.1,hy.1,hv.1,hx.2,hy.2,hv.2⟩) (by rw[cnt];lia) A4
 refine eX (w=10) ?_ (λz=>?_) (λz=>?_)
 ·nofun;refine⟨_,rfl,?_⟩;rw[show(w==10)=decide (w=10) by rw[Rb];simp only[QX,Qp]]
 ·nofun;refine fQ ?_;nofun;refine⟨2,rfl,by lia,by lia,?_⟩;refine t7 (n:=2) (R:=R) hlot (A1.le (by simp)) (by lia) G d4 (by exact RK hf) λlots l2 h2 hn ba cr A2=>?_
  match lots,hn with
  | [x,y],_=>
   refine⟨by show 2<=sizeLine;decide,?_⟩;nofun;refine rv (a:=(.tup [.tup (b9 x),.tup (b9 y)],_)) rfl ?_;nofun;refine rv (a:=(ax (.either x y),_)) (by rw[ax];rfl) ?_;nofun;simp only[PN,Rl,Q3,List.sum_nil] at cr;have hx:=ba x (by simp);have hy:=ba y (by simp);exact k (.either x y) l2 h2 (by unfold bG;exact⟨d4,hx.1,hy.1,hx.2,hy.2⟩) (by rw[cnt];lia) A2
 refine eX (w=9) ?_ (λz=>?_) (λz=>?_)
 ·nofun;refine⟨_,rfl,?_⟩;rw[show(w==9)=decide (w=9) by rw[Rb];simp only[QX,Qp]]
 ·nofun;refine hlot (R:=R) (d:=d+1) (A1.le (by simp)) G.deep d4 (by clear z;lia) (by decide) (by decide) λt l2 h2 okl hll cr A2=>?_;nofun;rw[show D.tup [.str "again",.tup (b9 t)]=ax (.again t) by rw[ax]];exact k (.again t) l2 h2 (by unfold bG;exact⟨d4,hll,okl⟩) (by rw[cnt];lia) A2
 nofun;refine K2 (xs:=[Str.ofString "within",Str.ofString "within",Str.ofString "within",Str.ofString "within",Str.ofString "ask",Str.ofString "all"].map D.str) A1 (.inl rfl) (by simp) (by simp) λx h2 hx A2=>?_;obtain⟨w',hw',rfl⟩:=Ql.mp hx;nofun;refine hlk (R:=R) (A2.le (by simp)) G d4 (by exact RK hf) (by simp at hw' ⊢;assumption) λr l3 h3 okr cr A3=>?_;nofun;exact k r l3 h3 okr cr A3
end
noncomputable def fF(t:Lock):PyData:=.tuple [.str t.1,qo t.2]
theorem Dm(t:Term):vw (bq t)=some (qo t):=by simp only[bq,vw,oF,Qc,Qk];rfl
theorem xg(t:Lock):vw (aG t)=some (fF t):=by simp only[aG,vw,oF,Dm,Qc,Qk];rfl
theorem nG:∀ts:List Lock,oF (ts.map aG)=some (ts.map fF)
 | []=>rfl
 | c::r=>by simp only[PN,oF,nG r,xg,Qc,Qk]
theorem gz:∀ts:List Lock,PyData.depthAll (ts.map fF)<=2
 | []=>by simp[PyData.depthAll]
 | c::r=>by
  have:=gz r;simp only[PN,PyData.depthAll,fF,qo,PyData.depth]
  lia
theorem vT{h:MH}{n:Nat}{ls:List Lock}(x:Lock)(e:h[n]?=some (.lst (ls.map aG))):iO (aG x) (.ob n) h=some (.bl (!(ls.map fF).any λb=>PyData.eqv b (fF x)),h):=by
 have h1:=gz ls;have h2:=gz [x];have h3:(fF x).depth<=60:=by
  simp only[PN,Rl,PyData.depthAll] at h2
  lia
 unfold iO inD;simp only[dU,e];show((dq (.ob n) h).bind _).map _=_;simp only[dq,e,Qc,nG];show(((zL h (aG x)).bind _).map _)=_;rw[show zL h (aG x)=some (fF x) from xg x];dsimp only[Option.bind_some];rw[Py ⟨h3,by exact PL h1 (by decide)⟩];rfl
theorem vv(r:Rn (ma δ h) λp=>Rn (mb δ p.2) λq=>∃xs ys,dS p.1 q.2=some xs/\dS q.1 q.2=some ys/\xs.length+ys.length<=sizeLine/\Q (xs++ys,q.2)):Rn (BY ma mb δ h) Q:=
 aW (r.imp λp r=>aW (r.imp λq zz=>by obtain⟨xs,ys,e1,e2,hl,hq⟩:=zz;exact⟨_,by rw[e1];dsimp only[Option.bind_some];rw[e2];dsimp only[Option.bind_some];rw[Py hl],hq⟩))
theorem Et(x:Lock):PyData.eqv (fF x) (fF x)=true:=by
 simp[fF,qo,PyData.eqv,PyData.eqvAll]
theorem FI(r:Row)(n:Nat):ax r≠.ob n:=by cases r <;> rw[ax] <;> exactλz=>(nomatch z)
theorem Wb.ext(A:Wb E h0 R l h)(C:Cl (h++g)):Wb E (h++g) R l (h++g):=⟨A.S.more _,by rw[PJ A.lt.2.2];exact A.w,C,gh.refl _ _ _⟩
theorem Di(b:gh E.s E.wd h0 h)(k:E6 E h0 R l ps d Q)(r:Row)(ok:bG E.W ps d r)(hc:l'+cnt r=l+1)(A:Wb E h (R+100*l') l' hb)(e:ax r=x):Rn (leave h x (hb++g)) Q:=
 ⟨_,e ▸ rB A.b.1 A.C (FI r) (se _ r),k r l' hb ok hc (A.tr b)⟩
theorem vo(b:gh E.s E.wd h0 h)(k:E6 E h0 R l ps d Q)(r:Row)(ok:bG E.W ps d r)(hc:l'+cnt r=l+1)(A:Wb E h (R+100*l') l' hb)(e:ax r=x):Rn (leave h x hb) Q:=by
 have:=Di (g:=[]) b k r ok hc A e
 rwa [Qu] at this
section
variable {E:En} {f:Nat}
theorem Bp(hlot:B1 E f):E5 E (f+1):=by
 intro h0 h R l j ps d top held way Q A G d5 hf hw k;obtain⟨dj,hdj⟩:∃f,E.W.aj[j]?=some f:=⟨_,PV G.hj⟩;have hl:=G.hl;have ht:=G.ht;have b0:=A.b;replace A:=A.here;unfold dy;refine oE ?_;nofun;refine Cn A G (by exact Rk d5) (λk1 lk h1 hmx k0 k2 okk A1=>?_) λh1 _ A1=>?_
 ·nofun;refine rv (a:=(.bl false,_)) rfl ⟨_,rfl,λz=>(nomatch z),λ_=>?_⟩;refine⟨_,rfl,?_⟩;show Rn (au _ _ _ _) _;refine eX (way=Str.ofString "all") ?_ (λz=>?_) (λz=>?_)
  ·nofun;refine⟨_,rfl,?_⟩;rw[show(way==Str.ofString "all")=decide (way=Str.ofString "all") by rw[Rb];simp only[QX,Qp]]
  ·show Rn (au _ _ _ _) _;nofun;refine⟨_,_,rfl,?_⟩;nofun;refine fQ ?_;nofun;refine Cm (is:=[1,1,2,3]) (λi=>1<=i/\i<=3) (by decide) (A1.push (o:=.lst [aG lk]) rfl) λi h2 hi A2=>?_;obtain⟨hb2,rfl,e2,A2'⟩:=A1.pop A2;nofun;refine⟨i,rfl,by exact QM (by decide) hi.1,by exact Ro hi.2 (by decide),?_⟩;refine cQ (λi δ h'=>∃(ls:List Lock)(hi:Int)(n:Nat)(d11 d12 d13:Option D)(hb g:MH),δ=[some (.ob E.s),some (.ob E.wd),some (.int j),some (.int d),some (.int top),some (.lv (held.map aG)),some (.str way),some (.int k1),some (aG lk),some (.ob n),some (.int hi),d11,d12,d13,none]/\h'=hb++g/\h'[n]?=some (.lst (ls.map aG))/\h.length<=n/\lk∈ls/\ls.Nodup/\(∀x∈ls,fA E.W ps x)/\ls.length<=i+1/\0<=hi/\hi < E.W.names.length/\Wb E h (R+100*l+(80-10*i)) l hb/\Cl (hb++g))
    ⟨[lk],k1,h1.length,none,none,none,hb2,[.lst [aG lk]],rfl,rfl,lh e2,by rw[A1.b.1];exact Pw _,by simp,by simp,by simpa using okk,Pw _,k0,k2,A2'.le (by simp),A2.C⟩ (λ_ _ _ _ _=>rfl) ?_ ?_
   ·rintro q x δ h' hx ⟨ls,hi',n,d11,d12,d13,hb,g,rfl,rfl,hn,hnl,hlk,nd,ba,hll,hi0,hi1,A3,C3⟩;have hq:q < 3:=by
     have:=(Pq.mp hx).1;simp at this
     lia
    nofun;refine Cn (R:=R+100*l+(80-10*(q+1))) ((A3.ext C3).le (by lia)) G (by lia) (λk4 lk4 h4 _ k40 k41 okk4 A4=>?_) λh1 z4 _=>absurd z4 (by lia)
    ·have hn4:h4[n]?=some (.lst (ls.map aG)):=by
      have:=A.lt;rw[A4.b.2 n (by lia) (by lia)];exact hn
     obtain⟨hb4,rfl,e4,A4'⟩:=A3.pop A4;nofun;refine rv (iP _ _ _) ?_;nofun;refine vv ?_;nofun;refine rv (vT lk4 hn4) ?_;obtain⟨us,v,hv,hus,husl,hnd,hokk⟩:∃(us:List Lock)(v:Int),nW [.bl (!(ls.map fF).any λb=>PyData.eqv b (fF lk4))] (hb4++g)=some (.int v,hb4++g)/\tj (.lv [aG lk4]) (.int v) (hb4++g)=some (.lv (us.map aG),hb4++g)/\us.length<=1/\(ls++us).Nodup/\∀x∈ls++us,fA E.W ps x:=by
      cases hb0:((ls.map fF).any λb=>PyData.eqv b (fF lk4)) with
      | true=>exact⟨[],0,rfl,rfl,by simp,by simpa using nd,by simpa using ba⟩
      | false=>
       have hnot:lk4∉ls:=λz=>by
        rw[List.any_eq_false] at hb0;exact hb0 (fF lk4) (SR z) (Et lk4)
       refine⟨[lk4],1,rfl,rfl,by simp,?_,?_⟩
       ·rw[Te];refine⟨nd,by simp,λx hx y hy z=>hnot ?_⟩;rw[PD.mp hy] at z;rw[<-z];exact hx
       ·intro x hx;rcases PX.mp hx with z | z
        ·exact ba x z
        ·rw[PD.mp z];exact okk4
     nofun;refine rv hv ?_;nofun;refine rv hus ?_;refine⟨ls.map aG,us.map aG,by simp only[dS,hn4],rfl,by rw[Pp,Pp,show sizeLine=16777216 from rfl];lia,?_⟩;refine⟨ls++us,max hi' k4,(hb4++g).length,_,_,_,hb4,g++[.lst ((ls++us).map aG)],rfl,by rw[P4];exact Qg _ _ _,by rw[P4];simp,?_,QH _ hlk,hnd,hokk,by simp;lia,by lia,by lia,A4',?_⟩
     ·have:=A4'.b.1;rw[PF];lia
     ·rw[<-Qg];exact A4.C.snoc (o:=.lst _) (eR _ _ (qe _) _)
   ·rintro δ h' ⟨ls,hi',n,d11,d12,d13,hb,g,rfl,rfl,hn,hnl,hlk,nd,ba,hll,hi0,hi1,A3,C3⟩;rw[Pp,P6] at hll A3;replace A3:=A3.le (R':=R+100*l+10) (by lia);show Rn (au _ _ _ _) _;refine fE ?_;refine Rn.imp (Q:=λr=>∃(ls:List Lock)(g:MH),r=(Fl.nx,[some (.ob E.s),some (.ob E.wd),some (.int j),some (.int d),some (.int top),some (.lv (held.map aG)),some (.str way),some (.int k1),some (aG lk),some (.ob n),some (.int hi'),d11,d12,d13,none],hb++g)/\(hb++g)[n]?=some (.lst (ls.map aG))/\2<=ls.length/\ls.length<=4/\ls.Nodup/\(∀x∈ls,fA E.W ps x)/\Cl (hb++g)) ?_ ?_
    ·nofun;refine rv (vU hn) ?_;nofun;refine⟨_,rfl,λz=>?_,λz=>?_⟩
     ·have z:ls.length=1:=by
       have:((ls.map aG).length:Int)=1:=by simpa using z
       rw[Pp] at this
       lia
      obtain⟨x0,rfl⟩:∃x0,ls=[x0]:=Rm.mp z;obtain rfl:lk=x0:=PD.mp hlk;obtain⟨nm,wo,fi⟩:=lk;have hok0:=ba _ (PD.mpr rfl);nofun;refine jn ?_;nofun;refine⟨dw hn,?_⟩;nofun;refine rv (a:=(.str nm,_)) rfl ?_;nofun;refine rv (a:=(bq (wo,fi),_)) rfl ?_;nofun;refine rv (a:=(.str wo,_)) rfl ?_;nofun;refine rv (a:=(bq (wo,fi),_)) rfl ?_;nofun;refine rv (a:=(.int fi,_)) rfl ?_;nofun;refine rv (a:=(bq (wo,fi),_)) rfl ?_;nofun;refine rv (a:=(.int fi,_)) rfl ?_;nofun;obtain⟨v,hv,hm,v1,v0⟩:∃v:Int,nW [.bl (decide (90 < fi))] (hb++g)=some (.int v,hb++g)/\hW (.int 2) (.int v) (hb++g)=some (.int (2*v),hb++g)/\(90 < fi->v=1)/\(¬90 < fi->v=0):=by
       by_cases z:90 < fi
       ·exact⟨1,by rw[Qb z];rfl,rfl,λ_=>rfl,λy=>absurd z y⟩
       ·exact⟨0,by rw[Qm z];rfl,rfl,λy=>absurd y z,λ_=>rfl⟩
      refine rv hv ?_;nofun;refine rv hm ?_;nofun;refine rv (dH hn (by rw[Pp,show sizeLine=16777216 from rfl];simp)) ?_;nofun;have hlen:=A3.b.1;rw[RP _ _ (by lia)];have okf:=hok0.2;have okn:=hok0.1;dsimp only at okn;unfold eP at okf;dsimp only at okf;have hvv:v=0\/v=1:=by by_cases z:90 < fi <;> lia
      refine⟨[(nm,wo,fi),(nm,wo,fi+1-2*v)],_,rfl,?_,by simp,by simp,?_,?_,?_⟩
      ·rw[P0 (by lia),Qf]
       ·rfl
       ·have:=(Pq.mp hn).1;rw[PF] at this
        lia
      ·simp;lia
      ·intro x hx;rcases PB.mp hx with rfl | hx
       ·exact hok0
       ·rw[PD.mp hx];exact⟨okn,okf.1,by dsimp only;lia,by dsimp only;lia⟩
      ·rw[<-RP _ _ (by lia)];exact C3.set (o:=.lst _) rfl
     ·have z:ls.length≠1:=by
       have:((ls.map aG).length:Int)≠1:=by simpa using z
       rw[Pp] at this
       lia
      have:0 < ls.length:=List.length_pos_of_mem hlk;exact⟨_,rfl,ls,g,rfl,hn,by lia,by lia,nd,ba,C3⟩
    rintro _ ⟨ls,g,rfl,hn,l2,l4,nd,ba,C4⟩;have A4:=A3.ext C4;show Rn (au _ _ _ _) _;nofun;refine rv (yh A4.w) ?_;nofun;obtain⟨v,hv,v0,v1⟩:∃v:Int,nW [.bl (E.odd==0)] (hb++g)=some (.int v,hb++g)/\0<=v/\v<=1:=by
     cases E.odd==0
     ·exact⟨0,rfl,by lia,by lia⟩
     ·exact⟨1,rfl,by lia,by lia⟩
    refine rv hv ?_;nofun;refine rv (a:=(.tup (ls.map aG),_)) (by simp only[dI,dq,hn,Qk];rfl) ?_;nofun;refine rv (iP _ _ _) ?_;nofun;refine rv (a:=(.lv ((held++ls).map aG),_)) (by
     rw[P4];simp only[av,tq,dS,hn,Qc,Pp];rw[Py (by rw[show sizeLine=16777216 from rfl];lia)]) ?_
    nofun;refine hlot (R:=R) (d:=d+1) (A4.le (by simp)) (G.more (n:=1) (by lia) (by lia) ba) d5 (by lia) (by decide) (by decide) λt l5 h5 okl hll5 cr A5=>?_;obtain⟨hb5,rfl,_,A5'⟩:=A3.pop A5;nofun;exact Di b0 k (.all ls t) (by unfold bG;exact⟨⟨l2,l4,nd,ba⟩,d5,hll5,okl⟩) (by rw[cnt];lia) A5' (by rw[ax])
  refine fE ?_;nofun;refine rv (iP _ _ _) ?_;nofun;refine rv (rP aG held [lk] _ (by simp;lia)) ?_;nofun;refine hlot (R:=R+10) (d:=d+1) (A1.le (by lia)) (G.more (n:=1) (ls:=[lk]) (by clear hmx;lia) (by simp) (by simpa using okk)) d5 (by lia) (by decide) (by decide) λt l2 h2 okl hll cr A2=>?_;refine Rn.imp (Q:=_) (eX (way=Str.ofString "ask") ?_ (λz=>?_) (λz=>?_)) λ_ z=>z
  ·nofun;refine⟨_,rfl,?_⟩;rw[show(way==Str.ofString "ask")=decide (way=Str.ofString "ask") by rw[Rb];simp only[QX,Qp]]
  ·nofun;refine hlot (R:=R) (d:=d+1) (A2.le (by lia)) G.deep d5 (by lia) (by decide) (by decide) λt3 l3 h3 okl3 hll3 cr3 A3=>?_;nofun;exact vo b0 k (.ask lk t t3) (by unfold bG;exact⟨okk,d5,hll,hll3,okl,okl3⟩) (by rw[cnt];lia) A3 (by rw[ax])
  ·nofun;exact vo b0 k (.within lk t) (by unfold bG;exact⟨okk,d5,hll,okl⟩) (by rw[cnt];lia) (A2.le (by lia)) (by rw[ax])
 ·nofun;refine rv (a:=(.bl true,_)) rfl ⟨_,rfl,λ_=>?_,λz=>(nomatch z)⟩;nofun;refine rv (dX A1.w) ?_;nofun;refine rv (bR hdj) ?_;nofun;exact vo b0 k (.say dj) (by unfold bG;exact P7 _ (Pr hdj)) (by rw[cnt]) (A1.le (by lia)) (by rw[ax])
end
theorem y7(ts:List Lock)(h:MH):jz (.lv (ts.map aG)) (.lv []) h=some (.bl (!ts.isEmpty),h):=by
 have:=gz ts;simp only[jz,Hr,dU,Hq,zL,nG,vw,oF,Qk,Qc];rw[Py ⟨show PyData.depthAll _+1<=64 by exact QQ this (by decide),by decide⟩];cases ts <;> rfl
section
variable {E:En}
theorem HQ{f:Nat}(hlot:B1 E f):KC E (f+1):=by
 intro h0 h R l j ps d top held Q A G d3 l5 hf k;have pl:=G.pl;have hl:=G.hl;have ht:=G.ht;have b0:=A.b;replace A:=A.here;obtain⟨dj,hdj⟩:∃f,E.W.aj[j]?=some f:=⟨_,PV G.hj⟩;obtain⟨fj,hfj⟩:∃f,E.fl[j]?=some f:=⟨_,PV (by rw[E.ok.Oh];exact G.hj)⟩;have hfm:=E.ok.f0 fj (Pr hfj);have hsay:Rn (leave h (.tup [.str "say",.str dj]) h) Q:=vo b0 k (.say dj) (by unfold bG;exact P7 _ (Pr hdj)) (by rw[cnt]) (A.le (by lia)) (by rw[ax]);unfold cJ;refine oE ?_;nofun;refine rv (nq A.w) ?_;nofun;refine rv (bR hfj) ?_;nofun;refine rv (iP top fj h) ?_;have lo0:0<=max top fj:=by lia
 have lo1:max top fj<=E.W.names.length:=by lia
 generalize max top fj=lo at lo0 lo1 ⊢;refine eX (lo=E.W.names.length) ?_ (λz=>?_) (λz=>?_)
 ·nofun;refine rv (dW A.w) ?_;nofun;refine⟨_,rfl,?_⟩;rw[Pp,show(lo==(E.W.names.length:Int))=decide (lo=E.W.names.length) by rw[Rb];simp only[QX,Qp]]
 ·nofun;refine rv (dX A.w) ?_;nofun;refine rv (bR hdj) ?_;nofun;exact hsay
 obtain⟨kn,rfl⟩:=QA lo0;have hkn:kn < E.W.names.length:=by lia
 obtain⟨nm,hnm⟩:∃f,E.W.names[kn]?=some f:=⟨_,PV hkn⟩;refine fE ?_;nofun;refine fv ?_;nofun;refine⟨_,_,rfl,?_⟩;obtain⟨⟨ys,h4⟩,e4,hyl,hym,δ4,hh4,_⟩:=pW (ws:=[]) (g:=gN 0) (c:=aE (ak cR (ak aQ (ay 0) (eK (.int 0))) (ak aQ (ak aQ (ay 2) (eK (.str "names"))) (ay 1)))) (e:=ay 0) (λx y=>∃l∈held,y=aG l)
  (xs:=held.map aG) (δ:=[none,some (.int kn),some (.ob E.wd)]) (h:=h) (λj δ h'=>h'=h/\∃d0,δ=[d0,some (.int kn),some (.ob E.wd)]) ⟨rfl,_,rfl⟩ (λ_ _ _ _ _=>rfl) (by
   rintro i x δ h' hx ⟨rfl,d0,rfl⟩;obtain⟨l,hl,rfl⟩:=Ql.mp (Pr hx);nofun;refine rv (a:=(.str l.1,_)) rfl ?_;nofun;refine rv (dW A.w) ?_;nofun;refine rv (bR hnm) ?_;nofun;refine⟨_,rfl,λ_=>?_,λ_=>⟨rfl,_,rfl⟩⟩;nofun;exact⟨⟨l,hl,rfl⟩,rfl,_,rfl⟩)
 dsimp only at hh4;subst hh4;refine rv e4 ⟨PL hyl (by rw[Pp,show sizeLine=16777216 from rfl];lia),?_⟩;obtain⟨ts,rfl⟩:∃ts:List Lock,ys=ts.map aG:=by
  clear e4 hyl
  induction ys with
  | nil=>exact⟨[],rfl⟩
  | cons y r ih=>
   obtain⟨js,rfl⟩:=ih λz hz=>hym z (Pz _ hz);obtain⟨x,hx,l,hl,rfl⟩:=hym y Px;exact⟨l::js,rfl⟩
 nofun;refine rv (y7 ts _) ⟨_,rfl,λz=>?_,λz=>?_⟩
 ·nofun;refine rv (dX A.w) ?_;nofun;refine rv (bR hdj) ?_;nofun;exact hsay
 nofun;refine rv (dW A.w) ?_;nofun;refine rv (bR hnm) ?_;nofun;refine rv (pS A.w) ?_;nofun;refine rv (Ck A.w _) ?_;rw[show(l:Int)-5=((l-5:Nat):Int) by lia];have A1:=A.set (l-5);generalize h4.set E.wd (ng E.W E.fl ((l-5:Nat):Int) E.odd)=h5 at A1 ⊢;nofun;refine rv (cU A1.w) ?_;nofun;refine rv (bR G.hp) ?_;nofun;refine uL A1 pl λt1 h2 tk1 A2=>?_;nofun;refine rv (cU A2.w) ?_;nofun;refine rv (bR G.hp) ?_;nofun;refine uL A2 pl λt2 h3 tk2 A3=>?_;nofun;refine⟨_,_,rfl,?_⟩;nofun;refine fv ?_;nofun;refine⟨_,_,rfl,?_⟩;have hlen3:=A3.b.1;have okn:=Pr hnm;refine cQ (λi δ h'=>∃(rows:List Row)(l':Nat)(d11 d12 d13:Option D)(hb:MH),δ=[some (.ob E.s),some (.ob E.wd),some (.int j),some (.int d),some (.int top),some (.lv (held.map aG)),some (.int kn),some (.str nm),some (bq t1),some (bq t2),some (.ob h3.length),d11,d12,d13]/\h'=hb++[.lst (rows.map λr=>.tup [ax r])]/\rows.length=i/\(∀r∈rows,bG E.W ps (d+1) r)/\l'+(rows.map cnt).sum+5=l+2*i/\Wb E h4 (R+100*l'+(8-4*i)) l' hb)
  ⟨[],l-5,_,_,_,h3,rfl,rfl,rfl,λ_ z=>(nomatch z),by simp;lia,A3.le (by lia)⟩ (λ_ _ _ _ _=>rfl) ?_ ?_
 ·rintro i x δ h' hx ⟨rows,l',d11,d12,d13,hb,rfl,rfl,hrl,hro,hc,A6⟩;have hi:i < 2:=(Pq.mp hx).1;obtain⟨u,v,rfl,uk,vk⟩:∃u v:Term,x=.tup [bq u,bq v]/\eP ps u/\eP ps v:=by
   rcases PB.mp (Pr hx) with rfl | hx
   ·exact⟨t1,t2,rfl,tk1,tk2⟩
   ·rw[PD.mp hx];exact⟨t2,t1,rfl,tk2,tk1⟩
  have hlb:hb.length=h3.length:=A6.b.1.trans hlen3.symm;generalize hrs:rows.map (λr=>D.tup [ax r])=rs;have hcl:fk (hb.length+1) rs=true:=by rw[<-hrs];exact eR _ _ (λr=>by show(gJ _ (ax r)&&true)=true;rw[se];rfl) rows
  nofun;refine rv (rP aG held [(nm,u),(nm,v)] _ (by simp;lia)) ?_;nofun;refine hlot (R:=R+(8-4*(i+1))) (d:=d+3) ((A6.push (o:=.lst rs) hcl).le (by lia)) (G.more (n:=3) (ls:=[(nm,u),(nm,v)]) lo1 (by simp) (by
   intro x hx;rcases PB.mp hx with rfl | z
   ·exact⟨okn,uk⟩
   ·rw[PD.mp z];exact⟨okn,vk⟩)) (by lia) (by lia) (by decide) (by decide) λt l7 h7 okl hll cr A7=>?_
  obtain⟨hb7,rfl,e7,A7'⟩:=A6.pop A7;have hl7:=e7.trans hlb;nofun;refine jn ?_;nofun;refine⟨dw (lh hl7),?_⟩;nofun;refine rv (dH (lh hl7) (by rw[<-hrs,Pp,show sizeLine=16777216 from rfl];lia)) ?_;rw[yt hl7];nofun;have hcn:((rows++[Row.within (nm,u) [Row.within (nm,v) t]]).map cnt).sum=(rows.map cnt).sum+(2+ao t):=by
   rw[P4,Sv];simp[cnt,ao]
   lia
  refine⟨rows++[.within (nm,u) [.within (nm,v) t]],l7,_,_,_,hb7,rfl,?_,by simp[hrl],?_,by rw[hcn];lia,A7'.le (by lia)⟩
  ·rw[P4,hrs];simp[ax,b9,aG]
  ·intro r hr;rcases PX.mp hr with z | z
   ·exact hro r z
   ·rw[PD.mp z];simp only[bG,bN];exact⟨⟨okn,uk⟩,by exact QQ d3 (by decide),by simp,⟨⟨okn,vk⟩,by lia,hll,okl⟩,trivial⟩
 ·rintro δ h' ⟨rows,l',d11,d12,d13,hb,rfl,rfl,hrl,hro,hc,A6⟩
  match rows,hrl with
  | [r0,r1],_=>
   have hc:l'+(([r0,r1]:List Row).map cnt).sum+5=l+2*2:=hc;have hat:(hb++[MO.lst [.tup [ax r0],.tup [ax r1]]])[h3.length]?=some (.lst [.tup [ax r0],.tup [ax r1]]):=lh (A6.b.1.trans hlen3.symm);show Rn _ _;nofun;refine rv (gI hat (d:=.tup [ax r0]) rfl) ?_;nofun;refine rv (gI hat (d:=.tup [ax r1]) rfl) ?_;nofun;refine Di b0 k (.mQ t1 t2 [r0] [.within (nm,t1) []] [r1]) ?_ ?_ (A6.le (by exact Pw _)) (by simp[ax,b9,aG])
   ·simp only[bG,bN];exact⟨tk1,tk2,by exact P2 d3 (by decide),by simp,by simp,by simp,⟨hro r0 (by simp),trivial⟩,⟨⟨⟨okn,tk1⟩,by exact QQ d3 (by decide),by simp,trivial⟩,trivial⟩,⟨hro r1 (by simp),trivial⟩⟩
   ·simp[cnt,ao] at hc ⊢;lia
theorem ring:∀f,B1 E f/\KI E f/\E5 E f/\KC E f
 | 0=>⟨λ_ _ _ z=>absurd z (by lia),λ_ _ _ z=>absurd z (by lia),λ_ _ z1 z=>absurd z (by lia),λ_ _ z1 _ z=>absurd z (by lia)⟩
 | f+1=>let⟨a,b,c,d⟩:=ring f;⟨yX b,vg a c d,Bp a,HQ a⟩
end
theorem vR{P:Int->Prop}:∀{zs:List D},(∀y∈zs,∃i,y=.int i/\P i)->∃js:List Int,zs=js.map D.int/\∀j∈js,P j
 | [],_=>⟨[],rfl,λ_ z=>(nomatch z)⟩
 | y::r,h=>by
  obtain⟨js,rfl,q⟩:=vR (zs:=r) λz hz=>h z (Pz _ hz);obtain⟨i,rfl,p⟩:=h y Px;exact⟨i::js,rfl,λj hj=>by
   rcases PB.mp hj with rfl | hj
   ·exact p
   ·exact q j hj⟩
theorem BB(f:α->D)(xs:List α)(k:Nat)(h:MH):gg (.lv (xs.map f)) none (some (k:Int)) h=some (.lv ((xs.take k).map f),h):=by
 show some (D.lv (cutD (xs.map f) none (some (k:Int))),h)=_;unfold cutD;rw[HT.jk,HT.lP,Tv,Ua,Pp,<-Sk]
 by_cases z:k<=xs.length
 ·rw[Q8 z]
 ·rw[Nat.min_eq_right (by lia),QL (Pw _),QL (by lia)]
theorem GX{h h0:MH}{s c R:Nat}{cs:List Int}{most odd:Int}{Q:D×MH->Prop}(A:Sb s c cs h0 (R+80) h)(o0:0<=odd)(o1:odd<=1000)(k:∀(W:Wd)(fl:List Int)(hb:MH),sj W fl odd->Sb s c cs h0 R hb->Q (.ob hb.length,hb++[ng W fl most odd])):Rn (iU [.ob s,.int most,.int odd] h) Q:=by
 refine bF ?_;nofun;refine kF (is:=[1,2,2,3,4,6]) (λi=>1<=i/\i<=6) (by decide) A λn1 h1 hn1 _ A1=>?_;nofun;refine wt A1 (by exact Int.le_of_lt hn1.1) hn1.2 λns h2 nl nk nnd A2=>?_;nofun;refine kF (is:=[1,1,2,2,3,4,6]) (λi=>1<=i/\i<=6) (by decide) A2 λn2 h3 hn2 _ A3=>?_;nofun;refine wt A3 (by exact Int.le_of_lt hn2.1) hn2.2 λds h4 dl dk dnd A4=>?_;nofun;refine wt A4 (by lia) (by lia) λps h5 pl pk pnd A5=>?_;nofun;refine fv ?_;nofun;refine⟨_,_,rfl,?_⟩;obtain⟨⟨ys,h6⟩,e6,a6,δ6,_,A6⟩:=pX (ws:=[]) (g:=gN 0) (e:=aw aT (ag (ay 1) (ag (eK (.lv [.int 0,.int 1,.int 1,.int 2,.int 2,.int 3])) aM))) (λ_ y=>∃i,y=.int i/\0<=i/\i<=3)
  (xs:=ds.map D.str) (δ:=[none,some (.ob s)]) (h:=h5) (λi δ h'=>(∃d0,δ=[d0,some (.ob s)])/\Sb s c cs h0 (R+18-i) h') ⟨⟨_,rfl⟩,A5⟩ (λ_ _ _ _ _=>rfl) (by
   rintro i x δ h' hx ⟨⟨d0,rfl⟩,A6⟩;have hi:i < 6:=by
    have:=(Pq.mp hx).1;rw[Pp] at this
    lia
   nofun;exact kF (R:=R+18-(i+1)) (is:=[0,1,1,2,2,3]) (λi=>0<=i/\i<=3) (by decide) (A6.le (by lia)) λi h7 hi _ A7=>⟨⟨i,rfl,hi⟩,⟨_,rfl⟩,A7⟩)
 have l6:=a6.length;obtain⟨many,rfl,hmany⟩:=vR (P:=λi=>0<=i/\i<=3) λy hy=>(let⟨_,_,r⟩:=a6.right y hy;r);dsimp only at l6;rw[Pp,Pp] at l6;rw[Pp] at A6;refine rv e6 ⟨by dsimp only;rw[Pp,show sizeLine=16777216 from rfl];lia,?_⟩;nofun;refine fv ?_;nofun;refine⟨_,_,rfl,?_⟩;obtain⟨⟨ys,h7⟩,e7,a7,δ7,_,A7⟩:=pX (ws:=[]) (g:=gN 0) (e:=aw aH (ag (ay 2) (ag (aw cm (ag (ay 1) aM)) aM))) (λ_ y=>∃i,y=.int i/\0<=i/\i < ns.length)
  (xs:=ds.map D.str) (δ:=[none,some (.lv (ns.map D.str)),some (.ob s)]) (h:=h6) (λi δ h'=>(∃d0,δ=[d0,some (.lv (ns.map D.str)),some (.ob s)])/\Sb s c cs h0 (R+12-i) h') ⟨⟨_,rfl⟩,A6.le (by lia)⟩ (λ_ _ _ _ _=>rfl) (by
   rintro i x δ h' hx ⟨⟨d0,rfl⟩,A7⟩;have hi:i < 6:=by
    have:=(Pq.mp hx).1;rw[Pp] at this
    lia
   nofun;rw[Pp];exact cS (R:=R+12-(i+1)) (A7.le (by clear A7 hx;lia)) (by lia) (by lia) λr h8 r0 r1 A8=>⟨⟨r,rfl,r0,r1⟩,⟨_,rfl⟩,A8⟩)
 have l7:=a7.length;obtain⟨fls,rfl,hfls⟩:=vR (P:=λi=>0<=i/\i < ns.length) λy hy=>(let⟨_,_,r⟩:=a7.right y hy;r);dsimp only at l7;rw[Pp,Pp] at l7;rw[Pp] at A7;refine rv e7 ⟨by dsimp only;rw[Pp,show sizeLine=16777216 from rfl];lia,?_⟩;nofun;refine rv (a:=(.lv ((kj fls).map D.int),h7)) (by
  show(rG (fls.map D.int)).bind _=_;rw[ue];show(if fls.length < 64 then _ else _)=_;rw[Py (by lia)]) ?_
 nofun;refine fv ?_;nofun;refine⟨_,_,rfl,?_⟩;have e8:bH [] (gN 0) dD (ib (ay 1) tV (tW (ay 0))) (many.map D.int) [none,some (.lv (ps.map D.str))] h7=some ((many.map D.int).filterMap λd=>match d with | .int k=>some (.lv ((ps.take k.toNat).map D.str)) | _=>none,h7):=
  vt rfl _ (λδ=>∃d0,δ=[d0,some (.lv (ps.map D.str))]) ⟨_,rfl⟩ (by
   rintro x hx δ ⟨d0,rfl⟩;obtain⟨k,hk,rfl⟩:=Ql.mp hx;refine rv rfl ⟨rfl,rv rfl ⟨rfl,⟨_,rfl⟩,λ_=>⟨_,rfl,?_⟩,λz=>(nomatch z)⟩⟩;obtain⟨n,rfl⟩:=QA (hmany k hk).1;nofun;refine⟨_,rfl,rv (BB D.str ps n _) ?_⟩;rfl)
 have e9:((many.map D.int).filterMap λd=>match d with | .int k=>some (D.lv ((ps.take k.toNat).map D.str)) | _=>none)=(many.map λk=>ps.take k.toNat).map λps=>D.lv (ps.map D.str):=by
  rw[R9,QD];exact congrFun (Uh (f:=(λps:List Str=>D.lv (ps.map D.str))∘λk:Int=>ps.take k.toNat)) _
 rw[e9] at e8;refine rv e8 ⟨by dsimp only;rw[Pp,Pp,show sizeLine=16777216 from rfl];lia,?_⟩;nofun;have hfin:∀(a b c d e f:D),Rn (za (eJ (eK (.str "names")) (ay 3) (eJ (eK (.str "deeds")) (ay 4) (eJ (eK (.str "params")) (ay 5) (eJ (eK (.str "floors")) (ay 7) (eJ (eK (.str "left")) (ay 1) (eJ (eK (.str "odd")) (ay 2) Gb)))))) [some (.ob s),some (.int most),some (.int odd),some a,some b,some c,some d,some e] h7) λp=>p=(.ob h7.length,h7++[.dct [(.inr (Str.ofString "names"),a),(.inr (Str.ofString "deeds"),b),(.inr (Str.ofString "params"),c),(.inr (Str.ofString "floors"),e),(.inr (Str.ofString "left"),.int most),(.inr (Str.ofString "odd"),.int odd)]]):=λa b c d e f=>⟨_,rfl,rfl⟩;refine(hfin _ _ _ _ _ .cj).imp ?_;rintro _ rfl;nofun;refine k ⟨ns,ds,many.map λk=>ps.take k.toNat⟩ (kj fls) h7 ⟨?_,?_,?_,?_,?_,?_,?_,?_,o0,o1,nk,dk,?_,nnd,dnd,?_⟩ (A7.le (by lia))
 ·show 1<=ns.length;lia
 ·show ns.length<=6;lia
 ·show 1<=ds.length;lia
 ·show ds.length<=6;lia
 ·show(many.map _).length=ds.length;rw[Pp];lia
 ·intro q hq;obtain⟨k,hk,rfl⟩:=Ql.mp hq;rw[PY];have:=pl
  lia
 ·show(kj fls).length=ds.length;rw[(iA fls).length_eq];lia
 ·intro f hf;exact hfls f ((iA fls).mem_iff.mp hf)
 ·intro q hq w hw;obtain⟨k,hk,rfl⟩:=Ql.mp hq;exact pk w (Rw hw)
 ·intro q hq;obtain⟨k,hk,rfl⟩:=Ql.mp hq;exact pnd.sublist (Td _ _)
end Mi
namespace Pg
open PySem Sm L2
abbrev dP:=Str×List Str×List Row
structure Prog where
 names:List Str
 aj:List dP
noncomputable def eB(d:dP):D:=.tup [.str d.1,.tup (d.2.1.map D.str),.tup (b9 d.2.2)]
noncomputable def aV(P:Prog):D:=.tup [.tup (P.names.map D.str),.tup (P.aj.map eB)]
structure MW(W:Wd)(most:Nat)(P:Prog):Prop where
 nm:P.names=iX W.names
 dl:P.aj.length=W.aj.length
 dd:∀(j:Nat)(d:dP),P.aj[j]?=some d->W.aj[j]?=some d.1/\W.params[j]?=some d.2.1/\bN W d.2.1 1 d.2.2/\d.2.2.length<=12
 ct:(P.aj.map λd=>ao d.2.2).sum<=most
end Pg
namespace Mi
open PySem Sm L2 Pg
theorem we(n:Nat)(d:dP):gJ n (eB d)=true:=by
 show(true&&(fk n (d.2.1.map D.str)&&(fk n (b9 d.2.2)&&true)))=true;rw[ie,eC];rfl
theorem GR(n:Nat)(P:Prog):gJ n (aV P)=true:=by
 show(fk n (P.names.map D.str)&&(fk n (P.aj.map eB)&&true))=true;rw[ie,eR n _ (we n)];rfl
theorem mK{α:Type}{f:α->D}{xs:List α}{i:Nat}{x:D}(h:(kE 0 (xs.map f))[i]?=some x):∃a,xs[i]?=some a/\x=.tup [.int (i:Int),f a]:=by
 rw[nY,PR] at h;cases e:xs[i]? with
 | none=>rw[e] at h;cases h
 | some a=>
  rw[e] at h;cases h;exact⟨a,rfl,by rw[QT]⟩
theorem Wb.out(C:Cl h)(B:Sb E.s E.c E.cs h R' h0)(e:E.wd=h0.length)(A:Wb E (h0++[o]) R l h1):∃hb o',h1=hb++[o']/\Sb E.s E.c E.cs h R hb/\Cl hb:=by
 have b:=A.b;obtain⟨hs,hc⟩:=B.S.lt;have hl:h1.length=h0.length+1:=by rw[b.1];simp
 have hx:h0.length < h1.length:=by lia
 have ee:h1=h1.take h0.length++[h1[h0.length]'hx]:=by rw[List.take_append_getElem,QL (by exact Uc hl)]
 have bb:sD E.s h0 (h1.take h0.length):=⟨by rw[PY];lia,λk hk=>by
  by_cases z:k < h0.length
  ·rw[Qe z,b.2 k hk (by lia),PJ z]
  ·rw[Qx (by rw[PY];lia),Qx (by exact Q4 z)]⟩
 have S:=A.S;rw[ee] at S;have S':=S.cut (by rw[bb.1];exact hs) (by rw[bb.1];exact hc);exact⟨_,_,ee,⟨S',B.b.trans bb⟩,C.but S' (B.b.trans bb)⟩
theorem BV{h h0:MH}{s c R most:Nat}{cs:List Int}{odd:Int}{Q:D×MH->Prop}(A:Sb s c cs h0 (R+100*most+120) h)(C:Cl h)(o0:0<=odd)(o1:odd<=1000)(k:∀(W:Wd)(fl:List Int)(P:Prog)(h1:MH),sj W fl odd->MW W most P->Sb s c cs h0 R h1->Cl h1->Q (aV P,h1)):Rn (gc [.ob s,.int most,.int odd] h) Q:=by
 refine oE ?_;nofun;refine GX (R:=R+100*most+40) A.S.sb o0 o1 λW fl hb ok A1=>?_;obtain⟨lt1,lt2⟩:=A1.S.lt;have d2:=ok.d2;have n1:=ok.n1;have n2:=ok.n2;have hlen:=A1.b.1;let E:En:=⟨s,c,hb.length,cs,W,fl,odd,ok,by exact Sr lt1,by exact Sr lt2⟩;have B0:Wb E (hb++[ng W fl most odd]) (R+100*most+40) most (hb++[ng W fl most odd]):=⟨A1.S.more _,lh rfl,(C.but A1.S A1.b).snoc (zf _ _ _ _ _),gh.refl _ _ _⟩;nofun;refine lZ ?_;nofun;refine rv (dX (B0.push (o:=.lst []) rfl).w) ?_;nofun;refine⟨_,_,_,rfl,rfl,?_⟩;have hobl:(hb++[ng W fl most odd]).length=h.length+1:=by simp[hlen]
 rw[hobl];refine cQ (λi δ h'=>∃(dds:List dP)(l':Nat)(d5 d6 d7:Option D)(hw:MH),δ=[some (.ob s),some (.int most),some (.int odd),some (.ob hb.length),some (.ob (h.length+1)),d5,d6,d7]/\h'=hw++[.lst (dds.map eB)]/\hw.length=h.length+1/\dds.length=i/\(∀(j:Nat)(d:dP),dds[j]?=some d->W.aj[j]?=some d.1/\W.params[j]?=some d.2.1/\bN W d.2.1 1 d.2.2/\d.2.2.length<=12)/\l'+(dds.map λd=>ao d.2.2).sum=most/\Wb E (hb++[ng W fl most odd]) (R+100*l'+(40-5*i)) l' hw)
  ⟨[],most,_,_,_,_,rfl,rfl,hobl,rfl,λ_ _ z=>by simp at z,by simp,B0⟩ (λ_ _ _ _ _=>rfl) ?_ ?_
 ·rintro i x δ h' hx ⟨dds,l',d5,d6,d7,hw,rfl,rfl,hwl,hdl,hdd,hc,A6⟩;obtain⟨dn,hdn,rfl⟩:=mK hx;have hi:i < W.aj.length:=(Pq.mp hdn).1;obtain⟨ps,hps⟩:∃f,W.params[i]?=some f:=⟨_,PV (by rw[ok.pl];exact hi)⟩;nofun;refine Cm (E:=E) (R:=R+100*l'+(39-5*i)) (is:=[1,2,3,4,12]) (λi=>1<=i/\i<=12) (by decide) ((A6.push (o:=.lst (dds.map eB)) (eR _ _ (we _) dds)).le (by lia)) λmo h7 hmo A7=>?_;nofun;refine(ring (E:=E) 20).1 (R:=R+(40-5*(i+1))) (d:=1) (held:=[]) (A7.le (by lia)) ⟨hps,hi,by decide,show(-1:Int)<=W.names.length by simp,λ_ z=>(nomatch z),by simp⟩ (by decide) (by decide) hmo.1 hmo.2 λt l8 h8 okl hll cr A8=>?_;have w8:=A8.w;obtain⟨hw8,rfl,e8,A8'⟩:=A6.pop A8;have hl8:=e8.trans hwl;nofun;refine jn ?_;nofun;refine⟨dw (lh hl8),?_⟩;nofun;refine rv (cU w8) ?_;nofun;refine rv (bR hps) ?_;nofun;refine rv (a:=(.tup (ps.map D.str),_)) rfl ?_;nofun;refine rv (dH (lh hl8) (by rw[Pp,show sizeLine=16777216 from rfl];lia)) ?_;rw[yt hl8];nofun;have hcn:((dds++[(dn,ps,t)]).map λd:dP=>ao d.2.2).sum=(dds.map λd:dP=>ao d.2.2).sum+ao t:=by
   rw[P4,Sv];simp
  refine⟨dds++[(dn,ps,t)],l8,_,_,_,hw8,rfl,by rw[P4];rfl,hl8,by simp[hdl],?_,by rw[hcn];lia,A8'.le (by lia)⟩;intro j d hj
  by_cases z:j < dds.length
  ·rw[PJ z] at hj;exact hdd j d hj
  ·rw[P0 (by exact Q4 z)] at hj;have hj0:j-dds.length=0:=by
    have:=(Pq.mp hj).1;simp at this
    lia
   rw[hj0] at hj;cases hj;obtain rfl:j=i:=by lia
   exact⟨hdn,hps,okl,hll⟩
 ·rintro δ h' ⟨dds,l',d5,d6,d7,hw,rfl,rfl,hwl,hdl,hdd,hc,A6⟩;rw[cD,Pp] at hdl;have w6:=(A6.push (o:=.lst (dds.map eB)) (eR _ _ (we _) dds)).w;have hat:(hw++[MO.lst (dds.map eB)])[h.length+1]?=some (.lst (dds.map eB)):=lh hwl;obtain⟨hb',o',rfl,B9,C9⟩:=Wb.out (E:=E) C A1 rfl A6;nofun;refine rv (dW w6) ?_;nofun;refine rv (a:=(.lv ((iX W.names).map D.str),_)) (by
   show(om (W.names.map D.str)).bind _=_;rw[ny];show(if W.names.length < 64 then _ else _)=_;rw[Py (by exact QQ n2 (by decide))]) ?_
  nofun;refine rv (a:=(.tup ((iX W.names).map D.str),_)) rfl ?_;nofun;refine rv (a:=(.tup (dds.map eB),_)) (by simp only[dI,dq,hat,Qk];rfl) ?_;nofun;rw[Qg];exact rv (rB B9.b.1 C9 (λn z=>(nomatch z)) (GR _ ⟨iX W.names,dds⟩)) (k W fl ⟨iX W.names,dds⟩ hb' ok ⟨rfl,hdl,hdd,by show _<=_;dsimp only;lia⟩ ⟨B9.S.le (by lia),A.b.trans B9.b⟩ C9)
end Mi
namespace Pg
open PySem Sm L2
noncomputable def aZ(l:List Row):D:=.tup (b9 l)
noncomputable def ai:Row->List (List Row)
 | .say _=>[]
 | .call _ _=>[]
 | .within _ b=>[b]
 | .all _ b=>[b]
 | .ask _ b e=>[b,e]
 | .mQ _ _ a b c=>[a,b,c]
 | .either a b=>[a,b]
 | .again a=>[a]
noncomputable def bP:Row->Str
 | .say _=>"say"
 | .call _ _=>"call"
 | .within _ _=>"within"
 | .all _ _=>"all"
 | .ask _ _ _=>"ask"
 | .mQ _ _ _ _ _=>"by"
 | .either _ _=>"either"
 | .again _=>"again"
mutual
noncomputable def di(p:List Nat):Row->List (List Nat×Row)
 | .say _=>[]
 | .call _ _=>[]
 | .within _ b=>aI (p++[0]) 0 b
 | .all _ b=>aI (p++[0]) 0 b
 | .ask _ b e=>aI (p++[0]) 0 b++aI (p++[1]) 0 e
 | .mQ _ _ a b c=>aI (p++[0]) 0 a++(aI (p++[1]) 0 b++aI (p++[2]) 0 c)
 | .either a b=>aI (p++[0]) 0 a++aI (p++[1]) 0 b
 | .again a=>aI (p++[0]) 0 a
noncomputable def aI(a:List Nat)(k:Nat):List Row->List (List Nat×Row)
 | []=>[]
 | r::rs=>(a++[k],r)::(di (a++[k]) r++aI a (k+1) rs)
end
noncomputable def dg(p:List Nat):Nat->List (List Row)->List (List Nat×Row)
 | _,[]=>[]
 | k,l::ls=>aI (p++[k]) 0 l++dg p (k+1) ls
theorem tQ(p:List Nat)(r:Row):di p r=dg p 0 (ai r):=by
 cases r <;> simp[di,ai,dg]
theorem iG(a:List Nat):∀(k:Nat)(x y:List Row),aI a k (x++y)=aI a k x++aI a (k+x.length) y
 | k,[],y=>by simp[aI]
 | k,r::x,y=>by simp[aI,iG a (k+1) x y,R3,Tc]
theorem nO(p:List Nat):∀(k:Nat)(x y:List (List Row)),dg p k (x++y)=dg p k x++dg p (k+x.length) y
 | k,[],y=>by simp[dg]
 | k,r::x,y=>by simp[dg,nO p (k+1) x y,R3,Tc]
mutual
noncomputable def cq:Row->Nat
 | .say _=>0
 | .call _ _=>0
 | .within _ b=>bh b
 | .all _ b=>bh b
 | .ask _ b e=>max (bh b) (bh e)
 | .mQ _ _ a b c=>max (bh a) (max (bh b) (bh c))
 | .either a b=>max (bh a) (bh b)
 | .again a=>bh a
noncomputable def bh:List Row->Nat
 | []=>1
 | r::rs=>max (1+cq r) (bh rs)
end
theorem jS{lot:List Row}{r:Row}(h:r∈lot):1+cq r<=bh lot:=by
 induction lot with
 | nil=>cases h
 | cons x xs ih=>
  rw[bh];rcases PB.mp h with rfl | h
  ·lia
  ·have:=ih h;lia
theorem jR{r:Row}{l:List Row}(h:l∈ai r):bh l<=cq r:=by
 cases r <;> simp[ai] at h
 case within=>subst h;simp[cq]
 case all=>subst h;simp[cq]
 case ask=>rcases h with rfl | rfl <;> rw[cq] <;> lia
 case mQ=>rcases h with rfl | rfl | rfl <;> rw[cq] <;> lia
 case either=>rcases h with rfl | rfl <;> rw[cq] <;> lia
 case again=>subst h;simp[cq]
theorem fY(r:Row):cnt r=1+((ai r).map ao).sum:=by cases r <;> simp[cnt,ai] <;> lia
mutual
theorem kR(p:List Nat):∀r:Row,1+(di p r).length=cnt r
 | .say _=>by simp[di,cnt]
 | .call _ _=>by simp[di,cnt]
 | .within _ b=>by simp[di,cnt,aP (p++[0]) 0 b]
 | .all _ b=>by simp[di,cnt,aP (p++[0]) 0 b]
 | .ask _ b e=>by simp[di,cnt,aP (p++[0]) 0 b,aP (p++[1]) 0 e];lia
 | .mQ _ _ a b c=>by simp[di,cnt,aP (p++[0]) 0 a,aP (p++[1]) 0 b,aP (p++[2]) 0 c];lia
 | .either a b=>by simp[di,cnt,aP (p++[0]) 0 a,aP (p++[1]) 0 b];lia
 | .again a=>by simp[di,cnt,aP (p++[0]) 0 a]
theorem aP(a:List Nat):∀(k:Nat)(l:List Row),(aI a k l).length=ao l
 | k,[]=>by simp[aI,ao]
 | k,r::rs=>by
  have:=kR (a++[k]) r;have:=aP a (k+1) rs;simp[aI,ao];lia
end
mutual
theorem yQ{W:Wd}{ps:List Str}:∀(n:Nat)(r:Row),bG W ps n r->n<=5->cq r<=5-n
 | n,.say _,_,_=>by simp[cq]
 | n,.call _ _,_,_=>by simp[cq]
 | n,.within _ b,h,hn=>by rw[bG] at h;have:=bQ (n+1) b h.2.2.2 h.2.1;rw[cq];lia
 | n,.all _ b,h,hn=>by rw[bG] at h;have:=bQ (n+1) b h.2.2.2 h.2.1;rw[cq];lia
 | n,.ask _ b e,h,hn=>by rw[bG] at h;have:=bQ (n+1) b h.2.2.2.2.1 h.2.1;have:=bQ (n+1) e h.2.2.2.2.2 h.2.1;rw[cq];clear h;lia
 | n,.mQ _ _ a b c,h,hn=>by
  rw[bG] at h;obtain⟨_,_,h0,_,_,_,h1,h2,h3⟩:=h;have:=bQ (n+1) a h1 h0;have:=bQ (n+1) b h2 h0;have:=bQ (n+1) c h3 h0;rw[cq];lia
 | n,.either a b,h,hn=>by
  rw[bG] at h;obtain⟨h0,_,_,h1,h2⟩:=h;have:=bQ (n+1) a h1 h0;have:=bQ (n+1) b h2 h0;rw[cq];lia
 | n,.again a,h,hn=>by
  rw[bG] at h;obtain⟨h0,_,h1⟩:=h;have:=bQ (n+1) a h1 h0;rw[cq];lia
theorem bQ{W:Wd}{ps:List Str}:∀(n:Nat)(l:List Row),bN W ps n l->n<=5->bh l<=6-n
 | n,[],_,hn=>by simp[bh];lia
 | n,r::rs,h,hn=>by
  rw[bN] at h;have:=yQ n r h.1 hn;have:=bQ n rs h.2 hn;rw[bh];lia
end
noncomputable def fU(n:Nat):D:=.int (n:Int)
noncomputable def du(p:List Nat):D:=.tup (p.map fU)
noncomputable def oG(x:List Nat×Row):D:=.tup [du x.1,ax x.2]
end Pg
namespace Mi
open PySem Sm L2 Pg
theorem GS(n:Nat)(x:List Nat×Row):gJ n (oG x)=true:=by
 show(fk n (x.1.map fU)&&(gJ n (ax x.2)&&true))=true;rw[eR n _ (λ_=>rfl),se];rfl
theorem uE(h:MH):wA h h=true:=by
 induction h with
 | nil=>rfl
 | cons o r ih=>show(EU o o&&wA r r)=true;rw[uD,ih];rfl
theorem t9{H:MH}{xs:List D}(hc:fk H.length xs=true):leave H (.ob H.length) (H++[.lst xs])=some (.lv xs,H):=by
 have h3:yl H.length (H++[.lst xs]) (.ob H.length)=.lv xs:=by
  show(if H.length < H.length then _ else _)=_;rw[PH (RC _)];simp
 unfold leave;rw[h3,Rj (Pw _),QG,uE];show(if(fk H.length xs&&_)=true then _ else _)=_;rw[hc];rfl
theorem fK(r:Row)(h:MH):dR [ax r] h=some (.tup ((ai r).map aZ),h):=by
 have e:Rn (dR [ax r] h) λp=>p=(.tup ((ai r).map aZ),h):=by
  refine bF ?_;cases r <;> rw[ax] <;> (nofun;refine rv rfl ?_;nofun;refine rv rfl ?_;dsimp only;refine⟨_,rfl,?_⟩;nofun;refine rv rfl ?_;rfl)
 obtain⟨p,e1,rfl⟩:=e;exact e1
theorem BK{xs ys:List D}{h:MH}(hl:xs.length+ys.length<=10000):av (.tup xs) (.tup ys) h=some (.tup (xs++ys),h):=by
 cases xs with
 | nil=>rfl
 | cons x xs=>
  show(if xs.length+1+ys.length<=sizeLine then some (D.tup (x::xs++ys),h) else none)=_;rw[Py (by rw[show sizeLine=16777216 from rfl];rw[PK] at hl;exact PL hl (by decide))]
theorem rl{h:MH}{n:Nat}{xs ys:List D}(e:h[n]?=some (.lst xs))(hl:xs.length+ys.length<=1000000):jV (.ob n) [.lv ys] h=some (.cj,h.set n (.lst (xs++ys))):=by
 unfold jV;dsimp only;rw[e];show(if xs.length+ys.length<=sizeLine then _ else _)=_;rw[Py (by rw[show sizeLine=16777216 from rfl];exact PL hl (by decide))]
theorem qy{H:MH}{o o':MO}:(H++[o]).set H.length o'=H++[o']:=by
 rw[RP _ _ (Pw _),RZ];rfl
theorem hG{H:MH}{o:MO}:(H++[o])[H.length]?=some o:=by simp
theorem um(a:List Nat)(i:Nat)(hl:a.length<=1000)(h:MH):av (du a) (.tup [.int (i:Int)]) h=some (du (a++[i]),h):=by
 show av (.tup (a.map fU)) (.tup [fU i]) _=_;rw[BK (by rw[Pp];simp;lia)];simp[du]
theorem qV:∀(n:Nat)(lot:List Row)(ahead:List Nat)(h:MH),bh lot<=n->ao lot<=1000->ahead.length+2*n<=100->dJ n [.tup (b9 lot),du ahead] h=some (.lv ((aI ahead 0 lot).map oG),h)
 | 0,lot,ahead,h,hn,hc,ha=>by
  exfalso;cases lot with
  | nil=>simp[bh] at hn
  | cons r rs=>rw[bh] at hn;lia
 | n+1,lot,ahead,h,hn,hc,ha=>by
  have e:Rn (dJ (n+1) [.tup (b9 lot),du ahead] h) λp=>p=(.lv ((aI ahead 0 lot).map oG),h):=by
   unfold dJ;refine oE ?_;nofun;refine lZ ?_;nofun;refine⟨_,_,_,rfl,rfl,?_⟩;rw[aY];refine cQ (λi δ h'=>∃(d3 d4 d5 d6 d7:Option D),δ=[some (.tup (lot.map ax)),some (du ahead),some (.ob h.length),d3,d4,d5,d6,d7]/\h'=h++[.lst ((aI ahead 0 (lot.take i)).map oG)])
    ⟨_,_,_,_,_,rfl,by simp[aI]⟩ (λ_ _ _ _ _=>rfl) ?_ ?_
   ·rintro i x δ h' hx ⟨d3,d4,d5,d6,d7,rfl,rfl⟩;obtain⟨r,hr,rfl⟩:=mK hx;have hrm:=Pr hr;have hi:i < lot.length:=(Pq.mp hr).1;have htk:lot.take (i+1)=lot.take i++[r]:=by
     rw[Tu,hr];rfl
    have hpl:aI ahead 0 (lot.take (i+1))=aI ahead 0 (lot.take i)++((ahead++[i],r)::dg (ahead++[i]) 0 (ai r)):=by
     rw[htk,iG];simp only[aI,tQ,PY,Qu,QT];rw[Q8 (by exact Rk hi)]
    have hlen:(aI ahead 0 lot).length<=1000:=by rw[aP];exact hc
    have hsub:(aI ahead 0 (lot.take (i+1))).length<=1000:=by
     have:aI ahead 0 lot=aI ahead 0 (lot.take (i+1))++aI ahead (0+(lot.take (i+1)).length) (lot.drop (i+1)):=by
      rw[<-iG,QP]
     rw[this,PF] at hlen;exact PL (Qa _ _) hlen
    generalize aI ahead 0 (lot.take i)=F0 at hpl ⊢;nofun;refine rv (um ahead i (by lia) _) ?_;nofun;rw[hpl,PF,PK] at hsub;refine jn ?_;nofun;refine⟨dw hG,?_⟩;nofun;refine rv (dH hG (by rw[Pp,show sizeLine=16777216 from rfl];lia)) ?_;nofun;rw[qy];refine lZ ?_;nofun;refine rv (fK r _) ?_;nofun;refine⟨_,_,_,rfl,rfl,?_⟩;refine cQ (λj δ h'=>∃(d6 d7:Option D),δ=[some (.tup (lot.map ax)),some (du ahead),some (.ob h.length),some (.int i),some (ax r),some (du (ahead++[i])),d6,d7]/\h'=h++[.lst ((F0++((ahead++[i],r)::dg (ahead++[i]) 0 ((ai r).take j))).map oG)])
     ⟨_,_,rfl,by simp[dg,oG]⟩ (λ_ _ _ _ _=>rfl) ?_ ?_
    ·rintro j x δ h' hx ⟨d6,d7,rfl,rfl⟩;obtain⟨l,hl,rfl⟩:=mK hx;have hlm:=Pr hl;have hj:j < (ai r).length:=(Pq.mp hl).1;have htk:(ai r).take (j+1)=(ai r).take j++[l]:=by
      rw[Tu,hl];rfl
     have hpj:dg (ahead++[i]) 0 ((ai r).take (j+1))=dg (ahead++[i]) 0 ((ai r).take j)++aI (ahead++[i]++[j]) 0 l:=by
      rw[htk,nO];simp only[dg,PY,Qu,QT];rw[Q8 (by exact Rk hj)]
     have hsub2:(dg (ahead++[i]) 0 ((ai r).take (j+1))).length<=(dg (ahead++[i]) 0 (ai r)).length:=by
      have:dg (ahead++[i]) 0 (ai r)=dg (ahead++[i]) 0 ((ai r).take (j+1))++dg (ahead++[i]) (0+((ai r).take (j+1)).length) ((ai r).drop (j+1)):=by
       rw[<-nO,QP]
      rw[this,PF];exact Qa _ _
     rw[hpj,PF] at hsub2;have ih:=λhh=>qV n l (ahead++[i]++[j]) hh (by have:=jS hrm;have:=jR hlm;lia) (by rw[<-aP (ahead++[i]++[j]) 0];lia) (by simp;lia);nofun;refine jn ?_;nofun;refine⟨dw hG,?_⟩;nofun;refine rv (um (ahead++[i]) j (by simp;lia) _) ?_;nofun;refine rv (ih _) ?_;nofun;refine rv (rl hG (by rw[Pp,Pp,PF,PK];lia)) ?_;nofun;rw[qy,<-P4];refine⟨_,_,rfl,?_⟩;rw[hpj];simp
    ·rintro δ h' ⟨d6,d7,rfl,rfl⟩;rw[cD,Pp,QG];nofun;exact⟨_,_,_,_,_,rfl,by rw[hpl]⟩
   ·rintro δ h' ⟨d3,d4,d5,d6,d7,rfl,rfl⟩;rw[cD,Pp,QG];nofun;exact rv (t9 (eR _ _ (GS _) _)) rfl
  obtain⟨p,e1,rfl⟩:=e;exact e1
end Mi
namespace Pg
open PySem Sm L2
noncomputable def placesFrom:Nat->List dP->List (Nat×List Nat×Row)
 | _,[]=>[]
 | k,d::ds=>(aI [] 0 d.2.2).map (λx=>(k,x.1,x.2))++placesFrom (k+1) ds
noncomputable def eN(x:Nat×List Nat×Row):D:=.tup [fU x.1,du x.2.1,ax x.2.2]
theorem fS:∀(k:Nat)(x y:List dP),placesFrom k (x++y)=placesFrom k x++placesFrom (k+x.length) y
 | k,[],y=>by simp[placesFrom]
 | k,d::x,y=>by simp[placesFrom,fS (k+1) x y,R3,Tc]
theorem fR:∀(k:Nat)(ds:List dP),(placesFrom k ds).length=(ds.map λd=>ao d.2.2).sum
 | _,[]=>rfl
 | k,d::ds=>by simp[placesFrom,fR (k+1) ds,aP]
theorem zA:∀{ds:List dP} {d:dP},d∈ds->ao d.2.2<=(ds.map λd=>ao d.2.2).sum
 | x::r,d,h=>by
  rw[PN,Q3];rcases PB.mp h with rfl | h
  ·lia
  ·have:=zA h;lia
structure AF(P:Prog):Prop where
 nd:∀d∈P.aj,bh d.2.2<=6
 ct:(P.aj.map λd=>ao d.2.2).sum<=1000
 dl:P.aj.length<=1000
theorem MW.fit{W:Wd}{m:Nat}{P:Prog}(o:MW W m P)(hm:m<=1000)(hd:W.aj.length<=6):AF P:=by
 refine⟨λd hd=>?_,PL o.ct hm,by rw[o.dl];lia⟩;obtain⟨j,hj⟩:=RQ.mp hd;obtain⟨_,_,ok,_⟩:=o.dd j d hj;have:=bQ 1 d.2.2 ok (by lia)
 lia
end Pg
namespace Mi
open PySem Sm L2 Pg
theorem EH(n:Nat)(x:Nat×List Nat×Row):gJ n (eN x)=true:=by
 show(true&&(fk n (x.2.1.map fU)&&(gJ n (ax x.2.2)&&true)))=true;rw[eR n _ (λ_=>rfl),se];rfl
theorem GP{α:Type}{ws:W}{g:GM}{e:EM}{h:MH}(hc:pQ ws h=true)(f k:α->D)(J:DS->Prop)(xs:List α){δ:DS}(h0:J δ)(ht:∀x∈xs,∀δ,J δ->Rn (g (f x) δ h) λq=>q.2=h/\J q.1/\Rn (e q.1 h) λp=>p=(k x,h)):
  bH ws g dD e (xs.map f) δ h=some (xs.map k,h):=by
 induction xs generalizing δ with
 | nil=>rw[Rl];unfold bH;rw[Py hc];rfl
 | cons x r ih=>
  rw[PN];unfold bH;rw[Py hc];obtain⟨⟨δ1,h1⟩,e1,rfl,J1,p,e2,rfl⟩:=ht x Px δ h0;rw[e1];dsimp only[Option.bind_some] at e2 ⊢;show((some (true,h1)).bind _)=_;dsimp only[Option.bind_some];rw[Py rfl,e2];dsimp only[Option.bind_some];rw[ih J1 λy hy=>ht y (Pz _ hy)];rfl
theorem gp{P:Prog}(fit:AF P)(h:MH):dQ [aV P] h=some (.lv ((placesFrom 0 P.aj).map eN),h):=by
 have e:Rn (dQ [aV P] h) λp=>p=(.lv ((placesFrom 0 P.aj).map eN),h):=by
  refine oE ?_;nofun;refine lZ ?_;nofun;refine rv (a:=(.tup (P.aj.map eB),_)) rfl ?_;nofun;refine⟨_,_,_,rfl,rfl,?_⟩;refine cQ (λi δ h'=>∃(d2 d3 d4 d5:Option D),δ=[some (aV P),some (.ob h.length),d2,d3,d4,d5]/\h'=h++[.lst ((placesFrom 0 (P.aj.take i)).map eN)])
   ⟨_,_,_,_,rfl,by simp[placesFrom]⟩ (λ_ _ _ _ _=>rfl) ?_ ?_
  ·rintro i x δ h' hx ⟨d2,d3,d4,d5,rfl,rfl⟩;obtain⟨d,hd,rfl⟩:=mK hx;have hdm:=Pr hd;have hi:i < P.aj.length:=(Pq.mp hd).1;have htk:P.aj.take (i+1)=P.aj.take i++[d]:=by rw[Tu,hd];rfl
   have hpl:placesFrom 0 (P.aj.take (i+1))=placesFrom 0 (P.aj.take i)++(aI [] 0 d.2.2).map λx=>(i,x.1,x.2):=by
    rw[htk,fS];simp only[placesFrom,PY,Qu,QT];rw[Q8 (by lia)]
   have hc:=zA hdm;have ct:=fit.ct;have hlen:(placesFrom 0 P.aj).length<=1000:=by rw[fR];exact ct
   have hsub:(placesFrom 0 (P.aj.take (i+1))).length<=1000:=by
    have:placesFrom 0 P.aj=placesFrom 0 (P.aj.take (i+1))++placesFrom (0+(P.aj.take (i+1)).length) (P.aj.drop (i+1)):=by
     rw[<-fS,QP]
    rw[this,PF] at hlen
    lia
   rw[hpl,PF,Pp] at hsub;unfold eB;nofun;refine jn ?_;nofun;refine⟨dw hG,?_⟩;nofun;refine fv ?_;nofun;refine rv (qV 8 d.2.2 [] _ (PL (fit.nd d hdm) (by decide)) (by lia) (by simp)) ?_;refine⟨_,_,rfl,?_⟩;refine rv (GP rfl oG (λx=>eN (i,x.1,x.2)) (λδ=>∃a b,δ=[a,b,some (.int i)]) (aI [] 0 d.2.2) ⟨_,_,rfl⟩ ?_) ⟨?_,?_⟩
   ·rintro x hx δ ⟨a,b,rfl⟩;unfold oG;nofun;refine⟨rfl,⟨_,_,rfl⟩,?_⟩;nofun;rfl
   ·dsimp only;rw[Pp,show sizeLine=16777216 from rfl]
    lia
   ·nofun;refine rv (rl hG (by rw[Pp,Pp];lia)) ?_;nofun;rw[qy];refine⟨_,_,_,_,rfl,?_⟩;rw[hpl,P4,QD];rfl
  ·rintro δ h' ⟨d2,d3,d4,d5,rfl,rfl⟩;rw[cD,Pp,QG];nofun;exact rv (t9 (eR _ _ (EH _) _)) rfl
 obtain⟨p,e1,rfl⟩:=e;exact e1
end Mi
namespace Sm
open PySem L2 Builtin.Str StrLaws
noncomputable def Jw(l:List Nat):Str:=⟨l.toArray⟩
theorem Gm(l:List Nat):(Jw l).cps.toList=l:=by simp[Jw]
theorem vL(x:Str):Jw x.cps.toList=x:=by cases x;simp[Jw]
theorem rD(c:Nat):∀(x:Str)(r:List Str),(Str.join ⟨#[c]⟩ (x::r)).cps.toList=x.cps.toList++(r.map λy=>c::y.cps.toList).flatten
 | x,[]=>by show x.cps.toList=_;simp
 | x,y::r=>by
  show(x.cps++#[c]++(Str.join ⟨#[c]⟩ (y::r)).cps).toList=_;rw[RY,RY,rD c y r];simp
theorem rW{c:Nat}:∀{a b s t:List Nat},c∉a->c∉b->a++c::s=b++c::t->a=b/\s=t
 | [],[],s,t,_,_,e=>⟨rfl,by simpa using e⟩
 | [],y::b,s,t,_,hb,e=>by simp at e;exact absurd (e.1 ▸ Px) hb
 | x::a,[],s,t,ha,_,e=>by simp at e;exact absurd (e.1 ▸ Px) ha
 | x::a,y::b,s,t,ha,hb,e=>by
  simp at e;obtain⟨e1,e2⟩:=rW (λh=>ha (Pz _ h)) (λh=>hb (Pz _ h)) e.2;exact⟨by rw[e.1,e1],e2⟩
theorem Ap{x y:Str}(e:x.cps.toList=y.cps.toList):x=y:=by rw[<-vL x,e,vL]
def Sh(n:Nat)(x:Str):Prop:=x.length<=n/\PyData.strOk x=true
theorem Sh.up{n m:Nat}{x:Str}(h:Sh n x)(hm:n<=m):Sh m x:=⟨PL h.1 hm,h.2⟩
theorem Sh.app{n m:Nat}{x y:Str}(h:Sh n x)(h':Sh m y):Sh (n+m) (x++y):=⟨by rw[Qi];exact Nat.add_le_add h.1 h'.1,Sm.gO h.2 h'.2⟩
theorem Sh.int{i:Int}(h:-99<=i/\i<=99):Sh 8 (Str.ofString (toString i)):=by
 refine⟨?_,tD i⟩;have hl:(Str.ofString (toString i)).length=(toString i).length:=by
  rw[Str.ofString_eq_toList];show((toString i).toList.map Char.toNat).toArray.size=_;rw[PQ,Pp];exact String.length_toList
 rw[hl];have:=int_text_length_le10 (a:=i) (k:=2) (by decide) (by lia)
 lia
theorem Sh.join{n:Nat}{s:Str}(hs:Sh 1 s):∀{xs:List Str},(∀x∈xs,Sh n x)->Sh ((n+1)*xs.length) (Str.join s xs)
 | [],_=>⟨by simp[Str.join,Str.empty,Str.length],kI hs.2 [] (λ_ h=>(nomatch h))⟩
 | [x],h=>(h x (.head _)).up (by simp)
 | x::y::r,h=>by
  have:=(((h x (.head _)).app hs).app (Sh.join (n:=n) hs (xs:=y::r) λz hz=>h z (.tail _ hz)));exact this.up (by simp only[PK];rw[Ub (n+1)];lia)
theorem oo{x:Str}{w rest:List Nat}(h:32∉w)(e:x.cps.toList=w\/x.cps.toList=w++32::rest):∃r,Txt.split x (Str.ofString " ")=Jw w::r:=by
 have eb:Str.ofString " "=⟨#[32]⟩:=by decide+kernel
 rw[eb];have j:=join_split x ⟨#[32]⟩;have f:=split_free x 32;have p:=T9 x ⟨#[32]⟩;generalize Txt.split x ⟨#[32]⟩=ps at j f p;cases ps with
 | nil=>simp at p
 | cons y r=>
  refine⟨r,?_⟩;have jc:y.cps.toList++(r.map λy=>32::y.cps.toList).flatten=x.cps.toList:=by rw[<-rD,j]
  have fy:=f y (.head _);have:y.cps.toList=w:=by
   rcases e with e | e
   ·rw[e] at jc;cases r with
    | nil=>simpa using jc
    | cons z r=>exact absurd (by rw[<-jc];simp) h
   ·rw[e] at jc;cases r with
    | nil=>
     have:y.cps.toList=w++32::rest:=by simpa using jc
     exact absurd (by rw[this];simp) fy
    | cons z r=>
     simp only[PN,QV,Qv] at jc;exact(rW fy h jc).1
  rw[show y=Jw w from Ap (by rw[Gm,this])]
theorem qw{x:Str}(h:Sh 1000 x){H:MH}:nM (.str x) [.str " "] H=some (.lv ((Txt.split x (Str.ofString " ")).map D.str),H):=by
 have eb:Str.ofString " "=⟨#[32]⟩:=by decide+kernel
 have h1:=h.1;unfold nM;dsimp only;rw[Py];refine⟨by decide+kernel,PL h1 (by decide),?_,?_,?_⟩
 ·have:=PyProof.Rows.split_le x (Str.ofString " ");rw[show sizeLine=16777216 from rfl];lia
 ·rw[PyProof.Rows.len_partsBetween];have:=StrLaws.occ_length_le x (Str.ofString " ") 0 x.length (x.length+1);rw[show sizeLine=16777216 from rfl];lia
 ·rw[Rh];intro y hy;have j:=join_split x (Str.ofString " ");have h2:=h.2;unfold PyData.strOk at h2 ⊢;rw[UB] at h2 ⊢;intro c hc;refine h2 c ?_;have:=(PyProof.Rows.mem_join (Str.ofString " ") c (Txt.split x (Str.ofString " "))).mpr (.inl ⟨y,hy,RV.mpr hc⟩);rw[j] at this;exact RV.mp this
end Sm
namespace Pg
open PySem Sm L2
noncomputable def i9(t:Term):Str:=if t.1=Str.ofString "" then Str.ofString (toString t.2) else if t.2=0 then t.1 else t.1++(if 0 < t.2 then Txt.mul (Str.ofString "+") 1 else Txt.mul (Str.ofString "+") 0)++Str.ofString (toString t.2)
noncomputable def fW(l:Lock):Str:=l.1++Str.ofString ":"++i9 l.2
noncomputable def bL:Row->Str
 | .say w=>Str.ofString "say "++w
 | .call d ts=>Str.join (Str.ofString " ") (Str.ofString "call"::d::ts.map i9)
 | .within l _=>Str.ofString "within"++Str.ofString " "++fW l
 | .all ls _=>Str.join (Str.ofString " ") (Str.ofString "all"::ls.map fW)
 | .ask l _ _=>Str.ofString "ask"++Str.ofString " "++fW l
 | .mQ s t _ _ _=>Str.ofString "by "++i9 s++Str.ofString " "++i9 t
 | .either _ _=>Str.ofString "either"
 | .again _=>Str.ofString "again"
def Ie(t:Term):Prop:=Sh 8 t.1/\-99<=t.2/\t.2<=99
def Ig(l:Lock):Prop:=Sh 8 l.1/\Ie l.2
def uU:Row->Prop
 | .say w=>Sh 8 w
 | .call d ts=>Sh 8 d/\ts.length<=3/\∀t∈ts,Ie t
 | .within l _=>Ig l
 | .all ls _=>ls.length<=4/\(∀l∈ls,Ig l)/\ls≠[]
 | .ask l _ _=>Ig l
 | .mQ s t _ _ _=>Ie s/\Ie t
 | .either _ _=>True
 | .again _=>True
theorem gi{t:Term}(h:Ie t):Sh 20 (i9 t):=by
 unfold i9
 split
 ·exact(Sh.int h.2).up (by decide)
 ·split
  ·exact h.1.up (by decide)
  ·refine Sh.up (n:=8+2+8) ((h.1.app ?_).app (Sh.int h.2)) (by decide)
   split <;> exact⟨by decide+kernel,by decide+kernel⟩
theorem g0{l:Lock}(h:Ig l):Sh 30 (fW l):=Sh.up (n:=8+1+20) ((h.1.app ⟨by decide+kernel,by decide+kernel⟩).app (gi h.2)) (by decide)
theorem ig:Sh 1 (Str.ofString " "):=⟨by decide+kernel,by decide+kernel⟩
theorem xG:∀{r:Row},uU r->Sh 400 (bL r)
 | .say w,h=>Sh.up (n:=4+8) (Sh.app ⟨by decide+kernel,by decide+kernel⟩ h) (by decide)
 | .call d ts,h=>by
  refine(Sh.join (n:=20) ig λx hx=>?_).up ?_
  ·rcases PB.mp hx with rfl | hx
   ·exact⟨by decide+kernel,by decide+kernel⟩
   ·rcases PB.mp hx with rfl | hx
    ·exact h.1.up (by decide)
    ·obtain⟨t,ht,rfl⟩:=Ql.mp hx;exact gi (h.2.2 t ht)
  ·have:=h.2.1;simp only[PK,Pp];lia
 | .within l _,h=>Sh.up (n:=6+1+30) ((Sh.app ⟨by decide+kernel,by decide+kernel⟩ ig).app (g0 h)) (by decide)
 | .all ls _,h=>by
  refine(Sh.join (n:=30) ig λx hx=>?_).up ?_
  ·rcases PB.mp hx with rfl | hx
   ·exact⟨by decide+kernel,by decide+kernel⟩
   ·obtain⟨t,ht,rfl⟩:=Ql.mp hx;exact g0 (h.2.1 t ht)
  ·have:=h.1;simp only[PK,Pp];lia
 | .ask l _ _,h=>Sh.up (n:=3+1+30) ((Sh.app ⟨by decide+kernel,by decide+kernel⟩ ig).app (g0 h)) (by decide)
 | .mQ s t _ _ _,h=>Sh.up (n:=3+20+1+20) (((Sh.app ⟨by decide+kernel,by decide+kernel⟩ (gi h.1)).app ig).app (gi h.2)) (by decide)
 | .either _ _,_=>show Sh 400 (Str.ofString "either") from⟨by decide+kernel,by decide+kernel⟩
 | .again _,_=>show Sh 400 (Str.ofString "again") from⟨by decide+kernel,by decide+kernel⟩
noncomputable def sorts:List (List Nat):=[[115,97,121],[99,97,108,108],[119,105,116,104,105,110],[97,108,108],[97,115,107],[98,121],[101,105,116,104,101,114],[97,103,97,105,110]]
theorem nQ(x:Str)(r:List Str)(h:r≠[]):∃rest,(Str.join (Str.ofString " ") (x::r)).cps.toList=x.cps.toList++32::rest:=by
 have eb:Str.ofString " "=⟨#[32]⟩:=by decide+kernel
 rw[eb,rD];cases r with
 | nil=>exact absurd rfl h
 | cons y r=>exact⟨_,rfl⟩
theorem eZ(x y:Str):(x++y).cps.toList=x.cps.toList++y.cps.toList:=by
 show(x.cps++y.cps).toList=_;rw[RY]
theorem rJ(r:Row)(h:uU r):∃rest,(bL r).cps.toList=(bP r).cps.toList\/(bL r).cps.toList=(bP r).cps.toList++32::rest:=by
 cases r with
 | say w=>exact⟨w.cps.toList,.inr (by show(Str.ofString "say "++w).cps.toList=_;rw[eZ,show(Str.ofString "say ").cps.toList=(Str.ofString "say").cps.toList++[32] by decide+kernel];simp[bP])⟩
 | call d ts=>obtain⟨rest,e⟩:=nQ (Str.ofString "call") (d::ts.map i9) (by simp);exact⟨rest,.inr e⟩
 | within l _=>exact⟨(fW l).cps.toList,.inr (by show(Str.ofString "within"++Str.ofString " "++fW l).cps.toList=_;rw[eZ,eZ,show(Str.ofString " ").cps.toList=[32] by decide+kernel];simp[bP])⟩
 | all ls _=>
  by_cases z:ls.map fW=[]
  ·exact⟨[],.inl (by show(Str.join _ (_::ls.map fW)).cps.toList=_;rw[z];rfl)⟩
  ·obtain⟨rest,e⟩:=nQ (Str.ofString "all") (ls.map fW) z;exact⟨rest,.inr e⟩
 | ask l _ _=>exact⟨(fW l).cps.toList,.inr (by show(Str.ofString "ask"++Str.ofString " "++fW l).cps.toList=_;rw[eZ,eZ,show(Str.ofString " ").cps.toList=[32] by decide+kernel];simp[bP])⟩
 | mQ s t _ _ _=>exact⟨(i9 s++Str.ofString " "++i9 t).cps.toList,.inr (by show(Str.ofString "by "++i9 s++Str.ofString " "++i9 t).cps.toList=_;rw[eZ,eZ,eZ,eZ,eZ,show(Str.ofString "by ").cps.toList=(Str.ofString "by").cps.toList++[32] by decide+kernel];simp[bP])⟩
 | either _ _=>exact⟨[],.inl rfl⟩
 | again _=>exact⟨[],.inl rfl⟩
theorem wN(r:Row):(bP r).cps.toList∈sorts:=by
 have:∀w∈[Str.ofString "say",Str.ofString "call",Str.ofString "within",Str.ofString "all",Str.ofString "ask",Str.ofString "by",Str.ofString "either",Str.ofString "again"],w.cps.toList∈sorts:=by decide+kernel
 refine this _ ?_;cases r <;> simp[bP]
theorem yq:∀w∈sorts,32∉w:=by decide
theorem k9(r:Row)(h:uU r):∃q,Txt.split (bL r) (Str.ofString " ")=bP r::q:=by
 obtain⟨rest,e⟩:=rJ r h;obtain⟨q,e⟩:=oo (yq _ (wN r)) e;exact⟨q,by rw[e,vL]⟩
theorem CG:∀w∈sorts,w.head?≠some 111/\w≠[101,110,100]/\∀rest,w++32::rest≠[101,110,100]:=by
 have:∀w∈sorts,w.head?≠some 111/\w≠[101,110,100]/\w≠[]/\32∉[101,110,100]:=by decide
 exactλw hw=>⟨(this w hw).1,(this w hw).2.1,λrest e=>(this w hw).2.2.2 (by rw[<-e];simp)⟩
theorem Aa(r:Row)(h:uU r):(bL r==Str.ofString "or")=false/\(bL r==Str.ofString "end")=false:=by
 obtain⟨rest,e⟩:=rJ r h;obtain⟨a,b,c⟩:=CG _ (wN r);constructor <;> rw[QY] <;> intro z <;> rw[z] at e
 ·rw[show(Str.ofString "or").cps.toList=[111,114] by decide+kernel] at e;rcases e with e | e
  ·rw[<-e] at a;exact a rfl
  ·cases hw:(bP r).cps.toList with
   | nil=>rw[hw] at e;cases e
   | cons x q=>rw[hw] at e a;exact a (by rw[<-(List.cons.inj e).1];rfl)
 ·rw[show(Str.ofString "end").cps.toList=[101,110,100] by decide+kernel] at e;rcases e with e | e
  ·exact b e.symm
  ·exact c rest e.symm
end Pg
namespace Sm
open PySem L2
theorem rZ{α:Type}{e:EM}{h:MH}{t:DS}(A f:α->D):∀(xs:List α)(o:Option D),(∀x∈xs,e (some (A x)::t) h=some (f x,h))->bH [] (gN 0) dD e (xs.map A) (o::t) h=some (xs.map f,h)
 | [],o,_=>rfl
 | x::r,o,hx=>by
  have e1:e (some (A x)::t) h=some (f x,h):=hx x Px;have e2:=rZ A f r (some (A x)) λy hy=>hx y (Pz _ hy);show((e (some (A x)::t) h).bind λy=>(bH [] (gN 0) dD e (r.map A) (some (A x)::t) y.2).map λz=>(y.1::z.1,z.2))=_;rw[e1];show((bH [] (gN 0) dD e (r.map A) (some (A x)::t) h).map λz=>(f x::z.1,z.2))=_;rw[e2];rfl
theorem uI{α:Type}{caps:List (Option Nat)}{ei e:EM}{δ t:DS}{o:Option D}{h:MH}{d:D}{xs:List α}(A f:α->D)(hi:ei δ h=some (d,h))(hs:dq d h=some (xs.map A,[]))(hc:fH caps δ=o::t)(hl:xs.length<=100000)(he:∀x∈xs,e (some (A x)::t) h=some (f x,h)):
  b8 caps (eG ei) (gN 0) dD e δ h=some (xs.map f,h):=by
 unfold b8 eG;rw[hi];dsimp only[Option.bind_some];rw[hs];dsimp only[Option.map_some,Option.bind_some];rw[hc,rZ A f xs o he];dsimp only[Option.bind_some];rw[Py (by rw[Pp,show sizeLine=16777216 from rfl];lia)]
abbrev g2:GM:=gT 2 (ar (gN 0) (ar (gN 1) bS))
theorem xR{α:Type}{e:EM}{h:MH}{t:DS}(A B f:α->D):∀(xs:List α)(o o2:Option D),(∀x∈xs,e (some (A x)::some (B x)::t) h=some (f x,h))->bH [] g2 dD e (xs.map λx=>.tup [A x,B x]) (o::o2::t) h=some (xs.map f,h)
 | [],o,o2,_=>rfl
 | x::r,o,o2,hx=>by
  have e1:e (some (A x)::some (B x)::t) h=some (f x,h):=hx x Px;have e2:=xR A B f r (some (A x)) (some (B x)) λy hy=>hx y (Pz _ hy);show((e (some (A x)::some (B x)::t) h).bind λy=>(bH [] g2 dD e (r.map λx=>.tup [A x,B x]) (some (A x)::some (B x)::t) y.2).map λz=>(y.1::z.1,z.2))=_;rw[e1];show((bH [] g2 dD e (r.map λx=>.tup [A x,B x]) (some (A x)::some (B x)::t) h).map λz=>(f x::z.1,z.2))=_;rw[e2];rfl
theorem BX{α:Type}{caps:List (Option Nat)}{ei e:EM}{δ t:DS}{o o2:Option D}{h:MH}{d:D}{xs:List α}(A B f:α->D)(hi:ei δ h=some (d,h))(hs:dq d h=some (xs.map λx=>.tup [A x,B x],[]))(hc:fH caps δ=o::o2::t)(hl:xs.length<=100000)(he:∀x∈xs,e (some (A x)::some (B x)::t) h=some (f x,h)):
  b8 caps (eG ei) g2 dD e δ h=some (xs.map f,h):=by
 unfold b8 eG;rw[hi];dsimp only[Option.bind_some];rw[hs];dsimp only[Option.map_some,Option.bind_some];rw[hc,xR A B f xs o o2 he];dsimp only[Option.bind_some];rw[Py (by rw[Pp,show sizeLine=16777216 from rfl];lia)]
end Sm
namespace Mi
open PySem Sm L2 Pg
theorem LF{δ:DS}{h:MH}{a b:EM}{Q:D×MH->Prop}(r:Rn (a δ h) λp=>∃c,yk p.1 p.2=some c/\(c=true->Q p)/\(c=false->Rn (b δ p.2) Q)):Rn (Kc a b δ h) Q:=aW (r.imp λp ⟨c,e,q1,q2⟩=>by
 rw[e];show Rn (if c=true then some p else b δ p.2) Q;cases c with
 | true=>rw[Py rfl];exact⟨_,rfl,q1 rfl⟩
 | false=>rw[PH (by simp)];exact q2 rfl)
theorem len0{w:Str}(h:w.length=0):w=Str.ofString "":=by
 refine Ap ?_;have:w.cps.toList.length=0:=by rw[Ry];exact h
 rw[List.length_eq_zero_iff.mp this];rfl
theorem fI{t:Term}{h:MH}(ht:Ie t):bt [bq t] h=some (.str (i9 t),h):=by
 obtain⟨w,i⟩:=t;obtain⟨hw,h0,h1⟩:=ht;dsimp only at hw h0 h1;have hs:xI [.int i] h=some (.str (Str.ofString (toString i)),h):=by
  show(if i.natAbs.log2 < 1920 then some (D.str (Str.ofString (toString i)),h) else none)=_;rw[Py]
  by_cases z:i.natAbs=0
  ·rw[z];decide
  ·exact(Nat.log2_lt z).mpr (P2 (show i.natAbs < 2^7 by lia) (Uo (by decide) (by decide)))
 have li:=(Sh.int ⟨h0,h1⟩).1;have lw:=hw.1;refine bx ?_;show Rn (bt [.tup [.str w,.int i]] h) _;refine bF ?_;refine fE (Dl (rv (a:=(.tup [.str w,.int i],h)) rfl (rv (a:=([some (.tup [.str w,.int i]),some (.str w),some (.int i)],h)) rfl (qp ?_))));refine eX (w=Str.ofString ""\/i=0) ?_ (λz=>?_) (λz=>?_)
 ·nofun;refine⟨_,rfl,λy=>?_,λy=>?_⟩
  ·exact dT (.inl (eq_of_beq y)) _
  ·have y:w≠Str.ofString "":=by intro e;rw[e,Qs] at y;cases y
   nofun;refine⟨_,rfl,?_⟩;rw[show(i==0)=decide (w=Str.ofString ""\/i=0) by rw[Rb];simp[y]]
 ·nofun;refine LF ?_;nofun
  by_cases e:w=Str.ofString ""
  ·subst e;refine⟨false,by ac_nf,λz=>(nomatch z),λ_=>?_⟩;nofun;refine rv hs ?_;nofun;unfold i9;rw[Py rfl]
  ·have z0:i=0:=z.resolve_left e;subst z0;refine⟨true,?_,λ_=>?_,λz=>(nomatch z)⟩
   ·show(if w.length<=sizeLine then some ((w.length:Int) !=0) else none)=_;rw[Py (PL lw (by decide))];have:w.length≠0:=λy=>e (len0 y);congr 1;simp only[bne_iff_ne,ne_eq];lia
   ·nofun;unfold i9;rw[PH e,Py rfl]
 ·nofun;obtain⟨v,hv,hm,hvt⟩:∃(v:Int),nW [.bl (decide (0 < i))] h=some (.int v,h)/\hW (.str (Str.ofString "+")) (.int v) h=some (.str (if 0 < i then Txt.mul (Str.ofString "+") 1 else Txt.mul (Str.ofString "+") 0),h)/\(if 0 < i then Txt.mul (Str.ofString "+") 1 else Txt.mul (Str.ofString "+") 0).length<=1:=by
   by_cases y:0 < i
   ·exact⟨1,by rw[Qb y];rfl,by rw[Py y];ac_nf,by rw[Py y];decide+kernel⟩
   ·exact⟨0,by rw[Qm y];rfl,by rw[PH y];ac_nf,by rw[PH y];decide+kernel⟩
  refine rv hv (rv hm (rv (bI (by lia)) ?_));nofun;refine rv hs (rv (bI (by rw[Qi];lia)) ?_);nofun;unfold i9;dsimp only;rw[PH (λe=>z (.inl e)),PH (λe=>z (.inr e))]
theorem iK{l:Lock}{h:MH}(hl:Ig l):bY [aG l] h=some (.str (fW l),h):=by
 obtain⟨w,t⟩:=l;obtain⟨hw,ht⟩:=hl;have a:=hw.1;have b:=(gi ht).1;have c:(Str.ofString ":").length=1:=by decide+kernel
 dsimp only at a b;refine bx ?_;show Rn (bY [.tup [.str w,bq t]] h) _;refine bF ?_;nofun;refine rv (bI (by lia)) ?_;nofun;refine rv (fI ht) (rv (bI (by rw[Qi];lia)) ?_);nofun;rfl
theorem wJ{n:Nat}:∀{xs:List Str},(∀x∈xs,x.length<=n)->(xs.map (·.length)).sum<=n*xs.length
 | [],_=>by simp
 | x::r,h=>by
  have a:=h x (.head _);have b:=wJ (n:=n) (xs:=r) λy hy=>h y (.tail _ hy);simp only[PN,Q3,PK];rw[Ub];lia
theorem nR{xs:List Str}(h:∀x∈xs,x.length<=1000)(hl:xs.length<=1000){H:MH}{d:D}{ws:List (Nat×MO)}(e:dq d H=some (xs.map D.str,ws)):oU (.str " ") [d] H=some (.str (Str.join (Str.ofString " ") xs),H):=by
 unfold oU;dsimp only;rw[e];dsimp only[Option.bind_some];rw[ny];dsimp only[Option.bind_some];have:=wJ h;have c:(Str.ofString " ").length=1:=by decide+kernel
 rw[Py (by rw[c];lia)]
theorem GC{r:Row}{h:MH}(hr:uU r):jK [ax r] h=some (.str (bL r),h):=by
 have cb:(Str.ofString " ").length=1:=by decide+kernel
 cases r with
 | either a b=>rw[ax];ac_nf
 | again a=>rw[ax];ac_nf
 | say w=>
  have a:=hr.1;refine bx (bF ?_);rw[ax];nofun;refine⟨true,by ac_nf,λ_=>?_,λz=>(nomatch z)⟩;nofun;refine rv (bI (by rw[show(Str.ofString "say ").length=4 by decide+kernel];lia)) ?_;nofun;rfl
 | call d ts=>
  have hd:=hr.1.1;have hl:=hr.2.1;have e1:b8 [none] (eG (ak aQ (ay 0) (eK (.int 2)))) (gN 0) dD (aw bt (ag (ay 0) aM)) (entry 1 [.tup [.str "call",.str d,.tup (ts.map bq)]]) h=some (ts.map λt=>.str (i9 t),h):=
   uI (t:=[]) (o:=none) bq (λt=>.str (i9 t)) (d:=.tup (ts.map bq)) rfl rfl rfl (by lia) λt ht=>fI (hr.2.2 t ht)
  refine bx (bF ?_);rw[ax];nofun;refine⟨false,by ac_nf,λz=>(nomatch z),λ_=>?_⟩;nofun;refine⟨true,by ac_nf,λ_=>?_,λz=>(nomatch z)⟩;nofun;refine jn ?_;nofun;refine⟨rfl,cA (lY (vp (rv (a:=([.str "call",.str d],h)) (by ac_nf) (vp (rv e1 ?_)))))⟩;refine rv (a:=(.lv ((Str.ofString "call"::d::ts.map i9).map D.str),h)) ?_ (i5 (rv (nR ?_ ?_ (ws:=[]) rfl) ?_))
  ·rw[PN,PN,QD];simp only[av,tq,dS,Qc,Pp,PK,Q9];rw[Py (by rw[show sizeLine=16777216 from rfl];lia)];rfl
  ·intro x hx;rcases PB.mp hx with rfl | hx
   ·decide+kernel
   ·rcases PB.mp hx with rfl | hx
    ·lia
    ·obtain⟨t,ht,rfl⟩:=Ql.mp hx;have:=(gi (hr.2.2 t ht)).1
     lia
  ·simp;lia
  ·nofun;rfl
 | all ls b=>
  have hl:=hr.1;have e1:b8 [none] (eG (ak aQ (ay 0) (eK (.int 1)))) (gN 0) dD (aw bY (ag (ay 0) aM)) (entry 1 [.tup [.str "all",.tup (ls.map aG),.tup (b9 b)]]) h=some (ls.map λt=>.str (fW t),h):=
   uI (t:=[]) (o:=none) aG (λt=>.str (fW t)) (d:=.tup (ls.map aG)) rfl rfl rfl (by lia) λt ht=>iK (hr.2.1 t ht)
  refine bx (bF ?_);rw[ax];nofun;refine⟨false,by ac_nf,λz=>(nomatch z),λ_=>?_⟩;nofun;refine⟨false,by ac_nf,λz=>(nomatch z),λ_=>?_⟩;nofun;refine⟨true,by ac_nf,λ_=>?_,λz=>(nomatch z)⟩;nofun;refine jn ?_;nofun;refine⟨rfl,cA (lY (vp (rv (a:=([.str "all"],h)) (by ac_nf) (vp (rv e1 ?_)))))⟩;refine rv (a:=(.lv ((Str.ofString "all"::ls.map fW).map D.str),h)) ?_ (i5 (rv (nR ?_ ?_ (ws:=[]) rfl) ?_))
  ·rw[PN,QD];simp only[av,tq,dS,Qc,Pp,PK,Q9];rw[Py (by rw[show sizeLine=16777216 from rfl];lia)];rfl
  ·intro x hx;rcases PB.mp hx with rfl | hx
   ·decide+kernel
   ·obtain⟨t,ht,rfl⟩:=Ql.mp hx;have:=(g0 (hr.2.1 t ht)).1
    lia
  ·simp;lia
  ·nofun;rfl
 | within l b=>
  have a:=(g0 hr).1;refine bx (bF ?_);rw[ax];nofun;refine⟨false,by ac_nf,λz=>(nomatch z),λ_=>?_⟩;nofun;refine⟨false,by ac_nf,λz=>(nomatch z),λ_=>?_⟩;nofun;refine⟨false,by ac_nf,λz=>(nomatch z),λ_=>?_⟩;nofun;refine rv (a:=(.bl true,h)) (by ac_nf) ?_;nofun;refine⟨true,rfl,λ_=>?_,λz=>(nomatch z)⟩;nofun;refine rv (bI (by decide+kernel)) ?_;nofun;refine rv (iK hr) (rv (bI (by rw[Qi,cb,show(Str.ofString "within").length=6 by decide+kernel];lia)) ?_);nofun;rfl
 | ask l b e=>
  have a:=(g0 hr).1;refine bx (bF ?_);rw[ax];nofun;refine⟨false,by ac_nf,λz=>(nomatch z),λ_=>?_⟩;nofun;refine⟨false,by ac_nf,λz=>(nomatch z),λ_=>?_⟩;nofun;refine⟨false,by ac_nf,λz=>(nomatch z),λ_=>?_⟩;nofun;refine rv (a:=(.bl true,h)) (by ac_nf) ?_;nofun;refine⟨true,rfl,λ_=>?_,λz=>(nomatch z)⟩;nofun;refine rv (bI (by decide+kernel)) ?_;nofun;refine rv (iK hr) (rv (bI (by rw[Qi,cb,show(Str.ofString "ask").length=3 by decide+kernel];lia)) ?_);nofun;rfl
 | mQ s t a b c=>
  have l1:=(gi hr.1).1;have l2:=(gi hr.2).1;have l3:(Str.ofString "by ").length=3:=by decide+kernel
  refine bx (bF ?_);rw[ax];nofun;refine⟨false,by ac_nf,λz=>(nomatch z),λ_=>?_⟩;nofun;refine⟨false,by ac_nf,λz=>(nomatch z),λ_=>?_⟩;nofun;refine⟨false,by ac_nf,λz=>(nomatch z),λ_=>?_⟩;nofun;refine rv (a:=(.bl false,h)) (by ac_nf) ?_;nofun;refine⟨false,rfl,λz=>(nomatch z),λ_=>?_⟩;nofun;refine⟨true,by ac_nf,λ_=>?_,λz=>(nomatch z)⟩;nofun;refine rv (fI hr.1) (rv (bI (by lia)) ?_);nofun;refine rv (bI (by rw[Qi,cb];lia)) ?_;nofun;refine rv (fI hr.2) (rv (bI (by rw[Qi,Qi,cb];lia)) ?_);nofun;rfl
end Mi
namespace Pg
open PySem Sm L2
abbrev Ln:=Int×Str
noncomputable def oY(x:Ln):D:=.tup [.int x.1,.str x.2]
noncomputable def zU(n:Nat):Ln:=((n:Int),Str.ofString "or")
noncomputable def jB(n:Nat):Ln:=((n:Int),Str.ofString "end")
noncomputable def ck(g:Nat->List Row->List Ln)(n:Nat):Nat->Nat->List (List Row)->List Ln
 | _,_,[]=>[]
 | j,k,a::r=>(if j=0 then[] else[zU n])++g k a++ck g n (j+1) (k+ao a) r
noncomputable def fG(g:Nat->List Row->List Ln)(k:Nat)(r:Row):List Ln:=((k:Int),bL r)::(ck g k 0 (k+1) (ai r)++(if ai r=[] then[] else[jB k]))
noncomputable def cL(g:Nat->List Row->List Ln):Nat->List Row->List Ln
 | _,[]=>[]
 | k,r::rs=>fG g k r++cL g (k+cnt r) rs
noncomputable def jw:Nat->Nat->List Row->List Ln
 | 0=>λ_ _=>[]
 | f+1=>cL (jw f)
def yr:Nat->List Row->Prop
 | 0,_=>True
 | f+1,l=>∀r∈l,uU r/\∀t∈ai r,yr f t
theorem rA(g:Nat->List Row->List Ln)(n:Nat)(a:List Row):∀(j k:Nat)(x:List (List Row)),ck g n j k (x++[a])=ck g n j k x++((if j+x.length=0 then[] else[zU n])++g (k+(x.map ao).sum) a)
 | j,k,[]=>by simp[ck]
 | j,k,y::x=>by
  rw[Qv,ck,ck,rA g n a (j+1) (k+ao y) x];simp only[Qg,PK,PN,Q3];rw[show j+1+x.length=j+(x.length+1) by lia,show k+ao y+(x.map ao).sum=k+(ao y+(x.map ao).sum) by lia]
theorem rq(g:Nat->List Row->List Ln)(r:Row):∀(k:Nat)(x:List Row),cL g k (x++[r])=cL g k x++fG g (k+ao x) r
 | k,[]=>by simp[cL,ao]
 | k,y::x=>by
  rw[Qv,cL,cL,rq g r (k+cnt y) x,Qg];rw[show ao (y::x)=cnt y+ao x by simp[ao],QK]
theorem uu{l:List Row}{i:Nat}{r:Row}(e:l[i]?=some r):ao (l.take (i+1))=ao (l.take i)+cnt r/\l.take (i+1)=l.take i++[r]:=by
 have h:l.take (i+1)=l.take i++[r]:=by rw[Sf,e];rfl
 exact⟨by rw[h,mO];simp[ao],h⟩
theorem mM(l:List Row)(i:Nat):ao (l.take i)<=ao l:=by
 have:=mO (l.take i) (l.drop i);rw[QP] at this
 lia
end Pg
namespace Mi
open PySem Sm L2 Pg
noncomputable def zl:Row->Int
 | .say _=>2
 | .call _ _=>3
 | .within _ _=>2
 | .all _ _=>2
 | .ask _ _ _=>2
 | .mQ _ _ _ _ _=>3
 | .either _ _=>1
 | .again _=>1
theorem rK(r:Row)(h:MH):Jz (.dv [(.inr (Str.ofString "say"),.int 2),(.inr (Str.ofString "call"),.int 3),(.inr (Str.ofString "by"),.int 3),(.inr (Str.ofString "either"),.int 1),(.inr (Str.ofString "again"),.int 1)]) [.str (bP r),.int 2] h=some (.int (zl r),h)/\gg (ax r) (some (zl r)) none h=some (.tup ((ai r).map aZ),h):=by
 cases r <;> (rw[ax];exact⟨by ac_nf,by ac_nf⟩)
theorem tJ(r:Row)(h:MH):aQ (ax r) (.int 0) h=some (.str (bP r),h):=by
 cases r <;> (rw[ax];rfl)
theorem zH{x:D}{b:Bool}{h:MH}:∃v:Int,nW [.bl b] h=some (.int v,h)/\tj (.lv [x]) (.int v) h=some (.lv (if b then[x] else[]),h):=by
 cases b
 ·exact⟨0,rfl,rfl⟩
 ·exact⟨1,rfl,rfl⟩
theorem FC{h g:MH}{n:Nat}{o:MO}(hn:h.length<=n):(h++g).set n o=h++g.set (n-h.length) o:=RP _ _ hn
theorem get_set{h:MH}{n:Nat}{o o':MO}(e:h[n]?=some o'):(h.set n o)[n]?=some o:=Qf (Pq.mp e).1
theorem mz{h:MH}{n:Nat}{xs:List D}(e:h[n]?=some (.lst xs)):dS (.ob n) h=some xs:=by unfold dS;dsimp only;rw[e]
theorem DV(r:Row):(ai r).length<=3:=by cases r <;> simp[ai]
theorem iL{g:Nat->List Row->List Ln}(hg:∀k a,(g k a).length<=5*ao a)(n:Nat):∀(j k:Nat)(x:List (List Row)),(ck g n j k x).length<=5*(x.map ao).sum+x.length
 | _,_,[]=>by simp[ck]
 | j,k,a::r=>by
  have h1:=hg k a;have h2:=iL hg n (j+1) (k+ao a) r;rw[ck,PF,PF,PN,Q3,PK];have h3:(if j=0 then([]:List Ln) else[zU n]).length<=1:=by split <;> simp
  lia
theorem Br{g:Nat->List Row->List Ln}(hg:∀k a,(g k a).length<=5*ao a)(k:Nat)(r:Row):(fG g k r).length<=5*cnt r:=by
 have h2:=iL hg k 0 (k+1) (ai r);have h4:=DV r;have h3:(if ai r=[] then([]:List Ln) else[jB k]).length<=1:=by split <;> simp
 rw[fG,PK,PF,fY]
 lia
theorem kY{g:Nat->List Row->List Ln}(hg:∀k a,(g k a).length<=5*ao a):∀(k:Nat)(l:List Row),(cL g k l).length<=5*ao l
 | _,[]=>by simp[cL]
 | k,r::rs=>by
  have h1:=Br hg k r;have h2:=kY hg (k+cnt r) rs;rw[cL,PF,show ao (r::rs)=cnt r+ao rs by simp[ao]]
  lia
theorem iM:∀(f k:Nat)(l:List Row),(jw f k l).length<=5*ao l
 | 0,_,_=>by simp[jw]
 | f+1,k,l=>kY (iM f) k l
theorem t8:∀(f:Nat)(l:List Row)(k:Nat)(h:MH),bh l<=f->yr f l->k+ao l<=1000->Rn (bX f [.tup (b9 l),.int (k:Int)] h) λp=>∃(n:Nat)(g:MH),p=(.tup [.ob n,.int ((k+ao l:Nat):Int)],h++g)/\(h++g)[n]?=some (.lst ((jw f k l).map oY))
 | 0,l,k,h,hn,_,_=>by
  exfalso;cases l with
  | nil=>rw[bh] at hn;lia
  | cons r rs=>rw[bh] at hn;lia
 | f+1,l,k,h,hn,hs,hk=>by
  unfold bX;refine bF ?_;nofun;refine⟨_,_,rfl,?_⟩;nofun;refine fv ?_;nofun;refine⟨_,_,rfl,?_⟩;rw[aY];refine cQ (λi δ h'=>∃(n:Nat)(g:MH)(o4 o5 o6 o7 o8 o9 o10:Option D),δ=[some (.tup (l.map ax)),some (.int (k:Int)),some (.ob n),some (.int ((k+ao (l.take i):Nat):Int)),o4,o5,o6,o7,o8,o9,o10]/\h'=h++g/\h.length<=n/\(h++g)[n]?=some (.lst ((cL (jw f) k (l.take i)).map oY)))
   ⟨h.length,[.lst []],_,_,_,_,_,_,_,rfl,rfl,Pw _,by simp[cL]⟩ (λ_ _ _ _ _=>rfl) ?_ ?_
  ·rintro i x δ h' hx ⟨n,g,o4,o5,o6,o7,o8,o9,o10,rfl,rfl,hnl,hat⟩;rw[PR] at hx;obtain⟨r,er,rfl⟩:=P5.mp hx;obtain⟨hsr,hsl⟩:=hs r (Pr er);obtain⟨hc1,ht1⟩:=uu er;have hcl:=mM l (i+1);have hcr:=fY r;have hnr:=jS (Pr er);generalize hK:k+ao (l.take i)=K at*;generalize hX:(cL (jw f) k (l.take i))=X at*;have hXl:X.length<=5000:=by have:=kY (iM f) k (l.take i);rw[hX] at this;lia
   nofun;refine jn ?_;nofun;refine⟨dw hat,?_⟩;nofun;refine rv (GC hsr) ?_;nofun;refine rv (dH hat (by rw[Pp,show sizeLine=16777216 from rfl];lia)) ?_;have hat1:=get_set (o:=.lst (X.map oY++[.tup [.int (K:Int),.str (bL r)]])) hat;rw[FC hnl] at hat1 ⊢;generalize g.set (n-h.length) _=g1 at hat1 ⊢;nofun;refine jn (rv (a:=(.dv [(.inr (Str.ofString "say"),.int 2),(.inr (Str.ofString "call"),.int 3),(.inr (Str.ofString "by"),.int 3),(.inr (Str.ofString "either"),.int 1),(.inr (Str.ofString "again"),.int 1)],h++g1)) (by ac_nf) ⟨rfl,?_⟩);nofun;refine rv (tJ r _) ?_;nofun;refine rv (rK r _).1 ?_;nofun;refine⟨_,rfl,?_⟩;nofun;refine rv (rK r _).2 ?_;nofun;refine lZ ?_;nofun;refine⟨_,_,_,rfl,rfl,?_⟩;refine cQ (λj δ h'=>∃(n':Nat)(g':MH)(o8 o9 o10:Option D),δ=[some (.tup (l.map ax)),some (.int (k:Int)),some (.ob n'),some (.int ((K+1+(((ai r).take j).map ao).sum:Nat):Int)),some (ax r),some (.int (K:Int)),some (.int (zl r)),some (.tup ((ai r).map aZ)),o8,o9,o10]/\h'=h++g'/\h.length<=n'/\(h++g')[n']?=some (.lst ((X++((K:Int),bL r)::ck (jw f) K 0 (K+1) ((ai r).take j)).map oY)))
    ⟨n,g1,_,_,_,rfl,rfl,hnl,by rw[hat1,P4];rfl⟩ (λ_ _ _ _ _=>rfl) ?_ ?_
   ·rintro j y δ h' hy ⟨n',g',o8,o9,o10,rfl,rfl,hnl',hat'⟩;obtain⟨t,et,rfl⟩:=mK hy;have htm:=Pr et;have hj:j < 3:=by have:=DV r;have:=(Pq.mp et).1;lia
    have hst:(((ai r).take (j+1)).map ao).sum=(((ai r).take j).map ao).sum+ao t/\(ai r).take (j+1)=(ai r).take j++[t]:=by
     have e:(ai r).take (j+1)=(ai r).take j++[t]:=by rw[Sf,et];rfl
     exact⟨by rw[e];simp,e⟩
    have hsle:(((ai r).take (j+1)).map ao).sum<=((ai r).map ao).sum:=by
     have:=congrArg (λz=>(z.map ao).sum) (QP (j+1) (ai r));simp only[P4,Sv] at this
     lia
    have hlen:=iL (iM f) K 0 (K+1) ((ai r).take j);have hlt:((ai r).take j).length<=3:=by rw[PY];lia
    have hln:=iM f (K+1+(((ai r).take j).map ao).sum) t;generalize hY:ck (jw f) K 0 (K+1) ((ai r).take j)=Y at*;nofun;obtain⟨v,hv,hrep⟩:=zH (x:=.tup [.int (K:Int),.str (Str.ofString "or")]) (b:=decide (0 < (j:Int))) (h:=h++g');refine vv ?_;nofun;refine rv hv (rv hrep ⟨_,_,mz hat',rfl,?_,?_⟩)
    ·rw[Pp,PF,PK,show sizeLine=16777216 from rfl]
     split <;> simp <;> lia
    have e1:(if decide (0 < (j:Int))=true then[D.tup [.int (K:Int),.str (Str.ofString "or")]] else[])=(if j=0 then([]:List Ln) else[zU K]).map oY:=by
     by_cases z:j=0
     ·subst z;rfl
     ·rw[Py (Qb (by lia)),PH z];rfl
    rw[e1,<-P4];have hO:(if j=0 then([]:List Ln) else[zU K]).length<=1:=by split <;> simp
    generalize hOO:(if j=0 then([]:List Ln) else[zU K])=O at*;generalize hZ:(X++((K:Int),bL r)::Y)++O=Z at*;have hZl:Z.length<=20000:=by rw[<-hZ,PF,PF,PK];lia
    nofun;obtain⟨_,e2,n2,g2,rfl,hat2⟩:=t8 f t (K+1+(((ai r).take j).map ao).sum) ((h++g')++[.lst (Z.map oY)]) (by have:=jR htm;lia) (hsl t htm) (by lia);refine rv e2 ?_;have hat3:((h++g')++[.lst (Z.map oY)]++g2)[(h++g').length]?=some (.lst (Z.map oY)):=by
     rw[PJ (by simp)];simp
    nofun;refine vv ?_;nofun;refine⟨_,_,mz hat3,mz hat2,?_,?_⟩
    ·rw[Pp,Pp,show sizeLine=16777216 from rfl];lia
    rw[hst.1,<-QK (K+1)];refine⟨_,g'++[.lst (Z.map oY)]++g2++[.lst (Z.map oY++(jw f (K+1+(((ai r).take j).map ao).sum) t).map oY)],_,_,_,rfl,?_,?_,?_⟩
    ·show h++g'++_++g2++_=_;simp only[Qg]
    ·show h.length<=(h++g'++_++g2).length;simp only[PF];lia
    rw[hst.2,rA,hY,QT,PY,Q8 (by have:=(Pq.mp et).1;lia),hOO];rw[show X++((K:Int),bL r)::(Y++(O++jw f (K+1+(((ai r).take j).map ao).sum) t))=Z++jw f (K+1+(((ai r).take j).map ao).sum) t by rw[<-hZ];simp];rw[P4];simp
   ·rintro δ h' ⟨n',g',o8,o9,o10,rfl,rfl,hnl',hat'⟩;rw[cD,Pp,QG] at hat' ⊢;have hlen:=iL (iM f) K 0 (K+1) (ai r);have h3:=DV r;generalize hY:ck (jw f) K 0 (K+1) (ai r)=Y at*;nofun;obtain⟨v,hv,hrep⟩:=zH (x:=.tup [.int (K:Int),.str (Str.ofString "end")]) (b:=decide (0 < ((ai r).length:Int))) (h:=h++g');refine vv ?_;nofun;rw[Pp];refine rv hv (rv hrep ⟨_,_,mz hat',rfl,?_,?_⟩)
    ·rw[Pp,PF,PK,show sizeLine=16777216 from rfl]
     split <;> simp <;> lia
    have e1:(if decide (0 < ((ai r).length:Int))=true then[D.tup [.int (K:Int),.str (Str.ofString "end")]] else[])=(if ai r=[] then([]:List Ln) else[jB K]).map oY:=by
     cases ai r with
     | nil=>rfl
     | cons y q=>rw[Py (Qb (by simp)),PH (by simp)];rfl
    rw[e1,<-P4];nofun;rw[show k+ao (l.take (i+1))=K+1+((ai r).map ao).sum by lia];refine⟨_,g'++[_],_,_,_,_,_,_,_,rfl,Qg _ _ _,?_,?_⟩
    ·show h.length<=(h++g').length;simp only[PF];lia
    ·rw[ht1,rq,hX,hK,fG,hY,<-Qg h g'];simp
  ·rintro δ h' ⟨n,g,o4,o5,o6,o7,o8,o9,o10,rfl,rfl,hnl,hat⟩;nofun;rw[Pp,QG] at hat ⊢;exact⟨n,g,rfl,hat⟩
end Mi
namespace Pg
open PySem Sm L2
noncomputable def bT(d:dP):Str:=Str.join (Str.ofString " ") (Str.ofString "deed"::d.1::d.2.1)
noncomputable def ja(x:Str):Ln:=(-1,x)
noncomputable def bz(f:Nat):Nat->List dP->List Ln
 | _,[]=>[]
 | k,d::ds=>ja (bT d)::(jw f k d.2.2++(ja (Str.ofString "end")::bz f (k+ao d.2.2) ds))
noncomputable def DY(P:Prog):List Ln:=ja (Str.join (Str.ofString " ") (Str.ofString "locks"::P.names))::bz 8 0 P.aj
structure OA(P:Prog):Prop where
 fit:AF P
 dl:P.aj.length<=6
 nl:P.names.length<=6
 nm:∀x∈P.names,Sh 8 x
 dd:∀d∈P.aj,Sh 8 d.1/\d.2.1.length<=3/\(∀x∈d.2.1,Sh 8 x)/\yr 8 d.2.2
 ct:(P.aj.map λd=>ao d.2.2).sum<=900
noncomputable def cH(ds:List dP):Nat:=(ds.map λd=>ao d.2.2).sum
theorem oX(f:Nat)(d:dP):∀(k:Nat)(x:List dP),bz f k (x++[d])=bz f k x++(ja (bT d)::(jw f (k+cH x) d.2.2++[ja (Str.ofString "end")]))
 | k,[]=>by simp[bz,cH]
 | k,y::x=>by
  rw[Qv,bz,bz,oX f d (k+ao y.2.2) x];simp[cH,QK]
theorem zc{d:dP}(h:Sh 8 d.1)(hl:d.2.1.length<=3)(hp:∀x∈d.2.1,Sh 8 x):Sh 100 (bT d):=by
 refine(Sh.join (n:=8) ig λx hx=>?_).up (by simp only[PK];lia);rcases PB.mp hx with rfl | hx
 ·exact⟨by decide+kernel,by decide+kernel⟩
 ·rcases PB.mp hx with rfl | hx
  ·exact h
  ·exact hp x hx
theorem gx(f:Nat):∀(k:Nat)(x:List dP),(bz f k x).length<=5*cH x+2*x.length
 | k,[]=>by simp[bz]
 | k,y::x=>by
  have h1:=Mi.iM f k y.2.2;have h2:=gx f (k+ao y.2.2) x;rw[bz,PK,PF,PK,PK];simp only[cH,PN,Q3] at h2 ⊢
  lia
end Pg
namespace Mi
open PySem Sm L2 Pg
theorem nP{H g:MH}{d:D}(h1:∀n,d≠.ob n)(h2:gJ H.length d=true):leave H d (H++g)=some (d,H):=by
 have h3:yl H.length (H++g) d=d:=by
  cases d with
  | ob n=>exact absurd rfl (h1 n)
  | _=>rfl
 unfold leave;rw[h3,Rj (Pw _),QG,h2,uE];rfl
theorem Hv(n:Nat):∀xs:List Ln,fk n (xs.map oY)=true
 | []=>rfl
 | x::r=>by rw[PN];show(true&&true&&fk n _)=true;rw[Hv n r];rfl
theorem rQ{xs ys:List D}{d:D}{h:MH}(e:dS d h=some ys)(hl:xs.length+ys.length<=1000000):av (.lv xs) d h=some (.lv (xs++ys),h):=by
 unfold av tq;cases d <;> first |(cases e;done) | skip
 all_goals
  simp only[dS,Qc] at e ⊢
  first
   |(rw[e];dsimp only[Option.bind_some];rw[Py (by rw[show sizeLine=16777216 from rfl];lia)])
   |(cases e;rw[Py (by rw[show sizeLine=16777216 from rfl];lia)])
theorem DZ{P:Prog}(hP:OA P)(h:MH):iW [aV P] h=some (.lv ((DY P).map oY),h):=by
 have dl:=hP.dl;have nl:=hP.nl;have ct:=hP.ct;have hj:∀(x:Str)(ys:List Str)(H:MH),x.length<=8->ys.length<=6->(∀y∈ys,Sh 8 y)->oU (.str " ") [.tup ((x::ys).map D.str)] H=some (.str (Str.join (Str.ofString " ") (x::ys)),H):=λx ys H hx hl hy=>by
  refine nR (ws:=[]) (λz hz=>?_) (by simp;lia) rfl;rcases PB.mp hz with rfl | hz
  ·lia
  ·have:=(hy z hz).1;lia
 refine bx (oE ?_);nofun;refine jn ?_;nofun;refine⟨rfl,?_⟩;nofun;refine rv (a:=(.tup (P.names.map D.str),h)) rfl ?_;refine rv (rO (by simp;lia)) ?_;nofun;refine rv (hj (Str.ofString "locks") P.names h (by decide+kernel) nl hP.nm) ?_;nofun;refine⟨_,_,rfl,?_⟩;nofun;refine fv ?_;nofun;refine rv (a:=(.tup (P.aj.map eB),h)) rfl ?_;refine⟨_,_,rfl,?_⟩;refine cQ (λi δ h'=>∃(g:MH)(o3 o4 o5 o6:Option D),δ=[some (aV P),some (.lv ((ja (Str.join (Str.ofString " ") (Str.ofString "locks"::P.names))::bz 8 0 (P.aj.take i)).map oY)),some (.int ((cH (P.aj.take i):Nat):Int)),o3,o4,o5,o6]/\h'=h++g)
  ⟨[],_,_,_,_,rfl,by simp⟩ (λ_ _ _ _ _=>rfl) ?_ ?_
 ·rintro i x δ h' hx ⟨g,o3,o4,o5,o6,rfl,rfl⟩;rw[PR] at hx;obtain⟨d,ed,rfl⟩:=P5.mp hx;obtain⟨s1,s2,s3,s4⟩:=hP.dd d (Pr ed);have nd:=hP.fit.nd d (Pr ed);have htk:P.aj.take (i+1)=P.aj.take i++[d]:=by rw[Sf,ed];rfl
  have hc1:cH (P.aj.take (i+1))=cH (P.aj.take i)+ao d.2.2:=by rw[htk];simp[cH]
  have hcl:cH (P.aj.take (i+1))<=900:=by
   have:=congrArg cH (QP (i+1) P.aj);simp only[cH,P4,Sv] at this ⊢
   lia
  have hlen:=gx 8 0 (P.aj.take i);have hli:=iM 8 (cH (P.aj.take i)) d.2.2;have htl:(P.aj.take i).length<=6:=by rw[PY];lia
  generalize hL:ja (Str.join (Str.ofString " ") (Str.ofString "locks"::P.names))::bz 8 0 (P.aj.take i)=L;have hLl:L.length<=6000:=by rw[<-hL,PK];lia
  generalize hK:cH (P.aj.take i)=K at*;obtain⟨nm,ps,rows⟩:=d;dsimp only at s1 s2 s3 s4 nd hc1 hli;show Rn (gT 3 _ (.tup [.str nm,.tup (ps.map D.str),.tup (b9 rows)]) _ _) _;nofun;obtain⟨_,e2,n2,g2,rfl,hat2⟩:=t8 8 rows K (h++g) (by lia) s4 (by lia);refine rv e2 ?_;nofun;refine jn ?_;nofun;refine⟨rfl,?_⟩;nofun;refine rv (rO (by simp;lia)) ?_;nofun;refine rv (hj (Str.ofString "deed") (nm::ps) _ (by decide+kernel) (by simp;lia) (by intro y hy;rcases PB.mp hy with rfl | hy;exact s1;exact s3 y hy)) ?_;nofun;refine rv (rQ (ys:=[oY (ja (bT (nm,ps,rows)))]) rfl (by simp;lia)) ?_;nofun;refine rv (rQ (mz hat2) (by simp;lia)) ?_;nofun;refine rv (rQ (ys:=[oY (ja (Str.ofString "end"))]) rfl (by simp;lia)) ?_;nofun;rw[hc1,show ja (Str.join (Str.ofString " ") (Str.ofString "locks"::P.names))::bz 8 0 (P.aj.take (i+1))=L++[ja (bT (nm,ps,rows))]++jw 8 K rows++[ja (Str.ofString "end")] by rw[htk,oX,<-hL,QT,hK];simp];rw[P4,P4,P4];exact⟨g++g2,_,_,_,_,rfl,Qg _ _ _⟩
 ·rintro δ h' ⟨g,o3,o4,o5,o6,rfl,rfl⟩;nofun;rw[Pp,QG];exact rv (nP (λn z=>(nomatch z)) (Hv _ _)) rfl
end Mi
namespace Pg
open PySem Sm L2
noncomputable def i6(w:Str):Bool:=!((Str.ofString "say"==w)||(Str.ofString "call"==w))
noncomputable def ku(x:Str):Bool:=match Txt.split x (Str.ofString " ") with
 | w::_=>i6 w
 | []=>true
noncomputable def runM:Nat->Nat->List Ln->Option (Nat×Nat)
 | d,n,[]=>some (d,n)
 | d,n,x::r=>if x.2=Str.ofString "or" then(if d=0 then none else runM d n r) else if x.2=Str.ofString "end" then(if d=0 then none else runM (d-1) n r) else runM (if ku x.2 then d+1 else d) (if d=0 then n else n+1) r
theorem cz:∀(a b:List Ln)(d n:Nat),runM d n (a++b)=(runM d n a).bind λp=>runM p.1 p.2 b
 | [],b,d,n=>rfl
 | x::a,b,d,n=>by
  rw[Qv,runM,runM]
  split
  ·split
   ·rfl
   ·exact cz a b d n
  ·split
   ·split
    ·rfl
    ·exact cz a b (d-1) n
   ·exact cz a b _ _
theorem pV:∀(a:List Ln)(d n d' n':Nat),runM d n a=some (d',n')->d'<=d+a.length/\n'<=n+a.length
 | [],d,n,d',n',e=>by cases e;exact⟨Pw _,Pw _⟩
 | x::a,d,n,d',n',e=>by
  rw[runM] at e;rw[PK]
  split at e
  ·split at e
   ·cases e
   ·have:=pV a _ _ _ _ e;lia
  ·split at e
   ·split at e
    ·cases e
    ·have:=pV a _ _ _ _ e;lia
   ·have:=pV a _ _ _ _ e
    split at this <;> split at this <;> lia
end Pg
namespace Mi
open PySem Sm L2 Pg
theorem Ct(L:List Ln)(hl:L.length<=100000)(h:MH):iV [.lv (L.map oY)] h=some (.lv (L.map λx=>.str x.2),h):=by
 have e1:b8 [none,none] (eG (ay 0)) g2 dD (ay 1) (entry 1 [.lv (L.map oY)]) h=some (L.map λx=>.str x.2,h):=
  BX (o:=none) (o2:=none) (t:=[]) (λx:Ln=>.int x.1) (λx=>.str x.2) (λx=>.str x.2) (d:=.lv (L.map oY)) rfl rfl rfl hl λx _=>rfl
 exact bx (bF (xc (vp (rv e1 rfl))))
theorem vP{n:Nat}(hn:0 < n):sZ n (-1)=some (n-1):=by
 unfold sZ;rw[PH (by decide),Py (by lia)];congr 1
 lia
theorem AA{cs:List Int}(hn:0 < cs.length):∃z,gK (cs.map D.int) (-1)=some (.int z):=by
 unfold gK;rw[Pp,vP hn];exact⟨cs[cs.length-1]'(by lia),by simp only[Qc,PR];rw[PV (by lia)];rfl⟩
theorem HZ{a:D}{xs:List D}{h:MH}:gg (.lv (a::xs)) (some 1) none h=some (.lv xs,h):=by
 show some (D.lv (cutD (a::xs) (some ((1:Nat):Int)) none),h)=_;unfold cutD;rw[HT.jk,HT.lP,Q8 (by simp)];simp
theorem Bj(w:Str)(h:MH):iO (.str w) (.tup [.str "say",.str "call"]) h=some (.bl (i6 w),h):=by
 have h1:∀x:Str,PyData.eqv (.str x) (.str w)=(x==w):=λx=>by simp[PyData.eqv]
 show some (D.bl (!(([PyData.str (Str.ofString "say"),PyData.str (Str.ofString "call")]).any λb=>PyData.eqv b (.str w))),h)=_;simp only[Rt,List.any_nil,h1,Bool.or_false];rfl
theorem Lu{cs:List Int}{p:Nat}{z:Int}:(cs.map D.int).set p (.int z)=(cs.set p z).map D.int:=by rw[List.map_set]
theorem yT(x0:Ln)(L:List Ln)(hl:L.length<=10000)(hs:∀x∈L,Sh 1000 x.2)(d n:Nat)(hr:runM 0 0 L=some (d,n))(h:MH):∃m dp:Int,eF [.lv ((x0::L).map λx=>.str x.2)] h=some (.tup [.int m,.int dp,.int (n:Int)],h):=by
 have e:Rn (eF [.lv ((x0::L).map λx=>.str x.2)] h) λp=>∃m dp:Int,p=(.tup [.int m,.int dp,.int (n:Int)],h):=by
  refine oE ?_;nofun;refine fv ?_;nofun;refine⟨_,rfl,?_⟩;nofun;refine rv HZ ⟨_,_,rfl,?_⟩;refine cQ (λi δ h'=>∃(cs:List Int)(m dp:Int)(n':Nat)(o5 o6:Option D),δ=[some (.lv ((x0::L).map λx=>.str x.2)),some (.ob h.length),some (.int m),some (.int dp),some (.int (n':Int)),o5,o6]/\h'=h++[.lst (cs.map D.int)]/\runM 0 0 (L.take i)=some (cs.length,n'))
   ⟨[],0,0,0,_,_,rfl,rfl,rfl⟩ (λ_ _ _ _ _=>rfl) ?_ ?_
  ·rintro i x δ h' hx ⟨cs,m,dp,n',o5,o6,rfl,rfl,hrun⟩;rw[PR] at hx;obtain⟨y,ey,rfl⟩:=P5.mp hx;have hy:=hs y (Pr ey);have hi:i < L.length:=(Pq.mp ey).1;have htk:L.take (i+1)=L.take i++[y]:=by rw[Sf,ey];rfl
   have hle:=pV _ _ _ _ _ hrun;rw[PY] at hle;have hstep:∃p,runM cs.length n' [y]=some p/\runM 0 0 (L.take (i+1))=some p:=by
    have h1:runM 0 0 (L.take (i+1))=runM cs.length n' [y]:=by rw[htk,cz,hrun];rfl
    have h2:=cz (L.take (i+1)) (L.drop (i+1)) 0 0;rw[QP,hr] at h2;cases h3:runM 0 0 (L.take (i+1)) with
    | none=>rw[h3] at h2;cases h2
    | some p=>exact⟨p,by rw[<-h1,h3],rfl⟩
   obtain⟨p,hp,hp'⟩:=hstep;obtain⟨w,q,hsp⟩:∃w q,Txt.split y.2 (Str.ofString " ")=w::q:=by
    have:=T9 y.2 (Str.ofString " ");cases hh:Txt.split y.2 (Str.ofString " ") with
    | nil=>rw[hh] at this;simp at this
    | cons w q=>exact⟨w,q,rfl⟩
   have hop:ku y.2=i6 w:=by unfold ku;rw[hsp]
   rw[runM,runM] at hp;have hat:=lh (H:=h) (a:=.lst (cs.map D.int)) rfl;nofun;refine jn ?_;nofun;refine⟨rfl,?_⟩;nofun;refine rv (qw hy) ?_;rw[hsp];nofun;refine rv (show aQ (.lv ((w::q).map D.str)) (.int ((0:Nat):Int)) _=_ from bR (x:=w) rfl) ?_;nofun;refine⟨_,rfl,λz=>?_,λz=>?_⟩
   ·have z:=eq_of_beq z;rw[Py z] at hp;have hc:0 < cs.length:=by
     by_cases c:cs.length=0
     ·rw[Py c] at hp;cases hp
     ·lia
    rw[PH (by lia)] at hp;cases hp;nofun;refine rv (mH hat (by rw[Pp];exact vP hc)) ?_;rw[yt rfl,Lu];nofun;exact⟨_,m,dp,n',_,_,rfl,rfl,by rw[hp',QE]⟩
   ·have z0:y.2≠Str.ofString "or":=by intro e;rw[e,Qs] at z;cases z
    rw[PH z0] at hp;nofun;refine⟨_,rfl,λz=>?_,λz=>?_⟩
    ·have z:=eq_of_beq z;rw[Py z] at hp;have hc:0 < cs.length:=by
      by_cases c:cs.length=0
      ·rw[Py c] at hp;cases hp
      ·lia
     rw[PH (by lia)] at hp;cases hp;nofun;refine jn ?_;nofun;refine⟨dw hat,?_⟩;nofun;refine rv (a:=(.int (cs[cs.length-1]'(by lia)),h++[.lst (cs.dropLast.map D.int)])) ?_ ?_
     ·unfold Gn;dsimp only;rw[hat];dsimp only;rw[Pp,PR,PV (by lia)];simp only[Qk];rw[yt rfl,List.map_dropLast]
     ·nofun;exact⟨_,m,dp,n',_,_,rfl,rfl,by rw[hp',Up]⟩
    ·have z1:y.2≠Str.ofString "end":=by intro e;rw[e,Qs] at z;cases z
     rw[PH z1,hop] at hp;cases hp;refine fE (Rn.imp (Q:=λr=>∃(cs':List Int)(m':Int),r=(Fl.nx,[some (.lv ((x0::L).map λx=>.str x.2)),some (.ob h.length),some (.int m'),some (.int dp),some (.int ((if cs.length=0 then n' else n'+1:Nat):Int)),some (.str y.2),some (.str w)],h++[.lst (cs'.map D.int)])/\cs'.length=cs.length) ?_ ?_)
     ·nofun;refine rv (uf hat) ⟨_,rfl,λz=>?_,λz=>?_⟩
      ·have hc:0 < cs.length:=by cases cs with | nil=>cases z | cons _ _=>simp
       obtain⟨v,hv⟩:=AA hc;nofun;refine rv (gI hat hv) ?_;nofun;refine rv (mH hat (by rw[Pp];exact vP hc)) ?_;rw[yt rfl,Lu];have hc2:0 < (cs.set (cs.length-1) (v+1)).length:=by rw[QE];exact hc
       obtain⟨v2,hv2⟩:=AA hc2;have hat2:=lh (H:=h) (a:=.lst ((cs.set (cs.length-1) (v+1)).map D.int)) rfl;nofun;refine rv (gI hat2 hv2) ?_;nofun;refine rv (iP _ _ _) ?_;nofun;refine⟨_,_,rfl,?_⟩;rw[PH (by lia)];exact⟨_,_,rfl,QE⟩
      ·have hc:cs=[]:=by cases cs with | nil=>rfl | cons _ _=>cases z
       subst hc;nofun;exact⟨[],m,rfl,rfl⟩
     ·rintro _ ⟨cs',m',rfl,hl'⟩;have hat':=lh (H:=h) (a:=.lst (cs'.map D.int)) rfl;show Rn _ _;nofun;refine rv (Bj w _) ?_;nofun;refine⟨_,rfl,λz=>?_,λz=>?_⟩
      ·rw[Py z] at hp';nofun;refine jn ?_;nofun;refine⟨dw hat',?_⟩;nofun;refine rv (dH hat' (by rw[Pp,show sizeLine=16777216 from rfl];lia)) ?_;rw[yt rfl];have hat3:=lh (H:=h) (a:=.lst (cs'.map D.int++[D.int 0])) rfl;nofun;refine rv (vU hat3) ?_;nofun;refine rv (iP _ _ _) ?_;exact⟨cs'++[0],m',_,_,_,_,rfl,by rw[P4];rfl,by rw[hp',PF,hl'];rfl⟩
      ·rw[PH (by rw[z];simp)] at hp';nofun;exact⟨cs',m',dp,_,_,_,rfl,rfl,by rw[hp',hl']⟩
  ·rintro δ h' ⟨cs,m,dp,n',o5,o6,rfl,rfl,hrun⟩;rw[Pp,QG,hr] at hrun;cases hrun;nofun;exact rv (nP (λn z=>(nomatch z)) rfl) ⟨m,dp,rfl⟩
 obtain⟨p,e1,m,dp,rfl⟩:=e;exact⟨m,dp,e1⟩
end Mi
namespace Pg
open PySem Sm L2
noncomputable def Ea(x:Ln):Bool:=decide (0<=x.1)&&!((Str.ofString "or"==x.2)||(Str.ofString "end"==x.2))
noncomputable def kc(L:List Ln):List Int:=(L.filter Ea).map (·.1)
theorem cw(a b:List Ln):kc (a++b)=kc a++kc b:=by unfold kc;rw[UA,P4]
noncomputable def tK(a b:Nat):List Int:=(List.range (b-a)).map λi=>((a+i:Nat):Int)
theorem gV(a:Nat):tK a a=[]:=by simp[tK]
theorem lQ{a b:Nat}(h:a < b):tK a b=(a:Int)::tK (a+1) b:=by
 unfold tK;rw[show b-a=(b-(a+1))+1 by lia,List.range_succ_eq_map,PN,QD];congr 1;refine Us λi _=>?_;show((a+(i+1):Nat):Int)=((a+1+i:Nat):Int)
 lia
theorem iD{b c:Nat}(h2:b<=c):∀(j a:Nat),b-a=j->a<=b->tK a b++tK b c=tK a c
 | 0,a,e,h=>by rw[show a=b by lia,gV,QC]
 | j+1,a,e,h=>by
  rw[lQ (show a < b by lia),lQ (show a < c by lia),Qv,iD h2 j (a+1) (by lia) (by lia)]
theorem Ji(n:Nat):Ea (zU n)=false:=by
 unfold Ea zU;simp
theorem GK(n:Nat):Ea (jB n)=false:=by
 unfold Ea jB;simp
theorem JQ(n:Nat):kc [zU n]=[]:=by unfold kc;rw[QI,Ji];rfl
theorem Ab(n:Nat):kc [jB n]=[]:=by unfold kc;rw[QI,GK];rfl
structure Sg(N k c:Nat)(L:List Ln):Prop where
 nm:∀x∈L,x.1=(N:Int)\/((k:Int)<=x.1/\x.1 < k+c)
 hd:kc L=tK k (k+c)
 rn:∀d m,1<=d->runM d m L=some (d,m+c)
theorem Sg.nil{N k:Nat}:Sg N k 0 []:=⟨λx h=>(nomatch h),by rw[Tb,gV];rfl,λd m _=>rfl⟩
theorem Sg.app{N k c c':Nat}{A B:List Ln}(a:Sg N k c A)(b:Sg N (k+c) c' B):Sg N k (c+c') (A++B):=by
 refine⟨λx hx=>?_,?_,λd m hd=>?_⟩
 ·rcases PX.mp hx with h | h
  ·have:=a.nm x h;lia
  ·have:=b.nm x h;lia
 ·rw[cw,a.hd,b.hd,<-QK];exact iD (by lia) _ _ rfl (by lia)
 ·rw[cz,a.rn d m hd];show runM d (m+c) B=_;rw[b.rn d _ hd,QK]
theorem Sg.or{N k:Nat}(n:Nat)(h:n=N):Sg N k 0 [zU n]:=by
 subst h;refine⟨λx hx=>.inl (by rw[PD.mp hx];rfl),by rw[JQ,Tb,gV],λd m hd=>?_⟩;rw[runM,Py (show(zU n).2=Str.ofString "or" from rfl),PH (by lia)];rfl
theorem Sg.mono{N N' k c:Nat}{L:List Ln}(a:Sg N k c L)(h:k<=N/\N < k+c):Sg N' k c L:=⟨λx hx=>by have:=a.nm x hx;lia,a.hd,a.rn⟩
theorem nN(r:Row):ai r=[]↔i6 (bP r)=false:=by
 have hw:∀w∈[Str.ofString "within",Str.ofString "all",Str.ofString "ask",Str.ofString "by",Str.ofString "either",Str.ofString "again"],i6 w=true:=by decide+kernel
 have hw':∀w∈[Str.ofString "say",Str.ofString "call"],i6 w=false:=by decide+kernel
 cases r <;> simp only[ai,bP]
 case say=>simp[hw' (Str.ofString "say") (by simp)]
 case call=>simp[hw' (Str.ofString "call") (by simp)]
 case within=>simp[hw (Str.ofString "within") (by simp)]
 case all=>simp[hw (Str.ofString "all") (by simp)]
 case ask=>simp[hw (Str.ofString "ask") (by simp)]
 case mQ=>simp[hw (Str.ofString "by") (by simp)]
 case either=>simp[hw (Str.ofString "either") (by simp)]
 case again=>simp[hw (Str.ofString "again") (by simp)]
theorem uV{g:Nat->List Row->List Ln}{N:Nat}:∀(x:List (List Row)) (j k:Nat),(∀k,∀t∈x,Sg N k (ao t) (g k t))->Sg N k (x.map ao).sum (ck g N j k x)
 | [],j,k,h=>Sg.nil
 | t::x,j,k,h=>by
  have h1:Sg N k 0 (if j=0 then[] else[zU N]):=by
   by_cases z:j=0
   ·rw[Py z];exact Sg.nil
   ·rw[PH z];exact Sg.or N rfl
  have h2:=h1.app (h k t (.head _));rw[QT] at h2;have h3:=h2.app (uV x (j+1) (k+ao t) λk u hu=>h k u (.tail _ hu));rw[ck,PN,Q3];exact h3
theorem CN{g:Nat->List Row->List Ln}{k:Nat}{r:Row}(hr:uU r)(h:∀k',∀t∈ai r,Sg k k' (ao t) (g k' t)):Sg k k (cnt r) (fG g k r):=by
 have hl:=uV (g:=g) (N:=k) (ai r) 0 (k+1) h;obtain⟨n1,n2⟩:=Aa r hr;have n1':bL r≠Str.ofString "or":=by intro e;rw[e,Qs] at n1;cases n1
 have n2':bL r≠Str.ofString "end":=by intro e;rw[e,Qs] at n2;cases n2
 have hop:ku (bL r)=i6 (bP r):=by
  obtain⟨q,e⟩:=k9 r hr;unfold ku;rw[e]
 have hc:=fY r;have hh:Ea ((k:Int),bL r)=true:=by
  unfold Ea;rw[Qb (by lia),TH];have a1:(Str.ofString "or"==bL r)=false:=by rw[QY];exact Q0 n1'
  have a2:(Str.ofString "end"==bL r)=false:=by rw[QY];exact Q0 n2'
  dsimp only;rw[a1,a2];rfl
 unfold fG;refine⟨λx hx=>?_,?_,λd m hd=>?_⟩
 ·rcases PB.mp hx with rfl | hx
  ·exact .inl rfl
  ·rcases PX.mp hx with hx | hx
   ·have:=hl.nm x hx;lia
   ·left
    split at hx
    ·cases hx
    ·rw[PD.mp hx];rfl
 ·show kc ([((k:Int),bL r)]++(ck g k 0 (k+1) (ai r)++(if ai r=[] then[] else[jB k])))=_;rw[cw,cw,hl.hd];have e1:kc [((k:Int),bL r)]=[(k:Int)]:=by unfold kc;rw[QI,hh];rfl
  have e2:kc (if ai r=[] then[] else[jB k])=[]:=by
   split
   ·rfl
   ·exact Ab k
  rw[e1,e2,Qu,lQ (show k < k+cnt r by lia),hc];rw[show k+1+((ai r).map ao).sum=k+(1+((ai r).map ao).sum) by lia];rfl
 ·rw[runM,PH n1',PH n2',PH (show ¬d=0 by lia),hop,cz]
  by_cases z:ai r=[]
  ·rw[Py z,(nN r).mp z,PH (by simp),hl.rn d _ hd,z,hc,z];rfl
  ·have z1:i6 (bP r)=true:=by
    cases e:i6 (bP r) with
    | true=>rfl
    | false=>exact absurd ((nN r).mpr e) z
   rw[PH z,z1,Py rfl,hl.rn (d+1) _ (by lia)];show runM (d+1) _ [jB k]=_;rw[runM,PH (show ¬(jB k).2=Str.ofString "or" from by show ¬Str.ofString "end"=Str.ofString "or";decide+kernel),Py (show(jB k).2=Str.ofString "end" from rfl),PH (by lia),hc];show some _=some _;congr 2
   lia
theorem zD{g:Nat->List Row->List Ln}:∀(l:List Row)(k N:Nat),(∀r∈l,uU r)->(∀k' N',∀r∈l,∀t∈ai r,Sg N' k' (ao t) (g k' t))->Sg N k (ao l) (cL g k l)
 | [],k,N,_,_=>by rw[cL,show ao []=0 by simp[ao]];exact Sg.nil
 | r::rs,k,N,h1,h2=>by
  have hc:=fY r;have a:=(CN (g:=g) (k:=k) (h1 r (.head _)) λk' t ht=>h2 k' k r (.head _) t ht).mono (N':=N) ⟨Pw _,by lia⟩;have b:=zD rs (k+cnt r) N (λr hr=>h1 r (.tail _ hr)) λk' N' r hr=>h2 k' N' r (.tail _ hr);rw[cL,show ao (r::rs)=cnt r+ao rs by simp[ao]];exact a.app b
theorem uW:∀(f:Nat)(l:List Row)(k N:Nat),bh l<=f->yr f l->Sg N k (ao l) (jw f k l)
 | 0,l,k,N,hn,_=>by
  exfalso;cases l with
  | nil=>rw[bh] at hn;lia
  | cons r rs=>rw[bh] at hn;lia
 | f+1,l,k,N,hn,hs=>zD l k N (λr hr=>(hs r hr).1) λk' N' r hr t ht=>uW f t k' N' (by have:=jS hr;have:=jR ht;lia) ((hs r hr).2 t ht)
def Dec(k c n:Nat)(L:List Ln)(r:Row)(f:Nat):Prop:=∃(pre post:List Ln)(e:Nat),L=pre++(fG (jw f) n r++post)/\(∀x∈pre,x.1≠(n:Int))/\(∀x∈post,x.1≠(n:Int))/\k<=n/\n+cnt r<=k+c/\kc pre=tK k n/\kc post=tK (n+cnt r) (k+c)/\(∀d m,1<=d->runM d m pre=some (d+e,m+(n-k)))/\(∀d m,1<=d->runM (d+e) m post=some (d,m+(k+c-(n+cnt r))))
theorem cnt_pos'(r:Row):1<=cnt r:=by have:=fY r;lia
theorem Dec.left{k0 c0 c n N f:Nat}{A L:List Ln}{r:Row}(D:Dec (k0+c0) c n L r f)(a:Sg N k0 c0 A)(hN:N≠n):Dec k0 (c0+c) n (A++L) r f:=by
 obtain⟨pre,post,e,rfl,h1,h2,h3,h4,h5,h6,h7,h8⟩:=D;refine⟨A++pre,post,e,by rw[Qg],λx hx=>?_,h2,by lia,by lia,?_,by rw[h6,QK],λd m hd=>?_,λd m hd=>?_⟩
 ·rcases PX.mp hx with z | z
  ·have:=a.nm x z;lia
  ·exact h1 x z
 ·rw[cw,a.hd,h5];exact iD (by lia) _ _ rfl (by lia)
 ·rw[cz,a.rn d m hd];show runM d (m+c0) pre=_;rw[h7 d _ hd];congr 2
  lia
 ·rw[h8 d m hd];congr 2
  lia
theorem Dec.right{k c c' n N f:Nat}{L B:List Ln}{r:Row}(D:Dec k c n L r f)(b:Sg N (k+c) c' B)(hN:N≠n):Dec k (c+c') n (L++B) r f:=by
 obtain⟨pre,post,e,rfl,h1,h2,h3,h4,h5,h6,h7,h8⟩:=D;have hp:=cnt_pos' r;refine⟨pre,post++B,e,by simp only[Qg],h1,λx hx=>?_,h3,by lia,h5,?_,h7,λd m hd=>?_⟩
 ·rcases PX.mp hx with z | z
  ·exact h2 x z
  ·have:=b.nm x z;lia
 ·rw[cw,b.hd,h6,<-QK k];exact iD (by lia) _ _ rfl (by lia)
 ·rw[cz,h8 d m hd];show runM d _ B=_;rw[b.rn d _ hd];congr 2
  lia
theorem Dec.self{k f:Nat}{r:Row}:Dec k (cnt r) k (fG (jw f) k r) r f:=
 ⟨[],[],0,by simp,λx h=>(nomatch h),λx h=>(nomatch h),Pw _,Pw _,by rw[gV];rfl,by rw[gV];rfl,λd m _=>by rw[RZ];rfl,λd m _=>by rw[RZ];rfl⟩
theorem Dec.wrap{k c n f:Nat}{L:List Ln}{r r0:Row}(D:Dec (k+1) c n L r f)(h0:uU r0)(hl:ai r0≠[])(hk:k < n):Dec k (1+c) n (((k:Int),bL r0)::(L++[jB k])) r f:=by
 obtain⟨pre,post,e,rfl,h1,h2,h3,h4,h5,h6,h7,h8⟩:=D;obtain⟨n1,n2⟩:=Aa r0 h0;have n1':bL r0≠Str.ofString "or":=by intro e;rw[e,Qs] at n1;cases n1
 have n2':bL r0≠Str.ofString "end":=by intro e;rw[e,Qs] at n2;cases n2
 have hop:ku (bL r0)=true:=by
  obtain⟨q,e⟩:=k9 r0 h0;unfold ku;rw[e];show i6 (bP r0)=true;cases e:i6 (bP r0) with
  | true=>rfl
  | false=>exact absurd ((nN r0).mpr e) hl
 have hh:Ea ((k:Int),bL r0)=true:=by
  unfold Ea;rw[Qb (by lia),TH];have a1:(Str.ofString "or"==bL r0)=false:=by rw[QY];exact Q0 n1'
  have a2:(Str.ofString "end"==bL r0)=false:=by rw[QY];exact Q0 n2'
  dsimp only;rw[a1,a2];rfl
 have e1:kc [((k:Int),bL r0)]=[(k:Int)]:=by unfold kc;rw[QI,hh];rfl
 refine⟨((k:Int),bL r0)::pre,post++[jB k],e+1,by simp only[Qg,Qv],λx hx=>?_,λx hx=>?_,by lia,by lia,?_,?_,λd m hd=>?_,λd m hd=>?_⟩
 ·rcases PB.mp hx with rfl | z
  ·show(k:Int)≠n;lia
  ·exact h1 x z
 ·rcases PX.mp hx with z | z
  ·exact h2 x z
  ·rw[PD.mp z];show(k:Int)≠n;lia
 ·show kc ([((k:Int),bL r0)]++pre)=_;rw[cw,e1,h5,lQ hk];rfl
 ·rw[cw,Ab,h6,Qu,show k+1+c=k+(1+c) by lia]
 ·rw[runM,PH n1',PH n2',PH (show ¬d=0 by lia),hop,Py rfl,h7 (d+1) _ (by lia)];congr 2 <;> lia
 ·rw[cz,show d+(e+1)=(d+1)+e by lia,h8 (d+1) m (by lia)];show runM (d+1) _ [jB k]=_;rw[runM,PH (show ¬(jB k).2=Str.ofString "or" from by show ¬Str.ofString "end"=Str.ofString "or";decide+kernel),Py (show(jB k).2=Str.ofString "end" from rfl),PH (by lia)];show some _=some _;congr 2
  lia
def At(f:Nat)(x:Option (List Nat×Row))(r:Row):Prop:=(∃path,x=some (path,r))/\uU r/\(∀t∈ai r,yr f t/\bh t<=f)/\f<=8
theorem xQ{f N:Nat}(ih:∀(l:List Row)(k n:Nat),k<=n->n < k+ao l->bh l<=f->yr f l->∃r f',Dec k (ao l) n (jw f k l) r f'/\∀a i,At f' (aI a i l)[n-k]? r):
  ∀(x:List (List Row)) (j k n:Nat),N < k->k<=n->n < k+(x.map ao).sum->(∀t∈x,bh t<=f/\yr f t)->∃r f',Dec k (x.map ao).sum n (ck (jw f) N j k x) r f'/\∀p i,At f' (dg p i x)[n-k]? r
 | [],j,k,n,hN,h1,h2,_=>by simp at h2;lia
 | t::x,j,k,n,hN,h1,h2,hx=>by
  rw[PN,Q3] at h2 ⊢;have ho:Sg N k 0 (if j=0 then[] else[zU N]):=by
   by_cases z:j=0
   ·rw[Py z];exact Sg.nil
   ·rw[PH z];exact Sg.or N rfl
  obtain⟨t1,t2⟩:=hx t (.head _);have hr:=uV (g:=jw f) (N:=N) x (j+1) (k+ao t) λk u hu=>uW f u k N (hx u (.tail _ hu)).1 (hx u (.tail _ hu)).2;rw[ck]
  by_cases z:n < k+ao t
  ·obtain⟨r,f',D,hA⟩:=ih t k n h1 z t1 t2;have D1:=Dec.left (k0:=k) (c0:=0) D ho (by lia);rw[QT] at D1;refine⟨r,f',D1.right hr (by lia),λp i=>?_⟩;rw[dg,PJ (by rw[aP];lia)];exact hA _ _
  ·obtain⟨r,f',D,hA⟩:=xQ (N:=N) ih x (j+1) (k+ao t) n (by lia) (by lia) (by lia) λu hu=>hx u (.tail _ hu);have hs:=ho.app (uW f t k N t1 t2);rw[QT] at hs;refine⟨r,f',D.left hs (by lia),λp i=>?_⟩;rw[dg,P0 (by rw[aP];lia),aP,show n-k-ao t=n-(k+ao t) by lia];exact hA _ _
theorem EA:∀(f:Nat),f<=8->∀(l:List Row)(k n:Nat),k<=n->n < k+ao l->bh l<=f->yr f l->∃r f',Dec k (ao l) n (jw f k l) r f'/\∀a i,At f' (aI a i l)[n-k]? r
 | 0,_,l,k,n,_,_,hn,_=>by
  exfalso;cases l with
  | nil=>rw[bh] at hn;lia
  | cons r rs=>rw[bh] at hn;lia
 | f+1,_,[],k,n,h1,h2,_,_=>by simp[ao] at h2;lia
 | f+1,hf,r0::rs,k,n,h1,h2,hn,hs=>by
  have hc0:ao (r0::rs)=cnt r0+ao rs:=by simp[ao]
  have hn0:=jS (lot:=r0::rs) (r:=r0) (.head _);have hnr:bh rs<=f+1:=by rw[bh] at hn;lia
  have hsr:yr (f+1) rs:=λr hr=>hs r (.tail _ hr);obtain⟨s1,s2⟩:=hs r0 (.head _);have hcl:=fY r0;have hb:∀N,Sg N (k+cnt r0) (ao rs) (jw (f+1) (k+cnt r0) rs):=λN=>uW (f+1) rs (k+cnt r0) N hnr hsr;have hx:∀t∈ai r0,bh t<=f/\yr f t:=λt ht=>⟨by have:=jR ht;lia,s2 t ht⟩;rw[hc0] at h2 ⊢;show ∃r f',Dec k _ n (fG (jw f) k r0++jw (f+1) (k+cnt r0) rs) r f'/\_
  by_cases z:n=k
  ·subst z;refine⟨r0,f,Dec.self.right (hb (n+1)) (by lia),λa i=>?_⟩;rw[RZ,aI];exact⟨⟨_,rfl⟩,s1,λt ht=>⟨(hx t ht).2,(hx t ht).1⟩,by lia⟩
  ·by_cases z2:n < k+cnt r0
   ·obtain⟨r,f',D,hA⟩:=xQ (N:=k) (λl k n=>EA f (by lia) l k n) (ai r0) 0 (k+1) n (by lia) (by lia) (by lia) hx;have hl:ai r0≠[]:=by intro e;rw[e] at hcl;simp at hcl;lia
    have D1:=D.wrap s1 hl (by lia);rw[<-hcl] at D1;refine⟨r,f',?_,λa i=>?_⟩
    ·rw[show fG (jw f) k r0=((k:Int),bL r0)::(ck (jw f) k 0 (k+1) (ai r0)++[jB k]) by rw[fG,PH hl]];exact D1.right (hb (n+1)) (by lia)
    ·have hlen:(di (a++[i]) r0).length=cnt r0-1:=by have:=kR (a++[i]) r0;lia
     rw[aI,show n-k=(n-(k+1))+1 by lia,Qz,PJ (by lia),tQ];exact hA _ _
   ·obtain⟨r,f',D,hA⟩:=EA (f+1) hf rs (k+cnt r0) n (by lia) (by lia) hnr hsr;have hs0:Sg (n+1) k (cnt r0) (fG (jw f) k r0):=(CN (g:=jw f) (k:=k) s1 λk' t ht=>uW f t k' k (hx t ht).1 (hx t ht).2).mono ⟨Pw _,by lia⟩;refine⟨r,f',D.left hs0 (by lia),λa i=>?_⟩;have hlen:(di (a++[i]) r0).length=cnt r0-1:=by have:=kR (a++[i]) r0;lia
    rw[aI,show n-k=(n-(k+cnt r0))+(cnt r0-1)+1 by lia,Qz,P0 (by lia),hlen,show n-(k+cnt r0)+(cnt r0-1)-(cnt r0-1)=n-(k+cnt r0) by lia];exact hA _ _
theorem nU(x:Str):kc [ja x]=[]:=by
 unfold kc;rw[QI,show Ea (ja x)=false by unfold Ea ja;rw[Qm (by show ¬(0:Int)<=-1;decide)];rfl];rfl
theorem rV(d:dP)(m:Nat)(L:List Ln):runM 0 m (ja (bT d)::L)=runM 1 m L:=by
 obtain⟨rest,e⟩:=nQ (Str.ofString "deed") (d.1::d.2.1) (by simp);have e':(bT d).cps.toList=(Str.ofString "deed").cps.toList++32::rest:=e;rw[show(Str.ofString "deed").cps.toList=[100,101,101,100] by decide+kernel] at e';have n1:bT d≠Str.ofString "or":=by intro z;rw[z,show(Str.ofString "or").cps.toList=[111,114] by decide+kernel] at e';cases e'
 have n2:bT d≠Str.ofString "end":=by intro z;rw[z,show(Str.ofString "end").cps.toList=[101,110,100] by decide+kernel] at e';cases e'
 obtain⟨q,hq⟩:=oo (x:=bT d) (w:=[100,101,101,100]) (by decide) (.inr e');have ho:ku (bT d)=true:=by unfold ku;rw[hq];show i6 (Jw [100,101,101,100])=true;decide+kernel
 rw[runM,PH (show ¬(ja (bT d)).2=Str.ofString "or" from n1),PH (show ¬(ja (bT d)).2=Str.ofString "end" from n2)];show runM (if ku (bT d)=true then 0+1 else 0) (if 0=0 then m else m+1) L=_;rw[ho];rfl
theorem vX(d m:Nat)(L:List Ln):runM (d+1) m (ja (Str.ofString "end")::L)=runM d m L:=by
 rw[runM,PH (show ¬(ja (Str.ofString "end")).2=Str.ofString "or" from by show ¬Str.ofString "end"=Str.ofString "or";decide+kernel),Py (show(ja (Str.ofString "end")).2=Str.ofString "end" from rfl),PH (by lia)];rfl
def Nb(d:dP):Prop:=bh d.2.2<=8/\yr 8 d.2.2
theorem uv(d:dP)(ds:List dP):cH (d::ds)=ao d.2.2+cH ds:=by simp[cH]
structure Pn(k c:Nat)(L:List Ln):Prop where
 nm:∀x∈L,x.1=-1\/((k:Int)<=x.1/\x.1 < k+c)
 hd:kc L=tK k (k+c)
 rn:∀m,runM 0 m L=some (0,m+c)
theorem Ih:∀(ds:List dP)(k:Nat),(∀d∈ds,Nb d)->Pn k (cH ds) (bz 8 k ds)
 | [],k,_=>⟨λx h=>(nomatch h),by show _=tK k (k+0);rw[Tb,gV];rfl,λm=>rfl⟩
 | d::ds,k,h=>by
  have a:=uW 8 d.2.2 k 0 (h d (.head _)).1 (h d (.head _)).2;have a':=λN=>uW 8 d.2.2 k N (h d (.head _)).1 (h d (.head _)).2;have b:=Ih ds (k+ao d.2.2) λd hd=>h d (.tail _ hd);rw[bz,uv];refine⟨λx hx=>?_,?_,λm=>?_⟩
  ·rcases PB.mp hx with rfl | hx
   ·exact .inl rfl
   ·rcases PX.mp hx with z | z
    ·have:=(a' (k+ao d.2.2+1)).nm x z;have:=(a' (k+ao d.2.2+2)).nm x z
     lia
    ·rcases PB.mp z with rfl | z
     ·exact .inl rfl
     ·have:=b.nm x z;lia
  ·show kc ([ja (bT d)]++(jw 8 k d.2.2++([ja (Str.ofString "end")]++bz 8 (k+ao d.2.2) ds)))=_;rw[cw,cw,cw,nU,nU,a.hd,b.hd,QC,QC,<-QK];exact iD (by lia) _ _ rfl (by lia)
  ·rw[rV,cz,a.rn 1 m (Pw _)];show runM (0+1) _ (ja _::_)=_;rw[vX,b.rn,QK]
def OJ(k c n:Nat)(L:List Ln)(r:Row)(f:Nat):Prop:=∃(pre post:List Ln)(d:Nat),L=pre++(fG (jw f) n r++post)/\(∀x∈pre,x.1≠(n:Int))/\(∀x∈post,x.1≠(n:Int))/\n+cnt r<=k+c/\kc pre=tK k n/\kc post=tK (n+cnt r) (k+c)/\1<=d/\(∀m,runM 0 m pre=some (d,m+(n-k)))/\(∀m,runM d m post=some (0,m+(k+c-(n+cnt r))))
theorem Hu:∀(ds:List dP)(k n i:Nat),k<=n->n < k+cH ds->(∀d∈ds,Nb d)->∃r f,OJ k (cH ds) n (bz 8 k ds) r f/\(∃j path,(placesFrom i ds)[n-k]?=some (j,path,r))/\uU r/\(∀t∈ai r,yr f t/\bh t<=f)/\f<=8
 | [],k,n,i,h1,h2,_=>by simp[cH] at h2;lia
 | d::ds,k,n,i,h1,h2,h=>by
  have o:=h d (.head _);have b:=Ih ds (k+ao d.2.2) λd hd=>h d (.tail _ hd);rw[uv] at h2 ⊢;rw[bz]
  by_cases z:n < k+ao d.2.2
  ·obtain⟨r,f,⟨pre,post,e,hL,g1,g2,g3,g4,g5,g6,g7,g8⟩,hA⟩:=EA 8 (Pw _) d.2.2 k n h1 z o.1 o.2;have hp:=cnt_pos' r;obtain⟨⟨path,hpath⟩,s1,s2⟩:=hA [] 0;refine⟨r,f,⟨ja (bT d)::pre,post++(ja (Str.ofString "end")::bz 8 (k+ao d.2.2) ds),1+e,by rw[hL];simp only[Qg,Qv],λx hx=>?_,λx hx=>?_,by lia,?_,?_,by lia,λm=>?_,λm=>?_⟩,⟨i,path,?_⟩,s1,s2⟩
   ·rcases PB.mp hx with rfl | hx
    ·show(-1:Int)≠n;lia
    ·exact g1 x hx
   ·rcases PX.mp hx with y | y
    ·exact g2 x y
    ·rcases PB.mp y with rfl | y
     ·show(-1:Int)≠n;lia
     ·have:=b.nm x y;lia
   ·show kc ([ja (bT d)]++pre)=_;rw[cw,nU,g5];rfl
   ·show kc (post++([ja (Str.ofString "end")]++bz 8 (k+ao d.2.2) ds))=_;rw[cw,cw,nU,g6,b.hd,QC,<-QK k];exact iD (by lia) _ _ rfl (by lia)
   ·rw[rV,g7 1 m (Pw _)]
   ·rw[cz,g8 1 m (Pw _)];show runM (0+1) _ (ja _::_)=_;rw[vX,b.rn];congr 2
    lia
   ·rw[placesFrom,PJ (by rw[Pp,aP];lia),PR,hpath];rfl
  ·obtain⟨r,f,⟨pre,post,e,hL,g1,g2,g3,g4,g5,g6,g7,g8⟩,⟨j,path,hpath⟩,s1,s2⟩:=Hu ds (k+ao d.2.2) n (i+1) (by lia) (by lia) λd hd=>h d (.tail _ hd);have a:=uW 8 d.2.2 k (n+1) o.1 o.2;have a':=uW 8 d.2.2 k (n+2) o.1 o.2;refine⟨r,f,⟨ja (bT d)::(jw 8 k d.2.2++(ja (Str.ofString "end")::pre)),post,e,by rw[hL];simp only[Qg,Qv],λx hx=>?_,g2,by lia,?_,?_,g6,λm=>?_,λm=>?_⟩,⟨j,path,?_⟩,s1,s2⟩
   ·rcases PB.mp hx with rfl | hx
    ·show(-1:Int)≠n;lia
    ·rcases PX.mp hx with y | y
     ·have:=a.nm x y;have:=a'.nm x y;lia
     ·rcases PB.mp y with rfl | y
      ·show(-1:Int)≠n;lia
      ·exact g1 x y
   ·show kc ([ja (bT d)]++(jw 8 k d.2.2++([ja (Str.ofString "end")]++pre)))=_;rw[cw,cw,cw,nU,nU,a.hd,g4,QC,QC];exact iD (by lia) _ _ rfl (by lia)
   ·rw[g5,QK]
   ·rw[rV,cz,a.rn 1 m (Pw _)];show runM (0+1) _ (ja _::_)=_;rw[vX,g7];congr 2
    lia
   ·rw[g8];congr 2
    lia
   ·rw[placesFrom,P0 (by rw[Pp,aP];lia),Pp,aP,show n-k-ao d.2.2=n-(k+ao d.2.2) by lia];exact hpath
end Pg
namespace Sm
open PySem L2
theorem uq{α:Type}{c:TM}{e:EM}{h:MH}{t:DS}(A B f:α->D)(p:α->Bool):∀(xs:List α)(o o2:Option D),(∀x∈xs,c (some (A x)::some (B x)::t) h=some (p x,h))->(∀x∈xs,p x=true->e (some (A x)::some (B x)::t) h=some (f x,h))->bH [] g2 c e (xs.map λx=>.tup [A x,B x]) (o::o2::t) h=some ((xs.filter p).map f,h)
 | [],o,o2,_,_=>rfl
 | x::r,o,o2,hc,he=>by
  have e2:=uq A B f p r (some (A x)) (some (B x)) (λy hy=>hc y (Pz _ hy)) λy hy=>he y (Pz _ hy);show((c (some (A x)::some (B x)::t) h).bind λq=>if q.1=true then(e (some (A x)::some (B x)::t) q.2).bind λy=>(bH [] g2 c e (r.map λx=>.tup [A x,B x]) (some (A x)::some (B x)::t) y.2).map λz=>(y.1::z.1,z.2) else bH [] g2 c e (r.map λx=>.tup [A x,B x]) (some (A x)::some (B x)::t) q.2)=_;rw[hc x Px];dsimp only[Option.bind_some]
  by_cases z:p x=true
  ·rw[Py z,he x Px z];dsimp only[Option.bind_some];rw[e2,QI,Py z];rfl
  ·rw[PH z,e2,QI,PH z]
theorem zo{α:Type}{caps:List (Option Nat)}{ei e:EM}{c:TM}{δ t:DS}{o o2:Option D}{h:MH}{d:D}{xs:List α}(A B f:α->D)(p:α->Bool)(hi:ei δ h=some (d,h))(hs:dq d h=some (xs.map λx=>.tup [A x,B x],[]))(hc:fH caps δ=o::o2::t)(hl:xs.length<=100000)(ht:∀x∈xs,c (some (A x)::some (B x)::t) h=some (p x,h))(he:∀x∈xs,p x=true->e (some (A x)::some (B x)::t) h=some (f x,h)):
  b8 caps (eG ei) g2 c e δ h=some ((xs.filter p).map f,h):=by
 unfold b8 eG;rw[hi];dsimp only[Option.bind_some];rw[hs];dsimp only[Option.map_some,Option.bind_some];rw[hc,uq A B f p xs o o2 ht he];dsimp only[Option.bind_some];rw[Py (by have:=SD p xs;rw[Pp,show sizeLine=16777216 from rfl];lia)]
end Sm
namespace Mi
open PySem Sm L2 Pg
end Mi
namespace Pg
open PySem Sm L2
noncomputable def Hn:Row->Bool
 | .within _ _=>true
 | .all _ _=>true
 | .ask _ _ _=>true
 | _=>false
end Pg
namespace Mi
open PySem Sm L2 Pg
theorem Fx{L pre post:List Ln}{n:Nat}{r:Row}(hr:uU r)(hL:L=pre++(((n:Int),bL r)::post))(hp:∀x∈pre,x.1≠(n:Int))(hl:L.length<=10000)(h:MH):gB [.lv (L.map oY),.int (n:Int)] h=some (.str (bP r),h):=by
 have hf:L.filter (λx=>x.1==(n:Int))=((n:Int),bL r)::post.filter (λx=>x.1==(n:Int)):=by
  rw[hL,UA,List.filter_eq_nil_iff.mpr (λx hx=>by simpa using hp x hx),QC,QI,Py (by simp)]
 have e1:b8 [none,none,some 1] (eG (ay 0)) g2 (aE (ak cR (ay 0) (ay 2))) (ay 1) (entry 2 [.lv (L.map oY),.int (n:Int)]) h=some (((L.filter (λx=>x.1==(n:Int))).map λx=>.str x.2),h):=
  zo (o:=none) (o2:=none) (t:=[some (.int (n:Int))]) (λx:Ln=>.int x.1) (λx=>.str x.2) (λx=>.str x.2) (λx=>x.1==(n:Int)) (d:=.lv (L.map oY)) rfl rfl rfl (by lia) (λx _=>rfl) λx _ _=>rfl
 obtain⟨q,hq⟩:=k9 r hr;refine bx (bF (xc (lY (jn (lY (vp (rv e1 ?_)))))));rw[hf,PN];nofun;refine rv (show aQ (.lv ((((n:Int),bL r)::post.filter (λx=>x.1==(n:Int))).map λx=>D.str x.2)) (.int ((0:Nat):Int)) _=_ from bR (x:=((n:Int),bL r)) rfl) ⟨rfl,?_⟩;nofun;refine rv (qw ((xG hr).up (by decide))) ?_;rw[hq];nofun;refine rv (show aQ (.lv ((bP r::q).map D.str)) (.int ((0:Nat):Int)) _=_ from bR (x:=bP r) rfl) ?_;nofun
theorem rp{P:Prog}(hP:AF P){n j:Nat}{path:List Nat}{r:Row}(hn:(placesFrom 0 P.aj)[n]?=some (j,path,r))(hk:Hn r=true)(hs:uU r)(h:MH):dC [aV P,.int (n:Int)] h=some (.tup [fU j,du path,ax r],h):=by
 have hlt:n < (placesFrom 0 P.aj).length:=(Pq.mp hn).1;have e1:eU [aV P,.int (n:Int)] h=some (.tup [fU j,du path,ax r],h):=by
  refine bx (bF ?_);nofun;refine rv (gp hP h) ?_;have ec:iQ JX BG (eK (D.int 0)) (ay 1) (aw cm (ag (ay 2) aM)) (List.set (entry 3 [aV P,D.int (n:Int)]) 2 (some (D.lv ((placesFrom 0 P.aj).map eN)))) h=some (.bl true,h):=by
   refine bx (qS (rv rfl (rv (a:=(.int (n:Int),h)) rfl (rv rfl ⟨_,rfl,?_⟩))));rw[Py (Qb (show(0:Int)<=n by lia))];refine rv (a:=(.int ((placesFrom 0 P.aj).map eN).length,h)) rfl (rv rfl ?_);rw[Pp];show(D.bl (decide ((n:Int) < (placesFrom 0 P.aj).length)),h)=_;rw[Qb (show(n:Int) < (placesFrom 0 P.aj).length by lia)]
  refine qp (fE (xa (jm (jo (rv ec ⟨true,rfl,?_⟩)))));refine⟨λz=>(nomatch z),λ_=>?_⟩;nofun;refine rv (bR hn) ?_;nofun;rfl
 have e2:∃x xs,dO [ax r] h=some (.tup (x::xs),h):=by
  cases r with
  | within l b=>rw[ax];exact⟨aG l,[],by ac_nf⟩
  | ask l b e=>rw[ax];exact⟨aG l,[],by ac_nf⟩
  | all ls b=>
   obtain⟨l0,ls0,rfl⟩:∃l0 ls0,ls=l0::ls0:=by
    cases ls with
    | nil=>exact absurd rfl hs.2.2
    | cons a b=>exact⟨a,b,rfl⟩
   rw[ax,PN];exact⟨aG l0,ls0.map aG,by ac_nf⟩
  | _=>cases hk
 obtain⟨x,xs,e2⟩:=e2;refine bx (bF ?_);nofun;refine rv e1 ?_;nofun;refine rv e2 ⟨true,rfl,λz=>(nomatch z),λ_=>?_⟩;nofun
theorem vm{a:SM}{b:XM}{δ:DS}{h:MH}{Q:Str×MH->Prop}(r:Rn (a δ h) λp=>p.1=.nx/\Rn (b p.2.1 p.2.2) Q):Rn (wH a b δ h) Q:=aW (r.imp λp ⟨e,q⟩=>by
 obtain⟨f,δ',h'⟩:=p;obtain rfl:f=.nx:=e;exact q)
theorem Dh{t:TM}{a b:XM}{δ:DS}{h:MH}{Q:Str×MH->Prop}(r:Rn (t δ h) λp=>(p.1=true->Rn (a δ p.2) Q)/\(p.1=false->Rn (b δ p.2) Q)):Rn (HH t a b δ h) Q:=aW (r.imp λp ⟨q1,q2⟩=>by
 obtain⟨c,h⟩:=p;cases c with
 | true=>exact q1 rfl
 | false=>exact q2 rfl)
theorem Hf{f:Xn}{m:AM}{δ:DS}{h:MH}{Q:Str×MH->Prop}(r:Rn (m δ h) λp=>Rn (f p.1 p.2) Q):Rn (E8 f m δ h) Q:=aW r
theorem qR{c:Str}{m:AM}{δ:DS}{h:MH}{Q:Str×MH->Prop}(r:Rn (m δ h) λp=>Q (c,p.2)):Rn (nj c m δ h) Q:=C5 r
theorem Dg{a b:XM}{δ:DS}{h:MH}{Q:Str×MH->Prop}(r:Rn (a δ h) Q):Rn (Fq a b δ h) Q:=by
 obtain⟨p,e,q⟩:=r;exact⟨p,by unfold Fq;rw[e],q⟩
theorem De{a b:XM}{δ:DS}{h:MH}{Q:Str×MH->Prop}(n:a δ h=none)(r:Rn (b δ h) Q):Rn (Fq a b δ h) Q:=by
 obtain⟨p,e,q⟩:=r;exact⟨p,by unfold Fq;rw[n];exact e,q⟩
theorem xf{len:Nat}{b:XM}{ds:List D}{h:MH}{Q:Str×MH->Prop}(r:Rn (b (entry len ds) h) Q):Rn (Jv len b ds h) Q:=r
theorem Cu(h:MH):Cv su "NoRow" h=some (.str "NoRow",h):=by
 have hx:(h++[MO.exc "NoRow"])[h.length]?=some (.exc "NoRow"):=by rw[P0 (Pw _),RZ];rfl
 have ei:∀(n:Str)(b:Bool)(δ:DS),decide (n∈(["NoRow","StuckError","ValueError"]:List Str))=b->δ[1]?=some (some (.ob h.length))->nZ gf n (ay 1) δ (h++[MO.exc "NoRow"])=some (.bl b,h++[MO.exc "NoRow"]):=λn b δ hb hd=>by
  have e1:ay 1 δ (h++[MO.exc "NoRow"])=some (.ob h.length,h++[MO.exc "NoRow"]):=by unfold ay;rw[hd];rfl
  subst hb;unfold nZ;rw[e1];show(match (h++[MO.exc "NoRow"])[h.length]? with | some (.exc c)=>(gf.lookup c).map λas=>(D.bl (decide (n∈as)),h++[MO.exc "NoRow"]) | _=>none)=_;rw[hx];have:gf.lookup ("NoRow":Str)=some (["NoRow","StuckError","ValueError"]:List Str):=by ac_nf
  show(gf.lookup ("NoRow":Str)).map _=_;rw[this];rfl
 have e:(su [none,some (.ob h.length),none,none] (h++[.exc "NoRow"])).bind wY=some (.str "NoRow",h++[.exc "NoRow"]):=by
  refine bx (aW ?_);unfold su;refine fE (xa (Hg (jo (lY (fD rfl (Fb (rv rfl ⟨false,rfl,⟨λz=>(nomatch z),λ_=>?_⟩⟩)))))));refine jm (vn (rv (ei "ValueError" true _ (by decide+kernel) rfl) ⟨true,rfl,⟨λz=>(nomatch z),λ_=>rv rfl (qp ?_)⟩⟩));refine fE (rv (a:=(.nx,[none,some (.ob h.length),none,some (.lv [.bl true,.bl false,.bl false])],h++[.exc "NoRow"])) (bx (xb (vp (cA (rv (ei "NoRow" true _ (by decide+kernel) rfl) (cA (rv (ei "NoLock" false _ (by decide+kernel) rfl) (cA (rv (ei "NoText" false _ (by decide+kernel) rfl) (i5 rfl)))))))))) (qp ?_));refine fE (rv (a:=(.nx,[none,some (.ob h.length),none,some (.lv [.bl true,.bl false,.bl false,.bl false,.bl false])],h++[.exc "NoRow"])) (bx (xb (lY (fD rfl (vp (cA (rv (ei "NoLine" false _ (by decide+kernel) rfl) (cA (rv (ei "NoStep" false _ (by decide+kernel) rfl) (i5 (rv rfl rfl))))))))))) (qp ?_));refine rv (a:=(.rt (.str "NoRow"),[none,some (.ob h.length),none,some (.lv [.bl true,.bl false,.bl false,.bl false,.bl false])],h++[.exc "NoRow"])) (by ac_nf) ?_;exact rv rfl rfl
 unfold Cv;rw[e];exact nP (λn=>by simp) rfl
theorem ux{caps:List (Option Nat)}{x:XM}{m:EM}{δ:DS}{h:MH}(e:x (fH caps δ) h=some (("NoRow":Str),h)):eA ph caps su x m δ h=some (.str "NoRow",h):=by
 unfold eA;rw[e];show(if("NoRow":Str)∈ph then _ else _)=_;rw[Py (by decide+kernel)];exact Cu h
theorem Fp{P:Prog}(hP:AF P){z:Int}(hz:z < 0\/((placesFrom 0 P.aj).length:Int)<=z)(h:MH):cE [aV P,.int z] h=some (("NoRow":Str),h):=by
 refine bx (xf (vm ?_));nofun;refine rv (gp hP h) ⟨rfl,?_⟩;have hc:∃b,iQ JX BG (eK (D.int 0)) (ay 1) (aw cm (ag (ay 2) aM)) (List.set (entry 3 [aV P,D.int z]) 2 (some (D.lv ((placesFrom 0 P.aj).map eN)))) h=some (.bl b,h)/\b=false:=by
  refine⟨false,bx (qS (rv rfl (rv (a:=(.int z,h)) rfl (rv rfl ⟨_,rfl,?_⟩)))),rfl⟩
  by_cases z0:0<=z
  ·rw[Py (Qb z0)];refine rv (a:=(.int ((placesFrom 0 P.aj).map eN).length,h)) rfl (rv rfl ?_);rw[Pp];show(D.bl (decide (z < (placesFrom 0 P.aj).length)),h)=_;rw[Qm (by rcases hz with y | y <;> lia)]
  ·rw[PH (by simpa using z0)]
 obtain⟨b,hc,rfl⟩:=hc;exact Dh (jm (jo (rv hc ⟨false,rfl,⟨λ_=>qR (cA (Fb (i5 rfl))),λy=>(nomatch y)⟩⟩)))
noncomputable def flat(st:List (Nat×Nat)):List Nat:=st.flatMap λs=>[s.1,s.2]
noncomputable def Bb(st:List (Nat×Nat))(k:Nat):D:=du (flat st++[k])
noncomputable def Pj(l:List Row)(s:Nat×Nat):Option (List Row):=(l[s.1]?).bind λr=>(ai r)[s.2]?
noncomputable def oW(rows:List Row):List (Nat×Nat)->Option (List Row)
 | []=>some rows
 | s::r=>(Pj rows s).bind λl=>oW l r
theorem Ed(st:List (Nat×Nat)):(flat st).length=2*st.length:=by
 induction st with
 | nil=>rfl
 | cons s r ih=>show([s.1,s.2]++flat r).length=_;rw[PF,ih];simp;lia
theorem Ag:∀{st:List (Nat×Nat)} {i:Nat} {s:Nat×Nat} (t:List Nat),st[i]?=some s->(flat st++t)[2*i]?=some s.1/\(flat st++t)[2*i+1]?=some s.2
 | x::r,0,s,t,e=>by cases e;exact⟨rfl,rfl⟩
 | x::r,i+1,s,t,e=>by
  have ⟨h1,h2⟩:=Ag (st:=r) (i:=i) t e;show(x.1::x.2::(flat r++t))[2*(i+1)]?=_/\(x.1::x.2::(flat r++t))[2*(i+1)+1]?=_;rw[show 2*(i+1)=2*i+1+1 by lia,Qz,Qz,Qz,Qz];exact⟨h1,h2⟩
theorem ia{xs:List D}{i:Nat}{d:D}{h:MH}(e:xs[i]?=some d):aQ (.tup xs) (.int (i:Int)) h=some (d,h):=by
 have q:gK xs (i:Int)=some d:=qf e;simp only[aQ,dU,dq,Qc,q,Qk]
theorem mJ{p:List Nat}{i x:Nat}{h:MH}(e:p[i]?=some x):aQ (du p) (.int (i:Int)) h=some (fU x,h):=
 ia (by rw[PR,e];rfl)
theorem uh{p:List Nat}{i:Int}{j x:Nat}{h:MH}(hi:i=(j:Int))(e:p[j]?=some x):aQ (du p) (.int i) h=some (fU x,h):=by
 subst hi;exact mJ e
theorem Ak{l:List Row}{i:Nat}{r:Row}{h:MH}(e:l[i]?=some r):aQ (aZ l) (fU i) h=some (ax r,h):=
 ia (by rw[aY,PR,e];rfl)
theorem CL(n:Nat):(Builtin.Range.rangeSize 1 ((2*n+1:Nat):Int) 2).toNat=n:=by
 unfold Builtin.Range.rangeSize;rw[Py (by decide)]
 split
 ·lia
 ·lia
theorem IE{m:AM}{δ:DS}{h:MH}{Q:List D×W×MH->Prop}(r:Rn (m δ h) λp=>∃i j c,p.1=[.int i,.int j,.int c]/\Fc i j c/\Q ((List.range (Builtin.Range.rangeSize i j c).toNat).map λ(k:Nat)=>D.int (i+(k:Int)*c),[],p.2)):Rn (GA m δ h) Q:=by
 obtain⟨⟨ds,h1⟩,e,i,j,c,rfl,ok,q⟩:=r;refine⟨_,?_,q⟩;unfold GA;rw[e];show(if Fc i j c then _ else _)=_;rw[Py ok]
theorem oV{rows lot:List Row}{st:List (Nat×Nat)}{k:Nat}{h:MH}(e:oW rows st=some lot)(hl:st.length<=1000):iq [aZ rows,Bb st k] h=some (aZ lot,h):=by
 have e0:Rn (iq [aZ rows,Bb st k] h) λp=>p=(aZ lot,h):=by
  refine bF ?_;nofun;refine IE ?_;nofun;refine rv (a:=(.int ((2*st.length+1:Nat):Int),h)) ?_ ?_
  ·show some (D.int (((flat st++[k]).map fU).length:Int),h)=_;rw[Pp,PF,Ed];rfl
  nofun;refine⟨_,_,_,rfl,?_,?_⟩
  ·unfold Fc;lia
  rw[CL];refine cQ (λi δ h'=>h'=h/\∃(l:List Row)(d3:Option D),δ=[some (aZ rows),some (Bb st k),some (aZ l),d3]/\oW l (st.drop i)=some lot) ⟨rfl,rows,_,rfl,e⟩ (λ_ _ _ _ _=>rfl) ?_ ?_
  ·rintro i x δ h' hx ⟨rfl,l,d3,rfl,el⟩;rw[PR] at hx;obtain⟨j,hj,ej⟩:=gv hx;obtain⟨hi,hj⟩:=Pq.mp hj;rw[SX] at hj;subst hj;rw[P6] at hi;cases ej;rw[List.drop_eq_getElem_cons hi] at el;have hs:st[i]?=some st[i]:=PV hi;obtain⟨g1,g2⟩:=Ag [k] hs;obtain⟨l1,el1,el2⟩:=bE el;obtain⟨r,er,el3⟩:=bE el1;nofun;refine rv (uh (j:=2*i) (by lia) g1) ?_;nofun;refine rv (Ak er) ?_;nofun;refine rv (fK r _) ?_;nofun;refine rv (uh (j:=2*i+1) (by lia) g2) ?_;nofun;refine rv (ia (d:=aZ l1) (by rw[PR,el3];rfl)) ?_;nofun;exact⟨rfl,l1,_,rfl,el2⟩
  ·rintro δ h' ⟨rfl,l,d3,rfl,el⟩;rw[Pp,P6,List.drop_length] at el;cases el;nofun
 obtain⟨p,e1,rfl⟩:=e0;exact e1
noncomputable def zG:Row->List Lock
 | .within l _=>[l]
 | .all ls _=>ls
 | .ask l _ _=>[l]
 | _=>[]
theorem kA(r:Row)(h:MH):dO [ax r] h=some (.tup ((zG r).map aG),h):=by
 have e0:Rn (dO [ax r] h) λp=>p=(.tup ((zG r).map aG),h):=by
  refine bF ?_;cases r with
  | all _ _=>rw[ax];nofun;refine⟨true,by ac_nf,tt ?_⟩;nofun;rfl
  | within _ _=>rw[ax];nofun;refine⟨false,by ac_nf,ff ?_⟩;nofun;refine rv (a:=(.bl true,h)) (by ac_nf) ⟨true,rfl,tt ?_⟩;nofun;rfl
  | ask _ _ _=>rw[ax];nofun;refine⟨false,by ac_nf,ff ?_⟩;nofun;refine rv (a:=(.bl true,h)) (by ac_nf) ⟨true,rfl,tt ?_⟩;nofun;rfl
  | _=>rw[ax];nofun;refine⟨false,by ac_nf,ff ?_⟩;nofun;refine rv (a:=(.bl false,h)) (by ac_nf) ⟨false,rfl,ff ?_⟩;nofun;rfl
 obtain⟨p,e1,rfl⟩:=e0;exact e1
theorem zt{a:SM}{b:XM}{δ δ':DS}{h h':MH}(e:a δ h=some (.nx,δ',h')):wH a b δ h=b δ' h':=by unfold wH;rw[e];rfl
theorem Ci{t:TM}{a b:XM}{δ:DS}{h h':MH}{c:Bool}(e:t δ h=some (c,h')):HH t a b δ h=if c=true then a δ h' else b δ h':=by unfold HH;rw[e];rfl
theorem qK{P:Prog}{i:Nat}{d:dP}{h:MH}(e:P.aj[i]?=some d):fM [aV P,fU i] h=some (aZ d.2.2,h):=by
 have e0:Rn (fM [aV P,fU i] h) λp=>p=(aZ d.2.2,h):=by
  refine bF ?_;unfold aV;nofun;refine rv (ia (by rw[PR,e];rfl)) ?_;unfold eB;nofun;rfl
 obtain⟨p,e1,rfl⟩:=e0;exact e1
section
variable {P:Prog} {n j:Nat} {path:List Nat} {r:Row} {h:MH}
theorem xU(hn:(placesFrom 0 P.aj)[n]?=some (j,path,r))(h:MH):iQ JX BG (eK (D.int 0)) (ay 1) (aw cm (ag (ay 2) aM)) (List.set (entry 3 [aV P,D.int (n:Int)]) 2 (some (D.lv ((placesFrom 0 P.aj).map eN)))) h=some (.bl true,h):=by
 have hlt:n < (placesFrom 0 P.aj).length:=(Pq.mp hn).1;refine bx (qS (rv rfl (rv (a:=(.int (n:Int),h)) rfl (rv rfl ⟨_,rfl,?_⟩))));rw[Py (Qb (show(0:Int)<=n by lia))];refine rv (a:=(.int ((placesFrom 0 P.aj).map eN).length,h)) rfl (rv rfl ?_);rw[Pp];show(D.bl (decide ((n:Int) < (placesFrom 0 P.aj).length)),h)=_;rw[Qb (show(n:Int) < (placesFrom 0 P.aj).length by lia)]
theorem xi(hP:AF P)(hn:(placesFrom 0 P.aj)[n]?=some (j,path,r))(h:MH):eU [aV P,.int (n:Int)] h=some (.tup [fU j,du path,ax r],h):=by
 refine bx (bF ?_);nofun;refine rv (gp hP h) ?_;refine qp (fE (xa (jm (jo (rv (xU hn h) ⟨true,rfl,?_⟩)))));refine⟨λz=>(nomatch z),λ_=>?_⟩;nofun;refine rv (bR hn) ?_;nofun;rfl
theorem qi(hP:AF P)(hn:(placesFrom 0 P.aj)[n]?=some (j,path,r))(h:MH):cE [aV P,.int (n:Int)] h=none:=by
 have e1:aS 2 (aw dQ (ag (ay 0) aM)) (entry 3 [aV P,.int (n:Int)]) h=some (.nx,List.set (entry 3 [aV P,D.int (n:Int)]) 2 (some (D.lv ((placesFrom 0 P.aj).map eN))),h):=by
  refine bx ?_;nofun;refine rv (gp hP h) ?_;rfl
 unfold cE Jv;rw[show([aV P,D.int (n:Int)]:List D)=[aV P,.int (n:Int)] from rfl];rw[zt e1];have e2:Sm.pE (aE (iQ JX BG (eK (.int 0)) (ay 1) (aw cm (ag (ay 2) aM)))) (List.set (entry 3 [aV P,D.int (n:Int)]) 2 (some (D.lv ((placesFrom 0 P.aj).map eN)))) h=some (false,h):=bx (jm (jo (rv (xU hn h) ⟨true,rfl,rfl⟩)));rw[Ci e2];rfl
theorem uJ(hP:AF P)(hn:(placesFrom 0 P.aj)[n]?=some (j,path,r))(hk:Hn r=false)(h:MH):a9 [aV P,.int (n:Int)] h=some (("NoRow":Str),h):=by
 have hl:zG r=[]:=by cases r <;> first | rfl | cases hk
 refine bx (xf (De ?_ (vm ?_)))
 ·show(ag (ay 0) (ag (ay 1) aM) _ h).bind (λp=>cE p.1 p.2)=none;exact qi hP hn h
 ·nofun;refine rv (xi hP hn h) ?_;nofun;refine⟨rfl,Dh (jm (vn ?_))⟩;nofun;refine rv (kA r h) ?_;rw[hl];exact⟨false,rfl,⟨λ_=>qR (cA (Fb (i5 rfl))),λy=>(nomatch y)⟩⟩
theorem kh(hP:AF P){z:Int}(hz:z < 0\/((placesFrom 0 P.aj).length:Int)<=z)(h:MH):a9 [aV P,.int z] h=some (("NoRow":Str),h):=by
 refine bx (xf (Dg ?_));show Rn ((ag (ay 0) (ag (ay 1) aM) _ h).bind λp=>cE p.1 p.2) _;exact rv (Fp hP hz h) rfl
theorem yf{z:Int}(e:a9 [aV P,.int z] h=some (("NoRow":Str),h)):bA [aV P,.int z] h=some (("NoRow":Str),h):=by
 refine bx (xf (Dg ?_));show Rn ((ag (ay 0) (ag (ay 1) aM) _ h).bind λp=>a9 p.1 p.2) _;exact rv e rfl
theorem uK(hP:AF P)(hn:(placesFrom 0 P.aj)[n]?=some (j,path,r))(hk:Hn r=true)(hs:uU r)(h:MH):a9 [aV P,.int (n:Int)] h=none:=by
 have hl:∃a as,zG r=a::as:=by
  cases r with
  | within l b=>exact⟨l,[],rfl⟩
  | ask l b e=>exact⟨l,[],rfl⟩
  | all ls b=>
   cases ls with
   | nil=>exact absurd rfl hs.2.2
   | cons a b=>exact⟨a,b,rfl⟩
  | _=>cases hk
 obtain⟨a,as,hl⟩:=hl;have e0:E8 cE (ag (ay 0) (ag (ay 1) aM)) (entry 5 [aV P,.int (n:Int)]) h=none:=by
  show(ag (ay 0) (ag (ay 1) aM) _ h).bind (λp=>cE p.1 p.2)=none;exact qi hP hn h
 have e1:fe (aw eU (ag (ay 0) (ag (ay 1) aM))) (gT 3 (ar (gN 2) (ar (gN 3) (ar (gN 4) bS)))) (entry 5 [aV P,.int (n:Int)]) h=some (.nx,[some (aV P),some (.int (n:Int)),some (fU j),some (du path),some (ax r)],h):=by
  refine bx ?_;nofun;refine rv (xi hP hn h) ?_;nofun;rfl
 have e2:Sm.pE (uO (aw dO (ag (ay 4) aM))) [some (aV P),some (.int (n:Int)),some (fU j),some (du path),some (ax r)] h=some (false,h):=by
  refine bx (jm (vn ?_));nofun;refine rv (kA r h) ?_;rw[hl];exact⟨true,rfl,rfl⟩
 unfold a9 Jv Fq;rw[e0];dsimp only;rw[zt e1,Ci e2];rfl
end
end Mi
namespace Pg
open PySem Sm L2
noncomputable def dG:Row->Nat->List Row->Row
 | .within l _,0,x=>.within l x
 | .all l _,0,x=>.all l x
 | .ask l _ e,0,x=>.ask l x e
 | .ask l b _,1,x=>.ask l b x
 | .mQ s t _ b c,0,x=>.mQ s t x b c
 | .mQ s t a _ c,1,x=>.mQ s t a x c
 | .mQ s t a b _,2,x=>.mQ s t a b x
 | .either _ b,0,x=>.either x b
 | .either a _,1,x=>.either a x
 | .again _,0,x=>.again x
 | r,_,_=>r
end Pg
namespace Mi
open PySem Sm L2 Pg
noncomputable def putAt(k:Nat)(x:List Row):List (Nat×Nat)->List Row->List Row
 | [],l=>l.take k++x++l.drop (k+1)
 | s::st,l=>match l[s.1]? with
  | some r=>match (ai r)[s.2]? with
   | some t=>l.take s.1++[dG r s.2 (putAt k x st t)]++l.drop (s.1+1)
   | none=>l
  | none=>l
theorem CK{xs:List D}{k:Nat}{h:MH}(hk:k<=xs.length):gg (.tup xs) none (some (k:Int)) h=some (.tup (xs.take k),h):=by
 unfold gg cutD;dsimp only;rw[HT.jk,HT.lP,Q8 hk,Tv,Ua]
 split
 ·rename_i z;rw[QL (Uc z.2.symm)]
 ·rfl
theorem uT{xs:List D}{k:Nat}{h:MH}(hk:k<=xs.length):gg (.tup xs) (some (k:Int)) none h=some (.tup (xs.drop k),h):=by
 unfold gg cutD;dsimp only;rw[HT.jk,HT.lP,Q8 hk]
 split
 ·rename_i z;rw[z.1,Tv]
 ·rw[QL (by rw[QR];exact Pw _)]
theorem FH{r:Row}{j:Nat}{t:List Row}(e:(ai r)[j]?=some t)(x:List Row):∃(a q:Int)(A B:List D),eL.lookup (bP r)=some [a,q]/\
  (∀h,gg (ax r) none (some (a+(j:Int))) h=some (.tup A,h))/\(∀h,aQ (ax r) (.int (a+(j:Int))) h=some (aZ t,h))/\(∀h,gg (ax r) (some (a+(j:Int)+1)) none h=some (.tup B,h))/\ax (dG r j x)=.tup (A++[aZ x]++B)/\A.length<=10/\B.length<=10:=by
 cases r with
 | say w=>cases e
 | call d ts=>cases e
 | within l b=>match j,e with | 0,e=>cases e;exact⟨2,1,[.str "within",aG l],[],by ac_nf,λh=>by rw[ax];rfl,λh=>by rw[ax];rfl,λh=>by rw[ax];rfl,by rw[dG,ax];rfl,by show 2<=10;decide,by decide⟩
 | all l b=>match j,e with | 0,e=>cases e;exact⟨2,1,[.str "all",.tup (l.map aG)],[],by ac_nf,λh=>by rw[ax];rfl,λh=>by rw[ax];rfl,λh=>by rw[ax];rfl,by rw[dG,ax];rfl,by show 2<=10;decide,by decide⟩
 | ask l b c=>match j,e with
  | 0,e=>cases e;exact⟨2,2,[.str "ask",aG l],[aZ c],by ac_nf,λh=>by rw[ax];rfl,λh=>by rw[ax];rfl,λh=>by rw[ax];rfl,by rw[dG,ax];rfl,by show 2<=10;decide,by show 1<=10;decide⟩
  | 1,e=>cases e;exact⟨2,2,[.str "ask",aG l,aZ b],[],by ac_nf,λh=>by rw[ax];rfl,λh=>by rw[ax];rfl,λh=>by rw[ax];rfl,by rw[dG,ax];rfl,by show 3<=10;decide,by decide⟩
 | mQ s u a b c=>match j,e with
  | 0,e=>cases e;exact⟨3,3,[.str "by",bq s,bq u],[aZ b,aZ c],by ac_nf,λh=>by rw[ax];rfl,λh=>by rw[ax];rfl,λh=>by rw[ax];rfl,by rw[dG,ax];rfl,by show 3<=10;decide,by show 2<=10;decide⟩
  | 1,e=>cases e;exact⟨3,3,[.str "by",bq s,bq u,aZ a],[aZ c],by ac_nf,λh=>by rw[ax];rfl,λh=>by rw[ax];rfl,λh=>by rw[ax];rfl,by rw[dG,ax];rfl,by show 4<=10;decide,by show 1<=10;decide⟩
  | 2,e=>cases e;exact⟨3,3,[.str "by",bq s,bq u,aZ a,aZ b],[],by ac_nf,λh=>by rw[ax];rfl,λh=>by rw[ax];rfl,λh=>by rw[ax];rfl,by rw[dG,ax];rfl,by show 5<=10;decide,by decide⟩
 | either a b=>match j,e with
  | 0,e=>cases e;exact⟨1,2,[.str "either"],[aZ b],by ac_nf,λh=>by rw[ax];rfl,λh=>by rw[ax];rfl,λh=>by rw[ax];rfl,by rw[dG,ax];rfl,by decide,by show 1<=10;decide⟩
  | 1,e=>cases e;exact⟨1,2,[.str "either",aZ a],[],by ac_nf,λh=>by rw[ax];rfl,λh=>by rw[ax];rfl,λh=>by rw[ax];rfl,by rw[dG,ax];rfl,by show 2<=10;decide,by decide⟩
 | again a=>match j,e with | 0,e=>cases e;exact⟨1,1,[.str "again"],[],by ac_nf,λh=>by rw[ax];rfl,λh=>by rw[ax];rfl,λh=>by rw[ax];rfl,by rw[dG,ax];rfl,by decide,by decide⟩
theorem rC{a:Nat}:∀{xs:List Nat},a∈xs->a<=xs.sum
 | x::r,h=>by
  rw[Q3];rcases PB.mp h with rfl | h
  ·exact Qa _ _
  ·exact PL (rC h) (Nat.le_add_left _ _)
theorem EE{l:List Row}{i j:Nat}{r:Row}{t:List Row}(e1:l[i]?=some r)(e2:(ai r)[j]?=some t):ao t<=ao l:=by
 have h1:=mM l (i+1);rw[(uu e1).1] at h1;have h2:=fY r;have h3:ao t<=((ai r).map ao).sum:=rC (SR (Pr e2))
 lia
theorem jv(l:List Row):(b9 l).length=l.length:=by rw[aY,Pp]
theorem xk{p:List Nat}{h:MH}:cm [du p] h=some (.int (p.length:Int),h):=by
 show some (D.int ((p.map fU).length:Int),h)=_;rw[Pp]
theorem yW{l:List Row}{k:Nat}{h:MH}(hk:k<=l.length):gg (aZ l) none (some (k:Int)) h=some (aZ (l.take k),h):=by
 unfold aZ;rw[CK (by rw[jv];exact hk),aY,aY,Sk]
theorem rm{l:List Row}{k:Nat}{h:MH}(hk:k<=l.length):gg (aZ l) (some (k:Int)) none h=some (aZ (l.drop k),h):=by
 unfold aZ;rw[uT (by rw[jv];exact hk),aY,aY,TC]
theorem gw{a b:List Row}{h:MH}(hl:a.length+b.length<=10000):av (aZ a) (aZ b) h=some (aZ (a++b),h):=by
 unfold aZ;rw[rO (by rw[jv,jv];exact hl),aY,aY,aY,P4]
theorem yJ{a b:Nat}{p:List Nat}{h:MH}:gg (du (a::b::p)) (some 2) none h=some (du p,h):=uT (xs:=fU a::fU b::p.map fU) (k:=2) (by simp)
theorem kz{k:Nat}{x:List Row}(hx:x.length<=1000):∀(st:List (Nat×Nat)) (f:Nat) (l lot:List Row) (h:MH),oW l st=some lot->st.length < f->k < lot.length->ao l<=1000->dM f [aZ l,Bb st k,aZ x] h=some (aZ (putAt k x st l),h)
 | [],f,l,lot,h,e,hf,hk,hc=>by
  cases e;cases f with
  | zero=>exact absurd hf (Nat.not_lt_zero _)
  | succ f=>
  have hl:=r8 l;rw[dM];refine bx (bF ?_);nofun;refine rv (mJ (p:=flat []++[k]) (i:=0) rfl) ?_;nofun;refine rv (xk (p:=flat []++[k])) ?_;nofun;refine⟨false,rfl,λz=>(nomatch z),λ_=>?_⟩;nofun;refine⟨_,rfl,rv (yW (Rk hk)) ?_⟩;nofun;refine rv (gw (by rw[PY];lia)) ?_;nofun;refine rv (a:=(.int ((k+1:Nat):Int),h)) rfl ?_;nofun;refine⟨_,rfl,rv rfl (rv (rm hk) ?_)⟩;nofun;refine rv (gw (by rw[PF,PY,QR];lia)) ?_;nofun;rfl
 | s::st,f,l,lot,h,e,hf,hk,hc=>by
  obtain⟨t,e1,e2⟩:=bE e;obtain⟨r,e3,e4⟩:=bE e1;cases f with
  | zero=>exact absurd hf (Nat.not_lt_zero _)
  | succ f=>
  have hl:=r8 l;have ht:=EE e3 e4;have hi:s.1 < l.length:=(Pq.mp e3).1;have ih:=kz hx st f t lot h e2 (Nat.lt_of_succ_lt_succ hf) hk (PL ht hc);have hput:putAt k x (s::st) l=l.take s.1++[dG r s.2 (putAt k x st t)]++l.drop (s.1+1):=by
   simp only[putAt,e3,e4]
  obtain⟨a,q,A,B,p1,p2,p3,p4,p5,p6,p7⟩:=FH e4 (putAt k x st t);rw[dM,hput];refine bx (bF ?_);nofun;refine rv (mJ (p:=s.1::s.2::(flat st++[k])) (i:=0) rfl) ?_;nofun;refine rv (xk (p:=s.1::s.2::(flat st++[k]))) ?_;nofun;refine⟨true,?_,λ_=>?_,λz=>(nomatch z)⟩
  ·show D.bl (decide ((1:Int) < ((s.1::s.2::(flat st++[k])).length:Int)))=_;rw[Qb (by simp only[PK];lia)]
  nofun;refine rv (Ak e3) ?_;nofun;refine rv (tJ r h) ?_;nofun;refine rv (a:=(.tup [.int a,.int q],h)) (by show(eL.lookup (bP r)).map _=_;rw[p1];rfl) ?_;nofun;refine rv (mJ (p:=s.1::s.2::(flat st++[k])) (i:=1) rfl) ?_;nofun;refine rv (a:=(.int (a+(s.2:Int)),h)) rfl ?_;nofun;refine⟨_,rfl,rv (p2 h) ?_⟩;nofun;refine rv (p3 h) ?_;nofun;refine⟨_,rfl,rv rfl (rv (yJ (p:=flat st++[k])) ?_)⟩;nofun;refine rv ih ?_;nofun;refine rv (rO (xs:=A) (ys:=[aZ (putAt k x st t)]) (by simp;lia)) ?_;nofun;refine⟨_,rfl,rv rfl (rv (p4 h) ?_)⟩;nofun;refine rv (rO (xs:=A++[aZ (putAt k x st t)]) (ys:=B) (by simp;lia)) ?_;nofun;rw[show D.tup [D.tup (A++[aZ (putAt k x st t)]++B)]=aZ [dG r s.2 (putAt k x st t)] by rw[<-p5];unfold aZ;rw[aY];rfl];refine⟨_,rfl,rv (yW (Rk hi)) ?_⟩;nofun;refine rv (gw (b:=[dG r s.2 (putAt k x st t)]) (by rw[PY];simp;lia)) ?_;nofun;refine rv (a:=(.int ((s.1+1:Nat):Int),h)) rfl ?_;nofun;refine⟨_,rfl,rv rfl (rv (rm hi) ?_)⟩;nofun;refine rv (gw (by rw[PF,PY,QR];simp;lia)) ?_;nofun
noncomputable def IL(P:Prog)(j k:Nat)(x:List Row)(st:List (Nat×Nat))(d:dP):Prog:={P with aj:=P.aj.take j++[(d.1,d.2.1,putAt k x st d.2.2)]++P.aj.drop (j+1)}
theorem l9{P:Prog}{j k:Nat}{x lot:List Row}{st:List (Nat×Nat)}{d:dP}(hx:x.length<=1000)(hd:P.aj[j]?=some d)(hl:oW d.2.2 st=some lot)(hst:st.length < 6)(hk:k < lot.length)(hc:ao d.2.2<=1000)(hP:P.aj.length<=1000)(h:MH):
  f9 [aV P,fU j,Bb st k,aZ x] h=some (aV (IL P j k x st d),h):=by
 have hj:j < P.aj.length:=(Pq.mp hd).1;have e1:aV P=.tup [.tup (P.names.map D.str),.tup (P.aj.map eB)]:=rfl;have s1:gg (.tup (P.aj.map eB)) none (some (j:Int)) h=some (.tup ((P.aj.take j).map eB),h):=by rw[CK (by rw[Pp];lia),Sk]
 have s2:gg (.tup (P.aj.map eB)) (some ((j+1:Nat):Int)) none h=some (.tup ((P.aj.drop (j+1)).map eB),h):=by rw[uT (by rw[Pp];lia),TC]
 refine bx (bF ?_);rw[e1];nofun;refine rv (a:=(.tup [.str d.1,.tup (d.2.1.map D.str),aZ d.2.2],h)) (ia (i:=j) (by rw[PR,hd];rfl)) ?_;nofun;refine⟨_,rfl,rv s1 ?_⟩;nofun;refine rv (kz hx st 6 d.2.2 lot h hl hst hk hc) ?_;nofun;refine rv (rO (ys:=[.tup [.str d.1,.tup (d.2.1.map D.str),aZ (putAt k x st d.2.2)]]) (by simp;lia)) ?_;nofun;refine rv (a:=(.int ((j+1:Nat):Int),h)) rfl ?_;nofun;refine⟨_,rfl,rv rfl (rv s2 ?_)⟩;nofun;refine rv (rO (by simp;lia)) ?_;nofun;show(D.tup [D.tup (P.names.map D.str),D.tup _],h)=(D.tup [D.tup (P.names.map D.str),D.tup ((P.aj.take j++[(d.1,d.2.1,putAt k x st d.2.2)]++P.aj.drop (j+1)).map eB)],h);rw[P4,P4];rfl
section
variable {P:Prog} {n j k:Nat} {st:List (Nat×Nat)} {r:Row} {d:dP} {lot b:List Row} {gone:List (List Row)}
theorem mB{l:List Row}{h:MH}:cm [aZ l] h=some (.int (l.length:Int),h):=by
 show some (D.int ((b9 l).length:Int),h)=_;rw[jv]
theorem Bm(hd:P.aj[j]?=some d)(hl:oW d.2.2 st=some lot)(hst:st.length < 6)(x1 x4:Option D)(h:MH):
  aE (ak vV (ak av (ak mG (aw cm (ag (aw iq (ag (aw fM (ag (ay 0) (ag (ay 2) aM))) (ag (ay 3) aM))) aM)) (eK (.int 1))) (aw cm (ag (ay 5) aM))) (eK (.int 12))) [some (aV P),x1,some (fU j),some (Bb st k),x4,some (aZ b)] h=some (decide (12 < (lot.length:Int)-1+(b.length:Int)),h):=by
 refine bx (jo ?_);nofun;refine rv (qK hd) ?_;nofun;refine rv (oV hl (by lia)) ?_;nofun;refine rv mB ?_;nofun;refine rv mB ?_;nofun;exact⟨_,rfl,rfl⟩
theorem BA(hb:ai r=b::gone)(δ:DS)(hδ:δ[4]?=some (some (ax r)))(h:MH):ak aQ (aw dR (ag (ay 4) aM)) (eK (.int 0)) δ h=some (aZ b,h):=by
 refine bx (lY (Dj (cA (fD hδ (i5 (rv (fK r h) ?_))))));rw[hb,PN];exact Fb (rv (show aQ (.tup (aZ b::gone.map aZ)) (.int ((0:Nat):Int)) h=some (aZ b,h) from ia rfl) rfl)
theorem qh(hP:AF P)(hn:(placesFrom 0 P.aj)[n]?=some (j,flat st++[k],r))(hk:Hn r=true)(hs:uU r)(hb:ai r=b::gone)(hd:P.aj[j]?=some d)(hl:oW d.2.2 st=some lot)(hst:st.length < 6)(hm:12 < (lot.length:Int)-1+(b.length:Int))(h:MH):
  bA [aV P,.int (n:Int)] h=some (("NoRow":Str),h):=by
 refine bx (xf (De ?_ (vm ?_)))
 ·show(ag (ay 0) (ag (ay 1) aM) _ h).bind (λp=>a9 p.1 p.2)=none;exact uK hP hn hk hs h
 ·nofun;refine rv (rp hP hn hk hs h) ?_;nofun;refine⟨rfl,vm (xb (rv (BA hb _ (by rfl) h) ⟨rfl,?_⟩))⟩;refine Dh (rv (Bm (k:=k) (b:=b) hd hl hst _ _ h) ⟨λ_=>qR (cA (Fb (i5 rfl))),λz=>?_⟩);exact absurd hm (SV z)
theorem yg(hP:AF P)(hn:(placesFrom 0 P.aj)[n]?=some (j,flat st++[k],r))(hk:Hn r=true)(hs:uU r)(hb:ai r=b::gone)(hd:P.aj[j]?=some d)(hl:oW d.2.2 st=some lot)(hst:st.length < 6)(hkl:k < lot.length)(hc:ao d.2.2<=1000)(hbl:b.length<=1000)(hm:¬12 < (lot.length:Int)-1+(b.length:Int))(h:MH):
  cT [aV P,.int (n:Int)] h=some (aV (IL P j k b st d),h):=by
 refine bx (bF (fE ?_));nofun;refine rv (rp hP hn hk hs h) ?_;nofun;refine rv (fK r h) ?_;rw[hb,PN];nofun;refine rv (qK hd) ?_;nofun;refine rv (oV hl (by lia)) ?_;nofun;refine rv mB ?_;nofun;refine rv mB ?_;nofun;refine⟨_,rfl,λz=>absurd (Qy z) hm,λ_=>?_⟩;nofun;refine rv (l9 hbl hd hl hst hkl hc hP.dl h) ?_;nofun
end
noncomputable def D0(k:Nat):Str:=match aQ (.str "abcdefghijkl") (.int (k:Int)) [] with
 | some (.str x,_)=>x
 | _=>""
theorem Gs{k:Nat}(hk:k < 12)(h:MH):aQ (.str "abcdefghijkl") (.int (k:Int)) h=some (.str (D0 k),h):=by
 have e:(List.range 12).map (λ(k:Nat)(h:MH)=>aQ (.str "abcdefghijkl") (.int (k:Int)) h)=(List.range 12).map (λ(k:Nat)(h:MH)=>some (D.str (D0 k),h)):=by ac_nf
 exact congrFun (Tf.mp e k (QB.mpr hk)) h
noncomputable def fh(i:Nat):List Row:=(List.range i).map λk=>.say (D0 k)
noncomputable def Aj(z:Int):Lock:=("a",("",z))
noncomputable def hV(z:Int)(i:Nat):List Row:=[.within (Aj z) (fh i),.all [Aj z,("b",("",0))] (fh i),.ask (Aj z) (fh i) ((fh i).take 2)]
noncomputable def bo(m a:Nat)(r:Row):List Row:=List.replicate a (.say "z")++[r]++List.replicate (m-1-a) (.say "y")
noncomputable def mI(l:List Row):Prog:=⟨["a","b"],[("go",[],[.again l])]⟩
theorem Ah{l:List Row}:aV (mI l)=.tup [.tup [.str "a",.str "b"],.tup [.tup [.str "go",.tup [],.tup [.tup [.str "again",aZ l]]]]]:=by
 have e:b9 [.again l]=[.tup [.str "again",aZ l]]:=by rw[aY,PN,ax];rfl
 show D.tup [.tup [.str "a",.str "b"],.tup [.tup [.str "go",.tup [],.tup (b9 [.again l])]]]=_;rw[e]
theorem Ib{xs:List D}{k:Nat}{h:MH}:gg (.tup xs) none (some (k:Int)) h=some (.tup (xs.take k),h):=by
 by_cases hk:k<=xs.length
 ·exact CK hk
 ·unfold gg;dsimp only;rw[HT.jk,HT.lP,Nat.min_eq_right (by lia),Py ⟨rfl,rfl⟩,QL (by lia)]
theorem Gq{l:List Row}{k:Nat}{h:MH}:gg (aZ l) none (some (k:Int)) h=some (aZ (l.take k),h):=by
 unfold aZ;rw[Ib,aY,aY,Sk]
theorem rep1{x:D}{a:Nat}{h:MH}(ha:a<=1000):tj (.lv [x]) (.int (a:Int)) h=some (.lv (List.replicate a x),h):=by
 show(if(0:Int)<=a/\(a:Int)<=1000/\[x].length<=1000 then some (D.lv (List.replicate (a:Int).toNat [x]).flatten,h) else none)=_;rw[Py ⟨by lia,by lia,by simp⟩,QW];congr 3
 induction a with
 | zero=>rfl
 | succ n ih=>rw[Qw,Qw,QV,ih (by lia)];rfl
theorem Kr{s c R:Nat}{cs:List Int}{h0 h:MH}{Q:D×MH->Prop}(A:Sb s c cs h0 (R+5) h)
  (k:∀(m i a:Nat)(z:Int)(r:Row)(h1:MH),8<=m->m<=12->i<=12->a < m->0<=z->z<=8->r∈hV z i->Sb s c cs h0 R h1->Q (.tup [aV (mI (bo m a r)),.int (a:Int),aZ ((bo m a r).take a++fh i++(bo m a r).drop (a+1))],h1)):
  Rn (jL [.ob s] h) Q:=by
 refine bF ?_;nofun;refine cS (R:=R+4) A (by decide) (by decide) λm0 h1 a1 b1 A1=>?_;nofun;refine cS (R:=R+3) A1 (by decide) (by decide) λi0 h2 a2 b2 A2=>?_;nofun;obtain⟨m,hm⟩:∃m:Nat,8+m0=(m:Int):=⟨(8+m0).toNat,by lia⟩;obtain⟨i,rfl⟩:=QA a2;rw[hm];refine⟨_,_,rfl,qp ?_⟩;nofun;refine fQ ?_;nofun;refine⟨(i:Int),rfl,by lia,by lia,?_⟩;rw[QW];refine rv (rZ (t:=[]) (λo:Nat=>D.int (o:Int)) (λo=>ax (.say (D0 o))) (List.range i) none λo ho=>?_) ⟨by rw[Pp,P6,show sizeLine=16777216 from rfl];lia,?_⟩
 ·refine bx ?_;nofun;refine rv (Gs (by have:=QB.mp ho;lia) h2) ?_;nofun;rw[ax]
 nofun;refine rv (a:=(aZ (fh i),h2)) (by
  show some (D.tup ((List.range i).map λo=>ax (.say (D0 o))),h2)=_;unfold aZ fh;rw[aY,QD];rfl) ?_
 nofun;refine cS (R:=R+2) A2 (by decide) (by decide) λz h3 a3 b3 A3=>?_;nofun;refine⟨_,rfl,rv (Gq (l:=fh i) (k:=2)) ?_⟩;nofun;refine EN (R:=R+1) (xs:=(hV z i).map ax) A3 (.inl (by unfold hV;simp only[PN,Rl,ax];rfl)) (by simp[hV]) (by simp[hV]) λx h4 hx A4=>?_;obtain⟨r,hr,rfl⟩:=Ql.mp hx;nofun;refine cS (R:=R) A4 (by lia) (QM (show(m:Int)<=12 by lia) (by decide)) λa0 h5 a4 b4 A5=>?_;obtain⟨a,rfl⟩:=QA a4;nofun;have hal:(bo m a r).length=m:=by unfold bo;simp;lia
 refine rv (a:=(.lv ((List.replicate a (Row.say "z")).map ax),h5)) (by rw[Uy,ax];exact rep1 (by lia)) ?_;nofun;refine rv (a:=(aZ (List.replicate a (Row.say "z")),h5)) (by unfold aZ;rw[aY];rfl) ?_;nofun;refine rv (a:=(aZ (List.replicate a (Row.say "z")++[r]),h5)) (by rw[show D.tup [ax r]=aZ [r] by unfold aZ;rw[aY];rfl];exact gw (by simp;lia)) ?_;nofun;refine rv (a:=(.lv ((List.replicate (m-1-a) (Row.say "y")).map ax),h5)) (by rw[show((m:Int)-1-(a:Int))=((m-1-a:Nat):Int) by lia,Uy,ax];exact rep1 (by lia)) ?_;nofun;refine rv (a:=(aZ (List.replicate (m-1-a) (Row.say "y")),h5)) (by unfold aZ;rw[aY];rfl) ?_;nofun;refine rv (a:=(aZ (bo m a r),h5)) (gw (by simp;lia)) ?_;nofun;refine⟨_,rfl,rv (yW (l:=bo m a r) (by lia)) ?_⟩;nofun;refine rv (gw (b:=fh i) (by rw[PY,hal];unfold fh;simp;lia)) ?_;nofun;refine⟨((a+1:Nat):Int),rfl,rv rfl (rv (rm (l:=bo m a r) (by lia)) ?_)⟩;nofun;refine rv (gw (by rw[PF,PY,QR,hal];unfold fh;simp;lia)) ?_;nofun;rw[<-Ah];exact k m i a z r h5 (by lia) (by lia) (by lia) (by lia) a3 (by lia) hr A5
def Dp(n:Nat)(d:D):Prop:=∃p,vw d=some p/\p.depth<=n/\PyData.eqv p p=true
def ke(n:Nat)(xs:List D):Prop:=∃ps,oF xs=some ps/\PyData.depthAll ps<=n/\PyData.eqvAll ps ps=true
theorem ke.nil{n:Nat}:ke n []:=⟨[],rfl,by simp[PyData.depthAll],rfl⟩
theorem ke.cons{n:Nat}{x:D}{xs:List D}(a:Dp n x)(b:ke n xs):ke n (x::xs):=by
 obtain⟨p,e1,e2,e3⟩:=a;obtain⟨ps,f1,f2,f3⟩:=b;refine⟨p::ps,?_,?_,?_⟩
 ·show(vw x).bind (λa=>(oF xs).map λb=>a::b)=_;rw[e1,f1];rfl
 ·rw[PyData.depthAll];exact Uw.mpr ⟨e2,f2⟩
 ·rw[PyData.eqvAll,e3,f3];rfl
theorem ke.map{α:Type}{n:Nat}{f:α->D}:∀{xs:List α},(∀x∈xs,Dp n (f x))->ke n (xs.map f)
 | [],_=>ke.nil
 | x::xs,h=>ke.cons (h x Px) (ke.map λy hy=>h y (Pz _ hy))
theorem Dp.tup{n:Nat}{xs:List D}(a:ke n xs):Dp (n+1) (.tup xs):=by
 obtain⟨ps,f1,f2,f3⟩:=a;refine⟨.tuple ps,?_,?_,?_⟩
 ·show(oF xs).map _=_;rw[f1];rfl
 ·rw[PyData.depth];exact RT f2
 ·rw[PyData.eqv];exact f3
theorem Dp.str{n:Nat}(w:Str):Dp n (.str w):=⟨.str w,rfl,by simp[PyData.depth],by simp[PyData.eqv]⟩
theorem BF{xs:List D}{h:MH}(a:Dp 64 (.tup xs)):jz (.tup xs) (.tup xs) h=some (.bl false,h):=by
 obtain⟨p,e1,e2,e3⟩:=a;show(Hq (.tup xs) (.tup xs) h).map _=_;unfold Hq;show(((vw (.tup xs)).bind λa=>(vw (.tup xs)).bind _).map _)=_;rw[e1];show((if p.depth<=64/\p.depth<=64 then some (PyData.eqv p p) else none).map _)=_;rw[Py ⟨e2,e2⟩,e3];rfl
end Mi
namespace Pg
open PySem Sm L2
theorem wb:∀(a b:List Row),ao (a++b)=ao a+ao b
 | [],b=>by simp[ao]
 | r::a,b=>by rw[Qv,ao,ao,wb a b,QK]
theorem qb(a:Nat)(w:Str):ao (List.replicate a (.say w))=a:=by
 induction a with
 | zero=>simp[ao]
 | succ n ih=>rw[Qw,ao,ih,cnt,R3]
theorem rj{k:Nat}:∀{l:List Row},(∀r∈l,cq r<=k)->bh l<=k+1
 | [],_=>by rw[bh];exact Nat.le_add_left _ _
 | r::l,h=>by
  have h1:=h r Px;have h2:=rj λx hx=>h x (Pz _ hx);rw[bh];exact Uw.mpr ⟨by lia,h2⟩
theorem ze{k:Nat}:∀{l:List Row},(∀r∈l,cnt r<=k)->ao l<=k*l.length
 | [],_=>by simp[ao]
 | r::l,h=>by
  have h1:=h r Px;have h2:=ze λx hx=>h x (Pz _ hx);rw[ao,PK,Ub]
  lia
end Pg
namespace Mi
open PySem Sm L2 Pg
section
variable {m a i n:Nat} {z:Int} {r:Row}
theorem qB(h:r∈fh i):∃w,r=.say w:=by
 obtain⟨k,_,rfl⟩:=Ql.mp h;exact⟨_,rfl⟩
theorem jA:(fh i).length=i:=by unfold fh;rw[Pp,P6]
theorem BI:bh (fh i)<=1:=rj (k:=0) λr h=>by
 obtain⟨w,rfl⟩:=qB h;rw[cq];exact Pw _
theorem Em:ao (fh i)<=i:=by
 have:=ze (k:=1) (l:=fh i) λr h=>by
  obtain⟨w,rfl⟩:=qB h;rw[cnt];exact Pw _
 rw[jA] at this
 lia
theorem BD(h:r∈hV z i):∃gone,ai r=fh i::gone:=by
 rcases PB.mp h with rfl | h
 ·exact⟨_,rfl⟩
 rcases PB.mp h with rfl | h
 ·exact⟨_,rfl⟩
 rw[PD.mp h];exact⟨_,rfl⟩
theorem GH(h:r∈hV z i):Hn r=true:=by
 rcases PB.mp h with rfl | h
 ·rfl
 rcases PB.mp h with rfl | h
 ·rfl
 rw[PD.mp h];rfl
theorem M9:Sh 8 ("a":Str)/\Sh 8 ("b":Str)/\Sh 8 ("":Str):=by
 unfold Sh;exact⟨⟨by decide+kernel,by decide+kernel⟩,⟨by decide+kernel,by decide+kernel⟩,⟨by decide+kernel,by decide+kernel⟩⟩
theorem GG(z0:0<=z)(z8:z<=8)(h:r∈hV z i):uU r:=by
 have k:Ig (Aj z):=⟨M9.1,M9.2.2,by show -99<=z;lia,by show z<=99;lia⟩;rcases PB.mp h with rfl | h
 ·exact k
 rcases PB.mp h with rfl | h
 ·refine⟨by show 2<=4;decide,λl hl=>?_,λy=>(nomatch y)⟩;rcases PB.mp hl with rfl | hl
  ·exact k
  rw[PD.mp hl];exact⟨M9.2.1,M9.2.2,by decide,by decide⟩
 rw[PD.mp h];exact k
theorem BC(h:r∈hV z i):cq r<=1:=by
 have a:=BI (i:=i);rcases PB.mp h with rfl | h
 ·rw[cq];exact a
 rcases PB.mp h with rfl | h
 ·rw[cq];exact a
 rw[PD.mp h,cq];exact Uw.mpr ⟨a,rj (k:=0) λr h=>by
  obtain⟨w,rfl⟩:=qB (Rw h);rw[cq];exact Pw _⟩
theorem Eh(h:r∈hV z i):cnt r<=3+i:=by
 have a:=Em (i:=i);rcases PB.mp h with rfl | h
 ·rw[cnt];lia
 rcases PB.mp h with rfl | h
 ·rw[cnt];lia
 have b:=ze (k:=1) (l:=(fh i).take 2) λr h=>by
  obtain⟨w,rfl⟩:=qB (Rw h);rw[cnt];exact Pw _
 have c:=List.length_take_le 2 (fh i);rw[PD.mp h,cnt]
 lia
theorem BH(ha:a < m):(bo m a r).length=m:=by unfold bo;simp;lia
theorem El:(bo m a r).take a++fh i++(bo m a r).drop (a+1)=List.replicate a (.say "z")++fh i++List.replicate (m-1-a) (.say "y"):=by
 have e1:(bo m a r).take a=List.replicate a (.say "z"):=by
  unfold bo;rw[Qg,Rj (by rw[RS];exact Pw _),QL (by rw[RS];exact Pw _)]
 have e2:(bo m a r).drop (a+1)=List.replicate (m-1-a) (.say "y"):=by
  unfold bo;rw[List.drop_append,List.drop_of_length_le (by simp),QC];simp
 rw[e1,e2]
theorem ug(ha:a < m)(hm:m<=12)(hi:i<=12)(h:r∈hV z i):ao (bo m a r)<=60:=by
 have:=Eh h;unfold bo;rw[wb,wb,qb,qb,ao,ao]
 lia
theorem y8(h:r∈hV z i):bh (bo m a r)<=2:=rj (k:=1) λx hx=>by
 rcases PX.mp hx with hx | hx
 ·rcases PX.mp hx with hx | hx
  ·rw[RD hx,cq];exact Ri _
  ·rw[PD.mp hx];exact BC h
 ·rw[RD hx,cq];exact Ri _
theorem BE(ha:a < m)(hm:m<=12)(hi:i<=12)(h:r∈hV z i):AF (mI (bo m a r)):=by
 have h1:=ug ha hm hi h;have h2:=y8 (m:=m) (a:=a) h;refine⟨λd hd=>?_,?_,by show 1<=1000;decide⟩
 ·rw[PD.mp hd];exact rj (k:=5) λx hx=>by
   rw[PD.mp hx,cq]
   lia
 ·show[ao [.again (bo m a r)]].sum<=1000;rw[List.sum_singleton,ao,ao,cnt]
  lia
theorem Ei:(placesFrom 0 (mI (bo m a r)).aj)[1+a]?=some (0,flat [(0,0)]++[a],r):=by
 have e:aI [0,0] 0 (bo m a r)=aI [0,0] 0 (List.replicate a (.say "z"))++(([0,0,a],r)::(di [0,0,a] r++aI [0,0] (a+1) (List.replicate (m-1-a) (.say "y")))):=by
  unfold bo;rw[Qg,iG,RS,QT,List.singleton_append,aI];rfl
 show(([placesFrom 0 (mI (bo m a r)).aj][0]?.getD [])[1+a]?)=_;show((aI [] 0 [.again (bo m a r)]).map (λx=>((0:Nat),x.1,x.2))++[])[1+a]?=_;rw[Qu,PR,aI,di,aI,Qu];show(((([0]:List Nat),Row.again (bo m a r))::aI [0,0] 0 (bo m a r))[1+a]?).map _=_;rw[R3 1 a,Qz,e,P0 (by rw[aP,qb];exact Pw _),aP,qb,RZ];rfl
theorem Ba:IL (mI (bo m a r)) 0 a (fh i) [(0,0)] ("go",[],[.again (bo m a r)])=mI ((bo m a r).take a++fh i++(bo m a r).drop (a+1)):=rfl
theorem KP{n:Nat}{l:List Row}(h:∀r∈l,∃w,r=.say w):Dp (n+2) (aZ l):=by
 unfold aZ;rw[aY];refine Dp.tup (ke.map λr hr=>?_);obtain⟨w,rfl⟩:=h r hr;rw[ax];exact Dp.tup (ke.cons (Dp.str _) (ke.cons (Dp.str _) ke.nil))
end
theorem ur{α:Type}{c:TM}{e:EM}{h:MH}{t:DS}(A f:α->D)(p:α->Bool):∀(xs:List α)(o:Option D),(∀x∈xs,c (some (A x)::t) h=some (p x,h))->(∀x∈xs,p x=true->e (some (A x)::t) h=some (f x,h))->bH [] (gN 0) c e (xs.map A) (o::t) h=some ((xs.filter p).map f,h)
 | [],o,_,_=>rfl
 | x::r,o,hc,he=>by
  have e2:=ur A f p r (some (A x)) (λy hy=>hc y (Pz _ hy)) λy hy=>he y (Pz _ hy);show((c (some (A x)::t) h).bind λq=>if q.1=true then(e (some (A x)::t) q.2).bind λy=>(bH [] (gN 0) c e (r.map A) (some (A x)::t) y.2).map λz=>(y.1::z.1,z.2) else bH [] (gN 0) c e (r.map A) (some (A x)::t) q.2)=_;rw[hc x Px];dsimp only[Option.bind_some]
  by_cases z:p x=true
  ·rw[Py z,he x Px z];dsimp only[Option.bind_some];rw[e2,QI,Py z];rfl
  ·rw[PH z,e2,QI,PH z]
theorem DQ(r:Row)(h:MH):iO (.str (bP r)) (.tup [.str "within",.str "all",.str "ask"]) h=some (.bl (!Hn r),h):=by
 cases r <;> ac_nf
noncomputable def Gj(P:Prog)(n:Nat):Bool:=!((placesFrom 0 P.aj)[n]?.any λx=>Hn x.2.2)
theorem Mx{h:MH}{s c R:Nat}{cs:List Int}{Q:D×MH->Prop}(S:St s c cs (R+6200) h)(C:Cl h)(k:∀(W:Wd)(fl:List Int)(odd:Int)(m:Nat)(P:Prog)(h1:MH),m<=60->sj W fl odd->MW W m P->Sb s c cs h R h1->Cl h1->Q (aV P,h1)):Rn (lx [.ob s] h) Q:=by
 refine bF ?_;nofun;refine kF (R:=R+6198+1) (is:=[4,8,12,20,40,60]) (λi=>0<=i/\i<=60) (by decide) S.sb λmost h1 hm _ A1=>?_;nofun;refine kF (R:=R+6198) (is:=[0,2,5,9]) (λi=>0<=i/\i<=9) (by decide) A1 λodd h2 ho _ A2=>?_;nofun;obtain⟨m,rfl⟩:=QA hm.1;refine BV (R:=R) (A2.le (by lia)) (C.but A2.S A2.b) ho.1 (by lia) λW fl P h3 ok okp A3 C3=>?_;nofun;exact k W fl odd m P h3 (by lia) ok okp A3 C3
theorem Po(cs:List Int):Cl [.lst (cs.map D.int),.lst [.int 0,.ob 0,.int 0]]:=by
 intro o ho;rcases PB.mp ho with rfl | ho
 ·exact eR _ D.int (λ_=>rfl) _
 ·rw[PD.mp ho];rfl
theorem Gi{P:Prog}(hP:AF P){z:Int}(hz:z < 0\/(cH P.aj:Int)<=z\/∃n:Nat,z=n/\n < cH P.aj/\Gj P n=true)(h:MH):a9 [aV P,.int z] h=some (("NoRow":Str),h):=by
 have hl:=fR 0 P.aj;rcases hz with z0 | z0 |⟨n,rfl,hn,hb⟩
 ·exact kh hP (.inl z0) h
 ·exact kh hP (.inr (by rw[hl];exact z0)) h
 ·obtain⟨x,hx⟩:∃x,(placesFrom 0 P.aj)[n]?=some x:=⟨_,PV (by rw[hl];exact hn)⟩;obtain⟨j,path,r⟩:=x;refine uJ hP hx ?_ h;unfold Gj at hb;rw[hx] at hb
  simpa using hb
theorem Gh{P:Prog}(hP:OA P){n:Nat}(hn:n < cH P.aj)(h:MH):aE (ak iO (aw gB (ag (ay 1) (ag (ay 0) aM))) (eK (.tup [.str "within",.str "all",.str "ask"]))) [some (.int (n:Int)),some (.lv ((DY P).map oY))] h=some (Gj P n,h):=by
 have hD:∀d∈P.aj,Nb d:=λd hd=>⟨PL (hP.fit.nd d hd) (by decide),(hP.dd d hd).2.2.2⟩;have hct:cH P.aj<=900:=hP.ct;have hlen:=gx 8 0 P.aj;have hdl:=hP.dl;have hPl:(DY P).length<=6000:=by rw[DY,PK];lia
 obtain⟨r,f,⟨pre,post,d,hL,g1,g2,g3,g4,g5,g6,g7,g8⟩,⟨j,path,hpl⟩,hsr,hlots,hf8⟩:=Hu P.aj 0 n 0 (Ri _) (by lia) hD;rw[Ua] at hpl;have hLP:DY P=(ja (Str.join (Str.ofString " ") (Str.ofString "locks"::P.names))::pre)++(fG (jw f) n r++post):=by rw[DY,hL];rfl
 have hpre:∀x∈ja (Str.join (Str.ofString " ") (Str.ofString "locks"::P.names))::pre,x.1≠(n:Int):=λx hx=>by
  rcases PB.mp hx with rfl | hx
  ·show(-1:Int)≠n;lia
  ·exact g1 x hx
 refine bx (jo ?_);nofun;refine rv (Fx hsr (post:=_) (hLP.trans rfl) hpre (by lia) h) ?_;nofun;refine rv (DQ r h) ⟨_,rfl,?_⟩;unfold Gj;rw[hpl];simp
end Mi
namespace Pg
open PySem Sm L2
theorem iw{w:Str}(h:1<=w.length/\w.length<=7/\Mi.low w):Sh 8 w:=⟨by lia,Mi.JC h.2.2⟩
section
variable {W:Wd} {fl:List Int} {odd:Int} {ps:List Str}
theorem pT(hp:∀w∈ps,Sh 8 w){t:Term}(h:eP ps t):Ie t:=by
 refine⟨?_,h.2.1,h.2.2⟩;rcases h.1 with e | e
 ·rw[e];exact⟨by decide+kernel,by decide+kernel⟩
 ·exact hp _ e
theorem vN(ok:Mi.sj W fl odd)(hp:∀w∈ps,Sh 8 w){l:Lock}(h:fA W ps l):Ig l:=⟨iw (ok.sn _ h.1),pT hp h.2⟩
theorem Iu(ok:Mi.sj W fl odd)(hp:∀w∈ps,Sh 8 w){n:Nat}{r:Row}(h:bG W ps n r):uU r/\∀t∈ai r,bN W ps (n+1) t:=by
 cases r with
 | say w=>
  rw[bG] at h;refine⟨?_,λt ht=>(nomatch ht)⟩;rcases PX.mp h with z | z
  ·exact iw (ok.sn _ z)
  ·exact iw (ok.sd _ z)
 | call d ts=>
  rw[bG] at h;obtain⟨⟨j,qs,e1,e2,e3⟩,ht⟩:=h;refine⟨⟨iw (ok.sd _ (Pr e1)),by rw[e3];exact ok.p3 qs (Pr e2),λt h=>pT hp (ht t h)⟩,λt ht=>(nomatch ht)⟩
 | within l b=>rw[bG] at h;exact⟨vN ok hp h.1,λt ht=>by rw[PD.mp ht];exact h.2.2.2⟩
 | all ls b=>
  rw[bG] at h;exact⟨⟨h.1.2.1,λl hl=>vN ok hp (h.1.2.2.2 l hl),by intro e;have:=h.1.1;rw[e] at this;simp at this⟩,λt ht=>by rw[PD.mp ht];exact h.2.2.2⟩
 | ask l b e=>
  rw[bG] at h;refine⟨vN ok hp h.1,λt ht=>?_⟩;rcases PB.mp ht with rfl | ht
  ·exact h.2.2.2.2.1
  ·rw[PD.mp ht];exact h.2.2.2.2.2
 | mQ s t a b c=>
  rw[bG] at h;obtain⟨h1,h2,_,_,_,_,h3,h4,h5⟩:=h;refine⟨⟨pT hp h1,pT hp h2⟩,λt ht=>?_⟩;simp only[ai,PB,Tg,or_false] at ht;rcases ht with rfl | rfl | rfl
  ·exact h3
  ·exact h4
  ·exact h5
 | either a b=>
  rw[bG] at h;obtain⟨_,_,_,h3,h4⟩:=h;refine⟨trivial,λt ht=>?_⟩;simp only[ai,PB,Tg,or_false] at ht;rcases ht with rfl | rfl
  ·exact h3
  ·exact h4
 | again a=>rw[bG] at h;exact⟨trivial,λt ht=>by rw[PD.mp ht];exact h.2.2⟩
theorem DW(ok:Mi.sj W fl odd)(hp:∀w∈ps,Sh 8 w):∀(f n:Nat)(l:List Row),bN W ps n l->yr f l
 | 0,_,_,_=>trivial
 | f+1,n,l,h=>λr hr=>by
  obtain⟨a,b⟩:=Iu ok hp (tX h r hr);exact⟨a,λt ht=>DW ok hp f (n+1) t (b t ht)⟩
theorem FZ(ok:Mi.sj W fl odd){m:Nat}{P:Prog}(o:MW W m P)(hm:m<=60):OA P:=by
 have fit:=o.fit (by lia) ok.d2;refine⟨fit,by rw[o.dl];exact ok.d2,by rw[o.nm,(fN W.names).length_eq];exact ok.n2,λx hx=>?_,λd hd=>?_,PL o.ct (by lia)⟩
 ·rw[o.nm] at hx;exact iw (ok.sn x ((fN W.names).mem_iff.mp hx))
 ·obtain⟨j,hj⟩:=RQ.mp hd;obtain⟨e1,e2,e3,_⟩:=o.dd j d hj;have hps:∀w∈d.2.1,Sh 8 w:=λw hw=>iw (ok.sp d.2.1 (Pr e2) w hw);exact⟨iw (ok.sd _ (Pr e1)),ok.p3 _ (Pr e2),hps,DW ok hps 8 1 d.2.2 e3⟩
end
theorem LV(n:Nat):Sh 1000 (zU n).2:=show Sh 1000 (Str.ofString "or") from⟨by decide+kernel,by decide+kernel⟩
theorem Ex:Sh 1000 (Str.ofString "end"):=⟨by decide+kernel,by decide+kernel⟩
theorem z3{g:Nat->List Row->List Ln}(n:Nat):∀(x:List (List Row)) (j k:Nat),(∀k,∀t∈x,∀y∈g k t,Sh 1000 y.2)->∀y∈ck g n j k x,Sh 1000 y.2
 | [],j,k,_,y,hy=>(nomatch hy)
 | t::x,j,k,h,y,hy=>by
  rw[ck] at hy;rcases PX.mp hy with z | z
  ·rcases PX.mp z with z | z
   ·split at z
    ·cases z
    ·rw[PD.mp z];exact LV n
   ·exact h k t (.head _) y z
  ·exact z3 n x (j+1) (k+ao t) (λk u hu=>h k u (.tail _ hu)) y z
theorem zF{g:Nat->List Row->List Ln}:∀(l:List Row)(k:Nat),(∀r∈l,uU r/\∀k,∀t∈ai r,∀y∈g k t,Sh 1000 y.2)->∀y∈cL g k l,Sh 1000 y.2
 | [],k,_,y,hy=>(nomatch hy)
 | r::rs,k,h,y,hy=>by
  rw[cL] at hy;rcases PX.mp hy with z | z
  ·rw[fG] at z;rcases PB.mp z with rfl | z
   ·exact(xG (h r (.head _)).1).up (by decide)
   ·rcases PX.mp z with z | z
    ·exact z3 k (ai r) 0 (k+1) (h r (.head _)).2 y z
    ·split at z
     ·cases z
     ·rw[PD.mp z];exact Ex
  ·exact zF rs (k+cnt r) (λr hr=>h r (.tail _ hr)) y z
theorem xB:∀(f:Nat)(l:List Row)(k:Nat),yr f l->∀x∈jw f k l,Sh 1000 x.2
 | 0,l,k,_,x,hx=>(nomatch hx)
 | f+1,l,k,hs,x,hx=>zF l k (λr hr=>⟨(hs r hr).1,λk t ht=>xB f t k ((hs r hr).2 t ht)⟩) x hx
theorem xP:∀(ds:List dP)(k:Nat),(∀d∈ds,Sh 8 d.1/\d.2.1.length<=3/\(∀x∈d.2.1,Sh 8 x)/\yr 8 d.2.2)->∀x∈bz 8 k ds,Sh 1000 x.2
 | [],k,_,x,hx=>(nomatch hx)
 | d::ds,k,h,x,hx=>by
  obtain⟨a,b,c,e⟩:=h d (.head _);rw[bz] at hx;rcases PB.mp hx with rfl | hx
  ·exact(zc a b c).up (by decide)
  ·rcases PX.mp hx with z | z
   ·exact xB 8 d.2.2 k e x z
   ·rcases PB.mp z with rfl | z
    ·exact Ex
    ·exact xP ds (k+ao d.2.2) (λd hd=>h d (.tail _ hd)) x z
end Pg
namespace Mi
open PySem Sm L2 Pg
theorem yE{P:Prog}{z:Int}{δ:DS}{i j:Nat}{h:MH}(e1:fH [some i,some j] δ=[some (.int z),some (aV P)])(e:bA [aV P,.int z] h=some (("NoRow":Str),h))(m:EM):eA ph [some i,some j] su (E8 bA (ag (ay 1) (ag (ay 0) aM))) m δ h=some (.str "NoRow",h):=
 ux (by rw[e1];exact bx (Hf (rv (a:=([aV P,.int z],h)) rfl (rv e rfl))))
theorem vh{P:Prog}{z:Int}{δ:DS}{i j:Nat}{h:MH}(e1:fH [some i,some j] δ=[some (.int z),some (aV P)])(e:bA [aV P,.int (1+z)] h=some (("NoRow":Str),h))(m:EM):eA ph [some i,some j] su (E8 bA (ag (ay 1) (ag (ak av (eK (.int 1)) (ay 0)) aM))) m δ h=some (.str "NoRow",h):=
 ux (by rw[e1];exact bx (Hf (rv (a:=([aV P,.int (1+z)],h)) rfl (rv e rfl))))
theorem Ky{a b:List D}(hl:a.length+b.length<=10000)(h:MH):av (.lv a) (.lv b) h=some (.lv (a++b),h):=by
 show(if a.length+b.length<=sizeLine then some (D.lv (a++b),h) else none)=_;rw[Py (by rw[show sizeLine=16777216 from rfl];lia)]
theorem law_true(ns:List Int)(hn:ns.length<=63):∃h',x9 [.ro (ns.map D.int)] []=some (.bl true,h'):=by
 have e:Rn (x9 [.ro (ns.map D.int)] []) λp=>p.1=.bl true:=by
  obtain⟨cs,ed,S0⟩:=zb ns hn 20000 (by decide);refine bF ?_;nofun;refine rv ed ?_;nofun;refine fQ ?_;nofun;refine⟨2,rfl,by decide,by decide,?_⟩;refine cQ (λi δ h=>∃(v2 v3 v4 v5 v6 v7 v8 v9:Option D),δ=[some (.ro (ns.map D.int)),some (.ob 1),v2,v3,v4,v5,v6,v7,v8,v9]/\St 1 0 cs (20000-6201*i) h/\Cl h)
   ⟨_,_,_,_,_,_,_,_,rfl,S0,Po cs⟩ (λ_ _ _ _ _=>rfl) ?_ ?_
  ·rintro i x δ h hx ⟨v2,v3,v4,v5,v6,v7,v8,v9,rfl,S,C⟩;have hi:i < 2:=by
    have:=(Pq.mp hx).1
    simpa using this
   nofun;refine Mx (R:=20000-6201*(i+1)+1) (S.le (by lia)) C λW fl odd m P h1 hm ok okp A1 C1=>?_;have hP:=FZ ok okp hm;have hD:∀d∈P.aj,Nb d:=λd hd=>⟨PL (hP.fit.nd d hd) (by decide),(hP.dd d hd).2.2.2⟩;have hct:cH P.aj<=900:=hP.ct;have hlen:=gx 8 0 P.aj;have hdl:=hP.dl;have hsh:=xP P.aj 0 hP.dd;have hsg:=Ih P.aj 0 hD;have hPl:(DY P).length<=6000:=by rw[DY,PK];lia
   nofun;refine rv (DZ hP h1) ?_;nofun;refine rv (Ct (DY P) (by lia) h1) ?_;nofun;obtain⟨m1,dp1,em⟩:=yT (ja (Str.join (Str.ofString " ") (Str.ofString "locks"::P.names))) (bz 8 0 P.aj) (by lia) hsh 0 (cH P.aj) (by rw[hsg.rn 0,QT]) h1;refine rv em ?_;nofun;refine fQ ?_;nofun;refine⟨_,rfl,by lia,by lia,?_⟩;rw[QW];refine rv (ur (t:=[some (.lv ((DY P).map oY))]) (λo:Nat=>D.int (o:Int)) (λo=>.int (o:Int)) (Gj P) (List.range (cH P.aj)) none (λn hn=>Gh hP (QB.mp hn) h1) λn _ _=>rfl) ⟨by
    have:=SD (Gj P) (List.range (cH P.aj));rw[P6] at this;rw[Pp,show sizeLine=16777216 from rfl];lia,?_⟩
   nofun;refine fv ?_;nofun;refine rv (a:=(.int 100000000000000000000,h1)) (by ac_nf) ?_;nofun;refine cS A1 (by decide) (by decide) λq h2 q0 q1 A2=>?_;nofun;generalize hzs:((List.range (cH P.aj)).filter (Gj P)).map (λn:Nat=>(n:Int))++[(cH P.aj:Int),(cH P.aj:Int)+1,-1,-(cH P.aj:Int)-1,100000000000000000000,(cH P.aj:Int)+q]=zs;have hz:∀z∈zs,z < 0\/(cH P.aj:Int)<=z\/∃n:Nat,z=n/\n < cH P.aj/\Gj P n=true:=λz hz=>by
    rw[<-hzs] at hz;rcases PX.mp hz with hz | hz
    ·obtain⟨n,hn,rfl⟩:=Ql.mp hz;obtain⟨a,b⟩:=Tp.mp hn;exact .inr (.inr ⟨n,rfl,QB.mp a,b⟩)
    ·simp only[PB,Tg,or_false] at hz;rcases hz with rfl | rfl | rfl | rfl | rfl | rfl
     ·exact .inr (.inl (by lia))
     ·exact .inr (.inl (by lia))
     ·exact .inl (by lia)
     ·exact .inl (by lia)
     ·exact .inr (.inl (by lia))
     ·exact .inr (.inl (by lia))
   have hfl:=SD (Gj P) (List.range (cH P.aj));rw[P6] at hfl;refine rv (a:=(.lv (zs.map D.int),h2)) (by
    rw[<-hzs,P4,QD];exact Ky (by rw[Pp];simp;lia) h2) ?_
   refine⟨_,_,rfl,?_⟩;refine cQ (λj δ h=>∃(v6 v7 v8 v9:Option D),δ=[some (.ro (ns.map D.int)),some (.ob 1),some x,some (aV P),some (.lv ((DY P).map oY)),some (.int (cH P.aj:Int)),v6,v7,v8,v9]/\h=h2)
    ⟨_,_,_,_,rfl,rfl⟩ (λ_ _ _ _ _=>rfl) ?_ ?_
   ·rintro j y δ h' hy ⟨v6,v7,v8,v9,rfl,rfl⟩;rw[PR] at hy;obtain⟨w,ew,rfl⟩:=P5.mp hy;have hw:=hz w (Pr ew);nofun;refine rv (yE (P:=P) (z:=w) rfl (yf (Gi hP.fit hw h')) _) ?_;nofun;refine⟨false,by ac_nf,λy=>(nomatch y),λ_=>?_⟩;nofun;exact⟨_,_,_,_,rfl,rfl⟩
   ·rintro δ h' ⟨v6,v7,v8,v9,rfl,rfl⟩;nofun;exact⟨_,_,_,_,_,_,_,_,rfl,A2.S,C.but A2.S A2.b⟩
  ·rintro δ h ⟨v2,v3,v4,v5,v6,v7,v8,v9,rfl,S,C⟩;nofun;refine fQ ?_;nofun;refine⟨6,rfl,by decide,by decide,?_⟩;refine cQ (λi δ h=>∃(v2 v3 v4 v5 v6 v7 v8 v9:Option D),δ=[some (.ro (ns.map D.int)),some (.ob 1),v2,v3,v4,v5,v6,v7,v8,v9]/\St 1 0 cs (2000-5*i) h)
    ⟨_,_,_,_,_,_,_,_,rfl,S.le (by simp)⟩ (λ_ _ _ _ _=>rfl) ?_ ?_
   ·rintro j x δ h hx ⟨v2,v3,v4,v5,v6,v7,v8,v9,rfl,S⟩;have hj:j < 6:=by
     have:=(Pq.mp hx).1
     simpa using this
    nofun;refine Kr (R:=2000-5*(j+1)) (S.le (by lia)).sb λm i a z r h1 m8 m12 i12 ha z0 z8 hr A1=>?_;have hF:=BE ha m12 i12 hr;have hlk:=GH hr;have hsh:=GG z0 z8 hr;obtain⟨gone,hgo⟩:=BD hr;have hat:(placesFrom 0 (mI (bo m a r)).aj)[1+a]?=some (0,flat [(0,0)]++[a],r):=Ei;have hln:(bo m a r).length=m:=BH ha;have hlen:((bo m a r).take a++fh i++(bo m a r).drop (a+1)).length=m-1+i:=by
     rw[PF,PF,PY,QR,hln,jA];lia
    nofun;refine rv mB ?_;nofun;refine⟨_,rfl,λy=>?_,λy=>?_⟩
    ·have hgt:=Qy y;rw[hlen] at hgt;nofun;refine rv (vh (P:=mI (bo m a r)) (z:=(a:Int)) rfl (qh (n:=1+a) (k:=a) (st:=[(0,0)]) (lot:=bo m a r) (d:=("go",[],[.again (bo m a r)])) hF hat hlk hsh hgo rfl rfl (by decide) (by rw[hln,jA];lia) h1) _) ?_;nofun;refine⟨false,by ac_nf,λy=>(nomatch y),λ_=>?_⟩;nofun;exact⟨_,_,_,_,_,_,_,_,rfl,A1.S⟩
    ·have hgt:=SV y;rw[hlen] at hgt;have hcn:=ug ha m12 i12 hr;nofun;refine rv (yg (n:=1+a) (k:=a) (st:=[(0,0)]) (lot:=bo m a r) (d:=("go",[],[.again (bo m a r)])) hF hat hlk hsh hgo rfl rfl (by decide) (by rw[hln];exact ha) (by rw[show ao [Row.again (bo m a r)]=1+ao (bo m a r) by rw[ao,ao,cnt,Tb]];lia) (by rw[jA];lia) (by rw[hln,jA];lia) h1) ?_;rw[Ba,El,Ah];nofun;have hL:Dp 59 (aZ (List.replicate a (.say "z")++fh i++List.replicate (m-1-a) (.say "y"))):=KP (n:=57) λr hr=>by
      rcases PX.mp hr with hr | hr
      ·rcases PX.mp hr with hr | hr
       ·exact⟨_,RD hr⟩
       ·exact qB hr
      ·exact⟨_,RD hr⟩
     refine rv (BF (Dp.tup (ke.cons (Dp.tup (n:=62) (ke.cons (Dp.str _) (ke.cons (Dp.str _) ke.nil))) (ke.cons (Dp.tup (n:=62) (ke.cons (Dp.tup (n:=61) (ke.cons (Dp.str _) (ke.cons (Dp.tup (n:=60) ke.nil) (ke.cons (Dp.tup (n:=60) (ke.cons (Dp.tup (n:=59) (ke.cons (Dp.str _) (ke.cons hL ke.nil))) ke.nil)) ke.nil)))) ke.nil)) ke.nil)))) ?_;refine⟨false,rfl,λy=>(nomatch y),λ_=>?_⟩;nofun;exact⟨_,_,_,_,_,_,_,_,rfl,A1.S⟩
   ·rintro δ h ⟨v2,v3,v4,v5,v6,v7,v8,v9,rfl,S⟩;nofun
 obtain⟨⟨d,h'⟩,e1,rfl⟩:=e;exact⟨h',e1⟩
end Mi
open PySem PySem.W PyProof.Rows
theorem Mi.Od:defOf Mi.view "law"=some (Hd.lW "law" Mi.lJ,[]):=by ac_nf
theorem Mi.hp:PySem.Program.theDef Mi.pw "law"=some (L2.mL Mi.lJ,L2.cY Mi.lJ,L2.ah Mi.lJ):=by ac_nf
theorem PySem.Challenge.cw_neverstuck_k71_rows_that_take_no_lock_holds : PySem.Challenge.rw_neverstuck_k71_rows_that_take_no_lock.Holds := by
 refine holds_law Mi.Io λIo=>?_;refine PySem.W.holds_open (q:=Mi.view) (loose:=["SHAPES"]) (Xt:=Mi.Xt) (XP:=XL Mi.view []) (Yf:=Mi.Yf) (Ya:=Mi.ya) (YP:=λw h=>Hd.tabAt h "SHAPES"=(Mi.ya w).1/\Hd.pP h (Mi.gf.map (·.1)) Mi.pM=(Mi.ya w).2) (N:=20000) (d:=Hd.lW "law" Mi.lJ) (kwd:=[]) Mi.left (λ_ _ e=>⟨congrArg Prod.fst e,congrArg Prod.snd e⟩) (λ_ _ _ y k=>⟨Hd.yn k y.1,Hd.uo k y.2⟩) (λs e=>xl_of s (P1.mp e).1) XL.keeps Mi.Od Mi.hp (by ac_nf) (λs e=>recFacts_of (P1.mp e).2) (by ac_nf) Io (by decide+kernel) ⟨rfl,rfl,rfl,rfl,rfl,by decide+kernel⟩ (by w_witness2) ?_;exact Hd.JR (k:=29) (by ac_nf) (by ac_nf) ⟨rfl,by decide,by decide⟩ λw s₀ mg mb h G Y=>Mi.all_mk G.T Y.1 Y.2 Mi.law_true
