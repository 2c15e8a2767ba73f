import PyProof.Rows.All
import Wide.All
import OpenK.AllK
import Wide.FinOn
import Lean
import PyProof.EqAt
import PyProof.EqKinds
import PyProof.TupleCall
import PyProof.AttrMissHeap
import KE.KDictOf
import PyProof.ConsumeWalk
import PyProof.ZipIter
import PyProof.EnumMake
import KE.KEqDict
import KE.KDictList
import KE.KDictSum
import KE.KItemsList
import KE.KSortTup
import PyProof.CallStr
import PyProof.CollectIter
import PyProof.DictFindH
import PyProof.DictRoadsH
import PyProof.FString
import PyProof.FString5
import PyProof.FactsAll.tuple_2
import PyProof.FactsAll.zip_1
import PyProof.ListMulRoad
import PyProof.ListRange
import PyProof.MeetsStr
import PyProof.NeKinds
import PyProof.P3Eq
import PyProof.Rows.Range3
import PyProof.Rows.ReprOcc
import PyProof.Rows.RuleDivmod
import PyProof.Rows.SortShell
import PyProof.Rows.StrWeight2
import PyProof.StrCalls2
import PyProof.StrCalls5
import PyProof.StrWalks
import PyProof.WalksMore
import PySem.Challenge.RW_neverstuck_k45_papers_or_none
set_option Elab.async false
set_option linter.all false
set_option maxRecDepth 100000
set_option maxHeartbeats 4000000
set_option compiler.small 0
set_option compiler.extract_closed false
set_option compiler.reuse false
noncomputable section
local macro_rules | `(tactic| ac_nf) => `(tactic| kernel_rfl)
local macro_rules | `(tactic| nofun) => `(tactic| walk_at "r")
abbrev Nb:=@PySem.wpAny_bind
abbrev Nc:=@List.length_map
abbrev Nd:=@PySem.Heap.get?_push_of_some
abbrev Nf:=@PySem.wpAny_pure
abbrev Ng:=@List.getElem?_eq_some_iff
abbrev Nh:=@Nat.le_refl
abbrev Ni:=@List.mem_of_getElem?
abbrev Nj:=@if_pos
abbrev Nk:=@List.getElem?_eq_getElem
abbrev Nl:=@List.mem_cons_of_mem
abbrev Nm:=@List.mem_cons_self
abbrev Nn:=@Bool.and_eq_true
abbrev Np:=@if_neg
abbrev Nq:=@Nat.lt_of_lt_of_le
abbrev Nr:=@Nat.le_trans
abbrev Nt:=@PySem.Heap.lt_size
abbrev Nu:=@PySem.Heap.get?_push_size
abbrev Nv:=@List.getElem?_append_left
abbrev Nw:=@List.mem_singleton
abbrev Nx:=@List.size_toArray
abbrev Ny:=@List.map_cons
abbrev Nz:=@List.getElem?_map
abbrev NA:=@List.mem_cons
abbrev NB:=@Nat.ne_of_lt
abbrev NC:=@decide_eq_true
abbrev ND:=@Option.bind_some
abbrev NF:=@List.length_take
abbrev NG:=@List.getElem?_append_right
abbrev NH:=@Bool.false_eq_true
abbrev NI:=@Array.getElem?_eq_getElem
abbrev NJ:=@Bool.and_eq_true_iff
abbrev NK:=@Array.length_toList
abbrev NL:=@Nat.le_add_right
abbrev NM:=@List.mem_map
abbrev NO:=@List.length_range
abbrev NP:=@Int.toNat_natCast
abbrev NQ:=@List.length_cons
abbrev NR:=@List.mem_range
abbrev NS:=@List.all_eq_true
abbrev NT:=@List.length_append
abbrev NU:=@decide_eq_false
abbrev NV:=@of_decide_eq_true
abbrev NW:=@Nat.le_of_lt_succ
abbrev NX:=@Array.getD_eq_getD_getElem?
abbrev NY:=@List.mem_append
abbrev NZ:=@Bool.false_ne_true
abbrev N0:=@List.getElem?_take_of_lt
abbrev N4:=@PyProof.Rows.slot_tuple_getitem
abbrev N5:=@Option.map_eq_some_iff
abbrev N6:=@PySem.Heap.size_push
abbrev N7:=@List.mem_append_right
abbrev N8:=@Option.map_some
abbrev N9:=@List.all_cons
abbrev Oa:=@decide_eq_true_eq
abbrev Ob:=@Nat.le_of_not_lt
abbrev Oc:=@List.getElem?_eq_none
abbrev Od:=@Nat.lt_of_le_of_lt
abbrev Oe:=@List.map_append
abbrev Og:=@PySem.wpAny_newObj_type
abbrev Oh:=@PySem.wpAny_callSpecial?_slot
abbrev Oi:=@PySem.wpAny_field
abbrev Oj:=@PySem.wpAny_call_entry
abbrev Ol:=@List.filterMap_cons
abbrev Om:=@List.lookup_cons
abbrev Oo:=@Nat.zero_le
abbrev Oq:=@List.getElem?_set_ne
abbrev Ot:=@List.length_nil
abbrev Ou:=@List.zip_cons_cons
abbrev Ov:=@List.getElem?_set_self
abbrev Ow:=@Array.getElem?_toList
abbrev Ox:=@Ne.symm
abbrev Oy:=@Int.le_trans
abbrev Oz:=@Int.eq_ofNat_of_zero_le
abbrev OA:=@PySem.F.called_set
abbrev OB:=@List.getD_eq_getElem?_getD
abbrev OC:=@PySem.W.kia_one
abbrev OD:=@PySem.wpAny_seqItems
abbrev OE:=@PySem.Around.under_plainId
abbrev OF:=@Classical.byContradiction
abbrev OG:=@PySem.wpAny_holding
abbrev OH:=@PySem.PassesOwn.never
abbrev OI:=@List.append_assoc
abbrev OJ:=@Nat.lt_irrefl
abbrev OK:=@Nat.lt_trans
abbrev OL:=@Int.emod_nonneg
abbrev OM:=@Bool.or_eq_true
abbrev ON:=@PySem.wpAny_setState_of
abbrev OO:=@List.pairwise_cons
abbrev OP:=@PySem.Heap.get?_update_self
abbrev OQ:=@List.getElem?_cons_succ
abbrev OR:=@PyProof.Rows.callWith_type1
abbrev OS:=@PySem.codeAny_builtin
abbrev OT:=@Bool.not_true
abbrev OU:=@bne_self_eq_false
abbrev OV:=@beq_iff_eq
abbrev OW:=@Nat.lt_or_ge
abbrev OX:=@List.take_of_length_le
abbrev OY:=@Int.ofNat_lt
abbrev OZ:=@PySem.mem_of_lookup
abbrev O0:=@if_false
abbrev O1:=@List.take_length
abbrev O2:=@Int.emod_lt_of_pos
abbrev O3:=@List.map_map
abbrev O4:=@Array.mem_toList_iff
abbrev O5:=@PySem.wpAny_mono
abbrev O6:=@Nat.le_succ_of_le
abbrev O7:=@Nat.not_lt_zero
abbrev O8:=@Nat.le_antisymm
abbrev O9:=@PySem.sizeLine_eq
abbrev Pa:=@Nat.add_le_add_left
abbrev Pb:=@List.replicate_succ
abbrev Pc:=@Nat.le_succ
abbrev Pd:=@List.any_cons
abbrev Pe:=@Bool.true_and
abbrev Ph:=@beq_self_eq_true
abbrev Pj:=@Nat.lt_succ_self
abbrev Pk:=@List.length_drop
abbrev Pl:=@Bool.and_false
abbrev Pm:=@Array.getElem?_eq_some_iff
abbrev Pn:=@List.mem_iff_getElem?
abbrev Po:=@PySem.Heap.get?_update_other
abbrev Pp:=@List.of_mem_zip
abbrev Pq:=@List.length_set
abbrev Pr:=@PySem.wpAny_rule
abbrev Pt:=@Nat.pow_succ
abbrev Pu:=@Nat.ne_of_gt
abbrev Pw:=@Nat.le_of_lt
abbrev Px:=@beq_eq_false_iff_ne
abbrev Py:=@List.mem_map_of_mem
abbrev Pz:=@PySem.wpAny_truthy_bool
abbrev PB:=@List.not_mem_nil
abbrev PC:=@List.getElem_mem
abbrev PD:=@Nat.lt_of_le_of_ne
abbrev PF:=@List.length_eq_one_iff
abbrev PH:=@List.filterMap_map
abbrev PJ:=@Int.lt_of_le_of_lt
abbrev PK:=@PySem.wpAny_isInstance
abbrev PL:=@PySem.wpAny_askSetting
abbrev PN:=@List.nodup_cons
abbrev PQ:=@List.foldl_cons
abbrev PR:=@List.find?_cons
abbrev PU:=@List.append_nil
abbrev PV:=@Bool.eq_iff_iff
abbrev PX:=@Nat.add_assoc
abbrev PY:=@Nat.lt_succ_of_lt
abbrev PZ:=@List.pairwise_map
abbrev P0:=@List.nodup_append
abbrev P1:=@List.flatten_cons
abbrev P2:=@Bool.not_eq_true'
abbrev P4:=@PySem.wpAny_pyIter_tuple
abbrev P5:=@PySem.SetTable.insertAt_perm
abbrev P6:=@List.mem_of_mem_take
abbrev P7:=@PySem.F.slot_enumerate_next
abbrev P8:=@Nat.succ_pos
abbrev P9:=@PySem.F.slot_tuple_iterator_next
abbrev Qa:=@List.Pairwise.imp_of_mem
abbrev Qb:=@PySem.wpAny_forIn_list
abbrev Qc:=@PySem.codeAny_mono
abbrev Qd:=@PySem.Around.in1_units
abbrev Qe:=@Nat.not_lt
abbrev Qf:=@Nat.eq_or_lt_of_le
abbrev Qg:=@List.mem_filterMap
abbrev Qh:=@Int.natCast_nonneg
abbrev Qi:=@PySem.Str.length_append
abbrev Qj:=@List.getElem?_cons_zero
abbrev Qk:=@PySem.Heap.SameBut.update
abbrev Ql:=@if_true
abbrev Qm:=@PySem.wpAny_standAt
abbrev Qn:=@PySem.plainId_quiet
abbrev Qo:=@Nat.lt_trichotomy
abbrev Qp:=@Nat.lt_of_succ_lt
abbrev Qq:=@List.map_nil
abbrev Qr:=@Bool.eq_false_iff
abbrev Qs:=@PySem.wpAny_Call_Name_kw
abbrev Qt:=@PySem.wpAny_getItem_str_slice
abbrev Qu:=@Nat.succ_le_succ
abbrev Qv:=@PySem.wpAny_typeOf
abbrev Qw:=@PySem.F.slot_tuple_hash
abbrev Qx:=@Nat.pow_le_pow_right
abbrev Qy:=@Nat.two_pow_pos
abbrev Qz:=@PySem.hashByValue_scannable
abbrev QA:=@List.length_reverse
abbrev QB:=@Int.toNat_of_nonneg
abbrev QC:=@Nat.mul_comm
abbrev QD:=@PySem.wpAny_attempt
abbrev QE:=@Array.forIn_toList
abbrev QF:=@PySem.wpAny_specialOf
abbrev QG:=@PySem.wpAny_passesOwn
abbrev QH:=@List.pairwise_iff_getElem
abbrev QI:=@PySem.F.plain_extend_loop
abbrev QJ:=@Nat.mul_left_comm
abbrev QK:=@List.reverse_cons
abbrev QL:=@PySem.F.args_tuple_add_2
abbrev QM:=@List.map_drop
abbrev QN:=@List.length_filterMap_le
abbrev QO:=@List.Perm.eq_of_pairwise
abbrev QP:=@Bool.or_false
abbrev QQ:=@or_false
abbrev QR:=@PySem.tupleKind_room_in1
abbrev QS:=@PySem.isSubtype_stop
abbrev QT:=@PySem.Obj.data_mapFields
abbrev QU:=@PySem.F.plainAttrs_list
abbrev QV:=@PySem.F.entry_tuple_add
abbrev QW:=@List.pairwise_singleton
abbrev QX:=@List.nodup_range
abbrev QY:=@Array.toList_inj
abbrev QZ:=@PySem.F.slot_tuple_add
abbrev Q0:=@Nat.zero_add
abbrev Q1:=@Nat.mod_lt
abbrev Q3:=@Nat.div_div_eq_div_mul
abbrev Q4:=@List.pairwise_lt_range
abbrev Q5:=@Int.le_of_lt
abbrev Q6:=@PySem.wpAny_pyIter_list
abbrev Q7:=@PySem.fits_of_scanBound
abbrev Q8:=@PySem.Heap.get?_push_ne
abbrev Q9:=@PySem.F.slot_list_append
abbrev Ra:=@List.length_singleton
abbrev Rb:=@List.getElem?_toArray
abbrev Rf:=@Array.mem_of_getElem?
abbrev Rg:=@PySem.Heap.size_update
abbrev Rh:=@Nat.mul_add
abbrev Ri:=@Nat.le_sub_one_of_lt
abbrev Rj:=@Nat.add_le_add_right
abbrev Rk:=@List.mem_of_mem_drop
abbrev Rl:=@List.mem_append_left
abbrev Rm:=@List.map_congr_left
abbrev Ro:=@PySem.post_val_or_str
abbrev Rp:=@PySem.codeAny_of_tree
abbrev Rq:=@PySem.F.slot_zip_next
abbrev Rr:=@Nat.mul_assoc
abbrev Rt:=@List.map_take
abbrev Ru:=@Nat.add_sub_cancel
abbrev Rv:=@PySem.wpAny_updateSeq_pair
abbrev Rw:=@PySem.wpAny_newTuple
abbrev Rx:=@PySem.wpAny_letGo
abbrev Ry:=@PySem.isSubtype_type
abbrev Rz:=@Option.isSome_map
abbrev RA:=@Nat.le_of_eq
abbrev RB:=@List.take_sublist
abbrev RC:=@List.take_add_one
abbrev RD:=@List.getElem?_inj
abbrev RE:=@List.ext_getElem?
abbrev RF:=@Int.lt_trans
abbrev RG:=@PyProof.Rows.F.plain_set_update_loop
abbrev RH:=@PySem.wpAny_setEntries_of
abbrev RI:=@PySem.List.filterMap_getElem?_range_length
abbrev RJ:=@List.isEmpty_nil
abbrev RK:=@List.any_eq_true
abbrev RL:=@PySem.wpAny_onRaise
abbrev RM:=@Nat.le.dest
abbrev RN:=@List.eq_nil_of_length_eq_zero
abbrev RO:=@Nat.min_le_left
abbrev RP:=@Nat.min_eq_left
abbrev RQ:=@Nat.lt_add_left
abbrev RS:=@List.nil_append
abbrev RT:=@List.forIn_cons
abbrev RU:=@bne_iff_ne
abbrev RV:=@PySem.wpAny_sequenceKey
abbrev RW:=@PySem.slot_list_getitem
abbrev RX:=@PySem.eqIsQuiet_byValue
abbrev RY:=@List.nodup_nil
abbrev RZ:=@List.length_eraseIdx_of_lt
abbrev R3:=@List.drop_zero
abbrev R6:=@Bool.false_and
abbrev R8:=@Array.size_map
abbrev R9:=@PyProof.Rows.slicePart_none
abbrev Sa:=@PySem.noFill_tuple_add
abbrev Sd:=@PySem.F.type_list_append
abbrev Se:=@Option.isSome_iff_exists
abbrev Sf:=@Bool.false_or
abbrev Sg:=@decide_eq_false_iff_not
abbrev Sh:=@PyProof.Rows.entry_tuple_getitem
abbrev Si:=@Option.join_eq_some_iff
abbrev Sj:=@Option.bind_eq_some_iff
abbrev Sk:=@List.pairwise_mergeSort
abbrev Sl:=@List.length_eq_zero_iff
abbrev Sn:=@List.getElem?_replicate
abbrev So:=@PySem.wpAny_updateSeq
abbrev Sq:=@PySem.wpAny_execs_nil
abbrev Sr:=@PySem.W.cellsFrom_some
abbrev Ss:=@PySem.SeqAt.eqAt_reads
abbrev Su:=@PySem.F.args_tuple_iterator_next_1
abbrev Sv:=@Nat.sub_zero
abbrev Sw:=@List.length_pos_of_mem
abbrev Sx:=@List.all_map
abbrev Sy:=@Int.ediv_one
abbrev Sz:=@Array.getElem?_eq_none
abbrev SD:=@PySem.F.entry_tuple_iterator_next
abbrev SF:=@PyProof.Rows.assignInOrder_cons
abbrev SH:=@PyProof.Rows.args_tuple_getitem
abbrev SJ:=@Nat.le_of_sub_eq_zero
abbrev SK:=@Nat.le_div_iff_mul_le
abbrev SN:=@Nat.div_lt_iff_lt_mul
abbrev SO:=@List.set_append_right
abbrev SR:=@List.filterMap_eq_map
abbrev SU:=@PySem.wpAny_setField
abbrev SV:=@PySem.wpAny_runValue
abbrev SX:=@PySem.call_meets
abbrev SY:=@PySem.Calls.Name_function_global
abbrev S6:=@Nat.not_succ_le_self
abbrev S8:=@Array.getElem_toList
abbrev Ta:=@Array.getElem_of_mem
abbrev Tb:=@Nat.sub_lt_sub_left
abbrev Tc:=@Nat.mul_le_mul_left
abbrev Td:=@List.mergeSort_perm
abbrev Te:=@List.getElem?_range
abbrev Tf:=@PySem.wpAny_getItem_list_slice
abbrev Tg:=@PySem.wpAny_comprehension_free
abbrev Th:=@PySem.seq_tuple_add
abbrev Tj:=@PySem.evalPart_none
abbrev Tn:=@PySem.W.kitx_tuple
abbrev To:=@PySem.SetTable.toList_insertAt
abbrev Tr:=@Option.toList_some
abbrev Ts:=@List.getElem_range
abbrev Tt:=@List.getElem?_drop
abbrev Tu:=@Int.lt_of_lt_of_le
abbrev Tv:=@PySem.putSet_of
abbrev Tw:=@PySem.W.kitx_list
abbrev Tx:=@PySem.W.kitx_dict
abbrev TB:=@PySem.F.args_enumerate_next_1
abbrev TC:=@Nat.lt_succ_of_le
abbrev TF:=@List.any_eq_false
abbrev TH:=@Int.lt_trichotomy
set_option hygiene false
set_option hygiene true
abbrev FR:=PySem.W.Frag
namespace Hd
open PySem PySem.W PySem.Spec PyProof.Rows
noncomputable def Fe:List Value->Option (List Int)
 | []=>some []
 | .int i _::r=>(Fe r).map λis=>i::is
 | _=>none
noncomputable def vi(v:Value)(t:String):Bool:=match v with
 | .type s=>decide (s=t)
 | _=>false
noncomputable def rowAt(h:Heap)(e:DictEntry):Option (Str×Int×List Int):=match e.key with
 | .str x _=>match e.val with
  | .ref t=>match h.get? t with
   | some u=>if vi u.cls "tuple"&&u.dict.isNone then(match u.data with
     | .seq its _=>if its.size<=100 then(Fe its.toList).map λis=>(x,e.hash,is) else none
     | _=>none) else none
   | none=>none
  | _=>none
 | _=>none
noncomputable def nU(h:Heap):List DictEntry->Option (List (Str×Int×List Int))
 | []=>some []
 | e::r=>(rowAt h e).bind λx=>(nU h r).map λxs=>x::xs
noncomputable def tabAt(h:Heap)(nm:Str):Option (List (Str×Int×List Int)):=match h.nsMap mainGlobals nm with
 | some (.ref a)=>if a==sysModules then none else(match h.get? a with
  | some o=>if vi o.cls "dict"&&o.dict.isNone&&decide (o.slots=#[]) then(match o.data with
    | .dict es _=>nU h es.toList
    | _=>none) else none
  | none=>none)
 | _=>none
noncomputable def I8:List Value->Option (List Int)
 | []=>some []
 | .int i _::r=>(I8 r).map λl=>i::l
 | _=>none
noncomputable def tU(h:Heap)(nm:Str):Option (List Int):=match h.nsMap mainGlobals nm with
 | some (.ref a)=>match h.get? a with
  | some o=>if vi o.cls "tuple"&&o.dict.isNone then(match o.data with
    | .seq its _=>if its.size<=100 then I8 its.toList else none
    | _=>none) else none
  | none=>none
 | _=>none
theorem D7(row:String)(h0:∀w:World,(fencedOpening treeTable p w N).map (λs₀=>(topFrom treeTable p (w.withFollow row false) N s₀).map (λs=>(openSeen q loose (importedModules p.main.body) Xt true s,Yf s)))=some (some (openGood q loose,Ya (w.withFollow row false))))(h1:∀w:World,(fencedOpening treeTable p w N).map (λs₀=>(topFrom treeTable p (w.withFollow row true) N s₀).map (λs=>(openSeen q loose (importedModules p.main.body) Xt true s,Yf s)))=some (some (openGood q loose,Ya (w.withFollow row true)))):LeftO p q loose Xt Yf Ya N true:=λw=>by
 obtain⟨s₀,a,b0⟩:=N5.mp (h0 w);obtain⟨s₁,a1,b1⟩:=N5.mp (h1 w);have e:=World.withFollow_self w row;unfold openEnds;cases hb:w.params.followText row <;> rw[hb] at e
 ·rw[a];rw[e] at b0;exact b0
 ·rw[a1];rw[e] at b1;exact b1
end Hd
namespace Mi
open PySem
abbrev pw:Program:=PySem.Challenge.pw_neverstuck_k45_papers_or_none
noncomputable def top(i:Nat):Stmt:=pw.main.body.getD i (.Pass ⟨0,0,0,0⟩)
noncomputable def view:Program:={pw with main:={pw.main with body:=[top 1,top 2,top 3,top 4,top 6,top 7,top 8,top 9,top 10,top 11,top 13,top 14,top 15,top 16,top 17,top 18,top 19,top 20,top 21,top 22,top 23,top 24,top 25,top 26,top 27,top 28,top 29,top 30,top 31,top 32,top 33,top 34]}}
end Mi
local macro_rules | `(tactic| walk_at "s") => `(tactic| exact⟨rfl, rfl, rfl, by decide +kernel, rfl, by decide +kernel, by decide +kernel⟩)
namespace Mi
open PySem PySem.W PyProof.Rows
abbrev ya(w:World):=some ([1,-1]:List Int)
abbrev Xt:Shared->Bool:=λs=>xlAt view [] s&&recOk (RowW.records (OpenRow.toRowW PySem.Challenge.rw_neverstuck_k45_papers_or_none.row)) s
abbrev Yf:Shared->Option (List Int):=λs=>Hd.tU s.heap "SIDES"
theorem Kk(w:World):(fencedOpening treeTable pw w 20000).map (λs₀=>(topFrom treeTable pw (w.withFollow "special-get-raises" false) 20000 s₀).map (λs=>(openSeen view (["SIDES"]:List Str) (importedModules pw.main.body) Xt true s,Yf s)))=some (some (openGood view (["SIDES"]:List Str),(ya) (w.withFollow "special-get-raises" false))):=by ac_nf
theorem Kj(w:World):(fencedOpening treeTable pw w 20000).map (λs₀=>(topFrom treeTable pw (w.withFollow "special-get-raises" true) 20000 s₀).map (λs=>(openSeen view (["SIDES"]:List Str) (importedModules pw.main.body) Xt true s,Yf s)))=some (some (openGood view (["SIDES"]:List Str),(ya) (w.withFollow "special-get-raises" true))):=by ac_nf
theorem left:LeftO pw view (["SIDES"]:List Str) Xt Yf (ya) 20000:=Hd.D7 "special-get-raises" Kk Kj
theorem F3:PySem.Challenge.rw_neverstuck_k45_papers_or_none.wellSaid=true:=by
 unfold OpenLaw.wellSaid
 repeat(with_reducible refine look_both ?_ (by decide+kernel))
 unfold OpenRow.wellSaid
 repeat(with_reducible refine look_both ?_ (by decide+kernel))
 unfold OpenRow.partSaid
 repeat(with_reducible refine look_both ?_ (by decide+kernel))
 unfold looksOpen
 repeat(with_reducible refine look_both ?_ (by decide+kernel))
 decide+kernel
end Mi
theorem bV{α:Type}{p:α}{C:Prop}(h:none=some p):C:=nomatch h
namespace L2
open PySem PySem.Spec PyProof.Rows
abbrev Key:=Sum Int Str
noncomputable def qP:Key->Value->Bool
 | .inl k,v=>Value.isInt k v
 | .inr x,v=>Value.isStrOf x v
noncomputable def Hk(w:World):Key->Int
 | .inl k=>hashInt k
 | .inr x=>hashStr w x
theorem bG:∀{k:Key} {v:Value},qP k v=true->(∃i t,k=Sum.inl i/\v=Value.int i t)\/(∃x t,k=Sum.inr x/\v=Value.str x t)
 | .inl i,v,h=>by
  obtain⟨t,e⟩:=Value.isInt_shape (k:=i) (v:=v) h;exact .inl ⟨i,t,rfl,e⟩
 | .inr x,v,h=>by
  obtain⟨t,e⟩:=Value.isStrOf_shape (x:=x) (v:=v) h;exact .inr ⟨x,t,rfl,e⟩
theorem zd(i:Int)(t:Tok):qP (.inl i) (.int i t)=true:=by simp[qP,Value.isInt]
theorem zc(x:Str)(t:Tok):qP (.inr x) (.str x t)=true:=by simp[qP,Value.isStrOf]
theorem Hj(a b:Int):decide ((Sum.inl a:Key)=Sum.inl b)=(a==b):=by
 by_cases e:a=b
 ·subst e;simp
 ·have h:¬(Sum.inl a:Key)=Sum.inl b:=λq=>e (Sum.inl.inj q);rw[NU h];exact(Px.mpr e).symm
theorem Hg(a b:Str):decide ((Sum.inr a:Key)=Sum.inr b)=decide (a=b):=by
 by_cases e:a=b
 ·subst e;simp
 ·have h:¬(Sum.inr a:Key)=Sum.inr b:=λq=>e (Sum.inr.inj q);rw[NU h,NU e]
theorem Hi(a:Int)(b:Str):decide ((Sum.inl a:Key)=Sum.inr b)=false:=NU (λq=>nomatch q)
theorem Hh(a:Str)(b:Int):decide ((Sum.inr a:Key)=Sum.inl b)=false:=NU (λq=>nomatch q)
noncomputable def bB(prog:Program)(w:World):PySem.KeyKind prog w Key where
 is:=qP
 hash:=Hk w
 inj:=λv a b ha hb=>by
  rcases bG ha with⟨i,t,rfl,rfl⟩ |⟨x,t,rfl,rfl⟩
  ·rcases bG hb with⟨j,u,rfl,e⟩ |⟨y,u,rfl,e⟩
   ·injection e with e1 _;rw[e1]
   ·exact nomatch e
  ·rcases bG hb with⟨j,u,rfl,e⟩ |⟨y,u,rfl,e⟩
   ·exact nomatch e
   ·injection e with e1 _;rw[e1]
 byValue:=λk v h=>by
  rcases bG h with⟨i,t,rfl,rfl⟩ |⟨x,t,rfl,rfl⟩ <;> rfl
 pyHash:=λhv h=>by
  rcases bG hv with⟨i,t,rfl,rfl⟩ |⟨x,t,rfl,rfl⟩
  ·exact wpAny_pyHash_int h
  ·exact wpAny_pyHash_str h
 eqBool:=λhu hv h=>by
  rcases bG hu with⟨i,t,rfl,rfl⟩ |⟨x,t,rfl,rfl⟩
  ·rcases bG hv with⟨j,u,rfl,rfl⟩ |⟨y,u,rfl,rfl⟩
   ·rw[Hj] at h;exact wpAny_eqBool_int h
   ·rw[Hi] at h;exact SeqAt.EqAt.int_str i t y u _ _ _ _ h
  ·rcases bG hv with⟨j,u,rfl,rfl⟩ |⟨y,u,rfl,rfl⟩
   ·rw[Hh] at h;exact SeqAt.EqAt.str_int x t j u _ _ _ _ h
   ·rw[Hg] at h;exact wpAny_eqBool_str h
 «strs»:=λk x t v h=>by
  rcases bG h with⟨i,u,rfl,e⟩ |⟨y,u,rfl,e⟩
  ·exact nomatch e
  ·injection e with e1 _
   subst e1;cases v <;> rfl
theorem mm(prog:Program)(w:World)(i:Int)(t:Tok):(bB prog w).is (.inl i) (.int i t)=true:=zd i t
theorem mj(prog:Program)(w:World)(x:Str)(t:Tok):(bB prog w).is (.inr x) (.str x t)=true:=zc x t
inductive V where
 | bx | bl (b:Bool) | int (i:Int) | str (x:Str) | byt (b:Array UInt8) | IE (b:UInt64) | ref (a:Addr) | ty (n:String)
 deriving DecidableEq
def RelV:V->Value->Prop
 | .bx,u=>u=Value.none
 | .bl b,u=>u=Value.bool b
 | .int i,u=>∃t,u=Value.int i t
 | .str x,u=>∃t,u=Value.str x t
 | .byt b,u=>∃t,u=Value.bytes b t
 | .IE b,u=>∃t,u=Value.float b t
 | .ref a,u=>u=Value.ref a
 | .ty n,u=>u=Value.type n
abbrev Vals:List V->List Value->Prop:=Paired RelV
theorem Vals.length(r:Vals xs us):xs.length=us.length:=Paired.length r
theorem Vals.get:∀{xs:List V} {us:List Value} {i:Nat} {x:V},Vals xs us->xs[i]?=some x->∃u,us[i]?=some u/\RelV x u
 | _,_,_,_,.nil,e=>by simp at e
 | _,_,0,_,.cons r _,e=>by simp at e;subst e;exact⟨_,rfl,r⟩
 | _,_,i+1,x,.cons _ t,e=>by
  obtain⟨u,h1,h2⟩:=Vals.get (i:=i) (x:=x) t (by simpa using e);exact⟨u,by simpa using h1,h2⟩
theorem Vals.set(r:RelV x u):∀{xs:List V} {us:List Value} (i:Nat),Vals xs us->Vals (xs.set i x) (us.set i u)
 | _,_,_,.nil=>.nil
 | _,_,0,.cons _ t=>.cons r t
 | _,_,i+1,.cons q t=>.cons q (Vals.set r i t)
theorem Vals.append{xs ys:List V}{us ws:List Value}(a:Vals xs us)(s:Vals ys ws):Vals (xs++ys) (us++ws):=by
 induction a with
 | nil=>exact s
 | cons r t ih=>exact .cons r ih
theorem Vals.take:∀{xs:List V} {us:List Value} (n:Nat),Vals xs us->Vals (xs.take n) (us.take n)
 | _,_,0,_=>.nil
 | _,_,_+1,.nil=>.nil
 | _,_,n+1,.cons r t=>.cons r (Vals.take n t)
theorem Vals.drop:∀{xs:List V} {us:List Value} (n:Nat),Vals xs us->Vals (xs.drop n) (us.drop n)
 | _,_,0,r=>r
 | _,_,_+1,.nil=>.nil
 | _,_,n+1,.cons _ t=>Vals.drop n t
def pI:Option V->Option Value->Prop
 | some v,some u=>RelV v u
 | none,none=>True
 | _,_=>False
def KV{κ:Type}:List (κ×V)->List (κ×Value)->Prop:=Paired λ(p:κ×V)(q:κ×Value)=>p.1=q.1/\RelV p.2 q.2
noncomputable def kV:Key->V
 | .inl i=>.int i
 | .inr x=>.str x
inductive HO where
 | lst (xs:List V)
 | tup (xs:List V)
 | dK (kvs:List (Key×V)) | dT (kvs:List (List Key×V))
 | set (S:Int->Bool) (n:Nat)
 | ins (C dx:Addr) (fs:List (Str×V))
 | own (x:Addr)
 | xd (fs:List (Str×V))
 | met (f x:Addr)
 | LM (lo hi:Int)
 | xW (o:Obj) (u:HO)
 | FK (ps:Array Value)
 | ext (φ:Heap->Prop)
 | IF (φ:World->Heap->Prop)
abbrev Hp:=Addr->Option HO
noncomputable def upd(H:Hp)(a:Addr)(o:HO):Hp:=λb=>if b=a then some o else H b
theorem aT:upd H a o a=some o:=by unfold upd;rw[Nj rfl]
theorem aB(h:b≠a):upd H a o b=H b:=by unfold upd;rw[Np h]
theorem JY{H:Hp}{a b:Addr}{o u:HO}(h:H a=some o)(h':H b=some u)(d:o≠u):a≠b:=by
 intro e;subst e;rw[h] at h';exact d (Option.some.inj h')
theorem aN{H:Hp}{a b:Addr}{o:HO}(h:H a=some o)(h':H b=none):a≠b:=by
 intro e;subst e;rw[h] at h';cases h'
def tJ(h:Heap)(a:Addr)(items:Array Value):Prop:=∃o,h.get? a=some o/\o.cls=.type "tuple"/\(∃n,o.data=.seq items n)/\o.dict=none
theorem tJ.tup(x:tJ h a items):IsTup h a items:=let⟨o,e,c,d,_⟩:=x;⟨o,e,c,d⟩
theorem tJ.new(h:Heap)(items:Array Value):tJ (h.push {cls:=.type "tuple",data:=.seq items}) h.objs.size items:=⟨_,Nu _ rfl,rfl,⟨_,rfl⟩,rfl⟩
section
variable (P:Program) (w:World)
def bJ(H:Hp)(h:Heap)(a:Addr):HO->Prop
 | .lst xs=>xs.length<=sizeLine/\∃(its:List Value)(n:Nat),Vals xs its/\h.get? a=some {cls:=.type "list",data:=.seq its.toArray n}
 | .tup xs=>xs.length<=sizeLine/\∃its:List Value,Vals xs its/\tJ h a its.toArray
 | .dK kvs=>kvs.length<=sizeLine/\(a==sysModules)=false/\∃vs,KV kvs vs/\h.DictOf (bB P w) a vs
 | .dT kvs=>kvs.length<=sizeLine/\(a==sysModules)=false/\∃xs:List (List Key×Addr×Value),
   Paired (λ(p:List Key×V)(q:List Key×Addr×Value)=>p.1=q.1/\H q.2.1=some (.tup (p.1.map kV))/\RelV p.2 q.2.2) kvs xs/\
   ∃o es ep,h.get? a=some o/\o.ExactDict/\o.data=.dict es ep/\es.toList=xs.map (entryOfKey (tupleKind (bB P w)))/\(xs.map (·.1)).Nodup
 | .set S n=>h.SetOf (intKind P w) a S n
 | .ins C dx fs=>H dx=some (.own a)/\fs.length<=1000/\dx≠a/\h.get? a=some (PySem.W.instObj C dx)/\
   ∃mA,h.Ns1 dx mA/\(∀f,pI (fs.lookup f) (mA f))/\PySem.Within mA (fs.map (·.1))
 | .own _=>∃o,h.get? a=some o
 | .xd fs=>∃mA,h.Ns1 a mA/\∀f,pI (fs.lookup f) (mA f)
 | .LM lo hi=>∃t u v,h.get? a=some {cls:=.type "range",data:=.fields #[.int lo t,.int hi u,.int 1 v]}
 | .xW o u=>h.get? a=some o/\bJ H h a u
 | .FK ps=>h.get? a=some {cls:=.none,data:=.fields ps}
 | .met f x=>h.get? a=some (PySem.W.methodObj (.ref f) (.ref x))
 | .ext φ=>φ h/\(∃o,h.get? a=some o)/\∀h1 h2:Heap,φ h1->(∀o,h1.get? a=some o->h2.get? a=some o)->φ h2
 | .IF φ=>φ w h/\(∃o,h.get? a=some o)/\∀h1 h2:Heap,φ w h1->(∀o,h1.get? a=some o->h2.get? a=some o)->φ w h2
def iV(H:Hp)(h:Heap):Prop:=∀a o,H a=some o->bJ P w H h a o
end
theorem bJ.lt(x:bJ P w H h a o):a < h.objs.size:=by
 cases o with
 | lst xs=>obtain⟨_,_,_,_,e⟩:=x;exact Nt e
 | tup xs=>obtain⟨_,_,_,p⟩:=x;exact p.tup.lt
 | dK kvs=>obtain⟨_,_,_,_,o,_,_,e,_⟩:=x;exact Nt e
 | dT kvs=>obtain⟨_,_,_,_,o,_,_,e,_⟩:=x;exact Nt e
 | set S n=>obtain⟨o,_,_,_,e,_⟩:=x;exact Nt e
 | ins C dx fs=>obtain⟨_,_,_,e,_⟩:=x;exact Nt e
 | own y=>obtain⟨_,e⟩:=x;exact Nt e
 | xd fs=>obtain⟨_,⟨_,_,_,e,_⟩,_⟩:=x;exact Nt e
 | LM lo hi=>obtain⟨_,_,_,e⟩:=x;exact Nt e
 | xW ob u=>obtain⟨e,_⟩:=x;exact Nt e
 | FK ps=>exact Nt (show h.get? a=some _ from x)
 | met f y=>exact Nt (show h.get? a=some _ from x)
 | ext φ=>obtain⟨_,⟨_,e⟩,_⟩:=x;exact Nt e
 | IF φ=>obtain⟨_,⟨_,e⟩,_⟩:=x;exact Nt e
theorem Paired.J3{α β:Type}{F G:α->β->Prop}{l₁:List α}{l₂:List β}(a:Paired F l₁ l₂)(f:∀a b,F a b->G a b):Paired G l₁ l₂:=by
 induction a with
 | nil=>exact .nil
 | cons r t ih=>exact .cons (f _ _ r) ih
theorem bJ.t4(x:bJ P w H h a o)(k:∀b u,(b=a\/H b=some (.own a))->h.get? b=some u->h'.get? b=some u)
  (ho:∀b,H b=some (.own a)->H' b=some (.own a)) (ht:∀b xs,H b=some (.tup xs)->H' b=some (.tup xs)):bJ P w H' h' a o:=by
 induction o with
 | lst xs=>obtain⟨z,its,n,r,e⟩:=x;exact⟨z,its,n,r,k _ _ (.inl rfl) e⟩
 | tup xs=>obtain⟨z,its,r,ob,e,c⟩:=x;exact⟨z,its,r,ob,k _ _ (.inl rfl) e,c⟩
 | dK kvs=>obtain⟨z,y,vs,r,ob,es,ep,e,c⟩:=x;exact⟨z,y,vs,r,ob,es,ep,k _ _ (.inl rfl) e,c⟩
 | dT kvs=>
  obtain⟨z,y,xs,r,ob,es,ep,e,c⟩:=x;exact⟨z,y,xs,Paired.J3 r λp q z=>⟨z.1,ht _ _ z.2.1,z.2.2⟩,ob,es,ep,k _ _ (.inl rfl) e,c⟩
 | set S n=>obtain⟨ob,es,ep,t,e,c⟩:=x;exact⟨ob,es,ep,t,k _ _ (.inl rfl) e,c⟩
 | ins C dx fs=>
  obtain⟨d,z,ne,e,mA,⟨od,es,ep,e2,c⟩,r⟩:=x;exact⟨ho _ d,z,ne,k _ _ (.inl rfl) e,mA,⟨od,es,ep,k _ _ (.inr d) e2,c⟩,r⟩
 | own y=>obtain⟨ob,e⟩:=x;exact⟨ob,k _ _ (.inl rfl) e⟩
 | xd fs=>obtain⟨mA,⟨od,es,ep,e,c⟩,r⟩:=x;exact⟨mA,⟨od,es,ep,k _ _ (.inl rfl) e,c⟩,r⟩
 | LM lo hi=>obtain⟨t,u,v,e⟩:=x;exact⟨t,u,v,k _ _ (.inl rfl) e⟩
 | xW ob u ih=>obtain⟨e,q⟩:=x;exact⟨k _ _ (.inl rfl) e,ih q⟩
 | FK ps=>
  have e:h.get? a=some {cls:=.none,data:=.fields ps}:=x;show h'.get? a=some {cls:=.none,data:=.fields ps};exact k a _ (.inl rfl) e
 | met f y=>
  have e:h.get? a=some (PySem.W.methodObj (.ref f) (.ref y)):=x;show h'.get? a=some (PySem.W.methodObj (.ref f) (.ref y));exact k a _ (.inl rfl) e
 | ext φ=>obtain⟨p,⟨o,e⟩,st⟩:=x;exact⟨st _ _ p λo q=>k _ _ (.inl rfl) q,⟨o,k _ _ (.inl rfl) e⟩,st⟩
 | IF φ=>obtain⟨p,⟨o,e⟩,st⟩:=x;exact⟨st _ _ p λo q=>k _ _ (.inl rfl) q,⟨o,k _ _ (.inl rfl) e⟩,st⟩
theorem iV.lt(x:iV P w H h)(e:H a=some o):a < h.objs.size:=(x a o e).lt
theorem iV.fresh(x:iV P w H h)(e:h.objs.size<=a):H a=none:=by
 cases q:H a with
 | none=>rfl
 | some u=>exact absurd (Nq (x.lt q) e) (OJ _)
theorem iV.kept(x:iV P w H h)(k:∀b u,h.get? b=some u->h'.get? b=some u):iV P w H h':=λa o e=>
 (x a o e).t4 (λb u _ q=>k b u q) (λ_ q=>q) λ_ _ q=>q
theorem iV.laid(x:iV P w H h)(k:∀b u,h.get? b=some u->h'.get? b=some u)(hp:h.objs.size<=a)(new:bJ P w (upd H a o) h' a o):iV P w (upd H a o) h':=λb u e=>by
 have hn:=x.fresh hp
 by_cases hb:b=a
 ·subst hb;rw[aT] at e;cases e;exact new
 ·rw[aB hb] at e;exact(x b u e).t4 (λc v _ q=>k c v q) (λc q=>by rw[aB (aN q hn)];exact q) λc xs q=>by rw[aB (aN q hn)];exact q
def Rd(H:Hp)(a:Addr)(u:HO):Prop:=H a=some u\/∃o,H a=some (.xW o u)
theorem Rd.ok(r:Rd H a u)(x:iV P w H h):bJ P w H h a u:=by
 rcases r with r |⟨o,r⟩
 ·exact x a u r
 ·obtain⟨_,q⟩:=x a _ r;exact q
def K3:Option HO->Prop
 | some (.lst _)=>True
 | some (.dK _)=>True
 | some (.dT _)=>True
 | some (.set _ _)=>True
 | some (.ins _ _ _)=>True
 | some (.ext _)=>True
 | some (.IF _)=>True
 | _=>False
theorem iV.write(ok:iV P w H h)(mu:K3 (H x))(he:e=x\/H e=some (.own x))(k:∀b u,b≠e->h.get? b=some u->h'.get? b=some u)(heo:∃u,h'.get? e=some u)
  (new:bJ P w (upd H x o') h' x o'):iV P w (upd H x o') h':=λb u q=>by
 have nown:∀c y,H c=some (.own y)->c≠x:=λc y r z=>by subst z;rw[r] at mu;exact mu
 have ntup:∀c xs,H c=some (.tup xs)->c≠x:=λc xs r z=>by subst z;rw[r] at mu;exact mu
 by_cases hb:b=x
 ·subst hb;rw[aT] at q;cases q;exact new
 ·rw[aB hb] at q
  by_cases hbe:b=e
  ·have q':H b=some (.own x):=by
    rcases he with z | z
    ·exact absurd (hbe.trans z) hb
    ·rw[hbe];exact z
   rw[q] at q';cases q';obtain⟨v,hv⟩:=heo;exact⟨v,by rw[hbe];exact hv⟩
  ·refine(ok b u q).t4 (λc v hc r=>k c v ?_ r) (λc r=>by rw[aB (nown c b r)];exact r) λc xs r=>by rw[aB (ntup c xs r)];exact r
   rcases hc with rfl | hc
   ·exact hbe
   ·rintro rfl;rcases he with z | z
    ·exact nown c b hc z
    ·rw[hc] at z;cases z;exact hb rfl
structure Un(fs ex:List Addr)(H H':Hp)(h h':Heap):Prop where
 keep:∀b o,h.get? b=some o->H b=none->b∉fs->b∉ex->h'.get? b=some o
 slot:∀b o,h.get? b=some o->H b=none->b∈fs->b∉ex->∃sl,h'.get? b=some {o with slots:=sl}
 free:∀b o,h.get? b=some o->H b=none->b∉ex->H' b=none
 there:∀b o,h.get? b=some o->b∉ex->∃o',h'.get? b=some o'
 rE:∀b xs,H b=some (.tup xs)->H' b=some (.tup xs)
 pZ:∀b o u,H b=some (.xW o u)->H' b=some (.xW o u)
 rK:∀b ps,H b=some (.FK ps)->∃more,H' b=some (.FK (ps++more))
theorem Un.any(u:Un fs ex H H1 h h1)(q:h.get? b=some ob)(n:H b=none)(hx:b∉ex):∃sl,h1.get? b=some {ob with slots:=sl}:=by
 by_cases hb:b∈fs
 ·exact u.slot b ob q n hb hx
 ·exact⟨ob.slots,u.keep b ob q n hb hx⟩
theorem Un.kept(k:∀b u,h.get? b=some u->h'.get? b=some u):Un fs ex H H h h':=
 ⟨λb ob q _ _ _=>k b ob q,λb ob q _ _ _=>⟨ob.slots,k b ob q⟩,λ_ _ _ n _=>n,λb ob q _=>⟨ob,k b ob q⟩,λ_ _ q=>q,λ_ _ _ q=>q,λ_ ps q=>⟨#[],by rw[q];simp⟩⟩
theorem Un.refl:Un fs ex H H h h:=Un.kept λ_ _ q=>q
theorem Un.laid(k:∀b u,h.get? b=some u->h'.get? b=some u)(hp:h.objs.size<=a)(hn:H a=none):Un fs ex H (upd H a o) h h' where
 keep:=λb u q _ _ _=>k b u q
 slot:=λb u q _ _ _=>⟨u.slots,k b u q⟩
 free:=λb u q n _=>by rw[aB (NB (Nq (Nt q) hp))];exact n
 there:=λb u q _=>⟨u,k b u q⟩
 rE:=λb xs q=>by rw[aB (aN q hn)];exact q
 pZ:=λb u xs q=>by rw[aB (aN q hn)];exact q
 rK:=λb ps q=>⟨#[],by rw[aB (aN q hn),q];simp⟩
theorem Un.write(mu:K3 (H x))(he:e=x\/H e=some (.own x))(k:∀b u,b≠e->h.get? b=some u->h'.get? b=some u)(heo:∃u,h'.get? e=some u):Un fs ex H (upd H x o) h h':=by
 have hx:∀b,H b=none->b≠x:=λb n z=>by subst z;rw[n] at mu;exact mu
 have hb:∀b,H b=none->b≠e:=λb n z=>by
  subst z;rcases he with r | r
  ·exact hx b n r
  ·rw[n] at r;cases r
 have hm:∀b u,H b=some u->¬K3 (some u)->b≠x:=λb u q nm z=>by subst z;rw[q] at mu;exact nm mu
 refine⟨λb u q n _ _=>k b u (hb b n) q,λb u q n _ _=>⟨u.slots,k b u (hb b n) q⟩,λb u q n _=>by rw[aB (hx b n)];exact n,λb u q _=>?_,
  λb xs q=>by rw[aB (hm b _ q λz=>z)];exact q,λb u xs q=>by rw[aB (hm b _ q λz=>z)];exact q,λb ps q=>⟨#[],by rw[aB (hm b _ q λz=>z),q];simp⟩⟩
 by_cases hbe:b=e
 ·subst hbe;exact heo
 ·exact⟨u,k b u hbe q⟩
noncomputable def La(h:Heap)(H:Hp):List Addr:=(List.range h.objs.size).filter λa=>(H a).isSome
noncomputable def sO(h:Heap)(H:Hp):Heap:=PySem.W.hideAll h (La h H)
theorem zj(h:Heap)(H:Hp):(sO h H).objs.size=h.objs.size:=PySem.W.hideAll_size _ _
theorem BL(e:h.get? b=some o)(n:H b=none):(sO h H).get? b=some o:=
 PySem.W.hideAll_get _ e λhm=>by
  have q:(H b).isSome=true:=(List.mem_filter.mp hm).2;rw[n] at q;simp at q
theorem D2(e:(sO h H).get? b=some o):h.get? b=some o/\H b=none:=by
 have e':h.get? b=some o:=PySem.W.of_hideAll (La h H) e;refine⟨e',?_⟩;cases q:H b with
 | none=>rfl
 | some x=>
  have hm:b∈La h H:=List.mem_filter.mpr ⟨NR.mpr (Nt e'),by simp[q]⟩;have z:(sO h H).get? b=none:=PySem.W.hideAll_none (La h H) hm;rw[z] at e;cases e
structure Mod(K:FR)(mg:Str->Option Value)(base:Heap):Prop where
 Mb:K.In base
 glob:base.Ns mainGlobals mg
 blt:∃mb,base.Ns builtinsNs mb/\∀x:Str,x≠"__name__"->mb x=bootBuiltins x
 nolimit:base.NoLimit
structure Cx where
 prog:Program
 w:World
 K:FR
 mg:Str->Option Value
 base:Heap
 A:Around
 N:List Str
 s₀:Shared
 H₀:Hp
 env:Env
 outer:List Env
 stack:List Env
 ex:List Addr
 fn:Str->Bool
 calm:Bool
 pn:List (Addr×Obj)
 xe:Value->Shared->Prop
noncomputable def zQ(l:List Env):List Addr:=l.filterMap (·.frame)
abbrev Cx.fs(X:Cx):List Addr:=zQ X.outer
def KJ(sc:Scope)(x:Str):Prop:=sc.names.lookup x=some .local\/sc.names.lookup x=some .cell\/sc.names.lookup x=some .free
def Loc(sc:Scope)(x:Str):Prop:=sc.names.lookup x=some .local\/sc.names.lookup x=some .cell
def Look(env:Env)(h:Heap)(m:Str->Option Value)(x:Str)(u:Value):Prop:=
 (env.kindOf x=some .local/\m x=some u)\/((env.kindOf x=some .cell\/env.kindOf x=some .free)/\∃c,env.cells.lookup x=some c/\h.IsCell c (some u))
structure Cx.Ok(X:Cx):Prop where
 mod:Mod X.K X.mg X.base
 kind:X.env.scope.kind=.function
 glob:X.env.globals=mainGlobals
 blt:X.env.builtins=builtinsNs
 above:X.s₀.heap.objs.size<=X.env.locals
 inj:∀x y c,X.env.cells.lookup x=some c->X.env.cells.lookup y=some c->x=y
 has:∀x,(X.env.kindOf x=some .cell\/X.env.kindOf x=some .free)->∃c,X.env.cells.lookup x=some c
 Kt:∀x c,X.fn x=true->X.env.cells.lookup x=some c->X.s₀.heap.objs.size<=c
 hd:X.calm=true->X.A.handled=none
 frames:X.A.frames=some X.stack
 Lc:X.stack=X.outer\/(X.stack=X.env::X.outer/\X.env.frame=some X.env.locals)
 MF:∀b∈X.ex,b≠X.env.locals/\∀x c,X.env.cells.lookup x=some c->c≠b
 bs:∀b o,X.base.get? b=some o->X.s₀.heap.get? b=some o/\X.H₀ b=none
 Fi:X.base.objs.size<=X.s₀.heap.objs.size
 Bp:∀b o,X.base.get? b=some o->b∉X.ex
 Et:∀b∈X.ex,b∉X.fs
 oO:X.s₀.heap.FunFrames X.base X.outer
 ID:∀b∈X.fs,X.H₀ b=none
structure Inv(X:Cx)(pins:List (Addr×Obj))(σ:List (Option V))(H:Hp)(s:Shared):Prop where
 ok:X.Ok
 os:s.os=X.s₀.os
 bare:AllBare s.gens
 base:Un X.fs X.ex X.H₀ H X.s₀.heap s.heap
 loc:∃m,s.heap.Ns X.env.locals m/\∀(i:Nat)(x:Str)(v:V),X.N[i]?=some x->σ[i]?=some (some v)->KJ X.env.scope x->∃u,RelV v u/\Look X.env s.heap m x u
 cell:∀x c,X.env.cells.lookup x=some c->∃v,s.heap.IsCell c v
 free:H X.env.locals=none
 ip:∀x c,X.env.cells.lookup x=some c->H c=none
 pin:∀p∈X.pn++pins,s.heap.get? p.1=some p.2/\H p.1=none/\p.1≠X.env.locals/\p.1∉X.fs/\∀v,p.2.data≠.cell v
 aV:iV X.prog X.w H s.heap
 len:σ.length=X.N.length
section
variable {X:Cx} {pins:List (Addr×Obj)} {σ:List (Option V)} {H H':Hp} {s:Shared} {h':Heap}
theorem Cx.Ok.L8(ok:X.Ok)(e:X.base.get? b=some o):b∉X.fs:=λhb=>by
 have:=(ok.oO.mem hb).1;rw[e] at this;cases this
theorem Inv.bs(I:Inv X pins σ H s):∀b o,X.base.get? b=some o->s.heap.get? b=some o/\H b=none:=λb o e=>
 ⟨I.base.keep b o (I.ok.bs b o e).1 (I.ok.bs b o e).2 (I.ok.L8 e) (I.ok.Bp b o e),I.base.free b o (I.ok.bs b o e).1 (I.ok.bs b o e).2 (I.ok.Bp b o e)⟩
theorem Inv.bk(I:Inv X pins σ H s):∀b o,X.base.get? b=some o->s.heap.get? b=some o:=λb o e=>(I.bs b o e).1
theorem Inv.mod(I:Inv X pins σ H s):Mod X.K X.mg X.base:=I.ok.mod
theorem Inv.tP(I:Inv X pins σ H s):X.K.In s.heap:=I.ok.mod.Mb.keeps I.bk
theorem Inv.lt(I:Inv X pins σ H s):X.env.locals < s.heap.objs.size:=let⟨_,hn,_⟩:=I.loc;hn.lt
theorem Inv.sz(I:Inv X pins σ H s):X.s₀.heap.objs.size<=s.heap.objs.size:=Nr I.ok.above (Pw I.lt)
theorem Inv.L7(I:Inv X pins σ H s)(h:s.heap.objs.size<=a):a∉X.fs:=λhb=>by
 obtain⟨_,o,ho,_⟩:=I.ok.oO.mem hb;exact absurd (Nq (Nt ho) (Nr I.sz h)) (OJ _)
theorem Inv.HI(I:Inv X pins σ H s):∀x c,X.env.cells.lookup x=some c->c≠X.env.locals:=λx c e z=>by
 obtain⟨v,o,ho,hd⟩:=I.cell x c e;obtain⟨m,⟨o',es,ep,ho',hd',_⟩,_⟩:=I.loc;rw[z,ho'] at ho;cases ho;rw[hd'] at hd;cases hd
theorem Inv.oO(I:Inv X pins σ H s):s.heap.FunFrames X.base X.outer:=by
 have all:∀(l:List Env),(∀b∈zQ l,b∈X.fs)->X.s₀.heap.FunFrames X.base l->s.heap.FunFrames X.base l:=by
  intro l
  induction l with
  | nil=>intro _ _;trivial
  | cons env r ih=>
   intro hs hl;obtain⟨hk,⟨L,o,hf,hn,ho,hd⟩,hr⟩:=hl;have hL:L∈X.fs:=hs L (by unfold zQ;rw[Ol,hf];exact Nm);obtain⟨sl,e⟩:=I.base.slot L o ho (I.ok.ID L hL) hL λz=>I.ok.Et L z hL;exact⟨hk,⟨L,_,hf,hn,e,hd⟩,ih (λb hb=>hs b (by unfold zQ;rw[Ol,hf];exact Nl _ hb)) hr⟩
 exact all X.outer (λ_ hb=>hb) I.ok.oO
theorem Inv.stack(I:Inv X pins σ H s):s.heap.FunFrames X.base X.stack:=by
 rcases I.ok.Lc with e |⟨e,hf⟩
 ·rw[e];exact I.oO
 ·rw[e];obtain⟨m,hn,_⟩:=I.loc;refine .cons (by rw[I.ok.kind];decide) hf hn ?_ I.oO;exact Heap.get?_none_of_le (Nr I.ok.Fi I.ok.above)
theorem Inv.nD(I:Inv X pins σ H s):∀b∈zQ X.stack,b∈X.env.locals::X.fs:=λb hb=>by
 rcases I.ok.Lc with e |⟨e,hf⟩
 ·rw[e] at hb;exact Nl _ hb
 ·rw[e] at hb;unfold zQ at hb;rw[Ol,hf] at hb;exact hb
theorem Inv.xv(I:Inv X pins σ H s):∀b∈zQ X.stack,H b=none:=λb hb=>by
 rcases NA.mp (I.nD b hb) with e | hb
 ·rw[e];exact I.free
 ·obtain⟨_,o,ho,_⟩:=I.ok.oO.mem hb;exact I.base.free b o ho (I.ok.ID b hb) λz=>I.ok.Et b z hb
theorem Inv.step{g':Array GenState}{t':Nat}{d':Drawn}{ch:List Addr}(I:Inv X pins σ H s)
  (hch:∀b∈ch,(b∈X.ex\/X.s₀.heap.objs.size<=b)/\b≠X.env.locals/\(∀x c,X.env.cells.lookup x=some c->c≠b)/\∀p∈X.pn++pins,p.1≠b)
  (keep:∀b o,b≠X.env.locals->b∉X.fs->b∉ch->s.heap.get? b=some o->H b=none->h'.get? b=some o)
  (slot:∀b o,b≠X.env.locals->b∈X.fs->b∉ch->s.heap.get? b=some o->H b=none->∃sl,h'.get? b=some {o with slots:=sl}) (free:∀b o,b∉ch->s.heap.get? b=some o->H b=none->H' b=none)
  (there:∀b o,b∉ch->s.heap.get? b=some o->∃o',h'.get? b=some o')
  (rE:∀b xs,H b=some (.tup xs)->H' b=some (.tup xs)) (pZ:∀b o u,H b=some (.xW o u)->H' b=some (.xW o u)) (rK:∀b ps,H b=some (.FK ps)->∃more,H' b=some (.FK (ps++more)))
  (ns:∀m,s.heap.Ns X.env.locals m->h'.Ns X.env.locals m) (aV:iV X.prog X.w H' h') (hg:AllBare g'):
  Inv X pins σ H' {s with heap:=h',gens:=g',drawn:=d',toks:=t'}:=by
 have neL:∀b o,X.s₀.heap.get? b=some o->b≠X.env.locals:=λb o e=>NB (Nq (Nt e) I.ok.above);have neC:∀b o,X.s₀.heap.get? b=some o->b∉X.ex->b∉ch:=λb o e hx hb=>by
  rcases(hch b hb).1 with z | z
  ·exact hx z
  ·exact absurd (Nq (Nt e) z) (OJ _)
 have cellK:∀x c,X.env.cells.lookup x=some c->∀v,s.heap.IsCell c v->h'.IsCell c v:=λx c e v ⟨o,ho,hd⟩=>by
  have nch:c∉ch:=λz=>(hch c z).2.2.1 x c e rfl
  by_cases hc:c∈X.fs
  ·obtain⟨sl,q⟩:=slot c o (I.HI x c e) hc nch ho (I.ip x c e);exact⟨_,q,hd⟩
  ·exact⟨o,keep c o (I.HI x c e) hc nch ho (I.ip x c e),hd⟩
 refine⟨I.ok,I.os,hg,⟨λb o e n hb hx=>?_,λb o e n hb hx=>?_,λb o e n hx=>?_,λb o e hx=>?_,λb xs e=>rE b xs (I.base.rE b xs e),λb o xs e=>pZ b o xs (I.base.pZ b o xs e),λb ps e=>?_⟩,?_,λx c e=>?_,?_,λx c e=>?_,λp hp=>?_,aV,I.len⟩
 ·exact keep b o (neL b o e) hb (neC b o e hx) (I.base.keep b o e n hb hx) (I.base.free b o e n hx)
 ·obtain⟨sl,e1⟩:=I.base.slot b o e n hb hx;obtain⟨sl',e2⟩:=slot b _ (neL b o e) hb (neC b o e hx) e1 (I.base.free b o e n hx);exact⟨sl',e2⟩
 ·obtain⟨o',e1⟩:=I.base.there b o e hx;exact free b o' (neC b o e hx) e1 (I.base.free b o e n hx)
 ·obtain⟨o',e1⟩:=I.base.there b o e hx;exact there b o' (neC b o e hx) e1
 ·obtain⟨m1,e1⟩:=I.base.rK b ps e;obtain⟨m2,e2⟩:=rK b _ e1;exact⟨m1++m2,by rw[e2,Array.append_assoc]⟩
 ·obtain⟨m,hn,hl⟩:=I.loc;refine⟨m,ns m hn,λi x v e1 e2 e3=>?_⟩;obtain⟨u,r,l⟩:=hl i x v e1 e2 e3;refine⟨u,r,?_⟩;rcases l with l |⟨k,c,e,z⟩
  ·exact .inl l
  ·exact .inr ⟨k,c,e,cellK x c e _ z⟩
 ·obtain⟨v,z⟩:=I.cell x c e;exact⟨v,cellK x c e v z⟩
 ·obtain⟨m,⟨o,_,_,ho,_⟩,_⟩:=I.loc;exact free _ o (λz=>(hch _ z).2.1 rfl) ho I.free
 ·obtain⟨v,o,ho,hd⟩:=I.cell x c e;exact free c o (λz=>(hch c z).2.2.1 x c e rfl) ho (I.ip x c e)
 ·obtain⟨e,n,ne,nf,d⟩:=I.pin p hp;have nch:p.1∉ch:=λz=>(hch p.1 z).2.2.2 p hp rfl;exact⟨keep p.1 p.2 ne nf nch e n,free p.1 p.2 nch e n,ne,nf,d⟩
theorem Inv.un{t':Nat}(I:Inv X pins σ H s)(u:Un X.fs [] H H' s.heap h')(aV:iV X.prog X.w H' h'):Inv X pins σ H' {s with heap:=h',toks:=t'}:=by
 obtain⟨m,⟨o,es,ep,ho,r⟩,_⟩:=id I.loc;obtain⟨sl,hL⟩:=u.any ho I.free (by simp);exact I.step (g':=s.gens) (d':=s.drawn) (ch:=[]) (λ_ z=>nomatch z) (λb o _ hb _ e n=>u.keep b o e n hb (by simp)) (λb o _ hb _ e n=>u.slot b o e n hb (by simp)) (λb o _ e n=>u.free b o e n (by simp)) (λb o _ e=>u.there b o e (by simp)) u.rE u.pZ u.rK (λm' hm=>by
  obtain⟨o',es',ep',ho',r'⟩:=hm;rw[ho] at ho';cases ho';exact⟨_,es',ep',hL,r'⟩) aV I.bare
theorem Inv.call{g':Array GenState}{t':Nat}{d':Drawn}{ch:List Addr}(I:Inv X pins σ H s)(u:Un (zQ X.stack) ch H H' s.heap h')(aV:iV X.prog X.w H' h')(hg:AllBare g')
  (hch:∀b∈ch,(b∈X.ex\/X.s₀.heap.objs.size<=b)/\b≠X.env.locals/\(∀x c,X.env.cells.lookup x=some c->c≠b)/\∀p∈X.pn++pins,p.1≠b):
  Inv X pins σ H' {s with heap:=h',gens:=g',drawn:=d',toks:=t'}:=by
 obtain⟨m,⟨o,es,ep,ho,r⟩,_⟩:=id I.loc;obtain⟨sl,hL⟩:=u.any ho I.free λz=>(hch _ z).2.1 rfl;exact I.step (ch:=ch) hch (λb o hL hb hc e n=>u.keep b o e n (λz=>(NA.mp (I.nD b z)).elim hL hb) hc) (λb o _ _ hc e n=>u.any e n hc) (λb o hc e n=>u.free b o e n hc) (λb o hc e=>u.there b o e hc) u.rE u.pZ u.rK (λm' hm=>by
  obtain⟨o',es',ep',ho',r'⟩:=hm;rw[ho] at ho';cases ho';exact⟨_,es',ep',hL,r'⟩) aV hg
theorem Inv.turned{t':Nat}{it:Addr}(I:Inv X pins σ H s)(k:∀b o,b≠it->s.heap.get? b=some o->h'.get? b=some o)(hn:H it=none)(hL:it≠X.env.locals)
  (h1:it∈X.ex\/X.s₀.heap.objs.size<=it) (h2:∀x c,X.env.cells.lookup x=some c->c≠it) (h3:∀p∈X.pn++pins,p.1≠it):Inv X pins σ H {s with heap:=h',toks:=t'}:=by
 have nit:∀b u,H b=some u->b≠it:=λb u e z=>by rw[z,hn] at e;cases e
 refine I.step (g':=s.gens) (d':=s.drawn) (ch:=[it]) (λb hb=>?_) (λb o _ _ hc e _=>k b o (λz=>hc (by simp[z])) e) (λb o _ _ hc e _=>⟨o.slots,k b o (λz=>hc (by simp[z])) e⟩) (λ_ _ _ _ n=>n)
  (λb o hc e=>⟨o,k b o (λz=>hc (by simp[z])) e⟩) (λ_ _ e=>e) (λ_ _ _ e=>e) (λb ps e=>⟨#[],by rw[e];simp⟩) (λm hm=>?_) (λb u e=>?_) I.bare
 ·have e:b=it:=by simpa using hb
  subst e;exact⟨h1,hL,h2,h3⟩
 ·obtain⟨o,es,ep,ho,r⟩:=hm;exact⟨o,es,ep,k _ o (Ox hL) ho,r⟩
 ·refine(I.aV b u e).t4 (λc v hc q=>k c v ?_ q) (λ_ q=>q) λ_ _ q=>q;rcases hc with z | z
  ·rw[z];exact nit b u e
  ·exact nit c _ z
theorem Inv.tok(I:Inv X pins σ H s)(t:Nat):Inv X pins σ H {s with toks:=t}:=I.un (h':=s.heap) (t':=t) Un.refl I.aV
theorem Inv.kept(I:Inv X pins σ H s)(k:∀b u,s.heap.get? b=some u->h'.get? b=some u):Inv X pins σ H {s with heap:=h',toks:=t'}:=I.un (Un.kept k) (I.aV.kept k)
theorem Inv.laid(I:Inv X pins σ H s)(k:∀b u,s.heap.get? b=some u->h'.get? b=some u)(hp:s.heap.objs.size<=a)(new:bJ X.prog X.w (upd H a o) h' a o):
  Inv X pins σ (upd H a o) {s with heap:=h',toks:=t'}:=I.un (Un.laid k hp (I.aV.fresh hp)) (I.aV.laid k hp new)
theorem Inv.write(I:Inv X pins σ H s)(mu:K3 (H x))(he:e=x\/H e=some (.own x))(k:∀b u,b≠e->s.heap.get? b=some u->h'.get? b=some u)(heo:∃u,h'.get? e=some u)(new:bJ X.prog X.w (upd H x o) h' x o):Inv X pins σ (upd H x o) {s with heap:=h',toks:=t'}:=I.un (Un.write mu he k heo) (I.aV.write mu he k heo new)
theorem Inv.xF(I:Inv X pins σ H s)(h:∀p∈pins',s.heap.get? p.1=some p.2/\H p.1=none/\p.1≠X.env.locals/\p.1∉X.fs/\∀v,p.2.data≠.cell v):Inv X pins' σ H s:=
 ⟨I.ok,I.os,I.bare,I.base,I.loc,I.cell,I.free,I.ip,λp hp=>(NY.mp hp).elim (λz=>I.pin p (Rl _ z)) (h p),I.aV,I.len⟩
theorem uF{N:List Str}(hN:N.Nodup){i j:Nat}{x:Str}(a:N[i]?=some x)(b:N[j]?=some x):i=j:=by
 obtain⟨h1,e1⟩:=Ng.mp a;obtain⟨h2,e2⟩:=Ng.mp b;exact(List.getElem_inj hN).mp (e1.trans e2.symm)
theorem qj{M:Model}{A:Around}{E:Value->Shared->Prop}{i:Nat}{x:Str}{v:V}{u:Value}{Q:Unit->Shared->Prop}(I:Inv X pins σ H s)(hN:X.N.Nodup)(hi:X.N[i]?=some x)(hx:Loc X.env.scope x)(r:RelV v u)
  (h:∀s',Inv X pins (σ.set i (some v)) H s'->(∃a,Heap.SameBut a s.heap s'.heap/\(a=X.env.locals\/X.env.cells.lookup x=some a))->Q () s') (hf:X.fn x=true\/X.env.scope.names.lookup x=some .local:=by first | exact .inl rfl | exact .inr rfl | assumption):wpAny M A (storeName X.env x u) Q E s:=by
 obtain⟨m,hn,hl⟩:=id I.loc;have hcls:(X.env.scope.kind==.class||(X.env.scope.kind==.module&&X.env.locals !=X.env.globals))=false:=by rw[I.ok.kind];rfl
 have hiσ:i < σ.length:=by rw[I.len];exact(Ng.mp hi).1
 have HI:=I.HI;have tracked:∀{a:Addr} {h':Heap},(∃o,s.heap.get? a=some o/\H a=none)->Heap.SameBut a s.heap h'->iV X.prog X.w H h':=λ{a h'} ha hs b ob e=>by
  obtain⟨_,_,hfree⟩:=ha;refine(I.aV b ob e).t4 (λc w' hc q=>(hs.2 c ?_).trans q) (λ_ q=>q) λ_ _ q=>q;rintro rfl;rcases hc with rfl | hc
  ·rw[hfree] at e;cases e
  ·rw[hfree] at hc;cases hc
 rcases hx with hk | hk
 ·refine wpAny_storeName_local hk hn (λh' hn' hs=>?_) hcls;obtain⟨oL,_,_,hoL,_⟩:=id hn;refine h _ ⟨I.ok,I.os,I.bare,⟨λb o e n hb hx=>?_,λb o e n hb hx=>?_,I.base.free,λb o e hx=>?_,I.base.rE,I.base.pZ,I.base.rK⟩,⟨_,hn',λj y v' e1 e2 e3=>?_⟩,λy c e=>?_,I.free,I.ip,λp hp=>?_,tracked ⟨oL,hoL,I.free⟩ hs,by simpa using I.len⟩ ⟨_,hs,.inl rfl⟩
  ·exact(hs.2 b (NB (Nq (Nt e) I.ok.above))).trans (I.base.keep b o e n hb hx)
  ·obtain⟨sl,e1⟩:=I.base.slot b o e n hb hx;exact⟨sl,(hs.2 b (NB (Nq (Nt e) I.ok.above))).trans e1⟩
  ·obtain⟨o',e1⟩:=I.base.there b o e hx;exact⟨o',(hs.2 b (NB (Nq (Nt e) I.ok.above))).trans e1⟩
  ·by_cases hj:j=i
   ·subst hj;rw[hi] at e1;cases e1;rw[Ov hiσ] at e2;cases e2;exact⟨u,r,.inl ⟨hk,by simp⟩⟩
   ·rw[Oq (Ox hj)] at e2;obtain⟨u',r',q⟩:=hl j y v' e1 e2 e3;refine⟨u',r',?_⟩;rcases q with⟨k,e⟩ |⟨k,c,e,z⟩
    ·refine .inl ⟨k,?_⟩;have:y≠x:=λe=>hj (uF hN e1 (e ▸ hi));simp[this,e]
    ·exact .inr ⟨k,c,e,z.sameBut hs (HI y c e)⟩
  ·obtain⟨w',z⟩:=I.cell y c e;exact⟨w',z.sameBut hs (HI y c e)⟩
  ·obtain⟨e,n,ne,nf,d⟩:=I.pin p hp;exact⟨(hs.2 p.1 ne).trans e,n,ne,nf,d⟩
 ·have hfn:X.fn x=true:=by
   rcases hf with z | z
   ·exact z
   ·rw[z] at hk;cases hk
  obtain⟨c,hc⟩:=I.ok.has x (.inl hk);obtain⟨w',z⟩:=I.cell x c hc;refine wpAny_storeName_cell I.ok.kind hk hc z (λh' hc' hs=>?_);obtain⟨oc,hoc,hocd⟩:=id z;refine h {s with heap:=h'} ⟨I.ok,I.os,I.bare,⟨λb o e n hb hx=>?_,λb o e n hb hx=>?_,I.base.free,λb o e hx=>?_,I.base.rE,I.base.pZ,I.base.rK⟩,⟨m,hn.sameBut hs (Ox (HI x c hc)),λj y v' e1 e2 e3=>?_⟩,λy c' e=>?_,I.free,I.ip,λp hp=>?_,tracked ⟨oc,hoc,I.ip x c hc⟩ hs,by simpa using I.len⟩ ⟨c,hs,.inr hc⟩
  ·exact(hs.2 b (NB (Nq (Nt e) (I.ok.Kt x c hfn hc)))).trans (I.base.keep b o e n hb hx)
  ·obtain⟨sl,e1⟩:=I.base.slot b o e n hb hx;exact⟨sl,(hs.2 b (NB (Nq (Nt e) (I.ok.Kt x c hfn hc)))).trans e1⟩
  ·obtain⟨o',e1⟩:=I.base.there b o e hx;exact⟨o',(hs.2 b (NB (Nq (Nt e) (I.ok.Kt x c hfn hc)))).trans e1⟩
  ·by_cases hj:j=i
   ·subst hj;rw[hi] at e1;cases e1;rw[Ov hiσ] at e2;cases e2;exact⟨u,r,.inr ⟨.inl hk,c,hc,hc'⟩⟩
   ·rw[Oq (Ox hj)] at e2;obtain⟨u',r',q⟩:=hl j y v' e1 e2 e3;refine⟨u',r',?_⟩;rcases q with q |⟨k,c',e,z'⟩
    ·exact .inl q
    ·refine .inr ⟨k,c',e,z'.sameBut hs ?_⟩;rintro rfl;exact hj (uF hN e1 (I.ok.inj _ _ _ e hc ▸ hi))
  ·by_cases hcc:c'=c
   ·subst hcc;exact⟨_,hc'⟩
   ·obtain⟨w2,z2⟩:=I.cell y c' e;exact⟨w2,z2.sameBut hs hcc⟩
  ·obtain⟨e,n,ne,nf,d⟩:=I.pin p hp;refine⟨(hs.2 p.1 ?_).trans e,n,ne,nf,d⟩;intro q;rw[q,hoc] at e;have q':oc=p.2:=Option.some.inj e;exact d w' (by rw[<-q'];exact hocd)
theorem jK(I:Inv X pins σ H s)(hN:X.N.Nodup)(hi:X.N[i]?=some x)(hx:Loc X.env.scope x)(r:RelV v u)(h:∀s',Inv X pins (σ.set i (some v)) H s'->Q () s')(hf:X.fn x=true\/X.env.scope.names.lookup x=some .local:=by first | exact .inl rfl | exact .inr rfl | assumption):wpAny M A (storeName X.env x u) Q E s:=
 qj I hN hi hx r (λs' I' _=>h s' I') hf
theorem Inv.call'(I:Inv X pins σ H s)(ho:s'.os=s.os)(u:Un (zQ X.stack) ch H H' s.heap s'.heap)(aV:iV X.prog X.w H' s'.heap)(hg:AllBare s'.gens)(hch:∀b∈ch,(b∈X.ex\/X.s₀.heap.objs.size<=b)/\b≠X.env.locals/\(∀x c,X.env.cells.lookup x=some c->c≠b)/\∀p∈X.pn++pins,p.1≠b):Inv X pins σ H' s':=by
 obtain⟨h',g',d',t',o'⟩:=s';have e:o'=s.os:=ho;subst e;exact I.call (g':=g') (t':=t') (d':=d') u aV hg hch
end
abbrev XK:=Value->Option Addr->Hp->Prop
abbrev St:=List (Option V)
abbrev VK:=V->Hp->Prop
abbrev TE:=St->Hp->VK->Prop
abbrev TT:=St->Hp->(Bool->Hp->Prop)->Prop
abbrev TA:=St->Hp->(List V->Hp->Prop)->Prop
structure Ends where
 nx:St->Hp->Prop
 rt:VK
 bk:St->Hp->Prop:=λ_ _=>False
 ct:St->Hp->Prop:=λ_ _=>False
abbrev TS:=Ends->St->Hp->Prop
inductive MS(X:Cx)(pins:List (Addr×Obj))(σ:St)(Q:VK)(u:Value)(s':Shared):Prop where
 | mk (v H'):Inv X pins σ H' s'->RelV v u->Q v H'->MS X pins σ Q u s'
def EP(X:Cx)(pins:List (Addr×Obj))(σ:St)(Q:VK)(u:Value)(s':Shared):Prop:=MS X pins σ Q u s'
def TP(X:Cx)(pins:List (Addr×Obj))(σ:St)(Q:Bool->Hp->Prop)(b:Bool)(s':Shared):Prop:=∃H',Inv X pins σ H' s'/\Q b H'
inductive MT(X:Cx)(pins:List (Addr×Obj))(σ:St)(Q:List V->Hp->Prop)(us:List Value)(s':Shared):Prop where
 | mk (vs H'):Inv X pins σ H' s'->Vals vs us->Q vs H'->MT X pins σ Q us s'
def AP(X:Cx)(pins:List (Addr×Obj))(σ:St)(Q:List V->Hp->Prop)(us:List Value)(s':Shared):Prop:=MT X pins σ Q us s'
def SP(X:Cx)(pins:List (Addr×Obj))(D:Ends)(f:Flow)(s':Shared):Prop:=
 match f with
 | .next=>∃σ' H',Inv X pins σ' H' s'/\D.nx σ' H'
 | .brk=>∃σ' H',Inv X pins σ' H' s'/\D.bk σ' H'
 | .cont=>∃σ' H',Inv X pins σ' H' s'/\D.ct σ' H'
 | .ret u=>∃v σ' H',Inv X pins σ' H' s'/\RelV v u/\D.rt v H'
def PE(X:Cx)(e:Expr)(t:TE):Prop:=
 ∀(pins:List (Addr×Obj)) (s:Shared) (σ:St) (H:Hp) (Q:VK),Inv X pins σ H s->t σ H Q->wpAny (model X.prog X.w) X.A (eval e X.env) (EP X pins σ Q) X.xe s
def PT(X:Cx)(e:Expr)(t:TT):Prop:=
 ∀(pins:List (Addr×Obj)) (s:Shared) (σ:St) (H:Hp) (Q:Bool->Hp->Prop),Inv X pins σ H s->t σ H Q->wpAny (model X.prog X.w) X.A (isTrue e X.env (eval e X.env)) (TP X pins σ Q) X.xe s
def PW(X:Cx)(e:Expr)(t:TT):Prop:=
 ∀(whole:Sem Value)(pins:List (Addr×Obj)) (s:Shared) (σ:St) (H:Hp) (Q:Bool->Hp->Prop),Inv X pins σ H s->t σ H Q->wpAny (model X.prog X.w) X.A (isTrue e X.env whole) (TP X pins σ Q) X.xe s
theorem PW.pt(h:PW X e t):PT X e t:=h _
def PA(X:Cx)(es:List Expr)(t:TA):Prop:=
 ∀(pos:Pos)(pins:List (Addr×Obj)) (s:Shared) (σ:St) (H:Hp) (Q:List V->Hp->Prop),Inv X pins σ H s->t σ H Q->wpAny (model X.prog X.w) X.A (spliced (backTo pos (starEach es X.env))) (AP X pins σ Q) X.xe s
def PS(X:Cx)(st:Stmt)(t:TS):Prop:=
 ∀(pins:List (Addr×Obj)) (s:Shared) (σ:St) (H:Hp) (D:Ends),Inv X pins σ H s->t D σ H->wpAny (model X.prog X.w) X.A (exec st X.env) (SP X pins D) X.xe s
def vE(X:Cx)(st:List Stmt)(t:TS):Prop:=
 ∀(pins:List (Addr×Obj)) (s:Shared) (σ:St) (H:Hp) (D:Ends),Inv X pins σ H s->t D σ H->wpAny (model X.prog X.w) X.A (execs st X.env) (SP X pins D) X.xe s
theorem cy(h:wpAny M A t Q E s)(hQ:∀a s,Q a s->Q' a s):wpAny M A t Q' E s:=O5 h hQ λ_ _ x=>x
section
variable {X:Cx}
def Lu(i:Nat):TE:=λσ H Q=>∃v,σ[i]?=some (some v)/\Q v H
def tC(v:V):TE:=λ_ H Q=>Q v H
theorem GH(hN:X.N[i]?=some x)(hv:KJ X.env.scope x)(hd:(x==("__debug__":Str))=false:=by decide)(hcd:(x==("__classdict__":Str))=false:=by decide):PE X (.Name x pos) (Lu i):=by
 intro pins s σ H Q I h;obtain⟨v,e,h⟩:=h;obtain⟨m,hn,hl⟩:=I.loc;obtain⟨u,r,l⟩:=hl i x v hN e hv;have fin:EP X pins σ Q u s:=⟨v,H,I,r,h⟩;rcases l with⟨hk,hm⟩ |⟨hk,c,hc,hcell⟩
 ·exact wpAny_Name (wpAny_loadName_local I.ok.kind hk hn hm fin) hd
 ·rcases hk with hk | hk
  ·exact wpAny_Name (wpAny_loadName_cell I.ok.kind hk hc hcell fin) hd
  ·exact wpAny_Name (wpAny_loadName_free I.ok.kind hk hc hcell fin hcd) hd
theorem GP{i j pos}:PE X (.Constant (.int i) j pos) (tC (.int i)):=λ_ _ _ H _ I h=>wpAny_Constant_int ⟨.int i,H,I.tok _,⟨_,rfl⟩,h⟩
theorem JP{b j pos}:PE X (.Constant (.bool b) j pos) (tC (.bl b)):=λ_ _ _ H _ I h=>Constant_bool ⟨.bl b,H,I,rfl,h⟩
theorem GN{j pos}:PE X (.Constant .none j pos) (tC .bx):=λ_ _ _ H _ I h=>Constant_none ⟨.bx,H,I,rfl,h⟩
theorem GJ{x j pos}:PE X (.Constant (.str x) j pos) (tC (.str x)):=λ_ _ _ H _ I h=>Calls.Constant_str ⟨.str x,H,I.tok _,⟨_,rfl⟩,h⟩
def Gl(X:Cx)(x:Str):Prop:=X.env.kindOf x=some .globalImplicit
theorem xQ(I:Inv X pins σ H s)(hg:Gl X x)(hm:X.mg x=some u)(h:Q u s)(hd:(x==("__debug__":Str))=false:=by decide):wpAny (model X.prog X.w) X.A (eval (.Name x pos) X.env) Q E s:=
 SY I.ok.kind hg (Calls.loadGlobal_global (by rw[I.ok.glob];exact I.mod.glob.keeps I.bk) hm h) hd
theorem ik(I:Inv X pins σ H s)(hg:Gl X x)(hm:X.mg x=none)(hv:bootBuiltins x=some u)(h:Q u s)(hn:x≠"__name__":=by decide)(hd:(x==("__debug__":Str))=false:=by decide):wpAny (model X.prog X.w) X.A (eval (.Name x pos) X.env) Q E s:=by
 obtain⟨mb,h1,h2⟩:=I.mod.blt;exact SY I.ok.kind hg (Calls.loadGlobal_builtin (by rw[I.ok.glob];exact I.mod.glob.keeps I.bk) hm (by rw[I.ok.blt];exact h1.keeps I.bk) ((h2 x hn).trans hv) h) hd
theorem xH(hg:Gl X x)(hm:X.mg x=some u)(r:RelV v u)(hd:(x==("__debug__":Str))=false:=by decide):PE X (.Name x pos) (tC v):=
 λ_ _ _ H _ I h=>xQ I hg hm ⟨v,H,I,r,h⟩ hd
theorem DY(hg:Gl X x)(hm:X.mg x=none)(hv:bootBuiltins x=some u)(r:RelV v u)(hn:x≠"__name__":=by decide)(hd:(x==("__debug__":Str))=false:=by decide):PE X (.Name x pos) (tC v):=
 λ_ _ _ H _ I h=>ik I hg hm hv ⟨v,H,I,r,h⟩ hn hd
variable {a b:Expr} {ta tb:TE} {pos:Pos}
variable {tA tB':TT} {rest:List Expr}
def f6(t u:TT):TT:=λσ H Q=>t σ H λc H1=>if c=true then u σ H1 Q else Q false H1
def jD(t u:TT):TT:=λσ H Q=>t σ H λc H1=>if c=true then Q true H1 else u σ H1 Q
def cm(t:TT):TT:=λσ H Q=>t σ H λc H1=>Q (!c) H1
theorem DC(ha:PT X a tA):PW X (.BoolOp .And [a] pos) tA:=by
 intro wh pins s σ H Q I h;refine isTrue_and (cy (ha pins s σ H Q I h) λc s1 e=>?_);cases c with
 | true=>exact isTrue_and_nil e
 | false=>exact e
theorem Gv(ha:PT X a tA):PW X (.BoolOp .Or [a] pos) tA:=by
 intro wh pins s σ H Q I h;refine isTrue_or (cy (ha pins s σ H Q I h) λc s1 e=>?_);cases c with
 | false=>exact isTrue_or_nil e
 | true=>exact e
theorem Gw(ha:PT X a tA)(hb:PW X (.BoolOp .And (b::rest) pos) tB'):PW X (.BoolOp .And (a::b::rest) pos) (f6 tA tB'):=by
 intro wh pins s σ H Q I h;refine isTrue_and (cy (ha pins s σ H _ I h) λc s1 ⟨H1,I1,q1⟩=>?_);cases c with
 | true=>exact hb wh pins s1 σ H1 Q I1 q1
 | false=>exact⟨H1,I1,q1⟩
theorem JI(ha:PT X a tA)(hb:PW X (.BoolOp .Or (b::rest) pos) tB'):PW X (.BoolOp .Or (a::b::rest) pos) (jD tA tB'):=by
 intro wh pins s σ H Q I h;refine isTrue_or (cy (ha pins s σ H _ I h) λc s1 ⟨H1,I1,q1⟩=>?_);cases c with
 | true=>exact⟨H1,I1,q1⟩
 | false=>exact hb wh pins s1 σ H1 Q I1 q1
theorem Gx(ha:PT X a tA):PT X (.UnaryOp .Not a pos) (cm tA):=by
 intro pins s σ H Q I h;exact isTrue_not (ha pins s σ H (λc H1=>Q (!c) H1) I h)
def Jm(ta tb:TE):TE:=λσ H Q=>ta σ H λx H1=>∃c,x=.bl c/\if c=true then tb σ H1 Q else Q (.bl false) H1
def Lx(ta tb:TE):TE:=λσ H Q=>ta σ H λx H1=>∃c,x=.bl c/\if c=true then Q (.bl true) H1 else tb σ H1 Q
def Jf(ta:TE):TE:=λσ H Q=>ta σ H λx H1=>∃c,x=.bl c/\Q (.bl (!c)) H1
theorem GK{op}(h:PE X a t):PE X (.BoolOp op [a] pos) t:=λpins s σ H Q I hw=>BoolOp_one (h pins s σ H Q I hw)
theorem GQ(ha:PE X a ta)(hb:PE X (.BoolOp .And (b::rest) pos) tb):PE X (.BoolOp .And (a::b::rest) pos) (Jm ta tb):=by
 intro pins s σ H Q I h;refine BoolOp_and (cy (ha pins s σ H _ I h) λv s1 ⟨x,H1,I1,r1,q1⟩=>?_);obtain⟨c,rfl,q1⟩:=q1;cases r1;refine Pz ?_;cases c with
 | true=>exact hb pins s1 σ H1 Q I1 q1
 | false=>exact⟨.bl false,H1,I1,rfl,q1⟩
theorem JM(ha:PE X a ta)(hb:PE X (.BoolOp .Or (b::rest) pos) tb):PE X (.BoolOp .Or (a::b::rest) pos) (Lx ta tb):=by
 intro pins s σ H Q I h;refine BoolOp_or (cy (ha pins s σ H _ I h) λv s1 ⟨x,H1,I1,r1,q1⟩=>?_);obtain⟨c,rfl,q1⟩:=q1;cases r1;refine Pz ?_;cases c with
 | false=>exact hb pins s1 σ H1 Q I1 q1
 | true=>exact⟨.bl true,H1,I1,rfl,q1⟩
theorem GL(ha:PE X a ta):PE X (.UnaryOp .Not a pos) (Jf ta):=by
 intro pins s σ H Q I h;refine UnaryOp_ (cy (ha pins s σ H _ I h) λv s1 ⟨x,H1,I1,r1,q1⟩=>?_);obtain⟨c,rfl,q1⟩:=q1;cases r1;exact not_of (Pz ⟨.bl (!c),H1,I1,rfl,q1⟩)
end
def eW(K:FR)(H:Hp)(a:Addr)(xs:List V):Prop:=
 Rd H a (.lst xs)\/
  ∃(o:Obj)(its:Array Value)(n:Nat),K.lookup a=some o/\o.cls=.type "list"/\o.dict=none/\o.data=.seq its n/\its.size<=sizeLine/\Vals xs its.toList
def je(K:FR)(H:Hp)(a:Addr)(xs:List V):Prop:=
 Rd H a (.tup xs)\/
  ∃(o:Obj)(its:Array Value)(n:Nat),K.lookup a=some o/\o.cls=.type "tuple"/\o.data=.seq its n/\its.size<=sizeLine/\Vals xs its.toList/\o.dict=none
noncomputable def Ms:Value->Option V
 | .none=>some .bx
 | .bool b=>some (.bl b)
 | .int i _=>some (.int i)
 | .str x _=>some (.str x)
 | .bytes b _=>some (.byt b)
 | .float b _=>some (.IE b)
 | .ref a=>some (.ref a)
 | .type n=>some (.ty n)
 | _=>none
theorem RelV.abs(r:RelV x u):Ms u=some x:=by
 cases x with
 | bx=>cases r;rfl
 | bl _=>cases r;rfl
 | int _=>obtain⟨t,rfl⟩:=r;rfl
 | str _=>obtain⟨t,rfl⟩:=r;rfl
 | byt _=>obtain⟨t,rfl⟩:=r;rfl
 | IE _=>obtain⟨t,rfl⟩:=r;rfl
 | ref _=>cases r;rfl
 | ty _=>cases r;rfl
theorem RelV.inj(r:RelV x u)(q:RelV y u):x=y:=Option.some.inj (r.abs.symm.trans q.abs)
theorem Vals.inj{xs ys:List V}{us:List Value}(a:Vals xs us)(b:Vals ys us):xs=ys:=by
 induction a generalizing ys with
 | nil=>cases b;rfl
 | cons r t ih=>cases b with | cons r' t'=>rw[r.inj r',ih t']
theorem eW.of{K:FR}(h:H a=some (.lst xs)):eW K H a xs:=.inl (.inl h)
theorem Inv.list(I:Inv X pins σ H s)(h:eW X.K H a xs):∃its:List Value,Vals xs its/\PlainL s.heap a its.toArray/\xs.length<=sizeLine:=by
 rcases h with h |⟨o,its,n,hk,hc,hd,hs,hz,r⟩
 ·obtain⟨z,its,n,r,e⟩:=h.ok I.aV;exact⟨its,r,⟨_,n,e,rfl,rfl,rfl⟩,z⟩
 ·refine⟨its.toList,r,⟨o,n,I.tP a o hk,hc,hd,by simpa using hs⟩,?_⟩;have e:=r.length;simp only[NK] at e
  lia
theorem Inv.tuple(I:Inv X pins σ H s)(h:je X.K H a xs):∃its:List Value,Vals xs its/\IsTup s.heap a its.toArray/\xs.length<=sizeLine:=by
 rcases h with h |⟨o,its,n,hk,hc,hs,hz,r,_⟩
 ·obtain⟨z,its,r,p⟩:=h.ok I.aV;exact⟨its,r,p.tup,z⟩
 ·refine⟨its.toList,r,⟨o,I.tP a o hk,hc,n,by simpa using hs⟩,?_⟩;have e:=r.length;simp only[NK] at e
  lia
theorem Inv.uL(I:Inv X pins σ H s)(h:eW X.K H a xs)(h':eW X.K H a ys):xs=ys:=by
 obtain⟨its,r,⟨o,n,e,_,_,d⟩,_⟩:=I.list h;obtain⟨its',r',⟨o',n',e',_,_,d'⟩,_⟩:=I.list h';rw[e] at e';cases e';rw[d] at d';injection d' with d1 _
 have:its=its':=by simpa using congrArg Array.toList d1
 subst this;exact r.inj r'
theorem Inv.qe(I:Inv X pins σ H s)(h:je X.K H a xs)(h':je X.K H a ys):xs=ys:=by
 obtain⟨its,r,⟨o,e,_,n,d⟩,_⟩:=I.tuple h;obtain⟨its',r',⟨o',e',_,n',d'⟩,_⟩:=I.tuple h';rw[e] at e';cases e';rw[d] at d';injection d' with d1 _
 have:its=its':=by simpa using congrArg Array.toList d1
 subst this;exact r.inj r'
abbrev Cx.pL(X:Cx)(E:Value->Shared->Prop):Cx:={X with xe:=E}
abbrev Cx.IC(X:Cx):Cx:=X.pL λ_ _=>False
theorem Cx.Ok.pL{X:Cx}(ok:X.Ok)(E:Value->Shared->Prop):(X.pL E).Ok:=
 ⟨ok.mod,ok.kind,ok.glob,ok.blt,ok.above,ok.inj,ok.has,ok.Kt,ok.hd,ok.frames,ok.Lc,ok.MF,ok.bs,ok.Fi,ok.Bp,ok.Et,ok.oO,ok.ID⟩
theorem Cx.Ok.g0{X:Cx}{E:Value->Shared->Prop}(ok:(X.pL E).Ok):X.Ok:=
 ⟨ok.mod,ok.kind,ok.glob,ok.blt,ok.above,ok.inj,ok.has,ok.Kt,ok.hd,ok.frames,ok.Lc,ok.MF,ok.bs,ok.Fi,ok.Bp,ok.Et,ok.oO,ok.ID⟩
theorem Inv.pL(I:Inv X pins σ H s)(E:Value->Shared->Prop):Inv (X.pL E) pins σ H s:=⟨I.ok.pL E,I.os,I.bare,I.base,I.loc,I.cell,I.free,I.ip,I.pin,I.aV,I.len⟩
theorem Inv.g0(I:Inv (X.pL E) pins σ H s):Inv X pins σ H s:=⟨I.ok.g0,I.os,I.bare,I.base,I.loc,I.cell,I.free,I.ip,I.pin,I.aV,I.len⟩
theorem SP.g0(h:SP (X.pL E) pins D f s'):SP X pins D f s':=by
 cases f with
 | next=>obtain⟨σ',H',I,q⟩:=h;exact⟨σ',H',I.g0,q⟩
 | brk=>obtain⟨σ',H',I,q⟩:=h;exact⟨σ',H',I.g0,q⟩
 | cont=>obtain⟨σ',H',I,q⟩:=h;exact⟨σ',H',I.g0,q⟩
 | ret u=>obtain⟨v,σ',H',I,r,q⟩:=h;exact⟨v,σ',H',I.g0,r,q⟩
theorem vE.IC{st:List Stmt}{t:TS}(h:vE X.IC st t):vE X st t:=λpins s σ H D I hw=>
 O5 (h pins s σ H D (I.pL _) hw) (λ_ _ q=>q.g0) λ_ _ z=>False.elim z
section
variable {X:Cx} {st:Stmt} {rest:List Stmt} {t u:TS} {e:Expr} {te:TE} {pos:Pos}
def Jg:TS:=λD σ H=>D.nx σ H
def Ja(t u:TS):TS:=λD σ H=>t {D with nx:=u D} σ H
theorem DF:vE X [] Jg:=λ_ _ σ H _ I h=>Sq ⟨σ,H,I,h⟩
theorem AS(h1:PS X st t)(h2:vE X rest u):vE X (st::rest) (Ja t u):=by
 intro pins s σ H D I h;refine wpAny_execs_cons (cy (h1 pins s σ H {D with nx:=u D} I h) λf s1 q=>?_);cases f with
 | next=>
  obtain⟨σ',H',I',q⟩:=q;exact h2 pins s1 σ' H' D I' q
 | ret v=>exact q
 | brk=>exact q
 | cont=>exact q
theorem DE(h1:PS X st t):vE X [st] t:=by
 intro pins s σ H D I h;refine wpAny_execs_cons (cy (h1 pins s σ H D I h) λf s1 q=>?_);cases f with
 | next=>exact Sq q
 | ret v=>exact q
 | brk=>exact q
 | cont=>exact q
theorem Inv.quiet(I:Inv X pins σ H s):interactive X.env=false:=by simp[interactive,I.ok.kind]
def Jj(te:TE):TS:=λD σ H=>te σ H λ_ H1=>D.nx σ H1
theorem DH(he:PE X e te)(hs:swapsWith e none pos.line X.env=pure false:=by rfl):PS X (.Expr e pos) (Jj te):=by
 intro pins s σ H D I h;exact wpAny_Expr_any (cy (he pins s σ H _ I h) λv s1 ⟨x,H1,I1,r1,q1⟩=>⟨σ,H1,I1,q1⟩) I.quiet hs
def Lw(te:TE):TS:=λD σ H=>te σ H D.rt
theorem Gz(he:PE X e te):PS X (.Return (some e) pos) (Lw te):=by
 intro pins s σ H D I h;exact wpAny_Return_some (cy (he pins s σ H _ I h) λv s1 ⟨x,H1,I1,r1,q1⟩=>⟨x,σ,H1,I1,r1,q1⟩)
def LB(c:TT)(t u:TS):TS:=λD σ H=>c σ H λb H1=>if b=true then t D σ H1 else u D σ H1
theorem JJ(hc:PT X c tc)(ha:vE X a t)(hb:vE X b u):PS X (.If c a b pos) (LB tc t u):=by
 intro pins s σ H D I h;refine wpAny_If (cy (hc pins s σ H _ I h) λd s1 ⟨H1,I1,q1⟩=>?_);cases d with
 | true=>exact ha pins s1 σ H1 D I1 q1
 | false=>exact hb pins s1 σ H1 D I1 q1
end
abbrev TG:=V->St->Hp->(St->Hp->Prop)->Prop
abbrev Io:=List V->St->Hp->(St->Hp->Prop)->Prop
def PG(X:Cx)(target:Expr)(t:TG):Prop:=
 ∀(pins:List (Addr×Obj)) (s:Shared) (σ:St) (H:Hp) (v:V) (u:Value) (Q:St->Hp->Prop),Inv X pins σ H s->RelV v u->t v σ H Q->
  wpAny (model X.prog X.w) X.A (assign target X.env u) (λ_ s'=>∃σ' H',Inv X pins σ' H' s'/\Q σ' H') X.xe s
def Ft(X:Cx)(ts:List Expr)(t:Io):Prop:=
 ∀(pins:List (Addr×Obj)) (s:Shared) (σ:St) (H:Hp) (vs:List V) (us:List Value) (Q:St->Hp->Prop),Inv X pins σ H s->Vals vs us->t vs σ H Q->
  wpAny (model X.prog X.w) X.A (assignInOrder ((assignEach ts X.env).map (·.2)) us) (λ_ s'=>∃σ' H',Inv X pins σ' H' s'/\Q σ' H') X.xe s
abbrev KN:=V->V->V->Hp->(Hp->Prop)->Prop
def Iv(X:Cx)(t:KN):Prop:=
 ∀(pins:List (Addr×Obj)) (s:Shared) (σ:St) (H:Hp) (o i v:V) (ov iv u:Value) (Q:Hp->Prop),Inv X pins σ H s->RelV o ov->RelV i iv->RelV v u->t o i v H Q->
  wpAny (model X.prog X.w) X.A (setItem ov iv u) (λ_ s'=>∃H',Inv X pins σ H' s'/\Q H') X.xe s
def qT(i:Nat):TG:=λv σ H Q=>Q (σ.set i (some v)) H
theorem DT(hN:X.N.Nodup)(hi:X.N[i]?=some x)(hx:Loc X.env.scope x)(hf:X.fn x=true\/X.env.scope.names.lookup x=some .local:=by first | exact .inl rfl | exact .inr rfl | assumption):PG X (.Name x pos) (qT i):=by
 intro pins s σ H v u Q I r h;exact wpAny_assign_Name (jK I hN hi hx r (λs' I'=>⟨_,H,I',h⟩) hf)
noncomputable def Mf:Io:=λvs σ H Q=>vs=[]/\Q σ H
def Kl(t:TG)(u:Io):Io:=λvs σ H Q=>∃v r,vs=v::r/\t v σ H λσ' H'=>u r σ' H' Q
theorem DR:Ft X [] Mf:=by
 intro pins s σ H vs us Q I r h;obtain⟨e,h⟩:=h;subst e;cases r;exact assignInOrder_nil ⟨σ,H,I,h⟩
theorem AX(h1:PG X e t)(h2:Ft X es u)(hs:(assignEach (e::es) X.env).map (·.2)=assign e X.env::(assignEach es X.env).map (·.2):=by rfl):Ft X (e::es) (Kl t u):=by
 intro pins s σ H vs us Q I r h;obtain⟨v,vr,e1,h⟩:=h;subst e1;cases r with
 | cons r rr=>
  rw[hs];refine SF (cy (h1 pins s σ H _ _ _ I r h) λ_ s1 ⟨σ1,H1,I1,q1⟩=>?_);exact h2 pins s1 σ1 H1 _ _ Q I1 rr q1
def Me(K:FR)(n:Nat)(t:Io):TG:=λv σ H Q=>∃a xs,v=.ref a/\je K H a xs/\xs.length=n/\t xs σ H Q
theorem GF(hc:X.calm=true)(h:Ft X es t)(hn:(assignEach es X.env).length=n:=by rfl)(hst:(assignEach es X.env).findIdx? (·.1)=none:=by rfl):PG X (.Tuple es k pos) (Me X.K n t):=by
 intro pins s σ H v u Q I r hw;obtain⟨a,xs,e1,hq,hl,hw⟩:=hw;subst e1;cases r;obtain⟨its,rv,ht,hz⟩:=I.tuple hq;refine assign_Tuple_tuple (I.ok.hd hc) ht (by simp[hn,<-hl,rv.length]) hst λh' hx=>?_;have I1:Inv X pins σ H {s with heap:=h'}:=I.kept (t':=s.toks) λb o e=>hx b o (NB (Nt e)) e;exact h pins _ σ H xs _ Q I1 (by simpa using rv) hw
def pY(to ti:TE)(t:KN):TG:=λv σ H Q=>to σ H λo H1=>ti σ H1 λi H2=>t o i v H2 λH3=>Q σ H3
theorem GG (ho:PE X o to) (hi:PE X i ti) (hs:Iv X t) (ha:∀v,assign (.Subscript o i pos) X.env v=(do
   let ov<-holding [v] (eval o X.env);let iv<-holding [v,ov] (eval i X.env)
   standAt pos
   holding [v,ov,iv] (setItem ov iv v)
   release [v,ov,iv] []):=by intro _;rfl):PG X (.Subscript o i pos) (pY to ti t):=by
 intro pins s σ H v u Q I r h;rw[ha];refine Nb (OG (cy (ho pins s σ H _ I h) λov s1 ⟨x,H1,I1,r1,q1⟩=>?_));refine Nb (OG (cy (hi pins s1 σ H1 _ I1 q1) λiv s2 ⟨y,H2,I2,r2,q2⟩=>?_));refine Nb (Qm (Nb (OG (cy (hs pins s2 σ H2 x y v ov iv u _ I2 r1 r2 r q2) λ_ s3 ⟨H3,I3,q3⟩=>?_))));exact wpAny_release ⟨σ,H3,I3,q3⟩
def Ab(te:TE)(g:TG):TS:=λD σ H=>te σ H λx H1=>g x σ H1 D.nx
theorem GB(he:PE X e te)(hg:PG X tg g)(hs:swapsWithSole [tg] e pos.line X.env=pure false:=by rfl)(hw:swappedStores [tg] e X.env=pure none:=by rfl)(h1:(assignEach [tg] X.env).map (·.2)=[assign tg X.env]:=by rfl):PS X (.Assign [tg] e pos) (Ab te g):=by
 intro pins s σ H D I h;refine wpAny_Assign_stores (cy (he pins s σ H _ I h) λv s1 ⟨x,H1,I1,r1,q1⟩=>?_) hs hw;rw[h1];exact cy (hg pins s1 σ H1 x v _ I1 r1 q1) λ_ s2 q=>q
theorem Gy(hN:X.N.Nodup)(hi:X.N[i]?=some x)(hx:Loc X.env.scope x)(he:PE X e te)(hs:swapsWith e (some (.Name x pos')) pos.line X.env=pure false:=by rfl)(hf:X.fn x=true\/X.env.scope.names.lookup x=some .local:=by first | exact .inl rfl | exact .inr rfl | assumption):
  PS X (.Assign [.Name x pos'] e pos) (Ab te (qT i)):=by
 intro pins s σ H D I h;refine wpAny_Assign_Name (cy (he pins s σ H _ I h) λv s1 ⟨y,H1,I1,r1,q1⟩=>?_) hs;exact jK I1 hN hi hx r1 (λs2 I2=>⟨_,H1,I2,q1⟩) hf
def Jd(i j:Nat)(ta:TA):TS:=λD σ H=>ta σ H λvs H1=>∃v w,vs=[v,w]/\D.nx ((σ.set i (some v)).set j (some w)) H1
theorem wj{kt k2 pt2}(hc:X.calm=true)(hN:X.N.Nodup)(hi:X.N[i]?=some x)(hj:X.N[j]?=some y)(hij:i≠j)(hx:X.env.scope.names.lookup x=some .local)(hy:X.env.scope.names.lookup y=some .local)(ha:PA X [a,b] ta)(hw:swappedStores [.Tuple [.Name x px,.Name y py] kt pt] (.Tuple [a,b] k2 pt2) X.env=pure (some [x,y]))(hs:swapsWithSole [.Tuple [.Name x px,.Name y py] kt pt] (.Tuple [a,b] k2 pt2) pos.line X.env=pure false:=by rfl):
  PS X (.Assign [.Tuple [.Name x px,.Name y py] kt pt] (.Tuple [a,b] k2 pt2) pos) (Jd i j ta):=by
 intro pins s σ H D I h;rw[exec_Assign_arm];refine Nb (Qm ?_);rw[hs];refine Nb (Nf ?_);rw[Np (by decide)];refine Nb (Tuple_ (cy (ha _ pins s σ H _ I h) λus s1 ⟨vs,H1,I1,r1,q1⟩=>?_));obtain⟨v,w,e1,q1⟩:=q1;subst e1;obtain⟨u1,u2,rfl,rv,rw'⟩:∃u1 u2,us=[u1,u2]/\RelV v u1/\RelV w u2:=by
  cases r1 with
  | cons p q=>
   cases q with
   | cons p' q'=>
    cases q';exact⟨_,_,rfl,p,p'⟩
 refine Og ?_ (by show 2<=sizeLine;decide);have I2:Inv X pins σ H1 {s1 with heap:=s1.heap.push {cls:=.type "tuple",data:=.seq [u1,u2].toArray}}:=I1.kept (t':=s1.toks) λb o e=>Nd _ e;rw[hw];refine Nb (Nf ?_);show wpAny (model X.prog X.w) X.A (do rule "assign.swapped-stores";let items<-unpackItems (.ref s1.heap.objs.size) 2 none;assignInOrder [λv=>bindName X.env y v,λv=>bindName X.env x v] items.reverse;pure Flow.next) _ _ _;refine Nb (Pr (Nb (unpackItems_tuple (items:=#[u1,u2]) (I.ok.hd hc) (IsTup.new s1.heap _) λh' hx'=>?_)));have I3:=I2.kept (h':=h') (t':=s1.toks) λb o e=>hx' b o (NB (Nt e)) e;show wpAny _ _ (assignInOrder [λv=>bindName X.env y v,λv=>bindName X.env x v] [u2,u1] >>=λ_=>pure Flow.next) _ _ _;refine Nb (SF (wpAny_bindName (jK I3 hN hj (.inl hy) rw' (λs2 I4=>?_) (.inr hy))));refine SF (wpAny_bindName (jK I4 hN hi (.inl hx) rv (λs3 I5=>assignInOrder_nil (Nf ?_)) (.inr hx)));rw[List.set_comm _ _ (Ox hij)] at I5;exact⟨_,H1,I5,q1⟩
structure It where
 go:Nat->Hp->Prop
 IP:Nat->Hp->V->Hp->Prop
 stop:Nat->Hp->Prop
def gC(X:Cx)(pins:List (Addr×Obj))(H:Hp)(b:Addr):Prop:=
 H b=none/\b≠X.env.locals/\b∉X.fs/\(b∈X.ex\/X.s₀.heap.objs.size<=b)/\(∀x c,X.env.cells.lookup x=some c->c≠b)/\∀p∈X.pn++pins,p.1≠b
theorem Inv.wN(I:Inv X pins σ H s)(hb:s.heap.objs.size<=b)(hn:H' b=none):gC X pins H' b:=by
 refine⟨hn,Pu (Nq I.lt hb),I.L7 hb,.inr (Nr I.sz hb),λx c e z=>?_,λp hp z=>?_⟩
 ·obtain⟨v,q⟩:=I.cell x c e;exact absurd (Nq q.lt (by rw[z];exact hb)) (OJ _)
 ·exact absurd (Nq (Nt (I.pin p hp).1) (by rw[z];exact hb)) (OJ _)
structure Turn(P:Program)(w:World)(K:FR)(tg:Expr)(J:It)(fp:List Addr)(it:Addr)(tn:Nat->Heap->Prop):Prop where
 mem:it∈fp
 obj:∀i h,tn i h->∀b∈fp,∃o,h.get? b=some o/\∀v,o.data≠.cell v
 keep:∀i h h',tn i h->(∀b∈fp,∀o,h.get? b=some o->h'.get? b=some o)->tn i h'
 item:∀(X:Cx),X.prog=P->X.w=w->X.K=K->X.calm=true->∀(i:Nat)(pins:List (Addr×Obj)) (s:Shared) (σ:St) (H:Hp) (E:Value->Shared->Prop),Inv X pins σ H s->(∀b∈fp,gC X pins H b)->tn i s.heap->J.go i H->
  wpAny (model P w) X.A (pyNext (.ref it)) (λr s1=>∃u,r=some u/\
   wpAny (model P w) X.A (letOwnedTupleGo tg (.ref it) u) (λ_ s2=>∃x H',Inv X pins σ H' s2/\RelV x u/\J.IP i H x H'/\tn (i+1) s2.heap/\∀b∈fp,H' b=none) E s1) E s
 done:∀(X:Cx),X.prog=P->X.w=w->X.K=K->X.calm=true->∀(i:Nat)(pins:List (Addr×Obj)) (s:Shared) (σ:St) (H:Hp) (E:Value->Shared->Prop),Inv X pins σ H s->(∀b∈fp,gC X pins H b)->tn i s.heap->J.stop i H->
  wpAny (model P w) X.A (pyNext (.ref it)) (λr s1=>r=none/\Inv X pins σ H s1) E s
 self:∀(A:Around)(i:Nat)(s:Shared)(Q:Value->Shared->Prop)(E:Value->Shared->Prop),tn i s.heap->Q (.ref it) s->wpAny (model P w) A (pyIter (.ref it)) Q E s
abbrev TI:=St->Hp->(It->Hp->Prop)->Prop
def MN(X:Cx)(pins:List (Addr×Obj))(σ:St)(tg:Expr)(R:It->Hp->Prop)(itv:Value)(s2:Shared):Prop:=
 ∃(it:Addr)(fp:List Addr)(tn:Nat->Heap->Prop)(J:It)(H':Hp),itv=.ref it/\Inv X pins σ H' s2/\Turn X.prog X.w X.K tg J fp it tn/\tn 0 s2.heap/\(∀b∈fp,gC X pins H' b)/\R J H'
def PI(X:Cx)(tg iter:Expr)(wi:TI):Prop:=
 ∀(pins:List (Addr×Obj)) (s:Shared) (σ:St) (H:Hp) (R:It->Hp->Prop),Inv X pins σ H s->wi σ H R->
  wpAny (model X.prog X.w) X.A (eval iter X.env) (λv s1=>wpAny (model X.prog X.w) X.A (pyIter v) (MN X pins σ tg R) X.xe s1) X.xe s
theorem BM(ho:s.heap.get? it=some o)(hc:o.cls=.type n)(hd:o.data=.fields vs)(hn:["enumerate","zip","dict_itemiterator","dict_reverseitemiterator","odict_iterator","itertools.zip_longest","itertools.pairwise"].contains n=false)(hQ:Q () s):wpAny M A (letOwnedTupleGo tg (.ref it) u) Q E s:=by
 unfold letOwnedTupleGo;cases tg <;> first
  | exact Nf hQ
  |(cases u <;> first
    | exact Nf hQ
    |(refine Nb (wpAny_load ho ?_);rw[hc,hd];show wpAny M A (if(["enumerate","zip","dict_itemiterator","dict_reverseitemiterator","odict_iterator","itertools.zip_longest","itertools.pairwise"].contains n&&vs[0]?==some (rawInt _))=true then _ else _) Q E s;rw[Np (by intro h;rw[hn,R6] at h;cases h)];exact Nf hQ))
noncomputable def Mw(K:FR)(a:Addr):It:=
 ⟨λi H=>∃xs x,eW K H a xs/\xs[i]?=some x,λi H x H'=>H'=H/\∀xs,eW K H a xs->xs[i]?=some x,λi H=>∃xs,eW K H a xs/\xs.length<=i⟩
noncomputable def Mv(K:FR)(a:Addr):It:=
 ⟨λi H=>∃xs x,je K H a xs/\xs[i]?=some x,λi H x H'=>H'=H/\∀xs,je K H a xs->xs[i]?=some x,λi H=>∃xs,je K H a xs/\xs.length<=i⟩
noncomputable def Lm(lo:Int)(n:Nat):It:=⟨λi _=>i < n,λi H x H'=>H'=H/\x=.int (lo+i),λi _=>n<=i⟩
theorem yx{P:Program}{w:World}{K:FR}{tg:Expr}(a it:Addr):Turn P w K tg (Mw K a) [it] it (λi h=>h.IsListIter it a i) where
 mem:=by simp
 obj:=λi h st b hb=>by
  have e:b=it:=by simpa using hb
  subst e;obtain⟨o,e,c,d⟩:=st;exact⟨o,e,λv z=>by rw[d] at z;cases z⟩
 keep:=λi h h' st k=>st.at λo e=>k it (by simp) o e
 item:=by
  intro X hP hw hK hc i pins s σ H E I hf st hg;subst hP hw hK;obtain⟨xs,x,hq,hx⟩:=hg;obtain⟨its,rv,p,hz⟩:=I.list hq;obtain⟨u,hu,ru⟩:=rv.get hx;obtain⟨f0,f1,f2,f3,f4,f5⟩:=hf it (by simp);refine wpAny_pyNext_list_item st p.isList (x:=u) (by simpa using hu) λh' st' sb=>?_;have I1:Inv X pins σ H {s with heap:=h'}:=I.turned (t':=s.toks) (λb o hb e=>(sb.2 b hb).trans e) f0 f1 f3 f4 f5;obtain⟨o,e,c,d⟩:=id st';exact⟨u,rfl,BM (s:={s with heap:=h'}) e c d (by decide) ⟨x,H,I1,ru,⟨rfl,λys hy=>by rw[I.uL hy hq];exact hx⟩,st',λb hb=>(hf b hb).1⟩⟩
 done:=by
  intro X hP hw hK hc i pins s σ H E I hf st hg;subst hP hw hK;obtain⟨xs,hq,hx⟩:=hg;obtain⟨its,rv,p,hz⟩:=I.list hq;obtain⟨f0,f1,f2,f3,f4,f5⟩:=hf it (by simp);have hl:=rv.length;exact wpAny_pyNext_list_end (I.ok.hd hc) st p.isList (by simp;lia) λh' eb=>⟨rfl,I.turned (t':=s.toks) (λb o hb e=>eb b o hb e) f0 f1 f3 f4 f5⟩
 self:=λ_ _ _ _ _ st h=>wpAny_pyIter_listiter st h
theorem vH{P:Program}{w:World}{K:FR}{tg:Expr}(a it:Addr):Turn P w K tg (Mv K a) [it] it (λi h=>h.IsTupleIter it a i) where
 mem:=by simp
 obj:=λi h st b hb=>by
  have e:b=it:=by simpa using hb
  subst e;obtain⟨o,e,c,d⟩:=st;exact⟨o,e,λv z=>by rw[d] at z;cases z⟩
 keep:=λi h h' st k=>st.at λo e=>k it (by simp) o e
 item:=by
  intro X hP hw hK hc i pins s σ H E I hf st hg;subst hP hw hK;obtain⟨xs,x,hq,hx⟩:=hg;obtain⟨its,rv,p,hz⟩:=I.tuple hq;obtain⟨u,hu,ru⟩:=rv.get hx;obtain⟨f0,f1,f2,f3,f4,f5⟩:=hf it (by simp);refine wpAny_pyNext_tuple_item st (show s.heap.IsTuple a its.toArray from p) (x:=u) (by simpa using hu) λh' st' sb=>?_;have I1:Inv X pins σ H {s with heap:=h'}:=I.turned (t':=s.toks) (λb o hb e=>(sb.2 b hb).trans e) f0 f1 f3 f4 f5;obtain⟨o,e,c,d⟩:=id st';exact⟨u,rfl,BM (s:={s with heap:=h'}) e c d (by decide) ⟨x,H,I1,ru,⟨rfl,λys hy=>by rw[I.qe hy hq];exact hx⟩,st',λb hb=>(hf b hb).1⟩⟩
 done:=by
  intro X hP hw hK hc i pins s σ H E I hf st hg;subst hP hw hK;obtain⟨xs,hq,hx⟩:=hg;obtain⟨its,rv,p,hz⟩:=I.tuple hq;obtain⟨f0,f1,f2,f3,f4,f5⟩:=hf it (by simp);have hl:=rv.length;exact wpAny_pyNext_tuple_end (I.ok.hd hc) st (show s.heap.IsTuple a its.toArray from p) (by simp;lia) λh' eb=>⟨rfl,I.turned (t':=s.toks) (λb o hb e=>eb b o hb e) f0 f1 f3 f4 f5⟩
 self:=λ_ _ _ _ _ st h=>wpAny_pyIter_tupleiter st h
theorem vI{P:Program}{w:World}{K:FR}{tg:Expr}(it:Addr)(lo:Int)(n:Nat):Turn P w K tg (Lm lo n) [it] it (λi h=>IsRangeIter h it (lo+(i:Nat)*1) ((n:Int)-(i:Nat)) 1) where
 mem:=by simp
 obj:=λi h st b hb=>by
  have e:b=it:=by simpa using hb
  subst e;exact⟨_,st,λv z=>by
   have z':Data.fields _=Data.cell v:=z;cases z'⟩
 keep:=λi h h' st k=>k it (by simp) _ st
 item:=by
  intro X hP hw hK hc i pins s σ H E I hf st hg;subst hP hw hK;obtain⟨f0,f1,f2,f3,f4,f5⟩:=hf it (by simp);have W:=Walks.range (prog:=X.prog) (w:=X.w) (I.ok.hd hc) it lo 1 n;refine W.item i s _ _ hg st λv h' tk hv st' kk=>?_;obtain⟨t,rfl⟩:=hv;have I1:Inv X pins σ H {s with heap:=h',toks:=tk}:=I.turned (λb o hb e=>kk b o (by simpa using hb) e) f0 f1 f3 f4 f5;refine⟨_,rfl,BM (s:={s with heap:=h',toks:=tk}) (n:="range_iterator") st' rfl rfl (by decide) ⟨.int (lo+i),H,I1,⟨t,?_⟩,⟨rfl,rfl⟩,st',λb hb=>(hf b hb).1⟩⟩;rw[Int.mul_one]
 done:=by
  intro X hP hw hK hc i pins s σ H E I hf st hg;subst hP hw hK;obtain⟨f0,f1,f2,f3,f4,f5⟩:=hf it (by simp);exact wpAny_pyNext_range_end (I.ok.hd hc) st (by have:n<=i:=hg;lia) λh' eb=>⟨rfl,I.turned (t':=s.toks) (λb o hb e=>eb b o hb e) f0 f1 f3 f4 f5⟩
 self:=λ_ _ _ _ _ st h=>wpAny_pyIter_rangeiter st h
theorem AH{pins:List (Addr×Obj)}{σ:St}{H:Hp}{s:Shared}{R:It->Hp->Prop}{E:Value->Shared->Prop}{lo hi:Int}{t u v:Tok}{tk:Nat}(I:Inv X pins σ H s)(h1:-(2^62)<=lo)(h2:lo < 2^62)(h3:-(2^62)<=hi)(h4:hi < 2^62)
  (q:R (Lm lo (hi-lo).toNat) H):wpAny (model X.prog X.w) X.A (pyIter (.ref s.heap.objs.size)) (MN X pins σ tg R) E {s with heap:=s.heap.push {cls:=.type "range",data:=.fields #[.int lo t,.int hi u,.int 1 v]},toks:=tk}:=by
 refine wpAny_pyIter_range (IsRange.new ..) (small_one h1 h2 h3 h4) ?_;have I1:Inv X pins σ H {s with heap:=s.heap.push {cls:=.type "range",data:=.fields #[.int lo t,.int hi u,.int 1 v]},toks:=tk}:=I.kept λb o e=>Nd _ e;refine⟨(s.heap.push {cls:=.type "range",data:=.fields #[.int lo t,.int hi u,.int 1 v]}).objs.size,[(s.heap.push {cls:=.type "range",data:=.fields #[.int lo t,.int hi u,.int 1 v]}).objs.size],_,_,H,rfl,
  I1.kept (t':=tk) λb o e=>Nd _ e,vI _ lo (hi-lo).toNat,?_,λb hb=>?_,q⟩
 ·have e1:lo+((0:Nat):Int)*1=lo:=by simp
  have e2:(((hi-lo).toNat:Nat):Int)-((0:Nat):Int)=Builtin.Range.rangeSize lo hi 1:=by rw[rangeSize_one];split <;> lia
  show IsRangeIter _ _ (lo+((0:Nat):Int)*1) ((((hi-lo).toNat:Nat):Int)-((0:Nat):Int)) 1;rw[e1,e2];exact Nu _ rfl
 ·have e:b=(s.heap.push {cls:=.type "range",data:=.fields #[.int lo t,.int hi u,.int 1 v]}).objs.size:=by simpa using hb
  subst e;exact I1.wN (Nh _) (I1.aV.fresh (Nh _))
def Kh(ta:TA):TI:=λσ H R=>ta σ H λvs H1=>∃j:Int,vs=[.int j]/\-(2^62)<=j/\j < 2^62/\R (Lm 0 j.toNat) H1
theorem yR{a:Expr}{ta:TA}{p pos:Pos}(hg:Gl X "range")(hm:X.mg "range"=none)(ha:PA X [a] ta)(hs:starEach [a] X.env=[(false,eval a X.env)]:=by rfl):PI X tg (.Call (.Name "range" p) [a] [] pos) (Kh ta):=by
 intro pins s σ H R I h;refine Call_ (ik I hg hm boot_range (OR (cy (ha pos pins s σ H _ I h) λus s1 ⟨vs,H1,I1,r1,q1⟩=>?_) hs rfl));obtain⟨j,e,q1,q2,q⟩:=q1;subst e;cases r1 with
 | cons r rr=>
  cases rr;obtain⟨t,rfl⟩:=r;exact call_range_1 (AH I1 (by simp) (Qh _) q1 q2 (by simpa using q))
def Ji(wi:TI)(g:TG)(tb:TS):TS:=λD σ H=>wi σ H λJ H1=>∃W:Nat->Nat->St->Hp->Prop,(∃m,W 0 m σ H1)/\∀i m σ H,W i m σ H->
 (J.stop i H/\D.nx σ H)\/(J.go i H/\∃N:St->Hp->Prop,(∀σ' H',N σ' H'->∃m',m' < m/\W (i+1) m' σ' H')/\∀x H',J.IP i H x H'->g x σ H' λσ2 H2=>tb {D with nx:=N,ct:=N,bk:=D.nx} σ2 H2)
noncomputable def oy(fp:List Addr)(h:Heap):List (Addr×Obj):=fp.filterMap λb=>(h.get? b).map λo=>(b,o)
theorem gw(hb:b∈fp)(e:h.get? b=some o):(b,o)∈oy fp h:=Qg.mpr ⟨b,hb,by rw[e];rfl⟩
theorem yU(hp:p∈oy fp h):p.1∈fp/\h.get? p.1=some p.2:=by
 obtain⟨b,hb,e⟩:=Qg.mp hp;cases q:h.get? b with
 | none=>rw[q] at e;cases e
 | some o=>
  rw[q] at e;have e':(b,o)=p:=Option.some.inj e;subst e';exact⟨hb,q⟩
theorem Inv.pinned(I:Inv X pins σ H s)(hf:∀b∈fp,gC X pins H b)(ho:∀b∈fp,∃o,s.heap.get? b=some o/\∀v,o.data≠.cell v):Inv X (pins++oy fp s.heap) σ H s:=
 I.xF λp hp=>(NY.mp hp).elim (λz=>I.pin p (N7 _ z)) λz=>by
  obtain⟨hb,e⟩:=yU z;obtain⟨f0,f1,f2,_⟩:=hf p.1 hb;obtain⟨o,e',d⟩:=ho p.1 hb;rw[e] at e';cases e';exact⟨e,f0,f1,f2,d⟩
theorem Inv.jI(I:Inv X (pins++pl) σ H s):Inv X pins σ H s:=I.xF λp hp=>I.pin p (N7 _ (Rl _ hp))
theorem GA(hp:PassesOwn (model X.prog X.w) X.A X.env X.xe)(hc:X.calm=true)(hi:PI X tg iter wi)(hg:PG X tg g)(hb:vE X body tb)(hs:∀x,foldedSetIterable iter X.env x=pure x:=by intro _;rfl):PS X (.For tg iter body [] pos) (Ji wi g tb):=by
 intro pins s σ H D I h;refine wpAny_For (cy (hi pins s σ H _ I h) λv s1 h1=>cy h1 λitv s2 h2=>?_) hs;obtain⟨it,fp,tn,J,H2,e,I2,T,st2,f2,W,⟨m0,w0⟩,turn⟩:=h2;subst e;have stat:∀{H':Hp},(∀b∈fp,H' b=none)->∀b∈fp,gC X pins H' b:=λhn b hb=>⟨hn b hb,(f2 b hb).2⟩;refine codeAny_forLoop_any (λn s'=>∃i σ' H',Inv X pins σ' H' s'/\tn i s'.heap/\(∀b∈fp,H' b=none)/\W i n σ' H') ?_ m0 ⟨0,σ,H2,I2,st2,λb hb=>(f2 b hb).1,w0⟩;rintro n s3 ⟨i,σ3,H3,I3,st3,fr3,w3⟩;rcases turn i n σ3 H3 w3 with⟨stop,qn⟩ |⟨go,N,hN,step⟩
 ·refine QG hp (cy (T.done X rfl rfl rfl hc i pins s3 σ3 H3 X.xe I3 (stat fr3) st3 stop) λr s4 ⟨hr,I4⟩=>?_);subst hr;exact Sq ⟨σ3,H3,I4,qn⟩
 ·refine QG hp (cy (T.item X rfl rfl rfl hc i pins s3 σ3 H3 X.xe I3 (stat fr3) st3 go) λr s4 ⟨u,hr,h4⟩=>?_);subst hr;refine QG hp (cy h4 λ_ s5 ⟨x,H5,I5,r5,y5,st5,fr5⟩=>?_);have I5':=I5.pinned (stat fr5) (T.obj _ _ st5);refine QG hp (cy (hg _ s5 σ3 H5 x u _ I5' r5 (step x H5 y5)) λ_ s6 ⟨σ6,H6,I6,q6⟩=>?_);refine QG hp (cy (hb _ s6 σ6 H6 _ I6 q6) λf s7 q7=>?_);have again:∀{σ7:St} {H7:Hp},Inv X (pins++oy fp s5.heap) σ7 H7 s7->N σ7 H7->∃m,m < n/\∃i σ' H',Inv X pins σ' H' s7/\tn i s7.heap/\(∀b∈fp,H' b=none)/\W i m σ' H':=λ{σ7 H7} I7 n7=>by
   obtain⟨m',hm,w7⟩:=hN σ7 H7 n7;refine⟨m',hm,i+1,σ7,H7,I7.jI,T.keep _ _ _ st5 λb hb o e=>(I7.pin (b,o) (N7 _ (N7 _ (gw hb e)))).1,λb hb=>?_,w7⟩;obtain⟨o,e,d⟩:=T.obj _ _ st5 b hb;exact(I7.pin (b,o) (N7 _ (N7 _ (gw hb e)))).2.1
  cases f with
  | next=>obtain⟨σ7,H7,I7,n7⟩:=q7;exact again I7 n7
  | cont=>obtain⟨σ7,H7,I7,n7⟩:=q7;exact again I7 n7
  | brk=>obtain⟨σ7,H7,I7,q7⟩:=q7;exact⟨σ7,H7,I7.jI,q7⟩
  | ret v=>obtain⟨x7,σ7,H7,I7,r7,q7⟩:=q7;exact⟨x7,σ7,H7,I7.jI,r7,q7⟩
abbrev R2:=V->V->Hp->VK->Prop
def kR(X:Cx)(f:Value->Value->Sem Value)(r:R2):Prop:=
 ∀(pins:List (Addr×Obj)) (s:Shared) (σ:St) (H:Hp) (x y:V) (v u:Value) (Q:VK),Inv X pins σ H s->RelV x v->RelV y u->r x y H Q->
  wpAny (model X.prog X.w) X.A (f v u) (EP X pins σ Q) X.xe s
def KL(X:Cx)(f:Value->Sem Value)(r:V->Hp->VK->Prop):Prop:=
 ∀(pins:List (Addr×Obj)) (s:Shared) (σ:St) (H:Hp) (x:V) (v:Value) (Q:VK),Inv X pins σ H s->RelV x v->r x H Q->
  wpAny (model X.prog X.w) X.A (f v) (EP X pins σ Q) X.xe s
def dw(X:Cx)(f:Value)(r:List V->Hp->VK->Prop):Prop:=
 ∀(pins:List (Addr×Obj)) (s:Shared) (σ:St) (H:Hp) (xs:List V) (us:List Value) (Q:VK),Inv X pins σ H s->Vals xs us->r xs H Q->
  wpAny (model X.prog X.w) X.A (call f us) (EP X pins σ Q) X.xe s
def Mt(X:Cx)(r:V->Hp->(Bool->Hp->Prop)->Prop):Prop:=
 ∀(pins:List (Addr×Obj)) (s:Shared) (σ:St) (H:Hp) (x:V) (v:Value) (Q:Bool->Hp->Prop),Inv X pins σ H s->RelV x v->r x H Q->
  wpAny (model X.prog X.w) X.A (truthy v) (TP X pins σ Q) X.xe s
def Je(r:R2)(ta tb:TE):TE:=λσ H Q=>ta σ H λx H1=>tb σ H1 λy H2=>r x y H2 Q
def MW(r:V->Hp->VK->Prop)(ta:TE):TE:=λσ H Q=>ta σ H λx H1=>r x H1 Q
def rI(C:Int->Int->Prop)(g:Int->Int->V):R2:=λx y H Q=>∃i j,x=.int i/\y=.int j/\C i j/\Q (g i j) H
def DA(g:Int->Int->V):R2:=λx y H Q=>∃i j,x=.int i/\y=.int j/\Q (g i j) H
def rU(g:Int->V):V->Hp->VK->Prop:=λx H Q=>∃i,x=.int i/\Q (g i) H
theorem Ie(ha:PE X a ta)(hb:PE X b tb){pins:List (Addr×Obj)}{s:Shared}{σ:St}{H:Hp}{R:V->V->Hp->Prop}(I:Inv X pins σ H s)
  (h:ta σ H λx H1=>tb σ H1 λy H2=>R x y H2) {Q:Value->Shared->Prop} {f:Value->Value->Sem Value}
  (hf:∀v u s2 x y H2,Inv X pins σ H2 s2->RelV x v->RelV y u->R x y H2->wpAny (model X.prog X.w) X.A (f v u) Q X.xe s2):
  wpAny (model X.prog X.w) X.A (eval a X.env) (λv s₁=>wpAny (model X.prog X.w) X.A (eval b X.env) (λu s₂=>wpAny (model X.prog X.w) X.A (f v u) Q X.xe s₂) X.xe s₁) X.xe s:=by
 refine cy (ha pins s σ H _ I h) λv s1 ⟨x,H1,I1,r1,q1⟩=>?_;refine cy (hb pins s1 σ H1 _ I1 q1) λu s2 ⟨y,H2,I2,r2,q2⟩=>?_;exact hf v u s2 x y H2 I2 r1 r2 q2
theorem E8{op:Operator}{r:R2}(ho:kR X (binaryOp op) r)(ha:PE X a ta)(hb:PE X b tb):PE X (.BinOp a op b pos) (Je r ta tb):=by
 intro pins s σ H Q I h;exact wpAny_BinOp (Ie ha hb I h λv u s2 x y H2 I2 rx ry q=>ho pins s2 σ H2 x y v u Q I2 rx ry q)
theorem JL(ho:KL X (unaryOp op) r)(ha:PE X a ta):PE X (.UnaryOp op a pos) (MW r ta):=by
 intro pins s σ H Q I h;exact UnaryOp_ (cy (ha pins s σ H _ I h) λv s1 ⟨x,H1,I1,r1,q1⟩=>ho pins s1 σ H1 x v Q I1 r1 q1)
theorem Ld{f:Value->Value->Sem Value}{C:Int->Int->Prop}{g:Int->Int->Int}
  (rule:∀(i j:Int)(t u:Tok)(s:Shared)(Q:Value->Shared->Prop)(E:Value->Shared->Prop),C i j->Q (.int (g i j) s.toks) {s with toks:=s.toks+1}->wpAny (model X.prog X.w) X.A (f (.int i t) (.int j u)) Q E s):
  kR X f (rI C λi j=>.int (g i j)):=by
 intro pins s σ H x y v u Q I rx ry h;obtain⟨i,j,rfl,rfl,hc,q⟩:=h;obtain⟨t,rfl⟩:=rx;obtain⟨t',rfl⟩:=ry;exact rule i j t t' s _ _ hc ⟨.int (g i j),H,I.tok _,⟨_,rfl⟩,q⟩
theorem JW{f:Value->Value->Sem Value}{g:Int->Int->Int}
  (rule:∀(i j:Int)(t u:Tok)(s:Shared)(Q:Value->Shared->Prop)(E:Value->Shared->Prop),Q (.int (g i j) s.toks) {s with toks:=s.toks+1}->wpAny (model X.prog X.w) X.A (f (.int i t) (.int j u)) Q E s):
  kR X f (DA λi j=>.int (g i j)):=by
 intro pins s σ H x y v u Q I rx ry h;obtain⟨i,j,rfl,rfl,q⟩:=h;obtain⟨t,rfl⟩:=rx;obtain⟨t',rfl⟩:=ry;exact rule i j t t' s _ _ ⟨.int (g i j),H,I.tok _,⟨_,rfl⟩,q⟩
theorem D1{f:Value->Value->Sem Value}{g:Int->Int->Bool}
  (rule:∀(i j:Int)(t u:Tok)(s:Shared)(Q:Value->Shared->Prop)(E:Value->Shared->Prop),Q (.bool (g i j)) s->wpAny (model X.prog X.w) X.A (f (.int i t) (.int j u)) Q E s):
  kR X f (DA λi j=>.bl (g i j)):=by
 intro pins s σ H x y v u Q I rx ry h;obtain⟨i,j,rfl,rfl,q⟩:=h;obtain⟨t,rfl⟩:=rx;obtain⟨t',rfl⟩:=ry;exact rule i j t t' s _ _ ⟨.bl (g i j),H,I,rfl,q⟩
def Mz(i j:Int):Prop:=0<=j/\j<=1000000/\i.natAbs < 2^64
def IA(i j:Int):Prop:=(-(2^64) < i/\i < 2^64)\/(-(2^64) < j/\j < 2^64)
theorem IA.ok(h:IA i j):IntMulOk i j:=by
 rcases h with⟨h1,h2⟩ |⟨h1,h2⟩
 ·exact .of_left (intBits_le_64 h1 h2)
 ·exact .of_right (intBits_le_64 h1 h2)
theorem G6:kR X (binaryOp .Add) (DA λi j=>.int (i+j)):=JW λ_ _ _ _ _ _ _ q=>add_int q
theorem G0:kR X (binaryOp .Sub) (DA λi j=>.int (i-j)):=JW λ_ _ _ _ _ _ _ q=>sub_int q
theorem G3:kR X (binaryOp .Mult) (rI IA λi j=>.int (i*j)):=Ld λ_ _ _ _ _ _ _ hc q=>mul_int q hc.ok
theorem G4:kR X (binaryOp .Mod) (rI (λ_ j=>0 < j) λi j=>.int (i % j)):=Ld λi j _ _ _ _ _ hc q=>by
 have h1:(0:Int) < j:=hc;exact mod_int' (by lia) (by rw[Int.fmod_eq_emod_of_nonneg i (Q5 h1)];exact q)
theorem G2:kR X (binaryOp .Pow) (rI Mz λi j=>.int (i^j.toNat)):=Ld λ_ _ _ _ _ _ _ hc q=>pow_int_small hc.1 hc.2.1 hc.2.2 q
theorem MV{f:Value->Sem Value}{g:Int->Int}
  (rule:∀(i:Int)(t:Tok)(s:Shared)(Q:Value->Shared->Prop)(E:Value->Shared->Prop),Q (.int (g i) s.toks) {s with toks:=s.toks+1}->wpAny (model X.prog X.w) X.A (f (.int i t)) Q E s):
  KL X f (rU λi=>.int (g i)):=by
 intro pins s σ H x v Q I rx h;obtain⟨i,rfl,q⟩:=h;obtain⟨t,rfl⟩:=rx;exact rule i t s _ _ ⟨.int (g i),H,I.tok _,⟨_,rfl⟩,q⟩
theorem FC:KL X (unaryOp .USub) (rU λi=>.int (-i)):=MV λ_ _ _ _ _ q=>neg_int q
theorem Hu(I:Inv X pins σ H s)(q:Q (.bl k) H)(e:k=k'):EP X pins σ Q (.bool k') s:=by
 subst e;exact⟨.bl k,H,I,rfl,q⟩
theorem JS:kR X (compareOp .Lt) (DA λi j=>.bl (decide (i < j))):=D1 λ_ _ _ _ _ _ _ q=>lt_int q
theorem JT:kR X (compareOp .LtE) (DA λi j=>.bl (decide (i<=j))):=D1 λ_ _ _ _ _ _ _ q=>le_int q
theorem JU:kR X (compareOp .Gt) (DA λi j=>.bl (decide (j < i))):=D1 λ_ _ _ _ _ _ _ q=>gt_int q
theorem JV:kR X (compareOp .GtE) (DA λi j=>.bl (decide (j<=i))):=D1 λ_ _ _ _ _ _ _ q=>ge_int q
theorem G5:kR X (compareOp .Is) (λx y H Q=>y=.bx/\Q (.bl (decide (x=.bx))) H):=by
 intro pins s σ H x y v u Q I rx ry h;obtain⟨rfl,q⟩:=h;cases ry;refine is_none_gen (Hu I q ?_);cases x <;> first
  |(cases rx;rfl)
  |(obtain⟨t,rfl⟩:=rx;rfl)
theorem dC(b:Expr)(h:op≠.In:=by decide)(h2:op≠.NotIn:=by decide):behindInMarks op b=false:=by
 have e1:(op==CmpOp.In)=false:=by cases op <;> first | rfl | exact absurd rfl h
 have e2:(op==CmpOp.NotIn)=false:=by cases op <;> first | rfl | exact absurd rfl h2
 cases b <;> simp[behindInMarks,e1,e2]
theorem DW{op:CmpOp}{r:R2}(ho:kR X (compareOp op) r)(ha:PE X a ta)(hb:PE X b tb)(hm:behindInMarks op b=false):PE X (.Compare a [op] [b] pos) (Je r ta tb):=by
 intro pins s σ H Q I h;exact wpAny_Compare1 (Ie ha hb I h λv u s2 x y H2 I2 rx ry q=>ho pins s2 σ H2 x y v u Q I2 rx ry q) hm
def I9(t:TE):TT:=λσ H Q=>t σ H λx H'=>∃k,x=.bl k/\Q k H'
theorem DD(ho:kR X (compareOp op) r)(ha:PE X a ta)(hb:PE X b tb)(hm:behindInMarks op b=false):PT X (.Compare a [op] [b] pos) (I9 (Je r ta tb)):=by
 intro pins s σ H Q I h;refine wpAny_isTrue_Compare1 (cy (ha pins s σ H _ I h) λv s1 ⟨x,H1,I1,r1,q1⟩=>cy (hb pins s1 σ H1 _ I1 q1) λu s2 ⟨y,H2,I2,r2,q2⟩=>
  cy (ho pins s2 σ H2 x y v u _ I2 r1 r2 q2) λc s3 ⟨z,H3,I3,r3,k,e,q3⟩=>?_) hm
 subst e;cases r3;exact Pz ⟨H3,I3,q3⟩
def Aa(r r':R2)(ta tb tc:TE):TE:=λσ H Q=>ta σ H λx H1=>tb σ H1 λy H2=>r x y H2 λz H3=>∃k,z=.bl k/\
 (if k=true then tc σ H3 λw' H4=>r' y w' H4 Q else Q (.bl false) H3)
theorem Ba(ho:kR X (compareOp op) r)(ho':kR X (compareOp op') r')(ha:PE X a ta)(hb:PE X b tb)(hc:PE X c tc)(hm:lastMarks [op,op'] [b,c]=false:=by with_unfolding_all rfl):PE X (.Compare a [op,op'] [b,c] pos) (Aa r r' ta tb tc):=by
 intro pins s σ H Q I h;refine Compare_chain (cy (ha pins s σ H _ I h) λv s1 ⟨x,H1,I1,r1,q1⟩=>chain_link (cy (hb pins s1 σ H1 _ I1 q1) λu s2 ⟨y,H2,I2,r2,q2⟩=>
  cy (ho pins s2 σ H2 x y v u _ I2 r1 r2 q2) λd s3 ⟨z,H3,I3,r3,k,e,q3⟩=>?_)) hm
 subst e;cases r3;refine Pz ?_;cases k with
 | false=>exact ite_ff ⟨.bl false,H3,I3,rfl,q3⟩
 | true=>exact ite_tt (chain_last (cy (hc pins s3 σ H3 _ I3 q3) λw' s4 ⟨z',H4,I4,r4,q4⟩=>ho' pins s4 σ H4 y z' u w' Q I4 r2 r4 q4))
def Il(K:FR)(x:V)(H:Hp)(k:Bool):Prop:=
 match x with
 | .bx=>k=false
 | .bl b=>k=b
 | .int i=>k=(i !=0)
 | .str y=>y.length<=sizeLine/\k=((y.length:Int) !=0)
 | .byt y=>y.size<=sizeLine/\k=((y.size:Int) !=0)
 | .ref p=>(∃xs,eW K H p xs/\k=!xs.isEmpty)\/(∃xs,je K H p xs/\k=!xs.isEmpty)\/∃kvs,H p=some (.dK kvs)/\k=!kvs.isEmpty
 | _=>False
theorem wL(r:KV kvs vs):(!vs.isEmpty)=!kvs.isEmpty:=by
 cases r <;> rfl
theorem oK(r:Vals xs its):(!its.toArray.isEmpty)=!xs.isEmpty:=by
 cases r <;> simp
theorem jq:(sizeLine:Nat) < 2^63:=by rw[O9];decide
theorem FG:Mt X (λx H Q=>∃k,Il X.K x H k/\Q k H):=by
 intro pins s σ H x v Q I rx h;obtain⟨k,e,q⟩:=h;have hl:=jq;have hs:sizeLine=16777216:=O9;cases x with
 | bx=>
  cases rx;have e':k=false:=e;subst e';exact truthy_none ⟨H,I,q⟩
 | bl b=>
  cases rx;have e':k=b:=e;subst e';exact Pz ⟨H,I,q⟩
 | int i=>
  obtain⟨t,rfl⟩:=rx;have e':k=(i !=0):=e;subst e';exact PySem.P.truthy_int ⟨H,I,q⟩
 | str y=>
  obtain⟨t,rfl⟩:=rx;obtain⟨hy,e'⟩:y.length<=sizeLine/\k=((y.length:Int) !=0):=e;subst e';exact PySem.P.truthy_str (by lia) ⟨H,I.tok _,q⟩
 | byt y=>
  obtain⟨t,rfl⟩:=rx;obtain⟨hy,e'⟩:y.size<=sizeLine/\k=((y.size:Int) !=0):=e;subst e';exact PySem.W.truthy_bytes (Nr hy (by decide)) ⟨H,I.tok _,q⟩
 | ref p=>
  cases rx;have e':(∃xs,eW X.K H p xs/\k=!xs.isEmpty)\/(∃xs,je X.K H p xs/\k=!xs.isEmpty)\/∃kvs,H p=some (.dK kvs)/\k=!kvs.isEmpty:=e;rcases e' with⟨xs,hx,e'⟩ |⟨xs,hx,e'⟩ |⟨kvs,hx,e'⟩
  ·subst e';obtain⟨its,r,pl,hz⟩:=I.list hx;have hlen:=r.length;exact wpAny_truthy_list pl.isList (by simp only[Nx];lia) ⟨H,I.tok _,by rw[oK r];exact q⟩
  ·subst e';obtain⟨its,r,pl,hz⟩:=I.tuple hx;have hlen:=r.length;exact truthy_tuple pl (by simp only[Nx];lia) ⟨H,I.tok _,by rw[oK r];exact q⟩
  ·subst e';obtain⟨hz,hS,vs,r,m⟩:kvs.length<=sizeLine/\(p==sysModules)=false/\∃vs,KV kvs vs/\s.heap.DictOf (bB X.prog X.w) p vs:=I.aV p _ hx;have hlen:kvs.length=vs.length:=Paired.length r;exact wpAny_truthy_dict hS m (by lia) ⟨H,I.tok _,by rw[wL r];exact q⟩
 | _=>exact(show False from e).elim
theorem AR(ha:PE X a ta)(he:∀whole,isTrue a X.env whole=(do let v<-whole;standAt a.pos;holding [v] (truthy v))):
  PT X a (λσ H Q=>ta σ H λx H'=>∃k,Il X.K x H' k/\Q k H'):=by
 intro pins s σ H Q I h;exact isTrue_plain (cy (ha pins s σ H _ I h) λv s1 ⟨x,H1,I1,r1,q1⟩=>FG pins s1 σ H1 x v Q I1 r1 q1) (he _)
theorem wt:kR X (binaryOp .Add) (λx y H Q=>∃i j,x=.str i/\y=.str j/\i.length+j.length<=sizeLine/\Q (.str (i++j)) H):=by
 intro pins s σ H x y v u Q I rx ry h;obtain⟨i,j,rfl,rfl,hz,q⟩:=h;obtain⟨t,rfl⟩:=rx;obtain⟨t',rfl⟩:=ry;exact add_str (λt' tk=>⟨.str (i++j),H,I.tok _,⟨_,rfl⟩,q⟩) hz
theorem vals1(r:Vals [x] us):∃u,us=[u]/\RelV x u:=by
 cases r with
 | cons r1 r2=>cases r2;exact⟨_,rfl,r1⟩
theorem vals2(r:Vals [x,y] us):∃u w',us=[u,w']/\RelV x u/\RelV y w':=by
 cases r with
 | cons r1 r2=>
  cases r2 with
  | cons r3 r4=>cases r4;exact⟨_,_,rfl,r1,r3⟩
theorem Ct:dw X (.builtin "abs") (λxs H Q=>∃i,xs=[.int i]/\Q (.int (if i < 0 then -i else i)) H):=by
 intro pins s σ H xs us Q I r h;obtain⟨i,rfl,q⟩:=h;obtain⟨u,rfl,t,rfl⟩:=vals1 r;exact call_abs_int λu tk=>⟨.int (if i < 0 then -i else i),H,I.tok _,⟨_,rfl⟩,q⟩
theorem zD(hc:X.calm=true):dw X (.builtin "max") (λxs H Q=>∃i j,xs=[.int i,.int j]/\Q (.int (if j > i then j else i)) H):=by
 intro pins s σ H xs us Q I r h;obtain⟨i,j,rfl,q⟩:=h;obtain⟨u,w',rfl,⟨t,rfl⟩,⟨t',rfl⟩⟩:=vals2 r;refine max_two_ints (I.ok.hd hc) λh' tk k=>⟨_,H,I.kept k,?_,q⟩
 by_cases hj:j > i
 ·rw[Nj hj,Nj hj];exact⟨_,rfl⟩
 ·rw[Np hj,Np hj];exact⟨_,rfl⟩
theorem zC(hc:X.calm=true):dw X (.builtin "min") (λxs H Q=>∃i j,xs=[.int i,.int j]/\Q (.int (if j < i then j else i)) H):=by
 intro pins s σ H xs us Q I r h;obtain⟨i,j,rfl,q⟩:=h;obtain⟨u,w',rfl,⟨t,rfl⟩,⟨t',rfl⟩⟩:=vals2 r;refine min_two_ints (I.ok.hd hc) λh' tk k=>⟨_,H,I.kept k,?_,q⟩
 by_cases hj:j < i
 ·rw[Nj hj,Nj hj];exact⟨_,rfl⟩
 ·rw[Np hj,Np hj];exact⟨_,rfl⟩
structure Iy(h:Heap)(x dx C:Addr)(mA:Str->Option Value):Prop where
 obj:h.get? x=some (PySem.W.instObj C dx)
 ns:h.Ns1 dx mA
 ne:dx≠x
theorem yY{h:Heap}{dx:Addr}{mA:Str->Option Value}(n:h.Ns1 dx mA):∃od,h.get? dx=some od/\∀name,PySem.W.lookIn name od=some (mA name):=by
 obtain⟨o,es,ep,ho,hd,hk,_,hm⟩:=n;refine⟨o,ho,λname=>?_⟩;have e:=hm name;unfold nsFind findBy at e;rw[<-Array.find?_toList] at e;unfold PySem.W.lookIn;rw[hd];dsimp only
 split
 ·rename_i y q;rw[q] at e;exact congrArg some e
 ·rename_i q;rw[q] at e;have a:es.toList.any (·.refKey)=false:=by
   rw[TF];intro y hy;obtain⟨z,t,hkey⟩:=hk y (O4.mp hy);simp[DictEntry.refKey,hkey]
  have a':¬es.toList.any (·.refKey)=true:=by rw[a];exact NZ
  rw[Np a'];exact congrArg some e
theorem Iy.look(I:Iy h x dx C mA):∃od,PySem.W.InstAt h x (PySem.W.instObj C dx) C (some od)/\∀name,PySem.W.lookIn name od=some (mA name):=
 let⟨od,ho,hl⟩:=yY I.ns
 ⟨od,⟨I.obj,rfl,rfl,ho⟩,hl⟩
section
variable {prog:Program} {w:World} {A:Around} {E:Value->Shared->Prop} {s:Shared} {K:FR} {x dx C f:Addr} {mA:Str->Option Value} {name:Str} {v:Value}
end
theorem pI.some_of(r:pI (some v) o):∃u,o=some u/\RelV v u:=by
 cases o with
 | none=>exact(show False from r).elim
 | some u=>exact⟨u,rfl,r⟩
theorem Eg(aV:iV P w H h)(e:H a=some (.ins C dx fs)):∃mA,Iy h a dx C mA/\(∀f,pI (fs.lookup f) (mA f))/\PySem.Within mA (fs.map (·.1))/\fs.length<=1000/\H dx=some (.own a):=by
 obtain⟨d,z,ne,ob,mA,n,r,q⟩:=(show bJ P w H h a (.ins C dx fs) from aV a _ e);exact⟨mA,⟨ob,n,ne⟩,r,q,z,d⟩
structure My(K:FR)(C:Addr):Prop where
 pg:PySem.W.plainGet K C Str.empty=true
 hd:PySem.W.hasDictIn K C=true
 po:PySem.W.plainOver K C=true
 sa:PySem.W.findIn K (.ref C) "__setattr__"=some (some (.builtin "object.__setattr__"))
theorem My.get{K:FR}{C:Addr}(c:My K C)(f:Str):PySem.W.plainGet K C f=true:=c.pg
inductive kH(K:FR)(H:Hp):V->Value->Prop where
 | bx:kH K H .bx (.type "NoneType")
 | bl (x:Bool):kH K H (.bl x) (.type "bool")
 | int (i:Int):kH K H (.int i) (.type "int")
 | str (x:Str):kH K H (.str x) (.type "str")
 | IE (x:UInt64):kH K H (.IE x) (.type "float")
 | lst {a:Addr} {xs:List V} (e:H a=some (.lst xs)):kH K H (.ref a) (.type "list")
 | xW {a:Addr} {o:Obj} {xs:List V} (e:H a=some (.xW o (.lst xs))):kH K H (.ref a) (.type "list")
 | tup {a:Addr} {xs:List V} (e:H a=some (.tup xs)):kH K H (.ref a) (.type "tuple")
 | dK {a:Addr} {kvs:List (Key×V)} (e:H a=some (.dK kvs)):kH K H (.ref a) (.type "dict")
 | dT {a:Addr} {kvs:List (List Key×V)} (e:H a=some (.dT kvs)):kH K H (.ref a) (.type "dict")
 | ins {a C dx:Addr} {fs:List (Str×V)} (e:H a=some (.ins C dx fs)) (cl:My K C) (ha:PySem.W.findIn K (.ref C) "__class__"=some (some (.builtin "object.__class__")))
   (hn:PySem.W.specialIn K (.builtin "object.__class__") "__get__"=some (some (.builtin "getset_descriptor.__get__"))) (htk:PySem.W.takesIn K (.builtin "object.__class__")=some true)
   (hm:PySem.W.mroIn K C (.type "object")=some true):kH K H (.ref a) (.ref C)
theorem ze(I:Inv X pins σ H s)(rx:RelV x u)(ty:kH X.K H x t)(e:PySem.W.kitOne X.K t c=some b)(h:∀tk,Q (.bool b) {s with toks:=tk}):
  wpAny (model X.prog X.w) A (call (.builtin "isinstance") [u,c]) Q E s:=by
 cases ty with
 | bx=>cases(show u=Value.none from rx);exact OC PySem.W.kitx_none I.tP True.intro e (λz=>nomatch z) h
 | bl y=>cases(show u=Value.bool y from rx);exact OC PySem.W.kitx_bool I.tP True.intro e (λz=>nomatch z) h
 | int i=>obtain⟨t,q⟩:=(show ∃t,u=Value.int i t from rx);cases q;exact OC PySem.W.kitx_int I.tP True.intro e (λz=>nomatch z) h
 | str y=>obtain⟨t,q⟩:=(show ∃t,u=Value.str y t from rx);cases q;exact OC PySem.W.kitx_str I.tP True.intro e (λz=>nomatch z) h
 | IE y=>obtain⟨t,q⟩:=(show ∃t,u=Value.float y t from rx);cases q;exact OC PySem.W.kitx_float I.tP True.intro e (λz=>nomatch z) h
 | @lst a xs ea=>
  cases(show u=Value.ref a from rx);obtain⟨_,_,n,_,h1⟩:=(show bJ X.prog X.w H s.heap a (.lst xs) from I.aV a _ ea);exact OC Tw I.tP ⟨_,h1,rfl⟩ e (λz=>nomatch z) h
 | @xW a ob xs ea=>
  cases(show u=Value.ref a from rx);obtain⟨_,_,_,n,_,h1⟩:=(show bJ X.prog X.w H s.heap a (.xW ob (.lst xs)) from I.aV a _ ea);exact OC Tw I.tP ⟨_,h1,rfl⟩ e (λz=>nomatch z) h
 | @tup a xs ea=>
  cases(show u=Value.ref a from rx);obtain⟨_,_,_,p⟩:=(show bJ X.prog X.w H s.heap a (.tup xs) from I.aV a _ ea);obtain⟨o,h1,h2,_⟩:=p;exact OC Tn I.tP ⟨o,h1,h2⟩ e (λz=>nomatch z) h
 | @dK a kvs ea=>
  cases(show u=Value.ref a from rx);obtain⟨_,_,vs,_,p⟩:=(show bJ X.prog X.w H s.heap a (.dK kvs) from I.aV a _ ea);obtain⟨o,es,ep,h1,h2,_⟩:=p;exact OC Tx I.tP ⟨o,h1,h2.1⟩ e (λz=>nomatch z) h
 | @dT a kvs ea=>
  cases(show u=Value.ref a from rx);obtain⟨_,_,xs,_,o,es,ep,h1,h2,_⟩:=(show bJ X.prog X.w H s.heap a (.dT kvs) from I.aV a _ ea);exact OC Tx I.tP ⟨o,h1,h2.1⟩ e (λz=>nomatch z) h
 | @ins a C dx fs ea cl ha hn htk hm=>
  cases(show u=Value.ref a from rx);obtain⟨mA,O,_⟩:=Eg I.aV ea;obtain⟨od,J,_⟩:=O.look;exact OC (PySem.W.kitx_own (cl.get _) cl.hd ha hn htk hm) I.tP J e (λz=>nomatch z) h
structure dZ(k:Nat)(A:Around):Prop where
 hd:A.handled=none
 dp:A.depth+3*k+5 < recursionLimit
 un:A.units+16*k+200 < cLine
theorem E1{a k c d x L:Nat}(hx:x<=c)(h:a+c*(k+1)+d < L):a+x+c*k+d < L:=by rw[Nat.mul_succ] at h;lia
theorem dZ.mono(r:dZ k A)(h:j<=k):dZ j A:=⟨r.hd,Od (Rj (Pa (Tc 3 h) _) 5) r.dp,Od (Rj (Pa (Tc 16 h) _) 200) r.un⟩
theorem dZ.deeper(r:dZ (k+1) A)(env:Env):dZ k (A.deeper env):=
 ⟨r.hd,E1 (x:=1) (by decide) r.dp,E1 (x:=3) (by decide) r.un⟩
theorem dZ.depth(r:dZ k A):A.depth < recursionLimit:=by have:=r.dp;lia
theorem dZ.units(r:dZ k A):A.units+64 < cLine:=Od (Nr (Pa (by decide:64<=200) _) (Rj (NL _ _) 200)) r.un
def Ly:TA:=λ_ H Q=>Q [] H
def Jk(ta:TE)(tr:TA):TA:=λσ H Q=>ta σ H λx H1=>tr σ H1 λxs H2=>Q (x::xs) H2
theorem oB:PA X [] Ly:=λ_ _ _ _ H Q I h=>Calls.spliced_nil ⟨[],H,I,.nil,h⟩
theorem j3(ha:PE X e te)(hr:PA X es t)(hs:starEach (e::es) X.env=(false,eval e X.env)::starEach es X.env:=by rfl):PA X (e::es) (Jk te t):=by
 intro pos pins s σ H Q I h;rw[hs];show wpAny _ _ (spliced ((false,eval e X.env)::backTo pos (starEach es X.env))) _ _ s;refine Calls.spliced_cons (cy (ha pins s σ H _ I h) λu s1 ⟨x,H1,I1,r1,q1⟩=>?_);exact cy (hr pos pins s1 σ H1 _ I1 q1) λus s2 ⟨xs,H2,I2,r2,q2⟩=>⟨x::xs,H2,I2,.cons r1 r2,q2⟩
def Lv(t:TA):TE:=λσ H Q=>t σ H λxs H1=>xs.length<=sizeLine/\∀p,H1 p=none->Q (.ref p) (upd H1 p (.tup xs))
def LA(t:TA):TE:=λσ H Q=>t σ H λxs H1=>xs.length<=sizeLine/\∀p,H1 p=none->Q (.ref p) (upd H1 p (.lst xs))
theorem GI{x1}(h:PA X es t):PE X (.Tuple es x1 pos) (Lv t):=by
 intro pins s σ H Q I hq;refine wpAny_Tuple_spliced (cy (h pos pins s σ H _ I hq) λus s1 ⟨xs,H1,I1,r,z,q⟩=>⟨by rw[<-r.length];exact z,?_⟩);have hf:H1 s1.heap.objs.size=none:=I1.aV.fresh (Nh _);refine⟨.ref s1.heap.objs.size,upd H1 s1.heap.objs.size (.tup xs),I1.laid (t':=s1.toks) (λb u e=>Nd _ e) (Nh _) ?_,rfl,q _ hf⟩;exact⟨z,us,r,⟨_,Nu _ rfl,rfl,⟨_,rfl⟩,rfl⟩⟩
theorem GO(h:PA X es t):PE X (.List es pos) (LA t):=by
 intro pins s σ H Q I hq;refine wpAny_List_spliced (cy (h pos pins s σ H _ I hq) λus s1 ⟨xs,H1,I1,r,z,q⟩=>⟨by rw[<-r.length];exact z,?_⟩);have hf:H1 s1.heap.objs.size=none:=I1.aV.fresh (Nh _);refine⟨.ref s1.heap.objs.size,upd H1 s1.heap.objs.size (.lst xs),I1.laid (t':=s1.toks) (λb u e=>Nd _ e) (Nh _) ?_,rfl,q _ hf⟩;exact⟨z,us,0,r,Nu _ rfl⟩
abbrev Sp:=List V->Hp->VK->XK->Prop
abbrev EV:=List Env->Hp->Shared->XK->Value->Shared->Prop
structure ET(P:Program)(w:World)(K:FR)(mg:Str->Option Value)(base:Heap)(A:Around)(outer:List Env)(s:Shared)(H:Hp):Prop where
 frames:A.frames=some outer
 mod:Mod K mg base
 bs:∀b o,base.get? b=some o->s.heap.get? b=some o/\H b=none
 Fi:base.objs.size<=s.heap.objs.size
 oO:s.heap.FunFrames base outer
 ID:∀b∈zQ outer,H b=none
 aV:iV P w H s.heap
 bare:AllBare s.gens
def CE(outer:List Env)(P:Program)(w:World)(H:Hp)(s:Shared)(Q:VK)(u:Value)(s':Shared):Prop:=
 ∃v H',s'.os=s.os/\AllBare s'.gens/\Un (zQ outer) [] H H' s.heap s'.heap/\iV P w H' s'.heap/\RelV v u/\Q v H'
def CR(CX:EV)(outer:List Env)(P:Program)(w:World)(H:Hp)(s:Shared)(Q:VK)(E:XK)(r:Result)(s':Shared):Prop:=
 match r with
 | .ok (.ret u)=>CE outer P w H s Q u s'
 | .ok _=>False
 | .error e=>CX outer H s E e s'
structure eX(P:Program)(w:World)(K:FR)(mg:Str->Option Value)(base:Heap)(CX:EV)(k:Nat)(f:Addr)(fd:FuncData)(ps:List Str)(sp:Sp):Prop where
 len:∀vs H Q E,sp vs H Q E->vs.length=ps.length
 run:∀(A:Around)(outer:List Env)(s:Shared)(H:Hp)(args:Args)(us:List Value)(vs:List V)(Q:VK)(E:XK),dZ k A->ET P w K mg base A outer s H->BindsTo s fd args (ps.zip us)->Vals vs us->sp vs H Q E->
  codeAny (model P w) A (.call (.ref f) args) (CR CX outer P w H s Q E) s
theorem eX.imp{P:Program}{w:World}{K:FR}{mg:Str->Option Value}{base:Heap}{CX:EV}{k:Nat}{f:Addr}{fd:FuncData}{ps:List Str}{sp sp':Sp}(F:eX P w K mg base CX k f fd ps sp)
  (h:∀vs H Q E,sp' vs H Q E->sp vs H Q E):eX P w K mg base CX k f fd ps sp':=
 ⟨λvs H Q E q=>F.len vs H Q E (h _ _ _ _ q),λA outer s H args us vs Q E hr he hb hv hs=>F.run A outer s H args us vs Q E hr he hb hv (h _ _ _ _ hs)⟩
theorem Inv.Mh(I:Inv X pins σ H s):ET X.prog X.w X.K X.mg X.base X.A X.stack s H:=
 ⟨I.ok.frames,I.ok.mod,I.bs,Nr I.ok.Fi I.sz,I.stack,I.xv,I.aV,I.bare⟩
theorem Inv.after(I:Inv X pins σ H s)(h:CE X.stack X.prog X.w H s Q u s'):EP X pins σ Q u s':=by
 obtain⟨v,H',os,bare,un,aV,r,q⟩:=h;obtain⟨hh,g,d,t,os'⟩:=s';obtain rfl:os'=s.os:=os;exact⟨v,H',I.call (h':=hh) (g':=g) (d':=d) (t':=t) (ch:=[]) un aV bare (λb z=>absurd z (by simp)),r,q⟩
def Jl(sp:Sp)(dvs:List V)(E:XK)(t:TA):TE:=λσ H Q=>t σ H λvs H1=>sp (vs++dvs) H1 Q E
def Binds(K:FR)(fd:FuncData)(ps:List Str)(ds:List Value):Prop:=
 ∀(s:Shared)(us:List Value),K.In s.heap->(us++ds).length=ps.length->BindsTo s fd ⟨us,[]⟩ (ps.zip (us++ds))
theorem Binds.all{K:FR}{fd:FuncData}{ps:List Str}(h:∀us:List Value,us.length=ps.length->bindArgs fd ⟨us,[]⟩=pure (ps.zip us)):Binds K fd ps []:=λs us _ hl=>by
 rw[PU] at hl ⊢;exact .of_eq (h us hl)
def Passes(CX:EV)(X:Cx)(E:XK):Prop:=∀(pins:List (Addr×Obj)) (σ:St) (H:Hp) (s:Shared) (e:Value) (s':Shared),Inv X pins σ H s->CX X.stack H s E e s'->X.xe e s'
theorem F6(F:eX X.prog X.w X.K X.mg X.base CX k f fd ps sp)(hr:dZ k X.A)(hb:Binds X.K fd ps ds)(hd:Vals dvs ds)(hx:Passes CX X E)(I:Inv X pins σ H s)(r:Vals vs us)(h:sp (vs++dvs) H Q E):wpAny (model X.prog X.w) X.A (call (.ref f) us) (EP X pins σ Q) X.xe s:=by
 have r2:Vals (vs++dvs) (us++ds):=r.append hd;have hl:(us++ds).length=ps.length:=by rw[<-r2.length];exact F.len _ _ _ _ h
 refine wpAny_call (Qc (F.run X.A X.stack s H ⟨us,[]⟩ (us++ds) (vs++dvs) Q E hr I.Mh (hb s us I.tP hl) r2 h) λr s' hq=>?_);cases r with
 | error e=>exact hx pins σ H s e s' I hq
 | ok fl=>
  cases fl with
  | ret u=>exact I.after hq
  | next=>exact False.elim hq
  | brk=>exact False.elim hq
  | cont=>exact False.elim hq
theorem DX(F:eX X.prog X.w X.K X.mg X.base CX k f fd ps sp)(hr:dZ k X.A)(hg:Gl X x)(hm:X.mg x=some (.ref f))(hk:PySem.W.keepIn X.K (.ref f)=true)(hb:Binds X.K fd ps ds)(hd:Vals dvs ds)(hx:Passes CX X E)
  (ha:PA X (e::es) t) (hdb:(x==("__debug__":Str))=false:=by decide) (he:starEach (e::es) X.env=(false,eval e X.env)::starEach es X.env:=by rfl) (hpl:(backTo pos (starEach es X.env)).any (·.1)=false:=by rfl):
  PE X (.Call (.Name x p) (e::es) [] pos) (Jl sp dvs E t):=by
 intro pins s σ H Q I h;refine Qs (xQ I hg hm ?_ hdb);refine PySem.W.callWith_K (h₀:=X.base) I.ok.mod.Mb hk (cy (ha pos pins s σ H _ I h) λus s1 ⟨vs,H1,I1,r,q⟩=>⟨I1.tP,?_⟩) he hpl;exact F6 F hr hb hd hx I1 r q
structure aD(N P:List Str)(sc:Scope):Prop where
 kind:sc.kind=.function
 co:sc.isCoroutine=false
 gen:sc.isGenerator=false
 nd:N.Nodup
 pre:N.take P.length=P
 par:∀x∈P,sc.names.lookup x=some .local\/sc.names.lookup x=some .cell
 G9:∀y∈sc.names,y.2≠.free
theorem qZ{kindOf:Str->Option NameKind}{x:Str}:∀{binds:List (Str×Value)} {m:Str->Option Value},(∀v,(x,v)∉binds)->bindL kindOf binds m x=m x
 | [],_,_=>rfl
 |(n,v)::r,m,h=>by
  unfold bindL;rw[qZ λw hw=>h w (Nl _ hw)]
  split
  ·have:x≠n:=by rintro rfl;exact h v Nm
   simp[this]
  ·rfl
theorem q9{kindOf:Str->Option NameKind}{x:Str}:∀{binds:List (Str×Value)} {m:Str->Option Value},(∀v,(x,v)∉binds)->bindC kindOf binds m x=m x
 | [],_,_=>rfl
 |(n,v)::r,m,h=>by
  unfold bindC;rw[q9 λw hw=>h w (Nl _ hw)]
  split
  ·rfl
  ·have:x≠n:=by rintro rfl;exact h v Nm
   simp[this]
theorem q5{kindOf:Str->Option NameKind}{x:Str}{v:Value}:∀{P:List Str} {vs:List Value} {i:Nat} {m:Str->Option Value},P.Nodup->P[i]?=some x->vs[i]?=some v->kindOf x=some .local->
  bindL kindOf (P.zip vs) m x=some v
 | [],_,_,_,_,h,_,_=>by simp at h
 | _::_,[],_,_,_,_,h,_=>by simp at h
 | p::P,w::vs,0,m,nd,h1,h2,hk=>by
  simp at h1 h2;subst h1;subst h2;show bindL kindOf ((p,w)::P.zip vs) m p=_;unfold bindL;rw[qZ λv hv=>(PN.mp nd).1 (Pp hv).1,Nj hk];simp
 | p::P,w::vs,i+1,m,nd,h1,h2,hk=>by
  show bindL kindOf ((p,w)::P.zip vs) m x=_;unfold bindL;exact q5 (i:=i) (PN.mp nd).2 (by simpa using h1) (by simpa using h2) hk
theorem rf{kindOf:Str->Option NameKind}{x:Str}{v:Value}:∀{P:List Str} {vs:List Value} {i:Nat} {m:Str->Option Value},P.Nodup->P[i]?=some x->vs[i]?=some v->kindOf x≠some .local->
  bindC kindOf (P.zip vs) m x=some v
 | [],_,_,_,_,h,_,_=>by simp at h
 | _::_,[],_,_,_,_,h,_=>by simp at h
 | p::P,w::vs,0,m,nd,h1,h2,hk=>by
  simp at h1 h2;subst h1;subst h2;show bindC kindOf ((p,w)::P.zip vs) m p=_;unfold bindC;rw[q9 λv hv=>(PN.mp nd).1 (Pp hv).1,Np hk];simp
 | p::P,w::vs,i+1,m,nd,h1,h2,hk=>by
  show bindC kindOf ((p,w)::P.zip vs) m x=_;unfold bindC;exact rf (i:=i) (PN.mp nd).2 (by simpa using h1) (by simpa using h2) hk
noncomputable def start(N:List Str)(vs:List V):St:=vs.map some++List.replicate (N.length-vs.length) none
abbrev vc(CX:EV)(P:Program)(w:World)(K:FR)(mg:Str->Option Value)(base:Heap)(N:List Str)(qual:Str)(scope:Scope)(f:Addr)(cd:Value)(A:Around)(outer:List Env)(s:Shared)(H:Hp)(E:XK):Cx where
 prog:=P
 w:=w
 K:=K
 mg:=mg
 base:=base
 A:=A.deeper (envOfC qual scope s.heap.objs.size f cd)
 N:=N
 s₀:=s
 H₀:=H
 env:=envOfC qual scope s.heap.objs.size f cd
 outer:=outer
 stack:=envOfC qual scope s.heap.objs.size f cd::outer
 ex:=[]
 calm:=true
 fn:=λ_=>true
 pn:=[]
 xe:=λe s'=>wpAny (model P w) (A.deeper (envOfC qual scope s.heap.objs.size f cd)) (leaving (envOfC qual scope s.heap.objs.size f cd) e) (λ_ s''=>CX outer H s E e s'') (λe' s''=>CX outer H s E e' s'') s'
theorem vm{sc:Scope}{n:Nat}{x:Str}(h:sc.names.lookup x=some .cell):∃c,(cellsFrom n sc.names []).lookup x=some c:=by
 have q:=Sr sc.names n [] (.inl h);exact Se.mp q
theorem zf{CX:EV}{P:Program}{w:World}{K:FR}{mg:Str->Option Value}{base:Heap}{N ps:List Str}{qual:Str}{scope:Scope}{f:Addr}{cd:Value}{A:Around}{outer:List Env}{s s1:Shared}{H:Hp}{E:XK}{us:List Value}{vs:List V}
  (S:aD N ps scope) (hd:A.handled=none) (e0:ET P w K mg base A outer s H) (hl:vs.length=ps.length) (r:Vals vs us)
  (x:InCallC s s.heap.objs.size (bindL (envOfC qual scope s.heap.objs.size f cd).kindOf (ps.zip us) λ_=>none) (cellsFrom (s.heap.objs.size+1) scope.names []) (bindC (envOfC qual scope s.heap.objs.size f cd).kindOf (ps.zip us) λ_=>none) s1):
  Inv (vc CX P w K mg base N qual scope f cd A outer s H E) [] (start N vs) H s1:=by
 have hpl:ps.length<=N.length:=by have:=congrArg List.length S.pre;rw[NF] at this;lia
 obtain⟨h1,tk,rfl,hk⟩:=x.done;have noA:∀b:Addr,b∉(vc CX P w K mg base N qual scope f cd A outer s H E).ex:=λb z=>absurd (show b∈([]:List Addr) from z) (by simp);refine⟨⟨e0.mod,S.kind,rfl,rfl,Nh _,λy z c h1 h2=>?_,λy hy=>?_,λy c _ h=>?_,λ_=>hd,Around.frames_deeper e0.frames,.inr ⟨rfl,rfl⟩,λb z=>absurd z (noA b),e0.bs,e0.Fi,λb _ _=>noA b,λb z=>absurd z (noA b),e0.oO,e0.ID⟩,
  rfl,e0.bare,Un.kept hk,⟨_,x.toInCall.ns,λi y v h1 h2 h3=>?_⟩,λy c h=>⟨_,x.cell y c h⟩,e0.aV.fresh (Nh _),λy c h=>?_,λp hp=>absurd (show p∈([]:List (Addr×Obj)) from hp) (by simp),e0.aV.kept hk,?_⟩
 ·exact name_of_addr x.apart (OZ h1) (OZ h2)
 ·have hy:scope.names.lookup y=some .cell\/scope.names.lookup y=some .free:=hy;rcases hy with hy | hy
  ·exact vm hy
  ·exact absurd rfl (S.G9 _ (OZ hy))
 ·exact Pw (x.above y c (OZ h))
 ·have hi:i < vs.length:=by
   unfold start at h2
   by_cases hi:i < vs.length
   ·exact hi
   ·rw[NG (by simpa using hi)] at h2;rw[Sn] at h2
    split at h2 <;> cases h2
  have ha:vs[i]?=some v:=by
   unfold start at h2;rw[Nv (by simpa using hi),Nz] at h2;cases e:vs[i]? with
   | none=>rw[e] at h2;cases h2
   | some a=>rw[e] at h2;cases h2;rfl
  obtain⟨u,hu,rv⟩:=r.get ha;have hp:ps[i]?=some y:=by
   rw[<-S.pre,N0 (by lia)];exact h1
  have ndP:ps.Nodup:=by rw[<-S.pre];exact S.nd.sublist (RB _ _)
  refine⟨u,rv,?_⟩;rcases S.par y (Ni hp) with k | k
  ·exact .inl ⟨k,q5 ndP hp hu k⟩
  ·obtain⟨c,e⟩:=vm (n:=s.heap.objs.size+1) k;refine .inr ⟨.inl k,c,e,?_⟩;have q:=x.cell y c e;rw[rf ndP hp hu (by show scope.names.lookup y≠_;rw[k];decide)] at q;exact q
 ·exact e0.aV.fresh (Pw (x.above y c (OZ h)))
 ·unfold start;show _=N.length;rw[NT,Nc,List.length_replicate]
  lia
theorem Km{CX:EV}{P:Program}{w:World}{K:FR}{mg:Str->Option Value}{base:Heap}{k:Nat}{f:Addr}{name qual:Str}{params:Arguments}{body:List Stmt}{scope:Scope}{dV kV doc pm cdv ct oc:Value}{an od:Option Addr}
  {osl:Array (Option Value)} {N ps:List Str} {sp:Sp} (lk:K.lookup f=some ⟨oc,od,.func (PySem.W.fnOf name qual params body scope dV kV doc pm an cdv ct),osl⟩) (hcd:PySem.W.codeIn K cdv qual=true) (S:aD N ps scope)
  (len:∀vs H Q E,sp vs H Q E->vs.length=ps.length)
  (hbody:∀(A:Around)(outer:List Env)(s:Shared)(H:Hp)(vs:List V)(Q:VK)(E:XK),dZ k (A.deeper (envOfC qual scope s.heap.objs.size f cdv))->sp vs H Q E->
   ∃t,vE (vc CX P w K mg base N qual scope f cdv A outer s H E) body t/\t {nx:=λ_ H'=>Q .bx H',rt:=Q} (start N vs) H):
  eX P w K mg base CX (k+1) f (PySem.W.fnOf name qual params body scope dV kV doc pm an cdv ct) ps sp:=by
 refine⟨len,λA outer s H args us vs Q E hr e0 hb r hsp=>?_⟩;have hl:=len _ _ _ _ hsp;have KX:K.In s.heap:=e0.mod.Mb.keeps λb o e=>(e0.bs b o e).1;have lim:s.heap.NoLimit:=e0.mod.nolimit.keeps λb o e=>(e0.bs b o e).1;have hkind:∀y∈ps.zip us,scope.names.lookup y.1=some .local\/(scope.names.lookup y.1=some .cell/\((cellsFrom (s.heap.objs.size+1) scope.names []).lookup y.1).isSome=true):=λ⟨n,v⟩ hy=>by
  rcases S.par n (Pp hy).1 with q | q
  ·exact .inl q
  ·exact .inr ⟨q,Sr _ _ _ (.inl q)⟩
 refine codeAny_call_function hr.depth (KX _ _ lk) rfl S.co S.gen rfl (PySem.W.codeRec_of KX hcd) (hb _ _ _ _ ?_);refine wpAny_newFunctionEnv_cells S.kind hkind λenv he s1 x=>?_;subst he;refine⟨lim.keeps x.toInCall.keep,codeAny_func ?_⟩;obtain⟨t,ht,hq⟩:=hbody A outer s H vs Q E (hr.deeper _) hsp;have I:Inv (vc CX P w K mg base N qual scope f cdv A outer s H E) [] (start N vs) H s1:=zf S hr.hd e0 hl r x;refine O5 (ht [] s1 (start N vs) H _ I hq) (λfl s' hs=>?_) λe s' hs=>hs;have fin:∀{σ':St} {H':Hp} {v:V} {u:Value},Inv (vc CX P w K mg base N qual scope f cdv A outer s H E) [] σ' H' s'->RelV v u->Q v H'->CE outer P w H s Q u s':=
  λ{σ' H' v u} J rv q=>⟨v,H',J.os,J.bare,J.base,J.aV,rv,q⟩
 cases fl with
 | ret u=>
  obtain⟨v,σ',H',J,rv,q⟩:=hs;exact fin J rv q
 | next=>
  obtain⟨σ',H',J,q⟩:=hs;exact fin (v:=V.bx) (u:=Value.none) J rfl q
 | brk=>
  obtain⟨_,_,_,q⟩:=hs;exact False.elim q
 | cont=>
  obtain⟨_,_,_,q⟩:=hs;exact False.elim q
section
variable {X:Cx} {x:Str} {p pos:Pos} {e:Expr} {es:List Expr} {t:TA} {id T:String} {r:List V->Hp->VK->Prop}
def MC(r:List V->Hp->VK->Prop)(t:TA):TE:=λσ H Q=>t σ H λvs H1=>r vs H1 Q
theorem oz(hc:dw X (.builtin id) r)(hg:Gl X x)(hm:X.mg x=none)(hv:bootBuiltins x=some (.builtin id))(ha:PA X (e::es) t)(hn:x≠"__name__":=by decide)(hdb:(x==("__debug__":Str))=false:=by decide)
  (he:starEach (e::es) X.env=(false,eval e X.env)::starEach es X.env:=by rfl) (hpl:(backTo pos (starEach es X.env)).any (·.1)=false:=by rfl):PE X (.Call (.Name x p) (e::es) [] pos) (MC r t):=by
 intro pins s σ H Q I h;refine Qs (ik I hg hm hv ?_ hn hdb);exact PyProof.Rows.callWith_builtin1 (cy (ha pos pins s σ H _ I h) λus s1 ⟨vs,H1,I1,r1,q1⟩=>hc pins s1 σ H1 vs us Q I1 r1 q1) he hpl
theorem iH(hc:dw X (.type T) r)(hg:Gl X x)(hm:X.mg x=none)(hv:bootBuiltins x=some (.type T))(ha:PA X (e::es) t)(hn:x≠"__name__":=by decide)(hdb:(x==("__debug__":Str))=false:=by decide)
  (he:starEach (e::es) X.env=(false,eval e X.env)::starEach es X.env:=by rfl) (hpl:(backTo pos (starEach es X.env)).any (·.1)=false:=by rfl):PE X (.Call (.Name x p) (e::es) [] pos) (MC r t):=by
 intro pins s σ H Q I h;refine Qs (ik I hg hm hv ?_ hn hdb);exact OR (cy (ha pos pins s σ H _ I h) λus s1 ⟨vs,H1,I1,r1,q1⟩=>hc pins s1 σ H1 vs us Q I1 r1 q1) he hpl
end
end L2
namespace HT
open PySem PyProof.Rows
section
open PySem.SeqAt
open PySem.AutoSeq1 (wpAny_loadPart')
open PySem.MeetsSeq PySem.MeetsSeq2 PySem.MeetsSeq3
end
theorem EE(ht:IsTup s.heap t vs.toArray)(hb:IsTup s.heap b ws.toArray)(hv:vs≠[])(h1:ws=[]->Q (.ref t) s)(h2:ws≠[]->Q (.ref s.heap.objs.size) {s with heap:=s.heap.push {cls:=.type "tuple",data:=.seq (vs++ws).toArray}})(hsz:vs.length+ws.length<=sizeLine):wpAny (model prog w) A (binaryOp .Add (.ref t) (.ref b)) Q E s:=by
 obtain⟨⟨cls,dd,data,sl⟩,ho,hc,n,hd⟩:=id ht;obtain⟨⟨cls2,dd2,data2,sl2⟩,ho2,hc2,n2,hd2⟩:=id hb;simp only at hc hd hc2 hd2;subst hc hd hc2 hd2;have e:vs.toArray++ws.toArray=(vs++ws).toArray:=by simp
 by_cases hw:ws=[]
 ·exact concat_meets ⟨_,ho,rfl⟩ ⟨_,ho2,rfl⟩ Sa Th QZ QV (QL _ _)
   (tuple_addW1 t b vs.toArray ws.toArray n n2 dd dd2 sl sl2 (by simpa using hv) (by simp[hw])) ⟨ho,ho2,h1 hw⟩
 ·refine concat_meets ⟨_,ho,rfl⟩ ⟨_,ho2,rfl⟩ Sa Th QZ QV (QL _ _)
   (tuple_addW2 t b vs.toArray ws.toArray n n2 dd dd2 sl sl2 (by simpa using hv) (by simpa using hw) (by rw[Nx,Nx];exact hsz)) ⟨ho,ho2,?_⟩
  rw[e];exact h2 hw
noncomputable def bX(n d:Nat):Option Int->Nat
 | none=>d
 | some v=>if v < 0 then(v+(n:Int)).toNat else min v.toNat n
theorem nS(n d:Nat):bX n d none=d:=rfl
theorem r8(n d k:Nat):bX n d (some (k:Int))=min k n:=by
 show(if(k:Int) < 0 then((k:Int)+(n:Int)).toNat else min (k:Int).toNat n)=min k n;rw[Np (by simp),NP]
theorem F4(n d:Nat)(hd:d<=n)(o:Option Int):bX n d o<=n:=by
 cases o with
 | none=>exact hd
 | some v=>
  show(if v < 0 then(v+(n:Int)).toNat else min v.toNat n)<=n
  by_cases hv:v < 0
  ·rw[Nj hv];lia
  ·rw[Np hv];exact Nat.min_le_right _ _
theorem yg(v:Int)(n d:Nat):(if v < 0 then max (v+(n:Int)) 0 else min v (n:Int))=((bX n d (some v):Nat):Int):=by
 show(if v < 0 then max (v+(n:Int)) 0 else min v (n:Int))=(((if v < 0 then(v+(n:Int)).toNat else min v.toNat n):Nat):Int)
 by_cases hv:v < 0
 ·simp only[Nj hv];simp
 ·simp only[Np hv];lia
theorem xk(lo hi:Option Int)(n:Nat):Builtin.Slice.sliceAdjust lo hi 1 (n:Int)=(((bX n 0 lo:Nat):Int),((bX n n hi:Nat):Int)):=by
 have h1:¬((1:Int) < 0):=by lia
 unfold Builtin.Slice.sliceAdjust;simp only[h1,O0];refine Prod.ext ?_ ?_
 ·cases lo with
  | none=>rfl
  | some v=>exact yg v n 0
 ·cases hi with
  | none=>rfl
  | some v=>exact yg v n n
theorem wk(i j:Nat):Builtin.Slice.slicePlaces (i:Int) (j:Int) 1=j-i:=by
 unfold Builtin.Slice.slicePlaces;have h1:(1:Int) > 0:=by exact Int.le_refl _
 simp only[h1,Ql,Sy]
 split <;> lia
theorem nE(p:IsPart v o)(h:Q o s):wpAny (model prog w) A (Builtin.Slice.slicePartIndex v) Q E s:=by
 cases p with
 | none=>exact R9 h
 | int i t=>exact slicePart_int h
theorem fL{sl:Addr}{vl vu:Value}{lo hi:Option Int}{n:Nat}{Q:Int×Int×Nat->Shared->Prop}(hs:s.heap.IsSliceOf sl vl vu .none)(pl:IsPart vl lo)(pu:IsPart vu hi)
  (h:Q (((bX n 0 lo:Nat):Int),1,bX n n hi-bX n 0 lo) s):wpAny (model prog w) A (Builtin.Slice.sliceApplied (.ref sl) (pure (n:Int))) Q E s:=by
 obtain⟨os,hos,hcs,hds⟩:=id hs;unfold Builtin.Slice.sliceApplied Builtin.Slice.sliceFields;refine Nb (Nb (Oi hos hds (x:=vl) rfl (Nb (Oi hos hds (x:=vu) rfl (Nb (Oi hos hds (x:=.none) rfl (Nf ?_)))))));refine Nb (R9 ?_);show wpAny _ _ (if((1:Int)==0)=true then _ else _) _ _ s;rw[Np (by decide)];refine Nb (nE pl (Nb (nE pu (Nb (Nf ?_)))));show wpAny _ _ (match Builtin.Slice.sliceAdjust lo hi 1 (n:Int) with |(lo,hi)=>pure (lo,(1:Int),Builtin.Slice.slicePlaces lo hi 1)) _ _ s;rw[xk lo hi n];show wpAny _ _ (pure (((bX n 0 lo:Nat):Int),(1:Int),Builtin.Slice.slicePlaces ((bX n 0 lo:Nat):Int) ((bX n n hi:Nat):Int) 1)) _ _ s;rw[wk];exact Nf h
theorem AW(xs:Array Value)(i k:Nat):((List.range k).filterMap λ(m:Nat)=>xs[((i:Int)+(m:Int)*1).toNat]?).toArray=((xs.toList.drop i).take k).toArray:=by
 have e:(λ(m:Nat)=>xs[((i:Int)+(m:Int)*1).toNat]?)=λm=>xs[i+m]?:=by
  funext m
  have:((i:Int)+(m:Int)*1).toNat=i+m:=by lia
  rw[this]
 rw[e];have:=pick_run xs i k;rw[PH] at this;have e2:((λx=>xs[x]?)∘λx=>i+x)=λm=>xs[i+m]?:=rfl;rw[e2] at this;rw[this]
theorem kg{t sl:Addr}{items:Array Value}{vl vu:Value}{lo hi:Option Int}{Q:Value->Shared->Prop}(ht:IsTup s.heap t items)(hs:s.heap.IsSliceOf sl vl vu .none)(pl:IsPart vl lo)(pu:IsPart vu hi)
  (hw:¬(bX items.size 0 lo=0/\bX items.size items.size hi=items.size))
  (h:Q (.ref s.heap.objs.size) {s with heap:=s.heap.push {cls:=.type "tuple",data:=.seq ((items.toList.drop (bX items.size 0 lo)).take (bX items.size items.size hi-bX items.size 0 lo)).toArray}})
  (hsz:items.size<=sizeLine):wpAny (model prog w) A (getItem (.ref t) (.ref sl)) Q E s:=by
 have htake:sizeOk (.seq ((items.toList.drop (bX items.size 0 lo)).take (bX items.size items.size hi-bX items.size 0 lo)).toArray):=by
  show((items.toList.drop (bX items.size 0 lo)).take (bX items.size items.size hi-bX items.size 0 lo)).toArray.size<=sizeLine;rw[Nx,NF,Pk,NK]
  lia
 have hj:bX items.size items.size hi<=items.size:=F4 _ _ (Nh _) hi;obtain⟨os,hos,hcs,hds⟩:=id hs;have hTs:s.TypeIs (.ref sl) "slice":=⟨os,hos,hcs⟩;unfold getItem
 try with_reducible refine OG ?_
 first | refine Nb (Nf ?_) | skip
 refine Nb (RV ht.typeIs (by decide) ?_);refine Nb (Oh (name:=Str.ofString "__getitem__") ht.typeIs N4
  (Oj N4 ht.typeIs Sh ?_ (SH _ _)))
 show wpAny _ _ (Builtin.Tuple.tupleItemsOf (.ref t) >>=_) _ _ s;refine Nb (tupleItemsOf_ ht ?_);refine Nb (Qv hTs ?_);rw[Nj (by decide)];refine Nb (fL hs pl pu ?_);have hno:¬((((bX items.size 0 lo:Nat):Int)==0&&(1:Int)==1&&(bX items.size items.size hi-bX items.size 0 lo)==items.size)=true):=by
  intro q;rw[Nn,Nn] at q;have q1:((bX items.size 0 lo:Nat):Int)=0:=eq_of_beq q.1.1;have q2:bX items.size items.size hi-bX items.size 0 lo=items.size:=eq_of_beq q.2;exact hw ⟨by clear q;lia,by clear q hj hsz;lia⟩
 show wpAny _ _ (if(((bX items.size 0 lo:Nat):Int)==0&&(1:Int)==1&&(bX items.size items.size hi-bX items.size 0 lo)==items.size)=true then _ else _) _ _ s;rw[Np hno,AW]
 first
  | exact Nb (m:=Builtin.Tuple.tupleExact _) (Og (Nf ⟨_,rfl,Nf h⟩) htake)
  | exact Nb (m:=Builtin.Tuple.tupleExact _) (Og (Nb (Nf (Nf ⟨_,rfl,Nf h⟩))) htake)
  | exact Nb (Nb (m:=Builtin.Tuple.tupleExact _) (Og (Nf (Nf ⟨_,rfl,Nf h⟩)) htake))
  | exact Nb (Nb (m:=Builtin.Tuple.tupleExact _) (Og (Nf ⟨_,rfl,Nf h⟩) htake))
end HT
namespace L2
open PySem PySem.Spec PyProof.Rows
abbrev TO:=St->Hp->(Option Int->Hp->Prop)->Prop
def PO(X:Cx)(e:Option Expr)(t:TO):Prop:=
 ∀(pins:List (Addr×Obj)) (s:Shared) (σ:St) (H:Hp) (Q:Option Int->Hp->Prop),Inv X pins σ H s->t σ H Q->
  wpAny (model X.prog X.w) X.A (evalPart e X.env) (λu s'=>∃o H',Inv X pins σ H' s'/\IsPart u o/\Q o H') X.xe s
noncomputable def C0:TO:=λ_ H Q=>Q none H
def Jc(t:TE):TO:=λσ H Q=>t σ H λx H1=>∃i,x=.int i/\Q (some i) H1
theorem intsAre_of:∀{us:List Value},Vals (ns.map V.int) us->IntsAre us ns:=by
 induction ns with
 | nil=>intro us r;rw[Qq] at r;cases r;exact .nil
 | cons n ns ih=>
  intro us r;rw[Ny] at r;cases r with
  | cons r1 r2=>
   obtain⟨t,e⟩:=r1;subst e;exact .cons n t (ih r2)
section
variable {X:Cx} {e:Expr} {te:TE} {lo hi:Option Expr} {tl th:TO} {pos p2:Pos}
theorem DM:PO X none C0:=by
 intro pins s σ H Q I h;rw[Tj];exact Nf ⟨none,H,I,.none,h⟩
theorem DL(h:PE X e te):PO X (some e) (Jc te):=by
 intro pins s σ H Q I hw;rw[evalPart_some];refine cy (h pins s σ H _ I hw) λu s1 ⟨x,H1,I1,r1,q1⟩=>?_;obtain⟨i,rfl,q⟩:=q1;obtain⟨t,rfl⟩:=r1;exact⟨some i,H1,I1,.int i t,q⟩
def Ip(X:Cx)(r:V->Option Int->Option Int->Hp->VK->Prop):Prop:=
 ∀(pins:List (Addr×Obj)) (s:Shared) (σ:St) (H:Hp) (x:V) (v vl vu:Value) (lo hi:Option Int) (sl:Addr) (Q:VK),Inv X pins σ H s->RelV x v->s.heap.IsSliceOf sl vl vu .none->IsPart vl lo->IsPart vu hi->r x lo hi H Q->
  ∃T id,typeLookup (.type T) "__getitem__"=pure (some (.builtin id))/\s.TypeIs v T/\wpAny (model X.prog X.w) X.A (getItem v (.ref sl)) (EP X pins σ Q) X.xe s
def MX(r:V->Option Int->Option Int->Hp->VK->Prop)(te:TE)(tl th:TO):TE:=λσ H Q=>te σ H λx H1=>tl σ H1 λl H2=>th σ H2 λu H3=>r x l u H3 Q
theorem AY(hr:Ip X r)(he:PE X e te)(hl:PO X lo tl)(hu:PO X hi th):PE X (.Subscript e (.Slice lo hi none p2) pos) (MX r te tl th):=by
 intro pins s σ H Q I h;refine Subscript_ (cy (he pins s σ H _ I h) λv s1 ⟨x,H1,I1,r1,q1⟩=>?_);refine wpAny_Slice (cy (hl pins s1 σ H1 _ I1 q1) λvl s2 ⟨l,H2,I2,pl,q2⟩=>cy (hu pins s2 σ H2 _ I2 q2) λvu s3 ⟨u,H3,I3,pu,q3⟩=>?_);rw[Tj];refine Nf ?_;have I4:Inv X pins σ H3 {s3 with heap:=s3.heap.push {cls:=.type "slice",data:=.fields #[vl,vu,.none]}}:=I3.kept (t':=s3.toks) λb ob q=>Nd _ q;obtain⟨T,id,hT,ht,hg⟩:=hr pins {s3 with heap:=s3.heap.push {cls:=.type "slice",data:=.fields #[vl,vu,.none]}} σ H3 x v vl vu l u s3.heap.objs.size Q I4 r1 (Heap.IsSliceOf.new ..) pl pu q3;show wpAny (model X.prog X.w) X.A (subscriptTail e (.Slice lo hi none p2) v (.ref s3.heap.objs.size)) (EP X pins σ Q) X.xe {s3 with heap:=s3.heap.push {cls:=.type "slice",data:=.fields #[vl,vu,.none]}};exact tail_any (ops:=[.ref s3.heap.objs.size,v]) ht hT hg (by with_unfolding_all rfl)
noncomputable def oZ(xs:List V)(lo hi:Option Int):List V:=(xs.drop (HT.bX xs.length 0 lo)).take (HT.bX xs.length xs.length hi-HT.bX xs.length 0 lo)
theorem mx(xs:List V)(lo hi:Option Int):(oZ xs lo hi).length<=xs.length:=by
 unfold oZ;rw[NF,Pk]
 lia
def LS(K:FR):V->Option Int->Option Int->Hp->VK->Prop:=λx lo hi H Q=>∃a xs,x=.ref a/\je K H a xs/\
 ¬(HT.bX xs.length 0 lo=0/\HT.bX xs.length xs.length hi=xs.length)/\∀p,H p=none->Q (.ref p) (upd H p (.tup (oZ xs lo hi)))
theorem FX:Ip X (LS X.K):=by
 intro pins s σ H x v vl vu lo hi sl Q I rx hs pl pu h;obtain⟨a,xs,rfl,hx,hw,q⟩:=h;cases rx;obtain⟨its,r,ht,hz⟩:=I.tuple hx;have hlen:its.toArray.size=xs.length:=by rw[Nx];exact r.length.symm
 refine⟨"tuple",_,N4.lookup,ht.typeIs,?_⟩;refine HT.kg ht hs pl pu (by rw[hlen];exact hw) ?_ (by rw[hlen];exact hz);rw[hlen];refine⟨.ref s.heap.objs.size,_,I.laid (t':=s.toks) (o:=.tup (oZ xs lo hi)) (λb ob q=>Nd _ q) (Nh _) ?_,rfl,q _ (I.aV.fresh (Nh _))⟩;exact⟨Nr (mx xs lo hi) hz,_,(r.drop (HT.bX xs.length 0 lo)).take (HT.bX xs.length xs.length hi-HT.bX xs.length 0 lo),tJ.new _ _⟩
def JH(K:FR):R2:=λx y H Q=>∃a b xs ys,x=.ref a/\y=.ref b/\je K H a xs/\je K H b ys/\xs≠[]/\xs.length+ys.length<=sizeLine/\
 (ys=[]->Q (.ref a) H)/\(ys≠[]->∀p,H p=none->Q (.ref p) (upd H p (.tup (xs++ys))))
theorem Vals.mX(r:Vals xs us):us=[]↔xs=[]:=by
 cases r with
 | nil=>simp
 | cons _ _=>simp
theorem D0:kR X (binaryOp .Add) (JH X.K):=by
 intro pins s σ H x y v u Q I rx ry h;obtain⟨a,b,xs,ys,rfl,rfl,ha,hb,hx,hz,q1,q2⟩:=h;cases rx;cases ry;obtain⟨its,r1,p1,_⟩:=I.tuple ha;obtain⟨its2,r2,p2,_⟩:=I.tuple hb;refine HT.EE p1 p2 (λz=>hx (r1.mX.mp z)) (λz=>⟨.ref a,H,I,rfl,q1 (r2.mX.mp z)⟩) (λz=>?_) (by rw[<-r1.length,<-r2.length];exact hz);refine⟨.ref s.heap.objs.size,_,I.laid (t':=s.toks) (o:=.tup (xs++ys)) (λb ob q=>Nd _ q) (Nh _) ?_,rfl,q2 (λw=>z (r2.mX.mpr w)) _ (I.aV.fresh (Nh _))⟩;exact⟨by rw[NT];exact hz,_,r1.append r2,tJ.new _ _⟩
end
noncomputable def uR(n:Nat)(i:Int):Option Nat:=if 0<=i then(if i < n then some i.toNat else none) else if -(n:Int)<=i then some (i+n).toNat else none
noncomputable def gR{α:Type}(xs:List α)(i:Int):Option α:=(uR xs.length i).bind λj=>xs[j]?
theorem xU(h:uR n i=some j):seqIndex? i n=some j/\j < n/\-(n:Int)<=i/\i < n:=by
 unfold uR at h
 by_cases h0:0<=i
 ·rw[Nj h0] at h
  by_cases h1:i < n
  ·rw[Nj h1] at h;have e:i.toNat=j:=Option.some.inj h;exact⟨by rw[seqIndex_of h0 h1,e],by lia,by clear h1;lia,h1⟩
  ·rw[Np h1] at h;cases h
 ·rw[Np h0] at h
  by_cases h1:-(n:Int)<=i
  ·rw[Nj h1] at h;have e:(i+n).toNat=j:=Option.some.inj h;exact⟨by rw[seqIndex_neg (by lia) h1,e],by lia,h1,by clear h1;lia⟩
  ·rw[Np h1] at h;cases h
theorem ni(h:gR xs i=some v):∃j,seqIndex? i xs.length=some j/\xs[j]?=some v/\j < xs.length/\-(xs.length:Int)<=i/\i < xs.length:=by
 unfold gR at h;cases e:uR xs.length i with
 | none=>rw[e] at h;cases h
 | some j=>
  rw[e] at h;obtain⟨h1,h2,h3,h4⟩:=xU e;exact⟨j,h1,h,h2,h3,h4⟩
theorem ng{α:Type}{xs:List α}{j:Nat}{v:α}(h:xs[j]?=some v):gR xs (j:Int)=some v:=by
 have hj:j < xs.length:=(Ng.mp h).1;have e:uR xs.length (j:Int)=some j:=by
  unfold uR;rw[Nj (by simp),Nj (OY.mpr hj)];simp
 unfold gR;rw[e];exact h
theorem CC(xs:List α)(v:α):gR (xs++[v]) (-1)=some v:=by
 have hl:(xs++[v]).length=xs.length+1:=by simp
 have e:uR (xs++[v]).length (-1)=some xs.length:=by
  unfold uR;rw[hl,Np (by decide),Nj (by clear hl;lia)];congr 1
  lia
 unfold gR;rw[e];show(xs++[v])[xs.length]?=some v;simp
def kN(b:Expr):Prop:=∀o i,subscripted b false o i=operate [o,i] (getItem o i)
def K5(X:Cx)(r:R2):Prop:=
 ∀(value slice:Expr)(pins:List (Addr×Obj)) (s:Shared) (σ:St) (H:Hp) (x y:V) (v u:Value) (Q:VK),Inv X pins σ H s->RelV x v->RelV y u->r x y H Q->
  subscripted slice false v u=operate [v,u] (getItem v u)->wpAny (model X.prog X.w) X.A (subscriptTail value slice v u) (EP X pins σ Q) X.xe s
def Ll(X:Cx)(id:String)(r:V->List V->Hp->VK->Prop):Prop:=
 ∀(pins:List (Addr×Obj)) (s:Shared) (σ:St) (H:Hp) (x:V) (xs:List V) (v:Value) (us:List Value) (Q:VK),Inv X pins σ H s->RelV x v->Vals xs us->r x xs H Q->
  wpAny (model X.prog X.w) X.A (call (.builtin id) (v::us)) (EP X pins σ Q) X.xe s
section
variable {X:Cx} {a b:Expr} {ta tb:TE} {pos:Pos}
theorem JN(hr:K5 X r)(ha:PE X a ta)(hb:PE X b tb)(hs:kN b):PE X (.Subscript a b pos) (Je r ta tb):=by
 intro pins s σ H Q I h;exact Subscript_ (Ie ha hb I h λv u s2 x y H2 I2 rx ry q=>hr a b pins s2 σ H2 x y v u Q I2 rx ry q (hs _ _))
def L3(K:FR):R2:=λx y H Q=>∃p xs i v,x=.ref p/\y=.int i/\eW K H p xs/\gR xs i=some v/\Q v H
def LZ(K:FR):R2:=λx y H Q=>∃p xs i v,x=.ref p/\y=.int i/\je K H p xs/\gR xs i=some v/\Q v H
def L0:R2:=λx y H Q=>∃z i c,x=.str z/\y=.int i/\z.length<=sizeLine/\gR z.cps.toList i=some c/\Q (.str ⟨#[c]⟩) H
theorem Ec:K5 X (L3 X.K):=by
 intro value slice pins s σ H x y v u Q I rx ry h hs;obtain⟨p,xs,i,z,rfl,rfl,hq,he,q⟩:=h;cases rx;obtain⟨t,rfl⟩:=ry;obtain⟨its,r,pl,hz⟩:=I.list hq;obtain⟨j,h1,h2,h3,h4,h5⟩:=ni he;obtain⟨w,ew,rw'⟩:=r.get h2;have hl:=r.length;have hn:=jq;have fin:EP X pins σ Q w s:=⟨z,H,I,rw',q⟩
 by_cases h0:0<=i
 ·have hj:i.toNat=j:=by
   rw[seqIndex_of h0 h5] at h1;exact Option.some.inj h1
  exact item_listR pl.isList h0 (by lia) (by rw[hj];simpa using ew) fin hs
 ·have hj:(i+(its.toArray.size:Int)).toNat=j:=by
   rw[seqIndex_neg (by lia) h4] at h1;rw[Nx,<-hl];exact Option.some.inj h1
  exact subscriptTail_builtinR (x:=w) pl.isList.typeIs RW.lookup
   (wpAny_getItem_list_neg (Q:=λr s'=>r=w/\EP X pins σ Q r s') pl.isList (by lia) (by rw[Nx] <;> lia) (by lia) (by rw[hj];simpa using ew) ⟨rfl,fin⟩) hs
theorem Hl:K5 X (LZ X.K):=by
 intro value slice pins s σ H x y v u Q I rx ry h hs;obtain⟨p,xs,i,z,rfl,rfl,hq,he,q⟩:=h;cases rx;obtain⟨t,rfl⟩:=ry;obtain⟨its,r,pl,hz⟩:=I.tuple hq;obtain⟨j,h1,h2,h3,h4,h5⟩:=ni he;obtain⟨w,ew,rw'⟩:=r.get h2;have hl:=r.length;have hn:=jq;have fin:EP X pins σ Q w s:=⟨z,H,I,rw',q⟩;exact subscriptTail_builtinR (x:=w) pl.typeIs N4.lookup
  (getItem_tuple (j:=j) (Q:=λr s'=>r=w/\EP X pins σ Q r s') pl (by lia) (by lia) (by rw[Nx,<-hl];exact h1) (by simpa using ew) ⟨rfl,fin⟩) hs
theorem Hm:K5 X L0:=by
 intro value slice pins s σ H x y v u Q I rx ry h hs;obtain⟨z,i,c,rfl,rfl,hz,he,q⟩:=h;obtain⟨t,rfl⟩:=rx;obtain⟨t',rfl⟩:=ry;obtain⟨j,h1,h2,h3,h4,h5⟩:=ni he;have hl:z.cps.toList.length=z.length:=by simp[Str.length]
 rw[hl] at h1 h4 h5;have hn:=jq;exact tail_any (typeIs_str s z t) slot_str_getitem.lookup (getItem_str (c:=c) (by
  have e1:decide (i < -(2^63:Int))=false:=NU (by lia);have e2:decide (i≥2^63)=false:=NU (by lia);rw[e1,e2,QP]) (by rw[h1];simpa using h2) ⟨.str ⟨#[c]⟩,H,I.tok _,⟨_,rfl⟩,q⟩) hs
theorem wB(its:List Value)(n j:Nat)(u:Value):Obj.mapSeq (·.setIfInBounds j u) {cls:=.type "list",data:=.seq its.toArray n}={cls:=.type "list",data:=.seq (its.set j u).toArray n}:=by
 simp[Obj.mapSeq]
theorem Inv.lst(I:Inv X pins σ H s)(h:H p=some (.lst xs)):
  ∃(its:List Value)(n:Nat),Vals xs its/\s.heap.get? p=some {cls:=.type "list",data:=.seq its.toArray n}/\xs.length<=sizeLine:=by
 obtain⟨z,its,n,r,e⟩:=I.aV p _ h;exact⟨its,n,r,e,z⟩
theorem Inv.Hb{pins:List (Addr×Obj)}{σ:St}{H:Hp}{s:Shared}{p:Addr}{xs ys:List V}{its its':List Value}{n n':Nat}{f:Obj->Obj}(I:Inv X pins σ H s)(h:H p=some (.lst xs))
  (ho:s.heap.get? p=some {cls:=.type "list",data:=.seq its.toArray n}) (hf:f {cls:=.type "list",data:=.seq its.toArray n}={cls:=.type "list",data:=.seq its'.toArray n'}) (r:Vals ys its') (hz:ys.length<=sizeLine) (t:Nat):
  Inv X pins σ (upd H p (.lst ys)) {s with heap:=s.heap.update p f,toks:=t}:=by
 have e:(s.heap.update p f).get? p=some {cls:=.type "list",data:=.seq its'.toArray n'}:=by
  rw[OP f ho (by rw[hf] <;> rfl),hf]
 refine I.write (x:=p) (e:=p) (by rw[h];trivial) (.inl rfl) (λb u hb q=>(Po _ _ (Ox hb)).trans q) ⟨_,e⟩ ?_;exact⟨hz,its',n',r,e⟩
def JG:V->V->V->Hp->(Hp->Prop)->Prop:=λo i v H Q=>∃p xs k j,o=.ref p/\i=.int k/\H p=some (.lst xs)/\uR xs.length k=some j/\Q (upd H p (.lst (xs.set j v)))
theorem set_list:Iv X JG:=by
 intro pins s σ H o i v ov iv u Q I ro ri rv h;obtain⟨p,xs,k,j,rfl,rfl,hp,hj,q⟩:=h;cases ro;obtain⟨t,rfl⟩:=ri;obtain⟨its,n,r,ho,hz⟩:=I.lst hp;obtain⟨h1,h2,h3,h4⟩:=xU hj;have hl:=r.length;have hn:=jq;have I':Inv X pins σ (upd H p (.lst (xs.set j v))) {s with heap:=s.heap.update p (Obj.mapSeq (·.setIfInBounds j u))}:=
  I.Hb hp ho (wB its n j u) (r.set rv j) (by rw[Pq];exact hz) s.toks
 by_cases h0:0<=k
 ·have hk:k.toNat=j:=by
   rw[seqIndex_of h0 h4] at h1;exact Option.some.inj h1
  exact PySem.W.ki_setAt ho h0 (by lia) (by rw[Nx,<-hl];exact h4) (by rw[hk];exact⟨_,I',q⟩)
 ·have hk:(k+(its.toArray.size:Int)).toNat=j:=by
   rw[seqIndex_neg (by lia) h3] at h1;rw[Nx,<-hl];exact Option.some.inj h1
  exact PySem.W.ki_setBack ho (by lia) (by rw[Nx,<-hl];exact h3) (by lia) (by rw[hk];exact⟨_,I',q⟩)
theorem rR(lo hi:Option Int)(n:Nat):(sliceBounds lo hi none n).1=((HT.bX n 0 lo:Nat):Int)/\(sliceBounds lo hi none n).2.1=((HT.bX n n hi:Nat):Int)/\(sliceBounds lo hi none n).2.2=1:=by
 refine⟨?_,?_,rfl⟩
 ·cases lo with
  | none=>simp[sliceBounds,HT.bX]
  | some i=>
   simp only[sliceBounds,HT.bX,Option.getD_none,show(1:Int) > 0 by decide,Ql]
   by_cases h:i < 0
   ·simp only[h,Ql] <;> lia
   ·simp only[h,O0] <;> lia
 ·cases hi with
  | none=>simp[sliceBounds,HT.bX]
  | some i=>
   simp only[sliceBounds,HT.bX,Option.getD_none,show(1:Int) > 0 by decide,Ql]
   by_cases h:i < 0
   ·simp only[h,Ql] <;> lia
   ·simp only[h,O0] <;> lia
theorem pO(its:List Value)(lo hi:Option Int):slicePick its.toArray lo hi none=((its.drop (HT.bX its.length 0 lo)).take (HT.bX its.length its.length hi-HT.bX its.length 0 lo)).toArray:=by
 obtain⟨h1,h2,h3⟩:=rR lo hi its.toArray.size;unfold slicePick;rw[h1,h2,h3];simp only[sliceRange_one,pick_run,Nx] <;> rfl
def LV(K:FR):V->Option Int->Option Int->Hp->VK->Prop:=λx lo hi H Q=>∃a xs,x=.ref a/\eW K H a xs/\∀p,H p=none->Q (.ref p) (upd H p (.lst (oZ xs lo hi)))
theorem Dg:Ip X (LV X.K):=by
 intro pins s σ H x v vl vu lo hi sl Q I rx hs pl pu h;obtain⟨a,xs,rfl,hx,q⟩:=h;cases rx;obtain⟨its,r,ht,hz⟩:=I.list hx;have hlen:=r.length;refine⟨"list",_,RW.lookup,ht.isList.typeIs,?_⟩;refine Tf ht.isList hs pl pu .none (by simp) ?_ (by rw[Nx] <;> lia);rw[pO,<-hlen];refine⟨.ref s.heap.objs.size,_,I.laid (t':=s.toks) (o:=.lst (oZ xs lo hi)) (λb ob q=>Nd _ q) (Nh _) ?_,rfl,q _ (I.aV.fresh (Nh _))⟩;exact⟨Nr (mx xs lo hi) hz,_,0,(r.drop (HT.bX xs.length 0 lo)).take (HT.bX xs.length xs.length hi-HT.bX xs.length 0 lo),Nu _ rfl⟩
theorem tj:dw X (.builtin "len") (λxs H Q=>∃p ys,xs=[.ref p]/\(eW X.K H p ys\/je X.K H p ys)/\Q (.int ys.length) H):=by
 intro pins s σ H xs us Q I r h;obtain⟨p,ys,rfl,hq,q⟩:=h;obtain⟨u,rfl,rx⟩:=vals1 r;cases rx;have hn:=jq;rcases hq with hq | hq
 ·obtain⟨its,r',pl,hz⟩:=I.list hq;have hlen:=r'.length;exact Calls.call_len_list pl.isList (by simp only[Nx] <;> lia) ⟨.int ys.length,H,I.tok _,⟨s.toks+1,by rw[Nx,hlen]⟩,q⟩
 ·obtain⟨its,r',pl,hz⟩:=I.tuple hq;have hlen:=r'.length;exact len_tuple pl (by simp only[Nx] <;> lia) ⟨.int ys.length,H,I.tok _,⟨s.toks+1,by rw[Nx,hlen]⟩,q⟩
theorem tf:dw X (.builtin "len") (λxs H Q=>∃z,xs=[.str z]/\z.length<=sizeLine/\Q (.int z.length) H):=by
 intro pins s σ H xs us Q I r h;obtain⟨z,rfl,hz,q⟩:=h;obtain⟨u,rfl,t,rfl⟩:=vals1 r;have hn:=jq;exact len_str (by lia) ⟨.int z.length,H,I.tok _,⟨_,rfl⟩,q⟩
theorem td:dw X (.type "list") (λxs H Q=>∃p ys,xs=[.ref p]/\(eW X.K H p ys\/je X.K H p ys)/\∀l,H l=none->Q (.ref l) (upd H l (.lst ys))):=by
 intro pins s σ H xs us Q I r h;obtain⟨p,ys,rfl,hq,q⟩:=h;obtain⟨u,rfl,rx⟩:=vals1 r;cases rx;have fin:∀(its:List Value),Vals ys its->ys.length<=sizeLine->∀(h':Heap)(c':Nat),(∀b o',s.heap.get? b=some o'->h'.get? b=some o')->
   h'.get? s.heap.objs.size=some {cls:=.type "list",dict:=none,data:=.seq its.toArray c',slots:=#[]}->EP X pins σ Q (.ref s.heap.objs.size) {s with heap:=h'}:=λits r' hz h' c' kp e=>
  ⟨.ref s.heap.objs.size,_,I.laid (t':=s.toks) kp (Nh _) (show bJ X.prog X.w _ h' _ (.lst ys) from⟨hz,its,c',r',e⟩),rfl,q _ (I.aV.fresh (Nh _))⟩
 rcases hq with hq | hq
 ·obtain⟨its,r',pl,hz⟩:=I.list hq;have hlen:=r'.length;obtain⟨o,ho,hc,n,hd⟩:=pl.isList;exact call_list_seq p (.inl rfl) ho hc hd (λh' c' kp e=>fin its r' hz h' c' kp e) (by simp only[Nx] <;> lia)
 ·obtain⟨its,r',pl,hz⟩:=I.tuple hq;have hlen:=r'.length;obtain⟨o,ho,hc,n,hd⟩:=pl;exact call_list_seq p (.inr rfl) ho hc hd (λh' c' kp e=>fin its r' hz h' c' kp e) (by simp only[Nx] <;> lia)
theorem p6:dw X (.type "tuple") (λxs H Q=>∃p ys,xs=[.ref p]/\((eW X.K H p ys/\∀l,H l=none->Q (.ref l) (upd H l (.tup ys)))\/(je X.K H p ys/\Q (.ref p) H))):=by
 intro pins s σ H xs us Q I r h;obtain⟨p,ys,rfl,h⟩:=h;obtain⟨u,rfl,rx⟩:=vals1 r;cases rx;rcases h with⟨hq,q⟩ |⟨hq,q⟩
 ·obtain⟨its,r',pl,hz⟩:=I.list hq;have hlen:=r'.length;refine call_tuple_list pl.isList (λh' kp=>?_) (by simp only[Nx] <;> lia);have I1:Inv X pins σ H {s with heap:=h'}:=I.kept (t':=s.toks) kp;have I2:Inv X pins σ (upd H h'.objs.size (.tup ys)) {s with heap:=h'.push {cls:=.type "tuple",data:=.seq its.toArray}}:=
   I1.laid (t':=s.toks) (λb o e=>Nd _ e) (Nh _) (show bJ X.prog X.w _ _ _ (.tup ys) from⟨hz,its,r',tJ.new _ _⟩)
  exact⟨.ref h'.objs.size,_,I2,rfl,q _ (I1.aV.fresh (Nh _))⟩
 ·obtain⟨its,r',pl,hz⟩:=I.tuple hq;exact call_tuple_same pl ⟨.ref p,H,I,rfl,q⟩
def K8(K:FR)(T:String)(x:V)(H:Hp):Prop:=match x with
 | .str _=>T="str"
 | .int _=>T="int"
 | .ref p=>(T="list"/\∃xs,eW K H p xs)\/(T="tuple"/\∃o,K.lookup p=some o/\o.cls=.type "tuple"/\o.dict=none)\/
   (T="dict"/\((∃kvs,H p=some (.dK kvs))\/(∃kvs,H p=some (.dT kvs))\/∃φ,H p=some (.IF φ)/\∀w h,φ w h->∃o,h.get? p=some o/\o.ExactDict))\/(T="set"/\∃S n,H p=some (.set S n))
 | _=>False
theorem FE(I:Inv X pins σ H s)(r:RelV x v)(ty:K8 X.K T x H):
  s.TypeIs v T/\∀a,v=.ref a->∃ob,s.heap.get? a=some ob/\ob.dict=none:=by
 cases x with
 | str z=>
  obtain⟨t,rfl⟩:=r;cases(show T="str" from ty);exact⟨typeIs_str s z t,λ_ e=>nomatch e⟩
 | int i=>
  obtain⟨t,rfl⟩:=r;cases(show T="int" from ty);exact⟨typeIs_int s i t,λ_ e=>nomatch e⟩
 | ref p=>
  cases r;rcases ty with⟨rfl,xs,hq⟩ |⟨rfl,o,hk,hc,hd⟩ |⟨rfl,hk⟩ |⟨rfl,S,n,hk⟩
  ·obtain⟨its,_,pl,_⟩:=I.list hq;refine⟨pl.isList.typeIs,λa e=>?_⟩;cases e;obtain⟨o,n,e,c,hd,_⟩:=pl;exact⟨o,e,hd⟩
  ·refine⟨⟨o,I.tP p o hk,hc⟩,λa e=>?_⟩;cases e;exact⟨o,I.tP _ o hk,hd⟩
  ·have z:∃o,s.heap.get? p=some o/\o.ExactDict:=by
    rcases hk with⟨kvs,hk⟩ |⟨kvs,hk⟩ |⟨φ,hk,hφ⟩
    ·obtain⟨_,_,_,_,o,_,_,e,ex,_⟩:=I.aV p _ hk;exact⟨o,e,ex⟩
    ·obtain⟨_,_,_,_,o,_,_,e,ex,_⟩:=I.aV p _ hk;exact⟨o,e,ex⟩
    ·obtain⟨q,_⟩:=I.aV p _ hk;exact hφ _ _ q
   obtain⟨o,e,ex⟩:=z;refine⟨⟨o,e,ex.1⟩,λa e2=>?_⟩;cases e2;exact⟨o,e,ex.2.1⟩
  ·obtain⟨o,_,_,_,e,ex,_⟩:=I.aV p _ hk;refine⟨⟨o,e,ex.1⟩,λa e2=>?_⟩;cases e2;exact⟨o,e,ex.2.1⟩
 | _=>exact False.elim ty
def M1(K:FR)(T:String)(r:V->List V->Hp->VK->Prop)(to:TE)(t:TA):TE:=λσ H Q=>to σ H λx H1=>K8 K T x H1/\t σ H1 λxs H2=>r x xs H2 Q
variable {o e:Expr} {es:List Expr} {to:TE} {t:TA} {name:Str} {apos cpos:Pos} {T id:String} {r:V->List V->Hp->VK->Prop}
theorem JO(pa:PlainAttrs T)(slot:Slot T name id)(hty:typeOf (.builtin id)=pure (.type "method_descriptor"))(hm:Ll X id r)(ho:PE X o to)(ha:PA X (e::es) t)
  (hbase:attributeBase o name X.env (eval o X.env)=eval o X.env:=by rfl)
  (hfew:((backTo cpos (starEach (e::es) X.env)).all (λx=>!x.1)&&(backToKw cpos (keywordEach [] X.env)).all (λx=>x.1.isSome)
   &&decide ((e::es).length+([]:List Keyword).length+(if([]:List Keyword).isEmpty then 0 else 1) < 30))=true:=by rfl)
  (hline:(apos.endLine==cpos.line)=true:=by rfl) (hs:starEach (e::es) X.env=(false,eval e X.env)::starEach es X.env:=by rfl) (hplain:(backTo cpos (starEach es X.env)).any (·.1)=false:=by rfl):
  PE X (.Call (.Attribute o name apos) (e::es) [] cpos) (M1 X.K T r to t):=by
 intro pins s σ H Q I h;refine wpAny_Call_method_late hbase hfew hline rfl (cy (ho pins s σ H _ I h) λv s1 ⟨x,H1,I1,r1,ty,q1⟩=>?_);obtain⟨h1,h2⟩:=FE I1 r1 ty;refine⟨T,id,pa,slot,hty,h1,h2,?_⟩;have hA:=ha cpos pins s1 σ H1 _ I1 q1;rw[hs] at hA ⊢;refine Calls.callWith_builtin (by show(false||(backTo cpos (starEach es X.env)).any (·.1))=false;rw[hplain] <;> rfl) (Calls.evalArgs_plain ?_);exact cy hA λus s2 ⟨vs,H2,I2,r2,q2⟩=>hm pins s2 σ H2 x vs v us Q I2 r1 r2 q2
end
def MP(X:Cx)(id:String)(r:V->List V->Hp->VK->Prop):Prop:=
 ∀(pins:List (Addr×Obj)) (s:Shared) (σ:St) (H:Hp) (x:V) (xs:List V) (v:Value) (us:List Value) (Q:VK),Inv X pins σ H s->RelV x v->Vals xs us->r x xs H Q->
  wpAny (model X.prog X.w) X.A (call (.builtin id) (v::us)) (EP X pins σ Q) X.xe s
theorem Vals.one{x:V}{us:List Value}(h:Vals [x] us):∃u,us=[u]/\RelV x u:=by
 cases h with
 | cons r t=>cases t;exact⟨_,rfl,r⟩
theorem Vals.two{x y:V}{us:List Value}(h:Vals [x,y] us):∃u v,us=[u,v]/\RelV x u/\RelV y v:=by
 cases h with
 | cons r t=>cases t with
  | cons q z=>cases z;exact⟨_,_,rfl,r,q⟩
theorem Vals.eraseIdx:∀{xs:List V} {us:List Value} (i:Nat),Vals xs us->Vals (xs.eraseIdx i) (us.eraseIdx i)
 | _,_,_,.nil=>.nil
 | _,_,0,.cons _ t=>t
 | _,_,i+1,.cons r t=>.cons r (Vals.eraseIdx i t)
theorem Vals.rep(h:Vals xs us):∀k:Nat,Vals (List.replicate k xs).flatten (List.replicate k us).flatten
 | 0=>.nil
 | k+1=>by
  rw[Pb,Pb,P1,P1];exact Vals.append h (Vals.rep h k)
theorem qK:∀(l:List α)(i:Nat),(l.eraseIdx i).length<=l.length
 | [],_=>Nh _
 | _::_,0=>Pc _
 | _::r,i+1=>Qu (qK r i)
theorem foldl_rep(its:List Value):∀(k:Nat)(acc:List Value),
  List.foldl (λx1 x2=>x1++x2) acc.toArray (List.replicate k its.toArray)=(acc++(List.replicate k its).flatten).toArray
 | 0,acc=>by simp
 | k+1,acc=>by
  have e:acc.toArray++its.toArray=(acc++its).toArray:=by simp
  have e2:(acc++its)++(List.replicate k its).flatten=acc++(List.replicate (k+1) its).flatten:=by
   rw[Pb,P1,OI]
  rw[<-e2,<-foldl_rep its k (acc++its),<-e,Pb,PQ]
theorem Inv.Kb{its its':List Value}{n:Nat}{f:Array Value->Array Value}{t':Nat}(I:Inv X pins σ H s)(hH:H l=some (.lst xs))
  (e:s.heap.get? l=some {cls:=.type "list",data:=.seq its.toArray n}) (hf:f its.toArray=its'.toArray) (hv:Vals ys its') (hz:ys.length<=sizeLine):
  Inv X pins σ (upd H l (.lst ys)) {s with heap:=s.heap.update l (Obj.mapSeq f),toks:=t'}:=by
 have q:=PySem.IsL.update e f;rw[hf] at q;refine I.write (x:=l) (e:=l) (by rw[hH];exact trivial) (.inl rfl) (λb' u hb hu=>(Po s.heap (Obj.mapSeq f) (Ox hb)).trans hu) ⟨_,q⟩ ?_;exact⟨hz,its',_,hv,q⟩
theorem Inv.He(I:Inv X pins σ H s)(hv:Vals ys its)(hz:ys.length<=sizeLine):
  Inv X pins σ (upd H s.heap.objs.size (.lst ys)) {s with heap:=s.heap.push {cls:=.type "list",data:=.seq its.toArray},toks:=t'}:=
 I.laid (λ_ _ q=>Nd _ q) (Nh _) ⟨hz,its,0,hv,Nu _ rfl⟩
theorem Inv.fresh(I:Inv X pins σ H s):H s.heap.objs.size=none:=I.aV.fresh (Nh _)
theorem Inv.By(I:Inv X pins σ H s)(hH:H l=some (.lst xs)):xs.length<=sizeLine/\∃(its:List Value)(n:Nat),Vals xs its/\xs.length=its.length/\s.heap.get? l=some {cls:=.type "list",data:=.seq its.toArray n}:=by
 obtain⟨z,its,n,r,e⟩:=I.aV l _ hH;exact⟨z,its,n,r,r.length,e⟩
theorem Bo(h:n<=sizeLine):Builtin.List.listTooLong n=false:=by
 unfold Builtin.List.listTooLong;exact NU (Qe.mpr h)
def DB:V->List V->Hp->VK->Prop:=λx vs H Q=>∃l xs y,x=.ref l/\vs=[y]/\H l=some (.lst xs)/\xs.length < sizeLine/\Q .bx (upd H l (.lst (xs++[y])))
theorem qG:MP X "list.append" DB:=by
 intro pins s σ H x vs v us Q I rx rv h;obtain⟨l,xs,y,rfl,rfl,hH,hz,q⟩:=h;cases rx;obtain⟨u,rfl,ru⟩:=rv.one;obtain⟨z,its,n,r,hl,e⟩:=I.By hH;refine SX Q9 ⟨_,e,rfl⟩ F.entry_list_append (F.args_list_append_2 _ _) (PySem.list_append l its.toArray n u (by rw[Nx];lia)) ⟨e,?_⟩;refine⟨.bx,_,I.Kb (its':=its++[u]) hH e (by simp) (r.append (.cons ru .nil)) ?_,rfl,q⟩;rw[NT,Ra]
 lia
def Gu:V->List V->Hp->VK->Prop:=λx vs H Q=>∃l xs i k y,x=.ref l/\vs=[.int i]/\H l=some (.lst xs)/\-(2^63)<=i/\i < 2^63/\seqIndex? i xs.length=some k/\xs[k]?=some y/\Q y (upd H l (.lst (xs.eraseIdx k)))
theorem Bw:MP X "list.pop" Gu:=by
 intro pins s σ H x vs v us Q I rx rv h;obtain⟨l,xs,i,k,y,rfl,rfl,hH,h1,h2,hk,hy,q⟩:=h;cases rx;obtain⟨u,rfl,ru⟩:=rv.one;obtain⟨t,rfl⟩:=ru;obtain⟨z,its,n,r,hl,e⟩:=I.By hH;obtain⟨w,hw,rw'⟩:=r.get hy;refine SX F.slot_list_pop ⟨_,e,rfl⟩ F.entry_list_pop (F.args_list_pop_2 _ _)
  (MeetsSeq.list_pop_at l its.toArray n i t k w (fitsIndex_both h1 h2) (by rw[Nx,<-hl];exact hk) (by rw[<-Ow];exact hw) (by rw[Nx];lia)) ⟨e,?_⟩
 refine⟨y,_,I.Kb (its':=its.eraseIdx k) hH e ?_ (r.eraseIdx k) ?_,rw',q⟩
 ·show its.toArray.eraseIdxIfInBounds k=(its.eraseIdx k).toArray;rw[List.eraseIdxIfInBounds_toArray]
 ·have:=qK xs k
  lia
def L4:R2:=λx y H Q=>∃l b xs zs,x=.ref l/\y=.ref b/\H l=some (.lst xs)/\H b=some (.lst zs)/\xs.length+zs.length<=sizeLine/\∀p,H p=none->Q (.ref p) (upd H p (.lst (xs++zs)))
theorem Bi:kR X (binaryOp .Add) L4:=by
 intro pins s σ H x y v u Q I rx ry h;obtain⟨l,b,xs,zs,rfl,rfl,hH,hB,hz,q⟩:=h;cases rx;cases ry;obtain⟨z,its,n,r,hl,e⟩:=I.By hH;obtain⟨z2,its2,n2,r2,hl2,e2⟩:=I.By hB;refine PySem.P.add_list e e2 ?_ (by rw[Nx,Nx];lia);have ea:its.toArray++its2.toArray=(its++its2).toArray:=by simp
 rw[ea];exact⟨.ref _,_,I.He (t':=s.toks) (r.append r2) (by rw[NT];exact hz),rfl,q _ I.fresh⟩
def LY:R2:=λx y H Q=>∃l k xs,x=.ref l/\y=.int k/\H l=some (.lst xs)/\-(2^63)<=k/\k < 2^63/\xs.length*k.toNat<=sizeLine/\
 ∀p,H p=none->Q (.ref p) (upd H p (.lst (List.replicate k.toNat xs).flatten))
theorem len_rep(xs:List α)(k:Nat):(List.replicate k xs).flatten.length=k*xs.length:=by
 induction k with
 | zero=>simp
 | succ k ih=>rw[Pb,P1,NT,ih,Nat.succ_mul,Nat.add_comm]
theorem G1:kR X (binaryOp .Mult) LY:=by
 intro pins s σ H x y v u Q I rx ry h;obtain⟨l,k,xs,rfl,rfl,hH,h1,h2,hz,q⟩:=h;cases rx;obtain⟨t,rfl⟩:=ry;obtain⟨z,its,n,r,hl,e⟩:=I.By hH;have hlen:its.toArray.size*k.toNat<=sizeLine:=by rw[Nx,<-hl];exact hz
 have hcap:¬its.toArray.size*k.toNat > (2^63-1) / 8:=by
  have:(sizeLine:Nat)<=(2^63-1) / 8:=by decide
  lia
 have hfit:¬(!Builtin.List.listFitsIndex k)=true:=by
  rw[fitsIndex_both h1 h2];exact NZ
 have hlong:¬Builtin.List.listTooLong (its.toArray.size*k.toNat)=true:=by
  rw[Bo hlen];exact NZ
 have hnew:List.foldl (λx1 x2=>x1++x2) #[] (List.replicate (if its.toArray.isEmpty=true then 0 else k.toNat) its.toArray)=(List.replicate k.toNat its).flatten.toArray:=by
  have f0:∀m:Nat,List.foldl (λx1 x2=>x1++x2) #[] (List.replicate m its.toArray)=(List.replicate m its).flatten.toArray:=λm=>by
   have:=foldl_rep its m [];rw[RS] at this;exact this
  rw[f0];cases its with
  | nil=>simp
  | cons a r'=>rw[Np (by simp)]
 refine wpAny_binaryOp_repeat_ref (T:="list") (U:="int") (by decide) ⟨_,e,rfl⟩ (λs'=>typeIs_int s' k t) noFill_list_mul F.fills_int_mul F.slot_int_rmul repeat_list F.slot_int_index.lookup
  (SX F.slot_int_rmul (typeIs_int s k t) F.entry_int_rmul (F.args_int_rmul_2 _ _) (int___rmul___int_list k t l its.toArray n)
   ⟨e,rfl,⟨_,e,rfl⟩,SX F.slot_list_mul ⟨_,e,rfl⟩ F.entry_list_mul (F.args_list_mul_2 _ _) (AutoListH.list___mul___list_int_3 l its.toArray n k t hfit hcap hlong) ⟨e,?_⟩⟩)
 rw[hnew];exact⟨.ref _,_,I.He (t':=s.toks) (r.rep k.toNat) (by rw[len_rep,QC];exact hz),rfl,q _ I.fresh⟩
section
variable {κ:Type} [DecidableEq κ]
noncomputable def gV(kvs:List (κ×V))(k:κ):Option V:=(kvs.find? λkv=>decide (kv.1=k)).map (·.2)
noncomputable def putK(kvs:List (κ×V))(k:κ)(v:V):List (κ×V):=
 if(kvs.any λkv=>decide (kv.1=k))=true then kvs.map (λkv=>if kv.1=k then(kv.1,v) else kv) else kvs++[(k,v)]
theorem nr{p:κ×V}{r:List (κ×V)}{k:κ}(e:p.1=k):gV (p::r) k=some p.2:=by simp[gV,PR,e]
theorem jH{p:κ×V}{r:List (κ×V)}{k:κ}(e:¬p.1=k):gV (p::r) k=gV r k:=by simp[gV,PR,e]
theorem tT(k:κ):∀kvs:List (κ×V),(kvs.any λkv=>decide (kv.1=k))=(gV kvs k).isSome
 | []=>rfl
 | p::r=>by
  rw[Pd]
  by_cases e:p.1=k
  ·simp only[nr e,NC e,Bool.true_or,Option.isSome_some]
  ·rw[jH e,NU e,Sf];exact tT k r
theorem ij(kvs:List (κ×V))(k:κ)(v:V):(putK kvs k v).length<=kvs.length+1:=by
 unfold putK
 split
 ·rw[Nc];exact Pc _
 ·rw[NT,NQ,Ot];exact Pj _
theorem pI.fS(r:pI o u):o.isSome=u.isSome:=by
 cases o with
 | none=>cases u with
  | none=>rfl
  | some _=>exact(show False from r).elim
 | some _=>cases u with
  | none=>exact(show False from r).elim
  | some _=>rfl
theorem KV.val{kvs:List (κ×V)}{vs:List (κ×Value)}(r:KV kvs vs)(k:κ):pI (gV kvs k) (valueAt vs k):=by
 unfold KV at r
 induction r with
 | nil=>exact True.intro
 | @cons p q ps qs h t ih=>
  obtain⟨h1,h2⟩:=h
  by_cases e:p.1=k
  ·have e':q.1=k:=h1.symm.trans e;have b:valueAt (q::qs) k=some q.2:=by simp[valueAt,PR,e']
   rw[nr e,b];exact h2
  ·have e':¬q.1=k:=λz=>e (h1.trans z);have b:valueAt (q::qs) k=valueAt qs k:=by simp[valueAt,PR,e']
   rw[jH e,b];exact ih
theorem KV.any(r:KV kvs vs)(k:κ):(kvs.any λkv=>decide (kv.1=k))=vs.any λkv=>decide (kv.1=k):=by
 unfold KV at r
 induction r with
 | nil=>rfl
 | cons h t ih=>rw[Pd,Pd,ih,h.1]
theorem KV.Ga(r:KV kvs vs)(k:κ)(ry:RelV y u):
  KV (kvs.map λkv=>if kv.1=k then(kv.1,y) else kv) (vs.map λkv=>if kv.1=k then(kv.1,u) else kv):=by
 unfold KV at r ⊢
 induction r with
 | nil=>exact .nil
 | @cons p q ps qs h t ih=>
  rw[Ny,Ny];refine .cons ?_ ih;obtain⟨h1,h2⟩:=h
  by_cases e:p.1=k
  ·rw[Nj e,Nj (h1.symm.trans e)];exact⟨h1,ry⟩
  ·rw[Np e,Np (λz=>e (h1.trans z))];exact⟨h1,h2⟩
theorem KV.put(r:KV kvs vs)(k:κ)(ry:RelV y u):KV (putK kvs k y) (stored vs k u):=by
 unfold putK stored;rw[r.any k]
 by_cases e:(vs.any λkv=>decide (kv.1=k))=true
 ·rw[Nj e,Nj e];exact r.Ga k ry
 ·rw[Np e,Np e];exact Paired.snoc r ⟨rfl,ry⟩
theorem KV.length(r:KV kvs vs):kvs.length=vs.length:=Paired.length r
end
theorem qQ(r:RelV (kV k) u):(bB P w).is k u=true:=by
 cases k with
 | inl i=>obtain⟨t,e⟩:=(show ∃t,u=Value.int i t from r);subst e;exact mm P w i t
 | inr x=>obtain⟨t,e⟩:=(show ∃t,u=Value.str x t from r);subst e;exact mj P w x t
theorem qR:∀{ks:List Key} {us:List Value},Vals (ks.map kV) us->ItemsAre (bB P w) ks us
 | [],_,r=>by rw[Qq] at r;cases r;exact .nil
 | k::ks,_,r=>by
  rw[Ny] at r;cases r with
  | cons h t=>exact .cons (qQ h) (qR t)
abbrev KT(H:Hp):List (List Key×V)->List (List Key×Addr×Value)->Prop:=Paired λp q=>p.1=q.1/\H q.2.1=some (.tup (p.1.map kV))/\RelV p.2 q.2.2
theorem KT.val{H:Hp}{kvs:List (List Key×V)}{xs:List (List Key×Addr×Value)}(r:KT H kvs xs)(k:List Key):pI (gV kvs k) ((atKey xs k).map (·.2)):=by
 induction r with
 | nil=>exact True.intro
 | @cons p q ps qs h t ih=>
  obtain⟨h1,_,h2⟩:=h
  by_cases e:p.1=k
  ·have e':q.1=k:=h1.symm.trans e;have b:atKey (q::qs) k=some q.2:=by simp[atKey,PR,e']
   rw[nr e,b];exact h2
  ·have e':¬q.1=k:=λz=>e (h1.trans z);have b:atKey (q::qs) k=atKey qs k:=by simp[atKey,PR,e']
   rw[jH e,b];exact ih
theorem KT.Ga(r:KT H kvs xs)(k:List Key)(ry:RelV y u):
  KT H (kvs.map λkv=>if kv.1=k then(kv.1,y) else kv) (xs.map (putAt k u)):=by
 induction r with
 | nil=>exact .nil
 | @cons p q ps qs h t ih=>
  rw[Ny,Ny];refine .cons ?_ ih;obtain⟨h1,h2,h3⟩:=h;unfold putAt
  by_cases e:p.1=k
  ·rw[Nj e,Nj (h1.symm.trans e)];exact⟨h1,h2,ry⟩
  ·rw[Np e,Np (λz=>e (h1.trans z))];exact⟨h1,h2,h3⟩
theorem KT.put(r:KT H kvs xs)(k:List Key)(hb:H b=some (.tup (k.map kV)))(ry:RelV y u):
  KT H (putK kvs k y) (storedH xs k b u):=by
 have e:(kvs.any λkv=>decide (kv.1=k))=(atKey xs k).isSome:=by
  rw[tT,(r.val k).fS,Rz]
 unfold putK storedH;rw[e]
 by_cases q:(atKey xs k).isSome=true
 ·rw[Nj q,Nj q];exact r.Ga k ry
 ·rw[Np q,Np q];exact Paired.snoc r ⟨rfl,hb,ry⟩
theorem KT.keeps(r:KT H kvs xs)(ht:∀b ys,H b=some (.tup ys)->H' b=some (.tup ys)):KT H' kvs xs:=
 Paired.J3 r λ_ _ z=>⟨z.1,ht _ _ z.2.1,z.2.2⟩
theorem E3(ok:iV P w H h)(e:Rd H a u):bJ P w H h a u:=e.ok ok
theorem qV(ok:iV P w H h)(e:Rd H a (.dK kvs)):kvs.length<=sizeLine/\(a==sysModules)=false/\∃vs,KV kvs vs/\h.DictOf (bB P w) a vs:=
 show bJ P w H h a (.dK kvs) from E3 ok e
theorem x8(ok:iV P w H h)(e:H a=some (.dK kvs)):kvs.length<=sizeLine/\(a==sysModules)=false/\∃vs,KV kvs vs/\h.DictOf (bB P w) a vs:=qV ok (.inl e)
theorem oI(ok:iV P w H h)(e:H a=some (.tup (ks.map kV))):(tupleKind (bB P w)).is h ks a:=by
 obtain⟨_,its,r,o,h1,h2,⟨n,h3⟩,_⟩:=(show bJ P w H h a (.tup (ks.map kV)) from ok a _ e);exact⟨o,its.toArray,n,h1,h2,h3,by simpa using qR r⟩
theorem u9(ok:iV P w H h)(e:Rd H a (.dT kvs)):kvs.length<=sizeLine/\(a==sysModules)=false/\
  ∃xs,KT H kvs xs/\h.DictOfH (tupleKind (bB P w)) a xs:=by
 obtain⟨z,y,xs,r,o,es,ep,h1,h2,h3,h4,h5⟩:=(show bJ P w H h a (.dT kvs) from E3 ok e);refine⟨z,y,xs,r,o,es,ep,h1,h2,h3,h4,λx hx=>?_,h5⟩;have all:∀{l:List (List Key×V)} {m:List (List Key×Addr×Value)},KT H l m->∀x∈m,(tupleKind (bB P w)).is h x.1 x.2.1:=by
  intro l m q
  induction q with
  | nil=>intro x hx;exact nomatch hx
  | @cons p q ps qs hq t ih=>
   intro x hx;rcases NA.mp hx with e | hx
   ·subst e;exact oI ok (by rw[<-hq.1];exact hq.2.1)
   ·exact ih x hx
 exact all r x hx
theorem Kq(ok:iV P w H h)(e:H a=some (.dT kvs)):kvs.length<=sizeLine/\(a==sysModules)=false/\
  ∃xs,KT H kvs xs/\h.DictOfH (tupleKind (bB P w)) a xs:=u9 ok (.inl e)
def p9(H:Hp)(a:Addr)(y:V)(r:Option V):Prop:=
 (∃kvs k,Rd H a (.dK kvs)/\y=kV k/\r=gV kvs k)\/∃kvs k b,Rd H a (.dT kvs)/\y=.ref b/\H b=some (.tup (k.map kV))/\r=gV kvs k
def EU(H:Hp)(a:Addr)(y v:V)(H':Hp):Prop:=
 (∃kvs k,H a=some (.dK kvs)/\y=kV k/\kvs.length < sizeLine/\H'=upd H a (.dK (putK kvs k v)))\/
 ∃kvs k b,H a=some (.dT kvs)/\y=.ref b/\H b=some (.tup (k.map kV))/\kvs.length < sizeLine/\H'=upd H a (.dT (putK kvs k v))
theorem p9.k{H:Hp}{a:Addr}{kvs:List (Key×V)}{k:Key}(e:H a=some (.dK kvs)):p9 H a (kV k) (gV kvs k):=.inl ⟨kvs,k,.inl e,rfl,rfl⟩
theorem EU.k{H:Hp}{a:Addr}{kvs:List (Key×V)}{k:Key}{v:V}(e:H a=some (.dK kvs))(hl:kvs.length < sizeLine):EU H a (kV k) v (upd H a (.dK (putK kvs k v))):=.inl ⟨kvs,k,e,rfl,hl,rfl⟩
theorem Inv.big(I:Inv X pins σ H s):sysModules < s.heap.objs.size:=by
 have h:mainGlobals < s.heap.objs.size:=(I.mod.glob.keeps I.bk).lt;exact OK (by decide) h
theorem zy(hu:A.units+1 < cLine)(I:Inv X pins σ H s)(g:p9 H a y (some v))(ry:RelV y u)(h:∀w' s',Inv X pins σ H s'->RelV v w'->Q w' s'):
  wpAny (model X.prog X.w) A (getItem (.ref a) u) Q E s:=by
 rcases g with⟨kvs,k,e,ey,l⟩ |⟨kvs,k,b,e,ey,eb,l⟩
 ·subst ey;obtain⟨z,hd,vs,rel,dd⟩:=qV I.aV e;obtain⟨w',hw,rw'⟩:=pI.some_of (v:=v) (o:=valueAt vs k) (by rw[l];exact rel.val k);exact wpAny_getItem_of (qQ ry) dd.mapOf hw (h w' _ (I.tok _) rw')
 ·subst ey;cases(show u=Value.ref b from ry);obtain⟨z,hd,xs,rel,dd⟩:=u9 I.aV e;obtain⟨w',hw,rw'⟩:=pI.some_of (v:=v) (o:=(atKey xs k).map (·.2)) (by rw[l];exact rel.val k);obtain⟨p,hp,hp2⟩:=N5.mp hw;refine wpAny_getItem_heap (QR hu) (oI I.aV eb) dd hp ?_;rw[hp2];exact h w' _ (I.tok _) rw'
theorem Mj(hu:A.units+1 < cLine)(I:Inv X pins σ H s)(g:p9 H a y o)(ry:RelV y u)(h:∀s',Inv X pins σ H s'->Q (.bool o.isSome) s'):
  wpAny (model X.prog X.w) A (compareOp .In u (.ref a)) Q E s:=by
 rcases g with⟨kvs,k,e,ey,l⟩ |⟨kvs,k,b,e,ey,eb,l⟩
 ·subst ey;obtain⟨z,hd,vs,rel,dd⟩:=qV I.aV e;refine wpAny_in_of (qQ ry) hd dd.mapOf ?_;rw[<-(rel.val k).fS,<-l];exact h _ (I.tok _)
 ·subst ey;cases(show u=Value.ref b from ry);obtain⟨z,hd,xs,rel,dd⟩:=u9 I.aV e;refine wpAny_in_heap (QR hu) (oI I.aV eb) hd dd ?_;have q:=(rel.val k).fS;rw[Rz] at q;rw[<-q,<-l];exact h _ (I.tok _)
theorem Ey(hu:A.units+1 < cLine)(I:Inv X pins σ H s)(g:p9 H a y o)(ry:RelV y u)(h:∀s',Inv X pins σ H s'->Q (.bool (!o.isSome)) s'):
  wpAny (model X.prog X.w) A (compareOp .NotIn u (.ref a)) Q E s:=by
 rcases g with⟨kvs,k,e,ey,l⟩ |⟨kvs,k,b,e,ey,eb,l⟩
 ·subst ey;obtain⟨z,hd,vs,rel,dd⟩:=qV I.aV e;refine wpAny_notIn_of (qQ ry) hd dd.mapOf ?_;rw[<-(rel.val k).fS,<-l];exact h _ (I.tok _)
 ·subst ey;cases(show u=Value.ref b from ry);obtain⟨z,hd,xs,rel,dd⟩:=u9 I.aV e;refine wpAny_notIn_heap (QR hu) (oI I.aV eb) hd dd ?_;have q:=(rel.val k).fS;rw[Rz] at q;rw[<-q,<-l];exact h _ (I.tok _)
theorem sW(I:Inv X pins σ H s)(mu:K3 (H a))(hs:Heap.SameBut a s.heap h')(he:∃q,h'.get? a=some q)(new:bJ X.prog X.w (upd H a ob) h' a ob):
  Inv X pins σ (upd H a ob) {s with heap:=h',toks:=t'}:=
 I.write (x:=a) (e:=a) mu (.inl rfl) (λb q hb z=>(hs.2 b hb).trans z) he new
theorem B8(z:kvs.length<=sizeLine)(hd:(a==sysModules)=false)(rel:KV kvs vs)(dd:h'.DictOf (bB P w) a vs):
  bJ P w H' h' a (.dK kvs):=⟨z,hd,vs,rel,dd⟩
theorem zx(hu:A.units+1 < cLine)(I:Inv X pins σ H s)(g:EU H a y v H')(ry:RelV y u)(rv:RelV v r)(h:∀s',Inv X pins σ H' s'->Q () s'):
  wpAny (model X.prog X.w) A (setItem (.ref a) u r) Q E s:=by
 rcases g with⟨kvs,k,e,ey,l,eH⟩ |⟨kvs,k,b,e,ey,eb,l,eH⟩
 ·subst ey eH;obtain⟨z,hd,vs,rel,dd⟩:=x8 I.aV e;have hz:vs.length<=sizeLine:=by rw[<-rel.length];exact z
  have hl:(putK kvs k v).length<=sizeLine:=by have:=ij kvs k v;lia
  refine wpAny_setItem_pairs (hsz:=hz) (qQ ry) dd λh' dd' hs=>h _ ?_;have he:∃q,h'.get? a=some q:=by obtain⟨q,_,_,hq,_⟩:=dd';exact⟨q,hq⟩
  exact sW I (by rw[e];exact True.intro) hs he (B8 hl hd (rel.put k rv) dd')
 ·subst ey eH;cases(show u=Value.ref b from ry);obtain⟨z,hd,xs,rel,dd⟩:=Kq I.aV e;have hz:xs.length<=sizeLine:=by rw[<-Paired.length rel];exact z
  have hl:(putK kvs k v).length<=sizeLine:=by have:=ij kvs k v;lia
  refine wpAny_setItem_heap (hsz:=hz) (QR hu) (oI I.aV eb) dd λh' dd' hs=>h _ ?_;obtain⟨q,es,ep,hq,h2,h3,h4,_,h5⟩:=dd';refine sW I (by rw[e];exact True.intro) hs ⟨q,hq⟩ ⟨hl,hd,_,(rel.put k eb rv).keeps λc ys ec=>?_,q,es,ep,hq,h2,h3,h4,h5⟩;rw[aB (JY ec e (λz=>nomatch z))];exact ec
theorem Kr(I:Inv X pins σ H s)(e:Rd H a (.dK kvs))(h:∀t s',Inv X pins σ H s'->Q (.int kvs.length t) s'):wpAny (model X.prog X.w) A (call (.builtin "len") [.ref a]) Q E s:=by
 obtain⟨z,hd,vs,rel,dd⟩:=qV I.aV e;refine call_len_dict hd dd (by rw[<-rel.length];rw[O9] at z;lia) ?_;rw[<-rel.length];exact h _ _ (I.tok _)
theorem vb(I:Inv X pins σ H s)(g:p9 H a y o):s.TypeIs (.ref a) "dict":=by
 rcases g with⟨kvs,k,e,_,_⟩ |⟨kvs,k,b,e,_,_,_⟩
 ·obtain⟨_,_,vs,_,dd⟩:=qV I.aV e;exact dd.typeIs
 ·obtain⟨_,_,xs,_,dd⟩:=u9 I.aV e;exact dd.typeIs
theorem va(h:Heap)(hb:sysModules < h.objs.size):bJ P w H (h.push {cls:=.type "dict",data:=.dict #[]}) h.objs.size (.dK []):=
 ⟨Oo _,Px.mpr (Ox (NB hb)),[],.nil,Heap.DictOf.new h⟩
def FQ:TE:=λ_ H Q=>∀p,H p=none->Q (.ref p) (upd H p (.dK []))
theorem AZ:PE X (.Dict [] [] pos) FQ:=λpins s σ H Q I h=>
 wpAny_Dict_empty ⟨.ref s.heap.objs.size,_,I.laid (a:=s.heap.objs.size) (o:=.dK []) (t':=s.toks) (λ_ _ q=>Nd _ q) (Nh _) (va s.heap I.big),rfl,h _ (I.aV.fresh (Nh _))⟩
def rL:List (TE×TE)->St->Hp->(List (V×V)->Hp->Prop)->Prop
 | [],_,H,Q=>Q [] H
 |(tk,tv)::r,σ,H,Q=>tk σ H λx H1=>tv σ H1 λy H2=>rL r σ H2 λps H3=>Q ((x,y)::ps) H3
abbrev VV:List (V×V)->List (Value×Value)->Prop:=Paired λp q=>RelV p.1 q.1/\RelV p.2 q.2
def IJ(X:Cx)(pos:Pos)(keys:List (Option Expr))(values:List Expr)(trs:List (TE×TE)):Prop:=
 ∀(pins:List (Addr×Obj)) (s:Shared) (σ:St) (H:Hp) (Q:List (V×V)->Hp->Prop),Inv X pins σ H s->rL trs σ H Q->
  wpAny (model X.prog X.w) X.A (evalPairs (pairTrees keys values X.env pos)) (λvs s'=>∃ps H',Inv X pins σ H' s'/\VV ps vs/\Q ps H') X.xe s
theorem DI:IJ X pos [] [] []:=λpins s σ H Q I h=>pairTrees_nil_walk ⟨[],H,I,.nil,h⟩
theorem AV(hk:PE X k tk)(hv:PE X v tv)(hr:IJ X pos ks vs trs):
  IJ X pos (some k::ks) (v::vs) ((tk,tv)::trs):=λpins s σ H Q I h=>
 pairTrees_cons_walk (cy (hk pins s σ H _ I h) λu s1 ⟨x,H1,I1,rx,q1⟩=>cy (hv pins s1 σ H1 _ I1 q1) λw2 s2 ⟨y,H2,I2,ry,q2⟩=>
  cy (hr pins s2 σ H2 _ I2 q2) λws s3 ⟨ps,H3,I3,rel,q3⟩=>⟨(x,y)::ps,H3,I3,.cons ⟨rx,ry⟩ rel,q3⟩)
noncomputable def ig(kvs more:List (Key×V)):List (Key×V):=more.foldl (λacc kv=>putK acc kv.1 kv.2) kvs
theorem KV.merge:∀{more:List (Key×V)} {rs:List (Key×Value)} {kvs:List (Key×V)} {vs:List (Key×Value)},KV more rs->KV kvs vs->KV (ig kvs more) (merged vs rs):=by
 intro more rs kvs vs r;unfold KV at r
 induction r generalizing kvs vs with
 | nil=>intro q;exact q
 | @cons p q ps qs h t ih=>
  intro r0;have e:KV (putK kvs p.1 p.2) (stored vs q.1 q.2):=by
   have:=r0.put p.1 h.2;rw[<-h.1];exact this
  exact ih e
theorem i8:∀(more kvs:List (Key×V)),(ig kvs more).length<=kvs.length+more.length
 | [],kvs=>by show kvs.length<=kvs.length+0;exact Nh _
 | p::r,kvs=>by
  have h1:=i8 r (putK kvs p.1 p.2);have h2:=ij kvs p.1 p.2;show(ig (putK kvs p.1 p.2) r).length<=_;rw[NQ];lia
theorem ph:∀{kvs:List (Key×V)} {ws:List (Value×Value)},VV (kvs.map λkv=>(kV kv.1,kv.2)) ws->∃rs,Carries (bB P w) ws rs/\KV kvs rs
 | [],_,r=>by rw[Qq] at r;cases r;exact⟨[],True.intro,.nil⟩
 | p::kvs,_,r=>by
  rw[Ny] at r;cases r with
  | @cons a b as bs h t=>
   obtain⟨rs,c,q⟩:=ph (P:=P) (w:=w) t;obtain⟨b1,b2⟩:=b;exact⟨(p.1,b2)::rs,⟨qQ h.1,rfl,c⟩,.cons ⟨rfl,h.2⟩ q⟩
def EX(trs:List (TE×TE)):TE:=λσ H Q=>∀p,H p=none->rL trs σ (upd H p (.dK [])) λps H2=>H2 p=some (.dK [])/\∃kvs:List (Key×V),ps=kvs.map (λkv=>(kV kv.1,kv.2))/\kvs.length<=15/\Q (.ref p) (upd H2 p (.dK (ig [] kvs)))
theorem DV(h:IJ X pos keys values trs)(hall:keys.all (·.isSome)=true)(hl:keys.length=values.length)(h0:keys≠[])(h15:keys.length<=15):PE X (.Dict keys values pos) (EX trs):=by
 intro pins s σ H Q I q;have hn:=I.aV.fresh (Nh s.heap.objs.size);have I1:=I.laid (a:=s.heap.objs.size) (o:=.dK []) (h':=s.heap.push {cls:=.type "dict",data:=.dict #[]}) (t':=s.toks) (λ_ _ q=>Nd _ q) (Nh _) (va s.heap I.big);refine wpAny_Dict_walk (knd:=bB X.prog X.w) hall hl h0 h15 (cy (h pins _ σ _ _ I1 (q _ hn)) λws s2 ⟨ps,H2,I2,rel,e,kvs,ep,lk,q2⟩=>?_);subst ep;obtain⟨rs,c,rk⟩:=ph (P:=X.prog) (w:=X.w) rel;obtain⟨z,hd,vs0,r0,dd⟩:=x8 I2.aV e;cases r0;refine⟨rs,c,dd,λh' dd' hs=>⟨.ref s.heap.objs.size,_,?_,rfl,q2⟩⟩;have hz:(ig [] kvs).length<=sizeLine:=by
  have h1:=i8 kvs [];rw[Ot] at h1;rw[O9];lia
 have he:∃q,h'.get? s.heap.objs.size=some q:=by obtain⟨q,_,_,hq,_⟩:=dd';exact⟨q,hq⟩
 exact sW I2 (by rw[e];exact True.intro) hs he (B8 hz hd (rk.merge .nil) dd')
end L2
namespace Att
open PySem PySem.W PySem.Calls PyProof.Rows
theorem mJ:∀(ns:List Int)(vs:List Value),WellAll P h vs (ns.map WData.int)->IntsAre vs ns:=by
 intro ns
 induction ns with
 | nil=>
  intro vs w;rw[Qq] at w;cases w;exact .nil
 | cons n ns ih=>
  intro vs w;rw[Ny] at w;cases w with
  | cons a b=>
   cases a;exact .cons _ _ (ih _ b)
theorem yJ{l:OpenLaw}{n:Nat}(hn:l.most=some n){P:Params}{h:Heap}{args:List WData}{vals:List Value}
  (hpre:l.row.toRowW.claim.pre args=true) (hwl:WellAll P h vals args):
  ∃a vs ns,vals=[Value.ref a]/\args=[WData.list (ns.map WData.int)]/\h.get? a=some {cls:=.type "list",data:=.seq vs.toArray}/\IntsAre vs ns/\ns.length<=n:=by
 have hsh:WShape.hasAll [] args [.list .int]=true:=(pre_splitW hpre).1;have hc:l.pre.holds [] {args:=args}=true:=(pre_splitW hpre).2;obtain⟨d,r,rfl,h1,h2⟩:=hasAllW_cons hsh;obtain rfl:=hasAllW_nil h2;obtain⟨xs,rfl,h3⟩:=hasW_list h1;obtain⟨ns,rfl⟩:=items_int h3;have hlen:ns.length<=n:=by
  unfold OpenLaw.pre at hc;have h4:(WTm.not (.lt (.lit (.int (n:Int))) (.len (.arg 0)))).holds [] {args:=[.list (ns.map .int)]}=true:=by
   have h4:=(holds_andW hc).1;rw[hn] at h4;exact h4
  have h5:=condW_of h4 (w_not (w_lt w_lit (w_len_list (w_arg rfl))));rw[Nc] at h5;refine Ob λq=>?_;have q':(n:Int) < ((ns.length:Nat):Int):=by exact OY.mpr q
  first
   |(rw[NC q'] at h5;exact absurd h5 (by decide))
   |(simp at h5;lia)
 cases hwl with
 | cons w1 w2=>
  cases w2;cases w1 with
  | list ho hall=>exact⟨_,_,ns,rfl,rfl,ho,mJ ns _ hall,hlen⟩
theorem yQ(l:OpenLaw)(args:List WData):l.row.toRowW.claim.post args (.bool true) args=true:=
 postW_of (r:=l.row.toRowW) (X:=(true==true))
  (show WShape.has [] (.bool true) .bool=true by first | rfl | decide | simp[WShape.has,WShape.arms,WShape.armsAll])
  (show(WTm.eq .res (.lit (.bool true))).value [] {args:=args,res:=some (.bool true),after:=args}=some (.bool (true==true)) from w_eq_bool (w_res rfl) w_lit) rfl
theorem vt{l:OpenLaw}{n:Nat}{q:Program}{loose:List Str}{XP:(Str->Option Value)->Heap->Prop}{YP:World->Heap->Prop}{d:DefRec}
  (hn:l.most=some n) (hdf:d.params.defaults=[])
  (call:∀(w:World)(s₀ s₁:Shared)(mg mb:Str->Option Value)(fa:Addr)(o:Obj)(pm cd doc:Value)(a:Addr)(vs:List Value)(ns:List Int),
   Ground q loose [] XP w s₀ mg mb s₁.heap->YP w s₁.heap->
   s₁.heap.get? fa=some o->o.data=.func (docDef d.name d.params d.body d.scope pm cd doc)->s₁.heap.CodeRec cd d.name->mg d.name=some (.ref fa)->
   s₁.heap.get? a=some {cls:=.type "list",data:=.seq vs.toArray}->IntsAre vs ns->ns.length<=n->s₁.gens=#[]->
   codeAny (model l.prog w) callerA (.call (.ref fa) ⟨[.ref a],[]⟩) (λr s'=>r=.ok (.ret (.bool true))/\OldK s₁.heap s'.heap/\s'.os=s₁.os/\AllBare s'.gens) s₁):
  WalkO q loose XP YP l.row.toRowW d [] (λf vs=>PySem.call f vs):=by
 intro w s₀ s₁ mg mb G Y fa o pm cd doc dV kV ho hd hcd hD hmg hg args vals as hpre hlay hrd hwl hlo;obtain rfl:dV=.none:=Dflts.none hD hdf;obtain rfl:kV=.none:=Dflts.noKw hD;obtain⟨a,vs,ns,rfl,rfl,hobj,hints,hlen⟩:=yJ hn hpre hwl;refine enter_call (Qc (call w s₀ s₁ mg mb fa o pm cd doc a vs ns G Y ho (fd_plain hd) hcd hmg hobj hints hlen hg) λr s' hq=>?_);obtain⟨rfl,h2,h3,h4⟩:=hq;exact⟨.inl ⟨.bool true,.bool true,[],rfl,λ_=>rfl,.bool true,yQ l _,λ_=>⟨List.Pairwise.nil,λ_ hm=>(nomatch hm)⟩⟩,h2,h3,h4⟩
section
variable {prog:Program} {w:World} {A:Around} {E:Value->Shared->Prop} {s:Shared} {K:Frag}
end
end Att
namespace L2
open PySem PySem.Spec PyProof.Rows
theorem qb{vs:List Value}{ns:List Int}(a:IntsAre vs ns):Vals (ns.map V.int) vs:=by
 induction a with
 | nil=>exact .nil
 | cons n t h ih=>exact .cons ⟨t,rfl⟩ ih
def K2(H:Hp):Prop:=∀b,H b=none\/∃o xs,H b=some (.xW o (.lst xs))
theorem BD{P:Program}{w:World}{K:FR}{mg mb:Str->Option Value}{CX:EV}{k:Nat}{fa a:Addr}{fd:FuncData}{x:Str}{sp:Sp}{s₁:Shared}{vs:List Value}{ns:List Int}
  (KX:K.In s₁.heap) (hns:s₁.heap.Ns mainGlobals mg) (hb:s₁.heap.Ns builtinsNs mb) (hbb:∀x:Str,x≠"__name__"->mb x=bootBuiltins x) (hlim:s₁.heap.NoLimit) (hg:s₁.gens=#[])
  (ha:s₁.heap.get? a=some {cls:=.type "list",data:=.seq vs.toArray}) (hi:IntsAre vs ns) (hl:ns.length<=sizeLine) (hr:dZ k callerA)
  (F:∀base:Heap,K.In base->base.Ns mainGlobals mg->eX P w K mg base CX k fa fd [x] sp) (hbind:∀(s:Shared)(u:Value),BindsTo s fd ⟨[u],[]⟩ [(x,u)])
  (hsp:∀H:Hp,K2 H->eW K H a (ns.map V.int)->sp [.ref a] H (λv _=>v=.bl true) λ_ _ _=>False)
  (hCX:∀H e s',CX [] H s₁ (λ_ _ _=>False) e s'->False):
  codeAny (model P w) callerA (.call (.ref fa) ⟨[.ref a],[]⟩) (λr s'=>r=.ok (.ret (.bool true))/\OldK s₁.heap s'.heap/\s'.os=s₁.os/\AllBare s'.gens) s₁:=by
 have rv:=qb hi;have lenV:=hi.length;have core:∀H:Hp,K2 H->eW K H a (ns.map V.int)->iV P w H s₁.heap->(∀b,H b≠none->b=a)->(H a≠none->K.lookup a=none)->
   codeAny (model P w) callerA (.call (.ref fa) ⟨[.ref a],[]⟩) (λr s'=>r=.ok (.ret (.bool true))/\OldK s₁.heap s'.heap/\s'.os=s₁.os/\AllBare s'.gens) s₁:=by
  intro H hO hS aV hA hK;have base_of:∀{b:Addr} {o:Obj},s₁.heap.get? b=some o->H b=none->(sO s₁.heap H).get? b=some o:=λe n=>BL e n;have noA:∀{b:Addr} {o:Obj} {es:Array DictEntry} {ep:Nat},s₁.heap.get? b=some o->o.data=.dict es ep->H b=none:=λ{b o es ep} e d=>by
   cases q:H b with
   | none=>rfl
   | some u=>
    have e':b=a:=hA b (by rw[q];simp);subst e';rw[ha] at e;cases e;have d':Data.seq vs.toArray _=Data.dict es ep:=d;cases d'
  have nsK:∀{b:Addr} {m:Str->Option Value},s₁.heap.Ns b m->(sO s₁.heap H).Ns b m:=λ{b m} ⟨o,es,ep,e,d,r⟩=>⟨o,es,ep,base_of e (noA e d),d,r⟩;have hKb:K.In (sO s₁.heap H):=λb o e=>base_of (KX b o e) (by
   cases q:H b with
   | none=>rfl
   | some u=>
    have e':b=a:=hA b (by rw[q];simp);subst e';rw[hK (by rw[q];simp)] at e;cases e)
  have hM:Mod K mg (sO s₁.heap H):=⟨hKb,nsK hns,⟨mb,nsK hb,hbb⟩,let⟨mc,h1,h2⟩:=hlim;⟨mc,nsK h1,h2⟩⟩;have e0:ET P w K mg (sO s₁.heap H) callerA [] s₁ H:=⟨rfl,hM,λb o e=>D2 e,RA (zj _ _),trivial,λb hb=>absurd (show b∈([]:List Addr) from hb) (by simp),aV,.of_eq hg⟩;refine Qc ((F _ hKb (nsK hns)).run callerA [] s₁ H ⟨[.ref a],[]⟩ [.ref a] [.ref a] _ _ hr e0 (hbind s₁ (.ref a)) (.cons rfl .nil) (hsp H hO hS)) λr s' h=>?_;cases r with
  | error e=>exact(hCX H e s' h).elim
  | ok fl=>
   cases fl with
   | next=>exact False.elim h
   | brk=>exact False.elim h
   | cont=>exact False.elim h
   | ret u=>
    obtain⟨v,H',os,bare,un,hok',r',q⟩:=h;have q':v=.bl true:=q;subst q';obtain rfl:u=Value.bool true:=r';refine⟨rfl,OldK.of_keep λb o e=>?_,os,bare⟩;cases q:H b with
    | none=>exact un.keep b o e q (by intro z;exact absurd (show b∈([]:List Addr) from z) (by simp)) (by simp)
    | some u=>
     rcases hO b with z |⟨ob,xs,z⟩
     ·rw[q] at z;cases z
     ·have z2:=un.pZ b ob _ z;obtain⟨e1,_⟩:=aV b _ z;obtain⟨e2,_⟩:=hok' b _ z2;rw[e] at e1;cases e1;exact e2
 cases hk:K.lookup a with
 | some o=>
  have e:=KX a o hk;rw[ha] at e;cases e;refine core (λ_=>none) (λ_=>.inl rfl) (.inr ⟨_,vs.toArray,_,hk,rfl,rfl,rfl,by rw[Nx,lenV];exact hl,by simpa using rv⟩) (λb u z=>by have z':(none:Option HO)=some u:=z;cases z') (λb z=>absurd rfl z) λz=>absurd rfl z
 | none=>
  refine core (λb=>if b=a then some (.xW {cls:=.type "list",data:=.seq vs.toArray} (.lst (ns.map V.int))) else none) (λb=>?_) (.inl (.inr ⟨{cls:=.type "list",data:=.seq vs.toArray},Nj rfl⟩)) (λb u z=>?_) (λb z=>?_) λ_=>hk
  ·by_cases hb:b=a
   ·exact .inr ⟨_,_,Nj hb⟩
   ·exact .inl (Np hb)
  ·by_cases hb:b=a
   ·have z':=(Nj hb).symm.trans z;cases z';subst hb;exact⟨ha,by rw[Nc];exact hl,vs,_,rv,ha⟩
   ·have z':=(Np hb).symm.trans z;cases z'
  ·by_cases hb:b=a
   ·exact hb
   ·exact absurd (Np hb) z
noncomputable def ko(s:Stmt):Arguments:=match s with
 | .FunctionDef _ a _ _ _ _ _ _ _ _=>a
 | _=>{posonlyargs:=[],args:=[],vararg:=none,kwonlyargs:=[],kw_defaults:=[],kwarg:=none,defaults:=[]}
noncomputable def ft(s:Stmt):List Stmt:=match s with
 | .FunctionDef _ _ b _ _ _ _ _ _ _=>b
 | _=>[]
noncomputable def ao(s:Stmt):Scope:=match s with
 | .FunctionDef _ _ _ _ _ _ sc _ _ _=>sc
 | _=>{kind:=.function,names:=[],isGenerator:=false,isCoroutine:=false}
abbrev rB:EV:=λ_ _ _ _ _ _=>False
abbrev E0:XK:=λ_ _ _=>False
theorem JQ:Passes rB X E0:=λ_ _ _ _ _ _ _ h=>h.elim
structure xo(K:FR)(x qual:Str)(st:Stmt)(f:Addr)(fd:FuncData):Prop where
 ex:∃(oc:Value)(od:Option Addr)(kV doc pm:Value)(an:Option Addr)(cdv ct:Value)(osl:Array (Option Value)),
  fd=PySem.W.fnOf x qual (ko st) (ft st) (ao st) .none kV doc pm an cdv ct/\K.lookup f=some ⟨oc,od,.func fd,osl⟩/\PySem.W.codeIn K cdv qual=true
 kp:PySem.W.keepIn K (.ref f)=true
section
variable {P:Program} {w:World} {K:FR} {mg:Str->Option Value} {base:Heap}
theorem xo.ok{x qual:Str}{st:Stmt}{f:Addr}{fd:FuncData}{N ps:List Str}{k:Nat}{sp:Sp}(F:xo K x qual st f fd)(S:aD N ps (ao st))(len:∀vs H Q E,sp vs H Q E->vs.length=ps.length)
  (hbody:∀(cdv:Value)(A:Around)(outer:List Env)(s:Shared)(H:Hp)(vs:List V)(Q:VK)(E:XK),dZ k (A.deeper (envOfC qual (ao st) s.heap.objs.size f cdv))->sp vs H Q E->
   ∃t,vE (vc rB P w K mg base N qual (ao st) f cdv A outer s H E).IC (ft st) t/\t {nx:=λ_ H'=>Q .bx H',rt:=Q} (start N vs) H):eX P w K mg base rB (k+1) f fd ps sp:=by
 obtain⟨oc,od,kV,doc,pm,an,cdv,ct,osl,rfl,lk,hcd⟩:=F.ex;refine Km lk hcd S len λA outer s H vs Q E hr hsp=>?_;obtain⟨t,h,q⟩:=hbody cdv A outer s H vs Q E hr hsp;exact⟨t,h.IC,q⟩
theorem xo.binds{x qual:Str}{st:Stmt}{f:Addr}{fd:FuncData}{ps:List Str}(F:xo K x qual st f fd)
  (h:∀(kV doc pm:Value)(an:Option Addr)(cdv ct:Value)(us:List Value),us.length=ps.length->bindArgs (PySem.W.fnOf x qual (ko st) (ft st) (ao st) .none kV doc pm an cdv ct) ⟨us,[]⟩=pure (ps.zip us)):Binds K fd ps []:=by
 obtain⟨oc,od,kV,doc,pm,an,cdv,ct,osl,rfl,lk,hcd⟩:=F.ex;exact .all (h kV doc pm an cdv ct)
end
theorem zE:dw X (.builtin "len") (λxs H Q=>∃a kvs,xs=[V.ref a]/\H a=some (.dK kvs)/\Q (.int kvs.length) H):=by
 intro pins s σ H xs us Q I r h;obtain⟨a,kvs,rfl,ha,q⟩:=h;obtain⟨u,rfl,ru⟩:=vals1 r;cases ru;exact Kr I (.inl ha) λt s' I'=>⟨.int kvs.length,H,I',⟨t,rfl⟩,q⟩
theorem Kf{A B:Prop}(h:B):if false=true then A else B:=by
 rw[Np NZ];exact h
theorem Ke{A B:Prop}(h:A):if true=true then A else B:=by
 rw[Nj rfl];exact h
section
variable {κ:Type} [DecidableEq κ]
end
theorem iV.off(ok:iV P w H h)(hC:H C=none)(k:∀b u,b≠C->h.get? b=some u->h'.get? b=some u):iV P w H h':=by
 intro a o e;have ne:a≠C:=by rintro rfl;rw[hC] at e;cases e
 refine(ok a o e).t4 (λb u hb q=>k b u ?_ q) (λ_ x=>x) (λ_ _ x=>x);rcases hb with rfl | hb
 ·exact ne
 ·rintro rfl;rw[hC] at hb;cases hb
noncomputable def iT(env:Env):List (Str×NameKind)->List (Str×Addr)->List (Str×Addr)
 | [],acc=>acc
 |(n,k)::r,acc=>if(k==NameKind.free)=true then iT env r ((n,(env.cells.lookup n).getD 0)::acc) else iT env r acc
theorem o7(h:∀y∈scope.names,y.2=.free->∃c,env.cells.lookup y.1=some c):closureFor scope env=pure (iT env scope.names []):=by
 have key:∀(names:List (Str×NameKind)) (acc:List (Str×Addr)),(∀y∈names,y.2=.free->∃c,env.cells.lookup y.1=some c)->
   (forIn names acc (λ(x:Str×NameKind)(r:List (Str×Addr))=>match x with
    |(name,kind)=>if(kind==NameKind.free)=true then do let a<-cellOf env name;pure (ForInStep.yield ((name,a)::r)) else pure (ForInStep.yield r)):Sem (List (Str×Addr)))=pure (iT env names acc):=by
  intro names
  induction names with
  | nil=>intro acc _;rfl
  | cons y r ih=>
   intro acc hy;obtain⟨n,k⟩:=y;have hr:=λa=>ih a λz hz=>hy z (Nl _ hz);rw[RT];unfold iT
   by_cases hk:(k==NameKind.free)=true
   ·have hk':k=.free:=by simpa using hk
    obtain⟨c,hc⟩:=hy (n,k) Nm hk';have e:cellOf env n=pure c:=by unfold cellOf;rw[hc]
    simp only[hk,Ql,e,hc,Option.getD_some];exact hr _
   ·simp only[hk,O0];exact hr _
 have k:=key scope.names [] h;unfold closureFor;dsimp only;rw[k];rfl
theorem lJ:∀(names:List (Str×NameKind)) (acc:List (Str×Addr)),(∀y∈names,y.2=.free->∃c,env.cells.lookup y.1=some c)->
  (∀d,acc.lookup x=some d->env.cells.lookup x=some d)->(iT env names acc).lookup x=some c->env.cells.lookup x=some c
 | [],acc,_,ha,h=>ha c h
 |(n,k)::r,acc,hy,ha,h=>by
  unfold iT at h;have hr:=λz hz=>hy z (Nl _ hz)
  by_cases hk:(k==NameKind.free)=true
  ·rw[Nj hk] at h;refine lJ r _ hr (λd hd=>?_) h;have hk':k=.free:=by simpa using hk
   obtain⟨c',hc⟩:=hy (n,k) Nm hk';rw[Om] at hd;cases hx:x==n with
   | true=>
    rw[hx] at hd;have e:x=n:=by simpa using hx
    rw[e,hc];rw[hc] at hd;exact hd
   | false=>
    rw[hx] at hd;exact ha d hd
  ·rw[Np hk] at h;exact lJ r _ hr ha h
theorem o8:∀(names:List (Str×NameKind)) (acc:List (Str×Addr)),(∃c,acc.lookup x=some c)->∃c,(iT env names acc).lookup x=some c
 | [],_,h=>h
 |(n,k)::r,acc,h=>by
  unfold iT
  by_cases hk:(k==NameKind.free)=true
  ·rw[Nj hk];refine o8 r _ ?_;rw[Om];cases hx:x==n with
   | true=>exact⟨_,rfl⟩
   | false=>exact h
  ·rw[Np hk];exact o8 r _ h
theorem kz:∀(names:List (Str×NameKind)) (acc:List (Str×Addr)),(x,NameKind.free)∈names->∃c,(iT env names acc).lookup x=some c
 | [],_,h=>by cases h
 |(n,k)::r,acc,h=>by
  unfold iT;rcases NA.mp h with e | h'
  ·injection e with e1 e2
   subst e1 e2;rw[Nj (by rfl)];refine o8 r _ ⟨(env.cells.lookup x).getD 0,?_⟩;rw[Om,Ph]
  ·by_cases hk:(k==NameKind.free)=true
   ·rw[Nj hk];exact kz r _ h'
   ·rw[Np hk];exact kz r _ h'
theorem gf{env:Env}:∀{names:List (Str×NameKind)} {x:Str} {j:NameKind},
  (names.map λ(n,k)=>if(k==NameKind.free&&env.scope.kind==.function&&env.kindOf n==some .cell) then(n,NameKind.cell) else(n,k)).lookup x=some j->
  ∃k,names.lookup x=some k/\(j=k\/(k=.free/\j=.cell))
 | [],_,_,h=>by simp at h
 |(n,k)::r,x,j,h=>by
  have h':List.lookup x ((if(k==NameKind.free&&env.scope.kind==.function&&env.kindOf n==some .cell)=true then(n,NameKind.cell) else(n,k))::_)=some j:=h;rw[Om];cases hx:x==n with
  | true=>
   refine⟨k,rfl,?_⟩
   by_cases hc:(k==NameKind.free&&env.scope.kind==.function&&env.kindOf n==some .cell)=true
   ·rw[Nj hc,Om,hx] at h';simp only[Nn,OV] at hc;exact .inr ⟨hc.1.1,(Option.some.inj h').symm⟩
   ·rw[Np hc,Om,hx] at h';exact .inl (Option.some.inj h').symm
  | false=>
   by_cases hc:(k==NameKind.free&&env.scope.kind==.function&&env.kindOf n==some .cell)=true
   ·rw[Nj hc,Om,hx] at h';exact gf h'
   ·rw[Np hc,Om,hx] at h';exact gf h'
theorem gg{env:Env}:∀{names:List (Str×NameKind)} {x:Str},names.lookup x=some .free->
  (names.map λ(n,k)=>if(k==NameKind.free&&env.scope.kind==.function&&env.kindOf n==some .cell) then(n,NameKind.cell) else(n,k)).lookup x=some .cell\/
  (names.map λ(n,k)=>if(k==NameKind.free&&env.scope.kind==.function&&env.kindOf n==some .cell) then(n,NameKind.cell) else(n,k)).lookup x=some .free
 | [],_,h=>by simp at h
 |(n,k)::r,x,h=>by
  rw[Ny];show List.lookup x ((if(k==NameKind.free&&env.scope.kind==.function&&env.kindOf n==some .cell)=true then(n,NameKind.cell) else(n,k))::_)=_\/List.lookup x ((if(k==NameKind.free&&env.scope.kind==.function&&env.kindOf n==some .cell)=true then(n,NameKind.cell) else(n,k))::_)=_;rw[Om] at h;cases hx:x==n with
  | true=>
   rw[hx] at h;have hk:k=.free:=Option.some.inj h
   by_cases hc:(k==NameKind.free&&env.scope.kind==.function&&env.kindOf n==some .cell)=true
   ·rw[Nj hc,Om,hx];exact .inl rfl
   ·rw[Np hc,Om,hx,hk];exact .inr rfl
  | false=>
   rw[hx] at h
   by_cases hc:(k==NameKind.free&&env.scope.kind==.function&&env.kindOf n==some .cell)=true
   ·rw[Nj hc,Om,hx];exact gg h
   ·rw[Np hc,Om,hx];exact gg h
abbrev p8(X:Cx)(N':List Str)(scope:Scope)(C:Addr)(s₃:Shared)(H₃:Hp)(fp:List Addr)(pl:List (Addr×Obj)):Cx:=
 {X with N:=N',s₀:=s₃,H₀:=H₃,env:=compEnvC scope (iT X.env scope.names []) C X.env,outer:=X.stack,ex:=fp,fn:=λ_=>false,calm:=true,pn:=X.pn++pl,xe:=λ_ _=>False}
structure bD(X:Cx)(N':List Str)(caps:List (Option Nat))(scope:Scope):Prop where
 kind:scope.kind=.function
 Bq:∀y∈scope.names,y.2≠.cell
 names:∀y∈scope.names,y.2=.local->scope.names.lookup y.1=some .local
 Co:∀y∈scope.names,y.2=.free->X.env.kindOf y.1=some .cell\/X.env.kindOf y.1=some .free
 len:caps.length=N'.length
 M6:∀(j i:Nat)(x:Str),caps[j]?=some (some i)->N'[j]?=some x->X.N[i]?=some x/\scope.names.lookup x=some .free
 nd:N'.Nodup
noncomputable def vn(caps:List (Option Nat))(σ:St):St:=caps.map λo=>o.bind λi=>(σ[i]?).join
theorem bD.has(S:bD X N' caps scope)(ok:X.Ok):∀y∈scope.names,y.2=.free->∃c,X.env.cells.lookup y.1=some c:=λy hy e=>ok.has y.1 (S.Co y hy e)
theorem bD.look(S:bD X N' caps scope)(ok:X.Ok)(h:(iT X.env scope.names []).lookup x=some c):X.env.cells.lookup x=some c:=
 lJ scope.names [] (S.has ok) (λ_ z=>by simp at z) h
theorem Inv.block(S:bD X N' caps scope)(I:Inv X pins σ H s₃)(hc:X.calm=true)(hf:∀b∈fp,gC X pins H b)(hlt:∀b∈fp,b < s₃.heap.objs.size){h₄:Heap}{t₄:Nat}{m₄:Str->Option Value}
  (hn:h₄.Ns s₃.heap.objs.size m₄) (hk:∀b o,s₃.heap.get? b=some o->h₄.get? b=some o):
  Inv (p8 X N' scope s₃.heap.objs.size s₃ H fp pins) [] (vn caps σ) H {s₃ with heap:=h₄,toks:=t₄}:=by
 have ok:=I.ok;have fresh:∀b o,s₃.heap.get? b=some o->b≠s₃.heap.objs.size:=λb o e=>NB (Nt e);have cellOk:∀x c,(iT X.env scope.names []).lookup x=some c->∃v,s₃.heap.IsCell c v:=λx c e=>I.cell x c (S.look ok e);refine⟨⟨ok.mod,?_,ok.glob,ok.blt,Nh _,?_,?_,?_,λ_=>ok.hd hc,ok.frames,.inl rfl,?_,I.bs,?_,?_,?_,I.stack,I.xv⟩,rfl,I.bare,Un.kept hk,?_,?_,I.aV.fresh (Nh _),?_,?_,I.aV.kept hk,?_⟩
 ·show(relabel scope X.env).kind=.function;exact S.kind
 ·intro x y c h1 h2;exact ok.inj x y c (S.look ok h1) (S.look ok h2)
 ·intro x hx;have hx':(relabel scope X.env).names.lookup x=some .cell\/(relabel scope X.env).names.lookup x=some .free:=hx;have key:∀j,(relabel scope X.env).names.lookup x=some j->j=.cell\/j=.free->∃c,(iT X.env scope.names []).lookup x=some c:=by
   intro j hj hjk;obtain⟨k,hk1,hk2⟩:=gf hj;have hm:=OZ hk1;have hkf:k=.free:=by
    rcases hk2 with rfl |⟨e,_⟩
    ·rcases hjk with rfl | e
     ·exact absurd rfl (S.Bq _ hm)
     ·exact e
    ·exact e
   subst hkf;exact kz scope.names [] hm
  rcases hx' with h | h
  ·exact key _ h (.inl rfl)
  ·exact key _ h (.inr rfl)
 ·intro x c h _;exact absurd (show false=true from h) (by decide)
 ·intro b hb;refine⟨NB (hlt b hb),λx c h=>(hf b hb).2.2.2.2.1 x c (S.look ok h)⟩
 ·exact Nr ok.Fi I.sz
 ·intro b o e hb;rcases(hf b hb).2.2.2.1 with z | z
  ·exact ok.Bp b o e z
  ·exact absurd (Nq (Nt e) ok.Fi) (Qe.mpr z)
 ·intro b hb z;rcases NA.mp (I.nD b z) with e | e
  ·exact(hf b hb).2.1 e
  ·exact(hf b hb).2.2.1 e
 ·refine⟨m₄,hn,λj x v e1 e2 e3=>?_⟩;have e2':(caps.map λo=>o.bind λi=>(σ[i]?).join)[j]?=some (some v):=e2;rw[Nz] at e2';cases hcj:caps[j]? with
  | none=>rw[hcj] at e2';cases e2'
  | some oi=>
   rw[hcj] at e2';have e2'':(oi.bind λi=>(σ[i]?).join)=some v:=Option.some.inj e2';cases oi with
   | none=>cases e2''
   | some i=>
    have hσ:(σ[i]?).join=some v:=e2'';have hσ':σ[i]?=some (some v):=by
     cases hs:σ[i]? with
     | none=>rw[hs] at hσ;cases hσ
     | some w=>rw[hs] at hσ;rw[show w=some v from hσ]
    obtain⟨hX,hfr⟩:=S.M6 j i x hcj e1;obtain⟨m,_,hl⟩:=I.loc;have hcgt:=S.Co _ (OZ hfr) rfl;have hvis:KJ X.env.scope x:=by
     rcases hcgt with z | z
     ·exact .inr (.inl z)
     ·exact .inr (.inr z)
    obtain⟨u,ru,lk⟩:=hl i x v hX hσ' hvis;refine⟨u,ru,.inr ⟨?_,?_⟩⟩
    ·exact gg hfr
    ·obtain⟨c,hcc⟩:=kz (env:=X.env) scope.names [] (OZ hfr);refine⟨c,hcc,?_⟩;rcases lk with⟨z,_⟩ |⟨_,c',hc',hcell⟩
     ·have z':X.env.kindOf x=some .local:=z;rcases hcgt with q | q
      ·rw[z'] at q;cases q
      ·rw[z'] at q;cases q
     ·have:=S.look I.ok hcc;rw[this] at hc';cases hc';obtain⟨o,ho,hd⟩:=hcell;exact⟨o,hk _ _ ho,hd⟩
 ·intro x c h;obtain⟨v,o,ho,hd⟩:=cellOk x c h;exact⟨v,o,hk _ _ ho,hd⟩
 ·intro x c h;exact I.ip x c (S.look ok h)
 ·intro p hp;have hp':p∈X.pn++pins:=by
   rcases NY.mp hp with z | z
   ·exact z
   ·cases z
  obtain⟨e,n,ne,nf,d⟩:=I.pin p hp';refine⟨hk _ _ e,n,fresh _ _ e,λz=>?_,d⟩;rcases NA.mp (I.nD p.1 z) with q | q
  ·exact ne q
  ·exact nf q
 ·show(caps.map _).length=N'.length;rw[Nc];exact S.len
theorem Inv.xq(S:bD X N' caps scope)(I:Inv X pins σ H s₃)(hf:∀b∈fp,gC X pins H b)(J:Inv (p8 X N' scope s₃.heap.objs.size s₃ H fp pins) [] τ H' s')(hs:∀b u,b≠s₃.heap.objs.size->s'.heap.get? b=some u->h''.get? b=some u):Inv X pins σ H' {s' with heap:=h''}:=by
 have hC:H' s₃.heap.objs.size=none:=J.free;have u:Un (zQ X.stack) fp H H' s₃.heap h'':=by
  have b:=J.base;have ne:∀x o,s₃.heap.get? x=some o->x≠s₃.heap.objs.size:=λx o e=>NB (Nt e);refine⟨λx o e n hx hb=>hs _ _ (ne x o e) (b.keep x o e n hx hb),λx o e n hx hb=>?_,b.free,λx o e hb=>?_,b.rE,b.pZ,b.rK⟩
  ·obtain⟨sl,q⟩:=b.slot x o e n hx hb;exact⟨sl,hs _ _ (ne x o e) q⟩
  ·obtain⟨o',q⟩:=b.there x o e hb;exact⟨o',hs _ _ (ne x o e) q⟩
 exact I.call' (s':={s' with heap:=h''}) (ch:=fp) J.os u (J.aV.off hC hs) J.bare λb hb=>⟨(hf b hb).2.2.2.1,(hf b hb).2.1,(hf b hb).2.2.2.2.1,(hf b hb).2.2.2.2.2⟩
def Iw(X:Cx)(ifs:List Expr)(t:TT):Prop:=
 ∀(pins:List (Addr×Obj)) (s:Shared) (σ:St) (H:Hp) (Q:Bool->Hp->Prop),Inv X pins σ H s->t σ H Q->
  wpAny (model X.prog X.w) X.A (forIn ifs true λc r=>if r=true then do let ok<-isTrue c X.env (eval c X.env);pure (ForInStep.yield ok) else pure (ForInStep.yield r)) (TP X pins σ Q) X.xe s
def ck:TT:=λ_ H Q=>Q true H
theorem DP:Iw X [] ck:=λpins s σ H Q I h=>wpAny_tests_nil ⟨H,I,h⟩
theorem DO(h:PT X c t):Iw X [c] t:=λpins s σ H Q I q=>wpAny_tests_one (h pins s σ H Q I q)
theorem MU(h:wpAny M A t Q (λ_ _=>False) s):wpAny M A t Q E s:=O5 h (λ_ _ q=>q) λ_ _ f=>f.elim
def K6(_ j:Int):Prop:=0 < j/\j<=10^40
theorem log2_small(h:n<=10^40):n.log2 < 9000:=by
 by_cases h0:n=0
 ·rw[h0];decide
 ·refine(Nat.log2_lt h0).mpr (Od h ?_);exact Nq (show 10^40 < 2^200 by decide) (Qx (by decide) (by decide))
theorem Bg:kR X (binaryOp .FloorDiv) (rI K6 λi j=>.int (i / j)):=Ld λi j _ _ _ _ _ hc q=>by
 have h1:(0:Int) < j:=hc.1;have h2:j<=10^40:=hc.2;exact floordiv_int (by lia) (by rw[Int.fdiv_eq_ediv_of_nonneg i (by lia)];exact q) (.inl (PyProof.noPylong_of_log2 (log2_small (by lia))))
mutual
inductive zJ(K:FR)(H:Hp):V->PyData->Prop where
 | bx:zJ K H .bx .none
 | bl (b:Bool):zJ K H (.bl b) (.bool b)
 | int (i:Int):zJ K H (.int i) (.int i)
 | str (x:Str):zJ K H (.str x) (.str x)
 | tup {a:Addr} {xs:List V} {ds:List PyData}:je K H a xs->pJ K H xs ds->zJ K H (.ref a) (.tuple ds)
 | lst {a:Addr} {xs:List V} {ds:List PyData}:eW K H a xs->pJ K H xs ds->zJ K H (.ref a) (.list ds)
inductive pJ(K:FR)(H:Hp):List V->List PyData->Prop where
 | nil:pJ K H [] []
 | cons {x:V} {xs:List V} {d:PyData} {ds:List PyData}:zJ K H x d->pJ K H xs ds->pJ K H (x::xs) (d::ds)
end
mutual
theorem zJ.reads(I:Inv X pins σ H s){x:V}{u:Value}{d:PyData}(z:zJ X.K H x d)(r:RelV x u):∃as,Reads s.heap u d as:=by
 cases z with
 | bx=>cases(show _=Value.none from r);exact⟨_,.none⟩
 | bl b=>cases(show _=Value.bool b from r);exact⟨_,.bool b⟩
 | int i=>obtain⟨t,e⟩:=(show ∃t,_=Value.int i t from r);cases e;exact⟨_,.int i t⟩
 | str x=>obtain⟨t,e⟩:=(show ∃t,_=Value.str x t from r);cases e;exact⟨_,.str x t⟩
 | tup hq hl=>
  cases(show _=Value.ref _ from r);obtain⟨its,rv,⟨o,h1,h2,n,h3⟩,_⟩:=I.tuple hq;obtain⟨as,q⟩:=pJ.reads I hl rv;exact⟨_,.tuple h1 h2 h3 (by simpa using q)⟩
 | lst hq hl=>
  cases(show _=Value.ref _ from r);obtain⟨its,rv,pl,_⟩:=I.list hq;obtain⟨o,h1,h2,n,h3⟩:=pl.isList;obtain⟨as,q⟩:=pJ.reads I hl rv;exact⟨_,.list h1 h2 h3 (by simpa using q)⟩
theorem pJ.reads(I:Inv X pins σ H s){xs:List V}{us:List Value}{ds:List PyData}(z:pJ X.K H xs ds)(v:Vals xs us):∃as,ReadsAll s.heap us ds as:=by
 cases z with
 | nil=>cases v;exact⟨_,.nil⟩
 | cons h t=>
  cases v with
  | cons r q=>
   obtain⟨as,p⟩:=zJ.reads I h r;obtain⟨bs,p'⟩:=pJ.reads I t q;exact⟨_,.cons p p'⟩
end
def LU:V->Option Int->Option Int->Hp->VK->Prop:=λx lo hi H Q=>∃z,x=.str z/\z.length<=sizeLine/\Q (.str (Txt.slice z lo hi)) H
theorem FY:Ip X LU:=by
 intro pins s σ H x v vl vu lo hi sl Q I rx hs pl pu h;obtain⟨z,rfl,hz,q⟩:=h;obtain⟨t,rfl⟩:=(show ∃t,v=Value.str z t from rx);refine⟨"str",_,F.slot_str_getitem.lookup,typeIs_str _ _ _,?_⟩;obtain⟨o,h1,h2,h3⟩:=hs;have fin:(Txt.slice z lo hi).length<=sizeLine/\∀t' k,EP X pins σ Q (.str (Txt.slice z lo hi) t') {s with toks:=k}:=⟨Nr (Txt.slice_le z _ _) hz,λt' k=>⟨.str _,H,I.tok k,⟨t',rfl⟩,q⟩⟩;cases pl with
 | none=>
  cases pu with
  | none=>exact Qt (l:=none) (u:=none) (st:=none) ⟨o,h1,h2,h3⟩ rfl (Ro fin)
  | int j uj=>exact Qt (l:=none) (u:=some (j,uj)) (st:=none) ⟨o,h1,h2,h3⟩ rfl (Ro fin)
 | int i ui=>
  cases pu with
  | none=>exact Qt (l:=some (i,ui)) (u:=none) (st:=none) ⟨o,h1,h2,h3⟩ rfl (Ro fin)
  | int j uj=>exact Qt (l:=some (i,ui)) (u:=some (j,uj)) (st:=none) ⟨o,h1,h2,h3⟩ rfl (Ro fin)
theorem Cr:dw X (.builtin "isinstance") (λxs H Q=>∃x n t b,xs=[x,.ty n]/\kH X.K H x t/\PySem.W.kitOne X.K t (.type n)=some b/\Q (.bl b) H):=by
 intro pins s σ H xs us Q I r h;obtain⟨x,n,t,b,rfl,ty,e,q⟩:=h;obtain⟨u,w',rfl,ru,rw'⟩:=vals2 r;cases(show w'=Value.type n from rw');exact ze I ru ty e λtk=>⟨.bl b,H,I.tok tk,rfl,q⟩
noncomputable def uK(out:List (Str×NameKind))(N N':List Str)(caps:List (Option Nat))(scope:Scope):Bool:=
 decide (scope.kind=.function)&&scope.names.all (λy=>decide (y.2≠.cell))&&scope.names.all (λy=>!decide (y.2=.local)||decide (scope.names.lookup y.1=some .local))&&
 scope.names.all (λy=>!decide (y.2=.free)||decide (out.lookup y.1=some .cell)||decide (out.lookup y.1=some .free))&&decide (caps.length=N'.length)&&
 (List.range caps.length).all (λj=>match caps[j]?,N'[j]? with
  | some (some i),some x=>decide (N[i]?=some x)&&decide (scope.names.lookup x=some .free)
  | _,_=>true)&&decide N'.Nodup
theorem aU(h:uK X.env.scope.names X.N N' caps scope=true):bD X N' caps scope:=by
 unfold uK at h;simp only[Nn,Oa,NS,OM,P2,Sg] at h;obtain⟨⟨⟨⟨⟨⟨h1,h2⟩,h3⟩,h4⟩,h5⟩,h6⟩,h7⟩:=h;refine⟨h1,h2,λy hy e=>?_,λy hy e=>?_,h5,λj i x hj hx=>?_,h7⟩
 ·rcases h3 y hy with z | z
  ·exact absurd e z
  ·exact z
 ·rcases h4 y hy with(z | z) | z
  ·exact absurd e z
  ·exact .inl z
  ·exact .inr z
 ·have hlt:j < caps.length:=(Ng.mp hj).1;have:=h6 j (NR.mpr hlt);rw[hj,hx] at this;simp only[Nn,Oa] at this;exact this
end L2
namespace L2
end L2
namespace L2
open PySem PySem.Spec PyProof.Rows
theorem iD:PyData.strOk x=true↔∀c∈x.cps,c < 0x110000:=by
 unfold PyData.strOk;rw[Array.all_eq_true_iff_forall_mem];simp
theorem yD(ha:PyData.strOk a=true)(hb:PyData.strOk b=true):PyData.strOk (a++b)=true:=by
 rw[iD] at*;intro c hc;have hc':c∈a.cps++b.cps:=hc;rcases Array.mem_append.mp hc' with z | z
 ·exact ha c z
 ·exact hb c z
theorem tZ(l u:Option Int)(h:PyData.strOk x=true):PyData.strOk (Txt.slice x l u)=true:=by
 unfold Txt.slice
 split
 ·exact h
 ·rw[iD] at*;intro c hc;have hc':c∈(List.filterMap (x.cps[·]?) (Builtin.Str.strSliceIndices l u 1 x.length)).toArray:=hc;rw[List.mem_toArray] at hc';obtain⟨i,_,e⟩:=Qg.mp hc';exact h c (Rf e)
theorem yC(h:PyData.strOk z=true)(hc:gR z.cps.toList i=some c):PyData.strOk (⟨#[c]⟩:Str)=true:=by
 rw[iD] at*;intro d hd;have e:d=c:=by simpa using hd
 subst e;obtain⟨j,_,hj,_⟩:=ni hc;exact h d (by have:=Ni hj;simpa using this)
theorem entry_all_loop:entryFor table "all.loop"=some Builtin.«all.loop»:=entryFor_of_tree (by ac_nf)
theorem plain_all_loop:plainId "all.loop"=true:=by decide+kernel
theorem CH{A:Around}{pins:List (Addr×Obj)}{σ:St}{H:Hp}{p it:Addr}{bs:List Bool}{R:Result->Shared->Prop}(hA:A.handled=none)(hp:eW X.K H p (bs.map V.bl))
  (hit:it≠X.env.locals/\(it∈X.ex\/X.s₀.heap.objs.size<=it)/\(∀x c,X.env.cells.lookup x=some c->c≠it)/\∀q∈X.pn++pins,q.1≠it) (hin:H it=none)
  (h:∀s',Inv X pins σ H s'->R (.ok (.ret (.bool (bs.all id)))) s'):∀(n i:Nat)(s:Shared),bs.length-i=n->i<=bs.length->(bs.take i).all id=true->s.heap.IsListIter it p i->Inv X pins σ H s->
   codeAny (model X.prog X.w) A (.builtin "all.loop" ⟨[.ref it],[]⟩) R s:=by
 intro n
 induction n with
 | zero=>
  intro i s hn hi ht st I;have ei:i=bs.length:=by lia
  refine OS entry_all_loop ?_;rw[OE plain_all_loop _];obtain⟨its,rv,pl,hz⟩:=I.list hp;have hl':=rv.length;rw[Nc] at hl';show wpAny _ _ (pyNext (.ref it) >>=_) _ _ s;refine Nb (wpAny_pyNext_list_end hA st pl.isList (by simp;lia) λh' eb=>?_);have I':=I.turned (t':=s.toks) (h':=h') (it:=it) (λb o hb e=>eb b o hb e) hin hit.1 hit.2.1 hit.2.2.1 hit.2.2.2;refine Nb (Pr (Nf ?_));rw[ei,O1] at ht;have:=h _ I';rw[ht] at this;exact this
 | succ n ih=>
  intro i s hn hi ht st I;have hi':i < bs.length:=by lia
  refine OS entry_all_loop ?_;rw[OE plain_all_loop _];obtain⟨its,rv,pl,hz⟩:=I.list hp;have hyi:(bs.map V.bl)[i]?=some (.bl bs[i]):=by rw[Nz,Nk hi'];rfl
  obtain⟨u,hu,ru⟩:=rv.get hyi;cases(show u=Value.bool bs[i] from ru);show wpAny _ _ (pyNext (.ref it) >>=_) _ _ s;refine Nb (wpAny_pyNext_list_item st pl.isList (x:=.bool bs[i]) (by simpa using hu) λh' st' sb=>?_);have I':=I.turned (t':=s.toks) (h':=h') (it:=it) (λb o hb e=>(sb.2 b hb).trans e) hin hit.1 hit.2.1 hit.2.2.1 hit.2.2.2;dsimp only;refine Nb (OG (Pz ?_));refine Nb (Rx ?_)
  by_cases hb:bs[i]=true
  ·rw[Nj hb];refine Nf ⟨Qn plain_all_loop _,ih (i+1) _ (by lia) hi' ?_ st' I'⟩;rw[List.take_succ,Nk hi',List.all_append,ht,hb];rfl
  ·rw[Np hb];refine Nb (Pr (Nf ?_));have:=h _ I';have e:bs.all id=false:=by
    rw[List.all_eq_false];exact⟨bs[i],PC hi',by simpa using hb⟩
   rw[e] at this;exact this
theorem Cs(hc:X.calm=true):dw X (.builtin "all") (λxs H Q=>∃(p:Addr)(bs:List Bool),xs=[.ref p]/\eW X.K H p (bs.map V.bl)/\Q (.bl (bs.all id)) H):=by
 intro pins s σ H xs us Q I r h;obtain⟨p,bs,rfl,hp,q⟩:=h;obtain⟨u,rfl,ru⟩:=vals1 r;cases(show u=Value.ref p from ru);have hA:X.A.handled=none:=I.ok.hd hc;obtain⟨its,rv,pl,hz⟩:=I.list hp;refine call_function_tree F.kind_all F.plain_all F.entry_all (F.args_all1 _) ?_;unfold Builtin.«all»;show wpAny _ _ (pyIter (.ref p) >>=_) _ _ s;refine Nb (Q6 pl.isList ?_);have I3:Inv X pins σ H {s with heap:=s.heap.push {cls:=.type "list_iterator",data:=.fields #[.ref p,.int 0 0]}}:=I.kept (t':=s.toks) λb o e=>Nd _ e;obtain⟨f0,f1,f2,f3,f4,f5⟩:=I.wN (b:=s.heap.objs.size) (H':=H) (Nh _) (I.aV.fresh (Nh _));refine Nf ⟨Qn plain_all_loop _,?_⟩;exact CH (X:=X) (σ:=σ) (H:=H) (by exact hA) hp ⟨f1,f3,f4,f5⟩ f0 (λs' I'=>⟨.bl _,H,I',rfl,q⟩) bs.length 0 _ (by simp) (Oo _) rfl ⟨_,Nu _ rfl,rfl,rfl⟩ I3
end L2
namespace L2
open PySem PySem.Spec PyProof.Rows PySem.SeqAt
noncomputable def aG:Nat->PyData->Bool
 | _,.int _=>true
 | _,.str x=>PyData.strOk x
 | n+1,.tuple xs=>xs.all (aG n)
 | _,_=>false
noncomputable def cf(w:World):Nat->PyData->Int
 | _,.int i=>Hk w (.inl i)
 | _,.str x=>Hk w (.inr x)
 | n+1,.tuple xs=>reduceHash (Builtin.Tuple.tupleHashOf (xs.map (cf w n)))
 | _,_=>0
def Mx(a:Addr)(us:List (Addr×V))(ps:List PyData):World->Heap->Prop:=λw h=>us.length<=sizeLine/\(a==sysModules)=false/\ps.all (aG 8)=true/\ps.Nodup/\
 ∃ys:List (PyData×Addr×Value),Paired (λ(u:Addr×V)(y:PyData×Addr×Value)=>u.1=y.2.1/\RelV u.2 y.2.2) us ys/\ys.map (·.1)=ps/\
 ∃o es ep,h.get? a=some o/\o.ExactDict/\o.data=.dict es ep/\es.toList=ys.map λy=>⟨cf w 8 y.1,.ref y.2.1,y.2.2⟩
end L2
namespace Sm
open PySem L2
inductive D where
 | bx | bl (b:Bool) | int (i:Int) | str (x:Str) | ty (n:String)
 | tup (xs:List D) | lv (xs:List D) | ro (xs:List D) | dv (kvs:List (Key×D)) | ob (n:Nat)
inductive MO where
 | lst (xs:List D) | dct (kvs:List (Key×D)) | dcH (kvs:List (D×D))
abbrev MH:=List MO
mutual
noncomputable def iG:D->Option PyData
 | .bx=>some .none
 | .bl b=>some (.bool b)
 | .int i=>some (.int i)
 | .str x=>some (.str x)
 | .tup xs=>(gL xs).map .tuple
 | .lv xs=>(gL xs).map .list
 | .ro xs=>(gL xs).map .list
 | _=>none
noncomputable def gL:List D->Option (List PyData)
 | []=>some []
 | x::r=>(iG x).bind λa=>(gL r).map λb=>a::b
end
abbrev DS:=List (Option D)
abbrev MD:Hp:=λ_=>none
structure Ad where
 ob:List Addr
 rs:List Addr
def Ad.has(ρ:Ad)(a:Addr):Prop:=a∈ρ.ob\/a∈ρ.rs
def TupAt(K:FR)(ρ:Ad)(H:Hp)(a:Addr)(vs:List V):Prop:=(Rd H a (.tup vs)/\¬ρ.has a)\/je K MD a vs
def Ir(K:FR)(ρ:Ad)(H:Hp)(a:Addr)(vs:List V):Prop:=(Rd H a (.lst vs)/\¬ρ.has a)\/eW K MD a vs
mutual
inductive Rep(K:FR)(ρ:Ad)(H:Hp):V->D->Prop where
 | bx:Rep K ρ H .bx .bx
 | bl (b:Bool):Rep K ρ H (.bl b) (.bl b)
 | int (i:Int):Rep K ρ H (.int i) (.int i)
 | str {x:Str} (h:PyData.strOk x=true):Rep K ρ H (.str x) (.str x)
 | ty (n:String):Rep K ρ H (.ty n) (.ty n)
 | tup {a:Addr} {vs:List V} {ds:List D}:TupAt K ρ H a vs->ar K ρ H vs ds->Rep K ρ H (.ref a) (.tup ds)
 | lv {a:Addr} {vs:List V} {ds:List D}:H a=some (.lst vs)->¬ρ.has a->ar K ρ H vs ds->Rep K ρ H (.ref a) (.lv ds)
 | ro {a:Addr} {vs:List V} {ds:List D}:Ir K ρ H a vs->ar K ρ H vs ds->Rep K ρ H (.ref a) (.ro ds)
 | dv {a:Addr} {us:List (Key×V)} {kvs:List (Key×D)}:H a=some (.dK us)->¬ρ.has a->ba K ρ H us kvs->Rep K ρ H (.ref a) (.dv kvs)
 | ob {a:Addr} {n:Nat}:ρ.ob[n]?=some a->Rep K ρ H (.ref a) (.ob n)
inductive ar(K:FR)(ρ:Ad)(H:Hp):List V->List D->Prop where
 | nil:ar K ρ H [] []
 | cons {v:V} {vs:List V} {d:D} {ds:List D}:Rep K ρ H v d->ar K ρ H vs ds->ar K ρ H (v::vs) (d::ds)
inductive ba(K:FR)(ρ:Ad)(H:Hp):List (Key×V)->List (Key×D)->Prop where
 | nil:ba K ρ H [] []
 | cons {k:Key} {v:V} {vs:List (Key×V)} {d:D} {ds:List (Key×D)}:Rep K ρ H v d->ba K ρ H vs ds->ba K ρ H ((k,v)::vs) ((k,d)::ds)
end
structure Ch(ρ:Ad)(H:Hp)(ρ':Ad)(H':Hp):Prop where
 pre:∀(n:Nat) a,ρ.ob[n]?=some a->ρ'.ob[n]?=some a
 old:∀b o,¬ρ.has b->H b=some o->¬ρ'.has b/\H' b=some o
theorem Ch.refl(ρ:Ad)(H:Hp):Ch ρ H ρ H:=⟨λ_ _ e=>e,λ_ _ n e=>⟨n,e⟩⟩
theorem Ch.trans(a:Ch ρ H ρ1 H1)(b:Ch ρ1 H1 ρ2 H2):Ch ρ H ρ2 H2:=
 ⟨λn x e=>b.pre n x (a.pre n x e),λx o n e=>let⟨n',e'⟩:=a.old x o n e;b.old x o n' e'⟩
structure cF(ρ:Ad)(H:Hp)(ρ':Ad)(H':Hp):Prop extends Ch ρ H ρ' H' where
 rs:ρ'.rs=ρ.rs
 res:∀b∈ρ.rs,H' b=H b
theorem cF.refl(ρ:Ad)(H:Hp):cF ρ H ρ H:=⟨.refl _ _,rfl,λ_ _=>rfl⟩
theorem cF.trans(a:cF ρ H ρ1 H1)(b:cF ρ1 H1 ρ2 H2):cF ρ H ρ2 H2:=
 ⟨a.toCh.trans b.toCh,b.rs.trans a.rs,λx hx=>(b.res x (by rw[a.rs];exact hx)).trans (a.res x hx)⟩
instance {ρ ρ':Ad} {H H':Hp}:CoeOut (cF ρ H ρ' H') (Ch ρ H ρ' H'):=⟨cF.toCh⟩
theorem Ch.rd(S:Ch ρ H ρ' H')(h:Rd H a u)(n:¬ρ.has a):Rd H' a u/\¬ρ'.has a:=by
 rcases h with h |⟨o,h⟩
 ·obtain⟨q,e⟩:=S.old a _ n h;exact⟨.inl e,q⟩
 ·obtain⟨q,e⟩:=S.old a _ n h;exact⟨.inr ⟨o,e⟩,q⟩
mutual
theorem Rep.mono(S:Ch ρ H ρ' H'){v:V}{d:D}(r:Rep K ρ H v d):Rep K ρ' H' v d:=by
 cases r with
 | bx=>exact .bx
 | bl b=>exact .bl b
 | int i=>exact .int i
 | str x=>exact .str x
 | ty n=>exact .ty n
 | tup h l=>exact .tup (h.elim (λ⟨a,n⟩=>.inl (S.rd a n)) .inr) (ar.mono S l)
 | lv h n l=>have ⟨n',h'⟩:=S.old _ _ n h;exact .lv h' n' (ar.mono S l)
 | ro h l=>exact .ro (h.elim (λ⟨a,n⟩=>.inl (S.rd a n)) .inr) (ar.mono S l)
 | dv h n l=>have ⟨n',h'⟩:=S.old _ _ n h;exact .dv h' n' (ba.mono S l)
 | ob e=>exact .ob (S.pre _ _ e)
theorem ar.mono(S:Ch ρ H ρ' H'){vs:List V}{ds:List D}(r:ar K ρ H vs ds):ar K ρ' H' vs ds:=by
 cases r with
 | nil=>exact .nil
 | cons h t=>exact .cons (Rep.mono S h) (ar.mono S t)
theorem ba.mono(S:Ch ρ H ρ' H'){vs:List (Key×V)}{ds:List (Key×D)}(r:ba K ρ H vs ds):ba K ρ' H' vs ds:=by
 cases r with
 | nil=>exact .nil
 | cons h t=>exact .cons (Rep.mono S h) (ba.mono S t)
end
theorem ar.length:∀{vs:List V} {ds:List D},ar K ρ H vs ds->vs.length=ds.length:=by
 intro vs
 induction vs with
 | nil=>intro ds a;cases a;rfl
 | cons v vs ih=>intro ds a;cases a with | cons _ t=>rw[NQ,NQ,ih t]
theorem ar.got:∀{vs:List V} {ds:List D} {i:Nat} {d:D},ar K ρ H vs ds->ds[i]?=some d->∃v,vs[i]?=some v/\Rep K ρ H v d
 | _,_,_,_,.nil,e=>by simp at e
 | _,_,0,_,.cons r _,e=>by simp at e;subst e;exact⟨_,rfl,r⟩
 | _,_,i+1,d,.cons _ t,e=>by
  obtain⟨u,h1,h2⟩:=ar.got (i:=i) (d:=d) t (by simpa using e);exact⟨u,by simpa using h1,h2⟩
theorem ar.append:∀{vs ws:List V} {ds es:List D},ar K ρ H vs ds->ar K ρ H ws es->ar K ρ H (vs++ws) (ds++es):=by
 intro vs ws
 induction vs with
 | nil=>intro ds es a s;cases a;exact s
 | cons v vs ih=>intro ds es a s;cases a with | cons r t=>exact .cons r (ih t s)
theorem ar.take:∀{vs:List V} {ds:List D} (n:Nat),ar K ρ H vs ds->ar K ρ H (vs.take n) (ds.take n)
 | _,_,0,_=>.nil
 | _,_,_+1,.nil=>.nil
 | _,_,n+1,.cons r t=>.cons r (ar.take n t)
theorem ar.drop:∀{vs:List V} {ds:List D} (n:Nat),ar K ρ H vs ds->ar K ρ H (vs.drop n) (ds.drop n)
 | _,_,0,r=>r
 | _,_,_+1,.nil=>.nil
 | _,_,n+1,.cons _ t=>ar.drop n t
theorem ar.set(r:Rep K ρ H v d):∀{vs:List V} {ds:List D} (i:Nat),ar K ρ H vs ds->ar K ρ H (vs.set i v) (ds.set i d)
 | _,_,_,.nil=>.nil
 | _,_,0,.cons _ t=>.cons r t
 | _,_,i+1,.cons q t=>.cons q (ar.set r i t)
theorem ar.snoc(t:ar K ρ H vs ds)(r:Rep K ρ H v d):ar K ρ H (vs++[v]) (ds++[d]):=t.append (.cons r .nil)
theorem ar.isEmpty(t:ar K ρ H vs ds):vs.isEmpty=ds.isEmpty:=by cases t <;> rfl
theorem TupAt.sq(h:TupAt K ρ H a vs):je K H a vs:=by
 rcases h with⟨h,_⟩ | h
 ·exact .inl h
 ·rcases h with(h |⟨o,h⟩) | h
  ·cases h
  ·cases h
  ·exact .inr h
theorem Ir.sq(h:Ir K ρ H a vs):eW K H a vs:=by
 rcases h with⟨h,_⟩ | h
 ·exact .inl h
 ·rcases h with(h |⟨o,h⟩) | h
  ·cases h
  ·cases h
  ·exact .inr h
def yq(K:FR)(ρ:Ad)(H:Hp)(a:Addr):MO->Prop
 | .lst ds=>∃vs,H a=some (.lst vs)/\ar K ρ H vs ds
 | .dct kvs=>∃us,H a=some (.dK us)/\ba K ρ H us kvs
 | .dcH kvs=>∃us ps,H a=some (.IF (Mx a us ps))/\ar K ρ H (us.map λu=>V.ref u.1) (kvs.map (·.1))/\ar K ρ H (us.map (·.2)) (kvs.map (·.2))/\gL (kvs.map (·.1))=some ps
structure bz(K:FR)(ρ:Ad)(h:MH)(H:Hp):Prop where
 len:ρ.ob.length=h.length
 nd:ρ.ob.Nodup
 at_:∀(n:Nat) a o,ρ.ob[n]?=some a->h[n]?=some o->yq K ρ H a o
 se:∀b∈ρ.rs,(∃o,H b=some o)/\b∉ρ.ob
theorem yq.has(x:yq K ρ H a o):∃u,H a=some u:=by
 cases o with
 | lst ds=>obtain⟨vs,e,_⟩:=x;exact⟨_,e⟩
 | dct ds=>obtain⟨vs,e,_⟩:=x;exact⟨_,e⟩
 | dcH ds=>obtain⟨vs,_,e,_⟩:=x;exact⟨_,e⟩
theorem yq.mono(x:yq K ρ H a o)(T:Ch ρ H ρ' H')(e:H' a=H a):yq K ρ' H' a o:=by
 cases o with
 | lst ds=>obtain⟨vs,x,r⟩:=x;exact⟨vs,e.trans x,r.mono T⟩
 | dct ds=>obtain⟨vs,x,r⟩:=x;exact⟨vs,e.trans x,r.mono T⟩
 | dcH ds=>obtain⟨us,ps,x,r,r2,p⟩:=x;exact⟨us,ps,e.trans x,r.mono T,r2.mono T,p⟩
theorem bz.mem(S:bz K ρ h H)(ha:a∈ρ.ob):∃(n:Nat)(o:MO),ρ.ob[n]?=some a/\h[n]?=some o/\yq K ρ H a o:=by
 obtain⟨n,hn,e⟩:=List.mem_iff_getElem.mp ha;have hn':n < h.length:=by rw[<-S.len];exact hn
 have e1:ρ.ob[n]?=some a:=by rw[Nk hn,e]
 exact⟨n,h[n],e1,Nk hn',S.at_ n a _ e1 (Nk hn')⟩
theorem bz.has(S:bz K ρ h H)(ha:ρ.has a):∃u,H a=some u:=by
 rcases ha with ha | ha
 ·obtain⟨_,_,_,_,x⟩:=S.mem ha;exact x.has
 ·exact(S.se a ha).1
theorem bz.fresh(S:bz K ρ h H)(hp:H p=none):¬ρ.has p:=λm=>by
 obtain⟨u,e⟩:=S.has m;rw[hp] at e;cases e
theorem cF.laid(S:bz K ρ h H)(hp:H p=none):cF ρ H ρ (upd H p o):=
 ⟨⟨λ_ _ e=>e,λb u n e=>⟨n,by rw[aB (aN e hp)];exact e⟩⟩,rfl,λb hb=>by
  obtain⟨u,e⟩:=(S.se b hb).1;rw[aB (aN e hp)]⟩
theorem bz.same(S:bz K ρ h H)(T:cF ρ H ρ H')(k:∀a∈ρ.ob,H' a=H a):bz K ρ h H':=
 ⟨S.len,S.nd,λn a o e1 e2=>(S.at_ n a o e1 e2).mono T.toCh (k a (Ni e1)),λb hb=>⟨by rw[T.res b hb];exact(S.se b hb).1,(S.se b hb).2⟩⟩
theorem bz.laid(S:bz K ρ h H)(hp:H p=none):bz K ρ h (upd H p o):=
 S.same (cF.laid S hp) λa ha=>by
  obtain⟨u,e⟩:=S.has (.inl ha);rw[aB (aN e hp)]
abbrev Ad.more(ρ:Ad)(p:Addr):Ad:=⟨ρ.ob++[p],ρ.rs⟩
theorem cF.made(S:bz K ρ h H)(hp:H p=none):cF ρ H (ρ.more p) (upd H p o):=by
 refine⟨⟨λn a e=>?_,λb u n e=>?_⟩,rfl,(cF.laid S hp).res⟩
 ·show(ρ.ob++[p])[n]?=_;rw[Nv (Ng.mp e).1];exact e
 ·refine⟨λm=>?_,by rw[aB (aN e hp)];exact e⟩;rcases m with m | m
  ·rcases NY.mp m with m | m
   ·exact n (.inl m)
   ·exact aN e hp (Nw.mp m)
  ·exact n (.inr m)
theorem bz.made(S:bz K ρ h H)(hp:H p=none)(ho:yq K (ρ.more p) (upd H p u) p o):bz K (ρ.more p) (h++[o]) (upd H p u):=by
 refine⟨by simp[S.len],?_,λn a x e1 e2=>?_,λb hb=>?_⟩
 ·show(ρ.ob++[p]).Nodup;rw[P0];refine⟨S.nd,by simp,λa ha b hb z=>?_⟩;rw[Nw.mp hb] at z;exact S.fresh hp (.inl (z ▸ ha))
 ·by_cases hn:n < ρ.ob.length
  ·have e1:(ρ.ob++[p])[n]?=some a:=e1;rw[Nv hn] at e1;rw[Nv (by rw[<-S.len];exact hn)] at e2;have q:=S.at_ n a x e1 e2;obtain⟨w,ew⟩:=q.has;exact q.mono (cF.made S hp).toCh (aB (aN ew hp))
  ·have l1:=(Ng.mp e1).1;simp at l1;have hn':n=ρ.ob.length:=by lia
   subst hn';have e1:(ρ.ob++[p])[ρ.ob.length]?=some a:=e1;rw[NG (Nh _)] at e1;rw[NG (by rw[S.len];exact Nh _)] at e2;simp at e1;rw[S.len] at e2;simp at e2;subst e1;subst e2;exact ho
 ·obtain⟨⟨v,e⟩,n⟩:=S.se b hb;have z:=aN e hp;refine⟨⟨v,by rw[aB z];exact e⟩,λm=>?_⟩;rcases NY.mp m with m | m
  ·exact n m
  ·exact z (Nw.mp m)
theorem cF.wrote(S:bz K ρ h H)(ha:a∈ρ.ob):cF ρ H ρ (upd H a o):=
 ⟨⟨λ_ _ e=>e,λb u n e=>⟨n,by rw[aB (λ(z:b=a)=>n (.inl (by rw[z];exact ha)))];exact e⟩⟩,rfl,λb hb=>aB λ(z:b=a)=>(S.se b hb).2 (by rw[z];exact ha)⟩
theorem bz.wrote(S:bz K ρ h H)(e:ρ.ob[n]?=some a)(ho:yq K ρ (upd H a u) a o):bz K ρ (h.set n o) (upd H a u):=by
 have ha:=Ni e;have T:cF ρ H ρ (upd H a u):=cF.wrote S ha;refine⟨by rw[Pq];exact S.len,S.nd,λm b x e1 e2=>?_,λb hb=>⟨by rw[T.res b hb];exact(S.se b hb).1,(S.se b hb).2⟩⟩
 by_cases hm:n=m
 ·subst hm;have l2:n < h.length:=by rw[<-S.len];exact(Ng.mp e).1
  rw[e] at e1;cases e1;rw[Ov l2] at e2;cases e2;exact ho
 ·rw[Oq hm] at e2;have q:=S.at_ m b x e1 e2;have hb:b≠a:=by
   intro z;subst z;exact hm ((RD (Ng.mp e).1 S.nd).mp (e.trans e1.symm))
  exact q.mono T.toCh (aB hb)
abbrev Ad.keep(ρ:Ad)(l:Addr):Ad:=⟨ρ.ob,l::ρ.rs⟩
theorem Ch.keep(hl:H l=none):Ch ρ H (ρ.keep l) (upd H l o):=by
 refine⟨λn a e=>e,λb u n e=>⟨λm=>?_,by rw[aB (aN e hl)];exact e⟩⟩;rcases m with m | m
 ·exact n (.inl m)
 ·rcases NA.mp m with m | m
  ·exact aN e hl m
  ·exact n (.inr m)
theorem bz.keep(S:bz K ρ h H)(hl:H l=none):bz K (ρ.keep l) h (upd H l o):=by
 refine⟨S.len,S.nd,λn a x e1 e2=>?_,λb hb=>?_⟩
 ·have q:=S.at_ n a x e1 e2;obtain⟨w,ew⟩:=q.has;exact q.mono (Ch.keep hl) (aB (aN ew hl))
 ·rcases NA.mp hb with rfl | hb
  ·exact⟨⟨_,aT⟩,λm=>S.fresh hl (.inl m)⟩
  ·obtain⟨⟨v,e⟩,n⟩:=S.se b hb;exact⟨⟨v,by rw[aB (aN e hl)];exact e⟩,n⟩
theorem Ch.put(hl:l∈ρ.rs):Ch ρ H ρ (upd H l o):=⟨λn a e=>e,λb u n e=>⟨n,by rw[aB (λ(z:b=l)=>n (.inr (by rw[z];exact hl)))];exact e⟩⟩
theorem bz.put(S:bz K ρ h H)(hl:l∈ρ.rs):bz K ρ h (upd H l o):=by
 refine⟨S.len,S.nd,λn a x e1 e2=>(S.at_ n a x e1 e2).mono (Ch.put hl) (aB λ(z:a=l)=>(S.se l hl).2 (by rw[<-z];exact Ni e1)),λb hb=>⟨?_,(S.se b hb).2⟩⟩
 by_cases z:b=l
 ·subst z;exact⟨_,aT⟩
 ·rw[aB z];exact(S.se b hb).1
theorem Ch.free{os rs rs':List Addr}{H:Hp}(hs:∀b∈rs',b∈rs):Ch ⟨os,rs⟩ H ⟨os,rs'⟩ H:=⟨λn a e=>e,λb u n e=>⟨λm=>n (m.elim .inl λm=>.inr (hs b m)),e⟩⟩
theorem bz.free{os rs rs':List Addr}{H:Hp}(S:bz K ⟨os,rs⟩ h H)(hs:∀b∈rs',b∈rs):bz K ⟨os,rs'⟩ h H:=
 ⟨S.len,S.nd,λn a x e1 e2=>(S.at_ n a x e1 e2).mono (Ch.free hs) rfl,λb hb=>S.se b (hs b hb)⟩
structure bY(K:FR)(ρ:Ad)(H:Hp)(σ:St)(δ:DS):Prop where
 len:σ.length=δ.length
 at_:∀(i:Nat) d,δ[i]?=some (some d)->∃v,σ[i]?=some (some v)/\Rep K ρ H v d
theorem bY.mono(R:bY K ρ H σ δ)(S:Ch ρ H ρ' H'):bY K ρ' H' σ δ:=⟨R.len,λi d e=>let⟨v,a,b⟩:=R.at_ i d e;⟨v,a,b.mono S⟩⟩
theorem bY.set(R:bY K ρ H σ δ)(r:Rep K ρ H v d)(i:Nat):bY K ρ H (σ.set i (some v)) (δ.set i (some d)):=by
 refine⟨by rw[Pq,Pq];exact R.len,λj e he=>?_⟩
 by_cases hij:i=j
 ·subst hij;have hl:i < δ.length:=by
   have:=(Ng.mp he).1;rw[Pq] at this;exact this
  rw[Ov hl] at he;cases he;exact⟨v,by rw[Ov (by rw[R.len];exact hl)],r⟩
 ·rw[Oq hij] at he ⊢;exact R.at_ j e he
abbrev EM:=DS->MH->Option (D×MH)
abbrev TM:=DS->MH->Option (Bool×MH)
abbrev AM:=DS->MH->Option (List D×MH)
inductive Fl where
 | nx | bk | ct | rt (d:D)
abbrev SM:=DS->MH->Option (Fl×DS×MH)
abbrev GM:=D->DS->MH->Option (DS×MH)
abbrev Fn:=List D->MH->Option (D×MH)
inductive Fs(K:FR)(ρ:Ad)(H:Hp)(h':MH)(d:D)(v:V)(H':Hp):Prop where
 | mk (ρ'):cF ρ H ρ' H'->bz K ρ' h' H'->Rep K ρ' H' v d->Fs K ρ H h' d v H'
noncomputable def cG(K:FR)(ρ:Ad)(H:Hp)(h':MH)(d:D):VK:=λv H'=>Fs K ρ H h' d v H'
inductive MG(K:FR)(m:EM)(σ:L2.St)(H:Hp)(Q:VK):Prop where
 | mk (ρ δ h d h'):bY K ρ H σ δ->bz K ρ h H->(m δ h=some (d,h'))->(∀v H',cG K ρ H h' d v H'->Q v H')->MG K m σ H Q
def tM(K:FR)(m:EM):TE:=λσ H Q=>MG K m σ H Q
inductive KP(K:FR)(m:TM)(σ:L2.St)(H:Hp)(Q:Bool->Hp->Prop):Prop where
 | mk (ρ δ h b h'):bY K ρ H σ δ->bz K ρ h H->(m δ h=some (b,h'))->(∀ρ' H',cF ρ H ρ' H'->bz K ρ' h' H'->Q b H')->KP K m σ H Q
def C6(K:FR)(m:TM):TT:=λσ H Q=>KP K m σ H Q
inductive KY(K:FR)(m:AM)(σ:L2.St)(H:Hp)(Q:List V->Hp->Prop):Prop where
 | mk (ρ δ h ds h'):bY K ρ H σ δ->bz K ρ h H->(m δ h=some (ds,h'))->(∀vs ρ' H',cF ρ H ρ' H'->bz K ρ' h' H'->ar K ρ' H' vs ds->Q vs H')->KY K m σ H Q
def MB(K:FR)(m:AM):TA:=λσ H Q=>KY K m σ H Q
inductive KQ(K:FR)(m:SM)(E:Ends)(σ:L2.St)(H:Hp):Prop where
 | mk (ρ δ h fl δ' h'):bY K ρ H σ δ->bz K ρ h H->(m δ h=some (fl,δ',h'))->(∀ρ' H',cF ρ H ρ' H'->bz K ρ' h' H'->
 match fl with
 | .nx=>∀σ',bY K ρ' H' σ' δ'->E.nx σ' H'
 | .bk=>∀σ',bY K ρ' H' σ' δ'->E.bk σ' H'
 | .ct=>∀σ',bY K ρ' H' σ' δ'->E.ct σ' H'
 | .rt d=>∀v,Rep K ρ' H' v d->E.rt v H')->KQ K m E σ H
def C7(K:FR)(m:SM):TS:=λE σ H=>KQ K m E σ H
inductive KW(K:FR)(m:GM)(v:V)(σ:L2.St)(H:Hp)(Q:L2.St->Hp->Prop):Prop where
 | mk (ρ δ h d δ' h'):bY K ρ H σ δ->bz K ρ h H->Rep K ρ H v d->(m d δ h=some (δ',h'))->(∀ρ' H' σ',cF ρ H ρ' H'->bz K ρ' h' H'->bY K ρ' H' σ' δ'->Q σ' H')->KW K m v σ H Q
def EW(K:FR)(m:GM):TG:=λv σ H Q=>KW K m v σ H Q
def SE(X:Cx)(e:Expr)(m:EM):Prop:=PE X e (tM X.K m)
def ST(X:Cx)(e:Expr)(m:TM):Prop:=PT X e (C6 X.K m)
def SW(X:Cx)(e:Expr)(m:TM):Prop:=PW X e (C6 X.K m)
def SA(X:Cx)(es:List Expr)(m:AM):Prop:=PA X es (MB X.K m)
def SS(X:Cx)(s:Stmt)(m:SM):Prop:=PS X s (C7 X.K m)
def ER(X:Cx)(s:List Stmt)(m:SM):Prop:=vE X s (C7 X.K m)
def SG(X:Cx)(e:Expr)(m:GM):Prop:=PG X e (EW X.K m)
theorem _root_.L2.PE.imp(h:PE X e t)(i:∀σ H Q,t' σ H Q->t σ H Q):PE X e t':=λpins s σ H Q I q=>h pins s σ H Q I (i σ H Q q)
theorem _root_.L2.PT.imp(h:PT X e t)(i:∀σ H Q,t' σ H Q->t σ H Q):PT X e t':=λpins s σ H Q I q=>h pins s σ H Q I (i σ H Q q)
theorem _root_.L2.PW.imp(h:PW X e t)(i:∀σ H Q,t' σ H Q->t σ H Q):PW X e t':=λwh pins s σ H Q I q=>h wh pins s σ H Q I (i σ H Q q)
theorem _root_.L2.PA.imp(h:PA X e t)(i:∀σ H Q,t' σ H Q->t σ H Q):PA X e t':=λpos pins s σ H Q I q=>h pos pins s σ H Q I (i σ H Q q)
theorem _root_.L2.PS.imp(h:PS X e t)(i:∀E σ H,t' E σ H->t E σ H):PS X e t':=λpins s σ H E I q=>h pins s σ H E I (i E σ H q)
theorem _root_.L2.vE.imp(h:vE X e t)(i:∀E σ H,t' E σ H->t E σ H):vE X e t':=λpins s σ H E I q=>h pins s σ H E I (i E σ H q)
theorem _root_.L2.PG.imp(h:PG X e t)(i:∀v σ H Q,t' v σ H Q->t v σ H Q):PG X e t':=λpins s σ H v u Q I r q=>h pins s σ H v u Q I r (i v σ H Q q)
theorem bu(h:o.bind f=some b):∃a,o=some a/\f a=some b:=Sj.mp h
theorem eC(h:o.map f=some b):∃a,o=some a/\f a=b:=N5.mp h
theorem yk{x:D}{α:Type}{g:Bool->Option α}{z:α}(e:(match x with | .bl c=>g c | _=>none)=some z):∃c,x=.bl c/\g c=some z:=by
 cases x <;> first | exact absurd e (by intro z;cases z) | exact⟨_,rfl,e⟩
theorem cG.here(S:bz K ρ h H)(r:Rep K ρ H v d):cG K ρ H h d v H:=⟨ρ,.refl _ _,S,r⟩
theorem cG.step(T:cF ρ H ρ1 H1)(p:cG K ρ1 H1 h' d v H'):cG K ρ H h' d v H':=let⟨ρ2,T2,S2,r2⟩:=p;⟨ρ2,T.trans T2,S2,r2⟩
theorem cG.tup(S:bz K ρ h H)(r:ar K ρ H vs ds)(hp:H p=none):cG K ρ H h (.tup ds) (.ref p) (upd H p (.tup vs)):=
 ⟨ρ,cF.laid S hp,S.laid hp,.tup (.inl ⟨.inl aT,S.fresh hp⟩) (r.mono (cF.laid S hp).toCh)⟩
theorem cG.lv(S:bz K ρ h H)(r:ar K ρ H vs ds)(hp:H p=none):cG K ρ H h (.lv ds) (.ref p) (upd H p (.lst vs)):=
 ⟨ρ,cF.laid S hp,S.laid hp,.lv aT (S.fresh hp) (r.mono (cF.laid S hp).toCh)⟩
theorem cG.dv(S:bz K ρ h H)(r:ba K ρ H us ds)(hp:H p=none):cG K ρ H h (.dv ds) (.ref p) (upd H p (.dK us)):=
 ⟨ρ,cF.laid S hp,S.laid hp,.dv aT (S.fresh hp) (r.mono (cF.laid S hp).toCh)⟩
noncomputable def aS(i:Nat):EM:=λδ h=>(δ[i]?).join.map λd=>(d,h)
noncomputable def eK(d:D):EM:=λ_ h=>some (d,h)
noncomputable def ah(f:D->D->MH->Option (D×MH))(a b:EM):EM:=λδ h=>(a δ h).bind λp=>(b δ p.2).bind λq=>f p.1 q.1 q.2
noncomputable def tQ(f:D->MH->Option (D×MH))(a:EM):EM:=λδ h=>(a δ h).bind λp=>f p.1 p.2
noncomputable def bj:AM:=λ_ h=>some ([],h)
noncomputable def ag(a:EM)(r:AM):AM:=λδ h=>(a δ h).bind λp=>(r δ p.2).bind λq=>some (p.1::q.1,q.2)
noncomputable def ai(f:Fn)(a:AM):EM:=λδ h=>(a δ h).bind λp=>f p.1 p.2
noncomputable def ax(a:EM):TM:=λδ h=>(a δ h).bind λp=>match p.1 with
 | .bl b=>some (b,p.2)
 | _=>none
noncomputable def cm(t:TM):TM:=λδ h=>(t δ h).map λp=>(!p.1,p.2)
noncomputable def f6(a b:TM):TM:=λδ h=>(a δ h).bind λp=>if p.1 then b δ p.2 else some (false,p.2)
noncomputable def jD(a b:TM):TM:=λδ h=>(a δ h).bind λp=>if p.1 then some (true,p.2) else b δ p.2
noncomputable def oW(a b:EM):EM:=λδ h=>(a δ h).bind λp=>match p.1 with
 | .bl c=>if c then b δ p.2 else some (.bl false,p.2)
 | _=>none
noncomputable def Lh(a b:EM):EM:=λδ h=>(a δ h).bind λp=>match p.1 with
 | .bl c=>if c then some (.bl true,p.2) else b δ p.2
 | _=>none
noncomputable def aL:Fn:=λds h=>some (.tup ds,h)
inductive MJ(K:FR)(f:D->D->MH->Option (D×MH))(x y:V)(H:Hp)(Q:VK):Prop where
 | mk (ρ h d e z h'):bz K ρ h H->Rep K ρ H x d->Rep K ρ H y e->(f d e h=some (z,h'))->(∀v H',cG K ρ H h' z v H'->Q v H')->MJ K f x y H Q
def rS(K:FR)(f:D->D->MH->Option (D×MH)):R2:=λx y H Q=>MJ K f x y H Q
def jB(X:Cx)(g:Value->Value->Sem Value)(f:D->D->MH->Option (D×MH)):Prop:=kR X g (rS X.K f)
inductive MI(K:FR)(f:D->MH->Option (D×MH))(x:V)(H:Hp)(Q:VK):Prop where
 | mk (ρ h d z h'):bz K ρ h H->Rep K ρ H x d->(f d h=some (z,h'))->(∀v H',cG K ρ H h' z v H'->Q v H')->MI K f x H Q
def rU(K:FR)(f:D->MH->Option (D×MH)):V->Hp->VK->Prop:=λx H Q=>MI K f x H Q
inductive MM(K:FR)(f:Fn)(vs:List V)(H:Hp)(Q:VK):Prop where
 | mk (ρ h ds z h'):bz K ρ h H->ar K ρ H vs ds->(f ds h=some (z,h'))->(∀v H',cG K ρ H h' z v H'->Q v H')->MM K f vs H Q
def rF(K:FR)(f:Fn):List V->Hp->VK->Prop:=λvs H Q=>MM K f vs H Q
def fx(X:Cx)(g:Value)(f:Fn):Prop:=dw X g (rF X.K f)
section
variable {X:Cx} {a b c e:Expr} {es:List Expr} {pos:Pos} {ma mb mc:EM} {mt mu:TM} {m:AM} {f:D->D->MH->Option (D×MH)}
theorem F0(hN:X.N[i]?=some x)(hv:KJ X.env.scope x)(hd:(x==("__debug__":Str))=false:=by ac_nf)(hcd:(x==("__classdict__":Str))=false:=by ac_nf):SE X (.Name x pos) (aS i):=
 (GH hN hv hd hcd).imp λσ H Q ⟨ρ,δ,h,d,h',R,S,e,k⟩=>by
  obtain⟨d',e1,e2⟩:=eC e;cases e2;obtain⟨v,ev,r⟩:=R.at_ i _ (Si.mp e1);exact⟨v,ev,k v H (.here S r)⟩
theorem vR(hp:PE X e (tC v))(hr:∀ρ H,Rep X.K ρ H v d):SE X e (eK d):=hp.imp λσ H Q ⟨ρ,δ,h,d',h',R,S,ee,k⟩=>by
 cases ee;exact k v H (.here S (hr _ _))
theorem aZ{i j}:SE X (.Constant (.int i) j pos) (eK (.int i)):=vR GP λ_ _=>.int i
theorem xA{b j}:SE X (.Constant (.bool b) j pos) (eK (.bl b)):=vR JP λ_ _=>.bl b
theorem Ar{j}:SE X (.Constant .none j pos) (eK .bx):=vR GN λ_ _=>.bx
theorem cc{x j}(h:PyData.strOk x=true:=by decide+kernel):SE X (.Constant (.str x) j pos) (eK (.str x)):=vR GJ λ_ _=>.str h
theorem Jr(hg:Gl X x)(hm:X.mg x=none)(hv:bootBuiltins x=some (.type n))(hn:x≠"__name__":=by decide)(hd:(x==("__debug__":Str))=false:=by ac_nf):SE X (.Name x pos) (eK (.ty n)):=
 vR (DY (v:=.ty n) hg hm hv rfl hn hd) λ_ _=>.ty n
theorem Dl(hg:Gl X x)(hm:X.mg x=some u)(r:RelV v u)(hr:∀ρ H,Rep X.K ρ H v d)(hd:(x==("__debug__":Str))=false:=by ac_nf):SE X (.Name x pos) (eK d):=
 vR (xH hg hm r hd) hr
theorem xD(h:tM X.K (ah f ma mb) σ H Q):Je (rS X.K f) (tM X.K ma) (tM X.K mb) σ H Q:=by
 obtain⟨ρ,δ,h,d,h',R,S,e,k⟩:=h;obtain⟨⟨x,h1⟩,e1,e⟩:=bu e;obtain⟨⟨y,h2⟩,e2,e3⟩:=bu e;refine⟨ρ,δ,h,x,h1,R,S,e1,λv H1 ⟨ρ1,T1,S1,r1⟩=>?_⟩;refine⟨ρ1,δ,h1,y,h2,R.mono T1,S1,e2,λu H2 ⟨ρ2,T2,S2,r2⟩=>?_⟩;exact⟨ρ2,h2,x,y,d,h',S2,r1.mono T2,r2,e3,λw H3 p=>k w H3 (p.step (T1.trans T2))⟩
theorem bq(ho:jB X (binaryOp op) f)(ha:SE X a ma)(hb:SE X b mb):SE X (.BinOp a op b pos) (ah f ma mb):=(E8 ho ha hb).imp λ_ _ _=>xD
theorem vQ(ho:jB X (compareOp op) f)(ha:SE X a ma)(hb:SE X b mb)(hm:behindInMarks op b=false):SE X (.Compare a [op] [b] pos) (ah f ma mb):=(DW ho ha hb hm).imp λ_ _ _=>xD
theorem eG{op:CmpOp}(ho:jB X (compareOp op) f)(ha:SE X a ma)(hb:SE X b mb)(hm:behindInMarks op b=false):ST X (.Compare a [op] [b] pos) (ax (ah f ma mb)):=
 (DD ho ha hb hm).imp λσ H Q ⟨ρ,δ,h,c,h',R,S,e,k⟩=>by
  obtain⟨⟨x,h1⟩,e1,e2⟩:=bu e;obtain⟨c',rfl,e2⟩:=yk e2;cases e2;refine xD ⟨ρ,δ,h,.bl c,h1,R,S,e1,λv H' ⟨ρ',T,S',r⟩=>?_⟩;cases r;exact⟨c,rfl,k ρ' H' T S'⟩
theorem Ap{op:UnaryOp}{f:D->MH->Option (D×MH)}(ho:KL X (unaryOp op) (rU X.K f))(ha:SE X a ma):SE X (.UnaryOp op a pos) (tQ f ma):=(JL ho ha).imp λσ H Q ⟨ρ,δ,h,d,h',R,S,e,k⟩=>by
 obtain⟨⟨x,h1⟩,e1,e⟩:=bu e;exact⟨ρ,δ,h,x,h1,R,S,e1,λv H1 ⟨ρ1,T1,S1,r1⟩=>⟨ρ1,h1,x,d,h',S1,r1,e,λw H3 p=>k w H3 (p.step T1)⟩⟩
theorem ak:SA X [] bj:=oB.imp λσ H Q ⟨ρ,δ,h,d,h',R,S,e,k⟩=>by
 cases e;exact k [] ρ H (.refl _ _) S .nil
theorem aa(ha:SE X e ma)(hr:SA X es m)(hs:starEach (e::es) X.env=(false,eval e X.env)::starEach es X.env:=by ac_nf):SA X (e::es) (ag ma m):=
 (j3 ha hr hs).imp λσ H Q ⟨ρ,δ,h,d,h',R,S,e,k⟩=>by
  obtain⟨⟨x,h1⟩,e1,e⟩:=bu e;obtain⟨⟨ys,h2⟩,e2,e3⟩:=bu e;cases e3;refine⟨ρ,δ,h,x,h1,R,S,e1,λv H1 ⟨ρ1,T1,S1,r1⟩=>?_⟩;exact⟨ρ1,δ,h1,ys,h2,R.mono T1,S1,e2,λvs ρ2 H2 T2 S2 rs=>k _ ρ2 H2 (T1.trans T2) S2 (.cons (r1.mono T2) rs)⟩
def kO(m:AM)(n:Nat):Prop:=∀δ h ds h',m δ h=some (ds,h')->ds.length=n
theorem aA:kO bj 0:=λδ h ds h' e=>by cases e;rfl
theorem af(hr:kO m n):kO (ag ma m) (n+1):=λδ h ds h' e=>by
 obtain⟨⟨x,h1⟩,e1,e⟩:=bu e;obtain⟨⟨ys,h2⟩,e2,e3⟩:=bu e;cases e3;rw[NQ,hr _ _ _ _ e2]
theorem cJ{x1}(h:SA X es m)(hl:kO m n)(hn:n<=sizeLine:=by decide):SE X (.Tuple es x1 pos) (ai aL m):=(GI h).imp λσ H Q ⟨ρ,δ,h,d,h',R,S,e,k⟩=>by
 obtain⟨⟨x,h1⟩,e1,e⟩:=bu e;cases e;refine⟨ρ,δ,h,x,h1,R,S,e1,λvs ρ1 H1 T1 S1 r1=>⟨by rw[r1.length,hl _ _ _ _ e1];exact hn,λp hp=>k _ _ (cG.step T1 (.tup S1 r1 hp))⟩⟩
inductive KZ(K:FR)(m:AM)(σ:L2.St)(H:Hp)(Q:VK):Prop where
 | mk (ρ δ h ds h'):bY K ρ H σ δ->bz K ρ h H->(m δ h=some (ds,h'))->(∀ρ1 H1 p vs,cF ρ H ρ1 H1->bz K ρ1 h' H1->H1 p=none->ar K ρ1 H1 vs ds->Q (.ref p) (upd H1 p (.lst vs)))->KZ K m σ H Q
def M0(K:FR)(m:AM):TE:=λσ H Q=>KZ K m σ H Q
def mE(X:Cx)(e:Expr)(m:AM):Prop:=PE X e (M0 X.K m)
noncomputable def dP(m:AM):EM:=λδ h=>(m δ h).map λp=>(.lv p.1,p.2)
noncomputable def CO(m:AM):EM:=λδ h=>(m δ h).map λp=>(.ob p.2.length,p.2++[.lst p.1])
theorem cG.ob(S:bz K ρ h H)(r:ar K ρ H vs ds)(hp:H p=none):cG K ρ H (h++[.lst ds]) (.ob h.length) (.ref p) (upd H p (.lst vs)):=
 ⟨ρ.more p,cF.made S hp,S.made hp ⟨vs,aT,r.mono (cF.made S hp).toCh⟩,.ob (show(ρ.ob++[p])[h.length]?=_ by rw[<-S.len,NG (Nh _)];simp)⟩
theorem mE.lv(h:mE X e m):SE X e (dP m):=h.imp λσ H Q ⟨ρ,δ,h,d,h',R,S,e,k⟩=>by
 obtain⟨⟨ds,h1⟩,e1,e2⟩:=eC e;cases e2;exact⟨ρ,δ,h,ds,h1,R,S,e1,λρ1 H1 p vs T S1 hp r=>k _ _ (cG.step T (.lv S1 r hp))⟩
theorem mE.ob(h:mE X e m):SE X e (CO m):=h.imp λσ H Q ⟨ρ,δ,h,d,h',R,S,e,k⟩=>by
 obtain⟨⟨ds,h1⟩,e1,e2⟩:=eC e;cases e2;exact⟨ρ,δ,h,ds,h1,R,S,e1,λρ1 H1 p vs T S1 hp r=>k _ _ (cG.step T (.ob S1 r hp))⟩
theorem f9(h:SA X es m)(hl:kO m n)(hn:n<=sizeLine:=by decide):mE X (.List es pos) m:=(GO h).imp λσ H Q ⟨ρ,δ,h,ds,h',R,S,e,k⟩=>
 ⟨ρ,δ,h,ds,h',R,S,e,λvs ρ1 H1 T1 S1 r1=>⟨by rw[r1.length,hl _ _ _ _ e];exact hn,λp hp=>k ρ1 H1 p vs T1 S1 hp r1⟩⟩
noncomputable def M5:EM:=λ_ h=>some (.dv [],h)
theorem Ju:SE X (.Dict [] [] pos) M5:=AZ.imp λσ H Q ⟨ρ,δ,h,d,h',R,S,e,k⟩ p hp=>by
 cases e;exact k _ _ (.dv S .nil hp)
theorem cI(h:ST X a mt):ST X (.UnaryOp .Not a pos) (cm mt):=(Gx h).imp λσ H Q ⟨ρ,δ,h,c,h',R,S,e,k⟩=>by
 obtain⟨⟨x,h1⟩,e1,e2⟩:=eC e;cases e2;exact⟨ρ,δ,h,x,h1,R,S,e1,λρ' H' T S'=>k ρ' H' T S'⟩
theorem jJ(h:ST X a mt):SW X (.BoolOp .And [a] pos) mt:=DC h
theorem nB(h:ST X a mt):SW X (.BoolOp .Or [a] pos) mt:=Gv h
theorem jg{rest:List Expr}(ha:ST X a mt)(hb:SW X (.BoolOp .And (b::rest) pos) mu):SW X (.BoolOp .And (a::b::rest) pos) (f6 mt mu):=(Gw ha hb).imp λσ H Q ⟨ρ,δ,h,c,h',R,S,e,k⟩=>by
 obtain⟨⟨x,h1⟩,e1,e2⟩:=bu e;refine⟨ρ,δ,h,x,h1,R,S,e1,λρ' H' T S'=>?_⟩;cases x with
 | true=>rw[Nj rfl] at e2 ⊢;exact⟨ρ',δ,h1,c,h',R.mono T,S',e2,λρ2 H2 T2 S2=>k ρ2 H2 (T.trans T2) S2⟩
 | false=>rw[Np (by simp)] at e2 ⊢;cases e2;exact k ρ' H' T S'
theorem fJ{rest:List Expr}(ha:ST X a mt)(hb:SW X (.BoolOp .Or (b::rest) pos) mu):SW X (.BoolOp .Or (a::b::rest) pos) (jD mt mu):=(JI ha hb).imp λσ H Q ⟨ρ,δ,h,c,h',R,S,e,k⟩=>by
 obtain⟨⟨x,h1⟩,e1,e2⟩:=bu e;refine⟨ρ,δ,h,x,h1,R,S,e1,λρ' H' T S'=>?_⟩;cases x with
 | false=>rw[Np (by simp)] at e2 ⊢;exact⟨ρ',δ,h1,c,h',R.mono T,S',e2,λρ2 H2 T2 S2=>k ρ2 H2 (T.trans T2) S2⟩
 | true=>rw[Nj rfl] at e2 ⊢;cases e2;exact k ρ' H' T S'
theorem SW.st(h:SW X a mt):ST X a mt:=PW.pt h
theorem gb{op}(h:SE X a ma):SE X (.BoolOp op [a] pos) ma:=GK h
theorem gc{rest:List Expr}(ha:SE X a ma)(hb:SE X (.BoolOp .And (b::rest) pos) mb):SE X (.BoolOp .And (a::b::rest) pos) (oW ma mb):=(GQ ha hb).imp λσ H Q ⟨ρ,δ,h,d,h',R,S,e,k⟩=>by
 obtain⟨⟨x,h1⟩,e1,e2⟩:=bu e;obtain⟨c,rfl,e2⟩:=yk e2;refine⟨ρ,δ,h,.bl c,h1,R,S,e1,λv H' ⟨ρ',T,S',r⟩=>?_⟩;cases r;refine⟨c,rfl,?_⟩;cases c with
 | true=>rw[Nj rfl] at e2 ⊢;exact⟨ρ',δ,h1,d,h',R.mono T,S',e2,λv H2 p=>k v H2 (p.step T)⟩
 | false=>rw[Np (by simp)] at e2 ⊢;cases e2;exact k _ _ ⟨ρ',T,S',.bl _⟩
theorem EZ{rest:List Expr}(ha:SE X a ma)(hb:SE X (.BoolOp .Or (b::rest) pos) mb):SE X (.BoolOp .Or (a::b::rest) pos) (Lh ma mb):=(JM ha hb).imp λσ H Q ⟨ρ,δ,h,d,h',R,S,e,k⟩=>by
 obtain⟨⟨x,h1⟩,e1,e2⟩:=bu e;obtain⟨c,rfl,e2⟩:=yk e2;refine⟨ρ,δ,h,.bl c,h1,R,S,e1,λv H' ⟨ρ',T,S',r⟩=>?_⟩;cases r;refine⟨c,rfl,?_⟩;cases c with
 | false=>rw[Np (by simp)] at e2 ⊢;exact⟨ρ',δ,h1,d,h',R.mono T,S',e2,λv H2 p=>k v H2 (p.step T)⟩
 | true=>rw[Nj rfl] at e2 ⊢;cases e2;exact k _ _ ⟨ρ',T,S',.bl _⟩
noncomputable def Ex(a:EM):EM:=λδ h=>(a δ h).bind λp=>match p.1 with
 | .bl c=>some (.bl (!c),p.2)
 | _=>none
theorem Aq(ha:SE X a ma):SE X (.UnaryOp .Not a pos) (Ex ma):=(GL ha).imp λσ H Q ⟨ρ,δ,h,d,h',R,S,e,k⟩=>by
 obtain⟨⟨x,h1⟩,e1,e2⟩:=bu e;obtain⟨c,rfl,e2⟩:=yk e2;cases e2;refine⟨ρ,δ,h,.bl c,h1,R,S,e1,λv H' ⟨ρ',T,S',r⟩=>?_⟩;cases r;exact⟨c,rfl,k _ _ ⟨ρ',T,S',.bl _⟩⟩
noncomputable def z7(d:D)(h:MH):Option Bool:=match d with
 | .bx=>some false
 | .bl b=>some b
 | .int i=>some (i !=0)
 | .str x=>if x.length<=sizeLine then some ((x.length:Int) !=0) else none
 | .tup xs=>some (!xs.isEmpty)
 | .dv kvs=>some (!kvs.isEmpty)
 | .ob n=>match h[n]? with
  | some (.lst xs)=>some (!xs.isEmpty)
  | some (.dct kvs)=>some (!kvs.isEmpty)
  | _=>none
 | .lv xs=>some (!xs.isEmpty)
 | .ro xs=>some (!xs.isEmpty)
 | .ty _=>none
noncomputable def bT(a:EM):TM:=λδ h=>(a δ h).bind λp=>(z7 p.1 p.2).map λc=>(c,p.2)
theorem ba.isEmpty(t:ba K ρ H us ds):us.isEmpty=ds.isEmpty:=by cases t <;> rfl
theorem CY{K:FR}{ρ:Ad}{H:Hp}{h:MH}{v:V}{d:D}{c:Bool}(S:bz K ρ h H)(r:Rep K ρ H v d)(e:z7 d h=some c):Il K v H c:=by
 cases r with
 | bx=>cases e;exact rfl
 | bl b=>cases e;exact rfl
 | int i=>cases e;exact rfl
 | str hs=>
  unfold z7 at e
  by_cases z:‹Str›.length<=sizeLine
  ·simp only[Nj z] at e;cases e;exact⟨z,rfl⟩
  ·simp only[Np z] at e;cases e
 | ty n=>exact bV e
 | tup ht l=>cases e;exact .inr (.inl ⟨_,ht.sq,by rw[l.isEmpty]⟩)
 | lv ht n l=>cases e;exact .inl ⟨_,eW.of ht,by rw[l.isEmpty]⟩
 | ro ht l=>cases e;exact .inl ⟨_,ht.sq,by rw[l.isEmpty]⟩
 | dv ht n l=>cases e;exact .inr (.inr ⟨_,ht,by rw[l.isEmpty]⟩)
 | ob hn=>
  unfold z7 at e;rename_i a n;cases q:h[n]? with
  | none=>simp only[q] at e;cases e
  | some o=>
   have x:=S.at_ n a o hn q;cases o with
   | lst ds=>simp only[q] at e;cases e;obtain⟨vs,e1,l⟩:=x;exact .inl ⟨_,eW.of e1,by rw[l.isEmpty]⟩
   | dct ds=>simp only[q] at e;cases e;obtain⟨vs,e1,l⟩:=x;exact .inr (.inr ⟨_,e1,by rw[l.isEmpty]⟩)
   | dcH ds=>simp only[q] at e;cases e
theorem cb(ha:SE X a ma)(he:∀whole,isTrue a X.env whole=(do let v<-whole;standAt a.pos;holding [v] (truthy v)):=by intro _;ac_nf):ST X a (bT ma):=(AR ha he).imp λσ H Q ⟨ρ,δ,h,c,h',R,S,e,k⟩=>by
 obtain⟨⟨x,h1⟩,e1,e2⟩:=bu e;obtain⟨c',e3,e4⟩:=eC e2;cases e4;exact⟨ρ,δ,h,x,h1,R,S,e1,λv H' ⟨ρ',T,S',r⟩=>⟨c,CY S' r e3,k ρ' H' T S'⟩⟩
end
mutual
noncomputable def EK:D->D->Bool
 | .bx,.bx=>true
 | .bl a,.bl b=>a==b
 | .int a,.int b=>a==b
 | .str a,.str b=>decide (a=b)
 | .ty a,.ty b=>a==b
 | .tup a,.tup b=>tF a b
 | .lv a,.lv b=>tF a b
 | .ro a,.ro b=>tF a b
 | .dv a,.dv b=>Cy a b
 | .ob a,.ob b=>a==b
 | _,_=>false
noncomputable def tF:List D->List D->Bool
 | [],[]=>true
 | a::r,b::s=>EK a b&&tF r s
 | _,_=>false
noncomputable def Cy:List (Key×D)->List (Key×D)->Bool
 | [],[]=>true
 |(k,a)::r,(j,b)::s=>decide (k=j)&&EK a b&&Cy r s
 | _,_=>false
end
mutual
theorem yn:∀(a b:D),EK a b=true->a=b
 | .bx,b,h=>by cases b <;> first | rfl |(cases h;done)
 | .bl x,b,h=>by cases b <;> first | exact congrArg _ (eq_of_beq h) |(cases h;done)
 | .int x,b,h=>by cases b <;> first | exact congrArg _ (eq_of_beq h) |(cases h;done)
 | .str x,b,h=>by cases b <;> first | exact congrArg _ (NV h) |(cases h;done)
 | .ty x,b,h=>by cases b <;> first | exact congrArg _ (eq_of_beq h) |(cases h;done)
 | .ob x,b,h=>by cases b <;> first | exact congrArg _ (eq_of_beq h) |(cases h;done)
 | .tup x,b,h=>by cases b <;> first | exact congrArg _ (gA _ _ h) |(cases h;done)
 | .lv x,b,h=>by cases b <;> first | exact congrArg _ (gA _ _ h) |(cases h;done)
 | .ro x,b,h=>by cases b <;> first | exact congrArg _ (gA _ _ h) |(cases h;done)
 | .dv x,b,h=>by cases b <;> first | exact congrArg _ (tG _ _ h) |(cases h;done)
theorem gA:∀(a b:List D),tF a b=true->a=b
 | [],b,h=>by cases b <;> first | rfl |(cases h;done)
 | x::r,b,h=>by
  cases b with
  | nil=>cases h
  | cons y s=>have h:=NJ.mp h;rw[yn _ _ h.1,gA _ _ h.2]
theorem tG:∀(a b:List (Key×D)),Cy a b=true->a=b
 | [],b,h=>by cases b <;> first | rfl |(cases h;done)
 |(k,x)::r,b,h=>by
  cases b with
  | nil=>cases h
  | cons y s=>
   obtain⟨j,y⟩:=y;have h:=NJ.mp h;have g:=NJ.mp h.1;rw[NV g.1,yn _ _ g.2,tG _ _ h.2]
end
mutual
theorem rh:∀(a:D),EK a a=true
 | .bx=>rfl
 | .bl x=>Ph x
 | .int x=>Ph x
 | .str x=>NC rfl
 | .ty x=>Ph x
 | .ob x=>Ph x
 | .tup x=>iN x
 | .lv x=>iN x
 | .ro x=>iN x
 | .dv x=>rg x
theorem iN:∀(a:List D),tF a a=true
 | []=>rfl
 | x::r=>NJ.mpr ⟨rh x,iN r⟩
theorem rg:∀(a:List (Key×D)),Cy a a=true
 | []=>rfl
 |(k,x)::r=>NJ.mpr ⟨NJ.mpr ⟨NC rfl,rh x⟩,rg r⟩
end
noncomputable def Ig:MO->MO->Bool
 | .lst a,.lst b=>tF a b
 | .dct a,.dct b=>Cy a b
 | .dcH a,.dcH b=>tF (a.map (·.1)) (b.map (·.1))&&tF (a.map (·.2)) (b.map (·.2))
 | _,_=>false
theorem uB:∀{a b:List (D×D)},a.map (·.1)=b.map (·.1)->a.map (·.2)=b.map (·.2)->a=b
 | [],[],_,_=>rfl
 | [],_::_,h,_=>by cases h
 | _::_,[],h,_=>by cases h
 |(x,y)::a,(u,v)::b,h,g=>by
  obtain⟨h1,h2⟩:=List.cons.inj h;obtain⟨g1,g2⟩:=List.cons.inj g;dsimp only at h1 g1;rw[h1,g1,uB h2 g2]
theorem yl(h:Ig a b=true):a=b:=by
 cases a <;> cases b <;> first |(cases h;done) | skip
 ·rw[gA _ _ h]
 ·rw[tG _ _ h]
 ·have h:=NJ.mp h;rw[uB (gA _ _ h.1) (gA _ _ h.2)]
noncomputable def xg:MH->MH->Bool
 | [],[]=>true
 | a::r,b::s=>Ig a b&&xg r s
 | _,_=>false
theorem ym:∀{a b:MH},xg a b=true->a=b
 | [],b,h=>by cases b <;> first | rfl | simp[xg] at h
 | x::r,b,h=>by
  cases b with
  | nil=>simp[xg] at h
  | cons y s=>simp[xg] at h;rw[yl h.1,ym h.2]
noncomputable def aW:SM:=λδ h=>some (.nx,δ,h)
noncomputable def aj(a b:SM):SM:=λδ h=>(a δ h).bind λr=>match r.1 with
 | .nx=>b r.2.1 r.2.2
 | _=>some r
noncomputable def aJ(i:Nat)(e:EM):SM:=λδ h=>(e δ h).bind λp=>some (.nx,δ.set i (some p.1),p.2)
noncomputable def iP(e:EM)(g:GM):SM:=λδ h=>(e δ h).bind λp=>(g p.1 δ p.2).bind λq=>some (.nx,q.1,q.2)
noncomputable def jS(e:EM):SM:=λδ h=>(e δ h).bind λp=>some (.nx,δ,p.2)
noncomputable def aI(e:EM):SM:=λδ h=>(e δ h).bind λp=>some (.rt p.1,δ,p.2)
noncomputable def c7(t:TM)(a b:SM):SM:=λδ h=>(t δ h).bind λp=>if p.1 then a δ p.2 else b δ p.2
noncomputable def gN(i:Nat):GM:=λd δ h=>some (δ.set i (some d),h)
abbrev CS:=List D->DS->MH->Option (DS×MH)
noncomputable def cM:CS:=λds δ h=>match ds with
 | []=>some (δ,h)
 | _=>none
noncomputable def aC(g:GM)(u:CS):CS:=λds δ h=>match ds with
 | []=>none
 | d::r=>(g d δ h).bind λp=>u r p.1 p.2
noncomputable def gT(n:Nat)(u:CS):GM:=λd δ h=>match d with
 | .tup xs=>if xs.length=n then u xs δ h else none
 | _=>none
abbrev W:=List (Nat×MO)
abbrev IM:=DS->MH->Option (List D×W×MH)
noncomputable def jE:W->MH->Bool
 | [],_=>true
 |(n,o)::r,h=>(match h[n]? with | some u=>Ig u o | none=>false)&&jE r h
noncomputable def kh(ws:W)(g:GM)(b:SM):List D->SM
 | [],δ,h=>if jE ws h then some (.nx,δ,h) else none
 | x::r,δ,h=>if jE ws h then(g x δ h).bind λq=>(b q.1 q.2).bind λz=>match z.1 with
  | .nx=>kh ws g b r z.2.1 z.2.2
  | .ct=>kh ws g b r z.2.1 z.2.2
  | .bk=>some (.nx,z.2.1,z.2.2)
  | .rt d=>some (.rt d,z.2.1,z.2.2)
  else none
noncomputable def ji(i:IM)(g:GM)(b:SM):SM:=λδ h=>(i δ h).bind λp=>kh p.2.1 g b p.1 δ p.2.2
section
variable {X:Cx} {a b c e tg iter:Expr} {es:List Expr} {st:Stmt} {sts rest:List Stmt} {pos:Pos} {ma mb:EM} {mt:TM} {ms mu:SM} {m:AM} {g:GM} {gs:CS}
theorem aR:ER X [] aW:=DF.imp λE σ H ⟨ρ,δ,h,fl,δ',h',R,S,e,k⟩=>by
 cases e;exact k ρ H (.refl _ _) S σ R
theorem Gb(hh:C7 X.K (aj ms mu) E σ H):Ja (C7 X.K ms) (C7 X.K mu) E σ H:=by
 obtain⟨ρ,δ,h,fl,δ',h',R,S,e,k⟩:=hh;obtain⟨⟨f1,δ1,h1⟩,e1,e2⟩:=bu e;cases f1 with
 | nx=>exact⟨ρ,δ,h,.nx,δ1,h1,R,S,e1,λρ1 H1 T1 S1 σ' R'=>⟨ρ1,δ1,h1,fl,δ',h',R',S1,e2,λρ2 H2 T2 S2=>k ρ2 H2 (T1.trans T2) S2⟩⟩
 | bk=>cases e2;exact⟨ρ,δ,h,.bk,_,_,R,S,e1,λρ1 H1 T1 S1=>k ρ1 H1 T1 S1⟩
 | ct=>cases e2;exact⟨ρ,δ,h,.ct,_,_,R,S,e1,λρ1 H1 T1 S1=>k ρ1 H1 T1 S1⟩
 | rt d=>cases e2;exact⟨ρ,δ,h,.rt d,_,_,R,S,e1,λρ1 H1 T1 S1=>k ρ1 H1 T1 S1⟩
theorem ab(h1:SS X st ms)(h2:ER X rest mu):ER X (st::rest) (aj ms mu):=(AS h1 h2).imp λ_ _ _=>Gb
theorem aF(h1:SS X st ms):ER X [st] ms:=DE h1
theorem AE(hh:C7 X.K (aJ i ma) E σ H):Ab (tM X.K ma) (qT i) E σ H:=by
 obtain⟨ρ,δ,h,fl,δ',h',R,S,e,k⟩:=hh;obtain⟨⟨x,h1⟩,e1,e2⟩:=bu e;cases e2;exact⟨ρ,δ,h,x,h1,R,S,e1,λv H1 ⟨ρ1,T1,S1,r1⟩=>k ρ1 H1 T1 S1 _ ((R.mono T1).set r1 i)⟩
theorem FU(hN:X.N.Nodup)(hi:X.N[i]?=some x)(hx:Loc X.env.scope x)(he:SE X e ma)(hs:swapsWith e (some (.Name x pos')) pos.line X.env=pure false:=by ac_nf)(hf:X.fn x=true\/X.env.scope.names.lookup x=some .local:=by first | exact .inl rfl | exact .inr rfl | assumption):SS X (.Assign [.Name x pos'] e pos) (aJ i ma):=(Gy hN hi hx he hs hf).imp λ_ _ _=>AE
theorem Di(hN:X.N.Nodup)(hi:X.N[i]?=some x)(hx:Loc X.env.scope x)(hf:X.fn x=true\/X.env.scope.names.lookup x=some .local:=by first | exact .inl rfl | exact .inr rfl | assumption):SG X (.Name x pos) (gN i):=
 (DT hN hi hx hf).imp λv σ H Q ⟨ρ,δ,h,d,δ',h',R,S,r,e,k⟩=>by
  cases e;exact k ρ H _ (.refl _ _) S (R.set r i)
inductive Fm(K:FR)(m:CS)(vs:List V)(σ:L2.St)(H:Hp)(Q:L2.St->Hp->Prop):Prop where
 | mk (ρ δ h ds δ' h'):bY K ρ H σ δ->bz K ρ h H->ar K ρ H vs ds->(m ds δ h=some (δ',h'))->(∀ρ' H' σ',cF ρ H ρ' H'->bz K ρ' h' H'->bY K ρ' H' σ' δ'->Q σ' H')->Fm K m vs σ H Q
noncomputable def Lz(K:FR)(m:CS):Io:=λvs σ H Q=>Fm K m vs σ H Q
def Lk(X:Cx)(es:List Expr)(m:CS):Prop:=Ft X es (Lz X.K m)
theorem _root_.L2.Ft.imp{X:Cx}{e:List Expr}{t t':Io}(h:Ft X e t)(i:∀v σ H Q,t' v σ H Q->t v σ H Q):Ft X e t':=λpins s σ H v u Q I r q=>h pins s σ H v u Q I r (i v σ H Q q)
theorem mR:Lk X [] cM:=DR.imp λv σ H Q ⟨ρ,δ,h,d,δ',h',R,S,r,e,k⟩=>by
 cases r with
 | nil=>cases e;exact⟨rfl,k ρ H σ (.refl _ _) S R⟩
 | cons _ _=>cases e
theorem dJ(h1:SG X e g)(h2:Lk X es gs)(hs:(assignEach (e::es) X.env).map (·.2)=assign e X.env::(assignEach es X.env).map (·.2):=by ac_nf):Lk X (e::es) (aC g gs):=(AX h1 h2 hs).imp λv σ H Q ⟨ρ,δ,h,d,δ',h',R,S,r,e,k⟩=>by
 cases r with
 | nil=>cases e
 | cons r rs=>
  obtain⟨⟨δ1,h1⟩,e1,e2⟩:=bu e;exact⟨_,_,rfl,ρ,δ,h,_,δ1,h1,R,S,r,e1,λρ1 H1 σ1 T1 S1 R1=>⟨ρ1,δ1,h1,_,δ',h',R1,S1,rs.mono T1,e2,λρ2 H2 σ2 T2 S2 R2=>k ρ2 H2 σ2 (T1.trans T2) S2 R2⟩⟩
theorem rW(hc:X.calm=true)(h:Lk X es gs)(hn:(assignEach es X.env).length=n:=by ac_nf)(hst:(assignEach es X.env).findIdx? (·.1)=none:=by ac_nf):SG X (.Tuple es k0 pos) (gT n gs):=
 (GF hc h hn hst).imp λv σ H Q ⟨ρ,δ,h,d,δ',h',R,S,r,e,k⟩=>by
  cases r <;> first |(exact absurd e (by intro z;cases z)) | skip
  rename_i a vs ds ht l _;unfold gT at e;dsimp only at e
  by_cases z:ds.length=n
  ·rw[Nj z] at e;exact⟨a,vs,rfl,ht.sq,by rw[l.length];exact z,ρ,δ,h,ds,δ',h',R,S,l,e,k⟩
  ·rw[Np z] at e;cases e
theorem fy(he:SE X e ma)(hg:SG X tg g)(hs:swapsWithSole [tg] e pos.line X.env=pure false:=by ac_nf)(hw:swappedStores [tg] e X.env=pure none:=by ac_nf)
  (h1:(assignEach [tg] X.env).map (·.2)=[assign tg X.env]:=by ac_nf):SS X (.Assign [tg] e pos) (iP ma g):=(GB he hg hs hw h1).imp λE σ H ⟨ρ,δ,h,fl,δ',h',R,S,e,k⟩=>by
 obtain⟨⟨x,h1⟩,e1,e2⟩:=bu e;obtain⟨⟨δ2,h2⟩,e4,e3⟩:=bu e2;cases e3;exact⟨ρ,δ,h,x,h1,R,S,e1,λv H1 ⟨ρ1,T1,S1,r1⟩=>⟨ρ1,δ,h1,x,_,_,R.mono T1,S1,r1,e4,λρ2 H2 σ2 T2 S2 R2=>k ρ2 H2 (T1.trans T2) S2 σ2 R2⟩⟩
theorem rO(he:SE X e ma)(hs:swapsWith e none pos.line X.env=pure false:=by ac_nf):SS X (.Expr e pos) (jS ma):=(DH he hs).imp λE σ H ⟨ρ,δ,h,fl,δ',h',R,S,e,k⟩=>by
 obtain⟨⟨x,h1⟩,e1,e2⟩:=bu e;cases e2;exact⟨ρ,δ,h,x,h1,R,S,e1,λv H1 ⟨ρ1,T1,S1,r1⟩=>k ρ1 H1 T1 S1 σ (R.mono T1)⟩
theorem bg(he:SE X e ma):SS X (.Return (some e) pos) (aI ma):=(Gz he).imp λE σ H ⟨ρ,δ,h,fl,δ',h',R,S,e,k⟩=>by
 obtain⟨⟨x,h1⟩,e1,e2⟩:=bu e;cases e2;exact⟨ρ,δ,h,x,h1,R,S,e1,λv H1 ⟨ρ1,T1,S1,r1⟩=>k ρ1 H1 T1 S1 v r1⟩
theorem bo(hc:ST X c mt)(ha:ER X sa ms)(hb:ER X sb mu):SS X (.If c sa sb pos) (c7 mt ms mu):=(JJ hc ha hb).imp λE σ H ⟨ρ,δ,h,fl,δ',h',R,S,e,k⟩=>by
 obtain⟨⟨x,h1⟩,e1,e2⟩:=bu e;refine⟨ρ,δ,h,x,h1,R,S,e1,λρ1 H1 T1 S1=>?_⟩;cases x with
 | true=>rw[Nj rfl] at e2 ⊢;exact⟨ρ1,δ,h1,fl,δ',h',R.mono T1,S1,e2,λρ2 H2 T2 S2=>k ρ2 H2 (T1.trans T2) S2⟩
 | false=>rw[Np (by simp)] at e2 ⊢;exact⟨ρ1,δ,h1,fl,δ',h',R.mono T1,S1,e2,λρ2 H2 T2 S2=>k ρ2 H2 (T1.trans T2) S2⟩
structure IK(K:FR)(J:It)(ρ:Ad)(H:Hp)(ws:W)(xs:List D):Prop where
 run:∀ρ1 H1 h1,Ch ρ H ρ1 H1->bz K ρ1 h1 H1->jE ws h1=true->∀i:Nat,(xs.length<=i->J.stop i H1)/\∀x,xs[i]?=some x->J.go i H1/\∀v H2,J.IP i H1 v H2->cF ρ1 H1 ρ1 H2/\bz K ρ1 h1 H2/\Rep K ρ1 H2 v x
inductive KU(K:FR)(m:IM)(σ:L2.St)(H:Hp)(R:It->Hp->Prop):Prop where
 | mk (ρ δ h xs ws h'):bY K ρ H σ δ->bz K ρ h H->(m δ h=some (xs,ws,h'))->(∀J ρ1 H1,cF ρ H ρ1 H1->bz K ρ1 h' H1->IK K J ρ1 H1 ws xs->R J H1)->KU K m σ H R
def Jh(K:FR)(m:IM):TI:=λσ H R=>KU K m σ H R
def SI(X:Cx)(tg iter:Expr)(m:IM):Prop:=PI X tg iter (Jh X.K m)
theorem _root_.L2.PI.imp(h:PI X tg e t)(i:∀σ H Q,t' σ H Q->t σ H Q):PI X tg e t':=λpins s σ H R I q=>h pins s σ H R I (i σ H R q)
theorem Gd(hh:C7 X.K (ji mi g ms) E σ H):Ji (Jh X.K mi) (EW X.K g) (C7 X.K ms) E σ H:=by
 obtain⟨ρ,δ,h,fl,δ',h',R,S,e,k⟩:=hh;obtain⟨⟨xs,ws,h1⟩,e1,e2⟩:=bu e;refine⟨ρ,δ,h,xs,ws,h1,R,S,e1,λJ ρ1 H1 T1 S1 It=>?_⟩;refine⟨λi m σ2 H2=>∃ρ2 δ2 h2,m=xs.length-i/\i<=xs.length/\cF ρ1 H1 ρ2 H2/\bY X.K ρ2 H2 σ2 δ2/\bz X.K ρ2 h2 H2/\kh ws g ms (xs.drop i) δ2 h2=some (fl,δ',h'),⟨_,ρ1,δ,h1,rfl,Oo _,.refl _ _,R.mono T1,S1,e2⟩,?_⟩;rintro i m σ2 H2 ⟨ρ2,δ2,h2,rfl,hi,T2,R2,S2,e3⟩;cases q:xs.drop i with
 | nil=>
  rw[q] at e3;unfold kh at e3
  by_cases hc:jE ws h2=true
  ·rw[Nj hc] at e3;cases e3;have hl:xs.length<=i:=by have:=congrArg List.length q;rw[Pk,Ot] at this;lia
   exact .inl ⟨(It.run ρ2 H2 _ T2 S2 hc i).1 hl,k ρ2 H2 (T1.trans T2) S2 σ2 R2⟩
  ·rw[Np hc] at e3;cases e3
 | cons x r=>
  rw[q] at e3;unfold kh at e3
  by_cases hc:jE ws h2=true
  ·rw[Nj hc] at e3;have hx:xs[i]?=some x:=by
    have:=congrArg (λl=>l[0]?) q
    simpa using this
   have hlt:i < xs.length:=(Ng.mp hx).1;have hr:xs.drop (i+1)=r:=by
    have:=congrArg List.tail q
    simpa using this
   obtain⟨⟨δ3,h3⟩,e4,e5⟩:=bu e3;obtain⟨⟨f4,δ4,h4⟩,e6,e7⟩:=bu e5;obtain⟨hgo,hy⟩:=(It.run ρ2 H2 h2 T2 S2 hc i).2 x hx;have NN:∀ρ5 H5 σ5,cF ρ2 H2 ρ5 H5->bz X.K ρ5 h4 H5->bY X.K ρ5 H5 σ5 δ4->kh ws g ms r δ4 h4=some (fl,δ',h')->
     ∃m',m' < xs.length-i/\(∃ρ2 δ2 h2,m'=xs.length-(i+1)/\i+1<=xs.length/\cF ρ1 H1 ρ2 H5/\bY X.K ρ2 H5 σ5 δ2/\bz X.K ρ2 h2 H5/\kh ws g ms (xs.drop (i+1)) δ2 h2=some (fl,δ',h')):=
    λρ5 H5 σ5 T5 S5 R5 e8=>⟨xs.length-(i+1),by lia,ρ5,δ4,h4,rfl,hlt,T2.trans T5,R5,S5,by rw[hr];exact e8⟩
   refine .inr ⟨hgo,λσ5 H5=>∃ρ5,cF ρ2 H2 ρ5 H5/\bz X.K ρ5 h4 H5/\bY X.K ρ5 H5 σ5 δ4/\kh ws g ms r δ4 h4=some (fl,δ',h'),λσ5 H5 ⟨ρ5,T5,S5,R5,e8⟩=>NN ρ5 H5 σ5 T5 S5 R5 e8,λv H3 y3=>?_⟩;obtain⟨T3,S3,r3⟩:=hy v H3 y3;refine⟨ρ2,δ2,h2,x,δ3,h3,R2.mono T3,S3,r3,e4,λρ4 H4 σ4 T4 S4 R4=>?_⟩;refine⟨ρ4,δ3,h3,f4,δ4,h4,R4,S4,e6,λρ5 H5 T5 S5=>?_⟩;have T25:cF ρ2 H2 ρ5 H5:=T3.trans (T4.trans T5);cases f4 with
   | nx=>exactλσ' R'=>⟨ρ5,T25,S5,R',e7⟩
   | ct=>exactλσ' R'=>⟨ρ5,T25,S5,R',e7⟩
   | bk=>cases e7;exactλσ' R'=>k ρ5 H5 (T1.trans (T2.trans T25)) S5 σ' R'
   | rt d=>cases e7;exactλv r=>k ρ5 H5 (T1.trans (T2.trans T25)) S5 v r
  ·rw[Np hc] at e3;cases e3
theorem dz(hp:PassesOwn (model X.prog X.w) X.A X.env X.xe)(hc:X.calm=true)(hi:SI X tg iter mi)(hg:SG X tg g)(hb:ER X body ms)(hs:∀x,foldedSetIterable iter X.env x=pure x:=by intro _;ac_nf):SS X (.For tg iter body [] pos) (ji mi g ms):=
 (GA hp hc hi hg hb hs).imp λ_ _ _=>Gd
end
end Sm
namespace L2
open PySem PySem.Spec PyProof.Rows
theorem GD(hl:PE X l tl):PI X tg l (λσ H R=>tl σ H λx H1=>∃a,x=.ref a/\(((∃xs,eW X.K H1 a xs)/\R (Mw X.K a) H1)\/((∃xs,je X.K H1 a xs)/\R (Mv X.K a) H1))):=by
 intro pins s σ H R I h;refine cy (hl pins s σ H _ I h) λv s1 ⟨x,H1,I1,r1,q1⟩=>?_;obtain⟨a,e,q1⟩:=q1;subst e;cases r1;rcases q1 with⟨⟨xs,hq⟩,q⟩ |⟨⟨xs,hq⟩,q⟩
 ·obtain⟨its,rv,p,hz⟩:=I1.list hq;refine Q6 p.isList ?_;refine⟨s1.heap.objs.size,[s1.heap.objs.size],_,_,H1,rfl,I1.kept (t':=s1.toks) λb o e=>Nd _ e,yx a _,⟨_,Nu _ rfl,rfl,rfl⟩,λb hb=>?_,q⟩;have e:b=s1.heap.objs.size:=by simpa using hb
  subst e;exact I1.wN (Nh _) (I1.aV.fresh (Nh _))
 ·obtain⟨its,rv,p,hz⟩:=I1.tuple hq;refine P4 (show s1.heap.IsTuple a its.toArray from p) ?_;refine⟨s1.heap.objs.size,[s1.heap.objs.size],_,_,H1,rfl,I1.kept (t':=s1.toks) λb o e=>Nd _ e,vH a _,⟨_,Nu _ rfl,rfl,rfl⟩,λb hb=>?_,q⟩;have e:b=s1.heap.objs.size:=by simpa using hb
  subst e;exact I1.wN (Nh _) (I1.aV.fresh (Nh _))
end L2
namespace Sm
open PySem L2
noncomputable def cL(d:D)(h:MH):Option (List D×W):=match d with
 | .lv xs=>some (xs,[])
 | .ro xs=>some (xs,[])
 | .tup xs=>some (xs,[])
 | .ob n=>match h[n]? with
  | some (.lst xs)=>some (xs,[(n,.lst xs)])
  | _=>none
 | _=>none
noncomputable def gY(e:EM):IM:=λδ h=>(e δ h).bind λp=>(cL p.1 p.2).map λq=>(q.1,q.2,p.2)
noncomputable def mK(m:AM):IM:=λδ h=>(m δ h).bind λp=>match p.1 with
 | [.int j]=>if -(2^62)<=j/\j < 2^62 then some ((List.range j.toNat).map λ(k:Nat)=>D.int (k:Int),[],p.2) else none
 | [.int i,.int j]=>if -(2^62)<=i/\i < 2^62/\-(2^62)<=j/\j < 2^62 then some ((List.range (j-i).toNat).map λ(k:Nat)=>D.int (i+(k:Int)),[],p.2) else none
 | _=>none
theorem wI(hl:∀ρ1 H1 h1,Ch ρ H ρ1 H1->bz K ρ1 h1 H1->jE ws h1=true->∃vs,ar K ρ1 H1 vs xs/\(∀i:Nat,vs.length<=i->J.stop i H1)/\∀(i:Nat) v,vs[i]?=some v->J.go i H1/\∀u H2,J.IP i H1 u H2->H2=H1/\u=v):IK K J ρ H ws xs:=by
 refine⟨λρ1 H1 h1 T S hc i=>?_⟩;obtain⟨vs,l,s1,s2⟩:=hl ρ1 H1 h1 T S hc;refine⟨λhi=>s1 i (by rw[l.length];exact hi),λx hx=>?_⟩;obtain⟨v,hv,r⟩:=l.got hx;obtain⟨g,y⟩:=s2 i v hv;refine⟨g,λu H2 yy=>?_⟩;obtain⟨rfl,rfl⟩:=y u H2 yy;exact⟨.refl _ _,S,r⟩
theorem Hq(hl:∀ρ1 H1 h1,Ch ρ H ρ1 H1->bz K ρ1 h1 H1->jE ws h1=true->∃vs,ar K ρ1 H1 vs xs/\eW K H1 a vs):IK K (Mw K a) ρ H ws xs:=
 wI λρ1 H1 h1 T S hc=>by
  obtain⟨vs,l,q⟩:=hl ρ1 H1 h1 T S hc;refine⟨vs,l,λi hi=>⟨vs,q,hi⟩,λi v hv=>⟨⟨vs,v,q,hv⟩,λu H2 ⟨e,y⟩=>⟨e,?_⟩⟩⟩;have:=y vs q;rw[hv] at this;exact(Option.some.inj this).symm
theorem Hn(hl:∀ρ1 H1 h1,Ch ρ H ρ1 H1->bz K ρ1 h1 H1->jE ws h1=true->∃vs,ar K ρ1 H1 vs xs/\je K H1 a vs):IK K (Mv K a) ρ H ws xs:=
 wI λρ1 H1 h1 T S hc=>by
  obtain⟨vs,l,q⟩:=hl ρ1 H1 h1 T S hc;refine⟨vs,l,λi hi=>⟨vs,q,hi⟩,λi v hv=>⟨⟨vs,v,q,hv⟩,λu H2 ⟨e,y⟩=>⟨e,?_⟩⟩⟩;have:=y vs q;rw[hv] at this;exact(Option.some.inj this).symm
theorem ED(hc:jE [(n,o)] h=true):h[n]?=some o:=by
 unfold jE at hc;cases q:h[n]? with
 | none=>rw[q] at hc;cases hc
 | some u=>
  rw[q] at hc;simp[jE] at hc;rw[yl hc]
inductive SeqAt(K:FR)(H:Hp)(a:Addr)(vs:List V):Bool->Prop where
 | l:eW K H a vs->SeqAt K H a vs true
 | t:je K H a vs->SeqAt K H a vs false
noncomputable def oJ:D->Bool
 | .tup _=>false
 | _=>true
theorem g7(S:bz K ρ h H)(r:Rep K ρ H v d)(e:cL d h=some (xs,ws)):∃a,v=.ref a/\(∃vs,SeqAt K H a vs (oJ d)/\ar K ρ H vs xs)/\
  ∀ρ1 H1 h1,Ch ρ H ρ1 H1->bz K ρ1 h1 H1->jE ws h1=true->∃vs,ar K ρ1 H1 vs xs/\SeqAt K H1 a vs (oJ d):=by
 cases r with
 | tup ht l=>
  cases e;refine⟨_,rfl,⟨_,.t ht.sq,l⟩,λρ1 H1 h1 T S1 _=>?_⟩;cases(Rep.tup ht l).mono T with
  | tup h1 l1=>exact⟨_,l1,.t h1.sq⟩
 | lv ht n l=>
  cases e;refine⟨_,rfl,⟨_,.l (eW.of ht),l⟩,λρ1 H1 h1 T S1 _=>?_⟩;cases(Rep.lv ht n l).mono T with
  | lv h1 _ l1=>exact⟨_,l1,.l (eW.of h1)⟩
 | ro ht l=>
  cases e;refine⟨_,rfl,⟨_,.l ht.sq,l⟩,λρ1 H1 h1 T S1 _=>?_⟩;cases(Rep.ro ht l).mono T with
  | ro h1 l1=>exact⟨_,l1,.l h1.sq⟩
 | @ob a n hn=>
  unfold cL at e;dsimp only at e;cases q:h[n]? with
  | none=>rw[q] at e;cases e
  | some o=>
   rw[q] at e;cases o with
   | dct _=>exact bV e
   | dcH _=>exact bV e
   | lst ys=>
    cases e;obtain⟨vs,e1,l⟩:=S.at_ n a _ hn q;refine⟨a,rfl,⟨vs,.l (eW.of e1),l⟩,λρ1 H1 h1 T S1 hc=>?_⟩;obtain⟨us,e2,l2⟩:=S1.at_ n a _ (T.pre n a hn) (ED hc);exact⟨us,l2,.l (eW.of e2)⟩
 | bx=>exact bV e
 | bl b=>exact bV e
 | int i=>exact bV e
 | str x=>exact bV e
 | ty x=>exact bV e
 | dv _ _ _=>exact bV e
section
variable {X:Cx} {a b c e tg iter:Expr} {es:List Expr} {pos:Pos} {ma mb:EM} {mt:TM} {ms mu:SM} {m:AM} {g:GM} {gs:CS}
theorem eJ(h:SE X e ma):SI X tg e (gY ma):=(GD h).imp λσ H Q ⟨ρ,δ,h,xs,ws,h',R,S,e,k⟩=>by
 obtain⟨⟨x,h1⟩,e1,e2⟩:=bu e;obtain⟨⟨ys,w⟩,e3,e4⟩:=eC e2;cases e4;refine⟨ρ,δ,h,x,h1,R,S,e1,λv H1 ⟨ρ1,T1,S1,r1⟩=>?_⟩;obtain⟨a,rfl,⟨vs,q,l⟩,st⟩:=g7 S1 r1 e3;refine⟨a,rfl,?_⟩;generalize oJ x=b at q st;cases q with
 | l q=>exact .inl ⟨⟨vs,q⟩,k _ ρ1 H1 T1 S1 (Hq λρ2 H2 h2 T2 S2 hc=>by obtain⟨us,l2,q2⟩:=st ρ2 H2 h2 T2 S2 hc;cases q2 with | l q2=>exact⟨us,l2,q2⟩)⟩
 | t q=>exact .inr ⟨⟨vs,q⟩,k _ ρ1 H1 T1 S1 (Hn λρ2 H2 h2 T2 S2 hc=>by obtain⟨us,l2,q2⟩:=st ρ2 H2 h2 T2 S2 hc;cases q2 with | t q2=>exact⟨us,l2,q2⟩)⟩
theorem k7:∀(ns:List Int),ar K ρ H (ns.map V.int) (ns.map D.int)
 | []=>.nil
 | _::r=>.cons (.int _) (k7 r)
theorem Ho(lo:Int)(n:Nat):IK K (Lm lo n) ρ H [] ((List.range n).map λ(k:Nat)=>D.int (lo+(k:Int))):=by
 refine wI λρ1 H1 h1 T S hc=>⟨(List.range n).map λ(k:Nat)=>V.int (lo+(k:Int)),?_,λi hi=>?_,λi v hv=>?_⟩
 ·have:=k7 (K:=K) (ρ:=ρ1) (H:=H1) ((List.range n).map λ(k:Nat)=>lo+(k:Int));rw[O3,O3] at this;exact this
 ·rw[Nc,NO] at hi;exact hi
 ·rw[Nz] at hv;obtain⟨j,e1,e2⟩:=eC hv;obtain⟨hlt,e3⟩:=Ng.mp e1;rw[NO] at hlt;rw[Ts] at e3;subst e3;subst e2;exact⟨hlt,λu H2 ⟨p,q⟩=>⟨p,q⟩⟩
theorem yM(l:ar K ρ H vs [.int j]):vs=[.int j]:=by
 cases l with
 | cons r l=>cases l;cases r;rfl
theorem b4(hg:Gl X "range")(hm:X.mg "range"=none)(ha:SA X [a] m)(hs:starEach [a] X.env=[(false,eval a X.env)]:=by ac_nf)(hl:kO m 1):SI X tg (.Call (.Name "range" p) [a] [] pos) (mK m):=
 (yR hg hm ha hs).imp λσ H Q zz=>by
  obtain⟨ρ,δ,h,xs,ws,h',R,S,e,k⟩:=zz;obtain⟨⟨x,h1⟩,e1,e2⟩:=bu e;refine⟨ρ,δ,h,x,h1,R,S,e1,λvs ρ1 H1 T1 S1 r1=>?_⟩;obtain⟨d,rfl⟩:=PF.mp (hl _ _ _ _ e1);cases d <;> first | exact absurd e2 (by intro z;cases z) | skip
  rename_i j;dsimp only at e2
  by_cases z:-(2^62)<=j/\j < 2^62
  ·rw[Nj z] at e2;cases e2;refine⟨j,yM r1,z.1,z.2,k _ ρ1 H1 T1 S1 ?_⟩;have:=Ho (K:=X.K) (ρ:=ρ1) (H:=H1) 0 j.toNat
   simpa using this
  ·rw[Np z] at e2;cases e2
noncomputable def kA(caps:List (Option Nat))(δ:DS):DS:=caps.map λo=>o.bind λi=>(δ[i]?).join
noncomputable def ck:TM:=λ_ h=>some (true,h)
noncomputable def aY(ws:W)(g:GM)(c:TM)(e:EM):List D->DS->MH->Option (List D×MH)
 | [],_,h=>if jE ws h then some ([],h) else none
 | x::r,δ,h=>if jE ws h then(g x δ h).bind λq=>(c q.1 q.2).bind λt=>if t.1 then(e q.1 t.2).bind λy=>(aY ws g c e r q.1 y.2).map λz=>(y.1::z.1,z.2) else aY ws g c e r q.1 t.2 else none
noncomputable def cw(caps:List (Option Nat))(i:IM)(g:GM)(c:TM)(e:EM):AM:=λδ h=>(i δ h).bind λp=>(aY p.2.1 g c e p.1 (kA caps δ) p.2.2).bind λq=>if q.1.length<=sizeLine then some q else none
theorem bY.vn(R:bY K ρ H σ δ)(caps:List (Option Nat)):bY K ρ H (vn caps σ) (kA caps δ):=by
 refine⟨by simp[L2.vn,kA],λi d hd=>?_⟩;unfold kA at hd;rw[Nz] at hd;obtain⟨o,e1,e2⟩:=eC hd;cases o with
 | none=>exact bV e2
 | some j=>
  have e3:δ[j]?=some (some d):=Si.mp e2;obtain⟨v,ev,r⟩:=R.at_ j d e3;refine⟨v,?_,r⟩;unfold L2.vn;rw[Nz,e1];simp[ev]
def Lj(X:Cx)(ifs:List Expr)(m:TM):Prop:=Iw X ifs (C6 X.K m)
theorem cg:Lj X [] ck:=λpins s σ H Q I hh=>by
 obtain⟨ρ,δ,h,b,h',R,S,e,k⟩:=hh;cases e;exact DP pins s σ H Q I (k ρ H (.refl _ _) S)
theorem rV(h:ST X c mt):Lj X [c] mt:=DO h
end
end Sm
namespace Sm
open PySem L2 PySem.Spec PyProof.Rows
section
variable {X:Cx} {a b c e tg iter elt:Expr} {es:List Expr} {pos:Pos} {ma mb:EM} {mt:TM} {ms mu:SM} {m:AM} {g:GM} {gs:CS}
end
inductive K0(K:FR)(n:Nat)(F:Fn)(vs:List V)(H:Hp)(Q:VK):Prop where
 | mk (ρ h ds d h'):bz K ρ h H->ar K ρ H vs ds->(ds.length=n)->(F ds h=some (d,h'))->(∀v H',cG K ρ H h' d v H'->Q v H')->K0 K n F vs H Q
def zN(K:FR)(n:Nat)(F:Fn):Sp:=λvs H Q _=>K0 K n F vs H Q
theorem Dm(G:eX X.prog X.w X.K X.mg X.base rB k f fd ps (zN X.K n F))(hr:dZ k X.A)(hg:Gl X x)(hm:X.mg x=some (.ref f))(hk:PySem.W.keepIn X.K (.ref f)=true)(hb:Binds X.K fd ps [])
  (ha:SA X (e::es) m) (hl:kO m n) (hdb:(x==("__debug__":Str))=false:=by ac_nf) (he:starEach (e::es) X.env=(false,eval e X.env)::starEach es X.env:=by ac_nf) (hpl:(backTo pos (starEach es X.env)).any (·.1)=false:=by ac_nf):
  SE X (.Call (.Name x p) (e::es) [] pos) (ai F m):=(DX (E:=E0) G hr hg hm hk hb .nil JQ ha hdb he hpl).imp λσ H Q ⟨ρ,δ,h,d,h',R,S,e,q⟩=>by
 obtain⟨⟨ds,h1⟩,e1,e2⟩:=bu e;refine⟨ρ,δ,h,ds,h1,R,S,e1,λvs ρ1 H1 T1 S1 r1=>?_⟩;show zN X.K n F (vs++[]) H1 Q E0;rw[PU];exact⟨ρ1,h1,ds,d,h',S1,r1,hl _ _ _ _ e1,e2,λv H' P=>q v H' (P.step T1)⟩
noncomputable def Dq(r:Fl×DS×MH):Option (D×MH):=match r.1 with
 | .rt d=>some (d,r.2.2)
 | .nx=>some (.bx,r.2.2)
 | _=>none
noncomputable def entry(len:Nat)(ds:List D):DS:=ds.map some++List.replicate (len-ds.length) none
noncomputable def kQ(len:Nat)(body:SM):Fn:=λds h=>(body (entry len ds) h).bind Dq
theorem bY.entry{K:FR}{ρ:Ad}{H:Hp}{vs:List V}{ds:List D}(N:List Str)(l:ar K ρ H vs ds):bY K ρ H (L2.start N vs) (Sm.entry N.length ds):=by
 refine⟨by simp[L2.start,Sm.entry,l.length],λi d hd=>?_⟩;unfold Sm.entry at hd;unfold L2.start
 by_cases hi:i < ds.length
 ·rw[Nv (by simpa using hi),Nz] at hd;obtain⟨d',e1,e2⟩:=eC hd;cases e2;obtain⟨v,ev,r⟩:=l.got e1;refine⟨v,?_,r⟩;rw[Nv (by rw[Nc,l.length];exact hi),Nz,ev];rfl
 ·rw[NG (by simpa using hi),Sn] at hd
  split at hd <;> cases hd
section
variable {P:Program} {w:World} {K:FR} {mg:Str->Option Value} {base:Heap} {x qual:Str} {st:Stmt} {f:Addr} {fd:FuncData} {N ps:List Str} {k:Nat}
theorem Ht(F:xo K x qual st f fd)(Sc:aD N ps (ao st))(hb:∀(cdv:Value)(A:Around)(outer:List Env)(s:Shared)(H:Hp)(E:XK),dZ k (A.deeper (envOfC qual (ao st) s.heap.objs.size f cdv))->ER (vc rB P w K mg base N qual (ao st) f cdv A outer s H E).IC (ft st) body):
  eX P w K mg base rB (k+1) f fd ps (zN K ps.length (kQ N.length body)):=by
 refine F.ok Sc (λvs H Q E h=>?_) (λcdv A outer s H vs Q E hr h=>?_)
 ·obtain⟨ρ,h,ds,d,h',S,r,hl,_⟩:=h;rw[r.length];exact hl
 ·obtain⟨ρ,h,ds,d,h',S,r,hl,e,q⟩:=h;refine⟨_,hb cdv A outer s H E hr,?_⟩;obtain⟨⟨fl,δ1,h1⟩,e1,e2⟩:=bu e;refine⟨ρ,entry N.length ds,h,fl,δ1,h1,bY.entry N r,S,e1,λρ1 H1 T1 S1=>?_⟩;cases fl with
  | nx=>cases e2;exactλσ' R'=>q _ _ ⟨ρ1,T1,S1,.bx⟩
  | rt d=>cases e2;exactλv r=>q _ _ ⟨ρ1,T1,S1,r⟩
  | bk=>cases e2
  | ct=>cases e2
end
mutual
noncomputable def gO(n:Nat):D->Bool
 | .tup xs=>fe n xs
 | .lv xs=>fe n xs
 | .ro xs=>fe n xs
 | .dv kvs=>EC n kvs
 | .ob m=>decide (m < n)
 | _=>true
noncomputable def fe(n:Nat):List D->Bool
 | []=>true
 | x::r=>gO n x&&fe n r
noncomputable def EC(n:Nat):List (Key×D)->Bool
 | []=>true
 |(_,x)::r=>gO n x&&EC n r
end
noncomputable def vD(n:Nat):MO->Bool
 | .lst xs=>fe n xs
 | .dct kvs=>EC n kvs
 | .dcH kvs=>fe n (kvs.map (·.1))&&fe n (kvs.map (·.2))
abbrev Ad.cut(ρ:Ad)(n:Nat):Ad:=⟨ρ.ob.take n,ρ.rs⟩
theorem Ad.ku{ρ:Ad}{n:Nat}{a:Addr}(h:(ρ.cut n).has a):ρ.has a:=h.elim (λm=>.inl (P6 m)) .inr
mutual
theorem Rep.cut{K:FR}{ρ:Ad}{H:Hp}{n:Nat}{v:V}{d:D}(r:Rep K ρ H v d)(c:gO n d=true):Rep K (ρ.cut n) H v d:=by
 cases r with
 | bx=>exact .bx
 | bl b=>exact .bl b
 | int i=>exact .int i
 | str x=>exact .str x
 | ty n=>exact .ty n
 | tup h l=>exact .tup (h.elim (λ⟨a,n⟩=>.inl ⟨a,λm=>n (Ad.ku m)⟩) .inr) (ar.cut l c)
 | lv h n l=>exact .lv h (λm=>n (Ad.ku m)) (ar.cut l c)
 | ro h l=>exact .ro (h.elim (λ⟨a,n⟩=>.inl ⟨a,λm=>n (Ad.ku m)⟩) .inr) (ar.cut l c)
 | dv h n l=>exact .dv h (λm=>n (Ad.ku m)) (ba.cut l c)
 | ob e=>exact .ob ((N0 (NV c)).trans e)
theorem ar.cut{K:FR}{ρ:Ad}{H:Hp}{n:Nat}{v:List V}{d:List D}(r:ar K ρ H v d)(c:fe n d=true):ar K (ρ.cut n) H v d:=by
 cases r with
 | nil=>exact .nil
 | cons r l=>have c:=NJ.mp c;exact .cons (Rep.cut r c.1) (ar.cut l c.2)
theorem ba.cut{K:FR}{ρ:Ad}{H:Hp}{n:Nat}{v:List (Key×V)}{d:List (Key×D)}(r:ba K ρ H v d)(c:EC n d=true):ba K (ρ.cut n) H v d:=by
 cases r with
 | nil=>exact .nil
 | cons r l=>have c:=NJ.mp c;exact .cons (Rep.cut r c.1) (ba.cut l c.2)
end
mutual
theorem Rep.clean{K:FR}{ρ:Ad}{H:Hp}{v:V}{d:D}(r:Rep K ρ H v d):gO ρ.ob.length d=true:=by
 cases r with
 | tup h l=>exact ar.clean l
 | lv h n l=>exact ar.clean l
 | ro h l=>exact ar.clean l
 | dv h n l=>exact ba.clean l
 | ob e=>exact NC (Ng.mp e).1
 | _=>rfl
theorem ar.clean{K:FR}{ρ:Ad}{H:Hp}{v:List V}{d:List D}(r:ar K ρ H v d):fe ρ.ob.length d=true:=by
 cases r with
 | nil=>rfl
 | cons r l=>exact NJ.mpr ⟨Rep.clean r,ar.clean l⟩
theorem ba.clean{K:FR}{ρ:Ad}{H:Hp}{v:List (Key×V)}{d:List (Key×D)}(r:ba K ρ H v d):EC ρ.ob.length d=true:=by
 cases r with
 | nil=>rfl
 | cons r l=>exact NJ.mpr ⟨Rep.clean r,ba.clean l⟩
end
theorem yq.cut{K:FR}{ρ:Ad}{H:Hp}{n:Nat}{a:Addr}{o:MO}(x:yq K ρ H a o)(c:vD n o=true):yq K (ρ.cut n) H a o:=by
 cases o with
 | lst ds=>obtain⟨vs,e,l⟩:=x;exact⟨vs,e,l.cut c⟩
 | dct ds=>obtain⟨vs,e,l⟩:=x;exact⟨vs,e,l.cut c⟩
 | dcH ds=>obtain⟨us,ps,e,l,l2,p⟩:=x;have c:=NJ.mp c;exact⟨us,ps,e,l.cut c.1,l2.cut c.2,p⟩
theorem yq.clean{K:FR}{ρ:Ad}{H:Hp}{a:Addr}{o:MO}(x:yq K ρ H a o):vD ρ.ob.length o=true:=by
 cases o with
 | lst ds=>obtain⟨vs,e,l⟩:=x;exact l.clean
 | dct ds=>obtain⟨vs,e,l⟩:=x;exact l.clean
 | dcH ds=>obtain⟨us,ps,e,l,l2,p⟩:=x;exact NJ.mpr ⟨l.clean,l2.clean⟩
noncomputable def z9(n:Nat)(h:MH)(d:D):D:=match d with
 | .ob m=>if m < n then .ob m else match h[m]? with
  | some (.lst xs)=>.lv xs
  | some (.dct kvs)=>.dv kvs
  | _=>.ob m
 | d=>d
noncomputable def leave(h:MH)(d:D)(h':MH):Option (D×MH):=
 if gO h.length (z9 h.length h' d)&&(xg (h'.take h.length) h||(h'.take h.length).all (vD h.length)) then some (z9 h.length h' d,h'.take h.length) else none
noncomputable def Ha(len:Nat)(body:SM):Fn:=λds h=>((body (entry len ds) h).bind Dq).bind λp=>leave h p.1 p.2
theorem cG.leave{K:FR}{ρ:Ad}{H H':Hp}{h h1 h':MH}{d d':D}{v:V}(S:bz K ρ h H)(p:cG K ρ H h1 d v H')(e:Sm.leave h d h1=some (d',h')):cG K ρ H h' d' v H':=by
 obtain⟨ρ1,T,S1,r⟩:=p;unfold Sm.leave at e
 by_cases hc:(gO h.length (z9 h.length h1 d)&&(xg (h1.take h.length) h||(h1.take h.length).all (vD h.length)))=true
 ·rw[Nj hc] at e;cases e;rw[Nn] at hc;obtain⟨c1,c2⟩:=hc;have hle:h.length<=h1.length:=by
   rw[<-S.len,<-S1.len];refine Ob λhlt=>?_;have e1:ρ.ob[ρ1.ob.length]?=some ρ.ob[ρ1.ob.length]:=Nk hlt;have:=(Ng.mp (T.pre _ _ e1)).1
   lia
  have hall:∀(m:Nat) o,m < h.length->h1[m]?=some o->vD h.length o=true:=by
   intro m o hm ho;rw[OM] at c2;rcases c2 with c2 | c2
   ·have e1:=ym c2;have e2:h[m]?=some o:=by rw[<-e1,N0 hm];exact ho
    have hm':m < ρ.ob.length:=by rw[S.len];exact hm
    have:=(S.at_ m _ o (Nk hm') e2).clean;rw[S.len] at this;exact this
   ·rw[NS] at c2;exact c2 o (Ni (show(h1.take h.length)[m]?=some o by rw[N0 hm];exact ho))
  have Sc:bz K (ρ1.cut h.length) (h1.take h.length) H':=by
   refine⟨by simp[S1.len],S1.nd.sublist (RB _ _),λn a o e1 e2=>?_,λb hb=>⟨(S1.se b hb).1,λm=>(S1.se b hb).2 (P6 m)⟩⟩;have hn:n < h.length:=by
    have:=(Ng.mp e2).1;rw[NF] at this
    lia
   have e1:(ρ1.ob.take h.length)[n]?=some a:=e1;rw[N0 hn] at e1 e2;exact(S1.at_ n a o e1 e2).cut (hall n o hn e2)
  refine⟨ρ1.cut h.length,⟨⟨λn a e=>?_,λb o n e=>?_⟩,T.rs,T.res⟩,Sc,?_⟩
  ·have hn:n < h.length:=by rw[<-S.len];exact(Ng.mp e).1
   show(ρ1.ob.take h.length)[n]?=some a;rw[N0 hn];exact T.pre n a e
  ·obtain⟨n1,e1⟩:=T.old b o n e;exact⟨λm=>n1 (Ad.ku m),e1⟩
  ·cases d with
   | ob m=>
    unfold z9 at c1 ⊢;dsimp only at c1 ⊢
    by_cases hm:m < h.length
    ·rw[Nj hm] at c1 ⊢;exact r.cut c1
    ·rw[Np hm] at c1 ⊢;cases r with
     | ob hn=>
      rename_i a;have na:¬(ρ1.cut h.length).has a:=by
       intro z;rcases z with z | z
       ·obtain⟨j,hj⟩:=List.getElem?_of_mem z;have hj1:j < h.length:=by
         have:=(Ng.mp hj).1;rw[NF] at this
         lia
        rw[N0 hj1] at hj;have:=(RD (Ng.mp hj).1 S1.nd).mp (hj.trans hn.symm)
        lia
       ·exact(S1.se a z).2 (Ni hn)
      cases q:h1[m]? with
      | none=>rw[q] at c1;exact absurd c1 (by simp[gO];lia)
      | some o=>
       have x:=S1.at_ m a o hn q;cases o with
       | lst xs=>
        rw[q] at c1;obtain⟨vs,e1,l⟩:=x;exact .lv e1 na (l.cut (by simpa [gO] using c1))
       | dct xs=>
        rw[q] at c1;obtain⟨vs,e1,l⟩:=x;exact .dv e1 na (l.cut (by simpa [gO] using c1))
       | dcH xs=>rw[q] at c1;exact absurd c1 (by simp[gO];lia)
   | _=>exact r.cut c1
 ·rw[Np hc] at e;cases e
section
variable {P:Program} {w:World} {K:FR} {mg:Str->Option Value} {base:Heap} {x qual:Str} {st:Stmt} {f:Addr} {fd:FuncData} {N ps:List Str} {k:Nat}
theorem iq(G:eX P w K mg base rB k f fd ps (zN K ps.length (kQ N.length body))):eX P w K mg base rB k f fd ps (zN K ps.length (Ha N.length body)):=by
 refine G.imp λvs H Q E hh=>?_;obtain⟨ρ,h,ds,d,h',S,r,hl,e,q⟩:=hh;obtain⟨⟨d1,h1⟩,e1,e2⟩:=bu e;exact⟨ρ,h,ds,d1,h1,S,r,hl,e1,λv H' p=>q v H' (p.leave S e2)⟩
end
def spT(K:FR):Sp:=λvs H Q _=>∃(a:Addr)(ns:List Int),vs=[.ref a]/\eW K H a (ns.map V.int)/\ns.length<=63/\∀H',Q (.bl true) H'
theorem D9{P:Program}{w:World}{K:FR}{mg:Str->Option Value}{base:Heap}{k:Nat}{f:Addr}{fd:FuncData}{ps:List Str}{F:Fn}(G:eX P w K mg base rB k f fd ps (zN K 1 F))
  (hF:∀ns:List Int,ns.length<=63->∃h',F [.ro (ns.map D.int)] []=some (.bl true,h')):eX P w K mg base rB k f fd ps (spT K):=by
 refine G.imp λvs H Q E hh=>?_;obtain⟨a,ns,rfl,ha,hl,q⟩:=hh;obtain⟨h',e⟩:=hF ns hl;refine⟨⟨[],[]⟩,[],[.ro (ns.map D.int)],.bl true,h',⟨rfl,RY,λn a o e=>by simp at e,λb hb=>absurd hb (by simp)⟩,.cons (.ro ?_ (k7 ns)) .nil,rfl,e,λv H' ⟨ρ',T,S,r⟩=>?_⟩
 ·rcases ha with ha | ha
  ·exact .inl ⟨ha,λz=>z.elim (λz=>absurd z (by simp)) λz=>absurd z (by simp)⟩
  ·exact .inr (.inr ha)
 ·cases r;exact q H'
noncomputable def vY(h:MH)(d:D):Option PyData:=match d with
 | .ob n=>match h[n]? with
  | some (.lst xs)=>(gL xs).map .list
  | _=>none
 | d=>iG d
mutual
theorem Rep.oo{K:FR}{ρ:Ad}{H:Hp}{v:V}{d:D}{p:PyData}(r:Rep K ρ H v d)(e:iG d=some p):zJ K H v p/\p.canLay0=true:=by
 cases r with
 | bx=>cases e;exact⟨.bx,rfl⟩
 | bl b=>cases e;exact⟨.bl b,rfl⟩
 | int i=>cases e;exact⟨.int i,rfl⟩
 | str hs=>cases e;exact⟨.str _,by simpa [PyData.canLay0] using hs⟩
 | tup h l=>obtain⟨q,e1,rfl⟩:=eC e;obtain⟨a,b⟩:=ar.oo l e1;exact⟨.tup h.sq a,by simpa [PyData.canLay0] using b⟩
 | lv h n l=>obtain⟨q,e1,rfl⟩:=eC e;obtain⟨a,b⟩:=ar.oo l e1;exact⟨.lst (eW.of h) a,by simpa [PyData.canLay0] using b⟩
 | ro h l=>obtain⟨q,e1,rfl⟩:=eC e;obtain⟨a,b⟩:=ar.oo l e1;exact⟨.lst h.sq a,by simpa [PyData.canLay0] using b⟩
 | _=>exact bV e
theorem ar.oo{K:FR}{ρ:Ad}{H:Hp}{v:List V}{d:List D}{p:List PyData}(r:ar K ρ H v d)(e:gL d=some p):pJ K H v p/\PyData.canLayAll0 p=true:=by
 cases r with
 | nil=>cases e;exact⟨.nil,rfl⟩
 | cons r l=>
  obtain⟨a,e1,e2⟩:=bu e;obtain⟨b,e3,rfl⟩:=eC e2;obtain⟨a1,a2⟩:=Rep.oo r e1;obtain⟨b1,b2⟩:=ar.oo l e3;exact⟨.cons a1 b1,by simp[PyData.canLayAll0,a2,b2]⟩
end
section
variable {K:FR} {ρ:Ad} {H:Hp} {h:MH} {v:V} {d:D}
theorem sr(S:bz K ρ h H)(r:Rep K ρ H v d)(e:vY h d=some p):zJ K H v p/\p.canLay0=true:=by
 cases r with
 | @ob a n hn=>
  unfold vY at e;dsimp only at e;cases q:h[n]? with
  | none=>rw[q] at e;cases e
  | some o=>
   rw[q] at e;cases o with
   | dct _=>exact bV e
   | dcH _=>exact bV e
   | lst xs=>
    obtain⟨vs,e1,l⟩:=S.at_ n a _ hn q;obtain⟨b,e3,e4⟩:=eC e;subst e4;obtain⟨b1,b2⟩:=l.oo e3;exact⟨.lst (eW.of e1) b1,by simpa [PyData.canLay0] using b2⟩
 | bx=>exact Rep.oo (Rep.bx (ρ:=ρ)) e
 | bl b=>exact Rep.oo (Rep.bl (ρ:=ρ) b) e
 | int i=>exact Rep.oo (Rep.int (ρ:=ρ) i) e
 | str x=>exact Rep.oo (Rep.str (ρ:=ρ) x) e
 | ty n=>exact Rep.oo (Rep.ty (ρ:=ρ) n) e
 | tup h l=>exact Rep.oo (.tup h l) e
 | lv h n l=>exact Rep.oo (.lv h n l) e
 | ro h l=>exact Rep.oo (.ro h l) e
 | dv h n l=>exact Rep.oo (.dv h n l) e
noncomputable def dX(d:D)(h:MH):Option (List D):=match d with
 | .lv xs=>some xs
 | .ob n=>match h[n]? with
  | some (.lst xs)=>some xs
  | _=>none
 | _=>none
theorem dH(S:bz K ρ h H)(r:Rep K ρ H v d)(e:dX d h=some xs):∃a vs,v=.ref a/\H a=some (.lst vs)/\ar K ρ H vs xs:=by
 cases r with
 | @ob a n hn=>
  unfold dX at e;dsimp only at e;cases q:h[n]? with
  | none=>rw[q] at e;cases e
  | some o=>
   rw[q] at e;cases o with
   | dct _=>exact bV e
   | dcH _=>exact bV e
   | lst ys=>
    cases e;obtain⟨vs,e1,l⟩:=S.at_ n a _ hn q;exact⟨a,vs,rfl,e1,l⟩
 | lv h n l=>cases e;exact⟨_,_,rfl,h,l⟩
 | _=>exact bV e
noncomputable def cZ(d:D)(h:MH):Option (List (Key×D)):=match d with
 | .dv kvs=>some kvs
 | .ob n=>match h[n]? with
  | some (.dct kvs)=>some kvs
  | _=>none
 | _=>none
theorem kr(S:bz K ρ h H)(r:Rep K ρ H v d)(e:cZ d h=some xs):∃a vs,v=.ref a/\H a=some (.dK vs)/\ba K ρ H vs xs:=by
 cases r with
 | @ob a n hn=>
  unfold cZ at e;dsimp only at e;cases q:h[n]? with
  | none=>rw[q] at e;cases e
  | some o=>
   rw[q] at e;cases o with
   | lst _=>exact bV e
   | dcH _=>exact bV e
   | dct ys=>
    cases e;obtain⟨vs,e1,l⟩:=S.at_ n a _ hn q;exact⟨a,vs,rfl,e1,l⟩
 | dv h n l=>cases e;exact⟨_,_,rfl,h,l⟩
 | _=>exact bV e
theorem mS(S:bz K ρ h H)(r:Rep K ρ H v d)(e:cL d h=some (xs,ws)):∃a vs,v=.ref a/\(eW K H a vs\/je K H a vs)/\ar K ρ H vs xs:=by
 obtain⟨a,e1,⟨vs,q,l⟩,_⟩:=g7 S r e;refine⟨a,vs,e1,?_,l⟩;generalize oJ d=b at q;cases q with
 | l q=>exact .inl q
 | t q=>exact .inr q
noncomputable def wH:D->Option Key
 | .int i=>some (.inl i)
 | .str x=>some (.inr x)
 | _=>none
noncomputable def pM(kvs:List (Key×D))(k:Key):Option D:=(kvs.find? λkv=>decide (kv.1=k)).map (·.2)
noncomputable def putD(kvs:List (Key×D))(k:Key)(v:D):List (Key×D):=
 if(kvs.any λkv=>decide (kv.1=k))=true then kvs.map (λkv=>if kv.1=k then(kv.1,v) else kv) else kvs++[(k,v)]
theorem mZ(r:Rep K ρ H v d)(e:wH d=some k):v=kV k:=by
 cases r with
 | int i=>cases e;rfl
 | str x=>cases e;rfl
 | _=>exact bV e
theorem ba.val:∀{us:List (Key×V)} {kvs:List (Key×D)} (k:Key),ba K ρ H us kvs->(pM kvs k=none/\gV us k=none)\/∃d v,pM kvs k=some d/\gV us k=some v/\Rep K ρ H v d:=by
 intro us
 induction us with
 | nil=>intro kvs k a;cases a;exact .inl ⟨rfl,rfl⟩
 | cons u us ih=>
  intro kvs k a;cases a with | @cons j v _ d ds r l=>
  by_cases z:j=k
  ·exact .inr ⟨d,v,by simp[pM,z],by simp[gV,z],r⟩
  ·have h1:pM ((j,d)::ds) k=pM ds k:=by simp only[pM,PR,z,decide_false]
   have h2:gV ((j,v)::us) k=gV us k:=jH z;rw[h1,h2];exact ih k l
theorem ba.length:∀{us:List (Key×V)} {kvs:List (Key×D)},ba K ρ H us kvs->us.length=kvs.length:=by
 intro us
 induction us with
 | nil=>intro kvs a;cases a;rfl
 | cons u us ih=>intro kvs a;cases a with | cons _ l=>rw[NQ,NQ,ih l]
theorem ba.any(k:Key):∀{us:List (Key×V)} {kvs:List (Key×D)},ba K ρ H us kvs->(us.any λkv=>decide (kv.1=k))=(kvs.any λkv=>decide (kv.1=k)):=by
 intro us
 induction us with
 | nil=>intro b a;cases a;rfl
 | cons u us ih=>intro b a;cases a with | cons _ l=>rw[Pd,Pd,ih l]
theorem ba.map(r:Rep K ρ H v d):∀{us:List (Key×V)} {kvs:List (Key×D)},ba K ρ H us kvs->ba K ρ H (us.map λkv=>if kv.1=k then(kv.1,v) else kv) (kvs.map λkv=>if kv.1=k then(kv.1,d) else kv):=by
 intro us
 induction us with
 | nil=>intro b a;cases a;exact .nil
 | cons u us ih=>
  intro b a;cases a with | @cons j _ _ _ _ q l=>
  rw[Ny,Ny]
  by_cases z:j=k
  ·rw[Nj z,Nj z];exact .cons r (ih l)
  ·rw[Np z,Np z];exact .cons q (ih l)
theorem ba.append:∀{us vs:List (Key×V)} {ks ls:List (Key×D)},ba K ρ H us ks->ba K ρ H vs ls->ba K ρ H (us++vs) (ks++ls):=by
 intro us vs
 induction us with
 | nil=>intro ks ls a t;cases a;exact t
 | cons u us ih=>intro ks ls a t;cases a with | cons r l=>exact .cons r (ih l t)
theorem ba.put(l:ba K ρ H us kvs)(r:Rep K ρ H v d):ba K ρ H (putK us k v) (putD kvs k d):=by
 unfold putK putD;rw[l.any k]
 by_cases z:(kvs.any λkv=>decide (kv.1=k))=true
 ·rw[Nj z,Nj z];exact l.map r
 ·rw[Np z,Np z];exact l.append (.cons r .nil)
end
noncomputable def wU(d e:D)(h:MH):Option (D×MH):=match d,e with
 | .int i,.int j=>some (.int (i+j),h)
 | .str a,.str b=>if a.length+b.length<=sizeLine then some (.str (a++b),h) else none
 | .tup [],.tup _=>none
 | .tup (x::xs),.tup ys=>if xs.length+1+ys.length<=sizeLine then some (.tup (x::xs++ys),h) else none
 | d,e=>(dX d h).bind λxs=>(dX e h).bind λys=>if xs.length+ys.length<=sizeLine then some (.lv (xs++ys),h) else none
noncomputable def sQ(d e:D)(h:MH):Option (D×MH):=match d,e with
 | .int i,.int j=>some (.int (i-j),h)
 | _,_=>none
noncomputable def j8(i j:Int):Bool:=(decide (-(2^64) < i)&&decide (i < 2^64))||(decide (-(2^64) < j)&&decide (j < 2^64))
noncomputable def Hv(d e:D)(h:MH):Option (D×MH):=match d,e with
 | .int i,.int j=>if j8 i j then some (.int (i*j),h) else none
 | _,_=>none
noncomputable def oQ(d e:D)(h:MH):Option (D×MH):=match d,e with
 | .int i,.int j=>if 0 < j then some (.int (i % j),h) else none
 | _,_=>none
noncomputable def BV(d e:D)(h:MH):Option (D×MH):=match d,e with
 | .int i,.int j=>if 0 < j/\j<=10^40 then some (.int (i / j),h) else none
 | _,_=>none
noncomputable def Ej(d e:D)(h:MH):Option (D×MH):=match d,e with
 | .int i,.int j=>if 0<=j/\j<=1000000/\i.natAbs < 2^64 then some (.int (i^j.toNat),h) else none
 | _,_=>none
noncomputable def Ci(f:Int->Int->Bool)(d e:D)(h:MH):Option (D×MH):=match d,e with
 | .int i,.int j=>some (.bl (f i j),h)
 | _,_=>none
noncomputable def Em:=Ci λi j=>decide (i < j)
noncomputable def BU:=Ci λi j=>decide (i<=j)
noncomputable def xZ:=Ci λi j=>decide (j < i)
noncomputable def Kp:=Ci λi j=>decide (j<=i)
noncomputable def IG(d e:D)(h:MH):Option Bool:=(vY h d).bind λa=>(vY h e).bind λb=>if a.depth<=64/\b.depth<=64 then some (PyData.eqv a b) else none
noncomputable def ME:D->Bool
 | .bx=>true
 | _=>false
noncomputable def Ko(d e:D)(h:MH):Option (D×MH):=match e with
 | .bx=>some (.bl (ME d),h)
 | _=>none
noncomputable def gW(d:D)(h:MH):Option (D×MH):=match d with
 | .int i=>some (.int (-i),h)
 | _=>none
noncomputable def inD(d e:D)(h:MH):Option Bool:=match cZ e h with
 | some kvs=>(wH d).map λk=>(pM kvs k).isSome
 | none=>match d,e with
  | .str x,.str y=>some (!(Builtin.Str.occurrences y x 0 y.length 1).isEmpty)
  | d,e=>(cL e h).bind λp=>(vY h d).bind λa=>(gL p.1).bind λbs=>if a.depth<=60/\PyData.depthAll bs<=60 then some (bs.any λb=>PyData.eqv b a) else none
noncomputable def Es(d e:D)(h:MH):Option (D×MH):=(inD d e h).map λc=>(.bl c,h)
noncomputable def fF(d e:D)(h:MH):Option (D×MH):=(inD d e h).map λc=>(.bl (!c),h)
noncomputable def aH(d e:D)(h:MH):Option (D×MH):=match cZ d h with
 | some kvs=>(wH e).bind λk=>(pM kvs k).map λz=>(z,h)
 | none=>match d,e with
  | .str z,.int i=>if z.length<=sizeLine then(gR z.cps.toList i).map λc=>(.str ⟨#[c]⟩,h) else none
  | d,.int i=>(cL d h).bind λp=>(gR p.1 i).map λz=>(z,h)
  | _,_=>none
theorem g9{K:FR}{ρ:Ad}{H:Hp}{x:V}{i:Int}(r:Rep K ρ H x (.int i)):x=.int i:=by cases r;rfl
theorem vW{K:FR}{ρ:Ad}{H:Hp}{x:V}{i:Str}(r:Rep K ρ H x (.str i)):x=.str i/\PyData.strOk i=true:=by cases r with | str h=>exact⟨rfl,h⟩
theorem AA{K:FR}{ρ:Ad}{H:Hp}{x:V}{ds:List D}(r:Rep K ρ H x (.tup ds)):∃a vs,x=.ref a/\TupAt K ρ H a vs/\ar K ρ H vs ds:=by cases r with | tup h l=>exact⟨_,_,rfl,h,l⟩
theorem sA(ho:kR X g (rI C q))(hf:∀d e h z h',f d e h=some (z,h')->∃i j,d=.int i/\e=.int j/\C i j/\h'=h/\∀ρ H,Rep X.K ρ H (q i j) z):jB X g f:=by
 intro pins s σ H x y v u Q I rx ry hh;obtain⟨ρ,h,d,e,z,h',S,rd,re,ee,k⟩:=hh;obtain⟨i,j,rfl,rfl,c,rfl,rz⟩:=hf _ _ _ _ _ ee;obtain rfl:=g9 rd;obtain rfl:=g9 re;exact ho pins s σ H _ _ v u Q I rx ry ⟨i,j,rfl,rfl,c,k _ _ (.here S (rz _ _))⟩
theorem j4(ho:kR X g (DA q))(hf:∀d e h z h',f d e h=some (z,h')->∃i j,d=.int i/\e=.int j/\h'=h/\∀ρ H,Rep X.K ρ H (q i j) z):jB X g f:=by
 intro pins s σ H x y v u Q I rx ry hh;obtain⟨ρ,h,d,e,z,h',S,rd,re,ee,k⟩:=hh;obtain⟨i,j,rfl,rfl,rfl,rz⟩:=hf _ _ _ _ _ ee;obtain rfl:=g9 rd;obtain rfl:=g9 re;exact ho pins s σ H _ _ v u Q I rx ry ⟨i,j,rfl,rfl,k _ _ (.here S (rz _ _))⟩
theorem Bc:jB X (binaryOp .Sub) sQ:=j4 G0 λd e h z h' ee=>by
 cases d <;> first |(exact bV ee) | skip
 cases e <;> first |(exact bV ee) | skip
 cases ee;exact⟨_,_,rfl,rfl,rfl,λ_ _=>.int _⟩
theorem GS:jB X (binaryOp .Mult) Hv:=sA G3 λd e h z h' ee=>by
 cases d <;> first |(exact bV ee) | skip
 cases e <;> first |(exact bV ee) | skip
 rename_i i j;unfold Hv at ee;dsimp only at ee
 by_cases c:j8 i j=true
 ·rw[Nj c] at ee;cases ee;refine⟨i,j,rfl,rfl,?_,rfl,λ_ _=>.int _⟩;unfold j8 at c;simp only[OM,Nn,Oa] at c;exact c
 ·rw[Np c] at ee;cases ee
theorem oC:jB X (binaryOp .Mod) oQ:=sA G4 λd e h z h' ee=>by
 cases d <;> first |(exact bV ee) | skip
 cases e <;> first |(exact bV ee) | skip
 rename_i i j;unfold oQ at ee;dsimp only at ee
 by_cases c:0 < j
 ·rw[Nj c] at ee;cases ee;exact⟨i,j,rfl,rfl,c,rfl,λ_ _=>.int _⟩
 ·rw[Np c] at ee;cases ee
theorem GY:jB X (binaryOp .FloorDiv) BV:=sA Bg λd e h z h' ee=>by
 cases d <;> first |(exact bV ee) | skip
 cases e <;> first |(exact bV ee) | skip
 rename_i i j;unfold BV at ee;dsimp only at ee
 by_cases c:0 < j/\j<=10^40
 ·rw[Nj c] at ee;cases ee;exact⟨i,j,rfl,rfl,c,rfl,λ_ _=>.int _⟩
 ·rw[Np c] at ee;cases ee
theorem Be:jB X (binaryOp .Pow) Ej:=sA G2 λd e h z h' ee=>by
 cases d <;> first |(exact bV ee) | skip
 cases e <;> first |(exact bV ee) | skip
 rename_i i j;unfold Ej at ee;dsimp only at ee
 by_cases c:0<=j/\j<=1000000/\i.natAbs < 2^64
 ·rw[Nj c] at ee;cases ee;exact⟨i,j,rfl,rfl,c,rfl,λ_ _=>.int _⟩
 ·rw[Np c] at ee;cases ee
theorem yf(ee:Ci f d e h=some (z,h')):∃i j,d=.int i/\e=.int j/\h'=h/\z=.bl (f i j):=by
 cases d <;> first |(exact bV ee) | skip
 cases e <;> first |(exact bV ee) | skip
 cases ee;exact⟨_,_,rfl,rfl,rfl,rfl⟩
theorem JR:jB X (compareOp .Lt) Em:=j4 JS λd e h z h' ee=>by
 obtain⟨i,j,rfl,rfl,rfl,rfl⟩:=yf ee;exact⟨i,j,rfl,rfl,rfl,λ_ _=>.bl _⟩
theorem oD:jB X (compareOp .LtE) BU:=j4 JT λd e h z h' ee=>by
 obtain⟨i,j,rfl,rfl,rfl,rfl⟩:=yf ee;exact⟨i,j,rfl,rfl,rfl,λ_ _=>.bl _⟩
theorem Fb:jB X (compareOp .Gt) xZ:=j4 JU λd e h z h' ee=>by
 obtain⟨i,j,rfl,rfl,rfl,rfl⟩:=yf ee;exact⟨i,j,rfl,rfl,rfl,λ_ _=>.bl _⟩
theorem Fc:jB X (compareOp .GtE) Kp:=j4 JV λd e h z h' ee=>by
 obtain⟨i,j,rfl,rfl,rfl,rfl⟩:=yf ee;exact⟨i,j,rfl,rfl,rfl,λ_ _=>.bl _⟩
theorem vG:KL X (unaryOp .USub) (rU X.K gW):=by
 intro pins s σ H x v Q I rx hh;obtain⟨ρ,h,d,z,h',S,rd,ee,k⟩:=hh;cases rd <;> first |(exact bV ee) | skip
 cases ee;exact FC pins s σ H _ v Q I rx ⟨_,rfl,k _ _ (.here S (.int _))⟩
noncomputable def HM(d e:D)(h:MH):Option (D×MH):=(dX d h).bind λxs=>(dX e h).bind λys=>if xs.length+ys.length<=sizeLine then some (D.lv (xs++ys),h) else none
def K7(d e:D)(h:MH)(p:D×MH):Prop:=(∃i j,d=.int i/\e=.int j)\/(∃a b,d=.str a/\e=.str b)\/(∃x xs ys,d=.tup (x::xs)/\e=.tup ys)\/HM d e h=some p
theorem tI{d e:D}{h:MH}{p:D×MH}(z:HM d e h=some p):K7 d e h p:=.inr (.inr (.inr z))
theorem BW{d e:D}{h:MH}{p:D×MH}(ee:wU d e h=some p):K7 d e h p:=by
 cases d with
 | int i=>cases e with
  | int j=>exact .inl ⟨i,j,rfl,rfl⟩
  | _=>exact tI ee
 | str a=>cases e with
  | str b=>exact .inr (.inl ⟨a,b,rfl,rfl⟩)
  | _=>exact tI ee
 | tup xs=>cases e with
  | tup ys=>cases xs with
   | nil=>exact bV ee
   | cons x xs=>exact .inr (.inr (.inl ⟨x,xs,ys,rfl,rfl⟩))
  | _=>cases xs <;> exact tI ee
 | _=>exact tI ee
theorem GZ:jB X (binaryOp .Add) wU:=by
 intro pins s σ H x y v u Q I rx ry hh;obtain⟨ρ,h,d,e,z,h',S,rd,re,ee,k⟩:=hh;have lists:((dX d h).bind λxs=>(dX e h).bind λys=>if xs.length+ys.length<=sizeLine then some (D.lv (xs++ys),h) else none)=some (z,h')->wpAny (model X.prog X.w) X.A (binaryOp .Add v u) (EP X pins σ Q) X.xe s:=by
  intro ee;obtain⟨xs,e1,e4⟩:=bu ee;obtain⟨ys,e2,e3⟩:=bu e4
  by_cases c:xs.length+ys.length<=sizeLine
  ·rw[Nj c] at e3;cases e3;obtain⟨a,vs,rfl,ha,la⟩:=dH S rd e1;obtain⟨b,us,rfl,hb,lb⟩:=dH S re e2;exact Bi pins s σ H _ _ v u Q I rx ry ⟨a,b,vs,us,rfl,rfl,ha,hb,by rw[la.length,lb.length];exact c,λp hp=>k _ _ (.lv S (la.append lb) hp)⟩
  ·rw[Np c] at e3;cases e3
 rcases(BW ee:(∃i j,d=.int i/\e=.int j)\/(∃a b,d=.str a/\e=.str b)\/(∃x xs ys,d=.tup (x::xs)/\e=.tup ys)\/HM d e h=some (z,h')) with⟨i,j,rfl,rfl⟩ |⟨a,b,rfl,rfl⟩ |⟨x0,xs,ys,rfl,rfl⟩ | z
 ·cases ee;obtain rfl:=g9 rd;obtain rfl:=g9 re;exact G6 pins s σ H _ _ v u Q I rx ry ⟨_,_,rfl,rfl,k _ _ (.here S (.int _))⟩
 ·unfold wU at ee;dsimp only at ee
  by_cases c:a.length+b.length<=sizeLine
  ·rw[Nj c] at ee;cases ee;obtain⟨rfl,h1⟩:=vW rd;obtain⟨rfl,h2⟩:=vW re;exact wt pins s σ H _ _ v u Q I rx ry ⟨a,b,rfl,rfl,c,k _ _ (.here S (.str (yD h1 h2)))⟩
  ·rw[Np c] at ee;cases ee
 ·unfold wU at ee;dsimp only at ee
  by_cases c:xs.length+1+ys.length<=sizeLine
  ·rw[Nj c] at ee;cases ee;obtain⟨a,vs,rfl,h1,l1⟩:=AA rd;obtain⟨b,us,rfl,h2,l2⟩:=AA re;refine D0 pins s σ H _ _ v u Q I rx ry ⟨a,b,vs,us,rfl,rfl,h1.sq,h2.sq,?_,?_,λz=>?_,λ_ p hp=>k _ _ (.tup S (l1.append l2) hp)⟩
   ·intro z;rw[z] at l1;cases l1
   ·rw[l1.length,l2.length];exact c
   ·rw[z] at l2;cases l2;rw[PU] at k;exact k _ _ (.here S (.tup h1 l1))
  ·rw[Np c] at ee;cases ee
 ·exact lists z
theorem iL(h1:p.canLay0=true)(h2:p.depth<=64):SeqAt.shaped p=true:=by
 unfold PySem.SeqAt.shaped;rw[h1,NC h2];rfl
theorem Ds{K:FR}{ρ:Ad}{H:Hp}{v:V}{d:D}(r:Rep K ρ H v d):decide (v=V.bx)=ME d:=by
 cases r <;> rfl
theorem GV:jB X (compareOp .Is) Ko:=by
 intro pins s σ H x y v u Q I rx ry hh;obtain⟨ρ,h,d,e,z,h',S,rd,re,ee,k⟩:=hh;cases e <;> first |(exact bV ee) | skip
 cases ee;cases re;refine G5 pins s σ H _ _ v u Q I rx ry ⟨rfl,?_⟩;rw[Ds rd];exact k _ _ (.here S (.bl _))
theorem rj{us:List Value}{ds:List PyData}{as:List Addr}(H:ReadsAll h us ds as)(hf:∀u d as,u∈us->Reads h u d as->d∈ds->f u=PyData.eqv d p):us.any f=ds.any λb=>PyData.eqv b p:=by
 cases H with
 | nil=>rfl
 | cons r l=>rw[Pd,Pd,hf _ _ _ Nm r Nm,rj l λu d as hu hr hd=>hf u d as (Nl _ hu) hr (Nl _ hd)]
open Classical in
noncomputable def Fg(h:Heap)(p:PyData)(u:Value):Bool:=if q:∃d as,Reads h u d as/\d.canLay0=true then PyData.eqv q.choose p else false
theorem BZ(r:Reads h u d as)(c:d.canLay0=true):Fg h p u=PyData.eqv d p:=by
 have q:∃d as,Reads h u d as/\d.canLay0=true:=⟨d,as,r,c⟩;unfold Fg;rw[dif_pos q];obtain⟨as',r',c'⟩:=q.choose_spec;rw[PySem.SeqAt.Reads.unique _ _ _ _ _ c' r' r]
theorem gz:∀{ds:List PyData} {d:PyData},PyData.canLayAll0 ds=true->d∈ds->d.canLay0=true
 | x::r,d,c,m=>by
  simp only[PyData.canLayAll0,Nn] at c;rcases NA.mp m with rfl | m
  ·exact c.1
  ·exact gz c.2 m
theorem qW:∀{ds:List PyData} {d:PyData},d∈ds->d.depth<=PyData.depthAll ds
 | x::r,d,m=>by
  simp only[PyData.depthAll];rcases NA.mp m with rfl | m
  ·lia
  ·have:=qW m;lia
theorem qv{us:List Value}{ds:List PyData}{as:List Addr}(H:ReadsAll h us ds as)(y:Value)(hy:y∈us):∃d as,Reads h y d as/\d∈ds:=by
 cases H with
 | nil=>cases hy
 | cons r l=>
  rcases NA.mp hy with rfl | hy
  ·exact⟨_,_,r,Nm⟩
  ·obtain⟨d,as,a1,a2⟩:=qv l y hy;exact⟨d,as,a1,Nl _ a2⟩
theorem in_of(hu:X.A.units+64 < cLine)(I:L2.Inv X pins σ H s)(rx:L2.RelV x v)(ry:L2.RelV y u)(S:bz X.K ρ h H)(rd:Rep X.K ρ H x d)(re:Rep X.K ρ H y e){c:Bool}(ee:inD d e h=some c){Q:Bool->Shared->Prop}(hq:∀s',L2.Inv X pins σ H s'->Q c s'):
  wpAny (model X.prog X.w) X.A (compareOp .In v u) (λr s'=>∃c,r=.bool c/\Q c s') X.xe s/\wpAny (model X.prog X.w) X.A (compareOp .NotIn v u) (λr s'=>∃c,r=.bool (!c)/\Q c s') X.xe s:=by
 unfold inD at ee;cases qd:cZ e h with
 | some kvs=>
  rw[qd] at ee;obtain⟨k,e1,e2⟩:=eC ee;obtain⟨a,us,rfl,ha,l⟩:=kr S re qd;obtain rfl:u=Value.ref a:=ry;have ek:=mZ rd e1;subst ek;have g:p9 H a (kV k) (gV us k):=p9.k ha;have ec:(gV us k).isSome=c:=by
   rw[<-e2];rcases l.val k with⟨h1,h2⟩ |⟨d,v,h1,h2,_⟩
   ·rw[h1,h2];rfl
   ·rw[h1,h2];rfl
  refine⟨Mj (by lia) I g rx λs' I'=>⟨c,by rw[ec],hq s' I'⟩,Ey (by lia) I g rx λs' I'=>⟨c,by rw[ec],hq s' I'⟩⟩
 | none=>
  rw[qd] at ee;dsimp only at ee;have seqs:((cL e h).bind λp=>(vY h d).bind λa=>(gL p.1).bind λbs=>if a.depth<=60/\PyData.depthAll bs<=60 then some (bs.any λb=>PyData.eqv b a) else none)=some c->
    wpAny (model X.prog X.w) X.A (compareOp .In v u) (λr s'=>∃c,r=.bool c/\Q c s') X.xe s/\wpAny (model X.prog X.w) X.A (compareOp .NotIn v u) (λr s'=>∃c,r=.bool (!c)/\Q c s') X.xe s:=by
   intro ee;obtain⟨⟨xs,ws⟩,e1,e2⟩:=bu ee;obtain⟨p,e3,e4⟩:=bu e2;obtain⟨bs,e5,e6⟩:=bu e4
   by_cases w:p.depth<=60/\PyData.depthAll bs<=60
   ·rw[Nj w] at e6;cases e6;obtain⟨a,vs,rfl,hq',l⟩:=mS S re e1;obtain rfl:u=Value.ref a:=ry;obtain⟨r1,c1⟩:=sr S rd e3;obtain⟨r2,c2⟩:=l.oo e5;obtain⟨as,ra⟩:=r1.reads I rx;have key:∀its:List Value,Vals vs its->(∀y,y∈its->PySem.SeqAt.EqAt X.A.in1 s y v (Fg s.heap p y))/\its.any (Fg s.heap p)=bs.any λb=>PyData.eqv b p:=by
     intro its rv;obtain⟨bs',rb⟩:=r2.reads I rv;refine⟨λy hy=>?_,rj rb λu d as _ hr hd=>BZ hr (gz c2 hd)⟩;obtain⟨d,as',hr,hd⟩:=qv rb y hy;rw[BZ hr (gz c2 hd)];refine Ss d p _ s y v as' as hr ra (gz c2 hd) c1 ?_;have h1:=qW hd;have h2:min d.depth p.depth<=d.depth:=RO _ _;show X.A.units+1+min d.depth p.depth < cLine;have h3:=w.2
     lia
    rcases hq' with hq' | hq'
    ·obtain⟨its,rv,pl,_⟩:=I.list hq';obtain⟨k1,k2⟩:=key its rv;have k1':∀y,y∈its.toArray->PySem.SeqAt.EqAt X.A.in1 s y v (Fg s.heap p y):=λy hy=>k1 y (by simpa using hy);have k2':its.toArray.any (Fg s.heap p)=bs.any λb=>PyData.eqv b p:=by rw[<-k2];simp
     exact⟨PySem.SeqAt.in_listAt _ pl.isList k1' ⟨_,rfl,by rw[k2'];exact hq s I⟩,PySem.SeqAt.notIn_listAt _ pl.isList k1' ⟨_,rfl,by rw[k2'];exact hq s I⟩⟩
    ·obtain⟨its,rv,pl,_⟩:=I.tuple hq';obtain⟨k1,k2⟩:=key its rv;have k1':∀y,y∈its.toArray->PySem.SeqAt.EqAt X.A.in1 s y v (Fg s.heap p y):=λy hy=>k1 y (by simpa using hy);have k2':its.toArray.any (Fg s.heap p)=bs.any λb=>PyData.eqv b p:=by rw[<-k2];simp
     exact⟨PySem.SeqAt.in_tupleAt _ pl k1' ⟨_,rfl,by rw[k2'];exact hq s I⟩,PySem.SeqAt.notIn_tupleAt _ pl k1' ⟨_,rfl,by rw[k2'];exact hq s I⟩⟩
   ·rw[Np w] at e6;cases e6
  split at ee
  ·cases ee;cases rd;cases re;obtain⟨t,rfl⟩:=rx;obtain⟨t',rfl⟩:=ry;exact⟨in_str ⟨_,rfl,hq s I⟩,notIn_str ⟨_,rfl,hq s I⟩⟩
  ·exact seqs ee
theorem E9(hu:X.A.units+64 < cLine):jB X (compareOp .In) Es:=by
 intro pins s σ H x y v u Q I rx ry hh;obtain⟨ρ,h,d,e,z,h',S,rd,re,ee,k⟩:=hh;obtain⟨c,e1,e2⟩:=eC ee;cases e2;refine cy (in_of hu I rx ry S rd re e1 (Q:=λc' s'=>c'=c/\L2.Inv X pins σ H s') λs' I'=>⟨rfl,I'⟩).1 λr s' ⟨c',hr,hc,I'⟩=>?_;subst hr;subst hc;exact⟨.bl _,H,I',rfl,k _ _ (.here S (.bl _))⟩
theorem Bf(hu:X.A.units+64 < cLine):jB X (compareOp .NotIn) fF:=by
 intro pins s σ H x y v u Q I rx ry hh;obtain⟨ρ,h,d,e,z,h',S,rd,re,ee,k⟩:=hh;obtain⟨c,e1,e2⟩:=eC ee;cases e2;refine cy (in_of hu I rx ry S rd re e1 (Q:=λc' s'=>c'=c/\L2.Inv X pins σ H s') λs' I'=>⟨rfl,I'⟩).2 λr s' ⟨c',hr,hc,I'⟩=>?_;subst hr;subst hc;exact⟨.bl _,H,I',rfl,k _ _ (.here S (.bl _))⟩
theorem EL{K:FR}{ρ:Ad}{H:Hp}{vs:List V}{ds:List D}{i:Int}{d:D}(l:ar K ρ H vs ds)(e:gR ds i=some d):∃v,gR vs i=some v/\Rep K ρ H v d:=by
 unfold gR at e;obtain⟨j,e1,e2⟩:=bu e;obtain⟨v,e3,r⟩:=l.got e2;exact⟨v,by unfold gR;rw[l.length,e1];exact e3,r⟩
theorem zr{d e z:D}{h h':MH}(ee:aH d e h=some (z,h')):h'=h/\((∃kvs k,cZ d h=some kvs/\wH e=some k/\pM kvs k=some z)\/(∃x i c,d=.str x/\e=.int i/\x.length<=sizeLine/\gR x.cps.toList i=some c/\z=.str ⟨#[c]⟩)\/∃i xs ws,e=.int i/\cL d h=some (xs,ws)/\gR xs i=some z):=by
 unfold aH at ee
 split at ee
 ·obtain⟨ky,e1,e2⟩:=bu ee;obtain⟨z',e3,e4⟩:=eC e2;cases e4;exact⟨rfl,.inl ⟨_,ky,‹_›,e1,e3⟩⟩
 ·split at ee
  ·split at ee
   ·obtain⟨c,e3,e4⟩:=eC ee;cases e4;exact⟨rfl,.inr (.inl ⟨_,_,c,rfl,rfl,‹_›,e3,rfl⟩)⟩
   ·cases ee
  ·obtain⟨⟨xs,ws⟩,e1,e2⟩:=bu ee;obtain⟨z',e3,e4⟩:=eC e2;cases e4;exact⟨rfl,.inr (.inr ⟨_,xs,ws,rfl,e1,e3⟩)⟩
  ·cases ee
theorem Kg(hu:X.A.units+64 < cLine):K5 X (rS X.K aH):=by
 intro value slice pins s σ H x y v u Q I rx ry hh hs;obtain⟨ρ,h,d,e,z,h',S,rd,re,ee,k⟩:=hh;obtain⟨rfl,hc⟩:=zr ee;rcases hc with⟨kvs,ky,qd,e1,e3⟩ |⟨x0,i,ch,rfl,rfl,c,e3,rfl⟩ |⟨i,xs,ws,rfl,e1,e3⟩
 ·obtain⟨a,us,rfl,ha,l⟩:=kr S rd qd;obtain rfl:v=Value.ref a:=rx;have ek:=mZ re e1;subst ek;rcases l.val ky with⟨h1,h2⟩ |⟨d',w,h1,h2,r⟩
  ·rw[h1] at e3;cases e3
  ·rw[h1] at e3;cases e3;have g:p9 H a (kV ky) (some w):=by rw[<-h2];exact p9.k ha
   exact tail_any (vb I g) PySem.F.slot_dict_getitem.lookup (zy (by lia) I g ry λw' s3 I3 rw'=>⟨w,H,I3,rw',k _ _ (.here S r)⟩) hs
 ·obtain⟨rfl,hs0⟩:=vW rd;obtain rfl:=g9 re;exact Hm value slice pins s σ H _ _ v u Q I rx ry ⟨x0,i,ch,rfl,rfl,c,e3,k _ _ (.here S (.str (yC hs0 e3)))⟩ hs
 ·obtain⟨a,vs,rfl,hq',l⟩:=mS S rd e1;obtain⟨w,e5,r⟩:=EL l e3;obtain rfl:=g9 re;rcases hq' with hq' | hq'
  ·exact Ec value slice pins s σ H _ _ v u Q I rx ry ⟨a,vs,i,w,rfl,rfl,hq',e5,k _ _ (.here S r)⟩ hs
  ·exact Hl value slice pins s σ H _ _ v u Q I rx ry ⟨a,vs,i,w,rfl,rfl,hq',e5,k _ _ (.here S r)⟩ hs
theorem Jt(hu:X.A.units+64 < cLine)(ha:SE X a ma)(hb:SE X b mb)(hs:kN b:=by unfold kN;intro _ _;ac_nf):SE X (.Subscript a b pos) (ah aH ma mb):=(JN (Kg hu) ha hb hs).imp λ_ _ _=>xD
abbrev PM:=DS->MH->Option (Option Int×MH)
noncomputable def qB:PM:=λ_ h=>some (none,h)
noncomputable def qC(e:EM):PM:=λδ h=>(e δ h).bind λp=>match p.1 with
 | .int i=>some (some i,p.2)
 | _=>none
inductive KR(K:FR)(m:PM)(σ:L2.St)(H:Hp)(Q:Option Int->Hp->Prop):Prop where
 | mk (ρ δ h b h'):bY K ρ H σ δ->bz K ρ h H->(m δ h=some (b,h'))->(∀ρ' H',cF ρ H ρ' H'->bz K ρ' h' H'->Q b H')->KR K m σ H Q
noncomputable def MZ(K:FR)(m:PM):TO:=λσ H Q=>KR K m σ H Q
def SP'(X:Cx)(e:Option Expr)(m:PM):Prop:=PO X e (MZ X.K m)
theorem De:SP' X none qB:=λpins s σ H Q I hh=>by
 obtain⟨ρ,δ,h,b,h',R,S,e,k⟩:=hh;cases e;exact DM pins s σ H Q I (k ρ H (.refl _ _) S)
theorem Dd(he:SE X e ma):SP' X (some e) (qC ma):=λpins s σ H Q I hh=>by
 obtain⟨ρ,δ,h,b,h',R,S,e,k⟩:=hh;obtain⟨⟨x,h1⟩,e1,e2⟩:=bu e;cases x <;> first |(cases e2;done) | skip
 cases e2;refine DL he pins s σ H Q I ⟨ρ,δ,h,_,_,R,S,e1,λv H' ⟨ρ',T,S',r⟩=>?_⟩;cases r;exact⟨_,rfl,k ρ' H' T S'⟩
noncomputable def cutD(xs:List D)(lo hi:Option Int):List D:=(xs.drop (HT.bX xs.length 0 lo)).take (HT.bX xs.length xs.length hi-HT.bX xs.length 0 lo)
noncomputable def Kn(d:D)(lo hi:Option Int)(h:MH):Option (D×MH):=match d with
 | .str z=>if z.length<=sizeLine then some (.str (Txt.slice z lo hi),h) else none
 | .tup xs=>if HT.bX xs.length 0 lo=0/\HT.bX xs.length xs.length hi=xs.length then none else some (.tup (cutD xs lo hi),h)
 | d=>(cL d h).map λp=>(.lv (cutD p.1 lo hi),h)
inductive K1(K:FR)(x:V)(lo hi:Option Int)(H:Hp)(Q:VK):Prop where
 | mk (ρ h d z h'):bz K ρ h H->Rep K ρ H x d->(Kn d lo hi h=some (z,h'))->(∀v H',cG K ρ H h' z v H'->Q v H')->K1 K x lo hi H Q
def M3(K:FR):V->Option Int->Option Int->Hp->VK->Prop:=λx lo hi H Q=>K1 K x lo hi H Q
theorem ar.oZ{K:FR}{ρ:Ad}{H:Hp}{vs:List V}{ds:List D}(l:ar K ρ H vs ds)(lo hi:Option Int):ar K ρ H (L2.oZ vs lo hi) (cutD ds lo hi):=by
 unfold L2.oZ cutD;rw[l.length];exact(l.drop _).take _
theorem EY:Ip X (M3 X.K):=by
 intro pins s σ H x v vl vu lo hi sl Q I rx hs pl pu hh;obtain⟨ρ,h,d,z,h',S,rd,ee,k⟩:=hh;have lists:oJ d=true->((cL d h).map λp=>(D.lv (cutD p.1 lo hi),h))=some (z,h')->∃T id,typeLookup (.type T) "__getitem__"=pure (some (.builtin id))/\s.TypeIs v T/\wpAny (model X.prog X.w) X.A (getItem v (.ref sl)) (EP X pins σ Q) X.xe s:=by
  intro nt e2;obtain⟨⟨xs,ws⟩,e1,e2⟩:=eC e2;cases e2;obtain⟨a,rfl,⟨vs,q,l⟩,_⟩:=g7 S rd e1;rw[nt] at q;cases q with
  | l q=>exact Dg pins s σ H _ v vl vu lo hi sl Q I rx hs pl pu ⟨a,vs,rfl,q,λp hp=>k _ _ (.lv S (l.oZ lo hi) hp)⟩
 cases d with
 | str x0=>
  unfold Kn at ee;dsimp only at ee
  by_cases c:x0.length<=sizeLine
  ·rw[Nj c] at ee;cases ee;cases rd with | str hs0=>
   exact FY pins s σ H _ v vl vu lo hi sl Q I rx hs pl pu ⟨x0,rfl,c,k _ _ (.here S (.str (tZ _ _ hs0)))⟩
  ·rw[Np c] at ee;cases ee
 | tup xs=>
  unfold Kn at ee;dsimp only at ee
  by_cases c:HT.bX xs.length 0 lo=0/\HT.bX xs.length xs.length hi=xs.length
  ·rw[Nj c] at ee;cases ee
  ·rw[Np c] at ee;cases ee;cases rd with | tup h0 l0=>
   exact FX pins s σ H _ v vl vu lo hi sl Q I rx hs pl pu ⟨_,_,rfl,h0.sq,by rw[l0.length];exact c,λp hp=>k _ _ (.tup S (l0.oZ lo hi) hp)⟩
 | _=>exact lists rfl ee
theorem Av{x:Str}{id:String}{p pos:Pos}{e:Expr}{es:List Expr}{f:Fn}{m:AM}(hc:fx X (.builtin id) f)(hg:Gl X x)(hm:X.mg x=none)(hv:bootBuiltins x=some (.builtin id))(ha:SA X (e::es) m)(hn:x≠"__name__":=by decide)(hdb:(x==("__debug__":Str))=false:=by ac_nf)
  (he:starEach (e::es) X.env=(false,eval e X.env)::starEach es X.env:=by ac_nf) (hpl:(backTo pos (starEach es X.env)).any (·.1)=false:=by ac_nf):SE X (.Call (.Name x p) (e::es) [] pos) (ai f m):=
 (oz hc hg hm hv ha hn hdb he hpl).imp λσ H Q ⟨ρ,δ,h,d,h',R,S,e,k⟩=>by
  obtain⟨⟨ds,h1⟩,e1,e2⟩:=bu e;exact⟨ρ,δ,h,ds,h1,R,S,e1,λvs ρ1 H1 T1 S1 r1=>⟨ρ1,h1,ds,d,h',S1,r1,e2,λv H' P=>k v H' (P.step T1)⟩⟩
theorem Au{x:Str}{id:String}{p pos:Pos}{e:Expr}{es:List Expr}{f:Fn}{m:AM}(hc:fx X (.type id) f)(hg:Gl X x)(hm:X.mg x=none)(hv:bootBuiltins x=some (.type id))(ha:SA X (e::es) m)(hn:x≠"__name__":=by decide)(hdb:(x==("__debug__":Str))=false:=by ac_nf)
  (he:starEach (e::es) X.env=(false,eval e X.env)::starEach es X.env:=by ac_nf) (hpl:(backTo pos (starEach es X.env)).any (·.1)=false:=by ac_nf):SE X (.Call (.Name x p) (e::es) [] pos) (ai f m):=
 (iH hc hg hm hv ha hn hdb he hpl).imp λσ H Q ⟨ρ,δ,h,d,h',R,S,e,k⟩=>by
  obtain⟨⟨ds,h1⟩,e1,e2⟩:=bu e;exact⟨ρ,δ,h,ds,h1,R,S,e1,λvs ρ1 H1 T1 S1 r1=>⟨ρ1,h1,ds,d,h',S1,r1,e2,λv H' P=>k v H' (P.step T1)⟩⟩
noncomputable def bW:Fn:=λds h=>match ds with
 | [.str z]=>if z.length<=sizeLine then some (.int z.length,h) else none
 | [d]=>match cZ d h with
  | some kvs=>some (.int kvs.length,h)
  | none=>(cL d h).map λp=>(.int p.1.length,h)
 | _=>none
noncomputable def Hx:Fn:=λds h=>match ds with
 | [.int i]=>some (.int (if i < 0 then -i else i),h)
 | _=>none
noncomputable def K9(d:D)(h:MH):Option String:=match d with
 | .bx=>some "NoneType"
 | .bl _=>some "bool"
 | .int _=>some "int"
 | .str _=>some "str"
 | .tup _=>some "tuple"
 | .lv _=>some "list"
 | .dv _=>some "dict"
 | .ob n=>match h[n]? with
  | some (.lst _)=>some "list"
  | some (.dct _)=>some "dict"
  | _=>none
 | _=>none
noncomputable def xu(t n:String):Bool:=t==n||(t=="bool"&&n=="int")
noncomputable def dg:Fn:=λds h=>match ds with
 | [d,.ty n]=>if n∈["int","str","bool","tuple","list","dict"] then(K9 d h).map λt=>(.bl (xu t n),h) else none
 | _=>none
noncomputable def cv:Fn:=λds h=>match ds with
 | [d]=>(cL d h).map λp=>(.tup p.1,h)
 | _=>none
noncomputable def zH:List D->Option (List Bool)
 | []=>some []
 | .bl b::r=>(zH r).map λbs=>b::bs
 | _=>none
noncomputable def uX:Fn:=λds h=>match ds with
 | [d]=>(dX d h).bind λxs=>(zH xs).map λbs=>(.bl (bs.all id),h)
 | _=>none
theorem rep1{K:FR}{ρ:Ad}{H:Hp}{vs:List V}{d:D}(l:ar K ρ H vs [d]):∃v,vs=[v]/\Rep K ρ H v d:=by
 cases l with
 | cons r l=>cases l;exact⟨_,rfl,r⟩
theorem rep2{K:FR}{ρ:Ad}{H:Hp}{vs:List V}{d e:D}(l:ar K ρ H vs [d,e]):∃v u,vs=[v,u]/\Rep K ρ H v d/\Rep K ρ H u e:=by
 cases l with
 | cons r l=>cases l with
  | cons r' l=>cases l;exact⟨_,_,rfl,r,r'⟩
theorem HF:fx X (.builtin "len") bW:=by
 intro pins s σ H xs us Q I r hh;obtain⟨ρ,h,ds,z,h',S,l,ee,k⟩:=hh
 match ds,l,ee with
 | [],_,ee=>cases ee
 | _::_::_,_,ee=>exact absurd ee (by unfold bW;split <;> simp_all)
 | [d],l,ee=>
  obtain⟨v,rfl,rd⟩:=rep1 l;have oth:(match cZ d h with | some kvs=>some (D.int kvs.length,h) | none=>(cL d h).map λp=>(D.int p.1.length,h))=some (z,h')->wpAny (model X.prog X.w) X.A (call (.builtin "len") us) (EP X pins σ Q) X.xe s:=by
   intro ee;cases q:cZ d h with
   | some kvs=>
    rw[q] at ee;cases ee;obtain⟨a,ws,rfl,ha,lk⟩:=kr S rd q;refine zE pins s σ H _ us Q I r ⟨a,ws,rfl,ha,k _ _ ?_⟩;rw[lk.length];exact .here S (.int _)
   | none=>
    rw[q] at ee;obtain⟨⟨ys,w⟩,e1,e2⟩:=eC ee;cases e2;obtain⟨a,vs,rfl,hq,l2⟩:=mS S rd e1;refine tj pins s σ H _ us Q I r ⟨a,vs,rfl,hq,k _ _ ?_⟩;rw[l2.length];exact .here S (.int _)
  cases d with
  | str x0=>
   unfold bW at ee;dsimp only at ee
   by_cases c:x0.length<=sizeLine
   ·rw[Nj c] at ee;cases ee;cases rd;exact tf pins s σ H _ us Q I r ⟨x0,rfl,c,k _ _ (.here S (.int _))⟩
   ·rw[Np c] at ee;cases ee
  | _=>exact oth ee
theorem HH:fx X (.builtin "abs") Hx:=by
 intro pins s σ H xs us Q I r hh;obtain⟨ρ,h,ds,z,h',S,l,ee,k⟩:=hh
 match ds,l,ee with
 | [],_,ee=>cases ee
 | d::_::_,_,ee=>cases d <;> exact bV ee
 | [d],l,ee=>
  obtain⟨v,rfl,rd⟩:=rep1 l;cases rd <;> first |(exact bV ee) | skip
  cases ee;exact Ct pins s σ H _ us Q I r ⟨_,rfl,k _ _ (.here S (.int _))⟩
theorem iz:fx X (.type "tuple") cv:=by
 intro pins s σ H xs us Q I r hh;obtain⟨ρ,h,ds,z,h',S,l,ee,k⟩:=hh
 match ds,l,ee with
 | [],_,ee=>cases ee
 | _::_::_,_,ee=>cases ee
 | [d],l,ee=>
  obtain⟨v,rfl,rd⟩:=rep1 l;obtain⟨⟨ys,w⟩,e1,e2⟩:=eC ee;cases e2;obtain⟨a,rfl,⟨vs,q,l2⟩,_⟩:=g7 S rd e1;refine p6 pins s σ H _ us Q I r ⟨a,vs,rfl,?_⟩;generalize hb:oJ d=b at q;cases q with
  | l q=>exact .inl ⟨q,λp hp=>k _ _ (.tup S l2 hp)⟩
  | t q=>
   refine .inr ⟨q,k _ _ ?_⟩;cases rd <;> first |(cases hb;done) | skip
   cases e1;exact .here S (.tup ‹_› ‹_›)
theorem Ic{K:FR}{ρ:Ad}{H:Hp}:∀{vs:List V} {xs:List D} {bs:List Bool},ar K ρ H vs xs->zH xs=some bs->vs=bs.map V.bl:=by
 intro vs
 induction vs with
 | nil=>intro xs bs a e;cases a;cases e;rfl
 | cons v vs ih=>
  intro xs bs a e;cases a with | cons r l=>
  cases r <;> first |(cases e;done) | skip
  obtain⟨bs',e1,e2⟩:=eC e;cases e2;rw[ih l e1];rfl
theorem o6(hc:X.calm=true):fx X (.builtin "all") uX:=by
 intro pins s σ H xs us Q I r hh;obtain⟨ρ,h,ds,z,h',S,l,ee,k⟩:=hh
 match ds,l,ee with
 | [],_,ee=>cases ee
 | _::_::_,_,ee=>cases ee
 | [d],l,ee=>
  obtain⟨v,rfl,rd⟩:=rep1 l;obtain⟨ys,e1,e2⟩:=bu ee;obtain⟨bs,e3,e4⟩:=eC e2;cases e4;obtain⟨a,vs,rfl,ha,l2⟩:=dH S rd e1;rw[Ic l2 e3] at ha;exact Cs hc pins s σ H _ us Q I r ⟨a,bs,rfl,eW.of ha,k _ _ (.here S (.bl _))⟩
theorem xT{K:FR}{t n:String}(ht:t∈["NoneType","bool","int","str","tuple","list","dict"])(hn:n∈["int","str","bool","tuple","list","dict"]):PySem.W.kitOne K (.type t) (.type n)=some (xu t n):=by
 simp only[NA,List.mem_nil_iff,QQ] at ht hn;rcases ht with rfl | rfl | rfl | rfl | rfl | rfl | rfl <;> rcases hn with rfl | rfl | rfl | rfl | rfl | rfl <;> rfl
theorem wR{ds:List D}{z:D}{h h':MH}(ee:dg ds h=some (z,h')):∃d n t,ds=[d,.ty n]/\n∈["int","str","bool","tuple","list","dict"]/\K9 d h=some t/\z=.bl (xu t n)/\h'=h:=by
 unfold dg at ee
 split at ee
 ·split at ee
  ·obtain⟨t,e1,e2⟩:=eC ee;cases e2;exact⟨_,_,t,rfl,‹_›,e1,rfl,rfl⟩
  ·cases ee
 ·cases ee
theorem FD{K:FR}{ρ:Ad}{H:Hp}{h:MH}{v:V}{d:D}{t:String}(S:bz K ρ h H)(rd:Rep K ρ H v d)(e1:K9 d h=some t):t∈["NoneType","bool","int","str","tuple","list","dict"]/\(kH K H v (.type t)\/t="tuple"/\∃a vs,v=.ref a/\je K H a vs):=by
 cases rd with
 | bx=>cases e1;exact⟨by decide,.inl .bx⟩
 | bl b=>cases e1;exact⟨by decide,.inl (.bl b)⟩
 | int i=>cases e1;exact⟨by decide,.inl (.int i)⟩
 | str h0=>cases e1;exact⟨by decide,.inl (.str _)⟩
 | ty _=>exact bV e1
 | ro _ _=>exact bV e1
 | lv h0 _ _=>cases e1;exact⟨by decide,.inl (.lst h0)⟩
 | dv h0 _ _=>cases e1;exact⟨by decide,.inl (.dK h0)⟩
 | tup h0 l0=>cases e1;exact⟨by decide,.inr ⟨rfl,_,_,rfl,h0.sq⟩⟩
 | @ob a m hm=>
  unfold K9 at e1;dsimp only at e1;cases q:h[m]? with
  | none=>rw[q] at e1;cases e1
  | some o=>
   rw[q] at e1;have x:=S.at_ m a o hm q;cases o with
   | lst _=>cases e1;obtain⟨vs,e3,_⟩:=x;exact⟨by decide,.inl (.lst e3)⟩
   | dct _=>cases e1;obtain⟨vs,e3,_⟩:=x;exact⟨by decide,.inl (.dK e3)⟩
   | dcH _=>exact bV e1
theorem bO:fx X (.builtin "isinstance") dg:=by
 intro pins s σ H xs us Q I r hh;obtain⟨ρ,h,ds,z,h',S,l,ee,k⟩:=hh;obtain⟨d,n,t,rfl,hn,e1,rfl,rfl⟩:=wR ee;obtain⟨v,u,rfl,rd,ru⟩:=rep2 l;cases ru;have fin:=k (.bl (xu t n)) H (.here S (.bl _));obtain⟨hm,hty |⟨rfl,a,vs,rfl,hq⟩⟩:=FD S rd e1
 ·exact Cr pins s σ H _ us Q I r ⟨v,n,_,_,rfl,hty,xT hm hn,fin⟩
 ·obtain⟨u1,u2,rfl,r1,r2⟩:=Vals.two r;obtain rfl:u1=Value.ref a:=r1;obtain rfl:u2=Value.type n:=r2;obtain⟨its,_,⟨o,h1,h2,_⟩,_⟩:=I.tuple hq;exact OC Tn I.tP ⟨o,h1,h2⟩ (xT (t:="tuple") (by decide) hn) (λz=>nomatch z) λtk=>⟨.bl _,H,I.tok tk,rfl,fin⟩
noncomputable def kG(m:AM):AM:=λδ h=>(m δ h).bind λp=>match p.1 with
 | [d]=>(cL d p.2).map λq=>(q.1,p.2)
 | _=>none
theorem jL(hg:Gl X x)(hm:X.mg x=none)(hv:bootBuiltins x=some (.type "list"))(ha:SA X [e] m)(hl:kO m 1)(hn:x≠"__name__":=by decide)(hdb:(x==("__debug__":Str))=false:=by ac_nf)(he:starEach [e] X.env=(false,eval e X.env)::starEach [] X.env:=by ac_nf)(hpl:(backTo pos (starEach [] X.env)).any (·.1)=false:=by ac_nf):mE X (.Call (.Name x p) [e] [] pos) (kG m):=
 (iH td hg hm hv ha hn hdb he hpl).imp λσ H Q zz=>by
  obtain⟨ρ,δ,h,d,h',R,S,e,k⟩:=zz;obtain⟨⟨ds,h1⟩,e1,e2⟩:=bu e;refine⟨ρ,δ,h,ds,h1,R,S,e1,λvs ρ1 H1 T1 S1 r1=>?_⟩;obtain⟨d,rfl⟩:=PF.mp (hl _ _ _ _ e1);obtain⟨⟨ys,w⟩,e3,e4⟩:=eC e2;cases e4;obtain⟨v,rfl,rd⟩:=rep1 r1;obtain⟨a,ws,rfl,hq,l2⟩:=mS S1 rd e3;exact⟨a,ws,rfl,hq,λl hl=>k ρ1 H1 l ws T1 S1 hl l2⟩
noncomputable def p4(o i v:D)(h:MH):Option MH:=match o with
 | .ob n=>match h[n]? with
  | some (.lst xs)=>match i with
   | .int j=>(uR xs.length j).map λp=>h.set n (.lst (xs.set p v))
   | _=>none
  | some (.dct kvs)=>(wH i).bind λk=>if kvs.length < sizeLine then some (h.set n (.dct (putD kvs k v))) else none
  | _=>none
 | _=>none
noncomputable def pY(o i:EM):GM:=λv δ h=>(o δ h).bind λp=>(i δ p.2).bind λq=>(p4 p.1 q.1 v q.2).map λh'=>(δ,h')
inductive Fq(K:FR)(o i v:V)(H:Hp)(Q:Hp->Prop):Prop where
 | mk (ρ h a b c h'):bz K ρ h H->Rep K ρ H o a->Rep K ρ H i b->Rep K ρ H v c->(p4 a b c h=some h')->(∀ρ' H',cF ρ H ρ' H'->bz K ρ' h' H'->Q H')->Fq K o i v H Q
def LX(K:FR):V->V->V->Hp->(Hp->Prop)->Prop:=λo i v H Q=>Fq K o i v H Q
theorem DG(hu:X.A.units+64 < cLine):Iv X (LX X.K):=by
 intro pins s σ H o i v ov iv u Q I ro ri rv hh;obtain⟨ρ,h,a,b,c,h',S,ra,rb,rc,ee,k⟩:=hh;cases ra <;> first |(exact bV ee) | skip
 rename_i a n hn;unfold p4 at ee;dsimp only at ee;cases q:h[n]? with
 | none=>rw[q] at ee;cases ee
 | some w=>
  rw[q] at ee;have x:=S.at_ n a w hn q;have ma:=Ni hn;cases w with
  | lst xs=>
   dsimp only at ee;cases rb <;> first |(exact bV ee) | skip
   rename_i j;obtain⟨p,e1,e2⟩:=eC ee;cases e2;obtain⟨vs,e3,l⟩:=x;have T:cF ρ H ρ (upd H a (.lst (vs.set p v))):=cF.wrote S ma;exact set_list pins s σ H _ _ v ov iv u Q I ro ri rv ⟨a,vs,j,p,rfl,rfl,e3,by rw[l.length];exact e1,k ρ _ T (S.wrote hn ⟨_,aT,(l.set rc p).mono T.toCh⟩)⟩
  | dct kvs=>
   dsimp only at ee;obtain⟨ky,e1,e2⟩:=bu ee
   by_cases z:kvs.length < sizeLine
   ·rw[Nj z] at e2;cases e2;obtain⟨us,e3,l⟩:=x;have ek:=mZ rb e1;subst ek;obtain rfl:ov=Value.ref a:=ro;have T:cF ρ H ρ (upd H a (.dK (putK us ky v))):=cF.wrote S ma;exact zx (by lia) I (EU.k e3 (by rw[l.length];exact z)) ri rv λs' I'=>⟨_,I',k ρ _ T (S.wrote hn ⟨_,aT,(l.put rc).mono T.toCh⟩)⟩
   ·rw[Np z] at e2;cases e2
  | dcH _=>exact bV ee
theorem kX (hu:X.A.units+64 < cLine) (ho:SE X o mo) (hi:SE X i mi) (ha:∀v,assign (.Subscript o i pos) X.env v=(do
   let ov<-holding [v] (eval o X.env);let iv<-holding [v,ov] (eval i X.env)
   standAt pos
   holding [v,ov,iv] (setItem ov iv v)
   release [v,ov,iv] []):=by intro _;ac_nf):SG X (.Subscript o i pos) (pY mo mi):=
 (GG ho hi (DG hu) ha).imp λv σ H Q ⟨ρ,δ,h,d,δ',h',R,S,r,e,k⟩=>by
  obtain⟨⟨x,h1⟩,e1,e2⟩:=bu e;obtain⟨⟨y,h2⟩,e3,e4⟩:=bu e2;obtain⟨h3,e5,e6⟩:=eC e4;cases e6;exact⟨ρ,δ,h,x,h1,R,S,e1,λov H1 ⟨ρ1,T1,S1,r1⟩=>⟨ρ1,δ,h1,y,h2,R.mono T1,S1,e3,λiv H2 ⟨ρ2,T2,S2,r2⟩=>
   ⟨ρ2,h2,x,y,d,_,S2,r1.mono T2,r2,r.mono (T1.trans T2).toCh,e5,λρ3 H3 T3 S3=>k ρ3 H3 σ (T1.trans (T2.trans T3)) S3 (R.mono (T1.trans (T2.trans T3)).toCh)⟩⟩⟩
abbrev Iz:=D->List D->MH->Option (D×MH)
inductive ML(K:FR)(f:Iz)(x:V)(vs:List V)(H:Hp)(Q:VK):Prop where
 | mk (ρ h d ds z h'):bz K ρ h H->Rep K ρ H x d->ar K ρ H vs ds->(f d ds h=some (z,h'))->(∀v H',cG K ρ H h' z v H'->Q v H')->ML K f x vs H Q
def rM(K:FR)(f:Iz):V->List V->Hp->VK->Prop:=λx vs H Q=>ML K f x vs H Q
noncomputable def eM(isT:D->MH->Bool)(f:Iz)(o:EM)(m:AM):EM:=λδ h=>(o δ h).bind λp=>if isT p.1 p.2 then(m δ p.2).bind λq=>f p.1 q.1 q.2 else none
noncomputable def fU(d:D)(h:MH):Bool:=(dX d h).isSome
noncomputable def dG:Iz:=λd ds h=>match d,ds with
 | .ob n,[y]=>match h[n]? with
  | some (.lst xs)=>if xs.length < sizeLine then some (.bx,h.set n (.lst (xs++[y]))) else none
  | _=>none
 | _,_=>none
theorem nu{K:FR}{ρ:Ad}{H:Hp}{h:MH}{v:V}{d:D}(S:bz K ρ h H)(r:Rep K ρ H v d)(e:fU d h=true):K8 K "list" v H:=by
 obtain⟨xs,e1⟩:=Se.mp e;obtain⟨a,vs,rfl,ha,_⟩:=dH S r e1;exact .inl ⟨rfl,vs,eW.of ha⟩
theorem Dk{T id:String}{name:Str}{o e:Expr}{es:List Expr}{apos cpos:Pos}{f:Iz}{mo:EM}{m:AM}{isT:D->MH->Bool}(hT:∀{K:FR} {ρ:Ad} {H:Hp} {h:MH} {v:V} {d:D},bz K ρ h H->Rep K ρ H v d->isT d h=true->K8 K T v H)
  (pa:PlainAttrs T) (slot:Slot T name id) (hty:typeOf (.builtin id)=pure (.type "method_descriptor")) (hm:Ll X id (rM X.K f)) (ho:SE X o mo) (ha:SA X (e::es) m)
  (hbase:attributeBase o name X.env (eval o X.env)=eval o X.env:=by ac_nf)
  (hfew:((backTo cpos (starEach (e::es) X.env)).all (λx=>!x.1)&&(backToKw cpos (keywordEach [] X.env)).all (λx=>x.1.isSome)
   &&decide ((e::es).length+([]:List Keyword).length+(if([]:List Keyword).isEmpty then 0 else 1) < 30))=true:=by ac_nf)
  (hline:(apos.endLine==cpos.line)=true:=by ac_nf) (hs:starEach (e::es) X.env=(false,eval e X.env)::starEach es X.env:=by ac_nf) (hplain:(backTo cpos (starEach es X.env)).any (·.1)=false:=by ac_nf):
  SE X (.Call (.Attribute o name apos) (e::es) [] cpos) (eM isT f mo m):=(JO pa slot hty hm ho ha hbase hfew hline hs hplain).imp λσ H Q ⟨ρ,δ,h,d,h',R,S,e,k⟩=>by
 obtain⟨⟨x,h1⟩,e1,e2⟩:=bu e;dsimp only at e2
 by_cases c:isT x h1=true
 ·rw[Nj c] at e2;obtain⟨⟨ds,h2⟩,e3,e4⟩:=bu e2;exact⟨ρ,δ,h,x,h1,R,S,e1,λv H1 ⟨ρ1,T1,S1,r1⟩=>⟨hT S1 r1 c,ρ1,δ,h1,ds,h2,R.mono T1,S1,e3,λvs ρ2 H2 T2 S2 r2=>⟨ρ2,h2,x,ds,d,h',S2,r1.mono T2,r2,e4,λw H3 p=>k w H3 (p.step (T1.trans T2))⟩⟩⟩
 ·rw[Np c] at e2;cases e2
theorem Bm{K:FR}{ρ:Ad}{H:Hp}{h:MH}{n:Nat}{xs:List D}{v:V}(S:bz K ρ h H)(r:Rep K ρ H v (.ob n))(q:h[n]?=some (.lst xs)):∃a vs,v=.ref a/\ρ.ob[n]?=some a/\H a=some (.lst vs)/\ar K ρ H vs xs:=by
 cases r with
 | ob hn=>obtain⟨vs,e,l⟩:=S.at_ n _ _ hn q;exact⟨_,vs,rfl,hn,e,l⟩
theorem lx:Ll X "list.append" (rM X.K dG):=by
 intro pins s σ H x xs v us Q I rx rs hh;obtain⟨ρ,h,d,ds,z,h',S,rd,l,ee,k⟩:=hh;cases d <;> first |(exact bV ee) | skip
 rename_i n
 match ds,l,ee with
 | [],_,ee=>exact bV ee
 | _::_::_,_,ee=>exact bV ee
 | [y],l,ee=>
  unfold dG at ee;dsimp only at ee;cases q:h[n]? with
  | none=>rw[q] at ee;cases ee
  | some w=>
   rw[q] at ee;cases w with
   | dct _=>exact bV ee
   | dcH _=>exact bV ee
   | lst ys=>
    dsimp only at ee
    by_cases c:ys.length < sizeLine
    ·rw[Nj c] at ee;cases ee;obtain⟨a,vs,rfl,hn,e1,l1⟩:=Bm S rd q;obtain⟨u,rfl,ru⟩:=rep1 l;have T:cF ρ H ρ (upd H a (.lst (vs++[u]))):=cF.wrote S (Ni hn);exact qG pins s σ H _ _ v us Q I rx rs ⟨a,vs,u,rfl,rfl,e1,by rw[l1.length];exact c,k _ _ ⟨ρ,T,S.wrote hn ⟨_,aT,(l1.snoc ru).mono T.toCh⟩,.bx⟩⟩
    ·rw[Np c] at ee;cases ee
end Sm
namespace Sb
open PySem L2 PySem.Spec PyProof.Rows
open Builtin.SmallTypes (nextOf ownedTupleIsFree ownedTupleHandOut)
noncomputable def kn:Bool->String
 | true=>"list_iterator"
 | false=>"tuple_iterator"
def At(b:Bool)(h:Heap)(j l:Addr)(i:Nat):Prop:=∃o,h.get? j=some o/\o.cls=.type (kn b)/\o.data=.fields #[.ref l,.int i 0]
def Of(b:Bool)(h:Heap)(l:Addr)(items:Array Value):Prop:=match b with
 | true=>h.IsList l items
 | false=>h.IsTuple l items
theorem At.up(x:At b h j l i)(k:∀o,h.get? j=some o->h'.get? j=some o):At b h' j l i:=let⟨o,e,r⟩:=x;⟨o,k o e,r⟩
theorem At.lt(x:At b h j l i):j < h.objs.size:=let⟨_,e,_⟩:=x;Nt e
theorem Of.data(x:Of b h l items):∃o n,h.get? l=some o/\o.data=.seq items n:=by
 cases b with
 | true=>obtain⟨o,e,_,n,d⟩:=(show h.IsList l items from x);exact⟨o,n,e,d⟩
 | false=>obtain⟨o,e,_,n,d⟩:=(show h.IsTuple l items from x);exact⟨o,n,e,d⟩
theorem Of.up(x:Of b h l items)(k:∀o,h.get? l=some o->h'.get? l=some o):Of b h' l items:=by
 cases b with
 | true=>obtain⟨o,e,r⟩:=(show h.IsList l items from x);exact⟨o,k o e,r⟩
 | false=>obtain⟨o,e,r⟩:=(show h.IsTuple l items from x);exact⟨o,k o e,r⟩
theorem xM(hj:At b s.heap j l i)(hl:Of b s.heap l items)(hx:items[i]?=some x)(k:∀h',At b h' j l (i+1)->Heap.SameBut j s.heap h'->Q x {s with heap:=h'}):wpAny (model P w) A (nextOf (.ref j)) Q E s:=by
 cases b with
 | true=>exact wpAny_nextOf_list_item (show s.heap.IsListIter j l i from hj) (show s.heap.IsList l items from hl) hx k
 | false=>
  have hj':s.heap.IsTupleIter j l i:=hj;obtain⟨o,eo,ec,ed⟩:=hj';obtain⟨ol,el,_,nl,edl⟩:=(show s.heap.IsTuple l items from hl);unfold nextOf;refine Nb (Oh (name:=Str.ofString "__next__") (show s.TypeIs (.ref j) "tuple_iterator" from⟨o,eo,ec⟩) P9
   (Oj P9 (show s.TypeIs (.ref j) "tuple_iterator" from⟨o,eo,ec⟩) SD ?_ (Su _)))
  show wpAny _ _ (field (.ref j) 0 >>=_) _ _ s;refine Nb (Oi eo ed (x:=.ref l) rfl ?_);show wpAny _ _ (if(Value.ref l==Value.none)=true then _ else _) _ _ s;rw[Np (show ¬((Value.ref l==Value.none)=true) by exact NZ)];show wpAny _ _ (field (.ref j) 1 >>=_) _ _ s;refine Nb (Oi eo ed (x:=.int i 0) rfl ?_);show wpAny _ _ (seqItems? (.ref l) >>=_) _ _ s;refine Nb (OD el edl ?_);simp only[NP,hx];refine Nb (SU eo ed (by simp) (Nf ⟨x,rfl,Nf (k _ ?_ (Qk ..))⟩));exact⟨_,OP _ eo (Obj.isFreed_of_fields (QT ed _)),(Obj.cls_mapFields ..).trans ec,by rw[QT ed];simp[rawInt]⟩
theorem Bu(hh:A.handled=none)(hj:At b s.heap j l i)(hl:Of b s.heap l items)(hx:items[i]?=none)(k:∀h' e,Heap.ExtBut j s.heap h'->(∃o,h'.get? e=some o/\o.cls=.type "StopIteration")->E (.ref e) {s with heap:=h'}):wpAny (model P w) A (nextOf (.ref j)) Q E s:=by
 cases b with
 | true=>exact wpAny_nextOf_list_end hh (show s.heap.IsListIter j l i from hj) (show s.heap.IsList l items from hl) hx k
 | false=>
  have hj':s.heap.IsTupleIter j l i:=hj;obtain⟨o,eo,ec,ed⟩:=hj';obtain⟨ol,el,_,nl,edl⟩:=(show s.heap.IsTuple l items from hl);unfold nextOf;refine Nb (Oh (name:=Str.ofString "__next__") (show s.TypeIs (.ref j) "tuple_iterator" from⟨o,eo,ec⟩) P9
   (Oj P9 (show s.TypeIs (.ref j) "tuple_iterator" from⟨o,eo,ec⟩) SD ?_ (Su _)))
  show wpAny _ _ (field (.ref j) 0 >>=_) _ _ s;refine Nb (Oi eo ed (x:=.ref l) rfl ?_);show wpAny _ _ (if(Value.ref l==Value.none)=true then _ else _) _ _ s;rw[Np (show ¬((Value.ref l==Value.none)=true) by exact NZ)];show wpAny _ _ (field (.ref j) 1 >>=_) _ _ s;refine Nb (Oi eo ed (x:=.int i 0) rfl ?_);show wpAny _ _ (seqItems? (.ref l) >>=_) _ _ s;refine Nb (OD el edl ?_);simp only[NP,hx];refine Nb (Pr (Nb (SU eo ed (by simp) ?_)));show wpAny _ _ (newExc (.type "StopIteration") [] >>=_) _ _ _;refine Nb ?_;simp only[newExc,newTuple];refine Nb (Og ?_ (by size_fits));refine Nb (m:=firstArgMember _ _) (wpAny_of_eq (a:=Value.none) (by first |(simp only[firstArgMember];rfl) | rfl) ?_);refine Og ?_ (by size_fits);simp only[raiseNew];refine Nb (wpAny_handled ?_)
  first | rw[hh] | rw[show A.in1.handled=none from hh]
  refine Nb (Nf (wpAny_throw (k _ _ (((Qk ..).extBut.push _).push _) ⟨_,Nu _ rfl,rfl⟩)))
open Builtin.SmallTypes (nextOf ownedTupleIsFree ownedTupleHandOut)
variable {P:Program} {w:World} {A:Around} {E:Value->Shared->Prop} {s:Shared} {b c:Bool}
theorem BE(x:Of b s.heap l items)(k:Q (.ref s.heap.objs.size) {s with heap:=s.heap.push {cls:=.type (kn b),data:=.fields #[.ref l,.int 0 0]}}):wpAny (model P w) A (pyIter (.ref l)) Q E s:=by
 cases b with
 | true=>exact Q6 (show s.heap.IsList l items from x) k
 | false=>exact P4 (show s.heap.IsTuple l items from x) k
theorem zv{e j l:Addr}{i:Nat}{items:Array Value}{x old:Value}{Q:Option Value->Shared->Prop}(hE:IsEnum s.heap e j i old)(hj:At b s.heap j l i)(hl:Of b s.heap l items)(hx:items[i]?=some x)(ne:e≠j)
  (k:∀h',IsEnumOut h' e j ((i:Int)+1) x s.heap.objs.size->At b h' j l (i+1)->h'.get? s.heap.objs.size=some {cls:=.type "tuple",data:=.seq #[.int i s.toks,x]}->h'.objs.size=s.heap.objs.size+1->
   (∀a o,a≠e->a≠j->s.heap.get? a=some o->h'.get? a=some o)->Q (some (.ref s.heap.objs.size)) {s with heap:=h',toks:=s.toks+1}):wpAny (model P w) A (pyNext (.ref e)) Q E s:=by
 have hT:s.TypeIs (.ref e) "enumerate":=⟨_,hE,rfl⟩;unfold pyNext;refine Nb (QD (Oh (name:=Str.ofString "__next__") hT P7 (Oj P7 hT F.entry_enumerate_next ?_ (TB _))));obtain⟨hp,g,d,tk,os⟩:=s;show wpAny _ _ (field (.ref e) 2 >>=_) _ _ _;refine Nb (Oi hE rfl (x:=.ref j) rfl (Nb (xM hj hl hx λk₁ j₁ t₁=>?_)));replace t₁:Heap.SameBut j hp k₁:=t₁;have E₁:IsEnum k₁ e j i old:=(t₁.2 e ne).trans hE;show wpAny _ _ (field (.ref e) 3 >>=_) _ _ ⟨k₁,g,d,tk,os⟩;refine Nb (Oi E₁ rfl (x:=rawInt i) rfl ?_);show wpAny _ _ (field (.ref e) 4 >>=_) _ _ ⟨k₁,g,d,tk,os⟩;refine Nb (Oi E₁ rfl (x:=.none) rfl ?_);show wpAny _ _ (mkInt i >>=_) _ _ ⟨k₁,g,d,tk,os⟩;refine Nb (wpAny_mkInt ?_);show wpAny _ _ (setField (.ref e) 3 (rawInt ((i:Int)+1)) >>=_) _ _ ⟨k₁,g,d,tk+1,os⟩;refine Nb (wpAny_setField_rec E₁ (by simp) λk₂ E₂ t₂=>?_);replace t₂:Heap.SameBut e k₁ k₂:=t₂;replace E₂:IsEnum k₂ e j ((i:Int)+1) old:=E₂;show wpAny _ _ (setField (.ref e) 4 .none >>=_) _ _ ⟨k₂,g,d,tk+1,os⟩;refine Nb (wpAny_setField_rec E₂ (by simp) λk₃ E₃ t₃=>?_);replace t₃:Heap.SameBut e k₂ k₃:=t₃;replace E₃:IsEnum k₃ e j ((i:Int)+1) old:=E₃;show wpAny _ _ (newTuple [.int i tk,x] >>=_) _ _ ⟨k₃,g,d,tk+1,os⟩;refine Nb (Rw ?_);have E₄:IsEnum (k₃.push {cls:=.type "tuple",data:=.seq #[.int i tk,x]}) e j ((i:Int)+1) old:=Nd _ E₃;generalize eq₄:k₃.push {cls:=.type "tuple",data:=.seq #[.int i tk,x]}=k₄ at E₄;have sz:k₃.objs.size=hp.objs.size:=by rw[t₃.1,t₂.1,t₁.1]
 have lte:e < hp.objs.size:=Nt hE;have tp:k₄.get? hp.objs.size=some {cls:=.type "tuple",data:=.seq #[.int i tk,x]}:=by rw[<-eq₄,<-sz];exact Nu _ rfl
 have sz₄:k₄.objs.size=hp.objs.size+1:=by rw[<-eq₄,N6,sz]
 have up₄:∀a o,a≠e->a≠j->hp.get? a=some o->k₄.get? a=some o:=λa o z1 z2 q=>by
  rw[<-eq₄];exact Nd _ (t₃.extBut a o z1 (t₂.extBut a o z1 (t₁.extBut a o z2 q)))
 have j₄:At b k₄ j l (i+1):=j₁.up λo q=>by rw[<-eq₄];exact Nd _ (t₃.extBut j o (Ox ne) (t₂.extBut j o (Ox ne) q))
 show wpAny _ _ (ownedTupleIsFree (.ref e) >>=_) _ _ ⟨k₄,g,d,tk+1,os⟩;rw[sz];clear eq₄ E₃ t₃ E₂ t₂ E₁ t₁ j₁ sz k₃ k₂ k₁;refine Nb ?_;unfold ownedTupleIsFree;refine Nb (Oi E₄ rfl (x:=.none) rfl (Nf ?_));simp only[Ql];refine Nb (Pr (Nb (Oi E₄ rfl (x:=old) rfl (Nb (wpAny_setField_rec E₄ (by simp) λk₅ E₅ t₅=>?_)))));replace t₅:Heap.SameBut e k₄ k₅:=t₅;replace E₅:IsEnum k₅ e j ((i:Int)+1) x:=E₅;show wpAny _ _ (ownedTupleHandOut (.ref e) (.ref hp.objs.size) >>=_) _ _ ⟨k₅,g,d,tk+1,os⟩;refine Nb ?_;unfold ownedTupleHandOut;refine Nb (wpAny_setField_rec E₅ (by simp) λk₆ E₆ t₆=>?_);replace t₆:Heap.SameBut e k₅ k₆:=t₆;replace E₆:IsEnumOut k₆ e j ((i:Int)+1) x hp.objs.size:=E₆;refine wpAny_setField_rec E₆ (by simp) λk₇ E₇ t₇=>?_;replace t₇:Heap.SameBut e k₆ k₇:=t₇;replace E₇:IsEnumOut k₇ e j ((i:Int)+1) x hp.objs.size:=E₇;have up:∀a o,a≠e->k₄.get? a=some o->k₇.get? a=some o:=λa o z q=>t₇.extBut a o z (t₆.extBut a o z (t₅.extBut a o z q));refine Nb (Rx (Nf ⟨_,rfl,Nf (k k₇ E₇ (j₄.up λo q=>up j o (Ox ne) q) (up _ _ (Pu lte) tp) ?_ λa o z1 z2 q=>up a o z1 (up₄ a o z1 z2 q))⟩));rw[t₇.1,t₆.1,t₅.1,sz₄]
theorem B4{e j l:Addr}{i:Nat}{items:Array Value}{old:Value}{Q:Option Value->Shared->Prop}(hh:A.handled=none)(hE:IsEnum s.heap e j i old)(hj:At b s.heap j l i)(hl:Of b s.heap l items)(hx:items[i]?=none)
  (k:∀h',Heap.ExtBut j s.heap h'->Q none {s with heap:=h'}):wpAny (model P w) A (pyNext (.ref e)) Q E s:=by
 have hT:s.TypeIs (.ref e) "enumerate":=⟨_,hE,rfl⟩;unfold pyNext;refine Nb (QD (Oh (name:=Str.ofString "__next__") hT P7 (Oj P7 hT F.entry_enumerate_next ?_ (TB _))));show wpAny _ _ (field (.ref e) 2 >>=_) _ _ _;refine Nb (Oi hE rfl (x:=.ref j) rfl (Nb (Bu hh hj hl hx λh' y he' ⟨o,ho,hc⟩=>?_)));exact Nb (PK (T:="StopIteration") (b:=true) ⟨o,ho,hc⟩ QS (Nf (k _ he')))
theorem zu(x:Of b s.heap l items)(k:∀h',IsEnum h' (s.heap.objs.size+1) s.heap.objs.size 0 .none->At b h' s.heap.objs.size l 0->h'.objs.size=s.heap.objs.size+2->(∀a o,s.heap.get? a=some o->h'.get? a=some o)->Q (.ref (s.heap.objs.size+1)) {s with heap:=h'}):
  wpAny (model P w) A (call (.type "enumerate") [.ref l]) Q E s:=by
 cases b with
 | true=>exact call_enumerate_list (show s.heap.IsList l items from x) k
 | false=>
  have mt:PySem.Meets (Builtin.«enumerate.__new__» ⟨[.type "enumerate",.ref l],[]⟩) (λ_ R s=>s.heap.IsTuple l items/\
    R (.ok (.ret (.ref (s.heap.push {cls:=.type "tuple_iterator",data:=.fields #[.ref l,.int 0 0]}).objs.size)))
     {s with heap:=(s.heap.push {cls:=.type "tuple_iterator",data:=.fields #[.ref l,.int 0 0]}).push {cls:=.type "enumerate",data:=.fields #[.none,.bool false,.ref s.heap.objs.size,rawInt 0,.none,.none]}}):=
   .of_wp λprog w A R s h=>by
    obtain⟨hp,g,d,tk,os⟩:=s;obtain⟨hl,h⟩:=h;have sub:=sub_enumerate;have hL:Heap.IsTuple (Shared.heap ⟨hp,g,d,tk,os⟩) l items:=hl;obtain⟨o0,e0,c0,n0,d0⟩:=id hL
    wp_walk
    refine wpAny_stack_any λst=>Nf ?_
    split
    ·rename_i c _ _ _ _ _;cases(c==Value.type "enumerate")
     ·wp_walk using P4 hL
      exact⟨_,rfl,h⟩
     ·wp_walk using P4 hL
      exact⟨_,rfl,h⟩
    ·wp_walk using P4 hL
     exact⟨_,rfl,h⟩
  refine callType_new F.called_enumerate (by decide) (F.typeCall_enumerate_1 _) (F.newCall_enumerate_1 _) (λobj=>F.args_object_init_2 obj _) F.entry_enumerate_new mt ⟨x,?_⟩;have z1:(s.heap.push {cls:=.type "tuple_iterator",data:=.fields #[.ref l,.int 0 0]}).objs.size=s.heap.objs.size+1:=N6 ..;show _/\_;rw[z1];have eE:IsEnum ((s.heap.push {cls:=.type "tuple_iterator",data:=.fields #[.ref l,.int 0 0]}).push
    {cls:=.type "enumerate",data:=.fields #[.none,.bool false,.ref s.heap.objs.size,rawInt 0,.none,.none]}) (s.heap.objs.size+1) s.heap.objs.size 0 .none:=by
   have q:=Nu (s.heap.push {cls:=.type "tuple_iterator",data:=.fields #[.ref l,.int 0 0]}) (o:={cls:=.type "enumerate",data:=.fields #[.none,.bool false,.ref s.heap.objs.size,rawInt 0,.none,.none]}) rfl;rw[z1] at q;exact q
  refine⟨⟨_,eE,rfl⟩,k _ eE ⟨_,Nd _ (Nu _ rfl),rfl,rfl⟩ (by rw[N6,z1]) λa o q=>Nd _ (Nd _ q)⟩
end Sb
namespace Sb
open PySem L2 PySem.Spec PyProof.Rows
open Builtin.SmallTypes (nextOf ownedTupleIsFree ownedTupleHandOut)
structure Zp(z T U p q l m:Addr):Prop where
 Tz:T≠z
 Uz:U≠z
 pz:p≠z
 qz:q≠z
 TU:T≠U
 Tp:T≠p
 Tq:T≠q
 Up:U≠p
 Uq:U≠q
 pq:p≠q
 lz:l≠z
 lU:l≠U
 lp:l≠p
 lq:l≠q
 mz:m≠z
 mU:m≠U
 mp:m≠p
 mq:m≠q
theorem zT (D:Zp z T U p q l m) (hz:IsZip s.heap z T U .none) (hT:IsPair s.heap T (.ref p) (.ref q)) (hU:IsPair s.heap U u v) (h1:At b s.heap p l i) (h2:At c s.heap q m i) (hl:Of b s.heap l xs) (hm:Of c s.heap m ys) (hx:xs[i]?=some x) (hy:ys[i]?=some y) (k:∀h',IsZip h' z T U (rawInt s.heap.objs.size)->IsPair h' U x y->At b h' p l (i+1)->At c h' q m (i+1)->IsPair h' s.heap.objs.size x y->h'.objs.size=s.heap.objs.size+1->
   (∀a o,a≠z->a≠U->a≠p->a≠q->s.heap.get? a=some o->h'.get? a=some o)->Q (some (.ref s.heap.objs.size)) {s with heap:=h'}):wpAny (model P w) A (pyNext (.ref z)) Q E s:=by
 have ty:s.TypeIs (.ref z) "zip":=⟨_,hz,rfl⟩;unfold pyNext;refine Nb (QD (Oh (name:=Str.ofString "__next__") ty Rq (Oj Rq ty F.entry_zip_next ?_ (F.args_zip_next_1 _))));show wpAny _ _ (field (.ref z) 2 >>=_) _ _ _;refine Nb (Oi hz rfl (x:=.bool false) rfl ?_);show wpAny _ _ (field (.ref z) 3 >>=_) _ _ _;refine Nb (Oi hz rfl (x:=.ref T) rfl (Nb (OD hT rfl ?_)));show wpAny _ _ (ownedTupleIsFree (.ref z) >>=_) _ _ _;refine Nb ?_;unfold ownedTupleIsFree;refine Nb (Oi hz rfl (x:=.none) rfl (Nf ?_));simp only[Ql];refine Nb (Pr (Nb (Oi hz rfl (x:=.ref U) rfl (Nb (wpAny_setField_rec hz (by simp) λk₁ z₁ t₁=>?_)))));replace z₁:IsZip k₁ z T U .ellipsis:=z₁;refine Nb ?_;simp only[List.zipIdx_cons,List.zipIdx_nil,RT,List.forIn_nil];refine Nb (Nb (RL ?_));show wpAny _ _ (nextOf (.ref p) >>=_) _ _ _;refine Nb (xM (h1.up λo e=>t₁.extBut _ o D.pz e) (hl.up λo e=>t₁.extBut _ o D.lz e) hx λk₂ p₂ t₂=>Nf ?_);have U₂:IsPair k₂ U u v:=t₂.extBut _ _ D.Up (t₁.extBut _ _ D.Uz hU);refine Nb (OD U₂ rfl (Nb (Rv U₂ λk₃ U₃ t₃=>Nb (Rx (Nf ?_)))));replace U₃:IsPair k₃ U x v:=U₃;refine Nb (Nb (RL ?_));show wpAny _ _ (nextOf (.ref q) >>=_) _ _ _;refine Nb (xM (h2.up λo e=>t₃.extBut _ o D.Uq.symm (t₂.extBut _ o D.pq.symm (t₁.extBut _ o D.qz e))) (hm.up λo e=>t₃.extBut _ o D.mU (t₂.extBut _ o D.mp (t₁.extBut _ o D.mz e))) hy λk₄ q₄ t₄=>Nf ?_);have U₄:IsPair k₄ U x v:=t₄.extBut _ _ D.Uq U₃;refine Nb (OD U₄ rfl (Nb (Rv U₄ λk₅ U₅ t₅=>Nb (Rx (Nf (Nf ?_))))));replace U₅:IsPair k₅ U x y:=U₅;refine Nb (OD U₅ rfl (Nb (Rw ?_)));have sz:k₅.objs.size=s.heap.objs.size:=by rw[t₅.1,t₄.1,t₃.1,t₂.1,t₁.1]
 have z₅:IsZip k₅ z T U .ellipsis:=t₅.extBut _ _ D.Uz.symm (t₄.extBut _ _ D.qz.symm (t₃.extBut _ _ D.Uz.symm (t₂.extBut _ _ D.pz.symm z₁)));have up₅:∀a o,a≠z->a≠U->a≠p->a≠q->s.heap.get? a=some o->k₅.get? a=some o:=λa o a1 a2 a3 a4 e=>t₅.extBut _ _ a2 (t₄.extBut _ _ a4 (t₃.extBut _ _ a2 (t₂.extBut _ _ a3 (t₁.extBut _ _ a1 e))));have p₅:At b k₅ p l (i+1):=p₂.up λo e=>t₅.extBut _ o D.Up.symm (t₄.extBut _ o D.pq (t₃.extBut _ o D.Up.symm e));have q₅:At c k₅ q m (i+1):=q₄.up λo e=>t₅.extBut _ o D.Uq.symm e;have zlt:z < k₅.objs.size:=Nt z₅;show wpAny _ _ (ownedTupleHandOut (.ref z) (.ref k₅.objs.size) >>=_) _ _ _;refine Nb ?_;unfold ownedTupleHandOut;have z₆:IsZip (k₅.push {cls:=.type "tuple",data:=.seq #[x,y]}) z T U .ellipsis:=Nd _ z₅;refine Nb (wpAny_setField_rec z₆ (by simp) λk₇ z₇ t₇=>?_);replace z₇:IsZip k₇ z T U (rawInt k₅.objs.size):=z₇;refine wpAny_setField_rec z₇ (by simp) λk₈ z₈ t₈=>?_;replace z₈:IsZip k₈ z T U (rawInt k₅.objs.size):=z₈;have up:∀a o,a≠z->k₅.get? a=some o->k₈.get? a=some o:=λa o a1 e=>t₈.extBut _ _ a1 (t₇.extBut _ _ a1 (Nd _ e));have T₈:IsPair k₈ k₅.objs.size x y:=t₈.extBut _ _ (Pu zlt) (t₇.extBut _ _ (Pu zlt) (Nu _ rfl));have s8:k₈.objs.size=k₅.objs.size+1:=by rw[t₈.1,t₇.1,N6]
 rw[sz] at z₈ T₈ s8;refine Nf ⟨_,rfl,Nf ?_⟩;show Q (some (.ref k₅.objs.size)) _;rw[sz];exact k k₈ z₈ (up _ _ D.Uz U₅) (p₅.up λo e=>up _ o D.pz e) (q₅.up λo e=>up _ o D.qz e) T₈ s8 λa o a1 a2 a3 a4 e=>up a o a1 (up₅ a o a1 a2 a3 a4 e)
theorem CU(hh:A.handled=none)(D:Zp z T U p q l m)(hz:IsZip s.heap z T U .none)(hT:IsPair s.heap T (.ref p) (.ref q))(hU:IsPair s.heap U u v)(h1:At b s.heap p l i)(h2:At c s.heap q m i)(hl:Of b s.heap l xs)(hm:Of c s.heap m ys)(he:xs[i]?=none\/ys[i]?=none)(k:∀h',(∀a o,a≠z->a≠U->a≠p->a≠q->s.heap.get? a=some o->h'.get? a=some o)->Q none {s with heap:=h'}):wpAny (model P w) A (pyNext (.ref z)) Q E s:=by
 have ty:s.TypeIs (.ref z) "zip":=⟨_,hz,rfl⟩;unfold pyNext;refine Nb (QD (Oh (name:=Str.ofString "__next__") ty Rq (Oj Rq ty F.entry_zip_next ?_ (F.args_zip_next_1 _))));have fin:∀h' e,(∀a o,a≠z->a≠U->a≠p->a≠q->s.heap.get? a=some o->h'.get? a=some o)->(∃o,h'.get? e=some o/\o.cls=.type "StopIteration")->
   (λe s'=>wpAny (model P w) A (isInstance e (.type "StopIteration")) (λr s''=>(if r=true then Q none s'' else E e s'')) E s') (.ref e) {s with heap:=h'}:=λh' e up ⟨o,ho,hc⟩=>
  PK (T:="StopIteration") (b:=true) ⟨o,ho,hc⟩ QS (by rw[Nj rfl];exact k h' up)
 show wpAny _ _ (field (.ref z) 2 >>=_) _ _ _;refine Nb (Oi hz rfl (x:=.bool false) rfl ?_);show wpAny _ _ (field (.ref z) 3 >>=_) _ _ _;refine Nb (Oi hz rfl (x:=.ref T) rfl (Nb (OD hT rfl ?_)));show wpAny _ _ (ownedTupleIsFree (.ref z) >>=_) _ _ _;refine Nb ?_;unfold ownedTupleIsFree;refine Nb (Oi hz rfl (x:=.none) rfl (Nf ?_));simp only[Ql];refine Nb (Pr (Nb (Oi hz rfl (x:=.ref U) rfl (Nb (wpAny_setField_rec hz (by simp) λk₁ z₁ t₁=>?_)))));replace z₁:IsZip k₁ z T U .ellipsis:=z₁;refine Nb ?_;simp only[List.zipIdx_cons,List.zipIdx_nil,RT,List.forIn_nil];refine Nb (Nb (RL ?_));show wpAny _ _ (nextOf (.ref p) >>=_) _ _ _;cases ex:xs[i]? with
 | none=>
  refine Nb (Bu hh (h1.up λo e=>t₁.extBut _ o D.pz e) (hl.up λo e=>t₁.extBut _ o D.lz e) ex λk₂ e t₂ ⟨oe,hoe,hce⟩=>?_);have z₂:IsZip k₂ z T U .ellipsis:=t₂ _ _ D.pz.symm z₁;have ez:e≠z:=λr=>by subst r;rw[z₂] at hoe;cases hoe;simp at hce
  refine wpAny_setField_rec z₂ (by simp) λk₃ _ t₃=>?_;refine Nb (PK (T:="StopIteration") (b:=true) ⟨oe,t₃.extBut _ _ ez hoe,hce⟩ QS (Nf (k _ λa o a1 _ a3 _ r=>t₃.extBut _ _ a1 (t₂ _ _ a3 (t₁.extBut _ _ a1 r)))))
 | some x=>
  have ey:ys[i]?=none:=by rcases he with r | r;rw[ex] at r;cases r;exact r
  refine Nb (xM (h1.up λo e=>t₁.extBut _ o D.pz e) (hl.up λo e=>t₁.extBut _ o D.lz e) ex λk₂ p₂ t₂=>Nf ?_);have U₂:IsPair k₂ U u v:=t₂.extBut _ _ D.Up (t₁.extBut _ _ D.Uz hU);refine Nb (OD U₂ rfl (Nb (Rv U₂ λk₃ U₃ t₃=>Nb (Rx (Nf ?_)))));refine Nb (Nb (RL ?_));show wpAny _ _ (nextOf (.ref q) >>=_) _ _ _;refine Nb (Bu hh (h2.up λo e=>t₃.extBut _ o D.Uq.symm (t₂.extBut _ o D.pq.symm (t₁.extBut _ o D.qz e))) (hm.up λo e=>t₃.extBut _ o D.mU (t₂.extBut _ o D.mp (t₁.extBut _ o D.mz e))) ey λk₄ e t₄ ⟨oe,hoe,hce⟩=>?_);have z₄:IsZip k₄ z T U .ellipsis:=t₄ _ _ D.qz.symm (t₃.extBut _ _ D.Uz.symm (t₂.extBut _ _ D.pz.symm z₁));have ez:e≠z:=λr=>by subst r;rw[z₄] at hoe;cases hoe;simp at hce
  refine wpAny_setField_rec z₄ (by simp) λk₅ _ t₅=>?_;refine Nb (PK (T:="StopIteration") (b:=true) ⟨oe,t₅.extBut _ _ ez hoe,hce⟩ QS (Nf (k _ λa o a1 a2 a3 a4 r=>t₅.extBut _ _ a1 (t₄ _ _ a4 (t₃.extBut _ _ a2 (t₂.extBut _ _ a3 (t₁.extBut _ _ a1 r)))))))
abbrev g1(b:Bool)(h:Heap)(l:Addr):Heap:=h.push {cls:=.type (kn b),data:=.fields #[.ref l,.int 0 0]}
abbrev g2(b c:Bool)(h:Heap)(l m:Addr):Heap:=(g1 b h l).push {cls:=.type (kn c),data:=.fields #[.ref m,.int 0 0]}
abbrev g3(b c:Bool)(h:Heap)(l m:Addr):Heap:=(g2 b c h l m).push {cls:=.type "tuple",data:=.seq #[.ref h.objs.size,.ref (g1 b h l).objs.size]}
abbrev g4(b c:Bool)(h:Heap)(l m:Addr):Heap:=(g3 b c h l m).push {cls:=.type "tuple",data:=.seq #[.none,.none]}
abbrev g5(b c:Bool)(h:Heap)(l m:Addr):Heap:=(g4 b c h l m).push {cls:=.type "zip",data:=.fields #[.none,.bool false,.bool false,.ref (g2 b c h l m).objs.size,.ref (g3 b c h l m).objs.size]}
theorem CT(b c:Bool)(l m:Addr)(xs ys:Array Value):PySem.Meets (Builtin.«zip.__new__» ⟨[.type "zip",.ref l,.ref m],[]⟩) (λ_ R s=>Of b s.heap l xs/\Of c s.heap m ys/\R (.ok (.ret (.ref (g4 b c s.heap l m).objs.size))) {s with heap:=g5 b c s.heap l m}):=
 .of_wp λprog w A R s h=>by
  obtain⟨hp,g,d,tk,os⟩:=s;obtain⟨hl,hm,h⟩:=h;have sub:=sub_zip;have L1:Of b (Shared.heap ⟨hp,g,d,tk,os⟩) l xs:=hl;have L2:Of c (Shared.heap ⟨hp.push {cls:=.type (kn b),data:=.fields #[.ref l,.int 0 0]},g,d,tk,os⟩) m ys:=hm.up λo e=>Nd _ e
  wp_walk using BE L1,BE L2
  exact⟨_,rfl,h⟩
theorem zS (hl:Of b s.heap l xs) (hm:Of c s.heap m ys) (k:∀h',IsZip h' (s.heap.objs.size+4) (s.heap.objs.size+2) (s.heap.objs.size+3) .none->IsPair h' (s.heap.objs.size+2) (.ref s.heap.objs.size) (.ref (s.heap.objs.size+1))->IsPair h' (s.heap.objs.size+3) .none .none->
   At b h' s.heap.objs.size l 0->At c h' (s.heap.objs.size+1) m 0->h'.objs.size=s.heap.objs.size+5->(∀a o,s.heap.get? a=some o->h'.get? a=some o)->Q (.ref (s.heap.objs.size+4)) {s with heap:=h'}):
  wpAny (model P w) A (call (.type "zip") [.ref l,.ref m]) Q E s:=by
 refine callType_new F.called_zip (by decide) (F.typeCall_zip_2 _ _) (F.newCall_zip_2 _ _) (λobj=>F.args_object_init_3 obj _ _) F.entry_zip_new (CT b c l m xs ys) ⟨hl,hm,?_⟩;have z1:(g1 b s.heap l).objs.size=s.heap.objs.size+1:=N6 ..;have z2:(g2 b c s.heap l m).objs.size=s.heap.objs.size+2:=by rw[N6,z1]
 have z3:(g3 b c s.heap l m).objs.size=s.heap.objs.size+3:=by rw[N6,z2]
 have z4:(g4 b c s.heap l m).objs.size=s.heap.objs.size+4:=by rw[N6,z3]
 have z5:(g5 b c s.heap l m).objs.size=s.heap.objs.size+5:=by rw[N6,z4]
 have e5:(g5 b c s.heap l m).get? (g4 b c s.heap l m).objs.size=some _:=Nu _ rfl;have e4:(g5 b c s.heap l m).get? (g3 b c s.heap l m).objs.size=some _:=Nd _ (Nu _ rfl);have e3:(g5 b c s.heap l m).get? (g2 b c s.heap l m).objs.size=some _:=Nd _ (Nd _ (Nu _ rfl));have e2:(g5 b c s.heap l m).get? (g1 b s.heap l).objs.size=some _:=Nd _ (Nd _ (Nd _ (Nu _ rfl)));have e1:(g5 b c s.heap l m).get? s.heap.objs.size=some _:=Nd _ (Nd _ (Nd _ (Nd _ (Nu _ rfl))));show _/\_;rw[z2,z3,z4] at e5;rw[z1,z2] at e3;rw[z3] at e4;rw[z1] at e2;rw[z4];exact⟨⟨_,e5,rfl⟩,k _ e5 e3 e4 ⟨_,e1,rfl,rfl⟩ ⟨_,e2,rfl,rfl⟩ z5 λa o x=>Nd _ (Nd _ (Nd _ (Nd _ (Nd _ x))))⟩
section
variable {X:Cx} {pins:List (Addr×Obj)} {σ:L2.St} {H:Hp} {s:Shared} {h':Heap} {fp:List Addr}
theorem mQ(I:L2.Inv X pins σ H s)(k:∀b o,b∉fp->s.heap.get? b=some o->h'.get? b=some o)(hf:∀b∈fp,gC X pins H b):L2.Inv X pins σ H {s with heap:=h',toks:=t'}:=by
 have nit:∀b u,H b=some u->b∉fp:=λb u e z=>by rw[(hf b z).1] at e;cases e
 have nL:X.env.locals∉fp:=λz=>(hf _ z).2.1 rfl;refine I.step (g':=s.gens) (d':=s.drawn) (ch:=fp) (λb hb=>?_) (λb o _ _ hc e _=>k b o hc e) (λb o _ _ hc e _=>⟨o.slots,k b o hc e⟩) (λ_ _ _ _ n=>n)
  (λb o hc e=>⟨o,k b o hc e⟩) (λ_ _ e=>e) (λ_ _ _ e=>e) (λb ps e=>⟨#[],by rw[e];simp⟩) (λm hm=>?_) (λb u e=>?_) I.bare
 ·obtain⟨f0,f1,f2,f3,f4,f5⟩:=hf b hb;exact⟨f3,f1,f4,f5⟩
 ·obtain⟨o,es,ep,ho,r⟩:=hm;exact⟨o,es,ep,k _ o nL ho,r⟩
 ·refine(I.aV b u e).t4 (λc v hc q=>k c v ?_ q) (λ_ q=>q) λ_ _ q=>q;rcases hc with z | z
  ·rw[z];exact nit b u e
  ·exact nit c _ z
theorem xr(I:L2.Inv X pins σ H s)(k:∀b o,b∉fp->s.heap.get? b=some o->h'.get? b=some o)(hf:∀b∈fp,gC X pins H b)(hlt:∀b∈fp,b < s.heap.objs.size)(ht:h'.get? s.heap.objs.size=some {cls:=.type "tuple",data:=.seq us.toArray n})(r:Vals vs us)(hz:vs.length<=sizeLine):L2.Inv X pins σ (upd H s.heap.objs.size (.tup vs)) {s with heap:=h',toks:=t'}:=by
 have nit:∀b u,H b=some u->b∉fp:=λb u e z=>by rw[(hf b z).1] at e;cases e
 have nL:X.env.locals∉fp:=λz=>(hf _ z).2.1 rfl;have hp:H s.heap.objs.size=none:=I.aV.fresh (Nh _);have np:∀b o,s.heap.get? b=some o->b≠s.heap.objs.size:=λb o e=>NB (Nt e);have nH:∀b u,H b=some u->b≠s.heap.objs.size:=λb u e=>aN e hp;refine I.step (g':=s.gens) (d':=s.drawn) (ch:=fp) (λb hb=>?_) (λb o _ _ hc e _=>k b o hc e) (λb o _ _ hc e _=>⟨o.slots,k b o hc e⟩) (λb o _ e n=>by rw[aB (np b o e)];exact n)
  (λb o hc e=>⟨o,k b o hc e⟩) (λb _ e=>by rw[aB (nH b _ e)];exact e) (λb _ _ e=>by rw[aB (nH b _ e)];exact e) (λb ps e=>⟨#[],by rw[aB (nH b _ e),e];simp⟩) (λm hm=>?_) (λb u e=>?_) I.bare
 ·obtain⟨f0,f1,f2,f3,f4,f5⟩:=hf b hb;exact⟨f3,f1,f4,f5⟩
 ·obtain⟨o,es,ep,ho,q⟩:=hm;exact⟨o,es,ep,k _ o nL ho,q⟩
 ·by_cases z:b=s.heap.objs.size
  ·subst z;rw[aT] at e;cases e;exact⟨hz,us,r,⟨_,ht,rfl,⟨n,rfl⟩,rfl⟩⟩
  ·rw[aB z] at e;refine(I.aV b u e).t4 (λc v hc q=>k c v ?_ q) (λc q=>?_) λc u q=>?_
   ·rcases hc with y | y
    ·rw[y];exact nit b u e
    ·exact nit c _ y
   ·rw[aB (nH _ _ q)];exact q
   ·rw[aB (nH _ _ q)];exact q
end
def tR(b:Bool)(K:FR)(H:Hp)(l:Addr)(xs:List V):Prop:=match b with
 | true=>eW K H l xs
 | false=>je K H l xs
theorem tR.of(I:L2.Inv X pins σ H s)(q:tR b X.K H l xs):∃its:List Value,Vals xs its/\Of b s.heap l its.toArray:=by
 cases b with
 | true=>obtain⟨its,r,p,_⟩:=I.list (show eW X.K H l xs from q);exact⟨its,r,p.isList⟩
 | false=>obtain⟨its,r,p,_⟩:=I.tuple (show je X.K H l xs from q);exact⟨its,r,p⟩
theorem tR.inj(I:L2.Inv X pins σ H s)(q:tR b X.K H l xs)(q':tR b X.K H l ys):xs=ys:=by
 cases b with
 | true=>exact I.uL q q'
 | false=>exact I.qe q q'
noncomputable def MR(b:Bool)(K:FR)(l:Addr):It:=
 ⟨λi H=>∃xs x,tR b K H l xs/\xs[i]?=some x,λi H x H'=>∃p y,H p=none/\x=.ref p/\H'=upd H p (.tup [.int (i:Int),y])/\∀xs,tR b K H l xs->xs[i]?=some y,λi H=>∃xs,tR b K H l xs/\xs.length<=i⟩
noncomputable def MQ(b c:Bool)(K:FR)(l m:Addr):It:=
 ⟨λi H=>∃xs ys x y,tR b K H l xs/\tR c K H m ys/\xs[i]?=some x/\ys[i]?=some y,
  λi H x H'=>∃p u v,H p=none/\x=.ref p/\H'=upd H p (.tup [u,v])/\(∀xs,tR b K H l xs->xs[i]?=some u)/\∀xs,tR c K H m xs->xs[i]?=some v,
  λi H=>∃xs ys,tR b K H l xs/\tR c K H m ys/\(xs.length<=i\/ys.length<=i)⟩
theorem yz{P:Program}{w:World}{K:FR}{es:List Expr}{k0:Nat}{pos:Pos}(b:Bool)(l e j:Addr)(ne:e≠j):Turn P w K (.Tuple es k0 pos) (MR b K l) [e,j] e (λi h=>(∃old,IsEnum h e j i old)/\At b h j l i) where
 mem:=by simp
 obj:=λi h st a ha=>by
  obtain⟨⟨old,h1⟩,o,h2,_,d2⟩:=st;simp at ha;rcases ha with rfl | rfl
  ·exact⟨_,h1,λv z=>by cases z⟩
  ·exact⟨o,h2,λv z=>by rw[d2] at z;cases z⟩
 keep:=λi h h' ⟨⟨old,h1⟩,h2⟩ k=>⟨⟨old,k e (by simp) _ h1⟩,h2.up λo q=>k j (by simp) o q⟩
 item:=by
  intro X hP hw hK hc i pins s σ H E I hf st hg;subst hP hw hK;obtain⟨xs,x,hq,hx⟩:=hg;obtain⟨⟨old,h1⟩,h2⟩:=st;obtain⟨its,rv,hO⟩:=hq.of I;obtain⟨u,hu,ru⟩:=rv.get hx;have hlt:∀a∈[e,j],a < s.heap.objs.size:=λa ha=>by
   simp at ha;rcases ha with rfl | rfl
   ·exact Nt h1
   ·exact h2.lt
  refine zv h1 h2 hO (x:=u) (by simpa using hu) ne λh' a1 a2 a3 a4 a5=>⟨_,rfl,wpAny_letOwnedTupleGo_enum a1 λh'' b1 b2=>?_⟩;have hp:H s.heap.objs.size=none:=I.aV.fresh (Nh _);have I1:=xr (t':=s.toks+1) (vs:=[.int (i:Int),x]) (us:=[.int i s.toks,u]) (n:=0) I (λa o ha q=>a5 a o (λz=>ha (by simp[z])) (λz=>ha (by simp[z])) q) hf hlt a3 (.cons ⟨_,rfl⟩ (.cons ru .nil)) (show 2<=sizeLine by decide);have hf1:∀a∈[e,j],gC X pins (upd H s.heap.objs.size (.tup [.int (i:Int),x])) a:=λa ha=>by
   obtain⟨f0,f⟩:=hf a ha;exact⟨by rw[aB (NB (hlt a ha))];exact f0,f⟩
  have I2:=mQ (t':=s.toks+1) I1 (h':=h'') (λa o ha q=>b2.extBut a o (λz=>ha (by simp[z])) q) hf1;exact⟨.ref s.heap.objs.size,_,I2,rfl,⟨_,x,hp,rfl,rfl,λys hy=>by rw[hy.inj I hq];exact hx⟩,⟨⟨_,by simpa using b1⟩,a2.up λo q=>b2.extBut j o (Ox ne) q⟩,λa ha=>(hf1 a ha).1⟩
 done:=by
  intro X hP hw hK hc i pins s σ H E I hf st hg;subst hP hw hK;obtain⟨xs,hq,hx⟩:=hg;obtain⟨⟨old,h1⟩,h2⟩:=st;obtain⟨its,rv,hO⟩:=hq.of I;have hl:=rv.length;exact B4 (I.ok.hd hc) h1 h2 hO (by simp;lia) λh' eb=>⟨rfl,mQ (t':=s.toks) I (λa o ha q=>eb a o (λz=>ha (by simp[z])) q) hf⟩
 self:=λA i s Q E ⟨⟨old,h1⟩,_⟩ q=>by
  have hT:s.TypeIs (.ref e) "enumerate":=⟨_,h1,rfl⟩;refine wpAny_pyIter_slot hT F.slot_enumerate_iter (Oj F.slot_enumerate_iter hT F.entry_enumerate_iter ?_ (F.args_enumerate_iter_1 _));show wpAny _ _ (ret (.ref e)) _ _ s;exact Nf ⟨_,rfl,"enumerate",_,hT,P7.lookup,q⟩
theorem zZ{P:Program}{w:World}{K:FR}{es:List Expr}{k0:Nat}{pos:Pos}(b c:Bool)(z T U p q l m:Addr)(D:Zp z T U p q l m):
  Turn P w K (.Tuple es k0 pos) (MQ b c K l m) [z,T,U,p,q] z (λi h=>IsZip h z T U .none/\IsPair h T (.ref p) (.ref q)/\(∃u v,IsPair h U u v)/\At b h p l i/\At c h q m i) where
 mem:=by simp
 obj:=λi h st a ha=>by
  obtain⟨h1,h2,⟨u,v,h3⟩,⟨o4,h4,_,d4⟩,⟨o5,h5,_,d5⟩⟩:=st;simp at ha;rcases ha with rfl | rfl | rfl | rfl | rfl
  ·exact⟨_,h1,λv z=>by cases z⟩
  ·exact⟨_,h2,λv z=>by cases z⟩
  ·exact⟨_,h3,λv z=>by cases z⟩
  ·exact⟨o4,h4,λv z=>by rw[d4] at z;cases z⟩
  ·exact⟨o5,h5,λv z=>by rw[d5] at z;cases z⟩
 keep:=λi h h' ⟨h1,h2,⟨u,v,h3⟩,h4,h5⟩ k=>⟨k z (by simp) _ h1,k T (by simp) _ h2,⟨u,v,k U (by simp) _ h3⟩,h4.up λo e=>k p (by simp) o e,h5.up λo e=>k q (by simp) o e⟩
 item:=by
  intro X hP hw hK hc i pins s σ H E I hf st hg;subst hP hw hK;obtain⟨xs,ys,x,y,hq1,hq2,hx,hy⟩:=hg;obtain⟨h1,h2,⟨u,v,h3⟩,h4,h5⟩:=st;obtain⟨is1,rv1,hO1⟩:=hq1.of I;obtain⟨is2,rv2,hO2⟩:=hq2.of I;obtain⟨u1,hu1,ru1⟩:=rv1.get hx;obtain⟨u2,hu2,ru2⟩:=rv2.get hy;have hlt:∀a∈[z,T,U,p,q],a < s.heap.objs.size:=λa ha=>by
   simp at ha;rcases ha with rfl | rfl | rfl | rfl | rfl
   ·exact Nt h1
   ·exact Nt h2
   ·exact Nt h3
   ·exact h4.lt
   ·exact h5.lt
  refine zT D h1 h2 h3 h4 h5 hO1 hO2 (x:=u1) (y:=u2) (by simpa using hu1) (by simpa using hu2) λh' a1 a2 a3 a4 a5 a6 a7=>⟨_,rfl,wpAny_letOwnedTupleGo_zip a1 λh'' b1 b2=>?_⟩;have hp:H s.heap.objs.size=none:=I.aV.fresh (Nh _);have I1:=xr (t':=s.toks) (vs:=[x,y]) (us:=[u1,u2]) (n:=0) I (h':=h') (fp:=[z,T,U,p,q]) (λa o ha e=>a7 a o (λr=>ha (by simp[r])) (λr=>ha (by simp[r])) (λr=>ha (by simp[r])) (λr=>ha (by simp[r])) e) hf hlt a5 (.cons ru1 (.cons ru2 .nil)) (show 2<=sizeLine by decide);have hf1:∀a∈[z,T,U,p,q],gC X pins (upd H s.heap.objs.size (.tup [x,y])) a:=λa ha=>by
   obtain⟨f0,f⟩:=hf a ha;exact⟨by rw[aB (NB (hlt a ha))];exact f0,f⟩
  have I2:=mQ (t':=s.toks) I1 (h':=h'') (fp:=[z,T,U,p,q]) (λa o ha e=>b2.extBut a o (λr=>ha (by simp[r])) e) hf1;have hT':=a7 T _ D.Tz D.TU D.Tp D.Tq h2;exact⟨.ref s.heap.objs.size,_,I2,rfl,⟨_,x,y,hp,rfl,rfl,λzs hz=>by rw[hz.inj I hq1];exact hx,λzs hz=>by rw[hz.inj I hq2];exact hy⟩,
   ⟨b1,b2.extBut T _ D.Tz hT',⟨_,_,b2.extBut U _ D.Uz a2⟩,a3.up λo e=>b2.extBut p o D.pz e,a4.up λo e=>b2.extBut q o D.qz e⟩,λa ha=>(hf1 a ha).1⟩
 done:=by
  intro X hP hw hK hc i pins s σ H E I hf st hg;subst hP hw hK;obtain⟨xs,ys,hq1,hq2,hx⟩:=hg;obtain⟨h1,h2,⟨u,v,h3⟩,h4,h5⟩:=st;obtain⟨is1,rv1,hO1⟩:=hq1.of I;obtain⟨is2,rv2,hO2⟩:=hq2.of I;have hl1:=rv1.length;have hl2:=rv2.length;exact CU (I.ok.hd hc) D h1 h2 h3 h4 h5 hO1 hO2 (by simp;lia) λh' eb=>⟨rfl,mQ (t':=s.toks) I (fp:=[z,T,U,p,q]) (λa o ha e=>eb a o (λr=>ha (by simp[r])) (λr=>ha (by simp[r])) (λr=>ha (by simp[r])) (λr=>ha (by simp[r])) e) hf⟩
 self:=λA i s Q E st h=>wpAny_pyIter_zip st.1 h
theorem boot_zip:bootBuiltins "zip"=some (.type "zip"):=by decide+kernel
theorem zG:bootBuiltins "enumerate"=some (.type "enumerate"):=by decide+kernel
theorem IL(n l m:Nat)(hl:l < n)(hm:m < n):Zp (n+4) (n+2) (n+3) n (n+1) l m:=by
 constructor <;> (intro h;have h:(_:Nat)=_:=h;lia)
theorem DQ(hg:Gl X "enumerate")(hm:X.mg "enumerate"=none)(ha:PA X [a] ta)(hs:starEach [a] X.env=[(false,eval a X.env)]:=by ac_nf):
  PI X (.Tuple es k0 tpos) (.Call (.Name "enumerate" p) [a] [] pos) (λσ H R=>ta σ H λvs H1=>∃l b,vs=[.ref l]/\(∃xs,tR b X.K H1 l xs)/\R (MR b X.K l) H1):=by
 intro pins s σ H R I h;refine Call_ (ik I hg hm zG (OR (cy (ha pos pins s σ H _ I h) λus s1 ⟨vs,H1,I1,r1,q1⟩=>?_) hs rfl));obtain⟨l,b,e,⟨xs,hq⟩,q⟩:=q1;subst e;obtain⟨u,rfl,ru⟩:=Vals.one r1;obtain rfl:u=Value.ref l:=ru;obtain⟨its,rv,hO⟩:=hq.of I1;refine zu hO λh' a1 a2 a3 a4=>?_;have I2:L2.Inv X pins σ H1 {s1 with heap:=h'}:=I1.kept (t':=s1.toks) a4;have hf:∀c∈[s1.heap.objs.size+1,s1.heap.objs.size],gC X pins H1 c:=λc hc=>by
  simp at hc;rcases hc with rfl | rfl
  ·exact I1.wN (Pc _) (I1.aV.fresh (Pc _))
  ·exact I1.wN (Nh _) (I1.aV.fresh (Nh _))
 have T:=yz (P:=X.prog) (w:=X.w) (K:=X.K) (es:=es) (k0:=k0) (pos:=tpos) b l (s1.heap.objs.size+1) s1.heap.objs.size (Nat.succ_ne_self _);refine T.self X.A 0 {s1 with heap:=h'} _ X.xe ⟨⟨_,a1⟩,a2⟩ ?_;exact⟨_,[s1.heap.objs.size+1,s1.heap.objs.size],_,_,H1,rfl,I2,T,⟨⟨_,a1⟩,a2⟩,hf,q⟩
theorem GC(hg:Gl X "zip")(hm:X.mg "zip"=none)(ha:PA X [a,a'] ta)(hs:starEach [a,a'] X.env=[(false,eval a X.env),(false,eval a' X.env)]:=by ac_nf)(hs2:starEach [a'] X.env=[(false,eval a' X.env)]:=by ac_nf):
  PI X (.Tuple es k0 tpos) (.Call (.Name "zip" p) [a,a'] [] pos) (λσ H R=>ta σ H λvs H1=>∃l m b c,vs=[.ref l,.ref m]/\(∃xs,tR b X.K H1 l xs)/\(∃xs,tR c X.K H1 m xs)/\R (MQ b c X.K l m) H1):=by
 intro pins s σ H R I h;refine Call_ (ik I hg hm boot_zip (OR (cy (ha pos pins s σ H _ I h) λus s1 ⟨vs,H1,I1,r1,q1⟩=>?_) (by rw[hs,hs2]) (by rw[hs2];rfl)));obtain⟨l,m,b,c,e,⟨xs,hq⟩,⟨ys,hq'⟩,q⟩:=q1;subst e;obtain⟨u,v,rfl,ru,rv'⟩:=Vals.two r1;obtain rfl:u=Value.ref l:=ru;obtain rfl:v=Value.ref m:=rv';obtain⟨its,rv,hO⟩:=hq.of I1;obtain⟨its',rv',hO'⟩:=hq'.of I1;refine zS hO hO' λh' a1 a2 a3 a4 a5 a6 a7=>?_;have I2:L2.Inv X pins σ H1 {s1 with heap:=h'}:=I1.kept (t':=s1.toks) a7;have hf:∀d∈[s1.heap.objs.size+4,s1.heap.objs.size+2,s1.heap.objs.size+3,s1.heap.objs.size,s1.heap.objs.size+1],gC X pins H1 d:=λd hd=>by
  simp at hd;have:s1.heap.objs.size<=d:=by lia
  exact I1.wN this (I1.aV.fresh this)
 have ll:l < s1.heap.objs.size:=by obtain⟨o,n,e,_⟩:=hO.data;exact Nt e
 have lm:m < s1.heap.objs.size:=by obtain⟨o,n,e,_⟩:=hO'.data;exact Nt e
 have D:Zp (s1.heap.objs.size+4) (s1.heap.objs.size+2) (s1.heap.objs.size+3) s1.heap.objs.size (s1.heap.objs.size+1) l m:=IL _ _ _ ll lm;have T:=zZ (P:=X.prog) (w:=X.w) (K:=X.K) (es:=es) (k0:=k0) (pos:=tpos) b c _ _ _ _ _ l m D;refine T.self X.A 0 {s1 with heap:=h'} _ X.xe ⟨a1,a2,⟨_,_,a3⟩,a4,a5⟩ ?_;exact⟨_,[s1.heap.objs.size+4,s1.heap.objs.size+2,s1.heap.objs.size+3,s1.heap.objs.size,s1.heap.objs.size+1],_,_,H1,rfl,I2,T,⟨a1,a2,⟨_,_,a3⟩,a4,a5⟩,hf,q⟩
end Sb
namespace Sm
open PySem L2 PySem.Spec PyProof.Rows
noncomputable def i9:Nat->List D->List D
 | _,[]=>[]
 | k,x::r=>.tup [.int (k:Int),x]::i9 (k+1) r
noncomputable def jG:List D->List D->List D
 | x::r,y::s=>.tup [x,y]::jG r s
 | _,_=>[]
theorem lI:∀(xs:List D)(k i:Nat),(i9 k xs)[i]?=(xs[i]?).map λx=>.tup [.int ((k+i:Nat):Int),x]
 | [],k,i=>by simp[i9]
 | x::r,k,0=>by simp[i9]
 | x::r,k,i+1=>by
  show(i9 (k+1) r)[i]?=_;rw[lI r (k+1) i];simp only[OQ];congr 1
  funext y
  rw[show k+1+i=k+(i+1) by lia]
theorem gy:∀(xs:List D)(k:Nat),(i9 k xs).length=xs.length
 | [],_=>rfl
 | _::r,k=>by simp[i9,gy r (k+1)]
theorem tS:∀(xs ys:List D)(i:Nat),(jG xs ys)[i]?=(xs[i]?).bind λx=>(ys[i]?).map λy=>.tup [x,y]
 | [],_,i=>by simp[jG]
 | _::_,[],i=>by simp[jG]
 | x::r,y::s,0=>by simp[jG]
 | x::r,y::s,i+1=>by
  show(jG r s)[i]?=_;rw[tS r s i];simp
theorem lR:∀(xs ys:List D),(jG xs ys).length=min xs.length ys.length
 | [],_=>by simp[jG]
 | _::_,[]=>by simp[jG]
 | x::r,y::s=>by simp[jG,lR r s]
theorem SeqAt.zM{K:FR}{H:Hp}{a:Addr}{vs:List V}{b:Bool}(q:SeqAt K H a vs b):Sb.tR b K H a vs:=by
 cases q with
 | l q=>exact q
 | t q=>exact q
theorem w9(hc:jE (ws++ws') h=true):jE ws h=true/\jE ws' h=true:=by
 induction ws with
 | nil=>exact⟨rfl,hc⟩
 | cons x r ih=>
  obtain⟨n,o⟩:=x;simp only[List.cons_append,jE,Nn] at hc ⊢;obtain⟨h1,h2⟩:=ih hc.2;exact⟨⟨hc.1,h1⟩,h2⟩
noncomputable def BK(m:AM):IM:=λδ h=>(m δ h).bind λp=>match p.1 with
 | [d]=>(cL d p.2).map λq=>(i9 0 q.1,q.2,p.2)
 | _=>none
noncomputable def BJ(m:AM):IM:=λδ h=>(m δ h).bind λp=>match p.1 with
 | [d,e]=>(cL d p.2).bind λq=>(cL e p.2).map λr=>(jG q.1 r.1,q.2++r.2,p.2)
 | _=>none
theorem Kc{α:Type}{l:List α}(h:l.length=2):∃a b,l=[a,b]:=by
 cases l with
 | nil=>cases h
 | cons a l=>obtain⟨b,rfl⟩:=PF.mp (Nat.succ.inj h);exact⟨a,b,rfl⟩
theorem Dh(hg:Gl X "enumerate")(hm:X.mg "enumerate"=none)(ha:SA X [a] m)(hl:kO m 1)(hs:starEach [a] X.env=[(false,eval a X.env)]:=by ac_nf):SI X (.Tuple es k0 tpos) (.Call (.Name "enumerate" p) [a] [] pos) (BK m):=
 (Sb.DQ hg hm ha hs).imp λσ H Q zz=>by
  obtain⟨ρ,δ,h,xs,ws,h',R,S,e,k⟩:=zz;obtain⟨⟨ds,h1⟩,e1,e2⟩:=bu e;refine⟨ρ,δ,h,ds,h1,R,S,e1,λvs ρ1 H1 T1 S1 r1=>?_⟩;obtain⟨d,rfl⟩:=PF.mp (hl _ _ _ _ e1);obtain⟨⟨ys,w⟩,e3,e4⟩:=eC e2;cases e4;obtain⟨v,rfl,rd⟩:=rep1 r1;obtain⟨a,rfl,⟨us,q,l⟩,st⟩:=g7 S1 rd e3;refine⟨a,oJ d,rfl,⟨us,q.zM⟩,k _ ρ1 H1 T1 S1 ⟨λρ2 H2 h2 T2 S2 hc i=>?_⟩⟩;obtain⟨ws,l2,q2⟩:=st ρ2 H2 h2 T2 S2 hc;refine⟨λhi=>⟨ws,q2.zM,by rw[l2.length];rw[gy] at hi;exact hi⟩,λx hx=>?_⟩;rw[lI] at hx;obtain⟨y,ey,hx⟩:=eC hx;subst hx;obtain⟨v,ev,rv⟩:=l2.got ey;refine⟨⟨ws,v,q2.zM,ev⟩,λu H3 ⟨p,y',hp,hu,hH,hy⟩=>?_⟩;subst hu;subst hH;have hy':y'=v:=by have:=hy ws q2.zM;rw[ev] at this;exact(Option.some.inj this).symm
  subst hy';refine⟨cF.laid S2 hp,S2.laid hp,.tup (.inl ⟨.inl aT,S2.fresh hp⟩) (.cons ?_ (.cons (rv.mono (cF.laid S2 hp).toCh) .nil))⟩;rw[Q0];exact .int _
theorem vO(hg:Gl X "zip")(hm:X.mg "zip"=none)(ha:SA X [a,b] m)(hl:kO m 2)(hs:starEach [a,b] X.env=[(false,eval a X.env),(false,eval b X.env)]:=by ac_nf)(hs2:starEach [b] X.env=[(false,eval b X.env)]:=by ac_nf):
  SI X (.Tuple es k0 tpos) (.Call (.Name "zip" p) [a,b] [] pos) (BJ m):=
 (Sb.GC hg hm ha hs hs2).imp λσ H Q zz=>by
  obtain⟨ρ,δ,h,xs,ws,h',R,S,e,k⟩:=zz;obtain⟨⟨ds,h1⟩,e1,e2⟩:=bu e;refine⟨ρ,δ,h,ds,h1,R,S,e1,λvs ρ1 H1 T1 S1 r1=>?_⟩;obtain⟨d,d',rfl⟩:=Kc (hl _ _ _ _ e1);obtain⟨⟨ys,w⟩,e3,e4⟩:=bu e2;obtain⟨⟨zs,w'⟩,e5,e6⟩:=eC e4;cases e6;obtain⟨v,v',rfl,rd,rd'⟩:=rep2 r1;obtain⟨a,rfl,⟨us,q,l⟩,st⟩:=g7 S1 rd e3;obtain⟨a',rfl,⟨us',q',l'⟩,st'⟩:=g7 S1 rd' e5;refine⟨a,a',oJ d,oJ d',rfl,⟨us,q.zM⟩,⟨us',q'.zM⟩,k _ ρ1 H1 T1 S1 ⟨λρ2 H2 h2 T2 S2 hc i=>?_⟩⟩;obtain⟨c1,c2⟩:=w9 hc;obtain⟨ws,l2,q2⟩:=st ρ2 H2 h2 T2 S2 c1;obtain⟨ws',l2',q2'⟩:=st' ρ2 H2 h2 T2 S2 c2;refine⟨λhi=>⟨ws,ws',q2.zM,q2'.zM,by rw[l2.length,l2'.length];rw[lR] at hi;dsimp only at hi;lia⟩,λx hx=>?_⟩;rw[tS] at hx;obtain⟨y,ey,hx⟩:=bu hx;obtain⟨y',ey',hx⟩:=eC hx;subst hx;obtain⟨v,ev,rv⟩:=l2.got ey;obtain⟨v',ev',rv'⟩:=l2'.got ey';refine⟨⟨ws,ws',v,v',q2.zM,q2'.zM,ev,ev'⟩,λu H3 ⟨p,x1,x2,hp,hu,hH,hy1,hy2⟩=>?_⟩;subst hu;subst hH;have z1:x1=v:=by have:=hy1 ws q2.zM;rw[ev] at this;exact(Option.some.inj this).symm
  have z2:x2=v':=by have:=hy2 ws' q2'.zM;rw[ev'] at this;exact(Option.some.inj this).symm
  subst z1;subst z2;exact⟨cF.laid S2 hp,S2.laid hp,.tup (.inl ⟨.inl aT,S2.fresh hp⟩) (.cons (rv.mono (cF.laid S2 hp).toCh) (.cons (rv'.mono (cF.laid S2 hp).toCh) .nil))⟩
noncomputable def sU(ls:List (Key×D)):List (Key×D)->Option Bool
 | []=>some true
 |(k,v)::r=>match pM ls k with
  | none=>some false
  | some u=>(iG v).bind λa=>(iG u).bind λb=>if a.depth<=60/\b.depth<=60 then(sU ls r).map λc=>PyData.eqv a b&&c else none
noncomputable def Ca(ks ls:List (Key×D)):Option Bool:=if ks.length=ls.length then sU ls ks else some false
noncomputable def B3(d e:D)(h:MH):Option Bool:=match cZ d h,cZ e h with
 | some ks,some ls=>Ca ks ls
 | _,_=>IG d e h
noncomputable def cV(d e:D)(h:MH):Option (D×MH):=(B3 d e h).map λc=>(.bl c,h)
noncomputable def dY(d e:D)(h:MH):Option (D×MH):=(B3 d e h).map λc=>(.bl (!c),h)
theorem Eh(hu:X.A.units+64 < cLine)(I:L2.Inv X pins σ H s)(lb:ba X.K ρ H vs ls)(rb:KV vs kb):
  ∀{us:List (Key×V)} {ks:List (Key×D)} {ka:List (Key×Value)} {c:Bool},ba X.K ρ H us ks->KV us ka->sU ls ks=some c->PySem.W.KeqHits X.A.in1 s kb ka c:=by
 intro us
 induction us with
 | nil=>
  intro ks ka c a ra e;cases a;cases ra;cases e;exact .nil
 | cons u0 us ih=>
  intro ks ka c a ra e;cases a with | @cons k v _ d _ r l=>
  cases ra with
  | cons ra rr=>
   rename_i p ka;obtain⟨k',y⟩:=p;obtain⟨ek,ry⟩:=ra;dsimp only at ek ry;subst ek;simp only[sU] at e;have rel:=rb.val k;rcases lb.val k with⟨h1,h2⟩ |⟨d',v',h1,h2,r'⟩
   ·rw[h1] at e;cases e;rw[h2] at rel;refine .miss ?_;cases q:valueAt kb k with
    | none=>rfl
    | some _=>rw[q] at rel;exact rel.elim
   ·rw[h1] at e;obtain⟨a,e1,e⟩:=bu e;obtain⟨b,e2,e⟩:=bu e
    by_cases z:a.depth<=60/\b.depth<=60
    ·rw[Nj z] at e;obtain⟨c',e3,e4⟩:=eC e;subst e4;rw[h2] at rel;cases q:valueAt kb k with
     | none=>rw[q] at rel;exact rel.elim
     | some y'=>
      rw[q] at rel;obtain⟨r1,c1⟩:=r.oo e1;obtain⟨r2,c2⟩:=r'.oo e2;obtain⟨as,ra1⟩:=r1.reads I ry;obtain⟨bs,ra2⟩:=r2.reads I rel;refine .hit q (Ss a b _ s y y' as bs ra1 ra2 c1 c2 ?_) (ih l rr e3);have:min a.depth b.depth<=a.depth:=RO _ _;show X.A.units+1+min a.depth b.depth < cLine
      lia
    ·rw[Np z] at e;cases e
theorem B2(hu:X.A.units+64 < cLine)(I:L2.Inv X pins σ H s)(rx:L2.RelV x v)(ry:L2.RelV y u)(S:bz X.K ρ h H)(rd:Rep X.K ρ H x d)(re:Rep X.K ρ H y e)(ee:B3 d e h=some c):
  (∀Q:Value->Shared->Prop,Q (.bool c) s->wpAny (model X.prog X.w) X.A (compareOp .Eq v u) Q X.xe s)/\∀Q:Value->Shared->Prop,Q (.bool (!c)) s->wpAny (model X.prog X.w) X.A (compareOp .NotEq v u) Q X.xe s:=by
 have data:IG d e h=some c->(∀Q:Value->Shared->Prop,Q (.bool c) s->wpAny (model X.prog X.w) X.A (compareOp .Eq v u) Q X.xe s)/\∀Q:Value->Shared->Prop,Q (.bool (!c)) s->wpAny (model X.prog X.w) X.A (compareOp .NotEq v u) Q X.xe s:=by
  intro ee;obtain⟨a,e3,e4⟩:=bu ee;obtain⟨b,e5,e6⟩:=bu e4
  by_cases w:a.depth<=64/\b.depth<=64
  ·rw[Nj w] at e6;cases e6;obtain⟨r1,c1⟩:=sr S rd e3;obtain⟨r2,c2⟩:=sr S re e5;obtain⟨as,ra⟩:=r1.reads I rx;obtain⟨bs,rb⟩:=r2.reads I ry;exact⟨λQ q=>eq_dataH ra rb (iL c1 w.1) (iL c2 w.2) hu q,λQ q=>ne_dataH ra rb (iL c1 w.1) (iL c2 w.2) hu q⟩
  ·rw[Np w] at e6;cases e6
 unfold B3 at ee;cases q1:cZ d h with
 | none=>rw[q1] at ee;exact data ee
 | some ks=>
  cases q2:cZ e h with
  | none=>rw[q1,q2] at ee;exact data ee
  | some ls=>
   rw[q1,q2] at ee;obtain⟨a,us,rfl,ha,la⟩:=kr S rd q1;obtain⟨b,ws,rfl,hb,lb⟩:=kr S re q2;obtain rfl:v=Value.ref a:=rx;obtain rfl:u=Value.ref b:=ry;obtain⟨_,na,ka,ra,da⟩:=x8 I.aV ha;obtain⟨_,nb,kb,rb,db⟩:=x8 I.aV hb;have l1:ka.length=ks.length:=by rw[<-la.length];exact(Paired.length ra).symm
   have l2:kb.length=ls.length:=by rw[<-lb.length];exact(Paired.length rb).symm
   dsimp only[Ca] at ee
   by_cases z:ks.length=ls.length
   ·rw[Nj z] at ee;have hits:=Eh hu I lb rb la ra ee;have ez:(ka.length==kb.length&&c)=c:=by rw[l1,l2,z,Ph,Pe]
    exact⟨λQ q=>PySem.W.keq_eq na nb da db (by lia) (λ_=>hits) (by rw[ez];exact q),λQ q=>PySem.W.keq_ne na nb da db (by lia) (λ_=>hits) (by rw[ez];exact q)⟩
   ·rw[Np z] at ee;cases ee;have ez:(ka.length==kb.length&&false)=false:=Pl _;have nh:ka.length=kb.length->PySem.W.KeqHits X.A.in1 s kb ka false:=λq=>absurd (by rw[<-l1,<-l2];exact q) z;exact⟨λQ q=>PySem.W.keq_eq na nb da db (by lia) nh (by rw[ez];exact q),λQ q=>PySem.W.keq_ne na nb da db (by lia) nh (by rw[ez];exact q)⟩
theorem GX(hu:X.A.units+64 < cLine):jB X (compareOp .Eq) cV:=by
 intro pins s σ H x y v u Q I rx ry hh;obtain⟨ρ,h,d,e,z,h',S,rd,re,ee,k⟩:=hh;obtain⟨c,e1,e2⟩:=eC ee;cases e2;exact(B2 hu I rx ry S rd re e1).1 _ ⟨.bl _,H,I,rfl,k _ _ (.here S (.bl _))⟩
theorem wq(hu:X.A.units+64 < cLine):jB X (compareOp .NotEq) dY:=by
 intro pins s σ H x y v u Q I rx ry hh;obtain⟨ρ,h,d,e,z,h',S,rd,re,ee,k⟩:=hh;obtain⟨c,e1,e2⟩:=eC ee;cases e2;exact(B2 hu I rx ry S rd re e1).2 _ ⟨.bl _,H,I,rfl,k _ _ (.here S (.bl _))⟩
noncomputable def Bx(acc:List (Key×D))(ps:List (Key×D)):List (Key×D):=ps.foldl (λa p=>putD a p.1 p.2) acc
theorem ba.merge{K:FR}{ρ:Ad}{H:Hp}:∀{kvs:List (Key×V)} {ps:List (Key×D)} {acc:List (Key×V)} {ac:List (Key×D)},ba K ρ H acc ac->ba K ρ H kvs ps->ba K ρ H (ig acc kvs) (Bx ac ps):=by
 intro kvs
 induction kvs with
 | nil=>intro ps acc ac a b;cases b;exact a
 | cons x kvs ih=>intro ps acc ac a b;cases b with | @cons k v _ d _ r l=>exact ih (acc:=putK acc k v) (ac:=putD ac k d) (a.put r) l
theorem iM:bootBuiltins "list"=some (.type "list"):=by decide+kernel
theorem bt:bootBuiltins "tuple"=some (.type "tuple"):=by decide+kernel
theorem tE:bootBuiltins "bool"=some (.type "bool"):=by decide+kernel
theorem xf:bootBuiltins "int"=some (.type "int"):=by decide+kernel
theorem tD:bootBuiltins "str"=some (.type "str"):=by decide+kernel
theorem HZ:bootBuiltins "len"=some (.builtin "len"):=by decide+kernel
theorem Ia:bootBuiltins "abs"=some (.builtin "abs"):=by decide+kernel
theorem au:bootBuiltins "isinstance"=some (.builtin "isinstance"):=by decide+kernel
theorem pA:bootBuiltins "all"=some (.builtin "all"):=by decide+kernel
noncomputable def FA(sc:Scope)(x:Str):Bool:=match sc.names.lookup x with
 | some .local=>true
 | some .cell=>true
 | some .free=>true
 | _=>false
noncomputable def D5(sc:Scope)(x:Str):Bool:=match sc.names.lookup x with
 | some .local=>true
 | some .cell=>true
 | _=>false
noncomputable def Lf(X:Cx)(x:Str):Bool:=X.fn x||(match X.env.scope.names.lookup x with
 | some .local=>true
 | _=>false)
theorem Fz(h:FA sc x=true):KJ sc x:=by
 unfold FA at h
 split at h <;> first |(cases h;done) | skip
 ·exact .inl ‹_›
 ·exact .inr (.inl ‹_›)
 ·exact .inr (.inr ‹_›)
theorem Bz(h:D5 sc x=true):Loc sc x:=by
 unfold D5 at h
 split at h <;> first |(cases h;done) | skip
 ·exact .inl ‹_›
 ·exact .inr ‹_›
theorem BN(h:Lf X x=true):X.fn x=true\/X.env.scope.names.lookup x=some .local:=by
 unfold Lf at h;rw[OM] at h;rcases h with h | h
 ·exact .inl h
 ·split at h
  ·exact .inr ‹_›
  ·cases h
theorem sv(i:Nat)(hN:X.N[i]?=some x:=by ac_nf)(hv:FA X.env.scope x=true:=by ac_nf)(hd:(x==("__debug__":Str))=false:=by ac_nf)(hcd:(x==("__classdict__":Str))=false:=by ac_nf):SE X (.Name x pos) (aS i):=F0 hN (Fz hv) hd hcd
theorem sset(i:Nat)(hN:X.N.Nodup)(he:SE X e ma)(hi:X.N[i]?=some x:=by ac_nf)(hx:D5 X.env.scope x=true:=by ac_nf)(hs:swapsWith e (some (.Name x pos')) pos.line X.env=pure false:=by ac_nf)(hf:Lf X x=true:=by ac_nf):SS X (.Assign [.Name x pos'] e pos) (aJ i ma):=FU hN hi (Bz hx) he hs (BN hf)
theorem sgn(i:Nat)(hN:X.N.Nodup)(hi:X.N[i]?=some x:=by ac_nf)(hx:D5 X.env.scope x=true:=by ac_nf)(hf:Lf X x=true:=by ac_nf):SG X (.Name x pos) (gN i):=Di hN hi (Bz hx) (BN hf)
noncomputable def Aw(i j:Nat)(m:AM):SM:=λδ h=>(m δ h).bind λp=>match p.1 with
 | [a,b]=>some (.nx,(δ.set i (some a)).set j (some b),p.2)
 | _=>none
theorem FV(i j:Nat){kt k2 pt2}(hN:X.N.Nodup)(hl:kO m 2)(hc:X.calm=true)(hij:i≠j)(P:PS X (.Assign [.Tuple [.Name x px,.Name y py] kt pt] (.Tuple [a,b] k2 pt2) pos) (Jd i j (MB X.K m))):
  SS X (.Assign [.Tuple [.Name x px,.Name y py] kt pt] (.Tuple [a,b] k2 pt2) pos) (Aw i j m):=P.imp λE σ H zz=>by
 obtain⟨ρ,δ,h,fl,δ',h',R,S,e,k⟩:=zz;obtain⟨⟨ds,h1⟩,e1,e2⟩:=bu e;refine⟨ρ,δ,h,ds,h1,R,S,e1,λvs ρ1 H1 T1 S1 r1=>?_⟩;obtain⟨d,d',rfl⟩:=Kc (hl _ _ _ _ e1);cases e2;obtain⟨v,u,rfl,rd,rd'⟩:=rep2 r1;exact⟨v,u,rfl,k ρ1 H1 T1 S1 _ (((R.mono T1.toCh).set rd i).set rd' j)⟩
structure Df(P:Program)(w:World)(K:FR)(mg:Str->Option Value)(base:Heap)(nm:Str)(k:Nat)(ps:List Str)(n:Nat)(F:Fn):Prop where
 ex:∃(f:Addr)(fd:FuncData),eX P w K mg base rB k f fd ps (zN K n F)/\PySem.W.keepIn K (.ref f)=true/\Binds K fd ps []/\mg nm=some (.ref f)
theorem Jv(d:Df X.prog X.w X.K X.mg X.base nm k ps n F)(hr:dZ k' X.A)(hk:k<=k')(ha:SA X (e::es) m)(hl:kO m n)(hg:Gl X nm:=by unfold Gl;ac_nf)(hdb:(nm==("__debug__":Str))=false:=by ac_nf)(he:starEach (e::es) X.env=(false,eval e X.env)::starEach es X.env:=by ac_nf)(hpl:(backTo pos (starEach es X.env)).any (·.1)=false:=by ac_nf):SE X (.Call (.Name nm p) (e::es) [] pos) (ai F m):=by
 obtain⟨f,fd,G,kf,bf,mf⟩:=d.ex;exact Dm G (hr.mono hk) hg mf kf bf ha hl hdb he hpl
theorem j7{P:Program}{w:World}{K:FR}{mg:Str->Option Value}{base:Heap}{k n:Nat}{f:Addr}{fd:FuncData}{ps:List Str}:eX P w K mg base rB k f fd ps (zN K n λ_ _=>none):=
 ⟨λvs H Q E hh=>(by obtain⟨_,_,_,_,_,_,_,_,e,_⟩:=hh;cases e),λA outer s H args us vs Q E _ _ _ _ hh=>(by obtain⟨_,_,_,_,_,_,_,_,e,_⟩:=hh;cases e)⟩
end Sm
namespace L2
open PySem PySem.Spec PyProof.Rows
abbrev TK:=St->Hp->(St->Hp->Prop)->Prop
def PM(B:Cx)(act:Sem Unit)(t:TK):Prop:=
 ∀(pins:List (Addr×Obj)) (s:Shared) (τ:St) (H:Hp) (N:St->Hp->Prop),Inv B pins τ H s->t τ H N->wpAny (model B.prog B.w) B.A act (λ_ s'=>∃τ' H',Inv B pins τ' H' s'/\N τ' H') B.xe s
def tO(J:It)(g:TG)(tc:TT)(tm:TK)(N:St->Hp->Prop)(τ0:St)(H0:Hp):Prop:=
 ∃W:Nat->Nat->St->Hp->Prop,(∃m,W 0 m τ0 H0)/\∀i m τ H2,W i m τ H2->
  (J.stop i H2/\N τ H2)\/(J.go i H2/\∃N':St->Hp->Prop,(∀τ' H',N' τ' H'->∃m',m' < m/\W (i+1) m' τ' H')/\∀x H',J.IP i H2 x H'->g x τ H' λτ2 H3=>
   tc τ2 H3 λb H4=>if b=true then tm τ2 H4 N' else N' τ2 H4)
noncomputable def kT(e:Expr)(d:Nat)(tg:Expr)(ifs:List Expr)(act:Sem Unit)(p:Pos)(it acc:Value)(env:Env):Sem Fin:=do
 standAt p
 match<-pyNext it with
 | none=>pure (.done .next)
 | some v=>
  letOwnedTupleGo tg it v
  assign tg env v
  let mut ok:=true
  for c in ifs do
   if ok then ok<-isTrue c env (eval c env)
  if ok then act
  again (.compLoop e d it acc env)
noncomputable def km(elt:Expr)(acc:Value)(env:Env):Sem Unit:=do let _<-call (.builtin "list.append") [acc,<-eval elt env]
theorem nv(elt t1 i1:Expr)(f1:List Expr)(sc:Scope)(pos:Pos)(it acc:Value)(env:Env):
  compTurn (.ListComp elt [⟨t1,i1,f1,0⟩] sc pos) 0 it acc env=kT (.ListComp elt [⟨t1,i1,f1,0⟩] sc pos) 0 t1 f1 (km elt acc env) i1.pos it acc env:=by rfl
structure Plain(e:Expr):Prop where
 loop:∀(P:Program)(w:World)(d:Nat)(it acc:Value)(env:Env),(model P w).den (.compLoop e d it acc env)=(compTurn e d it acc env).onRaise (λx=>do noteFrame x env;theTreesLotGoes x)
 start:∀(P:Program)(w:World)(d:Nat)(it acc:Value)(env:Env),(model P w).den (.compStart e d it acc env)=(compStart e d it acc env).onRaise (λx=>do noteFrame x env;standAt theWindowsPlace)
 ul:∀(A:Around)(d:Nat)(it acc:Value)(env:Env),A.under (.compLoop e d it acc env)=A
 us:∀(A:Around)(d:Nat)(it acc:Value)(env:Env),A.under (.compStart e d it acc env)=A
theorem ow(elt:Expr)(gs:List Comprehension)(sc:Scope)(pos:Pos):Plain (.ListComp elt gs sc pos):=⟨λ_ _ _ _ _ _=>rfl,λ_ _ _ _ _ _=>rfl,λ_ _ _ _ _=>rfl,λ_ _ _ _ _=>rfl⟩
theorem Ks(hk:Plain e)(ht:compTurn e d (.ref it) acc B.env=kT e d tg ifs act p (.ref it) acc B.env)(hc:B.calm=true)(hx:B.xe=λ_ _=>False)(hg:PG B tg g)(hif:Iw B ifs tc)(hm:PM B act tm)(I:Inv B pins τ H s)(T:Turn B.prog B.w B.K tg J fp it tn)(st:tn 0 s.heap)(hf:∀b∈fp,gC B pins H b)(hw:tO J g tc tm N τ H):
  codeAny (model B.prog B.w) B.A (.compLoop e d (.ref it) acc B.env) (λr s'=>r=.ok .next/\∃τ' H',Inv B pins τ' H' s'/\N τ' H') s:=by
 obtain⟨W,⟨m0,w0⟩,turn⟩:=hw;have stat:∀{H':Hp},(∀b∈fp,H' b=none)->∀b∈fp,gC B pins H' b:=λhn b hb=>⟨hn b hb,(hf b hb).2⟩;have up:∀{α:Type} {t:Sem α} {Q:α->Shared->Prop} {E:Value->Shared->Prop} {s:Shared},wpAny (model B.prog B.w) B.A t Q B.xe s->wpAny (model B.prog B.w) B.A t Q E s:=λh=>MU (hx ▸ h);refine codeAny_loop rfl (λn s'=>∃i τ' H',Inv B pins τ' H' s'/\tn i s'.heap/\(∀b∈fp,H' b=none)/\W i n τ' H') ?_ m0 ⟨0,_,_,I,st,λb hb=>(hf b hb).1,w0⟩;rintro n s4 ⟨i,τ4,H4,J4,st4,fr4,w4⟩;rw[hk.ul,hk.loop];refine wpAny_noted ?_;rw[ht];unfold kT;rcases turn i n τ4 H4 w4 with⟨stop,qn⟩ |⟨go,N',hN,step⟩
 ·refine Nb (Qm (Nb (O5 (T.done B rfl rfl rfl hc i pins s4 τ4 H4 _ J4 (stat fr4) st4 stop) (λr s5 h5=>?_) λ_ _ e=>e)));obtain⟨hr,J5⟩:=h5;subst hr;exact Nf ⟨rfl,_,_,J5,qn⟩
 ·refine Nb (Qm (Nb (O5 (T.item B rfl rfl rfl hc i pins s4 τ4 H4 _ J4 (stat fr4) st4 go) (λr s5 h5=>?_) λ_ _ e=>e)));obtain⟨u,hr,h5⟩:=h5;subst hr;refine Nb (O5 h5 (λ_ s6 h6=>?_) λ_ _ e=>e);obtain⟨x,H6,J6,r6,y6,st6,fr6⟩:=h6;have J6':=J6.pinned (stat fr6) (T.obj _ _ st6);refine Nb (O5 (up (hg _ s6 τ4 H6 x u _ J6' r6 (step x H6 y6))) (λ_ s7 h7=>?_) λ_ _ e=>e);obtain⟨τ7,H7,J7,q7⟩:=h7;have again:∀{τ8:St} {H8:Hp} {s8:Shared},Inv B (pins++oy fp s6.heap) τ8 H8 s8->N' τ8 H8->
    ∃m,m < n/\∃i τ' H',Inv B pins τ' H' s8/\tn i s8.heap/\(∀b∈fp,H' b=none)/\W i m τ' H':=λ{τ8 H8 s8} J8 n8=>by
   obtain⟨m',hm,w8⟩:=hN τ8 H8 n8;refine⟨m',hm,i+1,τ8,H8,J8.jI,T.keep _ _ _ st6 λb hb o e=>(J8.pin (b,o) (N7 _ (N7 _ (gw hb e)))).1,λb hb=>?_,w8⟩;obtain⟨o,e,d⟩:=T.obj _ _ st6 b hb;exact(J8.pin (b,o) (N7 _ (N7 _ (gw hb e)))).2.1
  refine Nb (O5 (up (hif _ s7 τ7 H7 _ J7 q7)) (λok s8 h8=>?_) λ_ _ e=>e);obtain⟨H8,J8,q8⟩:=h8;cases ok with
  | false=>exact Nf ⟨rfl,again J8 (by simpa using q8)⟩
  | true=>
   have q8':tm τ7 H8 N':=by simpa using q8
   refine Nb (O5 (up (hm _ s8 τ7 H8 _ J8 q8')) (λ_ s9 h9=>?_) λ_ _ e=>e);obtain⟨τ9,H9,J9,n9⟩:=h9;exact Nf ⟨rfl,again J9 n9⟩
theorem HC{env:Env}{it acc:Value}{iter:Expr}{prog:Program}{w:World}{A:Around}{s:Shared}{R:Result->Shared->Prop}(hk:Plain e)(hcl:(clausesOf e)[d]?=some ⟨tg,iter,ifs,0⟩)
  (h0:codeAny (model prog w) A (.compLoop e d it acc env) R s)
  (h:wpAny (model prog w) A (pyIter it) (λit' s'=>codeAny (model prog w) A (.compLoop e d it' acc env) R s') (notedBy (model prog w) A env λx s'=>R (.error x) s') s):
  codeAny (model prog w) A (.compStart e d it acc env) R s:=by
 refine Rp ?_;rw[hk.us,hk.start];refine wpAny_notedAt ?_;unfold compStart;rw[hcl];show wpAny _ _ (ask >>=_) _ _ s;refine Nb (PL (wpAny_ite ?_))
 split
 ·first
   | exact Nb (Nf (Nf (And.intro rfl h0)))
   | exact Nf (And.intro rfl h0)
 ·first
   | exact Nb (Pr (Nb (Qm (Nb (O5 h (λit' s' h'=>Nf (And.intro rfl h')) λ_ _ x=>x)))))
   |(refine Nb (Pr ?_);show wpAny _ _ (standAt iter.pos >>=_) _ _ s;exact Nb (Qm (Nb (O5 h (λit' s' h'=>Nf (And.intro rfl h')) λ_ _ x=>x))))
def ES(X:Cx)(na:Sem Value)(o:Addr->HO):Prop:=∀(pins:List (Addr×Obj)) (s:Shared) (σ:St) (H:Hp) (Q:Value->Shared->Prop) (E:Value->Shared->Prop),Inv X pins σ H s->
 (∀(obj:Obj)(t':Nat),Inv X pins σ (upd H s.heap.objs.size (o s.heap.objs.size)) {s with heap:=s.heap.push obj,toks:=t'}->Q (.ref s.heap.objs.size) {s with heap:=s.heap.push obj,toks:=t'})->wpAny (model X.prog X.w) X.A na Q E s
def nA(caps:List (Option Nat))(wi:TI)(o:Addr->HO)(g:TG)(tc:TT)(tm:Addr->TK):TE:=λσ H Q=>wi σ H λJ H1=>∀l,H1 l=none->tO J g tc (tm l) (λ_ H'=>Q (.ref l) H') (vn caps σ) (upd H1 l (o l))
section
variable {X:Cx} {N':List Str} {caps:List (Option Nat)} {scope:Scope} {e tg iter:Expr} {ifs:List Expr} {p:Pos} {wi:TI} {g:TG} {tc:TT} {tm:Addr->TK} {o:Addr->HO} {na:Sem Value} {act:Addr->Env->Sem Unit}
theorem Cn(S:bD X N' caps scope)(hc:X.calm=true)(hk:Plain e)(hcl:(clausesOf e)[0]?=some ⟨tg,iter,ifs,0⟩)(ht:∀(it l:Addr)(env:Env),compTurn e 0 (.ref it) (.ref l) env=kT e 0 tg ifs (act l env) p (.ref it) (.ref l) env)
  (hA:ES X na o) (hg:∀C s₃ H₃ fp pl,PG (p8 X N' scope C s₃ H₃ fp pl) tg g) (hif:∀C s₃ H₃ fp pl,Iw (p8 X N' scope C s₃ H₃ fp pl) ifs tc)
  (hm:∀C s₃ H₃ fp pl l,PM (p8 X N' scope C s₃ H₃ fp pl) (act l (p8 X N' scope C s₃ H₃ fp pl).env) (tm l)) {pins:List (Addr×Obj)} {σ:St} {H:Hp} {s:Shared} {it:Addr} {fp:List Addr} {tn:Nat->Heap->Prop} {J:It}
  (I:Inv X pins σ H s) (T:Turn X.prog X.w X.K tg J fp it tn) (st:tn 0 s.heap) (hf:∀b∈fp,gC X pins H b) {Q:VK} {RR:Value->Addr->Result->Shared->Prop} {E:Value->Shared->Prop}
  (h:∀l,H l=none->tO J g tc (tm l) (λ_ H'=>Q (.ref l) H') (vn caps σ) (upd H l (o l)))
  (hRR:∀(l C:Addr)(H':Hp)(s':Shared),H' C=none->C≠X.env.locals->X.s₀.heap.objs.size<=C->(∀x c,X.env.cells.lookup x=some c->c≠C)->(∀p∈X.pn++pins,p.1≠C)->(∃m,s'.heap.Ns C m)->Inv X pins σ H' s'->
   (∀h'':Heap,(∀b u,b≠C->s'.heap.get? b=some u->h''.get? b=some u)->Inv X pins σ H' {s' with heap:=h''})->Q (.ref l) H'->RR (.ref l) C (.ok .next) s'):
  wpAny (model X.prog X.w) X.A na (λacc s₃=>wpAny (model X.prog X.w) X.A (newFunctionEnv scope X.env.globals (iT X.env scope.names []) [] X.env.qual none .none (some X.env)) (λcenv s₄=>
   codeAny (model X.prog X.w) X.A (.compStart e 0 (.ref it) acc {cenv with scope:=relabel scope X.env}) (RR acc cenv.locals) s₄) E s₃) E s:=by
 have hw:=h s.heap.objs.size I.fresh;refine hA pins s σ H _ _ I λobj t' I3=>wpAny_newFunctionEnv S.Bq (by intro y hy;simp at hy) (λh₁ hns₁ hsb₁=>?_) S.kind;have hltf:∀b∈fp,b < s.heap.objs.size:=λb hb=>by
  obtain⟨o,e,_⟩:=T.obj 0 _ st b hb;exact Nt e
 have hf3:∀b∈fp,gC X pins (upd H s.heap.objs.size (o s.heap.objs.size)) b:=λb hb=>⟨by rw[aB (NB (hltf b hb))];exact(hf b hb).1,(hf b hb).2⟩;have keep3:∀b u,(s.heap.push obj).get? b=some u->h₁.get? b=some u:=λb u e=>hsb₁.extBut b u (NB (Nt e)) (Nd _ e);have st3:tn 0 h₁:=T.keep 0 _ _ st λb hb o e=>keep3 b o (Nd _ e);have hlt3:∀b∈fp,b < (s.heap.push obj).objs.size:=λb hb=>by
  have:=hltf b hb;rw[N6];exact PY this
 have J0:=Inv.block S I3 hc hf3 hlt3 hns₁ keep3 (t₄:=t');have fpB:∀b∈fp,gC (p8 X N' scope (s.heap.push obj).objs.size {s with heap:=s.heap.push obj,toks:=t'} (upd H s.heap.objs.size (o s.heap.objs.size)) fp pins) [] (upd H s.heap.objs.size (o s.heap.objs.size)) b:=λb hb=>by
  obtain⟨f0,f1,f2,f3,f4,f5⟩:=hf3 b hb;refine⟨f0,NB (hlt3 b hb),λz=>?_,.inl hb,λx c e=>f4 x c (S.look I3.ok e),λp hp=>?_⟩
  ·rcases NA.mp (I3.nD b z) with q | q
   ·exact f1 q
   ·exact f2 q
  ·rcases NY.mp hp with q | q
   ·exact f5 p q
   ·cases q
 have lp:=Ks hk (ht it s.heap.objs.size _) rfl rfl (hg _ _ _ _ _) (hif _ _ _ _ _) (hm _ _ _ _ _ s.heap.objs.size) J0 T st3 fpB hw;refine Qc (HC hk hcl lp (T.self X.A 0 _ _ _ st3 lp)) λr s' hr=>?_;obtain⟨rfl,τ,H',J,q⟩:=hr;refine hRR _ _ H' s' J.free ?_ ?_ ?_ ?_ ?_ ?_ ?_ q
 ·exact(NB I3.lt).symm
 ·exact I3.sz
 ·intro x c e z;obtain⟨v,o,ho,_⟩:=I3.cell x c e;exact NB (Nt ho) z
 ·intro p hp z;obtain⟨e,_⟩:=I3.pin p hp;exact NB (Nt e) z
 ·obtain⟨m,hm,_⟩:=J.loc;exact⟨m,hm⟩
 ·have:=Inv.xq S I3 hf3 J (h'':=s'.heap) λb u _ e=>e;exact this
 ·exactλh'' hs=>Inv.xq S I3 hf3 J hs
theorem A9(S:bD X N' caps scope)(hc:X.calm=true)(hk:Plain e)(hcl:clausesOf e=⟨tg,iter,ifs,0⟩::gs)(ht:∀(it l:Addr)(env:Env),compTurn e 0 (.ref it) (.ref l) env=kT e 0 tg ifs (act l env) p (.ref it) (.ref l) env)(hA:ES X na o)(hi:PI X tg iter wi)(hg:∀C s₃ H₃ fp pl,PG (p8 X N' scope C s₃ H₃ fp pl) tg g)(hif:∀C s₃ H₃ fp pl,Iw (p8 X N' scope C s₃ H₃ fp pl) ifs tc)(hm:∀C s₃ H₃ fp pl l,PM (p8 X N' scope C s₃ H₃ fp pl) (act l (p8 X N' scope C s₃ H₃ fp pl).env) (tm l))(he:eval e X.env=comprehension e scope X.env p0 na false (eval iter X.env))(hs:∀x,foldedSetIterable iter X.env x=pure x:=by intro _;rfl):PE X e (nA caps wi o g tc tm):=by
 intro pins s σ H Q I h;rw[he];refine Tg (use:=none) hcl hs (o7 (S.has I.ok)) S.kind S.names (cy (hi pins s σ H _ I h) λv s1 h1=>cy h1 λitv s2 h2=>?_);obtain⟨it,fp,tn,J,H2,e,I2,T,st2,f2,hQ⟩:=h2;subst e;refine Cn (RR:=λacc C=>compPost (model X.prog X.w) X.A X.xe none (EP X pins σ Q) acc C) S hc hk (by rw[hcl];rfl) ht hA hg hif hm I2 T st2 f2 hQ ?_;intro l C H' s' _ _ _ _ _ hm _ hI q;obtain⟨m,hm⟩:=hm;exact⟨m,hm,λh'' hs''=>⟨.ref l,H',hI h'' λb u hb e=>hs''.extBut b u hb e,rfl,q⟩⟩
theorem AU(hN:X.N.Nodup)(hi':X.N[i]?=some y)(hy:X.env.scope.names.lookup y=some .local)(S:bD X N' caps scope)(hc:X.calm=true)(hk:Plain e)(hcl:clausesOf e=⟨tg,iter,ifs,0⟩::gs)(ht:∀(it l:Addr)(env:Env),compTurn e 0 (.ref it) (.ref l) env=kT e 0 tg ifs (act l env) p (.ref it) (.ref l) env)(hA:ES X na o)(hi:PI X tg iter wi)(hg:∀C s₃ H₃ fp pl,PG (p8 X N' scope C s₃ H₃ fp pl) tg g)(hif:∀C s₃ H₃ fp pl,Iw (p8 X N' scope C s₃ H₃ fp pl) ifs tc)(hm:∀C s₃ H₃ fp pl l,PM (p8 X N' scope C s₃ H₃ fp pl) (act l (p8 X N' scope C s₃ H₃ fp pl).env) (tm l))(he:∀use,evalThenUse e X.env use=(do let _<-comprehension e scope X.env p0 na false (eval iter X.env) (some use)))(hsw:swapsWith e (some (.Name y py)) spos.line X.env=pure true:=by rfl)(hs:∀x,foldedSetIterable iter X.env x=pure x:=by intro _;rfl):
  PS X (.Assign [.Name y py] e spos) (Ab (nA caps wi o g tc tm) (qT i)):=by
 intro pins s σ H D I h;rw[exec_Assign_Name_used _ _ _ _ hsw];refine Nb (Qm (Nb ?_));rw[he];refine Nb (O5 (Tg (use:=some (assign (.Name y py) X.env)) (Q:=λ_ s'=>SP X pins D .next s') hcl hs (o7 (S.has I.ok)) S.kind S.names
  (cy (hi pins s σ H _ I h) λv s1 h1=>cy h1 λitv s2 h2=>?_)) (λ_ s' hq=>Nf (Nf hq)) λ_ _ e=>e)
 obtain⟨it,fp,tn,J,H2,e,I2,T,st2,f2,hQ⟩:=h2;subst e;refine Cn (Q:=λx H1=>qT i x σ H1 D.nx) (RR:=λacc C=>compPost (model X.prog X.w) X.A X.xe (some (assign (.Name y py) X.env)) (λ_ s'=>SP X pins D .next s') acc C) S hc hk (by rw[hcl];rfl) ht hA hg hif hm I2 T st2 f2 hQ ?_;intro l C H' s' hC hCL hC0 hCc hCp hm hI0 hI q;obtain⟨m,hm⟩:=hm;show wpAny _ X.A (assign (.Name y py) X.env (.ref l)) _ _ s';refine wpAny_assign_Name (qj (v:=.ref l) hI0 hN hi' (.inl hy) rfl (λs5 I5 hch=>?_) (.inr hy));obtain⟨a,hsa,ha⟩:=hch;have hCa:C≠a:=by
  rcases ha with z | z
  ·rw[z];exact hCL
  ·exact(hCc _ _ z).symm
 refine⟨m,hm.sameBut hsa hCa,λh'' hs''=>?_⟩;have I6:=I5.turned (t':=s5.toks) (h':=h'') (it:=C) (λb o hb e=>hs''.extBut b o hb e) hC hCL (.inr hC0) hCc hCp;exact⟨_,H',I6,q⟩
end
end L2
namespace Sm
open PySem L2 PySem.Spec PyProof.Rows
structure Ac(α:Type)where
 at_:FR->Ad->Hp->Addr->α->Prop
 mono:∀{K:FR} {ρ ρ':Ad} {H H':Hp} {l:Addr} {a:α},at_ K ρ H l a->Ch ρ H ρ' H'->H' l=H l->at_ K ρ' H' l a
abbrev MK(α:Type):=DS->MH->α->Option (DS×MH×α)
noncomputable def gQ{α:Type}(ws:W)(g:GM)(c:TM)(m:MK α):List D->MK α
 | [],δ,h,a=>if jE ws h then some (δ,h,a) else none
 | x::r,δ,h,a=>if jE ws h then(g x δ h).bind λq=>(c q.1 q.2).bind λt=>if t.1 then(m q.1 t.2 a).bind λz=>gQ ws g c m r z.1 z.2.1 z.2.2 else gQ ws g c m r q.1 t.2 a else none
structure kM(l:Addr)(ρ:Ad)(H:Hp)(ρ':Ad)(H':Hp):Prop where
 ch:Ch ρ H ρ' H'
 rs:ρ'.rs=ρ.rs
 res:∀b∈ρ.rs,b≠l->H' b=H b
theorem kM.refl:kM l ρ H ρ H:=⟨.refl _ _,rfl,λ_ _ _=>rfl⟩
theorem kM.trans(a:kM l ρ H ρ1 H1)(b:kM l ρ1 H1 ρ2 H2):kM l ρ H ρ2 H2:=⟨a.ch.trans b.ch,b.rs.trans a.rs,λx hx n=>(b.res x (a.rs ▸ hx) n).trans (a.res x hx n)⟩
theorem cF.CM(a:cF ρ H ρ1 H1):kM l ρ H ρ1 H1:=⟨a.toCh,a.rs,λb hb _=>a.res b hb⟩
inductive KS{α:Type}(K:FR)(A:Ac α)(l:Addr)(m:MK α)(τ:L2.St)(H:Hp)(N:L2.St->Hp->Prop):Prop where
 | mk (ρ δ h a δ' h' a'):bY K ρ H τ δ->bz K ρ h H->l∈ρ.rs->A.at_ K ρ H l a->(m δ h a=some (δ',h',a'))->(∀ρ' H' τ',kM l ρ H ρ' H'->bz K ρ' h' H'->bY K ρ' H' τ' δ'->A.at_ K ρ' H' l a'->N τ' H')->KS K A l m τ H N
def FO{α:Type}(K:FR)(A:Ac α)(l:Addr)(m:MK α):TK:=λτ H N=>KS K A l m τ H N
section
variable {α:Type} {K:FR} {A:Ac α} {l:Addr} {g:GM} {mt:TM} {m:MK α}
theorem Dv(It:IK K J ρ H ws xs)(T1:Ch ρ H ρ1 H1)(R:bY K ρ1 H1 τ δ)(S:bz K ρ1 h H1)(hl:l∈ρ1.rs)(hA:A.at_ K ρ1 H1 l a)(e:gQ ws g mt m xs δ h a=some (δ',h',a'))(k:∀ρ2 H2 τ2,kM l ρ1 H1 ρ2 H2->bz K ρ2 h' H2->bY K ρ2 H2 τ2 δ'->A.at_ K ρ2 H2 l a'->N τ2 H2):tO J (EW K g) (C6 K mt) (FO K A l m) N τ H1:=by
 refine⟨λi n τ2 H2=>∃(ρ2:Ad)(δ2:DS)(h2:MH)(a2:α),n=xs.length-i/\i<=xs.length/\kM l ρ1 H1 ρ2 H2/\bY K ρ2 H2 τ2 δ2/\bz K ρ2 h2 H2/\A.at_ K ρ2 H2 l a2/\gQ ws g mt m (xs.drop i) δ2 h2 a2=some (δ',h',a'),
  ⟨_,ρ1,δ,h,a,rfl,Oo _,.refl,R,S,hA,e⟩,?_⟩
 rintro i n τ2 H2 ⟨ρ2,δ2,h2,a2,rfl,hi,T2,R2,S2,hA2,e3⟩;have hl2:l∈ρ2.rs:=by rw[T2.rs];exact hl
 cases q:xs.drop i with
 | nil=>
  rw[q] at e3;unfold gQ at e3
  by_cases hc:jE ws h2=true
  ·rw[Nj hc] at e3;cases e3;have hle:xs.length<=i:=by have:=congrArg List.length q;rw[Pk,Ot] at this;lia
   exact .inl ⟨(It.run _ H2 _ (T1.trans T2.ch) S2 hc i).1 hle,k _ _ _ T2 S2 R2 hA2⟩
  ·rw[Np hc] at e3;cases e3
 | cons x r=>
  rw[q] at e3;unfold gQ at e3
  by_cases hc:jE ws h2=true
  ·rw[Nj hc] at e3;have hx:xs[i]?=some x:=by
    have:=congrArg (λl=>l[0]?) q
    simpa using this
   have hlt:i < xs.length:=(Ng.mp hx).1;have hr:xs.drop (i+1)=r:=by
    have:=congrArg List.tail q
    simpa using this
   obtain⟨⟨δ3,h3⟩,e4,e5⟩:=bu e3;obtain⟨⟨t,h4⟩,e6,e7⟩:=bu e5;dsimp only at e4 e5 e6 e7;obtain⟨hgo,hy⟩:=(It.run _ H2 h2 (T1.trans T2.ch) S2 hc i).2 x hx;refine .inr ⟨hgo,λτ5 H5=>∃(ρ5:Ad)(δ5:DS)(h5:MH)(a5:α),kM l ρ1 H1 ρ5 H5/\bY K ρ5 H5 τ5 δ5/\bz K ρ5 h5 H5/\A.at_ K ρ5 H5 l a5/\gQ ws g mt m r δ5 h5 a5=some (δ',h',a'),?_,?_⟩
   ·rintro τ5 H5 ⟨ρ5,δ5,h5,a5,T5,R5,S5,A5,e5⟩;exact⟨xs.length-(i+1),by lia,ρ5,δ5,h5,a5,rfl,hlt,T5,R5,S5,A5,by rw[hr];exact e5⟩
   ·intro v H3 y3;obtain⟨T3,S3,r3⟩:=hy v H3 y3;refine⟨ρ2,δ2,h2,x,δ3,h3,R2.mono T3.toCh,S3,r3,e4,λρ4 H4 τ4 T4 S4 R4=>?_⟩;refine⟨ρ4,δ3,h3,t,h4,R4,S4,e6,λρ5 H5 T5 S5=>?_⟩;have T25:cF ρ2 H2 ρ5 H5:=T3.trans (T4.trans T5);have A5:A.at_ K ρ5 H5 l a2:=A.mono hA2 T25.toCh (T25.res l hl2);cases t with
    | false=>
     rw[Np (by simp)] at e7;exact Kf ⟨ρ5,δ3,h4,a2,T2.trans T25.CM,R4.mono T5.toCh,S5,A5,e7⟩
    | true=>
     rw[Nj rfl] at e7;obtain⟨⟨δ6,h6,a6⟩,e8,e9⟩:=bu e7;refine Ke ⟨ρ5,δ3,h4,a2,δ6,h6,a6,R4.mono T5.toCh,S5,by rw[T25.rs];exact hl2,A5,e8,λρ7 H7 τ7 T7 S7 R7 A7=>?_⟩;exact⟨ρ7,δ6,h6,a6,(T2.trans T25.CM).trans T7,R7,S7,A7,e9⟩
  ·rw[Np hc] at e3;cases e3
theorem AF(h0:∀ρ H l,A.at_ K ρ (upd H l (o l)) l a0)(hh:∃ρ δ h xs ws h1 δ' h' a',bY K ρ H σ δ/\bz K ρ h H/\mi δ h=some (xs,ws,h1)/\gQ ws g mt m xs (kA caps δ) h1 a0=some (δ',h',a')/\∀l ρ' H',cF ρ H ρ' H'->bz K ρ' h' H'->¬ρ'.has l->A.at_ K ρ' H' l a'->Q (.ref l) H'):
  nA caps (Jh K mi) o (EW K g) (C6 K mt) (λl=>FO K A l m) σ H Q:=by
 obtain⟨ρ,δ,h,xs,ws,h1,δ',h',a',R,S,e1,e2,k⟩:=hh;refine⟨ρ,δ,h,xs,ws,h1,R,S,e1,λJ ρ1 H1 T1 S1 It l hl=>?_⟩;have nl:¬ρ1.has l:=S1.fresh hl;have Tl:Ch ρ1 H1 (ρ1.keep l) (upd H1 l (o l)):=Ch.keep hl;refine Dv It Tl (((R.mono T1.toCh).vn caps).mono Tl) (S1.keep hl) (Nm) (h0 _ _ _) e2 λρ2 H2 τ2 T2 S2 R2 A2=>?_;obtain⟨ob2,rs2⟩:=ρ2;have ers:rs2=l::ρ1.rs:=T2.rs;subst ers;have hsub:∀b∈ρ1.rs,b∈l::ρ1.rs:=λb hb=>Nl _ hb;have C2:Ch ⟨ob2,l::ρ1.rs⟩ H2 ⟨ob2,ρ1.rs⟩ H2:=Ch.free hsub;have hne:∀b∈ρ1.rs,b≠l:=λb hb z=>nl (.inr (z ▸ hb));have T2':cF ρ1 H1 ⟨ob2,ρ1.rs⟩ H2:=⟨(Tl.trans T2.ch).trans C2,rfl,λb hb=>(T2.res b (hsub b hb) (hne b hb)).trans (aB (hne b hb))⟩;refine k l _ H2 (T1.trans T2') (S2.free hsub) (λz=>?_) (A.mono A2 C2 rfl);rcases z with z | z
 ·exact(S2.se l Nm).2 z
 ·exact nl (.inr z)
end
def M9{α:Type}(X:Cx)(act:Addr->Env->Sem Unit)(A:Ac α)(m:MK α):Prop:=∀l,L2.PM X (act l X.env) (FO X.K A l m)
theorem _root_.L2.PM.imp(h:L2.PM X a t)(i:∀σ H Q,t' σ H Q->t σ H Q):L2.PM X a t':=λpins s σ H Q I q=>h pins s σ H Q I (i σ H Q q)
section
variable {α:Type} {X:Cx} {A:Ac α} {g:GM} {mt:TM} {m:MK α} {mi:IM} {e tg iter:Expr} {ifs:List Expr} {d:Nat} {p:Pos} {act:Addr->Env->Sem Unit}
end
end Sm
namespace L2
open PySem PySem.Spec PyProof.Rows
theorem jt:∀(xs:List α)(i:Nat)(x:α),xs[i]?=some x->(x::xs.eraseIdx i).Perm xs
 | y::r,0,x,h=>by
  rw[Qj] at h;cases h;exact .refl _
 | y::r,i+1,x,h=>by
  rw[OQ] at h;exact(List.Perm.swap y x _).trans ((jt r i x h).cons y)
theorem xp:∀(n:Nat)(xs:List α)(s:Shared)(Q:List α->Shared->Prop),n=xs.length->(∀ys d,ys.Perm xs->Q ys {s with drawn:=d})->wpAny M A (drawOrder n xs) Q E s
 | 0,xs,s,Q,e,h=>by
  have:xs=[]:=RN e.symm;subst this;exact Nf (h [] s.drawn (.refl _))
 | n+1,[],s,Q,e,h=>by cases e
 | n+1,x::r,s,Q,e,h=>by
  unfold drawOrder;refine Nb (show wpAny M A (choose .order (x::r).length) _ E s fromλΓ p hΓ=>?_);unfold choose;rw[Sem.wp_choose];refine⟨by simp,?_⟩;have hlt:M.w.draws .order (s.drawn.get .order) % (x::r).length < (x::r).length:=Q1 _ (by simp);generalize M.w.draws .order (s.drawn.get .order) % (x::r).length=i at hlt ⊢;have hx:(x::r)[i]?=some ((x::r)[i]):=Nk hlt;generalize (x::r)[i]=y at hx;show Sem.wp M Γ (pure i) _ _ p _;refine(Nf (M:=M) (A:=A) (E:=E) (a:=i) (s:={s with drawn:=s.drawn.bump .order}) ?_) Γ p hΓ;rw[hx];have hlen:n=((x::r).eraseIdx i).length:=by rw[RZ hlt,<-e];rfl
  refine Nb (xp n _ _ _ hlen λys d hy=>Nf ?_);exact h (y::ys) d ((hy.cons y).trans (jt _ _ _ hx))
theorem xG(nx:Nat->Nat):∀(fuel k:Nat)(left:List α)(out:Array α),fuel=left.length->(pickOrder.go nx fuel k left out).toList.Perm (out.toList++left)
 | 0,k,left,out,e=>by
  have:left=[]:=RN e.symm;subst this;unfold pickOrder.go;rw[PU]
 | fuel+1,k,left,out,e=>by
  unfold pickOrder.go;have hlt:nx k % left.length < left.length:=Q1 _ (by lia);have hx:left[nx k % left.length]?=some (left[nx k % left.length]):=Nk hlt;generalize left[nx k % left.length]=y at hx;rw[hx];dsimp only;refine(xG nx fuel (k+1) _ _ (by rw[RZ hlt];lia)).trans ?_;rw[Array.toList_push,OI];exact(jt _ _ _ hx).append_left _
theorem qy(nx:Nat->Nat)(xs:Array α):(pickOrder nx xs).toList.Perm xs.toList:=by
 unfold pickOrder;have:=xG nx xs.size 0 xs.toList #[] (by simp)
 simpa using this
theorem oP{α:Type}(es:Array (α×Value)){idx:List Nat}(hp:idx.Perm (List.range es.size)):(idx.filterMap λk=>(es[k]?).map (·.2)).Perm (es.toList.map (·.2)):=by
 refine(hp.filterMap _).trans (List.Perm.of_eq ?_);have:∀l:List (α×Value),(List.range l.length).filterMap (λk=>(l[k]?).map (·.2))=l.map (·.2):=by
  intro l;have h1:(List.range l.length).filterMap (λk=>(l[k]?).map (·.2))=((List.range l.length).filterMap λk=>l[k]?).map (·.2):=by
   rw[List.map_filterMap]
  rw[h1,RI]
 have h2:=this es.toList
 simpa using h2
theorem entry_set_iter':entryFor table "set.__iter__"=some Builtin.«frozenset.__iter__»:=entryFor_alias (id':="frozenset.__iter__") (by ac_nf) rfl (by decide+kernel) (by ac_nf)
theorem cA:Slot "set_iterator" "__next__" "set_iterator.__next__":=.of (owner:="set_iterator") (n:="__next__") (by rw[typeLookup_type,builtinLookup_eq_fast];ac_nf) (by decide+kernel) (by decide+kernel) (by decide+kernel) (by first | exact .inl (by decide+kernel) | exact .inr (by decide+kernel)) (by rw[Ry];ac_nf)
theorem ja:entryFor table "set_iterator.__next__"=some Builtin.«set_iterator.__next__»:=entryFor_of_fast (by ac_nf)
theorem kE(a:Value):argsOk "set_iterator.__next__" ⟨[a],[]⟩:=by unfold argsOk;ac_nf
theorem wpAny_of_eq'(e:m=m')(h:wpAny M A m' Q E s):wpAny M A m Q E s:=e ▸ h
section
variable {P:Program} {w:World} {A:Around} {E:Value->Shared->Prop} {s:Shared} {a:Addr} {ks:List Str}
theorem sP(ho:s.heap.get? J=some o)(hd:o.data=.fields fs)(hk:k < fs.size)(h:∀h' o',(∀b u,b≠J->s.heap.get? b=some u->h'.get? b=some u)->h'.get? J=some o'->o'.cls=o.cls->o'.data=.fields (fs.setIfInBounds k x)->Q () {s with heap:=h'}):wpAny M A (setField (.ref J) k x) Q E s:=by
 refine SU ho hd hk (h _ _ (λb u hb e=>(Po _ _ (Ox hb)).trans e) (OP _ ho (Obj.isFreed_of_fields (QT hd _))) (Obj.cls_mapFields ..) ?_);rw[QT hd]
theorem yu(hob:s.heap.get? a=some ob)(hdt:ob.data=.set es ep t)(hf:t.fits es.size=true)(ht:w.params.followText "set-order"=true)(h:Q (pickOrder (w.params.setOrder a ep) es) s):wpAny (model P w) A (setWalk a) Q E s:=by
 unfold setWalk setsByText;refine Nb (ON hob hdt hf ?_);dsimp only;refine Nb (Nb (PL (Nf ?_)));rw[Nj (show(model P w).w.params.followText "set-order"=true from ht)];exact Nb (PL (Nf h))
theorem qF(hob:s.heap.get? a=some ob)(hdt:ob.data=.set es ep t)(hf:t.fits es.size=true)(ht:w.params.followText "set-order"=true)(h:Q (((pickOrder (w.params.setOrder a ep) es)[i]?).map λe=>(e.2,k)) s):wpAny (model P w) A (setNext a k i ep) Q E s:=by
 unfold setNext setsByText;refine Nb (ON hob hdt hf ?_);dsimp only;refine Nb (Nb (PL (Nf ?_)));rw[Nj (show(model P w).w.params.followText "set-order"=true from ht)];simp only[OU,NH,↓reduceIte];exact Nb (yu hob hdt hf ht (Nf h))
theorem rN{J:Addr}(hh:A.handled=none)(hQ:∀h',(∀b o,s.heap.get? b=some o->h'.get? b=some o)->Q none {s with heap:=h'}):
  wpAny (model P w) A.in1 (do let x<-newExc (.type "StopIteration") [];raiseNew x:Sem Fin) (λfin s'=>∃v,fin=Fin.done (Flow.ret v)/\wpAny (model P w) A (pure (some v)) Q E s')
   (λe s'=>wpAny (model P w) A (do let b<-isInstance e (.type "StopIteration");if b=true then pure none else throw e) Q E s') s:=by
 refine Nb ?_;simp only[newExc,newTuple];refine Nb (Og ?_ (by size_fits));refine Nb (m:=firstArgMember _ _) (wpAny_of_eq (a:=Value.none) (by first | rfl |(simp only[firstArgMember];rfl)) (Og ?_ (by size_fits)));simp only[raiseNew];refine Nb (wpAny_handled ?_);rw[show A.in1.handled=none from hh];refine Nb (Nf (wpAny_throw ?_));refine Nb (PK (T:="StopIteration") (b:=true) (show Shared.TypeIs _ (.ref _) _ from⟨_,Nu _ rfl,rfl⟩) QS ?_);exact Nf (hQ _ λb o e=>Nd _ (Nd _ e))
end
theorem pN:splitId "set.__len__"=some ("set","__len__"):=by ac_nf
theorem sub_set_set:isSubtype (.type "set") (.type "set")=pure true:=by rw[Ry];ac_nf
theorem nG:typeLookup (.type "set") (Str.ofString "__len__")=pure (some (.builtin "set.__len__")):=F.slot_set_len.lookup
noncomputable def zP(a b:Str):Bool:=!ltCps b.cps.toList a.cps.toList
theorem gx:zP a b=true↔strKind.kle a.cps.toList b.cps.toList:=by
 unfold zP KeyOrd.kle;rw[ltCps_eq];simp
theorem qN(a b c:Str)(h1:zP a b=true)(h2:zP b c=true):zP a c=true:=gx.mpr (KeyOrd.kle_trans (gx.mp h1) (gx.mp h2))
theorem y8(a b:Str):(zP a b||zP b a)=true:=by
 rw[OM]
 by_cases z:strKind.klt b.cps.toList a.cps.toList
 ·exact .inr (gx.mpr (KeyOrd.kle_of_klt z))
 ·exact .inl (gx.mpr (KeyOrd.kle_of_not_klt z))
theorem BB(a b:Str)(h1:zP a b=true)(h2:zP b a=true):a=b:=by
 have:=KeyOrd.kle_antisymm (gx.mp h1) (gx.mp h2);cases a;cases b;congr 1;exact QY.mp this
noncomputable def gE(ks:List Str):List Str:=ks.mergeSort zP
theorem eI(ks:List Str):(gE ks).Perm ks:=Td _ _
theorem rQ(ks:List Str):(gE ks).Pairwise λa b=>zP a b=true:=Sk qN y8 ks
theorem qx:∀(l:List Str)(p:Str),risingS p l=true->(p::l).Pairwise λa b=>zP a b=true
 | [],p,_=>by simp
 | x::r,p,h=>by
  have h':(!ltCps x.cps.toList p.cps.toList&&risingS x r)=true:=h;rw[Nn] at h';have ih:=qx r x h'.2;refine OO.mpr ⟨λy hy=>?_,ih⟩;rcases NA.mp hy with rfl | hy
  ·exact h'.1
  ·exact qN _ _ _ h'.1 ((OO.mp ih).1 y hy)
theorem Ah(hp:ss.Perm ks)(h:sortedS ss=true):ss=gE ks:=by
 refine QO (λa b _ _=>BB a b) ?_ (rQ ks) (hp.trans (eI ks).symm)
 match ss,h with
 | [],_=>exact .nil
 | x::r,h=>exact qx r x h
theorem qA:ES X (newList []) (λ_=>.lst []):=λpins s σ H Q E I h=>Og (h _ _ (I.He (t':=s.toks) (its:=[]) (ys:=[]) .nil (Oo _)))
def FP(te:TE)(l:Addr):TK:=λτ H N=>te τ H λy H5=>∃xs,H5 l=some (.lst xs)/\xs.length < sizeLine/\N τ (upd H5 l (.lst (xs++[y])))
theorem DN(he:PE B elt te):PM B (km elt (.ref l) B.env) (FP te l):=λpins s τ H N I h=>by
 unfold km;refine Nb (cy (he pins s τ H _ I h) λy s9 h9=>?_);obtain⟨yv,H9,J9,r9,xs,hx,hz,n9⟩:=h9;refine Nb (O5 (qG (X:=B) _ s9 τ H9 (.ref l) [yv] (.ref l) [y] (λ_ H'=>N τ H') J9 rfl (.cons r9 .nil) ⟨_,xs,yv,rfl,rfl,hx,hz,n9⟩) (λ_ s10 h10=>?_) λ_ _ e=>e);obtain⟨_,H10,J10,_,n10⟩:=h10;exact Nf ⟨_,_,J10,n10⟩
end L2
namespace Sm
open PySem L2 PySem.Spec PyProof.Rows
noncomputable def KI:Ac (List D) where
 at_:=λK ρ H l a=>∃vs,H l=some (.lst vs)/\ar K ρ H vs a
 mono:=λ⟨vs,e,r⟩ T q=>⟨vs,q.trans e,r.mono T⟩
noncomputable def mL(e:EM):MK (List D):=λδ h a=>(e δ h).bind λp=>if a.length < sizeLine then some (δ,p.2,a++[p.1]) else none
theorem kM.put{K:FR}(T:cF ρ H ρ1 H1)(hl:l∈ρ.rs):kM l ρ H ρ1 (upd H1 l o):=by
 have hl1:l∈ρ1.rs:=by rw[T.rs];exact hl
 exact⟨T.toCh.trans (Ch.put hl1),T.rs,λb hb n=>(aB n).trans (T.res b hb)⟩
theorem xx(he:SE X elt me):M9 X (λl env=>km elt (.ref l) env) KI (mL me):=λl=>(DN he).imp λτ H N ⟨ρ,δ,h,a,δ',h',a',R,S,hl,⟨vs,hv,rl⟩,e,kk⟩=>by
 obtain⟨⟨y,h1⟩,e1,e2⟩:=bu e;dsimp only at e2
 by_cases hz:a.length < sizeLine
 ·rw[Nj hz] at e2;cases e2;refine⟨ρ,δ,h,y,_,R,S,e1,λu H1 ⟨ρ1,T1,S1,r1⟩=>⟨vs,(T1.res l hl).trans hv,by rw[rl.length];exact hz,?_⟩⟩;have hl1:l∈ρ1.rs:=by rw[T1.rs];exact hl
  have Cp:Ch ρ1 H1 ρ1 (upd H1 l (.lst (vs++[u]))):=Ch.put hl1;exact kk ρ1 _ τ (kM.put (K:=X.K) T1 hl) (S1.put hl1) ((R.mono T1.toCh).mono Cp) ⟨_,aT,((rl.mono T1.toCh).snoc r1).mono Cp⟩
 ·rw[Np hz] at e2;cases e2
theorem ba.len{K:FR}{ρ:Ad}{H:Hp}:∀{us:List (Key×V)} {ks:List (Key×D)},ba K ρ H us ks->us.length=ks.length:=λr=>r.length
end Sm
namespace L2
open PySem PySem.Spec PyProof.Rows
theorem Inv.draw(I:Inv X pins σ H s)(d:Drawn):Inv X pins σ H {s with drawn:=d}:=⟨I.ok,I.os,I.bare,I.base,I.loc,I.cell,I.free,I.ip,I.pin,I.aV,I.len⟩
theorem yw{us:List Value}{ss:List Str}(a:StrsAre us ss):Vals (ss.map V.str) us:=by
 induction a with
 | nil=>exact .nil
 | cons x t r ih=>exact .cons ⟨t,rfl⟩ ih
end L2
namespace Sm
open PySem L2 PySem.Spec PyProof.Rows
noncomputable def Li{α:Type}(caps:List (Option Nat))(i:IM)(g:GM)(c:TM)(m:MK α)(a0:α)(out:α->D):EM:=λδ h=>(i δ h).bind λp=>(gQ p.2.1 g c m p.1 (kA caps δ) p.2.2 a0).map λq=>(out q.2.2,q.2.1)
section
variable {α:Type} {K:FR} {A:Ac α} {g:GM} {mt:TM} {m:MK α}
theorem Ge(h0:∀ρ H l,A.at_ K ρ (upd H l (o l)) l a0)(hout:∀ρ H l a,A.at_ K ρ H l a->¬ρ.has l->Rep K ρ H (.ref l) (out a))(hh:tM K (Li caps mi g mt m a0 out) σ H Q):nA caps (Jh K mi) o (EW K g) (C6 K mt) (λl=>FO K A l m) σ H Q:=by
 obtain⟨ρ,δ,h,d,h',R,S,ee,k⟩:=hh;obtain⟨⟨xs,ws,h1⟩,e1,e2⟩:=bu ee;obtain⟨⟨δ',h2,a'⟩,e3,e4⟩:=eC e2;cases e4;exact AF h0 ⟨ρ,δ,h,xs,ws,h1,δ',_,a',R,S,e1,e3,λl ρ' H' T S' n at'=>k _ _ ⟨ρ',T,S',hout _ _ _ _ at' n⟩⟩
theorem E4{caps:List (Option Nat)}{mi:IM}{m:MK (List D)}{σ:L2.St}{H:Hp}{Q:VK}(hh:tM K (Li caps mi g mt m [] .lv) σ H Q):nA caps (Jh K mi) (λ_=>.lst []) (EW K g) (C6 K mt) (λl=>FO K KI l m) σ H Q:=
 Ge (A:=KI) (o:=λ_=>.lst []) (a0:=[]) (out:=.lv) (λρ H l=>show ∃us,_ from⟨[],aT,.nil⟩) (λρ H l a h n=>by obtain⟨us,e,r⟩:=h;exact .lv e n r) hh
end
theorem Du{X:Cx}{i:Nat}{m:EM}{t:TE}{E:Ends}{σ:L2.St}{H:Hp}(hh:C7 X.K (aJ i m) E σ H)(imp:∀σ H Q,tM X.K m σ H Q->t σ H Q):Ab t (qT i) E σ H:=imp _ _ _ (AE hh)
section
variable {X:Cx} {k v tg iter elt tg2 iter2:Expr} {pos:Pos} {mk mv me:EM} {mt mt2:TM} {g g2:GM} {N':List Str} {caps:List (Option Nat)} {scope:Scope} {ifs ifs2:List Expr} {mi mi2:IM}
theorem zA{ws:W}{g:GM}{c:TM}{e:EM}:∀(xs:List D)(δ:DS)(h:MH)(a:List D),a.length<=sizeLine->(gQ ws g c (mL e) xs δ h a).map (λq=>(q.2.2,q.2.1))=(aY ws g c e xs δ h).bind λq=>if a.length+q.1.length<=sizeLine then some (a++q.1,q.2) else none:=by
 intro xs
 induction xs with
 | nil=>
  intro δ h a ha;unfold gQ aY
  by_cases w:jE ws h=true
  ·rw[Nj w,Nj w];show _=if a.length+0<=sizeLine then some (a++[],h) else none
   rw[Nj (show a.length+0<=sizeLine from ha),PU];rfl
  ·rw[Np w,Np w];rfl
 | cons x r ih=>
  intro δ h a ha;unfold gQ aY
  by_cases w:jE ws h=true
  ·rw[Nj w,Nj w];cases g x δ h with
   | none=>rfl
   | some q=>
    dsimp only[Option.bind_some];cases c q.1 q.2 with
    | none=>rfl
    | some t=>
     dsimp only[Option.bind_some]
     by_cases z:t.1=true
     ·rw[Nj z,Nj z];unfold mL;cases e q.1 t.2 with
      | none=>rfl
      | some y=>
       dsimp only[Option.bind_some]
       by_cases l:a.length < sizeLine
       ·rw[Nj l,ND];refine(ih _ _ _ (by rw[NT];exact l)).trans ?_;cases aY ws g c e r q.1 y.2 with
        | none=>rfl
        | some v=>
         dsimp only[Option.bind_some,Option.map_some];have el:(a++[y.1]).length+v.1.length=a.length+(y.1::v.1).length:=by simp only[NT,NQ,Ot];lia
         rw[el,OI];rfl
       ·rw[Np l];cases aY ws g c e r q.1 y.2 with
        | none=>rfl
        | some v=>
         exact(Np (λk=>l (Nq (Nat.lt_add_of_pos_right (P8 _)) k))).symm
     ·rw[Np z,Np z];exact ih _ _ _ ha
  ·rw[Np w,Np w];rfl
theorem uZ(caps:List (Option Nat))(mi:IM)(g:GM)(mt:TM)(me:EM):Li caps mi g mt (mL me) [] .lv=dP (cw caps mi g mt me):=by
 funext δ h
 unfold Li dP cw;cases mi δ h with
 | none=>rfl
 | some p=>
  dsimp only[Option.bind_some];have k:=congrArg (Option.map λq:List D×MH=>(D.lv q.1,q.2)) (zA (ws:=p.2.1) (g:=g) (c:=mt) (e:=me) p.1 (kA caps δ) p.2.2 [] (Oo _));rw[Option.map_map] at k;refine k.trans ?_;cases aY p.2.1 g mt me p.1 (kA caps δ) p.2.2 with
  | none=>rfl
  | some q=>
   show Option.map _ (if 0+q.1.length<=sizeLine then some ([]++q.1,q.2) else none)=Option.map _ (if q.1.length<=sizeLine then some q else none);rw[Q0];rfl
theorem dc(C:bD X N' caps scope)(hc:X.calm=true)(hi:SI X tg iter mi)(hg:∀C s₃ H₃ fp pl,SG (p8 X N' scope C s₃ H₃ fp pl) tg g)(hif:∀C s₃ H₃ fp pl,Lj (p8 X N' scope C s₃ H₃ fp pl) ifs mt)(he:∀C s₃ H₃ fp pl,SE (p8 X N' scope C s₃ H₃ fp pl) elt me)(hs:∀x,foldedSetIterable iter X.env x=pure x:=by intro _;ac_nf):
  SE X (.ListComp elt [⟨tg,iter,ifs,0⟩] scope pos) (dP (cw caps mi g mt me)):=by
 rw[<-uZ];exact(A9 (g:=EW X.K g) (tc:=C6 X.K mt) (tm:=λl=>FO X.K KI l (mL me)) C hc (ow ..) rfl (λit l env=>nv ..) qA hi hg hif (λC s₃ H₃ fp pl l=>xx (he C s₃ H₃ fp pl) l) rfl hs).imp λ_ _ _=>E4
theorem iE(hN:X.N.Nodup)(hi':X.N[i]?=some y)(hy:X.env.scope.names.lookup y=some .local)(C:bD X N' caps scope)(hc:X.calm=true)(hi:SI X tg iter mi)(hg:∀C s₃ H₃ fp pl,SG (p8 X N' scope C s₃ H₃ fp pl) tg g)(hif:∀C s₃ H₃ fp pl,Lj (p8 X N' scope C s₃ H₃ fp pl) ifs mt)(he:∀C s₃ H₃ fp pl,SE (p8 X N' scope C s₃ H₃ fp pl) elt me)(hsw:swapsWith (.ListComp elt [⟨tg,iter,ifs,0⟩] scope pos) (some (.Name y py)) spos.line X.env=pure true:=by ac_nf)(hs:∀x,foldedSetIterable iter X.env x=pure x:=by intro _;ac_nf):
  SS X (.Assign [.Name y py] (.ListComp elt [⟨tg,iter,ifs,0⟩] scope pos) spos) (aJ i (dP (cw caps mi g mt me))):=by
 rw[<-uZ];exact(AU (g:=EW X.K g) (tc:=C6 X.K mt) (tm:=λl=>FO X.K KI l (mL me)) hN hi' hy C hc (ow ..) rfl (λit l env=>nv ..) qA hi hg hif (λC s₃ H₃ fp pl l=>xx (he C s₃ H₃ fp pl) l) (λ_=>rfl) hsw hs).imp λE σ H hh=>Du hh λ_ _ _=>E4
theorem qt{K:FR}{ρ:Ad}{H:Hp}:∀(ss:List Str),(∀k∈ss,PyData.strOk k=true)->ar K ρ H (ss.map V.str) (ss.map D.str)
 | [],_=>.nil
 | x::r,h=>.cons (.str (h x Nm)) (qt r λk hk=>h k (Nl _ hk))
end
end Sm
namespace L2
open PySem PySem.Spec PyProof.Rows
theorem ux(its:List Value):slicePick its.toArray none none (some (-1))=its.reverse.toArray:=by
 unfold slicePick;congr 1;have hb:sliceBounds none none (some (-1)) its.toArray.size=((its.length:Int)-1,-1,-1):=by
  unfold sliceBounds;simp
 rw[hb];dsimp only;have hr:sliceRange ((its.length:Int)-1) (-1) (-1)=(List.range its.length).map λk=>its.length-1-k:=by
  unfold sliceRange;dsimp only;rw[Np (by decide)];have hc:(if(its.length:Int)-1 > -1 then((its.length:Int)-1 - -1 - -1-1) / (- -1) else 0)=(its.length:Int):=by
   split
   ·simp
   ·lia
  rw[hc,NP];refine Rm λk hk=>?_;have:=NR.mp hk
  lia
 rw[hr];refine RE λi=>?_;rw[PH];have hall:∀k∈List.range its.length,((λx=>its.toArray[x]?)∘λk=>its.length-1-k) k=some (its.getD (its.length-1-k) .none):=λk hk=>by
  have:=NR.mp hk;show its.toArray[its.length-1-k]?=_;rw[Rb,OB,Nk (by lia)];rfl
 have hm:∀l:List Nat,(∀k∈l,((λx=>its.toArray[x]?)∘λk=>its.length-1-k) k=some (its.getD (its.length-1-k) .none))->l.filterMap ((λx=>its.toArray[x]?)∘λk=>its.length-1-k)=l.map λk=>its.getD (its.length-1-k) .none:=by
  intro l
  induction l with
  | nil=>intro _;rfl
  | cons k r ih=>intro h;rw[Ol,h k Nm,Ny,ih λx hx=>h x (Nl _ hx)]
 rw[hm _ hall,Nz]
 by_cases z:i < its.length
 ·rw[Te z,List.getElem?_reverse z];simp only[Option.map];rw[OB,Nk (by lia)];rfl
 ·rw[Oc (by simpa using z),Oc (by simpa using z)];rfl
theorem qa:∀{xs:List V} {us:List Value} {x:V} {u:Value},Vals xs us->RelV x u->Vals (xs++[x]) (us++[u])
 | _,_,_,_,.nil,r=>.cons r .nil
 | _,_,_,_,.cons r l,r'=>.cons r (qa l r')
theorem nq:∀{xs:List V} {us:List Value},Vals xs us->Vals xs.reverse us.reverse
 | _,_,.nil=>.nil
 | _,_,.cons r l=>by
  rw[QK,QK];exact qa (nq l) r
section
variable {X:Cx} {e st:Expr} {te ts:TE} {pos p2:Pos}
end
end L2
namespace Sm
open PySem L2 PySem.Spec PyProof.Rows
section
variable {X:Cx} {e st a b c:Expr} {ma ms mb mc:EM} {pos p2:Pos}
theorem ar.rev{K:FR}{ρ:Ad}{H:Hp}:∀{vs:List V} {ds:List D},ar K ρ H vs ds->ar K ρ H vs.reverse ds.reverse
 | _,_,.nil=>.nil
 | _,_,.cons r l=>by rw[QK,QK];exact(ar.rev l).snoc r
abbrev Iu:=DS->MH->Option (List (Key×D)×MH)
noncomputable def GR:Iu:=λ_ h=>some ([],h)
noncomputable def fP(k v:EM)(r:Iu):Iu:=λδ h=>(k δ h).bind λp=>(v δ p.2).bind λq=>(wH p.1).bind λkk=>(r δ q.2).map λz=>((kk,q.1)::z.1,z.2)
inductive KO(K:FR)(m:Iu)(σ:L2.St)(H:Hp)(Q:List (V×V)->Hp->Prop):Prop where
 | mk (ρ δ h kvs h'):bY K ρ H σ δ->bz K ρ h H->(m δ h=some (kvs,h'))->(∀us ρ' H',cF ρ H ρ' H'->bz K ρ' h' H'->ba K ρ' H' us kvs->Q (us.map λkv=>(kV kv.1,kv.2)) H')->KO K m σ H Q
def MY(K:FR)(m:Iu):L2.St->Hp->(List (V×V)->Hp->Prop)->Prop:=λσ H Q=>KO K m σ H Q
def SP(X:Cx)(pos:Pos)(keys:List (Option Expr))(vals:List Expr)(m:Iu):Prop:=∃trs,IJ X pos keys vals trs/\∀σ H Q,MY X.K m σ H Q->rL trs σ H Q
theorem FW:SP X pos [] [] GR:=⟨[],DI,λσ H Q ⟨ρ,δ,h,kvs,h',R,S,e,k⟩=>by
 cases e;exact k [] ρ H (.refl _ _) S .nil⟩
theorem iF(hk:SE X kx mk)(hv:SE X vx mv)(hr:SP X pos ks vs m):SP X pos (some kx::ks) (vx::vs) (fP mk mv m):=by
 obtain⟨trs,h1,h2⟩:=hr;refine⟨_,AV hk hv h1,λσ H Q ⟨ρ,δ,h,kvs,h',R,S,ee,k⟩=>?_⟩;obtain⟨⟨x,ha⟩,e1,e2⟩:=bu ee;obtain⟨⟨y,hb⟩,e3,e4⟩:=bu e2;obtain⟨kk,e5,e6⟩:=bu e4;obtain⟨⟨zs,hz⟩,e7,e8⟩:=eC e6;cases e8;refine⟨ρ,δ,h,x,ha,R,S,e1,λv H1 ⟨ρ1,T1,S1,r1⟩=>⟨ρ1,δ,ha,y,hb,R.mono T1.toCh,S1,e3,λu H2 ⟨ρ2,T2,S2,r2⟩=>?_⟩⟩;refine h2 σ H2 _ ⟨ρ2,δ,hb,zs,_,(R.mono T1.toCh).mono T2.toCh,S2,e7,λus ρ3 H3 T3 S3 r3=>?_⟩;have ek:=mZ r1 e5;subst ek;exact k ((kk,u)::us) ρ3 H3 ((T1.trans T2).trans T3) S3 (.cons (r2.mono T3.toCh) r3)
end
end Sm
namespace L2
open PySem PySem.Spec PyProof.Rows
open HT in
theorem yA{t sl:Addr}{items:Array Value}{vl vu:Value}{lo hi:Option Int}{Q:Value->Shared->Prop}(ht:IsTup s.heap t items)(hs:s.heap.IsSliceOf sl vl vu .none)(pl:IsPart vl lo)(pu:IsPart vu hi)
  (hw:bX items.size 0 lo=0/\bX items.size items.size hi=items.size) (h:Q (.ref t) s):wpAny (model prog w) A (getItem (.ref t) (.ref sl)) Q E s:=by
 obtain⟨os,hos,hcs,hds⟩:=id hs;have hTs:s.TypeIs (.ref sl) "slice":=⟨os,hos,hcs⟩;unfold getItem
 try with_reducible refine OG ?_
 first | refine Nb (Nf ?_) | skip
 refine Nb (RV ht.typeIs (by decide) ?_);refine Nb (Oh (name:=Str.ofString "__getitem__") ht.typeIs N4 (Oj N4 ht.typeIs Sh ?_ (SH _ _)));show wpAny _ _ (Builtin.Tuple.tupleItemsOf (.ref t) >>=_) _ _ s;refine Nb (tupleItemsOf_ ht (Nb (Qv hTs ?_)));rw[Nj (by decide)];refine Nb (fL hs pl pu ?_);show wpAny _ _ (if(((bX items.size 0 lo:Nat):Int)==0&&(1:Int)==1&&(bX items.size items.size hi-bX items.size 0 lo)==items.size)=true then _ else _) _ _ s;rw[Nj (by rw[hw.1,hw.2];simp)];unfold Builtin.Tuple.tupleIsExact;simp only[bind_assoc,pure_bind];refine Nb (Qv ht.typeIs ?_);rw[Nj (by decide)]
 first
  | exact Nb (Pr (Nf ⟨_,rfl,Nf h⟩))
  | exact Nb (Pr (Nb (Nf (Nf ⟨_,rfl,Nf h⟩))))
def LR(K:FR):V->Option Int->Option Int->Hp->VK->Prop:=λx lo hi H Q=>∃a xs,x=.ref a/\je K H a xs/\(HT.bX xs.length 0 lo=0/\HT.bX xs.length xs.length hi=xs.length)/\Q (.ref a) H
theorem Aj:Ip X (LR X.K):=by
 intro pins s σ H x v vl vu lo hi sl Q I rx hs pl pu h;obtain⟨a,xs,rfl,hx,hw,q⟩:=h;cases rx;obtain⟨its,r,ht,hz⟩:=I.tuple hx;have hlen:its.toArray.size=xs.length:=by rw[Nx];exact r.length.symm
 exact⟨"tuple",_,N4.lookup,ht.typeIs,yA ht hs pl pu (by rw[hlen];exact hw) ⟨.ref a,H,I,rfl,q⟩⟩
end L2
namespace Sm
open PySem L2 PySem.Spec PyProof.Rows
section
variable {X:Cx}
noncomputable def mM(d:D)(lo hi:Option Int)(h:MH):Option (D×MH):=match d with
 | .tup xs=>if HT.bX xs.length 0 lo=0/\HT.bX xs.length xs.length hi=xs.length then some (.tup xs,h) else some (.tup (cutD xs lo hi),h)
 | d=>Kn d lo hi h
noncomputable def fX(a:EM)(l u:PM):EM:=λδ h=>(a δ h).bind λp=>(l δ p.2).bind λq=>(u δ q.2).bind λr=>mM p.1 q.1 r.1 r.2
inductive Fp(K:FR)(x:V)(lo hi:Option Int)(H:Hp)(Q:VK):Prop where
 | mk (ρ h d z h'):bz K ρ h H->Rep K ρ H x d->(mM d lo hi h=some (z,h'))->(∀v H',cG K ρ H h' z v H'->Q v H')->Fp K x lo hi H Q
def LW(K:FR):V->Option Int->Option Int->Hp->VK->Prop:=λx lo hi H Q=>Fp K x lo hi H Q
theorem FT:Ip X (LW X.K):=by
 intro pins s σ H x v vl vu lo hi sl Q I rx hs pl pu hh;obtain⟨ρ,h,d,z,h',S,rd,ee,k⟩:=hh;cases d with
 | tup xs=>
  unfold mM at ee;dsimp only at ee
  by_cases c:HT.bX xs.length 0 lo=0/\HT.bX xs.length xs.length hi=xs.length
  ·rw[Nj c] at ee;cases ee;have rd0:=rd;cases rd with | tup h0 l0=>
   exact Aj pins s σ H _ v vl vu lo hi sl Q I rx hs pl pu ⟨_,_,rfl,h0.sq,by rw[l0.length];exact c,k _ _ (.here S rd0)⟩
  ·rw[Np c] at ee;exact EY pins s σ H x v vl vu lo hi sl Q I rx hs pl pu ⟨ρ,h,_,z,h',S,rd,by unfold Kn;dsimp only;rw[Np c];exact ee,k⟩
 | _=>exact EY pins s σ H x v vl vu lo hi sl Q I rx hs pl pu ⟨ρ,h,_,z,h',S,rd,ee,k⟩
theorem F1{a:Expr}{lo hi:Option Expr}{pos p2:Pos}{ma:EM}{ml mu:PM}(ha:SE X a ma)(hl:SP' X lo ml)(hu:SP' X hi mu):SE X (.Subscript a (.Slice lo hi none p2) pos) (fX ma ml mu):=
 (AY FT ha hl hu).imp λσ H Q ⟨ρ,δ,h,d,h',R,S,e,k⟩=>by
  obtain⟨⟨x,h1⟩,e1,e2⟩:=bu e;obtain⟨⟨l,h2⟩,e3,e4⟩:=bu e2;obtain⟨⟨u,h3⟩,e5,e6⟩:=bu e4;exact⟨ρ,δ,h,x,h1,R,S,e1,λv H1 ⟨ρ1,T1,S1,r1⟩=>⟨ρ1,δ,h1,l,h2,R.mono T1.toCh,S1,e3,λρ2 H2 T2 S2=>⟨ρ2,δ,h2,u,h3,(R.mono T1.toCh).mono T2.toCh,S2,e5,λρ3 H3 T3 S3=>
   ⟨ρ3,h3,x,d,h',S3,r1.mono (T2.trans T3).toCh,e6,λw H4 p=>k w H4 (p.step (T1.trans (T2.trans T3)))⟩⟩⟩⟩
noncomputable def uV:Fn:=λds h=>match ds with
 | [.bl b]=>some (.int (if b then 1 else 0),h)
 | _=>none
theorem HG:fx X (.type "int") uV:=by
 intro pins s σ H xs us Q I r hh;obtain⟨ρ,h,ds,z,h',S,l,ee,k⟩:=hh
 match ds,l,ee with
 | [],_,ee=>exact bV ee
 | _::_::_,_,ee=>exact absurd ee (by unfold uV;split <;> simp_all)
 | [d],l,ee=>
  obtain⟨v,rfl,rd⟩:=rep1 l;cases rd <;> first |(exact bV ee) | skip
  cases ee;obtain⟨u,rfl,ru⟩:=Vals.one r;cases ru;exact call_int_bool ⟨.int _,H,I.kept (t':=s.toks+1) (h':=s.heap) λ_ _ e=>e,⟨_,rfl⟩,k _ _ (.here S (.int _))⟩
noncomputable def ir(d e:D)(h:MH):Option (D×MH):=match d,e with
 | .str x,.int n=>if x.length<=1000/\0<=n/\n<=1000/\PyData.strOk (Txt.mul x n)=true then some (.str (Txt.mul x n),h) else none
 | d,e=>Hv d e h
theorem gu:jB X (binaryOp .Mult) ir:=by
 intro pins s σ H x y v u Q I rx ry hh;obtain⟨ρ,h,d,e,z,h',S,rd,re,ee,k⟩:=hh;unfold ir at ee
 split at ee
 ·rename_i x0 n
  by_cases c:x0.length<=1000/\0<=n/\n<=1000/\PyData.strOk (Txt.mul x0 n)=true
  ·rw[Nj c] at ee;cases ee;cases rd;cases re;obtain⟨t1,rfl⟩:=rx;obtain⟨t2,rfl⟩:=ry;obtain⟨c1,c2,c3,c4⟩:=c;refine SB.mul ⟨?_,λ_ _=>?_,λ_ _=>?_⟩ λt' k'=>⟨.str _,H,I.kept (t':=k') (h':=s.heap) λ_ _ e=>e,⟨t',rfl⟩,k _ _ (.here S (.str c4))⟩
   ·rw[NU (by lia),NU (by lia)];rfl
   ·have h1:(9007199254740991:Int)<=(2^63-1) / n:=by
     refine Int.le_ediv_of_mul_le (by lia) ?_;have:9007199254740991*n<=9007199254740991*1000:=Int.mul_le_mul_of_nonneg_left c3 (by decide)
     lia
    lia
   ·have h1:x0.length*n.toNat<=1000*1000:=Nat.mul_le_mul c1 (by lia);refine NU ?_;have:=O9
    lia
  ·rw[Np c] at ee;cases ee
 ·exact GS pins s σ H x y v u Q I rx ry ⟨ρ,h,_,_,z,h',S,rd,re,ee,k⟩
noncomputable def iy(f f':D->D->MH->Option (D×MH))(ma mb mc:EM):EM:=λδ h=>(ma δ h).bind λp=>(mb δ p.2).bind λq=>(f p.1 q.1 q.2).bind λr=>match r.1 with
 | .bl true=>(mc δ r.2).bind λu=>f' q.1 u.1 u.2
 | .bl false=>some (.bl false,r.2)
 | _=>none
theorem AG(hh:tM X.K (iy f f' ma mb mc) σ H Q):Aa (rS X.K f) (rS X.K f') (tM X.K ma) (tM X.K mb) (tM X.K mc) σ H Q:=by
 obtain⟨ρ,δ,h,d,h',R,S,ee,k⟩:=hh;obtain⟨⟨x,h1⟩,e1,e2⟩:=bu ee;obtain⟨⟨y,h2⟩,e3,e4⟩:=bu e2;obtain⟨⟨z,h3⟩,e5,e6⟩:=bu e4;dsimp only at e3 e5 e6;refine⟨ρ,δ,h,x,h1,R,S,e1,λv H1 ⟨ρ1,T1,S1,r1⟩=>⟨ρ1,δ,h1,y,h2,R.mono T1.toCh,S1,e3,λu H2 ⟨ρ2,T2,S2,r2⟩=>⟨ρ2,h2,x,y,z,h3,S2,r1.mono T2.toCh,r2,e5,λw H3 ⟨ρ3,T3,S3,r3⟩=>?_⟩⟩⟩;cases z with
 | bl b=>
  cases r3;refine⟨b,rfl,?_⟩;cases b with
  | false=>
   cases e6;exact Kf (k _ _ (cG.step (T1.trans (T2.trans T3)) (.here S3 (.bl false))))
  | true=>
   obtain⟨⟨u',h4⟩,e7,e8⟩:=bu e6;have T:=T1.trans (T2.trans T3);exact Ke ⟨ρ3,δ,h3,u',h4,R.mono T.toCh,S3,e7,λv' H4 ⟨ρ4,T4,S4,r4⟩=>⟨ρ4,h4,y,u',d,h',S4,r2.mono (T3.trans T4).toCh,r4,e8,λw' H5 P=>k w' H5 (P.step (T.trans T4))⟩⟩
 | _=>exact bV e6
theorem nI(ho:jB X (compareOp op) f)(ho':jB X (compareOp op') f')(ha:SE X a ma)(hb:SE X b mb)(hc:SE X c mc)(hm:lastMarks [op,op'] [b,c]=false:=by with_unfolding_all rfl):
  SE X (.Compare a [op,op'] [b,c] pos) (iy f f' ma mb mc):=(Ba ho ho' ha hb hc hm).imp λ_ _ _=>AG
end
end Sm
namespace L2
open PySem PySem.Spec PyProof.Rows
theorem Ay(its:List Value):((List.range its.length).filterMap λ(k:Nat)=>its.toArray[(((its.length:Int)-1)+(k:Int)*(-1)).toNat]?).toArray=its.reverse.toArray:=by
 rw[<-ux];unfold slicePick;have hb:sliceBounds none none (some (-1)) its.toArray.size=((its.length:Int)-1,-1,-1):=by
  unfold sliceBounds;simp
 rw[hb];dsimp only;unfold sliceRange;dsimp only;rw[Np (by decide)];have hc:(if(its.length:Int)-1 > -1 then((its.length:Int)-1 - -1 - -1-1) / (- -1) else 0)=(its.length:Int):=by
  split
  ·simp
  ·lia
 rw[hc,NP,PH];congr 2
 funext k
 show _=its.toArray[((its.length:Int)-1+-1*(k:Int)).toNat]?;rw[Int.mul_comm]
open HT in
theorem CV{t sl:Addr}{its:List Value}{tk:Tok}{Q:Value->Shared->Prop}(ht:IsTup s.heap t its.toArray)(hs:s.heap.IsSliceOf sl .none .none (.int (-1) tk))
  (h:Q (.ref s.heap.objs.size) {s with heap:=s.heap.push {cls:=.type "tuple",data:=.seq its.reverse.toArray}}) (hsz:its.length<=sizeLine):wpAny (model prog w) A (getItem (.ref t) (.ref sl)) Q E s:=by
 obtain⟨os,hos,hcs,hds⟩:=id hs;have hTs:s.TypeIs (.ref sl) "slice":=⟨os,hos,hcs⟩;unfold getItem
 try with_reducible refine OG ?_
 first | refine Nb (Nf ?_) | skip
 refine Nb (RV ht.typeIs (by decide) ?_);refine Nb (Oh (name:=Str.ofString "__getitem__") ht.typeIs N4 (Oj N4 ht.typeIs Sh ?_ (SH _ _)));show wpAny _ _ (Builtin.Tuple.tupleItemsOf (.ref t) >>=_) _ _ s;refine Nb (tupleItemsOf_ ht (Nb (Qv hTs ?_)));rw[Nj (by decide)];refine Nb (m:=Builtin.Slice.sliceApplied _ _) ?_;unfold Builtin.Slice.sliceApplied Builtin.Slice.sliceFields;refine Nb (Nb (Oi hos hds (x:=.none) rfl (Nb (Oi hos hds (x:=.none) rfl (Nb (Oi hos hds (x:=.int (-1) tk) rfl (Nf ?_)))))));refine Nb (slicePart_int ?_);show wpAny _ _ (if((-1:Int)==0)=true then _ else _) _ _ s;rw[Np (by decide)];refine Nb (R9 (Nb (R9 (Nb (Nf ?_)))));have hadj:Builtin.Slice.sliceAdjust none none (-1) (its.toArray.size:Int)=((its.length:Int)-1,-1):=by
  unfold Builtin.Slice.sliceAdjust;simp
 have hpl:Builtin.Slice.slicePlaces ((its.length:Int)-1) (-1) (-1)=its.length:=by
  unfold Builtin.Slice.slicePlaces;rw[Np (by decide)]
  split
  ·simp
  ·lia
 show wpAny _ _ (match Builtin.Slice.sliceAdjust none none (-1) (its.toArray.size:Int) with |(lo,hi)=>pure (lo,(-1:Int),Builtin.Slice.slicePlaces lo hi (-1))) _ _ s;rw[hadj];show wpAny _ _ (pure ((its.length:Int)-1,(-1:Int),Builtin.Slice.slicePlaces ((its.length:Int)-1) (-1) (-1))) _ _ s;rw[hpl];refine Nf ?_;show wpAny _ _ (if((its.length:Int)-1==0&&(-1:Int)==1&&its.length==its.toArray.size)=true then _ else _) _ _ s;rw[Np (by rw[show((-1:Int)==1)=false from rfl];simp),Ay];have htake:sizeOk (.seq its.reverse.toArray):=by
  show its.reverse.toArray.size<=sizeLine;rw[Nx,QA];exact hsz
 first
  | exact Nb (m:=Builtin.Tuple.tupleExact _) (Og (Nf ⟨_,rfl,Nf h⟩) htake)
  | exact Nb (Nb (m:=Builtin.Tuple.tupleExact _) (Og (Nf (Nf ⟨_,rfl,Nf h⟩)) htake))
section
variable {X:Cx} {e st:Expr} {te ts:TE} {pos p2:Pos}
def Jb(K:FR)(te ts:TE):TE:=λσ H Q=>te σ H λx H1=>ts σ H1 λy H2=>y=.int (-1)/\∃a xs,x=.ref a/\((eW K H2 a xs/\∀p,H2 p=none->Q (.ref p) (upd H2 p (.lst xs.reverse)))\/(je K H2 a xs/\∀p,H2 p=none->Q (.ref p) (upd H2 p (.tup xs.reverse))))
theorem DU(he:PE X e te)(hs:PE X st ts):PE X (.Subscript e (.Slice none none (some st) p2) pos) (Jb X.K te ts):=by
 intro pins s σ H Q I h;refine Subscript_ (cy (he pins s σ H _ I h) λv s1 ⟨x,H1,I1,r1,q1⟩=>?_);refine wpAny_Slice ?_;rw[Tj];refine Nf (Nf ?_);rw[evalPart_some];refine cy (hs pins s1 σ H1 _ I1 q1) λvs s3 ⟨y,H3,I3,r3,ey,a,xs,ex,q3⟩=>?_;subst ey ex;obtain⟨tk,rfl⟩:=r3;cases r1;have I4:Inv X pins σ H3 {s3 with heap:=s3.heap.push {cls:=.type "slice",data:=.fields #[.none,.none,.int (-1) tk]}}:=I3.kept (t':=s3.toks) λb ob q=>Nd _ q;show wpAny (model X.prog X.w) X.A (subscriptTail e (.Slice none none (some st) p2) (.ref a) (.ref s3.heap.objs.size)) (EP X pins σ Q) X.xe {s3 with heap:=s3.heap.push {cls:=.type "slice",data:=.fields #[.none,.none,.int (-1) tk]}};rcases q3 with⟨hx,q3⟩ |⟨hx,q3⟩
 ·obtain⟨its,r,ht,hz⟩:=I4.list hx;refine tail_any (ops:=[.ref a,.ref s3.heap.objs.size]) (T:="list") ht.isList.typeIs RW.lookup ?_ (by with_unfolding_all rfl);refine Tf ht.isList (Heap.IsSliceOf.new ..) .none .none (.int (-1) tk) (by decide) ?_ (by rw[Nx,<-r.length];exact hz);rw[ux];refine⟨.ref _,_,I4.laid (t':=s3.toks) (o:=.lst xs.reverse) (λb ob q=>Nd _ q) (Nh _) ?_,rfl,q3 _ (I4.aV.fresh (Nh _))⟩;exact⟨by rw[QA];exact hz,its.reverse,0,nq r,Nu _ rfl⟩
 ·obtain⟨its,r,ht,hz⟩:=I4.tuple hx;refine tail_any (ops:=[.ref a,.ref s3.heap.objs.size]) (T:="tuple") ht.typeIs N4.lookup ?_ (by with_unfolding_all rfl);refine CV ht (Heap.IsSliceOf.new ..) ?_ (by rw[<-r.length];exact hz);refine⟨.ref _,_,I4.laid (t':=s3.toks) (o:=.tup xs.reverse) (λb ob q=>Nd _ q) (Nh _) ?_,rfl,q3 _ (I4.aV.fresh (Nh _))⟩;exact⟨by rw[QA];exact hz,its.reverse,nq r,tJ.new _ _⟩
end
end L2
namespace Sm
open PySem L2 PySem.Spec PyProof.Rows
section
variable {X:Cx} {e st:Expr} {ma ms:EM} {pos p2:Pos}
noncomputable def B5(m s:EM):EM:=λδ h=>(m δ h).bind λp=>(s δ p.2).bind λq=>match q.1 with
 | .int j=>if j=-1 then(cL p.1 q.2).map λr=>(if oJ p.1=true then .lv r.1.reverse else .tup r.1.reverse,q.2) else none
 | _=>none
theorem Dj(he:SE X e ma)(hs:SE X st ms):SE X (.Subscript e (.Slice none none (some st) p2) pos) (B5 ma ms):=(DU he hs).imp λσ H Q ⟨ρ,δ,h,d,h',R,S,ee,k⟩=>by
 obtain⟨⟨x,h1⟩,e1,e2⟩:=bu ee;obtain⟨⟨y,h2⟩,e3,e4⟩:=bu e2;dsimp only at e3 e4;cases y <;> first |(exact bV e4) | skip
 rename_i j;dsimp only at e4
 by_cases z:j=-1
 ·rw[Nj z] at e4;subst z;obtain⟨⟨xs,ws⟩,e5,e6⟩:=eC e4;cases e6;refine⟨ρ,δ,h,x,h1,R,S,e1,λv H1 ⟨ρ1,T1,S1,r1⟩=>⟨ρ1,δ,h1,.int (-1),_,R.mono T1.toCh,S1,e3,λu H2 ⟨ρ2,T2,S2,r2⟩=>⟨by cases r2;rfl,?_⟩⟩⟩;obtain⟨a,rfl,⟨vs,q,l⟩,_⟩:=g7 S2 (r1.mono T2.toCh) e5;refine⟨a,vs,rfl,?_⟩;generalize oJ x=b at q k;cases q with
  | l q=>exact .inl ⟨q,λp hp=>k _ _ (cG.step (T1.trans T2) (.lv S2 l.rev hp))⟩
  | t q=>exact .inr ⟨q,λp hp=>k _ _ (cG.step (T1.trans T2) (.tup S2 l.rev hp))⟩
 ·rw[Np z] at e4;cases e4
end
end Sm
namespace L2
open PySem PySem.Spec PyProof.Rows
open HT in
theorem Cq{t b:Addr}{vs ws:List Value}{Q:Value->Shared->Prop}(ht:IsTup s.heap t vs.toArray)(hb:IsTup s.heap b ws.toArray)(hv:vs=[])(h:Q (.ref b) s):wpAny (model prog w) A (binaryOp .Add (.ref t) (.ref b)) Q E s:=by
 obtain⟨⟨cls,dd,data,sl⟩,ho,hc,n,hd⟩:=id ht;obtain⟨⟨cls2,dd2,data2,sl2⟩,ho2,hc2,n2,hd2⟩:=id hb;simp only at hc hd hc2 hd2;subst hc hd hc2 hd2;exact concat_meets ⟨_,ho,rfl⟩ ⟨_,ho2,rfl⟩ Sa Th QZ QV (QL _ _)
   (tuple_addW0 t b vs.toArray ws.toArray n n2 dd dd2 sl sl2 (by simp[hv])) ⟨ho,ho2,h⟩
theorem Bh:kR X (binaryOp .Add) (λx y H Q=>∃a b ys,x=.ref a/\y=.ref b/\je X.K H a []/\je X.K H b ys/\Q (.ref b) H):=by
 intro pins s σ H x y v u Q I rx ry h;obtain⟨a,b,ys,rfl,rfl,ha,hb,q⟩:=h;cases rx;cases ry;obtain⟨its,r1,p1,_⟩:=I.tuple ha;obtain⟨its2,r2,p2,_⟩:=I.tuple hb;exact Cq p1 p2 (r1.mX.mpr rfl) ⟨.ref b,H,I,rfl,q⟩
end L2
namespace Sm
open PySem L2 PySem.Spec PyProof.Rows
noncomputable def az(d e:D)(h:MH):Option (D×MH):=match d,e with
 | .tup [],.tup ys=>some (.tup ys,h)
 | d,e=>wU d e h
theorem bK:jB X (binaryOp .Add) az:=by
 intro pins s σ H x y v u Q I rx ry hh;obtain⟨ρ,h,d,e,z,h',S,rd,re,ee,k⟩:=hh;unfold az at ee
 split at ee
 ·cases ee;have re0:=re;cases rd with | tup h1 l1=>cases re with | tup h2 l2=>
  cases l1;exact Bh pins s σ H _ _ v u Q I rx ry ⟨_,_,_,rfl,rfl,h1.sq,h2.sq,k _ _ (.here S re0)⟩
 ·exact GZ pins s σ H _ _ v u Q I rx ry ⟨ρ,h,_,_,z,h',S,rd,re,ee,k⟩
noncomputable def zq:Fn:=λds h=>match ds with
 | [.int i,.int j]=>some (.int (if j < i then j else i),h)
 | _=>none
noncomputable def p5:Fn:=λds h=>match ds with
 | [.int i,.int j]=>some (.int (if j > i then j else i),h)
 | _=>none
theorem HD(hc:X.calm=true):fx X (.builtin "min") zq:=by
 intro pins s σ H xs us Q I r hh;obtain⟨ρ,h,ds,z,h',S,l,ee,k⟩:=hh
 match ds,l,ee with
 | [],_,ee=>exact bV ee
 | [_],_,ee=>exact absurd ee (by unfold zq;split <;> simp_all)
 | _::_::_::_,_,ee=>exact absurd ee (by unfold zq;split <;> simp_all)
 | [d,e],l,ee=>
  obtain⟨v,w,rfl,rd,re⟩:=rep2 l;cases rd <;> first |(exact bV ee) | skip
  cases re <;> first |(exact bV ee) | skip
  cases ee;exact zC hc pins s σ H _ us Q I r ⟨_,_,rfl,k _ _ (.here S (.int _))⟩
theorem HE(hc:X.calm=true):fx X (.builtin "max") p5:=by
 intro pins s σ H xs us Q I r hh;obtain⟨ρ,h,ds,z,h',S,l,ee,k⟩:=hh
 match ds,l,ee with
 | [],_,ee=>exact bV ee
 | [_],_,ee=>exact absurd ee (by unfold p5;split <;> simp_all)
 | _::_::_::_,_,ee=>exact absurd ee (by unfold p5;split <;> simp_all)
 | [d,e],l,ee=>
  obtain⟨v,w,rfl,rd,re⟩:=rep2 l;cases rd <;> first |(exact bV ee) | skip
  cases re <;> first |(exact bV ee) | skip
  cases ee;exact zD hc pins s σ H _ us Q I r ⟨_,_,rfl,k _ _ (.here S (.int _))⟩
end Sm
namespace L2
open PySem PySem.Spec PyProof.Rows
section
variable {X:Cx} {a b:Expr} {rest:List Expr} {pos:Pos} {ta tb:TE}
end
end L2
namespace Sm
open PySem L2 PySem.Spec PyProof.Rows
section
variable {X:Cx} {a b:Expr} {pos:Pos} {ma mb:EM}
end
end Sm
namespace L2
open PySem PySem.Spec PyProof.Rows
end L2
namespace Sm
open PySem L2 PySem.Spec PyProof.Rows
theorem HX:bootBuiltins "min"=some (.builtin "min"):=by decide+kernel
theorem HY:bootBuiltins "max"=some (.builtin "max"):=by decide+kernel
section
variable {X:Cx} {g:GM} {mt:TM} {ma:EM}
end
end Sm
namespace L2
open PySem PySem.Spec PyProof.Rows
theorem DZ:kR X (compareOp .IsNot) (λx y H Q=>∃a b,x=.bl a/\y=.bl b/\Q (.bl (!(a==b))) H):=by
 intro pins s σ H x y v u Q I rx ry h;obtain⟨a,b,rfl,rfl,q⟩:=h;cases rx;cases ry;cases a <;> cases b <;> exact Nf ⟨.bl _,H,I,(by decide:(_:Value)=_),q⟩
theorem qh:∀{ss:List Str} {us:List Value},Vals (ss.map V.str) us->StrsAre us ss
 | [],_,.nil=>.nil
 | x::r,_,.cons q l=>by obtain⟨t,rfl⟩:=q;exact .cons x t (qh l)
theorem xa:dw X (.builtin "sorted") (λxs H Q=>∃a ss,xs=[.ref a]/\eW X.K H a (ss.map V.str)/\ss.length < 64/\∀l,H l=none->Q (.ref l) (upd H l (.lst ((gE ss).map V.str)))):=by
 intro pins s σ H xs us Q I r h;obtain⟨a,ss,rfl,ha,h64,q⟩:=h;obtain⟨u,rfl,ru⟩:=vals1 r;cases ru;obtain⟨its,rv,p,hz⟩:=I.list ha;have hS:=qh rv;have hlen:its.length=ss.length:=by have:=rv.length;rw[Nc] at this;exact this.symm
 refine sorted_strs p.isList hS (by lia) λout ss' h1 h2 h3=>?_;have:=Ah h2 h3;subst this;have hl:s.heap.objs.size<=s.heap.objs.size+1:=Pc _;obtain⟨e,ho⟩:=sortedAll_at s.heap its out;have hz':((gE ss).map V.str).length<=sizeLine:=by rw[Nc,(eI ss).length_eq,O9];lia
 refine⟨.ref (s.heap.objs.size+1),_,I.laid (t':=s.toks) (o:=.lst ((gE ss).map V.str)) (λb o q=>sortedAll_old q) hl ⟨hz',out.toList,e,yw h1,?_⟩,rfl,q _ (I.aV.fresh hl)⟩;rw[ho]
end L2
namespace Sm
open PySem L2 PySem.Spec PyProof.Rows
noncomputable def BR(d e:D)(h:MH):Option (D×MH):=match d,e with
 | .bl a,.bl b=>some (.bl (!(a==b)),h)
 | _,_=>none
theorem xI:jB X (compareOp .IsNot) BR:=by
 intro pins s σ H x y v u Q I rx ry hh;obtain⟨ρ,h,d,e,z,h',S,rd,re,ee,k⟩:=hh;cases rd <;> first |(exact bV ee) | skip
 cases re <;> first |(exact bV ee) | skip
 cases ee;exact DZ pins s σ H _ _ v u Q I rx ry ⟨_,_,rfl,rfl,k _ _ (.here S (.bl _))⟩
noncomputable def oM:List D->Option (List Int)
 | []=>some []
 | .int i::r=>(oM r).map λis=>i::is
 | _=>none
theorem uT:∀{xs:List D} {ns:List Int},oM xs=some ns->xs=ns.map D.int
 | [],_,e=>by cases e;rfl
 | d::r,ns,e=>by
  cases d <;> first |(exact bV e) | skip
  obtain⟨is,e1,e2⟩:=eC (show(oM r).map _=some ns from e);cases e2;rw[uT e1];rfl
theorem qS:∀(ns:List Int),oM (ns.map D.int)=some ns
 | []=>rfl
 | n::r=>by show(oM (r.map D.int)).map _=_;rw[qS r];rfl
theorem vX{K:FR}{ρ:Ad}{H:Hp}:∀{vs:List V} {ns:List Int},ar K ρ H vs (ns.map D.int)->vs=ns.map V.int:=by
 intro vs ns
 induction ns generalizing vs with
 | nil=>intro a;cases a;rfl
 | cons n r ih=>intro a;cases a with | cons q l=>cases q;rw[ih l];rfl
noncomputable def nC:List D->Option (List Str)
 | []=>some []
 | .str i::r=>(nC r).map λis=>i::is
 | _=>none
theorem tY:∀{xs:List D} {ns:List Str},nC xs=some ns->xs=ns.map D.str
 | [],_,e=>by cases e;rfl
 | d::r,ns,e=>by
  cases d <;> first |(exact bV e) | skip
  obtain⟨is,e1,e2⟩:=eC (show(nC r).map _=some ns from e);cases e2;rw[tY e1];rfl
theorem qi:∀(ns:List Str),nC (ns.map D.str)=some ns
 | []=>rfl
 | n::r=>by show(nC (r.map D.str)).map _=_;rw[qi r];rfl
theorem nX{K:FR}{ρ:Ad}{H:Hp}:∀{vs:List V} {ns:List Str},ar K ρ H vs (ns.map D.str)->vs=ns.map V.str/\∀k∈ns,PyData.strOk k=true
 | _,[],.nil=>⟨rfl,λ_ h=>(nomatch h)⟩
 | _,n::r,.cons q l=>by
  cases q with
  | str h=>
   obtain⟨e,f⟩:=nX l;refine⟨by rw[e];rfl,λk hk=>?_⟩;rcases NA.mp hk with rfl | hk
   ·exact h
   ·exact f k hk
noncomputable def BP:Fn:=λds h=>match ds with
 | [d]=>(dX d h).bind λxs=>(nC xs).bind λns=>if ns.length < 64 then some (.lv ((gE ns).map D.str),h) else none
 | _=>none
theorem Cb:fx X (.builtin "sorted") BP:=by
 intro pins s σ H xs us Q I r hh;obtain⟨ρ,h,ds,z,h',S,l,ee,k⟩:=hh
 match ds,l,ee with
 | [],_,ee=>exact bV ee
 | _::_::_,_,ee=>exact bV ee
 | [d],l,ee=>
  obtain⟨v,rfl,rd⟩:=rep1 l;obtain⟨ys,e1,e2⟩:=bu ee;obtain⟨ns,e3,e4⟩:=bu e2
  by_cases c:ns.length < 64
  ·rw[Nj c] at e4;cases e4;obtain⟨a,vs,rfl,ha,la⟩:=dH S rd e1;have:=tY e3;subst this;obtain⟨e5,f⟩:=nX la;subst e5;refine xa pins s σ H _ us Q I r ⟨a,ns,rfl,eW.of ha,c,λl hl=>k _ _ (.lv S (qt _ λx hx=>f x ((eI ns).mem_iff.mp hx)) hl)⟩
  ·rw[Np c] at e4;cases e4
section
variable {α:Type} {K:FR} {A:Ac α} {l:Addr} {g:GM} {mt:TM} {m:MK α}
mutual
theorem Rep.calm(hs:∀a,ρ'.has a->ρ.has a){v:V}{d:D}(r:Rep K ρ H v d)(c:gO 0 d=true):Rep K ρ' H v d:=by
 cases r with
 | bx=>exact .bx
 | bl b=>exact .bl b
 | int i=>exact .int i
 | str h=>exact .str h
 | ty n=>exact .ty n
 | tup h l=>exact .tup (h.elim (λ⟨a,n⟩=>.inl ⟨a,λz=>n (hs _ z)⟩) .inr) (ar.calm hs l c)
 | lv h n l=>exact .lv h (λz=>n (hs _ z)) (ar.calm hs l c)
 | ro h l=>exact .ro (h.elim (λ⟨a,n⟩=>.inl ⟨a,λz=>n (hs _ z)⟩) .inr) (ar.calm hs l c)
 | dv h n l=>exact .dv h (λz=>n (hs _ z)) (ba.calm hs l c)
 | ob e=>simp[gO] at c
theorem ar.calm(hs:∀a,ρ'.has a->ρ.has a){vs:List V}{ds:List D}(r:ar K ρ H vs ds)(c:fe 0 ds=true):ar K ρ' H vs ds:=by
 cases r with
 | nil=>exact .nil
 | cons r l=>have c:=NJ.mp c;exact .cons (Rep.calm hs r c.1) (ar.calm hs l c.2)
theorem ba.calm(hs:∀a,ρ'.has a->ρ.has a){vs:List (Key×V)}{ds:List (Key×D)}(r:ba K ρ H vs ds)(c:EC 0 ds=true):ba K ρ' H vs ds:=by
 cases r with
 | nil=>exact .nil
 | cons r l=>have c:=NJ.mp c;exact .cons (Rep.calm hs r c.1) (ba.calm hs l c.2)
end
end
section
variable {X:Cx} {k v tg iter:Expr} {pos:Pos} {mk mv:EM} {mt:TM} {g:GM} {N':List Str} {caps:List (Option Nat)} {scope:Scope} {ifs:List Expr} {mi:IM}
end
theorem qY:bootBuiltins "sorted"=some (.builtin "sorted"):=by decide+kernel
end Sm
namespace L2
open PySem PySem.Spec PyProof.Rows
end L2
namespace Sm
open PySem L2 PySem.Spec PyProof.Rows
end Sm
namespace L2
open PySem PySem.Spec PyProof.Rows
end L2
namespace Sm
open PySem L2 PySem.Spec PyProof.Rows
noncomputable def Hw(d e:D)(h:MH):Option (D×MH):=match d,e with
 | .tup xs,.tup []=>some (.bl xs.isEmpty,h)
 | _,_=>none
noncomputable def zo(d e:D)(h:MH):Option (D×MH):=match d,e with
 | .tup xs,.tup []=>some (.bl (!xs.isEmpty),h)
 | _,_=>none
theorem ue{K:FR}{ρ:Ad}{H:Hp}:∀{vs:List V} {ds:List D},ar K ρ H vs ds->vs.length=ds.length
 | _,_,.nil=>rfl
 | _,_,.cons _ l=>by rw[NQ,NQ,ue l]
theorem B1(hu:X.A.units+64 < cLine)(I:L2.Inv X pins σ H s)(rx:L2.RelV x v)(ry:L2.RelV y u)(rd:Rep X.K ρ H x (.tup xs))(re:Rep X.K ρ H y (.tup [])):
  (∀Q:Value->Shared->Prop,Q (.bool xs.isEmpty) s->wpAny (model X.prog X.w) X.A (compareOp .Eq v u) Q X.xe s)/\∀Q:Value->Shared->Prop,Q (.bool (!xs.isEmpty)) s->wpAny (model X.prog X.w) X.A (compareOp .NotEq v u) Q X.xe s:=by
 cases rd with
 | @tup a vs _ h0 l0=>
  cases re with
  | @tup b ws _ h1 l1=>
   cases rx;cases ry;obtain⟨its,rv,p,_⟩:=I.tuple h0.sq;obtain⟨jts,rw',q,_⟩:=I.tuple h1.sq;have n1:its.length=xs.length:=by rw[<-ue l0];exact rv.length.symm
   have n2:jts=[]:=by
    cases l1;exact Sl.mp (by have:=rw'.length;simpa using this.symm)
   subst n2;have hb:((List.range (min its.toArray.size ([]:List Value).toArray.size)).all (λ_=>true)&&its.toArray.size==([]:List Value).toArray.size)=xs.isEmpty:=by
    cases xs with
    | nil=>
     have:=Sl.mp n1;subst this;rfl
    | cons x r=>
     rw[Nx,n1];simp
   have hlt:X.A.units < cLine:=by lia
   refine⟨λQ z=>PySem.SeqAt.eq_tupleAt (e:=λ_=>true) p q hlt (λj _ h2=>absurd h2 (by simp)) (by rw[hb];exact z),λQ z=>PySem.SeqAt.RcNeAt.tuples (e:=λ_=>true) p q hlt (λj _ h2=>absurd h2 (by simp)) _ _ _ Q (by rw[hb];exact z)⟩
theorem GW(hu:X.A.units+64 < cLine):jB X (compareOp .Eq) Hw:=by
 intro pins s σ H x y v u Q I rx ry hh;obtain⟨ρ,h,d,e,z,h',S,rd,re,ee,k⟩:=hh;unfold Hw at ee
 split at ee
 ·cases ee;exact(B1 hu I rx ry rd re).1 _ ⟨.bl _,H,I,rfl,k _ _ (.here S (.bl _))⟩
 ·cases ee
theorem wm(hu:X.A.units+64 < cLine):jB X (compareOp .NotEq) zo:=by
 intro pins s σ H x y v u Q I rx ry hh;obtain⟨ρ,h,d,e,z,h',S,rd,re,ee,k⟩:=hh;unfold zo at ee
 split at ee
 ·cases ee;exact(B1 hu I rx ry rd re).2 _ ⟨.bl _,H,I,rfl,k _ _ (.here S (.bl _))⟩
 ·cases ee
end Sm
namespace Hd
open PySem PySem.W PySem.Spec PyProof.Rows L2 Sm
noncomputable def Ed(_:Obj):Bool:=true
noncomputable def Ea(h:Heap)(a:Addr):Option (Addr×Obj):=match h.get? a with
 | some o=>if Ed o then some (a,o) else none
 | none=>none
noncomputable def aO(h:Heap):Frag:=(List.range h.objs.size).filterMap (Ea h)
theorem lC(h:Heap)(a:Addr):∀l:List Addr,(l.filterMap (Ea h)).lookup a=if a∈l then(Ea h a).map (·.2) else none
 | []=>rfl
 | b::r=>by
  have ih:=lC h a r
  by_cases hb:a=b
  ·subst hb;rw[Nj Nm];rw[Ol];cases e:Ea h a with
   | none=>
    dsimp only;rw[ih,e]
    split <;> rfl
   | some p=>
    have hp:p.1=a:=by
     unfold Ea at e
     split at e
     ·split at e
      ·cases e;rfl
      ·cases e
     ·cases e
    obtain⟨p1,p2⟩:=p;dsimp only at hp;subst hp;simp
  ·have hm:(a∈b::r)↔a∈r:=by simp[hb]
   rw[Ol];cases e:Ea h b with
   | none=>dsimp only;rw[ih];simp only[hm]
   | some p=>
    have hp:p.1=b:=by
     unfold Ea at e
     split at e
     ·split at e
      ·cases e;rfl
      ·cases e
     ·cases e
    obtain⟨p1,p2⟩:=p;dsimp only at hp;subst hp;have hab:(a==p1)=false:=by simpa using hb
    rw[Om,hab];dsimp only;rw[ih];simp only[hm]
theorem lD(e:h.get? a=some o)(f:Ed o=true):(aO h).lookup a=some o:=by
 unfold aO;rw[lC,Nj]
 ·unfold Ea;rw[e];dsimp only;rw[Nj f];rfl
 ·rw[NR];exact Nt e
theorem Eb(h:Heap):(aO h).In h:=λa o e=>by
 unfold aO at e;rw[lC] at e
 split at e
 ·unfold Ea at e;cases g:h.get? a with
  | none=>rw[g] at e;cases e
  | some o'=>
   rw[g] at e;dsimp only at e
   split at e
   ·cases e;rfl
   ·cases e
 ·cases e
noncomputable def posOf(s:Stmt):Pos:=match s with
 | .FunctionDef _ _ _ _ _ _ _ _ _ p=>p
 | _=>⟨0,0,0,0⟩
noncomputable def oh(n:Str)(s:Stmt):DefRec:=⟨n,ko s,ft s,ao s,posOf s⟩
theorem Ez(r:h.CodeRec cd q):codeIn (aO h) cd q=true:=by
 obtain⟨c,o,vs,t,rfl,g,d,e⟩:=r;have f:Ed o=true:=rfl;unfold codeIn;dsimp only;rw[lD g f];obtain⟨oc,od,dt,sl⟩:=o;dsimp only at d;subst d;dsimp only;obtain⟨l⟩:=vs;cases l with
 | nil=>cases e
 | cons x l=>cases l with
  | nil=>cases e
  | cons y r=>cases y <;> first |(cases e;simp;done) |(cases e;done)
theorem Ff{q:Program}{loose:List Str}{mean:ExcName->Option Value}{mg mb:Str->Option Value}{h:Heap}(T:Top q loose mean mg mb h){n:Str}{st:Stmt}(e:(recsOf q).find? (λe=>e.name==n)=some (oh n st)):
  ∃f fd,mg n=some (.ref f)/\xo (aO h) n n st f fd:=by
 have hm:oh n st∈recsOf q:=List.mem_of_find?_eq_some e;obtain⟨a,o,pm,code,doc,m,g,d,c⟩:=T.fn _ hm;have f:Ed o=true:=rfl;have lk:=lD g f;have kp:keepIn (aO h) (.ref a)=true:=by
  unfold keepIn;dsimp only;rw[lk];obtain⟨oc,od,dt,sl⟩:=o;dsimp only at d;subst d;rfl
 obtain⟨oc,od,dt,sl⟩:=o;dsimp only at d;subst d;exact⟨a,_,m,⟨oc,od,.none,doc,pm,_,code,_,sl,rfl,lk,Ez c⟩,kp⟩
theorem _root_.L2.xo.one{K:Frag}{x qual:Str}{st:Stmt}{f:Addr}{fd:FuncData}{p:Str}(F:xo K x qual st f fd)
  (h:∀(kV doc pm:Value)(an:Option Addr)(cdv ct:Value)(u:Value),bindArgs (PySem.W.fnOf x qual (ko st) (ft st) (ao st) .none kV doc pm an cdv ct) ⟨[u],[]⟩=pure [(p,u)]) (s:Shared) (u:Value):BindsTo s fd ⟨[u],[]⟩ [(p,u)]:=by
 obtain⟨oc,od,kV,doc,pm,an,cdv,ct,osl,rfl,lk,hcd⟩:=F.ex;exact .of_eq (h kV doc pm an cdv ct u)
theorem Hr{l:OpenLaw}{q:Program}{loose:List Str}{XP:(Str->Option Value)->Heap->Prop}{YP:World->Heap->Prop}{d:DefRec}{k:Nat}(hn:l.most=some 63)(hdf:d.params.defaults=[])(hr:dZ k callerA)
  (F:∀(w:World)(s₀:Shared)(mg mb:Str->Option Value)(h:Heap),Ground q loose [] XP w s₀ mg mb h->YP w h->∃(fa:Addr)(fd:FuncData),mg d.name=some (.ref fa)/\(∀(s:Shared)(u:Value),BindsTo s fd ⟨[u],[]⟩ [("_law_script",u)])/\
   ∀base:Heap,(aO h).In base->base.Ns mainGlobals mg->eX l.prog w (aO h) mg base rB k fa fd ["_law_script"] (spT (aO h))):
  WalkO q loose XP YP l.row.toRowW d [] (λf vs=>PySem.call f vs):=by
 refine Att.vt hn hdf λw s₀ s₁ mg mb fa o pm cd doc a vs ns G Y ho hd hcd hmg hobj hints hlen hg=>?_;obtain⟨fa',fd,e,hb,hF⟩:=F w s₀ mg mb _ G Y;rw[e] at hmg;cases hmg;exact BD (Eb _) G.T.g G.T.b G.T.builtins G.T.nolimit hg hobj hints (Nr hlen (by decide)) hr hF hb (λH hO hS=>⟨a,ns,rfl,hS,hlen,λ_=>rfl⟩) λ_ _ _ z=>z
noncomputable def freeOk(q:Program)(loose xs:List Str):Bool:=xs.all λx=>!startupNames.contains x&&!(looseW q loose).contains x&&!((recsOf q).map (·.name)).contains x&&!((litsOf q).map (·.1)).contains x&&!((clssOf q (looseW q loose)).map (·.name)).contains x
theorem bL(T:Top q (looseW q loose) mean mg mb h)(e:freeOk q loose xs=true)(hx:x∈xs):mg x=none:=by
 have:=NS.mp e x hx;simp only[Nn,P2,List.contains_eq_mem,Sg] at this;exact T.free x this.1.1.1.1 this.1.1.1.2 this.1.1.2 this.1.2 this.2
end Hd
namespace Sm
open PySem L2
noncomputable def Kd(f:Expr->Option D):List Expr->Option (List D)
 | []=>some []
 | e::es=>(f e).bind λd=>(Kd f es).bind λds=>some (d::ds)
noncomputable def kD:Nat->Expr->Option D
 | 0,_=>none
 | n+1,e=>match e with
  | .Constant .none _ _=>some .bx
  | .Constant (.bool b) _ _=>some (.bl b)
  | .Constant (.int i) _ _=>some (.int i)
  | .Constant (.str x) _ _=>if PyData.strOk x then some (.str x) else none
  | .UnaryOp .USub (.Constant (.int i) _ _) _=>some (.int (-i))
  | .Tuple es _ _=>(Kd (kD n) es).bind λds=>if ds.length<=1000 then some (.tup ds) else none
  | .List es _=>(Kd (kD n) es).bind λds=>if ds.length<=1000 then some (.lv ds) else none
  | .Dict [] [] _=>some (.dv [])
  | _=>none
noncomputable def aK(ds:List D):AM:=λ_ h=>some (ds,h)
theorem KH(ds:List D):kO (aK ds) ds.length:=λδ h xs h' e=>by cases e;rfl
section
variable {X:Cx}
theorem Ae(h:kD n e=some d)(es:List Expr):starEach (e::es) X.env=(false,eval e X.env)::starEach es X.env:=by
 cases n with
 | zero=>exact bV h
 | succ n=>cases e <;> first | rfl |(exfalso;exact(nomatch h))
theorem rZ(hf:∀{e:Expr} {d:D},f e=some d->SE X e (eK d))(hs:∀{e:Expr} {d:D},f e=some d->∀es:List Expr,starEach (e::es) X.env=(false,eval e X.env)::starEach es X.env):
  ∀{es:List Expr} {ds:List D},Kd f es=some ds->SA X es (aK ds)
 | [],ds,h=>by cases h;exact ak
 | e::es,ds,h=>by
  unfold Kd at h;obtain⟨d,e1,h⟩:=bu h;obtain⟨r,e2,h⟩:=bu h;cases h;exact(aa (hf e1) (rZ hf hs e2) (hs e1 es):SA X _ (ag (eK d) (aK r)))
theorem cB:∀(n:Nat) {e:Expr} {d:D},kD n e=some d->SE X e (eK d)
 | 0,_,_,h=>by cases h
 | n+1,e,d,h=>by
  cases e <;> first |(exact bV h) | skip
  case Constant c _ _=>
   cases c <;> first |(exact bV h) | skip
   case none=>cases h;exact Ar
   case bool=>cases h;exact xA
   case int=>cases h;exact aZ
   case str x=>
    have h:(if PyData.strOk x then some (D.str x) else none)=some d:=h
    by_cases hs:PyData.strOk x=true
    ·rw[Nj hs] at h;cases h;exact cc hs
    ·rw[Np hs] at h;cases h
  case UnaryOp o e _=>
   cases o <;> first |(exact bV h) | skip
   cases e <;> first |(exact bV h) | skip
   rename_i c _ _;cases c <;> first |(exact bV h) | skip
   cases h;exact(Ap vG aZ:SE X _ (tQ gW (eK _)))
  case Tuple es _ _=>
   obtain⟨ds,e1,e2⟩:=bu h
   by_cases hl:ds.length<=1000
   ·rw[Nj hl] at e2;cases e2;exact(cJ (rZ (cB n) Ae e1) (KH ds) (Nr hl (by decide)):SE X _ (ai aL (aK ds)))
   ·rw[Np hl] at e2;cases e2
  case List es _=>
   obtain⟨ds,e1,e2⟩:=bu h
   by_cases hl:ds.length<=1000
   ·rw[Nj hl] at e2;cases e2;exact(mE.lv (f9 (rZ (cB n) Ae e1) (KH ds) (Nr hl (by decide))):SE X _ (dP (aK ds)))
   ·rw[Np hl] at e2;cases e2
  case Dict ks vs _=>
   cases ks <;> first |(exact bV h) | skip
   cases vs <;> first |(exact bV h) | skip
   cases h;exact Ju
end
end Sm
namespace L2
open PySem PySem.Spec PyProof.Rows
noncomputable def iY(ns:List Int):List Int:=ns.mergeSort λa b=>decide (a<=b)
theorem f7(ns:List Int):(iY ns).Perm ns:=Td _ _
theorem rP(ns:List Int):(iY ns).Pairwise (·<=·):=by
 have:=Sk (le:=λa b:Int=>decide (a<=b)) (λa b c h1 h2=>by simp at h1 h2 ⊢;lia) (λa b=>by simp;lia) ns;exact this.imp λh=>by simpa using h
theorem Ag(hp:ss.Perm ns)(h:ss.Pairwise (·<=·)):ss=iY ns:=
 QO (λa b _ _ h1 h2=>Int.le_antisymm h1 h2) h (rP ns) (hp.trans (f7 ns).symm)
theorem xb:dw X (.builtin "sorted") (λxs H Q=>∃a ss,xs=[.ref a]/\eW X.K H a (ss.map V.int)/\ss.length < 64/\∀l,H l=none->Q (.ref l) (upd H l (.lst ((iY ss).map V.int)))):=by
 intro pins s σ H xs us Q I r h;obtain⟨a,ss,rfl,ha,h64,q⟩:=h;obtain⟨u,rfl,ru⟩:=vals1 r;cases ru;obtain⟨its,rv,p,hz⟩:=I.list ha;have hS:=intsAre_of rv;have hlen:its.length=ss.length:=by have:=rv.length;rw[Nc] at this;exact this.symm
 refine sorted_ints p.isList hS (by lia) λout ss' h1 h2 h3=>?_;have:=Ag h2 h3;subst this;have hl:s.heap.objs.size<=s.heap.objs.size+1:=Pc _;obtain⟨e,ho⟩:=sortedAll_at s.heap its out;have hz':((iY ss).map V.int).length<=sizeLine:=by rw[Nc,(f7 ss).length_eq,O9];lia
 refine⟨.ref (s.heap.objs.size+1),_,I.laid (t':=s.toks) (o:=.lst ((iY ss).map V.int)) (λb o q=>sortedAll_old q) hl ⟨hz',out.toList,e,qb h1,?_⟩,rfl,q _ (I.aV.fresh hl)⟩;rw[ho]
end L2
namespace Sm
open PySem L2 PySem.Spec PyProof.Rows
noncomputable def BQ:Fn:=λds h=>match ds with
 | [d]=>(dX d h).bind λxs=>(oM xs).bind λns=>if ns.length < 64 then some (.lv ((iY ns).map D.int),h) else none
 | _=>none
theorem repL_ints'{K:FR}{ρ:Ad}{H:Hp}:∀(ns:List Int),ar K ρ H (ns.map V.int) (ns.map D.int)
 | []=>.nil
 | n::r=>.cons (.int n) (repL_ints' r)
theorem Ce:fx X (.builtin "sorted") BQ:=by
 intro pins s σ H xs us Q I r hh;obtain⟨ρ,h,ds,z,h',S,l,ee,k⟩:=hh
 match ds,l,ee with
 | [],_,ee=>exact bV ee
 | _::_::_,_,ee=>exact bV ee
 | [d],l,ee=>
  obtain⟨v,rfl,rd⟩:=rep1 l;obtain⟨ys,e1,e2⟩:=bu ee;obtain⟨ns,e3,e4⟩:=bu e2
  by_cases c:ns.length < 64
  ·rw[Nj c] at e4;cases e4;obtain⟨a,vs,rfl,ha,la⟩:=dH S rd e1;have:=uT e3;subst this;have:=vX la;subst this;exact xb pins s σ H _ us Q I r ⟨a,ns,rfl,eW.of ha,c,λl hl=>k _ _ (.lv S (repL_ints' _) hl)⟩
  ·rw[Np c] at e4;cases e4
noncomputable def wV(m:Iu):EM:=λδ h=>(m δ h).bind λp=>if p.1.length<=15 then some (.ob p.2.length,p.2++[.dct (Bx [] p.1)]) else none
theorem As(h:SP X pos keys vals m)(hall:keys.all (·.isSome)=true)(hl:keys.length=vals.length)(h0:keys≠[])(hp:∀trs,IJ X pos keys vals trs->PE X (.Dict keys vals pos) (EX trs)):SE X (.Dict keys vals pos) (wV m):=by
 obtain⟨trs,h1,h2⟩:=h;refine(hp trs h1).imp λσ H Q ⟨ρ,δ,h,d,h',R,S,ee,k⟩ p hpn=>?_;obtain⟨⟨kvs,ha⟩,e1,e2⟩:=bu ee;dsimp only at e2
 by_cases z:kvs.length<=15
 ·rw[Nj z] at e2;cases e2;have Tl:Ch ρ H (ρ.keep p) (upd H p (.dK [])):=Ch.keep hpn;have nl:¬ρ.has p:=S.fresh hpn;refine h2 σ _ _ ⟨ρ.keep p,δ,h,kvs,_,R.mono Tl,S.keep hpn,e1,λus ρ2 H2 T2 S2 r2=>?_⟩;have hp2:H2 p=some (.dK []):=(T2.res p Nm).trans aT;refine⟨hp2,us,rfl,by rw[r2.len];exact z,?_⟩;obtain⟨ob2,rs2⟩:=ρ2;have ers:rs2=p::ρ.rs:=T2.rs;subst ers;have hml:p∈(⟨ob2,p::ρ.rs⟩:Ad).rs:=Nm;have npo:p∉ob2:=(S2.se p hml).2;have hne:∀b∈ρ.rs,b≠p:=λb hb z=>nl (.inr (z ▸ hb));generalize hH3:upd H2 p (.dK (ig [] us))=H3;have at3:∀b,b≠p->H3 b=H2 b:=λb hb=>by rw[<-hH3,aB hb]
  have C23:Ch ⟨ob2,p::ρ.rs⟩ H2 ⟨ob2++[p],ρ.rs⟩ H3:=by
   refine⟨λn a e=>?_,λb o nb eb=>⟨λz=>?_,?_⟩⟩
   ·show(ob2++[p])[n]?=_;rw[Nv (Ng.mp e).1];exact e
   ·rcases z with z | z
    ·rcases NY.mp z with z | z
     ·exact nb (.inl z)
     ·exact nb (.inr (by rw[Nw.mp z];exact Nm))
    ·exact nb (.inr (Nl _ z))
   ·rw[at3 b (λz=>nb (.inr (by rw[z];exact Nm)))];exact eb
  refine k _ _ ⟨⟨ob2++[p],ρ.rs⟩,⟨(Tl.trans T2.toCh).trans C23,rfl,λb hb=>?_⟩,?_,.ob (by show(ob2++[p])[ha.length]?=_;rw[<-S2.len];simp)⟩
  ·rw[at3 b (hne b hb),T2.res b (Nl _ hb)];exact aB (hne b hb)
  ·refine⟨by show(ob2++[p]).length=_;simp;exact S2.len,?_,λn a x e1 e2=>?_,λb hb=>?_⟩
   ·show(ob2++[p]).Nodup;rw[P0];exact⟨S2.nd,by simp,λa ha b hb z=>npo (by rw[<-Nw.mp hb,<-z];exact ha)⟩
   ·have e1:(ob2++[p])[n]?=some a:=e1;have hlen:ob2.length=ha.length:=S2.len
    by_cases hn:n < ob2.length
    ·rw[Nv hn] at e1;rw[Nv (by lia)] at e2;exact(S2.at_ n a x e1 e2).mono C23 (at3 a λz=>npo (z ▸ Ni e1))
    ·have l1:=(Ng.mp e1).1;simp at l1;have hn':n=ob2.length:=by lia
     subst hn';rw[NG (Nh _)] at e1;rw[NG (by lia),hlen] at e2;simp at e1 e2;subst e1;subst e2;exact⟨ig [] us,by rw[<-hH3];exact aT,(ba.merge .nil r2).mono C23⟩
   ·obtain⟨⟨o,eo⟩,nb⟩:=S2.se b (Nl _ hb);refine⟨⟨o,by rw[at3 b (hne b hb)];exact eo⟩,λz=>?_⟩;rcases NY.mp z with z | z
    ·exact nb z
    ·exact hne b hb (Nw.mp z)
 ·rw[Np z] at e2;cases e2
noncomputable def Ei(d e:D)(h:MH):Option (D×MH):=match e with
 | .int n=>(dX d h).bind λxs=>if 0<=n/\n<=1000/\xs.length<=1000 then some (.lv (List.replicate n.toNat xs).flatten,h) else none
 | _=>none
theorem ar.rep{K:FR}{ρ:Ad}{H:Hp}{vs:List V}{ds:List D}(h:ar K ρ H vs ds):∀k:Nat,ar K ρ H (List.replicate k vs).flatten (List.replicate k ds).flatten
 | 0=>.nil
 | k+1=>by
  rw[Pb,Pb,P1,P1];exact h.append (ar.rep h k)
theorem Bd:jB X (binaryOp .Mult) Ei:=by
 intro pins s σ H x y v u Q I rx ry hh;obtain⟨ρ,h,d,e,z,h',S,rd,re,ee,k⟩:=hh;cases e <;> first |(exact bV ee) | skip
 rename_i n;obtain⟨xs,e1,e2⟩:=bu (show(dX d h).bind _=_ from ee)
 by_cases c:0<=n/\n<=1000/\xs.length<=1000
 ·rw[Nj c] at e2;cases e2;obtain⟨a,vs,rfl,ha,la⟩:=dH S rd e1;cases re;have hb:xs.length*n.toNat<=1000*1000:=Nat.mul_le_mul c.2.2 (by lia);exact G1 pins s σ H _ _ v u Q I rx ry ⟨a,n,vs,rfl,rfl,ha,by lia,by lia,by rw[la.length,show sizeLine=16777216 from rfl];lia,λl hl=>k _ _ (.lv S (la.rep _) hl)⟩
 ·rw[Np c] at e2;cases e2
end Sm
namespace L2
open PySem PySem.Spec PyProof.Rows
theorem qc:∀(us:List Value)(o:Nat),(∀(j:Nat) v,us[j]?=some v->∃t,v=.int ((o:Int)+j) t)->Vals ((List.range' o us.length).map λ(k:Nat)=>V.int k) us
 | [],_,_=>.nil
 | u::r,o,h=>by
  rw[NQ,List.range'_succ,Ny];obtain⟨t,e⟩:=h 0 u rfl;refine .cons ⟨t,by rw[e];simp⟩ (qc r (o+1) λj v hv=>?_);obtain⟨t,e⟩:=h (j+1) v (by simpa using hv);exact⟨t,by rw[e];congr 1;lia⟩
theorem yS(hc:X.calm=true)(hg1:Gl X "list")(hm1:X.mg "list"=none)(hg2:Gl X "range")(hm2:X.mg "range"=none)(hv:bootBuiltins "list"=some (.type "list"))(ha:PA X [a] ta)(hs:starEach [a] X.env=[(false,eval a X.env)]):
  PE X (.Call (.Name "list" p) [.Call (.Name "range" p2) [a] [] pos2] [] pos) (λσ H Q=>ta σ H λvs H1=>∃j:Int,vs=[.int j]/\0<=j/\j<=1000/\∀l,H1 l=none->Q (.ref l) (upd H1 l (.lst ((List.range j.toNat).map λ(k:Nat)=>V.int k)))):=by
 intro pins s σ H Q I h;refine Qs (ik I hg1 hm1 hv ?_);refine OR ?_ rfl rfl;show wpAny _ _ (spliced ((false,eval (.Call (.Name "range" p2) [a] [] pos2) X.env)::backTo pos (starEach [] X.env))) _ _ s;refine Calls.spliced_cons ?_;refine Qs (ik I hg2 hm2 boot_range (OR (cy (ha pos2 pins s σ H _ I h) λus s1 ⟨vs,H1,I1,r1,q1⟩=>?_) hs rfl));obtain⟨j,e,j0,j1,q⟩:=q1;subst e;cases r1 with
 | cons r rr=>
  cases rr;obtain⟨t,rfl⟩:=r;refine call_range_1 ?_;have I2:Inv X pins σ H1 {s1 with heap:=s1.heap.push {cls:=.type "range",data:=.fields #[.int 0 s1.toks,.int j t,.int 1 (s1.toks+1)]},toks:=s1.toks+1+1}:=I1.kept λb o e=>Nd _ e;refine Calls.spliced_nil ?_;refine call_list_range (n:=j.toNat) (I1.ok.hd hc) (IsRange.new ..) (small_one (by lia) (by lia) (by lia) (by lia)) (by rw[rangeSize_one];split <;> lia) (by lia) λh' tk acc' c' hk hS' hacc=>?_;have hlen:acc'.toList.length=j.toNat:=by rw[NK];exact hacc.1
  have hv:Vals ((List.range j.toNat).map λ(k:Nat)=>V.int k) acc'.toList:=by
   have:=qc acc'.toList 0 λi v hv=>by
    obtain⟨t,e⟩:=hacc.2 i v (by simpa using hv);exact⟨t,by rw[e];congr 1;simp⟩
   rw[hlen] at this;rw[List.range_eq_range'];exact this
  refine⟨.ref _,_,I2.laid (t':=tk) (o:=.lst ((List.range j.toNat).map λ(k:Nat)=>V.int k)) hk (Nh _) ⟨by rw[Nc,NO,O9];lia,acc'.toList,c',hv,?_⟩,rfl,q _ (I2.aV.fresh (Nh _))⟩;rw[hS']
end L2
namespace Sm
open PySem L2 PySem.Spec PyProof.Rows
noncomputable def Ii(m:AM):AM:=λδ h=>(m δ h).bind λp=>match p.1 with
 | [.int j]=>if 0<=j/\j<=1000 then some ((List.range j.toNat).map λ(k:Nat)=>D.int k,p.2) else none
 | _=>none
theorem nY{K:FR}{ρ:Ad}{H:Hp}:∀l:List Nat,ar K ρ H (l.map λ(k:Nat)=>V.int k) (l.map λ(k:Nat)=>D.int k)
 | []=>.nil
 | n::r=>.cons (.int n) (nY r)
theorem yG(hc:X.calm=true)(hg1:Gl X "list")(hm1:X.mg "list"=none)(hg2:Gl X "range")(hm2:X.mg "range"=none)(hv:bootBuiltins "list"=some (.type "list"))(ha:SA X [a] m)(hs:starEach [a] X.env=[(false,eval a X.env)]:=by ac_nf):
  mE X (.Call (.Name "list" p) [.Call (.Name "range" p2) [a] [] pos2] [] pos) (Ii m):=(yS hc hg1 hm1 hg2 hm2 hv ha hs).imp λσ H Q ⟨ρ,δ,h,ds,h',R,S,e,k⟩=>by
 obtain⟨⟨xs,h1⟩,e1,e2⟩:=bu e;dsimp only at e2
 split at e2
 ·rename_i j
  split at e2
  ·rename_i c;cases e2;refine⟨ρ,δ,h,_,_,R,S,e1,λvs ρ1 H1 T1 S1 r1=>?_⟩;obtain⟨v,rfl,rd⟩:=rep1 r1;cases rd;exact⟨j,rfl,c.1,c.2,λl hl=>k ρ1 H1 l _ T1 S1 hl (nY _)⟩
  ·cases e2
 ·cases e2
noncomputable def Ij(ma mb:EM):AM:=λδ h=>(ma δ h).bind λp=>(mb δ p.2).bind λq=>(dX p.1 q.2).bind λxs=>(dX q.1 q.2).bind λys=>if xs.length+ys.length<=sizeLine then some (xs++ys,q.2) else none
theorem FZ(ha:SE X a ma)(hb:SE X b mb):mE X (.BinOp a .Add b pos) (Ij ma mb):=(E8 Bi ha hb).imp λσ H Q ⟨ρ,δ,h,ds,h',R,S,e,k⟩=>by
 obtain⟨⟨x,h1⟩,e1,e2⟩:=bu e;obtain⟨⟨y,h2⟩,e3,e4⟩:=bu e2;obtain⟨xs,e5,e6⟩:=bu e4;obtain⟨ys,e7,e8⟩:=bu e6;dsimp only at e3 e5 e7
 split at e8
 ·rename_i c;cases e8;refine⟨ρ,δ,h,x,h1,R,S,e1,λv H1 ⟨ρ1,T1,S1,r1⟩=>⟨ρ1,δ,h1,y,h2,R.mono T1.toCh,S1,e3,λu H2 ⟨ρ2,T2,S2,r2⟩=>?_⟩⟩;obtain⟨a,vs,rfl,hA,lA⟩:=dH S2 (r1.mono T2.toCh) e5;obtain⟨b,us,rfl,hB,lB⟩:=dH S2 r2 e7;exact⟨a,b,vs,us,rfl,rfl,hA,hB,by rw[lA.length,lB.length];exact c,λp hp=>k ρ2 H2 p (vs++us) (T1.trans T2) S2 hp (lA.append lB)⟩
 ·cases e8
end Sm
namespace Sm
open PySem L2
theorem ou:∀cs:List Int,gL (cs.map D.int)=some (cs.map PyData.int)
 | []=>rfl
 | c::r=>by simp only[Ny,gL,iG,ou r,ND,N8]
theorem jv:∀cs:List Int,PyData.depthAll (cs.map PyData.int)=0
 | []=>rfl
 | c::r=>by simp only[Ny,PyData.depthAll,jv r,PyData.depth];rfl
theorem zp{h:MH}{c:Nat}{cs:List Int}(hc:h[c]?=some (.lst (cs.map D.int))):dY (.ob c) (.lv []) h=some (.bl (!cs.isEmpty),h):=by
 simp only[dY,B3,cZ,hc,IG,vY,ou,iG,gL,N8,ND,PyData.depth,jv];cases cs <;> rfl
theorem iu(hn:h[n]?=some (.lst xs))(e:gR xs i=some d):aH (.ob n) (.int i) h=some (d,h):=by
 simp only[aH,cZ,hn,cL,ND,e,N8]
theorem sT(hn:h[n]?=some (.lst xs)):bW [.ob n] h=some (.int xs.length,h):=by
 simp only[bW,cZ,hn,cL,N8]
theorem sR(hn:h[n]?=some (.lst xs))(e:uR xs.length i=some p):p4 (.ob n) (.int i) d h=some (h.set n (.lst (xs.set p d))):=by
 simp only[p4,hn,e,N8]
theorem CD(cs:List Int)(i:Int)(h0:0<=i)(h1:i < cs.length):∃z,gR (cs.map D.int) i=some (.int z):=by
 have hlt:i.toNat < cs.length:=by lia
 refine⟨cs[i.toNat]'hlt,?_⟩;have e:((i.toNat:Nat):Int)=i:=QB h0;have q:gR (cs.map D.int) ((i.toNat:Nat):Int)=some (D.int (cs[i.toNat]'hlt)):=ng (by rw[Nz,Nk hlt];rfl);rw[e] at q;exact q
theorem CB(h0:0<=i)(h1:i < xs.length):∃v,gR xs i=some v/\v∈xs:=by
 have hlt:i.toNat < xs.length:=by lia
 have e:((i.toNat:Nat):Int)=i:=QB h0;have q:gR xs ((i.toNat:Nat):Int)=some (xs[i.toNat]'hlt):=ng (Nk hlt);rw[e] at q;exact⟨_,q,PC hlt⟩
end Sm
namespace Sm
open PySem
def Rn{α:Type}(o:Option α)(Q:α->Prop):Prop:=∃a,o=some a/\Q a
theorem rv(e:o=some a)(q:Q a):Rn o Q:=⟨a,e,q⟩
theorem Rn.imp(r:Rn o Q)(f:∀a,Q a->Q' a):Rn o Q':=let⟨a,e,q⟩:=r;⟨a,e,f a q⟩
theorem aQ(r:Rn o λa=>Rn (f a) Q):Rn (o.bind f) Q:=by
 obtain⟨a,e,b,e2,q⟩:=r;exact⟨b,by rw[e];exact e2,q⟩
theorem Dp(r:Rn o λa=>Q (f a)):Rn (o.map f) Q:=by
 obtain⟨a,e,q⟩:=r;exact⟨f a,by rw[e];rfl,q⟩
theorem fO(e:δ[i]?=some (some d))(q:Q (d,h)):Rn (aS i δ h) Q:=⟨(d,h),by unfold aS;rw[e];rfl,q⟩
theorem JC(q:Q (d,h)):Rn (eK d δ h) Q:=⟨_,rfl,q⟩
theorem wa(r:Rn (a δ h) λp=>Rn (b δ p.2) λq=>Rn (f p.1 q.1 q.2) Q):Rn (ah f a b δ h) Q:=aQ (r.imp λ_ r=>aQ r)
theorem LN(r:Rn (a δ h) λp=>Rn (f p.1 p.2) Q):Rn (tQ f a δ h) Q:=aQ r
theorem uo(q:Q ([],h)):Rn (bj δ h) Q:=⟨_,rfl,q⟩
theorem gh(r:Rn (a δ h) λp=>Rn (m δ p.2) λq=>Q (p.1::q.1,q.2)):Rn (ag a m δ h) Q:=aQ (r.imp λ_ r=>aQ (r.imp λ_ q=>⟨_,rfl,q⟩))
theorem Dz(r:Rn (m δ h) λp=>Rn (f p.1 p.2) Q):Rn (ai f m δ h) Q:=aQ r
theorem Gq(r:Rn (a δ h) λp=>∃c,p.1=.bl c/\Q (c,p.2)):Rn (ax a δ h) Q:=aQ (r.imp λp ⟨c,e,q⟩=>⟨(c,p.2),by rw[e],q⟩)
theorem Gg(r:Rn (a δ h) λp=>∃c,z7 p.1 p.2=some c/\Q (c,p.2)):Rn (bT a δ h) Q:=aQ (r.imp λp ⟨c,e,q⟩=>⟨(c,p.2),by rw[e];rfl,q⟩)
theorem Gh(r:Rn (t δ h) λp=>Q (!p.1,p.2)):Rn (Sm.cm t δ h) Q:=Dp r
theorem Gi(r:Rn (a δ h) λp=>(p.1=true->Rn (b δ p.2) Q)/\(p.1=false->Q (false,p.2))):Rn (Sm.f6 a b δ h) Q:=aQ (r.imp λp ⟨q1,q2⟩=>by
 obtain⟨c,h⟩:=p;cases c with
 | true=>exact q1 rfl
 | false=>exact⟨_,rfl,q2 rfl⟩)
theorem Jx(r:Rn (a δ h) λp=>(p.1=true->Q (true,p.2))/\(p.1=false->Rn (b δ p.2) Q)):Rn (Sm.jD a b δ h) Q:=aQ (r.imp λp ⟨q1,q2⟩=>by
 obtain⟨c,h⟩:=p;cases c with
 | true=>exact⟨_,rfl,q1 rfl⟩
 | false=>exact q2 rfl)
theorem JF(r:Rn (a δ h) λp=>∃c,p.1=.bl c/\(c=true->Rn (b δ p.2) Q)/\(c=false->Q (.bl false,p.2))):Rn (oW a b δ h) Q:=aQ (r.imp λp ⟨c,e,q1,q2⟩=>by
 rw[e];cases c with
 | true=>exact q1 rfl
 | false=>exact⟨_,rfl,q2 rfl⟩)
theorem LO(r:Rn (a δ h) λp=>∃c,p.1=.bl c/\(c=true->Q (.bl true,p.2))/\(c=false->Rn (b δ p.2) Q)):Rn (Lh a b δ h) Q:=aQ (r.imp λp ⟨c,e,q1,q2⟩=>by
 rw[e];cases c with
 | true=>exact⟨_,rfl,q1 rfl⟩
 | false=>exact q2 rfl)
theorem JB(r:Rn (a δ h) λp=>∃c,p.1=.bl c/\Q (.bl (!c),p.2)):Rn (Ex a δ h) Q:=aQ (r.imp λp zz=>by obtain⟨c,e,q⟩:=zz;exact⟨_,by rw[e],q⟩)
theorem LQ(r:Rn (m δ h) λp=>Q (.lv p.1,p.2)):Rn (dP m δ h) Q:=Dp r
theorem LP(r:Rn (m δ h) λp=>Q (.ob p.2.length,p.2++[.lst p.1])):Rn (CO m δ h) Q:=Dp r
theorem sx(r:Rn (m δ h) λp=>∃d xs ws,p.1=[d]/\cL d p.2=some (xs,ws)/\Q (xs,p.2)):Rn (kG m δ h) Q:=aQ (r.imp λp ⟨d,xs,ws,e,e2,q⟩=>⟨(xs,p.2),by rw[e];dsimp only;rw[e2];rfl,q⟩)
theorem Jy(q:Q (none,h)):Rn (qB δ h) Q:=⟨_,rfl,q⟩
theorem Jz(r:Rn (a δ h) λp=>∃i,p.1=.int i/\Q (some i,p.2)):Rn (qC a δ h) Q:=aQ (r.imp λp zz=>by obtain⟨c,e,q⟩:=zz;exact⟨_,by rw[e],q⟩)
abbrev SQ:=Fl×DS×MH->Prop
theorem Gj(q:Q (.nx,δ,h)):Rn (aW δ h) Q:=⟨_,rfl,q⟩
def tV(b:SM)(Q:SQ):SQ:=λr=>match r.1 with
 | .nx=>Rn (b r.2.1 r.2.2) Q
 | _=>Q r
theorem ot(r:Rn (a δ h) (tV b Q)):Rn (aj a b δ h) Q:=aQ (r.imp λp q=>by
 obtain⟨f,δ',h'⟩:=p;cases f with
 | nx=>exact q
 | bk=>exact⟨_,rfl,q⟩
 | ct=>exact⟨_,rfl,q⟩
 | rt d=>exact⟨_,rfl,q⟩)
theorem AI(r:Rn (e δ h) λp=>Q (.nx,δ.set i (some p.1),p.2)):Rn (aJ i e δ h) Q:=aQ (r.imp λ_ q=>⟨_,rfl,q⟩)
theorem E6(r:Rn (e δ h) λp=>Rn (g p.1 δ p.2) λq=>Q (.nx,q.1,q.2)):Rn (iP e g δ h) Q:=aQ (r.imp λ_ r=>aQ (r.imp λ_ q=>⟨_,rfl,q⟩))
theorem Gn(r:Rn (e δ h) λp=>Q (.nx,δ,p.2)):Rn (jS e δ h) Q:=aQ (r.imp λ_ q=>⟨_,rfl,q⟩)
theorem AJ(r:Rn (e δ h) λp=>Q (.rt p.1,δ,p.2)):Rn (aI e δ h) Q:=aQ (r.imp λ_ q=>⟨_,rfl,q⟩)
theorem E5(r:Rn (t δ h) λp=>(p.1=true->Rn (a δ p.2) Q)/\(p.1=false->Rn (b δ p.2) Q)):Rn (c7 t a b δ h) Q:=aQ (r.imp λp ⟨q1,q2⟩=>by
 obtain⟨c,h⟩:=p;cases c with
 | true=>exact q1 rfl
 | false=>exact q2 rfl)
theorem JA(r:Rn (m δ h) λp=>∃a b,p.1=[a,b]/\Q (.nx,(δ.set i (some a)).set j (some b),p.2)):Rn (Aw i j m δ h) Q:=aQ (r.imp λp zz=>by obtain⟨a,b,e,q⟩:=zz;exact⟨_,by rw[e],q⟩)
theorem ur(q:Q (δ.set i (some d),h)):Rn (gN i d δ h) Q:=⟨_,rfl,q⟩
theorem Gm(r:Rn (o δ h) λp=>Rn (i δ p.2) λq=>Rn (p4 p.1 q.1 v q.2) λh'=>Q (δ,h')):Rn (Sm.pY o i v δ h) Q:=aQ (r.imp λ_ r=>aQ (r.imp λ_ r=>Dp r))
theorem Gk(hn:xs.length=n)(r:Rn (u xs δ h) Q):Rn (gT n u (.tup xs) δ h) Q:=by
 unfold gT;dsimp only;rw[Nj hn];exact r
theorem eP(r:Rn (g d δ h) λp=>Rn (u xs p.1 p.2) Q):Rn (aC g u (d::xs) δ h) Q:=aQ r
theorem mT(q:Q (δ,h)):Rn (cM [] δ h) Q:=⟨_,rfl,q⟩
def sg(Q:D×MH->Prop):SQ:=λr=>match r.1 with
 | .rt d=>Q (d,r.2.2)
 | .nx=>Q (.bx,r.2.2)
 | _=>False
theorem L5(q:Q (d,h)):sg Q (.rt d,δ,h):=q
theorem L6(q:Q (.bx,h)):sg Q (.nx,δ,h):=q
theorem FN(r:Rn (b δ h) Q):tV b Q (.nx,δ,h):=r
theorem Ls(q:Q (.rt d,δ,h)):tV b Q (.rt d,δ,h):=q
def Fd(I:DS->MH->Prop)(Q:SQ):SQ:=λz=>match z.1 with
 | .nx=>I z.2.1 z.2.2
 | .ct=>I z.2.1 z.2.2
 | .bk=>Q (.nx,z.2.1,z.2.2)
 | .rt d=>Q (.rt d,z.2.1,z.2.2)
theorem Ma(q:I δ h):Fd I Q (.nx,δ,h):=q
theorem bF(r:Rn (b (entry len ds) h) (sg Q)):Rn (kQ len b ds h) Q:=aQ (r.imp λp q=>by
 obtain⟨f,δ',h'⟩:=p;cases f with
 | nx=>exact⟨_,rfl,q⟩
 | rt d=>exact⟨_,rfl,q⟩
 | bk=>exact q.elim
 | ct=>exact q.elim)
theorem JE(r:Rn (i δ h) λp=>Rn (kh p.2.1 g b p.1 δ p.2.2) Q):Rn (ji i g b δ h) Q:=aQ r
theorem dA:∀{xs:List D} {δ:DS} {h:MH} (I:Nat->DS->MH->Prop),I 0 δ h->(∀i δ h,i<=xs.length->I i δ h->jE ws h=true)->
  (∀i x δ h,xs[i]?=some x->I i δ h->Rn (g x δ h) λq=>Rn (b q.1 q.2) (Fd (I (i+1)) Q))->(∀δ h,I xs.length δ h->Q (.nx,δ,h))->Rn (kh ws g b xs δ h) Q
 | [],δ,h,I,h0,hc,_,hq=>by
  unfold kh;rw[Nj (hc 0 δ h (Nh _) h0)];exact⟨_,rfl,hq δ h h0⟩
 | x::xs,δ,h,I,h0,hc,ht,hq=>by
  unfold kh;rw[Nj (hc 0 δ h (Oo _) h0)];obtain⟨q,e1,z,e2,hz⟩:=ht 0 x δ h rfl h0;rw[e1];show Rn ((b q.1 q.2).bind _) Q;rw[e2];obtain⟨f,δ',h'⟩:=z;have next:I 1 δ' h'->Rn (kh ws g b xs δ' h') Q:=λhi=>dA (λi=>I (i+1)) hi (λi δ h hl=>hc (i+1) δ h (Qu hl)) (λi x δ h hx=>ht (i+1) x δ h (by simpa using hx)) hq
  cases f with
  | nx=>exact next hz
  | ct=>exact next hz
  | bk=>exact⟨_,rfl,hz⟩
  | rt d=>exact⟨_,rfl,hz⟩
theorem dQ(r:Rn (e δ h) λp=>∃xs ws,cL p.1 p.2=some (xs,ws)/\Q (xs,ws,p.2)):Rn (gY e δ h) Q:=aQ (r.imp λp ⟨xs,ws,e,q⟩=>⟨(xs,ws,p.2),by rw[e];rfl,q⟩)
theorem fz(r:Rn (m δ h) λp=>∃j:Int,p.1=[.int j]/\-(2^62)<=j/\j < 2^62/\Q ((List.range j.toNat).map λ(k:Nat)=>D.int (k:Int),[],p.2)):Rn (mK m δ h) Q:=aQ (r.imp λp ⟨j,e,h1,h2,q⟩=>by
 rw[e];dsimp only;rw[Nj ⟨h1,h2⟩];exact⟨_,rfl,q⟩)
theorem wb(r:Rn (m δ h) λp=>∃d e xs ys ws ws',p.1=[d,e]/\cL d p.2=some (xs,ws)/\cL e p.2=some (ys,ws')/\Q (jG xs ys,ws++ws',p.2)):Rn (BJ m δ h) Q:=
 aQ (r.imp λp zz=>by obtain⟨d,e,xs,ys,ws,ws',e1,e2,e3,q⟩:=zz;exact⟨_,by rw[e1];dsimp only;rw[e2];dsimp only[Option.bind_some];rw[e3];rfl,q⟩)
theorem Dy(r:Rn (m δ h) λp=>∃d xs ws,p.1=[d]/\cL d p.2=some (xs,ws)/\Q (i9 0 xs,ws,p.2)):Rn (BK m δ h) Q:=
 aQ (r.imp λp zz=>by obtain⟨d,xs,ws,e1,e2,q⟩:=zz;exact⟨_,by rw[e1];dsimp only;rw[e2];rfl,q⟩)
theorem Gp(r:Rn (i δ h) λp=>Rn (aY p.2.1 g c e p.1 (kA caps δ) p.2.2) λq=>q.1.length<=sizeLine/\Q q):Rn (cw caps i g c e δ h) Q:=
 aQ (r.imp λp r=>aQ (r.imp λq ⟨hz,hq⟩=>⟨q,by rw[Nj hz],hq⟩))
theorem sy(hc:jE ws h=true)(f:D->Option D)(J:DS->Prop):∀{xs:List D} {δ:DS},J δ->
  (∀x∈xs,∀δ,J δ->Rn (g x δ h) λq=>q.2=h/\Rn (c q.1 h) λt=>t.2=h/\J q.1/\(t.1=true->∃y,f x=some y/\Rn (e q.1 h) λp=>p=(y,h))/\(t.1=false->f x=none))->
  aY ws g c e xs δ h=some (xs.filterMap f,h)
 | [],δ,_,_=>by unfold aY;rw[Nj hc];rfl
 | x::xs,δ,hJ,ht=>by
  unfold aY;rw[Nj hc];obtain⟨⟨δ1,h1⟩,e1,rfl,⟨t,h2⟩,e2,rfl,J1,q1,q2⟩:=ht x Nm δ hJ;rw[e1];dsimp only[Option.bind_some] at e2 q1 q2 ⊢;rw[e2];dsimp only[Option.bind_some];have ih:=sy hc f J J1 (xs:=xs) λy hy=>ht y (Nl _ hy);cases t with
  | true=>
   obtain⟨y,ef,p,ep,rfl⟩:=q1 rfl;rw[Nj rfl,ep];dsimp only[Option.bind_some];rw[ih,Ol,ef];rfl
  | false=>
   rw[Np (by simp),ih,Ol,q2 rfl]
end Sm
namespace Sm
theorem Gf(q:Q (d,h))(e:δ[i]?=some (some d):=by with_unfolding_all rfl):Rn (aS i δ h) Q:=fO e q
end Sm
namespace Sm
open PySem L2
theorem wc(hh:Rn (a δ h) λp=>Rn (l δ p.2) λq=>Rn (u δ q.2) λr=>Rn (mM p.1 q.1 r.1 r.2) Q):Rn (fX a l u δ h) Q:=aQ (hh.imp λ_ x=>aQ (x.imp λ_ y=>aQ y))
theorem AL(hh:Rn (ma δ h) λp=>Rn (mb δ p.2) λq=>Rn (f p.1 q.1 q.2) λr=>∃b,r.1=.bl b/\if b=true then Rn (mc δ r.2) λu=>Rn (f' q.1 u.1 u.2) Q else Q (.bl false,r.2)):Rn (iy f f' ma mb mc δ h) Q:=
 aQ (hh.imp λp x=>aQ (x.imp λq y=>aQ (y.imp λr ⟨b,e,k⟩=>by
  rw[e];cases b with
  | true=>rw[Nj rfl] at k;exact aQ k
  | false=>rw[Np (by simp)] at k;exact⟨_,rfl,k⟩)))
theorem zW(q:Q (.tup ds,h)):Rn (aL ds h) Q:=⟨_,rfl,q⟩
theorem IS(q:Q (.int (-a),h)):Rn (gW (.int a) h) Q:=⟨_,rfl,q⟩
theorem w_add(q:Q (.int (a+b),h)):Rn (az (.int a) (.int b) h) Q:=⟨_,rfl,q⟩
theorem w_sub(q:Q (.int (a-b),h)):Rn (sQ (.int a) (.int b) h) Q:=⟨_,rfl,q⟩
theorem w_lt(q:Q (.bl (decide (a < b)),h)):Rn (Em (.int a) (.int b) h) Q:=⟨_,rfl,q⟩
theorem Lo(q:Q (.bl (decide (b < a)),h)):Rn (xZ (.int a) (.int b) h) Q:=⟨_,rfl,q⟩
theorem Lp(q:Q (.bl (decide (b<=a)),h)):Rn (Kp (.int a) (.int b) h) Q:=⟨_,rfl,q⟩
theorem IX(q:Q (.bl (a==b),h)):Rn (cV (.int a) (.int b) h) Q:=⟨_,rfl,q⟩
theorem IT(q:Q (.bl (!(a==b)),h)):Rn (dY (.int a) (.int b) h) Q:=⟨_,rfl,q⟩
theorem IW(q:Q (.bl (x==y),h)):Rn (cV (.str x) (.str y) h) Q:=⟨_,rfl,q⟩
theorem IV(q:Q (d,h)):Rn (aH (.tup (d::r)) (.int 0) h) Q:=⟨_,by
 show((gR (d::r) 0).map λz=>(z,h))=_;have:gR (d::r) 0=some d:=by unfold gR;rw[show uR (d::r).length 0=some 0 by unfold uR;simp;try lia];rfl
 rw[this];rfl,q⟩
theorem IU(q:Q (e,h)):Rn (aH (.tup (d::e::r)) (.int 1) h) Q:=⟨_,by
 show((gR (d::e::r) 1).map λz=>(z,h))=_;have:gR (d::e::r) 1=some e:=by unfold gR;rw[show uR (d::e::r).length 1=some 1 by unfold uR;simp;try lia];rfl
 rw[this];rfl,q⟩
theorem Fw(q:Q (.int r.length,h)):Rn (bW [.tup r] h) Q:=⟨_,rfl,q⟩
theorem Fx(q:Q (.int r.length,h)):Rn (bW [.lv r] h) Q:=⟨_,rfl,q⟩
inductive vB{α β:Type}(R:α->β->Prop):List α->List β->Prop where
 | nil:vB R [] []
 | cons {x y xs ys}:R x y->vB R xs ys->vB R (x::xs) (y::ys)
theorem vB.length{xs:List α}{ys:List β}(a:vB R xs ys):ys.length=xs.length:=by
 induction a with
 | nil=>rfl
 | cons _ t ih=>rw[NQ,NQ,ih]
theorem vB.right{xs:List α}{ys:List β}(a:vB R xs ys):∀y∈ys,∃x∈xs,R x y:=by
 induction a with
 | nil=>exactλ_ h=>(nomatch h)
 | cons r t ih=>
  intro y h;rcases NA.mp h with rfl | h
  ·exact⟨_,Nm,r⟩
  ·obtain⟨x,hx,r⟩:=ih y h;exact⟨x,Nl _ hx,r⟩
theorem jX(R:D->D->Prop):∀{xs:List D} {δ:DS} {h:MH} (J:Nat->DS->MH->Prop),J 0 δ h->(∀i δ h,i<=xs.length->J i δ h->jE ws h=true)->
  (∀i x δ h,xs[i]?=some x->J i δ h->Rn (g x δ h) λq=>Rn (e q.1 q.2) λy=>R x y.1/\J (i+1) q.1 y.2)->Rn (aY ws g ck e xs δ h) λp=>vB R xs p.1/\∃δ',J xs.length δ' p.2
 | [],δ,h,J,hJ,hc,_=>by
  unfold aY;rw[Nj (hc 0 δ h (Nh _) hJ)];exact⟨_,rfl,.nil,δ,hJ⟩
 | x::xs,δ,h,J,hJ,hc,ht=>by
  unfold aY;rw[Nj (hc 0 δ h (Oo _) hJ)];obtain⟨⟨δ1,h1⟩,e1,⟨y,h2⟩,e2,r,J1⟩:=ht 0 x δ h rfl hJ;dsimp only at e2 r J1;obtain⟨⟨ys,h3⟩,e3,a,δ',J2⟩:=jX R (xs:=xs) (λi=>J (i+1)) J1 (λi δ h hl=>hc (i+1) δ h (Qu hl)) λi y δ h hy=>ht (i+1) y δ h (by simpa using hy);refine⟨(y::ys,h3),?_,.cons r a,δ',J2⟩;rw[e1];dsimp only[Option.bind_some];show((some (true,h1)).bind _)=_;dsimp only[Option.bind_some];rw[Nj rfl,e2];dsimp only[Option.bind_some];rw[e3];rfl
theorem mV(R:D->D->Prop):∀{xs:List D} {δ:DS} {h:MH} (J:Nat->DS->MH->Prop),J 0 δ h->(∀i δ h,i<=xs.length->J i δ h->jE ws h=true)->
  (∀i x δ h,xs[i]?=some x->J i δ h->Rn (g x δ h) λq=>Rn (c q.1 q.2) λt=>(t.1=true->Rn (e q.1 t.2) λy=>R x y.1/\J (i+1) q.1 y.2)/\(t.1=false->J (i+1) q.1 t.2))->Rn (aY ws g c e xs δ h) λp=>p.1.length<=xs.length/\(∀y∈p.1,∃x∈xs,R x y)/\∃δ',J xs.length δ' p.2
 | [],δ,h,J,hJ,hc,_=>by
  unfold aY;rw[Nj (hc 0 δ h (Nh _) hJ)];exact⟨_,rfl,Nh _,λ_ z=>(nomatch z),δ,hJ⟩
 | x::xs,δ,h,J,hJ,hc,ht=>by
  unfold aY;rw[Nj (hc 0 δ h (Oo _) hJ)];obtain⟨⟨δ1,h1⟩,e1,⟨t,h2⟩,e2,q1,q2⟩:=ht 0 x δ h rfl hJ;dsimp only at e2 q1 q2;rw[e1];dsimp only[Option.bind_some];rw[e2];dsimp only[Option.bind_some];have next:=λ{δ':DS} {h':MH} (J1:J 1 δ' h')=>mV R (xs:=xs) (λi=>J (i+1)) J1 (λi δ h hl=>hc (i+1) δ h (Qu hl)) λi y δ h hy=>ht (i+1) y δ h (by simpa using hy)
  cases t with
  | true=>
   obtain⟨⟨y,h3⟩,e3,r,J1⟩:=q1 rfl;dsimp only at r J1;obtain⟨⟨ys,h4⟩,e4,l,a,δ',J2⟩:=next J1
   refine⟨(y::ys,h4),?_,Qu l,λz hz=>?_,δ',J2⟩
   ·rw[Nj rfl,e3];dsimp only[Option.bind_some];rw[e4];rfl
   ·rcases NA.mp hz with rfl | hz
    ·exact⟨x,Nm,r⟩
    ·obtain⟨u,hu,r⟩:=a z hz;exact⟨u,Nl _ hu,r⟩
  | false=>
   obtain⟨⟨ys,h4⟩,e4,l,a,δ',J2⟩:=next (q2 rfl)
   refine⟨(ys,h4),?_,O6 l,λz hz=>?_,δ',J2⟩
   ·rw[Np (by decide),e4]
   ·obtain⟨u,hu,r⟩:=a z hz;exact⟨u,Nl _ hu,r⟩
theorem Ku(r:Rn (e δ h) λp=>Rn (b (δ.set i (some p.1)) p.2) Q):Rn (aj (aJ i e) b δ h) Q:=ot (AI (r.imp λ_ q=>FN q))
theorem Ky(r:Rn (e δ h) λp=>Rn (g p.1 δ p.2) λq=>Rn (b q.1 q.2) Q):Rn (aj (iP e g) b δ h) Q:=ot (E6 (r.imp λ_ q=>q.imp λ_ q=>FN q))
theorem M7(r:Rn (m δ h) λq=>Q (d::q.1,q.2))(e:δ[i]?=some (some d):=by with_unfolding_all rfl):Rn (ag (aS i) m δ h) Q:=gh (fO e r)
theorem M8(r:Rn (m δ h) λq=>Q (d::q.1,q.2)):Rn (ag (eK d) m δ h) Q:=gh (JC r)
theorem Mp(r:Rn (f [d] h) Q)(e:δ[i]?=some (some d):=by with_unfolding_all rfl):Rn (ai f (ag (aS i) bj) δ h) Q:=Dz (gh (fO e (uo r)))
theorem Mo(r:Rn (f [d,d'] h) Q)(e:δ[i]?=some (some d):=by with_unfolding_all rfl)(e':δ[j]?=some (some d'):=by with_unfolding_all rfl):Rn (ai f (ag (aS i) (ag (aS j) bj)) δ h) Q:=Dz (gh (fO e (gh (fO e' (uo r)))))
theorem Mn(r:Rn (f [d,d',d''] h) Q)(e:δ[i]?=some (some d):=by with_unfolding_all rfl)(e':δ[j]?=some (some d'):=by with_unfolding_all rfl)(e'':δ[k]?=some (some d''):=by with_unfolding_all rfl):Rn (ai f (ag (aS i) (ag (aS j) (ag (aS k) bj))) δ h) Q:=Dz (gh (fO e (gh (fO e' (gh (fO e'' (uo r)))))))
theorem Kw(r:Rn (f d c h) Q)(e:δ[i]?=some (some d):=by with_unfolding_all rfl):Rn (ah f (aS i) (eK c) δ h) Q:=wa (fO e (JC r))
theorem Kv(r:Rn (f d d' h) Q)(e:δ[i]?=some (some d):=by with_unfolding_all rfl)(e':δ[j]?=some (some d'):=by with_unfolding_all rfl):Rn (ah f (aS i) (aS j) δ h) Q:=wa (fO e (fO e' r))
theorem Ml(r:Rn (b δ h) λq=>Rn (f d q.1 q.2) Q)(e:δ[i]?=some (some d):=by with_unfolding_all rfl):Rn (ah f (aS i) b δ h) Q:=wa (fO e r)
theorem Mm(r:Rn (a δ h) λq=>Rn (f q.1 c q.2) Q):Rn (ah f a (eK c) δ h) Q:=wa (r.imp λ_ r=>JC r)
theorem Kx(q:Q ((δ.set i (some a)).set j (some b),h)):Rn (gT 2 (aC (gN i) (aC (gN j) cM)) (.tup [a,b]) δ h) Q:=Gk rfl (eP (ur (eP (ur (mT q)))))
theorem HP(q:Q (.rt d,δ,h))(e:δ[i]?=some (some d):=by with_unfolding_all rfl):Rn (aI (aS i) δ h) Q:=AJ (fO e q)
theorem HQ(q:Q (.rt d,δ,h)):Rn (aI (eK d) δ h) Q:=AJ (JC q)
end Sm
namespace L2
open PySem PySem.Spec PyProof.Rows
end L2
namespace Sm
open PySem L2 PySem.Spec PyProof.Rows
end Sm
namespace Hd
open PySem PySem.W PySem.Spec PyProof.Rows L2 Sm
abbrev Sub(h h':Heap):Prop:=∀b o,h.get? b=some o->h'.get? b=some o
theorem vV(k:Sub h h')(x:rowAt h e=some r):rowAt h' e=some r:=by
 unfold rowAt at x ⊢
 split at x
 ·split at x
  ·split at x
   ·rename_i u hu;rw[k _ _ hu];exact x
   ·cases x
  ·cases x
 ·cases x
theorem lY(k:Sub h h'):∀{es:List DictEntry} {r:List (Str×Int×List Int)},nU h es=some r->nU h' es=some r
 | [],_,x=>x
 | e::es,r,x=>by
  unfold nU at x ⊢;obtain⟨y,e1,x⟩:=Sj.mp x;obtain⟨ys,e2,x⟩:=N5.mp x;rw[vV k e1,lY k e2];exact congrArg some x
theorem FL(k:Sub h h')(x:tabAt h nm=some r):tabAt h' nm=some r:=by
 have hg:∀v,h.nsMap mainGlobals nm=some v->h'.nsMap mainGlobals nm=some v:=λv e=>by
  unfold Heap.nsMap at e ⊢
  split at e
  ·rename_i o ho;rw[k _ _ ho];exact e
  ·cases e
 unfold tabAt at x ⊢
 split at x
 ·rename_i a ha;rw[hg _ ha];dsimp only
  split at x
  ·cases x
  ·rename_i hs;rw[Np hs]
   split at x
   ·rename_i o ho;rw[k _ _ ho];dsimp only
    split at x
    ·rename_i hc;rw[Nj hc]
     split at x
     ·exact lY k x
     ·cases x
    ·cases x
   ·cases x
 ·cases x
theorem Cj(h:vi v t=true):v=.type t:=by
 unfold vi at h
 split at h
 ·rw[NV h]
 ·cases h
end Hd
namespace L2
open PySem PySem.Spec PyProof.Rows
end L2
namespace Sm
open PySem L2 PySem.Spec PyProof.Rows
end Sm
namespace Sb
open PySem L2 PySem.Spec PyProof.Rows
open Builtin.SmallTypes (nextOf ownedTupleIsFree ownedTupleHandOut)
end Sb
namespace PySem
end PySem
namespace L2
open PySem PySem.Spec PyProof.Rows
end L2
namespace L2
open PySem PySem.Spec PyProof.Rows Sb
end L2
namespace Sm
open PySem L2 PySem.Spec PyProof.Rows Sb
end Sm
namespace Sb
open PySem L2 PySem.Spec PyProof.Rows
variable {P:Program} {w:World} {A:Around} {E:Value->Shared->Prop} {s:Shared} {b c:Bool}
end Sb
namespace Sb
open PySem L2 PySem.Spec PyProof.Rows
variable {P:Program} {w:World} {A:Around} {E:Value->Shared->Prop} {s:Shared} {b c:Bool}
end Sb
namespace L2
open PySem PySem.Spec PyProof.Rows Sb
end L2
namespace Sm
open PySem L2 PySem.Spec PyProof.Rows Sb
end Sm
namespace PySem
end PySem
namespace L2
open PySem PySem.Spec PyProof.Rows
end L2
namespace Sm
open PySem L2 PySem.Spec PyProof.Rows
end Sm
namespace L2
open PySem PySem.Spec PyProof.Rows
def cW(xs:Array Nat):Prop:=∀i j (hi:i < xs.size) (hj:j < xs.size),i < j->xs[i] < xs[j]
theorem pB(xs:Array Nat)(j:Nat)(hx:cW xs):∀(fuel lo hi:Nat),hi-lo<=fuel->lo<=hi->hi<=xs.size->(∀i (h:i < xs.size),i < lo->xs[i] < j)->(∀i (h:i < xs.size),hi<=i->j<=xs[i])->
  SetTable.below.go xs j fuel lo hi<=xs.size/\(∀i (h:i < xs.size),i < SetTable.below.go xs j fuel lo hi->xs[i] < j)/\(∀i (h:i < xs.size),SetTable.below.go xs j fuel lo hi<=i->j<=xs[i])
 | 0,lo,hi,hf,hl,hs,h1,h2=>by
  have:lo=hi:=O8 hl (SJ (Nat.le_zero.mp hf));subst this;unfold SetTable.below.go;exact⟨hs,h1,h2⟩
 | fuel+1,lo,hi,hf,hl,hs,h1,h2=>by
  unfold SetTable.below.go
  by_cases hlt:lo < hi
  ·rw[Nj hlt];dsimp only;have m1:lo<=(lo+hi) / 2:=(SK (by decide)).mpr (by lia);have m2:(lo+hi) / 2 < hi:=(SN (by decide)).mpr (by lia);have hm:=Nq m2 hs;have hg:xs.getD ((lo+hi) / 2) j=xs[(lo+hi) / 2]:=by simp[Array.getD,hm]
   rw[hg]
   by_cases hc:xs[(lo+hi) / 2] < j
   ·rw[Nj hc];refine pB xs j hx fuel _ _ (NW (Nq (Tb hlt (TC m1)) hf)) m2 hs (λi h hi'=>?_) h2;rcases OW i ((lo+hi) / 2) with q | q
    ·exact OK (hx i _ h hm q) hc
    ·have:i=(lo+hi) / 2:=O8 (NW hi') q;subst this;exact hc
   ·rw[Np hc];refine pB xs j hx fuel _ _ (NW (Nq (Nat.sub_lt_sub_right m1 m2) hf)) m1 (Pw hm) h1 (λi h hi'=>?_);rcases OW ((lo+hi) / 2) i with q | q
    ·exact Nr (Ob hc) (Pw (hx _ i hm h q))
    ·have:i=(lo+hi) / 2:=O8 q hi';subst this;exact Ob hc
  ·rw[Np hlt];have:lo=hi:=by lia
   subst this;exact⟨hs,h1,h2⟩
theorem eU(xs:Array Nat)(j:Nat)(hx:cW xs):SetTable.below xs j<=xs.size/\(∀i (h:i < xs.size),i < SetTable.below xs j->xs[i] < j)/\(∀i (h:i < xs.size),SetTable.below xs j<=i->j<=xs[i]):=
 pB xs j hx _ _ _ (by simp) (Oo _) (Nh _) (λi h z=>absurd z (O7 _)) (λi h z=>absurd (Nq h z) (OJ _))
theorem fZ(hx:cW xs)(h:xs[i]?=some j):SetTable.below xs j=i:=by
 obtain⟨hi,e⟩:=Pm.mp h;have b:=eU xs j hx;rcases Qo (SetTable.below xs j) i with q | q | q
 ·have h1:=b.2.2 (SetTable.below xs j) (by clear b;lia) (Nh _);have h2:=hx _ i (OK q hi) hi q
  lia
 ·exact q
 ·have:=b.2.1 i hi q
  lia
theorem qk{t:SetTable}{i j:Nat}(hx:cW t.place)(h:t.place[i]?=some j):t.slot j=.live i:=by
 unfold SetTable.slot;rw[fZ hx h];dsimp only;rw[Nj (by rw[h];simp)]
theorem vN{t:SetTable}{j:Nat}(hd:t.dummies=#[])(h:j∉t.place.toList):t.slot j=.empty:=by
 unfold SetTable.slot;dsimp only;rw[Np (by
  intro z;have z:=eq_of_beq z;exact h (by rw[O4];exact Rf z)),hd]
 rfl
noncomputable def road(t:SetTable)(h:Int):Nat->SetTable.Probe
 | 0=>t.probeStart h
 | n+1=>t.advance (road t h n)
theorem k5(e:t.mask=t'.mask)(h:Int):∀n,road t h n=road t' h n
 | 0=>by show t.probeStart h=t'.probeStart h;unfold SetTable.probeStart;rw[e]
 | n+1=>by
  show t.advance (road t h n)=t'.advance (road t' h n);rw[k5 e h n];unfold SetTable.advance;rw[e]
theorem nW(t:SetTable)(h:Int):∀n,(road t h n).dummy=none
 | 0=>rfl
 | n+1=>by
  have:=nW t h n;show(t.advance (road t h n)).dummy=none;unfold SetTable.advance
  split
  ·exact this
  ·exact this
theorem EJ(h:Int):SetTable.bits h < 32^13:=by
 unfold SetTable.bits;have:h % (2^64:Int) < 2^64:=O2 _ (by decide);have h0:0<=h % (2^64:Int):=OL _ (by decide)
 lia
theorem gv [DecidableEq W]:∀(l ws:List W),l.Nodup->(∀x∈l,x∈ws)->l.length<=ws.length
 | [],ws,_,_=>Oo _
 | x::l,ws,hn,hs=>by
  have hn:=PN.mp hn;have hx:=hs x (.head _);have:=gv l (ws.erase x) hn.2 λy hy=>by
   have:y≠x:=λe=>hn.1 (e ▸ hy);exact(List.mem_erase_of_ne this).mpr (hs y (.tail _ hy))
  rw[List.length_erase_of_mem hx] at this;have h0:0 < ws.length:=Sw hx;exact Od this (Nat.sub_lt h0 Nat.one_pos)
theorem BO [DecidablePred p]:∀{n:Nat},p n->∃m,m<=n/\p m/\∀i,i < m->¬p i
 | 0,h=>⟨0,Nh _,h,λi hi=>absurd hi (O7 _)⟩
 | n+1,h=>by
  by_cases q:∃i,i<=n/\p i
  ·obtain⟨i,hi,hp⟩:=q;have:∀k,k<=n->p k->∃m,m<=k/\p m/\∀i,i < m->¬p i:=by
    intro k
    induction k using Nat.strongRecOn with
    | _ k ih=>
     intro hk hpk
     by_cases q2:∃i,i < k/\p i
     ·obtain⟨i,hi,hp⟩:=q2;obtain⟨m,h1,h2,h3⟩:=ih i hi (by lia) hp;exact⟨m,by lia,h2,h3⟩
     ·exact⟨k,Nh _,hpk,λi hi hp=>q2 ⟨i,hi,hp⟩⟩
   obtain⟨m,h1,h2,h3⟩:=this i hi hp;exact⟨m,by lia,h2,h3⟩
  ·exact⟨n+1,Nh _,h,λi hi hp=>q ⟨i,by exact NW hi,hp⟩⟩
theorem uw{t:SetTable}(hx:cW t.place)(hd:t.dummies=#[])(hashAt:Nat->Int)(h:Int){N:Nat}(hN:(road t h N).j∉t.place.toList):∀(fuel m:Nat),m<=N->N-m < fuel->(∀i,i < N->(road t h i).j∈t.place.toList)->
  (SetTable.probe.go t hashAt h fuel (road t h m)=some (.empty (road t h N).j none)/\(∀c i,m<=c->c < N->t.place[i]?=some (road t h c).j->hashAt i≠h))\/
  ∃c i,m<=c/\c < N/\t.place[i]?=some (road t h c).j/\hashAt i=h/\(∀c' i,m<=c'->c' < c->t.place[i]?=some (road t h c').j->hashAt i≠h)/\SetTable.probe.go t hashAt h fuel (road t h m)=some (.candidate (road t h c).j i (road t h (c+1)))
 | 0,m,hm,hf,hl=>absurd hf (O7 _)
 | fuel+1,m,hm,hf,hl=>by
  unfold SetTable.probe.go
  by_cases e:m=N
  ·subst e;rw[vN hd hN];refine .inl ⟨?_,λc i h1 h2=>absurd h2 (Qe.mpr h1)⟩;rw[nW]
  ·have hlt:m < N:=by lia
   obtain⟨i,hi,hv⟩:=Ta (O4.mp (hl m hlt));have hg:t.place[i]?=some (road t h m).j:=by rw[NI hi,hv]
   rw[qk hx hg];dsimp only;have uni:∀i',t.place[i']?=some (road t h m).j->i'=i:=λi' h'=>(fZ hx h').symm.trans (fZ hx hg)
   by_cases hh:hashAt i=h
   ·refine .inr ⟨m,i,Nh _,hlt,hg,hh,λc' i' h1 h2=>absurd h2 (Qe.mpr h1),?_⟩;rw[Nj (by rw[hh];simp)];rfl
   ·rw[Np (by simpa using hh)];show _\/_;rcases uw hx hd hashAt h hN fuel (m+1) hlt (Nq (Tb hlt (Pj m)) (NW hf)) hl with⟨h1,h2⟩ |⟨c,i2,h1,h2,h3,h4,h5,h6⟩
    ·refine .inl ⟨h1,λc i' hc hcN hp=>?_⟩;rcases Qf hc with q | q
     ·subst q;rw[uni i' hp];exact hh
     ·exact h2 c i' q hcN hp
    ·refine .inr ⟨c,i2,by exact Pw h1,h2,h3,h4,λc' i' hc hcc hp=>?_,h6⟩;rcases Qf hc with q | q
     ·subst q;rw[uni i' hp];exact hh
     ·exact h5 c' i' q hcc hp
end L2
namespace L2
open PySem PySem.Spec PyProof.Rows PySem.SeqAt
theorem jZ:∀(n:Nat) {d e:PyData},aG n d=true->aG n e=true->PyData.eqv d e=true->d=e:=by
 intro n
 induction n with
 | zero=>
  intro d e hd he h;cases d <;> cases e <;> simp_all [aG,PyData.eqv]
 | succ n ih=>
  have hl:∀(xs ys:List PyData),xs.all (aG n)=true->ys.all (aG n)=true->PyData.eqvAll xs ys=true->xs=ys:=by
   intro xs
   induction xs with
   | nil=>intro ys _ _ h;cases ys with | nil=>rfl | cons _ _=>simp[PyData.eqvAll] at h
   | cons x xs ihx=>
    intro ys h1 h2 h;cases ys with
    | nil=>simp[PyData.eqvAll] at h
    | cons y ys=>
     rw[N9,Nn] at h1 h2;rw[PyData.eqvAll,Nn] at h;rw[ih h1.1 h2.1 h.1,ihx ys h1.2 h2.2 h.2]
  intro d e hd he h;cases d <;> cases e <;> first
   |(simp_all [aG,PyData.eqv];done)
   |(rename_i xs ys;rw[PyData.eqv] at h;rw[hl xs ys hd he h])
theorem bU:∀(n:Nat) {d:PyData},aG n d=true->d.canLay0=true/\d.depth<=n:=by
 intro n
 induction n with
 | zero=>
  intro d hd;cases d <;> simp_all [aG,PyData.canLay0,PyData.depth]
 | succ n ih=>
  have hl:∀(xs:List PyData),xs.all (aG n)=true->PyData.canLayAll0 xs=true/\PyData.depthAll xs<=n:=by
   intro xs
   induction xs with
   | nil=>intro _;exact⟨by simp[PyData.canLayAll0],by simp[PyData.depthAll]⟩
   | cons x xs ihx=>
    intro h1;rw[N9,Nn] at h1;obtain⟨a1,a2⟩:=ih h1.1;obtain⟨b1,b2⟩:=ihx h1.2;refine⟨by rw[PyData.canLayAll0,a1,b1];rfl,?_⟩;rw[PyData.depthAll];clear h1;lia
  intro d hd;cases d <;> first
   |(simp_all [aG,PyData.canLay0,PyData.depth];done)
   |(rename_i xs;obtain⟨a1,a2⟩:=hl xs hd;refine⟨(by rw[PyData.canLay0];exact a1),?_⟩;rw[PyData.depth];lia)
noncomputable def II:Nat->PyData->Nat
 | n+1,.tuple xs=>(xs.map (II n)).sum+1
 | _,_=>1
theorem wM:∀(n:Nat) {A:Around} {s:Shared} {d:PyData} {v:Value} {as:List Addr} {Q:Int->Shared->Prop},A.units+n < cLine->aG n d=true->Reads s.heap v d as->Q (cf w n d) {s with toks:=s.toks+II n d}->
  wpAny (model P w) A (pyHash v) Q E s:=by
 have leaf:∀(n:Nat) {A:Around} {s:Shared} {d:PyData} {v:Value} {as:List Addr} {Q:Int->Shared->Prop},(∀xs,d≠.tuple xs)->aG n d=true->Reads s.heap v d as->Q (cf w n d) {s with toks:=s.toks+II n d}->wpAny (model P w) A (pyHash v) Q E s:=by
  intro n A s d v as Q hnt hp hr h;cases hr with
  | int i t=>exact(bB P w).pyHash (k:=.inl i) (mm P w i t) (by cases n <;> exact h)
  | str x t=>exact(bB P w).pyHash (k:=.inr x) (mj P w x t) (by cases n <;> exact h)
  | tuple=>exact absurd rfl (hnt _)
  | none=>cases n <;> simp[aG] at hp
  | bool=>cases n <;> simp[aG] at hp
  | list=>cases n <;> simp[aG] at hp
  | dict=>cases n <;> simp[aG] at hp
 intro n
 induction n with
 | zero=>
  intro A s d v as Q hu hp hr h;exact leaf 0 (λxs e=>by subst e;simp[aG] at hp) hp hr h
 | succ n ih=>
  intro A s d v as Q hu hp hr h
  by_cases hnt:∀xs,d≠.tuple xs
  ·exact leaf (n+1) hnt hp hr h
  ·have:∃xs,d=.tuple xs:=OF λz=>hnt λxs e=>z ⟨xs,e⟩;obtain⟨xs,rfl⟩:=this;cases hr with
   | @tuple a o vs m _ _ ho hc hd hall=>
    have hT:s.TypeIs (.ref a) "tuple":=⟨o,ho,hc⟩;have hp':xs.all (aG n)=true:=hp;unfold pyHash
    first | unfold pyHashByItsType | skip
    first | refine Nb (wpAny_cRoomFor_or (.inr (by lia)) ?_) | skip
    refine Nb (QF hT Qw.lookup ?_);show wpAny _ _ (if(some (Value.builtin "tuple.__hash__")==some Value.none)=true then _ else _) Q E s;rw[Np (by rw[beq_builtin_none];exact NZ)];refine Nb (QF hT Qw.lookup ?_);show wpAny _ _ (callSpecialIfBoundUnlessNone? (.ref a) "__hash__" _ >>=_) Q E s;refine Nb (wpAny_callSpecialIfBoundUnlessNone?_slot hT Qw (Oj Qw hT F.entry_tuple_hash ?_ (F.args_tuple_hash_1 _)));show wpAny _ _ (Builtin.Tuple.tupleItemsOf (.ref a) >>=_) _ _ s;refine Nb (wpAny_tupleItemsOf ho hd ?_);refine Nb ?_;rw[<-QE];refine Qb _
     (λrest (b:Array Int) s'=>∃done left as',xs=done++left/\ReadsAll s.heap rest left as'/\b.toList=done.map (cf w n)/\s'={s with toks:=s.toks+(done.map (II n)).sum})
     _ ?_ ?_ _ _ ⟨[],xs,_,rfl,hall,rfl,rfl⟩
    ·rintro x rest b s' ⟨done,left,as',e,hl,hb,rfl⟩;cases hl with
     | @cons _ _ d1 ds bs cs h1 hl'=>
      have hd1:aG n d1=true:=by
       rw[NS] at hp';exact hp' d1 (by rw[e];simp)
      refine Nb (ih (A:=A.in1) (s:={s with toks:=s.toks+(done.map (II n)).sum}) (by rw[Qd];lia) hd1 h1 ?_)
      first
       | exact Nf ⟨done++[d1],ds,_,by rw[e];simp,hl',by simp[hb],by simp[PX]⟩
       | exact Nb (Nf (Nf ⟨done++[d1],ds,_,by rw[e];simp,hl',by simp[hb],by simp[PX]⟩))
    ·rintro b s' ⟨done,left,as',e,hl,hb,rfl⟩;cases hl;rw[PU] at e;subst e;show wpAny _ _ (retInt (Builtin.Tuple.tupleHashOf b.toList)) _ _ _;rw[hb];refine wpAny_ret_mkInt ?_;show wpAny _ _ (if(decide (-(2:Int)^63<=Builtin.Tuple.tupleHashOf (xs.map (cf w n)))&&decide (Builtin.Tuple.tupleHashOf (xs.map (cf w n)) < 2^63))=true then _ else _) Q E _;unfold cf reduceHash II at h
     by_cases hr:(decide (-(2:Int)^63<=Builtin.Tuple.tupleHashOf (xs.map (cf w n)))&&decide (Builtin.Tuple.tupleHashOf (xs.map (cf w n)) < 2^63))=true
     ·rw[Nj hr];rw[Nj hr] at h;exact Nf (by simpa [PX] using h)
     ·rw[Np hr];rw[Np hr] at h;exact Nb (Pr (Nf (by simpa [PX] using h)))
theorem zi:∀(n:Nat) {A:Around} {s:Shared} {d:PyData} {v:Value} {as:List Addr} {Q:Int->Shared->Prop},A.units+n < cLine->aG n d=true->Reads s.heap v d as->(∀k,Q (cf w n d) {s with toks:=s.toks+k})->
  wpAny (model P w) A (pyHash v) Q E s:=
 λn _ _ _ _ _ _ hu p r h=>wM n hu p r (h _)
theorem BY(n:Nat)(hu:A.units+n < cLine)(pd:aG n d=true)(pe:aG n e=true)(rd:Reads s.heap u d as)(re:Reads s.heap v e bs)(h:Q (PyData.eqv d e) s):
  wpAny (model P w) A (eqBool u v) Q E s:=by
 have c1:=bU n pd;have c2:=bU n pe;refine eqBoolOverData P w A E s u v d e as bs Q rd re c1.1 c2.1 ?_ h;have:min d.depth e.depth<=d.depth:=RO _ _
 lia
theorem md:∀(n:Nat) {A:Around} {s:Shared} {d:PyData} {v:Value} {as:List Addr} {Q:Bool->Shared->Prop},aG n d=true->Reads s.heap v d as->Q true s->∀m,n<=m->wpAny (model P w) A (eqIsQuiet m v) Q E s:=by
 intro n
 induction n with
 | zero=>
  intro A s d v as Q hp hr h m hm;have:carriedByValue v=true:=by cases hr <;> first | rfl | simp[aG] at hp
  rw[RX _ this];exact Nf h
 | succ n ih=>
  intro A s d v as Q hp hr h m hm;cases hr with
  | @tuple a o vs k xs _ ho hc hd hall=>
   obtain⟨m,rfl⟩:∃m',m=m'+1:=⟨m-1,by lia⟩;have hT:s.TypeIs (.ref a) "tuple":=⟨o,ho,hc⟩;have hp':xs.all (aG n)=true:=hp;unfold eqIsQuiet;refine Nb (QF hT F.slot_tuple_eq.lookup ?_);show wpAny _ _ (isInstance (.ref a) (.type "tuple") >>=_) _ _ s;refine Nb (PK hT isSubtype_tuple_tuple ?_);simp only[OT,NH,O0];refine Nb (OD ho hd ?_);refine Nb ?_;show wpAny _ _ (forIn vs _ _) _ _ s;rw[<-QE];refine Qb _ (λrest r s'=>r.1=none/\s'=s/\∃ds as',ReadsAll s.heap rest ds as'/\ds.all (aG n)=true) _ ?_ ?_ _ _ ⟨rfl,rfl,xs,_,hall,hp'⟩
   ·rintro v rest r s' ⟨hr,rfl,ds,as',hl,hds⟩;cases hl with
    | cons h1 h2=>
     rw[N9,Nn] at hds;refine Nb (ih hds.1 h1 ?_ m (by lia));simp only[OT,NH,O0];exact Nf ⟨rfl,rfl,_,_,h2,hds.2⟩
   ·rintro⟨r1,r2⟩ s' ⟨hr,rfl,_⟩;simp only at hr;subst hr;exact Nf h
  | int i t=>rw[RX _ rfl];exact Nf h
  | str i t=>rw[RX _ rfl];exact Nf h
  | none=>simp[aG] at hp
  | bool=>simp[aG] at hp
  | list=>simp[aG] at hp
  | dict=>simp[aG] at hp
theorem fG(n:Nat)(h:carriedByValue v=true):ofAClassStatement n v=pure false:=by
 cases v with
 | ref a=>simp[carriedByValue] at h
 | _=>first | rfl | simp[ofAClassStatement] |(unfold ofAClassStatement;rfl)
theorem my:∀(n:Nat) {A:Around} {s:Shared} {d:PyData} {v:Value} {as:List Addr} {Q:Bool->Shared->Prop},aG n d=true->Reads s.heap v d as->Q false s->∀m,n<=m->wpAny (model P w) A (ofAClassStatement m v) Q E s:=by
 intro n
 induction n with
 | zero=>
  intro A s d v as Q hp hr h m hm;have:carriedByValue v=true:=by cases hr <;> first | rfl | simp[aG] at hp
  rw[fG _ this];exact Nf h
 | succ n ih=>
  intro A s d v as Q hp hr h m hm;cases hr with
  | @tuple a o vs k xs _ ho hc hd hall=>
   obtain⟨m,rfl⟩:∃m',m=m'+1:=⟨m-1,by lia⟩;have hT:s.TypeIs (.ref a) "tuple":=⟨o,ho,hc⟩;have hp':xs.all (aG n)=true:=hp;unfold ofAClassStatement;refine Nb (Qv hT ?_);dsimp only;refine Nb ?_;refine Nf ?_;simp only[OT,NH,O0];refine Nb (OD ho hd ?_);dsimp only;refine Nb ?_;show wpAny _ _ (forIn vs _ _) _ _ s;rw[<-QE];refine Qb _ (λrest r s'=>r.1=none/\s'=s/\∃ds as',ReadsAll s.heap rest ds as'/\ds.all (aG n)=true) _ ?_ ?_ _ _ ⟨rfl,rfl,xs,_,hall,hp'⟩
   ·rintro v rest r s' ⟨hr,rfl,ds,as',hl,hds⟩;cases hl with
    | cons h1 h2=>
     rw[N9,Nn] at hds;refine Nb (ih hds.1 h1 ?_ m (by lia));simp only[OT,NH,O0];exact Nf ⟨rfl,rfl,_,_,h2,hds.2⟩
   ·rintro⟨r1,r2⟩ s' ⟨hr,rfl,_⟩;simp only at hr;subst hr;exact Nf h
  | int i t=>rw[fG _ rfl];exact Nf h
  | str i t=>rw[fG _ rfl];exact Nf h
  | none=>simp[aG] at hp
  | bool=>simp[aG] at hp
  | list=>simp[aG] at hp
  | dict=>simp[aG] at hp
theorem zk:∀(n:Nat) {A:Around} {s:Shared} {d:PyData} {v:Value} {as:List Addr} {Q:Bool->Shared->Prop},aG n d=true->Reads s.heap v d as->(∀b,Q b s)->∀m,wpAny (model P w) A (hashByValue m v) Q E s:=by
 intro n
 induction n with
 | zero=>
  intro A s d v as Q hp hr h m;cases hr with
  | int i t=>rw[Qz m (x:=.int i t) rfl];exact Nf (h _)
  | str i t=>rw[Qz m (x:=.str i t) rfl];exact Nf (h _)
  | none=>simp[aG] at hp
  | bool=>simp[aG] at hp
  | list=>simp[aG] at hp
  | dict=>simp[aG] at hp
  | tuple=>simp[aG] at hp
 | succ n ih=>
  intro A s d v as Q hp hr h m;cases hr with
  | @tuple a o vs k xs _ ho hc hd hall=>
   have hT:s.TypeIs (.ref a) "tuple":=⟨o,ho,hc⟩;have hp':xs.all (aG n)=true:=hp;cases m with
   | zero=>unfold hashByValue;exact Nf (h _)
   | succ m=>
    unfold hashByValue;refine Nb (QF hT Qw.lookup ?_);dsimp only;refine Nb (OD ho hd ?_);refine Nb ?_;show wpAny _ _ (forIn vs _ _) _ _ s;rw[<-QE];refine Qb _ (λrest r s'=>r.1=none/\s'=s/\∃ds as',ReadsAll s.heap rest ds as'/\ds.all (aG n)=true) _ ?_ ?_ _ _ ⟨rfl,rfl,xs,_,hall,hp'⟩
    ·rintro v rest r s' ⟨hr,rfl,ds,as',hl,hds⟩;cases hl with
     | cons h1 h2=>
      rw[N9,Nn] at hds;refine Nb (ih hds.1 h1 (λb=>?_) m);cases b with
      | true=>
       simp only[OT,NH,O0];exact Nf ⟨rfl,rfl,_,_,h2,hds.2⟩
      | false=>
       simp only[Bool.not_false,Ql];exact Nf (Nf (h _))
    ·rintro⟨r1,r2⟩ s' ⟨hr,rfl,_⟩;simp only at hr;subst hr;exact Nf (h _)
  | int i t=>rw[Qz m (x:=.int i t) rfl];exact Nf (h _)
  | str i t=>rw[Qz m (x:=.str i t) rfl];exact Nf (h _)
  | none=>simp[aG] at hp
  | bool=>simp[aG] at hp
  | list=>simp[aG] at hp
  | dict=>simp[aG] at hp
def Fu(w:World)(h:Heap)(n:Nat)(e:Int×Value)(d:PyData):Prop:=aG n d=true/\(∃as,Reads h e.2 d as)/\e.1=cf w n d/\∃a,e.2=.ref a
def pK(w:World)(h:Heap)(n:Nat)(es:Array (Int×Value))(ds:List PyData):Prop:=ds.length=es.size/\∀(i:Nat)(e:Int×Value)(d:PyData),es[i]?=some e->ds[i]?=some d->Fu w h n e d
theorem pK.at{w:World}{h:Heap}{n:Nat}{es:Array (Int×Value)}{ds:List PyData}(E:pK w h n es ds){i:Nat}{e:Int×Value}(he:es[i]?=some e):∃d,ds[i]?=some d/\Fu w h n e d:=by
 have hi:i < es.size:=(Pm.mp he).1;have hd:ds[i]?=some (ds[i]'(by rw[E.1];exact hi)):=Nk _;exact⟨_,hd,E.2 i e _ he hd⟩
theorem Ao(hn:n<=8)(px:aG n dx=true)(rx:Reads s.heap x dx as):∀(ys:List Value),(∀y∈ys,∃d as,aG n d=true/\Reads s.heap y d as)->∀{Q:Bool->Shared->Prop},Q false s->wpAny (model P w) A (searchCouldBeSeen x ys) Q E s:=by
 intro ys hys Q h;unfold searchCouldBeSeen;refine Nb ?_;refine Qb _ (λrest r s'=>r.1=none/\s'=s/\∀y∈rest,∃d as,aG n d=true/\Reads s.heap y d as) _ ?_ ?_ _ _ ⟨rfl,rfl,hys⟩
 ·rintro y rest r s' ⟨hr,rfl,hl⟩;obtain⟨d,bs,pd,rd⟩:=hl y (.head _);have hl':=λz hz=>hl z (.tail _ hz);dsimp only
  split
  all_goals
   split
   ·exact Nf ⟨rfl,rfl,hl'⟩
   ·refine Nb (md n px rx ?_ 8 hn);simp only[OT,NH,O0];refine Nb (md n pd rd ?_ 8 hn);simp only[OT,NH,O0];refine Nb (my n px rx ?_ 8 hn);simp only[NH,O0];refine Nb (my n pd rd ?_ 8 hn);simp only[NH,O0];exact Nf ⟨rfl,rfl,hl'⟩
 ·rintro⟨r1,r2⟩ s' ⟨hr,rfl,_⟩;simp only at hr;subst hr;exact Nf h
theorem oN(xs:Array α)(p:Nat)(x:α)(hp:p<=xs.size)(i:Nat):(SetTable.insertAt xs p x)[i]?=if i < p then xs[i]? else if i=p then some x else xs[i-1]?:=by
 rw[<-Ow,To]
 by_cases h1:i < p
 ·rw[Nj h1,Nv (by simp;lia),List.getElem?_take,Nj h1,Ow]
 ·rw[Np h1,NG (by simp;lia)];have hl:(xs.toList.take p).length=p:=by simp;lia
  rw[hl]
  by_cases h2:i=p
  ·subst h2;rw[Nj rfl,Nat.sub_self];rfl
  ·rw[Np h2];obtain⟨k,rfl⟩:=RM (PD (Ob h1) (Ox h2));have hk:p+1+k-p=k+1:=by rw[PX,Nat.add_sub_cancel_left,Nat.add_comm]
   rw[hk,OQ,Tt,Ow];congr 1;rw[Nat.succ_add];rfl
theorem cW.ins(hx:cW xs)(hj:j∉xs.toList):cW (SetTable.insertAt xs (SetTable.below xs j) j):=by
 obtain⟨b1,b2,b3⟩:=eU xs j hx;have g:=oN xs (SetTable.below xs j) j b1;generalize SetTable.below xs j=p at b1 b2 b3 g;intro i k hi hk hik;have gi:=g i;have gk:=g k;rw[NI hi] at gi;rw[NI hk] at gk;have b3':∀i (h:i < xs.size),p<=i->j < xs[i]:=λi h q=>by
  rcases OW j xs[i] with z | z
  ·exact z
  ·have y0:=b3 i h q;have y1:xs[i]=j:=by lia
   have y2:xs[i]∈xs.toList:=by simp
   rw[y1] at y2;exact absurd y2 hj
 have some_lt:∀{i v:Nat},some v=xs[i]?->∃h:i < xs.size,v=xs[i]:=λ{i v} e=>by
  obtain⟨h1,h2⟩:=Pm.mp e.symm;exact⟨h1,h2.symm⟩
 by_cases i1:i < p
 ·rw[Nj i1] at gi;obtain⟨hi',ei⟩:=some_lt gi;rw[ei]
  by_cases k1:k < p
  ·rw[Nj k1] at gk;obtain⟨hk',ek⟩:=some_lt gk;rw[ek];exact hx i k hi' hk' hik
  ·rw[Np k1] at gk
   by_cases k2:k=p
   ·rw[Nj k2] at gk;injection gk with gk
    rw[gk];exact b2 i hi' i1
   ·rw[Np k2] at gk;obtain⟨hk',ek⟩:=some_lt gk;rw[ek];exact OK (b2 i hi' i1) (b3' _ hk' (Ri (PD (Ob k1) (Ox k2))))
 ·rw[Np i1] at gi;have k1:¬k < p:=by lia
  have k2:¬k=p:=by lia
  rw[Np k1,Np k2] at gk;obtain⟨hk',ek⟩:=some_lt gk;rw[ek]
  by_cases i2:i=p
  ·rw[Nj i2] at gi;injection gi with gi
   rw[gi];exact b3' _ hk' (Ri (PD (Ob k1) (Ox k2)))
  ·rw[Np i2] at gi;obtain⟨hi',ei⟩:=some_lt gi;rw[ei];exact hx _ _ hi' hk' (by clear k2 k1;lia)
theorem Ef(hp:p<=xs.size):k∈(SetTable.insertAt xs p j).toList↔k=j\/k∈xs.toList:=by
 rw[(P5 xs p j).mem_iff];simp[or_comm]
theorem oj(hk:∀b o vs m,h.get? b=some o->o.data=.seq vs m->h'.get? b=some o):∀(n:Nat) {d:PyData} {v:Value} {as:List Addr},aG n d=true->Reads h v d as->Reads h' v d as:=by
 intro n
 induction n with
 | zero=>
  intro d v as hp hr;cases hr with
  | int i t=>exact .int i t
  | str x t=>exact .str x t
  | none=>simp[aG] at hp
  | bool=>simp[aG] at hp
  | list=>simp[aG] at hp
  | dict=>simp[aG] at hp
  | tuple=>simp[aG] at hp
 | succ n ih=>
  have hl:∀(ds:List PyData) {vs:List Value} {as:List Addr},ds.all (aG n)=true->ReadsAll h vs ds as->ReadsAll h' vs ds as:=by
   intro ds
   induction ds with
   | nil=>intro vs as _ hr;cases hr;exact .nil
   | cons d ds ihd=>
    intro vs as hp hr;rw[N9,Nn] at hp;cases hr with
    | cons h1 h2=>exact .cons (ih hp.1 h1) (ihd hp.2 h2)
  intro d v as hp hr;cases hr with
  | int i t=>exact .int i t
  | str x t=>exact .str x t
  | none=>simp[aG] at hp
  | bool=>simp[aG] at hp
  | list=>simp[aG] at hp
  | dict=>simp[aG] at hp
  | tuple h1 h2 h3 h4=>exact .tuple (hk _ _ _ _ h1 h3) h2 h3 (hl _ hp h4)
theorem sub_tuple_set':isSubtype (.type "tuple") (.type "set")=pure false:=by rw[Ry];ac_nf
theorem sub_tuple_frozenset':isSubtype (.type "tuple") (.type "frozenset")=pure false:=by rw[Ry];ac_nf
end L2
namespace Sm
open PySem L2 PySem.Spec PyProof.Rows
def Ln(mg:Str->Option Value)(x:Str)(d:D):Prop:=∃(v:V)(u:Value),mg x=some u/\RelV v u/\∀K ρ H,Rep K ρ H v d
theorem vP(C:Ln X.mg x d)(hg:Gl X x)(hd:(x==("__debug__":Str))=false:=by ac_nf):SE X (.Name x pos) (eK d):=by
 obtain⟨v,u,h1,h2,h3⟩:=C;exact Dl hg h1 h2 (λρ H=>h3 X.K ρ H) hd
end Sm
namespace Hd
open PySem PySem.W PySem.Spec PyProof.Rows L2 Sm
theorem ye(T:Top q loose mean mg mb h)(e:valOf q x=some (.int i)):Ln mg x (.int i):=by
 obtain⟨v,h1,h2⟩:=T.const x _ e;have:=h2 h;cases this with
 | int _ t=>exact⟨.int i,_,h1,⟨t,rfl⟩,λ_ _ _=>.int i⟩
end Hd
namespace L2
open PySem PySem.Spec PyProof.Rows
end L2
namespace Sm
open PySem L2 PySem.Spec PyProof.Rows
end Sm
namespace L2
open PySem PySem.Spec PyProof.Rows
end L2
namespace Sm
open PySem L2 PySem.Spec PyProof.Rows
end Sm
namespace L2
open PySem PySem.Spec PyProof.Rows
end L2
namespace Sm
open PySem L2
end Sm
namespace Sm
open PySem L2 PySem.Spec PyProof.Rows
end Sm
namespace L2
open PySem PySem.Spec PyProof.Rows
end L2
namespace Sm
open PySem L2 PySem.Spec PyProof.Rows
theorem gF(d:Df X.prog X.w X.K X.mg X.base nm k ps n F)(hr:dZ k' X.A)(ha:SA X (e::es) m)(hk:k<=k':=by decide)(hl:kO m n:=by repeat(first | exact aA | refine af ?_))(hg:Gl X nm:=by unfold Gl;ac_nf)(hdb:(nm==("__debug__":Str))=false:=by ac_nf)(he:starEach (e::es) X.env=(false,eval e X.env)::starEach es X.env:=by ac_nf)(hpl:(backTo pos (starEach es X.env)).any (·.1)=false:=by ac_nf):SE X (.Call (.Name nm p) (e::es) [] pos) (ai F m):=Jv d hr hk ha hl hg hdb he hpl
theorem jh{x:Str}{id:String}{p pos:Pos}{e:Expr}{es:List Expr}{f:Fn}{m:AM}(hc:fx X (.builtin id) f)(hm:X.mg x=none)(hv:bootBuiltins x=some (.builtin id))(ha:SA X (e::es) m)(hg:Gl X x:=by unfold Gl;ac_nf)(hn:x≠"__name__":=by decide)(hdb:(x==("__debug__":Str))=false:=by ac_nf)
  (he:starEach (e::es) X.env=(false,eval e X.env)::starEach es X.env:=by ac_nf) (hpl:(backTo pos (starEach es X.env)).any (·.1)=false:=by ac_nf):SE X (.Call (.Name x p) (e::es) [] pos) (ai f m):=Av hc hg hm hv ha hn hdb he hpl
theorem IB{x:Str}{id:String}{p pos:Pos}{e:Expr}{es:List Expr}{f:Fn}{m:AM}(hc:fx X (.type id) f)(hm:X.mg x=none)(hv:bootBuiltins x=some (.type id))(ha:SA X (e::es) m)(hg:Gl X x:=by unfold Gl;ac_nf)(hn:x≠"__name__":=by decide)(hdb:(x==("__debug__":Str))=false:=by ac_nf)
  (he:starEach (e::es) X.env=(false,eval e X.env)::starEach es X.env:=by ac_nf) (hpl:(backTo pos (starEach es X.env)).any (·.1)=false:=by ac_nf):SE X (.Call (.Name x p) (e::es) [] pos) (ai f m):=Au hc hg hm hv ha hn hdb he hpl
theorem qg(hm:X.mg x=none)(hv:bootBuiltins x=some (.type n))(hg:Gl X x:=by unfold Gl;ac_nf)(hn:x≠"__name__":=by decide)(hd:(x==("__debug__":Str))=false:=by ac_nf):SE X (.Name x pos) (eK (.ty n)):=Jr hg hm hv hn hd
theorem six(hr:dZ k X.A)(ha:SE X a ma)(hb:SE X b mb)(hs:kN b:=by unfold kN;intro _ _;ac_nf):SE X (.Subscript a b pos) (ah aH ma mb):=Jt hr.units ha hb hs
end Sm
namespace Hd
open PySem PySem.W PySem.Spec PyProof.Rows L2 Sm
theorem u0{P:List Value->Prop}(h:P [])(us:List Value)(hl:us.length=0):P us:=by cases us with | nil=>exact h | cons _ _=>cases hl
theorem u1{P:List Value->Prop}(h:∀a,P [a])(us:List Value)(hl:us.length=1):P us:=by
 cases us with
 | nil=>cases hl
 | cons a r=>exact u0 (P:=λr=>P (a::r)) (h a) r (Nat.succ.inj hl)
theorem u2{P:List Value->Prop}(h:∀a b,P [a,b])(us:List Value)(hl:us.length=2):P us:=by
 cases us with
 | nil=>cases hl
 | cons a r=>exact u1 (P:=λr=>P (a::r)) (h a) r (Nat.succ.inj hl)
theorem u3{P:List Value->Prop}(h:∀a b c,P [a,b,c])(us:List Value)(hl:us.length=3):P us:=by
 cases us with
 | nil=>cases hl
 | cons a r=>exact u2 (P:=λr=>P (a::r)) (h a) r (Nat.succ.inj hl)
theorem u4{P:List Value->Prop}(h:∀a b c d,P [a,b,c,d])(us:List Value)(hl:us.length=4):P us:=by
 cases us with
 | nil=>cases hl
 | cons a r=>exact u3 (P:=λr=>P (a::r)) (h a) r (Nat.succ.inj hl)
theorem u5{P:List Value->Prop}(h:∀a b c d e,P [a,b,c,d,e])(us:List Value)(hl:us.length=5):P us:=by
 cases us with
 | nil=>cases hl
 | cons a r=>exact u4 (P:=λr=>P (a::r)) (h a) r (Nat.succ.inj hl)
theorem u6{P:List Value->Prop}(h:∀a b c d e f,P [a,b,c,d,e,f])(us:List Value)(hl:us.length=6):P us:=by
 cases us with
 | nil=>cases hl
 | cons a r=>exact u5 (P:=λr=>P (a::r)) (h a) r (Nat.succ.inj hl)
theorem u7{P:List Value->Prop}(h:∀a b c d e f g,P [a,b,c,d,e,f,g])(us:List Value)(hl:us.length=7):P us:=by
 cases us with
 | nil=>cases hl
 | cons a r=>exact u6 (P:=λr=>P (a::r)) (h a) r (Nat.succ.inj hl)
theorem JZ{q:Program}{loose:List Str}{mean:ExcName->Option Value}{mg mb:Str->Option Value}{h base:Heap}{P:Program}{w:World}(T:Top q loose mean mg mb h){n:Str}{st:Stmt}(e:(recsOf q).find? (λe=>e.name==n)=some (oh n st)){ps:List Str}{k N:Nat}{F:Fn}
  (hb:∀{f:Addr} {fd:FuncData},xo (aO h) n n st f fd->Binds (aO h) fd ps []) (ok:∀{f:Addr} {fd:FuncData},xo (aO h) n n st f fd->keepIn (aO h) (.ref f)=true->Binds (aO h) fd ps []->mg n=some (.ref f)->eX P w (aO h) mg base rB k f fd ps (zN (aO h) N F)):Df P w (aO h) mg base n k ps N F:=by
 obtain⟨f,fd,m,G⟩:=Ff T e;exact⟨f,fd,ok G G.kp (hb G) m,G.kp,hb G,m⟩
end Hd
namespace L2
open PySem PySem.Spec PyProof.Rows Builtin.Str
end L2
namespace L2
open PySem PySem.Spec PyProof.Rows
end L2
namespace Sm
open PySem L2 PySem.Spec PyProof.Rows Builtin.Str
end Sm
namespace L2
open PySem PySem.Spec PyProof.Rows
section
variable {X:Cx}
end
end L2
namespace Sm
open PySem L2 PySem.Spec PyProof.Rows
section
variable {X:Cx}
end
end Sm
namespace L2
open PySem PySem.Spec PyProof.Rows
end L2
namespace Sm
open PySem L2 PySem.Spec PyProof.Rows
end Sm
namespace L2
open PySem PySem.Spec PyProof.Rows
inductive xm(w:World)(h:Heap)(a:Addr)(es:Array (Int×Value))(ep:Nat)(t:SetTable)(vs:List Value)(i:Nat):Value->Prop where
 | drawn {T:Addr} {idx:List Nat} {o:Obj} {n:Nat} (ho:h.get? T=some o) (hcT:o.cls=.type "tuple") (hd:o.data=.seq (idx.map λ(k:Nat)=>rawInt (k:Int)).toArray n) (hp:idx.Perm (List.range es.size)) (hv:vs=idx.filterMap λk=>(es[k]?).map (·.2)):xm w h a es ep t vs i (.ref T)
 | text (ht:w.params.followText "set-order"=true) (hv:vs=(pickOrder (w.params.setOrder a ep) es).toList.map (·.2)):xm w h a es ep t vs i (.int 0 0)
 | led {slot:Nat} (ht:w.params.followText "set-order"=false) (hr:cW t.place) (hz:(!t.plain&&decide (es.size > 1))=false) (hl:t.led=true) (hs:slot=if i=0 then 0 else(t.place.getD (i-1) 0)+1) (hv:vs=es.toList.map (·.2)):xm w h a es ep t vs i (.int slot 0)
def vz(w:World)(h:Heap)(J a:Addr)(es:Array (Int×Value))(ep:Nat)(t:SetTable)(vs:List Value)(i:Nat):Prop:=
 (∃ob,h.get? a=some ob/\ob.data=.set es ep t)/\t.fits es.size=true/\∃o first,h.get? J=some o/\o.cls=.type "set_iterator"/\o.data=.fields #[first,.int i 0,.ref a,.int es.size 0,.int ep 0]/\xm w h a es ep t vs i first
theorem xm.perm(x:xm w h a es ep t vs i f):vs.Perm (es.toList.map (·.2)):=by
 cases x with
 | drawn ho _ hd hp hv=>subst hv;exact oP es hp
 | text ht hv=>subst hv;exact(qy _ es).map _
 | led ht hr hz hl hs hv=>subst hv;exact .refl _
def iC(w:World)(h:Heap)(a:Addr)(es:Array (Int×Value)):Prop:=
 ∃o ep t,h.get? a=some o/\o.ExactSet/\o.data=.set es ep t/\es.size < scanBound/\t.fits es.size=true/\(t.led=!w.params.followText "set-order")/\(t.plain=true->cW t.place)
theorem lF{t:SetTable}{n:Nat}(h:t.fits n=true):t.place.size=n:=by
 unfold SetTable.fits at h;rw[Nn,OV] at h;exact h.1
theorem below_at(hx:cW xs)(hi:i<=xs.size):SetTable.below xs (if i=0 then 0 else xs.getD (i-1) 0+1)=i:=by
 obtain⟨b1,b2,b3⟩:=eU xs (if i=0 then 0 else xs.getD (i-1) 0+1) hx;generalize SetTable.below xs (if i=0 then 0 else xs.getD (i-1) 0+1)=b at b1 b2 b3
 by_cases z:i=0
 ·rw[Nj z] at b2;rcases Nat.eq_zero_or_pos b with q | q
  ·exact q.trans z.symm
  ·exact absurd (b2 0 (Nq q b1) q) (O7 _)
 ·rw[Np z] at b2 b3;have i1:i-1 < i:=Nat.sub_lt (Nat.pos_of_ne_zero z) Nat.one_pos;have i2:i-1 < xs.size:=Nq i1 hi;have hg:xs.getD (i-1) 0=xs[i-1]:=by
   rw[NX,NI i2];rfl
  rw[hg] at b2 b3;rcases Qo b i with q | q | q
  ·exact absurd (b3 (i-1) i2 (Ri q)) (S6 _)
  ·exact q
  ·have hb:=Nq q b1;exact absurd (NW (b2 i hb q)) (Nat.not_le_of_lt (hx (i-1) i i2 hb i1))
theorem sf(h:xs.size<=1):cW xs:=λi j hi hj z=>absurd (Nq (Od (Oo i) z) (NW (Nq hj h))) (OJ 0)
section
variable {P:Program} {w:World} {A:Around} {E:Value->Shared->Prop} {s:Shared} {a:Addr} {es:Array (Int×Value)}
theorem iC.type(h:iC w s.heap a es):s.TypeIs (.ref a) "set":=by obtain⟨o,_,_,e,x,_⟩:=h;exact⟨o,e,x.1⟩
theorem CG(hS:iC w s.heap a es)(h:∀h' d J ep t vs,(∀b o,s.heap.get? b=some o->h'.get? b=some o)->s.heap.objs.size<=J->vs.Perm (es.toList.map (·.2))->vz w h' J a es ep t vs 0->Q (.ref J) {s with heap:=h',drawn:=d}):
  wpAny (model P w) A (pyIter (.ref a)) Q E s:=by
 have hT:=hS.type;obtain⟨ob,ep,t,hob,hex,hdt,h4,h5,h6,h7⟩:=hS;have out:∀(h':Heap)(d:Drawn)(J:Addr)(vs:List Value) {f:Value},(∀b o,s.heap.get? b=some o->h'.get? b=some o)->s.heap.objs.size<=J->(∃o,h'.get? J=some o/\o.cls=.type "set_iterator"/\o.data=.fields #[f,.int 0 0,.ref a,.int es.size 0,.int ep 0])->xm w h' a es ep t vs 0 f->Q (.ref J) {s with heap:=h',drawn:=d}:=
  λh' d J vs f hk hJ ⟨o,e1,e2,e3⟩ wy=>by
   have hp:=wy.perm;exact h h' d J ep t vs hk hJ hp ⟨⟨ob,hk _ _ hob,hdt⟩,h5,o,f,e1,e2,e3,wy⟩
 refine wpAny_pyIter_slot hT F.slot_set_iter (Oj F.slot_set_iter hT entry_set_iter' ?_ (F.args_set_iter_1 _));unfold Builtin.«frozenset.__iter__» Builtin.Frozenset.slot0 slotArgs Builtin.Frozenset.sizeOf Builtin.Frozenset.addrOf;simp only[RJ,OT,NH,↓reduceIte,bind_assoc,Ot,OU,pure_bind];refine Nb (RH hob hdt h5 ?_);unfold setDrawn setsByText;simp only[bind_assoc];refine Nb (ON hob hdt h5 ?_);dsimp only;refine Nb (PL ?_);simp only[pure_bind];cases hb:(!(model P w).w.params.followText "set-order"&&(!t.plain&&decide (es.size > 1))) with
 | true=>
  refine wpAny_of_eq' (Nj hb) ?_;refine Nb (xp _ _ _ _ (by simp) λidx d hp=>Nb (Rw ?_ (by rw[Nc,hp.length_eq,NO];exact Q7 h4)));have k1:∀(o1:Obj) b o,s.heap.get? b=some o->(s.heap.push o1).get? b=some o:=λo1 b o e=>Nd _ e;refine Nb (wpAny_setEpoch_of (k1 _ _ _ hob) hdt h5 (Nb (Og (Nf ⟨_,rfl,"set_iterator",_,⟨_,Nu _ rfl,rfl⟩,cA.lookup,?_⟩))));exact out _ d _ _ (λb o e=>Nd _ (Nd _ e)) (by rw[N6];exact Pc _) ⟨_,Nu _ rfl,rfl,rfl⟩ (.drawn (Nd _ (Nu _ rfl)) rfl rfl hp rfl)
 | false=>
  refine wpAny_of_eq' (Np λz=>Bool.noConfusion (hb.symm.trans z)) ?_;refine Nb (wpAny_setEpoch_of hob hdt h5 (Nb (Og (Nf ⟨_,rfl,"set_iterator",_,⟨_,Nu _ rfl,rfl⟩,cA.lookup,?_⟩))));have hb':(!w.params.followText "set-order"&&(!t.plain&&decide (es.size > 1)))=false:=hb;cases ht:w.params.followText "set-order" with
  | true=>exact out _ s.drawn _ _ (λb o e=>Nd _ e) (Nh _) ⟨_,Nu _ rfl,rfl,rfl⟩ (.text ht rfl)
  | false=>
   have hz:(!t.plain&&decide (es.size > 1))=false:=by
    rw[ht] at hb';exact hb'
   have hr:cW t.place:=by
    cases q:t.plain with
    | true=>exact h7 q
    | false=>
     rw[q] at hz;refine sf ?_;rw[lF h5]
     simpa using hz
   exact out _ s.drawn _ _ (λb o e=>Nd _ e) (Nh _) ⟨_,Nu _ rfl,rfl,rfl⟩ (.led (slot:=0) ht hr hz (by rw[h6,ht];rfl) rfl rfl)
theorem uG(hob:s.heap.get? a=some ob)(hdt:ob.data=.set es ep t)(hf:t.fits es.size=true)(ht:w.params.followText "set-order"=false)(hz:(!t.plain&&decide (es.size > 1))=false)(hl:t.led=true)(h:Q (match es[SetTable.below t.place k]?,t.place[SetTable.below t.place k]? with | some (_,x),some j=>some (x,j+1) | _,_=>none) s):wpAny (model P w) A (setNext a k i ep) Q E s:=by
 unfold setNext setsByText;refine Nb (ON hob hdt hf ?_);dsimp only;refine Nb (Nb (PL (Nf ?_)));rw[Np (show ¬(model P w).w.params.followText "set-order"=true by rw[show(model P w).w.params.followText "set-order"=false from ht];simp)];have hdr:¬(!t.plain&&decide (es.size > 1))=true:=by rw[hz];simp
 refine wpAny_of_eq' (Np hdr) ?_;refine Nb (wpAny_of_eq' (m':=pure ()) (Np (show ¬(!t.led&&!es.isEmpty)=true by rw[hl];simp)) (Nf ?_));exact Nf h
theorem CF(hS:vz w s.heap J a es ep t vs i)(hv:vs[i]?=some v)(hne:J≠a)(h:∀h',(∀b o,b≠J->s.heap.get? b=some o->h'.get? b=some o)->vz w h' J a es ep t vs (i+1)->Q (some v) {s with heap:=h'}):wpAny (model P w) A (pyNext (.ref J)) Q E s:=by
 obtain⟨⟨ob,hob,hdt⟩,hf,o,first,ho,hc,hd,wy⟩:=hS;have hT:s.TypeIs (.ref J) "set_iterator":=⟨o,ho,hc⟩;unfold pyNext;refine Nb (QD (Oh (name:=Str.ofString "__next__") hT cA (Oj cA hT ja ?_ (kE _))));unfold Builtin.«set_iterator.__next__» slotArgs;simp only[RJ,OT,NH,↓reduceIte,bind_assoc,Ot,OU,pure_bind];refine Nb (wpAny_fieldsOf ho hd ?_);dsimp only;refine Nb (RH hob hdt hf ?_);simp only[OU,NH,↓reduceIte];cases wy with
 | @drawn T idx oT nT hoT hcT hdT hp hvs=>
  have hTJ:T≠J:=λz=>by subst z;rw[ho] at hoT;cases hoT;rw[hd] at hdT;cases hdT
  refine Nb (m:=seqItems? (.ref T)) (OD hoT hdT ?_);dsimp only;have hlen:idx.length=es.size:=by rw[hp.length_eq,NO]
  have hall:∀k∈idx,∃e,es[k]?=some e:=λk hk=>by
   have:k < es.size:=by have:=hp.mem_iff.mp hk;simpa using this
   exact⟨_,NI this⟩
  have hget:∀(l:List Nat)(i:Nat)(v:Value),(∀k∈l,∃e,es[k]?=some e)->(l.filterMap λk=>(es[k]?).map (·.2))[i]?=some v->∃k e,l[i]?=some k/\es[k]?=some e/\e.2=v:=by
   intro l
   induction l with
   | nil=>intro i v _ h;simp at h
   | cons k r ih=>
    intro i v ha h;obtain⟨e,he⟩:=ha k Nm;rw[Ol,he] at h;dsimp only[Option.map] at h;cases i with
    | zero=>rw[Qj] at h;cases h;exact⟨k,e,rfl,he,rfl⟩
    | succ j=>
     rw[OQ] at h;obtain⟨k',e',a1,a2,a3⟩:=ih j v (λx hx=>ha x (Nl _ hx)) h;exact⟨k',e',by rw[OQ];exact a1,a2,a3⟩
  rw[hvs] at hv;obtain⟨k,e,e1,e2,rfl⟩:=hget idx i v hall hv;have e3:((idx.map λ(k:Nat)=>rawInt (k:Int)).toArray)[(i:Int).toNat]?=some (rawInt (k:Int)):=by
   rw[NP,Rb,Nz,e1];rfl
  rw[e3];show wpAny _ _ (setNextDrawn a (k:Int).toNat (ep:Int).toNat >>=_) _ _ s;rw[NP,NP];unfold setNextDrawn;simp only[bind_assoc];refine Nb (ON hob hdt hf ?_);dsimp only;simp only[OU,NH,↓reduceIte];rw[e2];simp only[pure_bind];refine Nb (sP ho hd (by simp) λh' o' hk ho' hc' hd'=>Nf ⟨_,rfl,Nf (h h' hk ?_)⟩);exact⟨⟨ob,hk _ _ (Ox hne) hob,hdt⟩,hf,o',.ref T,ho',hc'.trans hc,hd',.drawn (hk _ _ hTJ hoT) hcT hdT hp (by rw[hvs])⟩
 | text ht hvs=>
  show wpAny _ _ (setNext a (0:Int).toNat (i:Int).toNat (ep:Int).toNat >>=_) _ _ s;rw[NP,NP];refine Nb (qF hob hdt hf ht ?_);have hv':=hv;rw[hvs,Nz] at hv';obtain⟨e,e1,e2⟩:=N5.mp hv';rw[Ow] at e1;rw[e1];dsimp only[Option.map];refine Nb (sP ho hd (by simp) λh1 o1 hk1 ho1 hc1 hd1=>Nb (sP ho1 hd1 (by simp) λh' o' hk ho' hc' hd'=>Nf ⟨_,rfl,Nf ?_⟩));rw[e2];refine h h' (λb u hb z=>hk b u hb (hk1 b u hb z)) ⟨⟨ob,hk _ _ (Ox hne) (hk1 _ _ (Ox hne) hob),hdt⟩,hf,o',_,ho',(hc'.trans hc1).trans hc,hd',.text ht hvs⟩
 | @led slot ht hr hz hl hs hvs=>
  show wpAny _ _ (setNext a (slot:Int).toNat (i:Int).toNat (ep:Int).toNat >>=_) _ _ s;rw[NP,NP,NP];have hlt:i < es.size:=by
   have:=(Ng.mp hv).1;rw[hvs] at this
   simpa using this
  have hpz:=lF hf;refine Nb (uG hob hdt hf ht hz hl ?_);rw[hs,below_at hr (by lia),NI (show i < t.place.size by lia)];have hv':=hv;rw[hvs,Nz] at hv';obtain⟨e,e1,e2⟩:=N5.mp hv';rw[Ow] at e1;obtain⟨eh,ev⟩:=e;rw[e1];dsimp only at e2 ⊢;refine Nb (sP ho hd (by simp) λh1 o1 hk1 ho1 hc1 hd1=>Nb (sP ho1 hd1 (by simp) λh' o' hk ho' hc' hd'=>Nf ⟨_,rfl,Nf ?_⟩));rw[e2];refine h h' (λb u hb z=>hk b u hb (hk1 b u hb z)) ⟨⟨ob,hk _ _ (Ox hne) (hk1 _ _ (Ox hne) hob),hdt⟩,hf,o',_,ho',(hc'.trans hc1).trans hc,hd',.led (slot:=t.place[i]+1) ht hr hz hl ?_ hvs⟩;rw[Np (Nat.succ_ne_zero i),Ru,NX,NI (show i < t.place.size by lia)];rfl
theorem EN(hh:A.handled=none)(hS:vz w s.heap J a es ep t vs vs.length)(h:∀h',(∀b o,b≠J->s.heap.get? b=some o->h'.get? b=some o)->Q none {s with heap:=h'}):wpAny (model P w) A (pyNext (.ref J)) Q E s:=by
 obtain⟨⟨ob,hob,hdt⟩,hf,o,first,ho,hc,hd,wy⟩:=hS;have hT:s.TypeIs (.ref J) "set_iterator":=⟨o,ho,hc⟩;have hlen:vs.length=es.size:=by have:=wy.perm.length_eq;simpa using this
 unfold pyNext;refine Nb (QD (Oh (name:=Str.ofString "__next__") hT cA (Oj cA hT ja ?_ (kE _))));unfold Builtin.«set_iterator.__next__» slotArgs;simp only[RJ,OT,NH,↓reduceIte,bind_assoc,Ot,OU,pure_bind];refine Nb (wpAny_fieldsOf ho hd ?_);dsimp only;refine Nb (RH hob hdt hf ?_);simp only[OU,NH,↓reduceIte];cases wy with
 | @drawn T idx oT nT hoT hcT hdT hp hvs=>
  refine Nb (m:=seqItems? (.ref T)) (OD hoT hdT ?_);dsimp only;have e3:((idx.map λ(k:Nat)=>rawInt (k:Int)).toArray)[(vs.length:Int).toNat]?=none:=by
   rw[NP,Rb,Nz,Oc (by rw[hp.length_eq,NO,hlen];exact Nh _)];rfl
  rw[e3];refine Nb (sP ho hd (by simp) λh1 o1 hk1 ho1 hc1 hd1=>Nb (sP ho1 hd1 (by simp) λh2 o2 hk2 ho2 hc2 hd2=>?_));exact rN (J:=J) hh λh' hk=>h h' λb u hb z=>hk b u (hk2 b u hb (hk1 b u hb z))
 | text ht hvs=>
  show wpAny _ _ (setNext a (0:Int).toNat (vs.length:Int).toNat (ep:Int).toNat >>=_) _ _ s;rw[NP,NP];refine Nb (qF hob hdt hf ht ?_);have hz:(pickOrder (w.params.setOrder a ep) es).size=es.size:=by have:=(qy (w.params.setOrder a ep) es).length_eq;simpa using this
  rw[Sz (by rw[hz,hlen];exact Nh _)];dsimp only[Option.map];refine Nb (sP ho hd (by simp) λh2 o2 hk2 ho2 hc2 hd2=>?_);exact rN (J:=J) hh λh' hk=>h h' λb u hb z=>hk b u (hk2 b u hb z)
 | @led slot ht hr hz hl hs hvs=>
  show wpAny _ _ (setNext a (slot:Int).toNat (vs.length:Int).toNat (ep:Int).toNat >>=_) _ _ s;rw[NP,NP,NP];refine Nb (uG hob hdt hf ht hz hl ?_);have hpz:=lF hf;have hnone:es[SetTable.below t.place slot]?=none:=by
   rw[hs,below_at hr (by lia)];exact Sz (by lia)
  rw[hnone];dsimp only;refine Nb (sP ho hd (by simp) λh2 o2 hk2 ho2 hc2 hd2=>?_);exact rN (J:=J) hh λh' hk=>h h' λb u hb z=>hk b u (hk2 b u hb z)
theorem vz.off(x:vz w h J a es ep t vs i)(hS:h.get? S=some oS)(hc:oS.cls=.type "list")(hj:S≠J)(ha:S≠a)(k:∀b o,b≠S->h.get? b=some o->h'.get? b=some o):vz w h' J a es ep t vs i:=by
 obtain⟨⟨ob,hob,hdt⟩,hf,o,first,ho,hcc,hd,wy⟩:=x;refine⟨⟨ob,k _ _ (Ox ha) hob,hdt⟩,hf,o,first,k _ _ (Ox hj) ho,hcc,hd,?_⟩;cases wy with
 | @drawn T idx oT nT hoT hcT hdT hp hvs=>
  have hTS:T≠S:=λz=>by subst z;rw[hS] at hoT;cases hoT;rw[hc] at hcT;exact absurd hcT (by decide)
  exact .drawn (k _ _ hTS hoT) hcT hdT hp hvs
 | text ht hvs=>exact .text ht hvs
 | led ht hr hz hl hs hvs=>exact .led ht hr hz hl hs hvs
theorem yH(hh:A.handled=none)(hj:S≠J)(ha:S≠a)(hja:J≠a)(hz:vs.length<=sizeLine):
  ∀(m i:Nat)(s:Shared)(c:Nat),vs.length-i=m->i<=vs.length->vz w s.heap J a es ep t vs i->s.heap.get? S=some {cls:=.type "list",dict:=none,data:=.seq (vs.take i).toArray c,slots:=#[]}->
  (∀h' c',(∀b o,b≠S->b≠J->s.heap.get? b=some o->h'.get? b=some o)->h'.get? S=some {cls:=.type "list",dict:=none,data:=.seq vs.toArray c',slots:=#[]}->R (.ok (.ret (.ref S))) {s with heap:=h'})->
  codeAny (model P w) A (.builtin "list.extend.loop" ⟨[.ref S,.ref J,.ref S],[]⟩) R s:=by
 intro m
 induction m with
 | zero=>
  intro i s c hm hi st hS hR;have hin:i=vs.length:=O8 hi (SJ hm);subst hin;refine OS F.entry_extend_loop ?_;rw[OE QI _];show wpAny _ A.in1 (pyNext (.ref J) >>=_) _ _ s;refine Nb (EN (A:=A.in1) hh st λh' hk=>Nf (hR h' c (λb o _ hb e=>hk b o hb e) ?_));rw[O1] at hS;exact hk _ _ hj hS
 | succ m ih=>
  intro i s c hm hi st hS hR;have hlt:i < vs.length:=Nat.lt_of_sub_pos (hm ▸ P8 m);have hv:vs[i]?=some vs[i]:=Nk hlt;refine OS F.entry_extend_loop ?_;rw[OE QI _];show wpAny _ A.in1 (pyNext (.ref J) >>=_) _ _ s;refine Nb (CF (A:=A.in1) st hv hja λh1 hk1 st1=>?_);have hS1:=hk1 _ _ hj hS;show wpAny _ A.in1 (updateSeq S (·.push vs[i]) >>=_) _ _ _;have hlen:(vs.take i).toArray.size=i:=by rw[Nx,NF];lia
  refine Nb (So (s:={s with heap:=h1}) hS1 rfl (Nf ⟨Qn QI _,?_⟩) (by rw[hlen];exact Nr hi hz) (by show((vs.take i).toArray.push vs[i]).size<=sizeLine+1;rw[Array.size_push,hlen];lia));have hS2:=OP (Obj.mapSeq (·.push vs[i])) hS1 rfl;have hk2:∀b o,b≠S->h1.get? b=some o->(h1.update S (Obj.mapSeq (·.push vs[i]))).get? b=some o:=λb o hb e=>(Po _ _ (Ox hb)).trans e;have hpush:(vs.take i).toArray.push vs[i]=(vs.take (i+1)).toArray:=by
   rw[List.take_succ,hv];simp
  have hS3:∃c',(h1.update S (Obj.mapSeq (·.push vs[i]))).get? S=some {cls:=.type "list",dict:=none,data:=.seq (vs.take (i+1)).toArray c',slots:=#[]}:=by
   rw[<-hpush];exact⟨_,hS2⟩
  obtain⟨c3,hS3⟩:=hS3;exact ih (i+1) {s with heap:=h1.update S (Obj.mapSeq (·.push vs[i]))} c3 (by lia) hlt (st1.off hS1 rfl hj ha hk2) hS3 λh' c' hk hS'=>hR h' c' (λb o hb hb' e=>hk b o hb hb' (hk2 b o hb (hk1 b o hb' e))) hS'
theorem vg(hh:A.handled=none)(hS:iC w s.heap a es)(h:∀h' d vs,s.heap.objs.size<=h'.objs.size->(∀b o,s.heap.get? b=some o->h'.get? b=some o)->vs.Perm (es.toList.map (·.2))->Q vs {s with heap:=h',drawn:=d}):wpAny (model P w) A (collect (.ref a)) Q E s:=by
 have hT:=hS.type;have hlt:a < s.heap.objs.size:=by obtain⟨o,_,_,e,_⟩:=hS;exact Nt e
 have hks:es.size<=sizeLine:=by obtain⟨_,_,_,_,_,_,h4,_⟩:=hS;exact Q7 h4
 unfold collect;refine Nb (SV (OS F.entry_proto_collect ?_));rw[OE F.plain_proto_collect _];show wpAny _ A.in1 (newList [] >>=λl=>again (.builtin "list.__iadd__" ⟨[l,.ref a],[]⟩)) _ _ s;refine Nb (Og (Nf ⟨Qn F.plain_list_iadd _,OS F.entry_list_iadd ?_⟩));rw[OE F.plain_list_iadd _];generalize hoS:({cls:=.type "list",data:=.seq ([]:List Value).toArray}:Obj)=oS;have k0:∀b o,s.heap.get? b=some o->(s.heap.push oS).get? b=some o:=λb o e=>Nd _ e;have hS1:iC w (s.heap.push oS) a es:=by obtain⟨o,ep,t,e,r⟩:=hS;exact⟨o,ep,t,k0 _ _ e,r⟩
 have hSa:s.heap.objs.size≠a:=(NB hlt).symm;have hgS:(s.heap.push oS).get? s.heap.objs.size=some oS:=Nu _ (by rw[<-hoS];rfl);show wpAny _ A.in1 (Builtin.List.listExtendWith (.ref s.heap.objs.size) (.ref a) (.ref s.heap.objs.size)) _ _ {s with heap:=s.heap.push oS};unfold Builtin.List.listExtendWith;refine Nb (Qv (s:={s with heap:=s.heap.push oS}) (iC.type (s:={s with heap:=s.heap.push oS}) hS1) ?_);have e1:Builtin.List.listSameRef (.ref s.heap.objs.size) (.ref a)=false:=by simp[Builtin.List.listSameRef,hSa]
 have e2:(Value.type "set"==Value.type "list")=false:=by decide
 have e3:(Value.type "set"==Value.type "tuple")=false:=by decide
 simp only[e1,e2,e3,QP,NH,O0];refine Nb (CG (s:={s with heap:=s.heap.push oS}) hS1 λh1 d J ep t vs k1 hJ hp st=>?_);refine Nb (OG ?_);have hS2:iC w h1 a es:=by obtain⟨o,ep,t,e,r⟩:=hS1;exact⟨o,ep,t,k1 _ _ e,r⟩
 have hT2:Shared.TypeIs {s with heap:=h1,drawn:=d} (.ref a) "set":=iC.type (s:={s with heap:=h1,drawn:=d}) hS2;unfold Builtin.List.listLengthHint;refine Nb (QF hT2 nG ?_);dsimp only;rw[pN];dsimp only;refine Nb (PK hT2 sub_set_set ?_);simp only[OT,NH,O0];refine wpAny_of_eq' (Nj (by decide+kernel)) ?_;refine Nb (Qv hT2 (Nf ?_));have hgS1:h1.get? s.heap.objs.size=some {cls:=.type "list",data:=.seq ([]:List Value).toArray}:=by rw[hoS];exact k1 _ _ hgS
 have hJs:s.heap.objs.size < J:=by
  have:=hJ;rw[show(s.heap.push oS).objs.size=s.heap.objs.size+1 from N6 _ _] at this;exact this
 have hlen:vs.length=es.size:=by have:=hp.length_eq;simpa using this
 refine wpAny_of_eq' (Nj (by decide+kernel)) (Nb (Pr (Nb ?_)));show wpAny _ A.in1 (updateSeq s.heap.objs.size (·.push .none) >>=λ_=>updateSeq s.heap.objs.size (·.pop)) _ _ _;refine Nb (So (s:={s with heap:=h1,drawn:=d}) hgS1 rfl ?_);have hgS2:=OP (Obj.mapSeq (·.push Value.none)) hgS1 rfl;refine So hgS2 rfl ?_;have hgS3:=OP (Obj.mapSeq (·.pop)) hgS2 rfl;have koff:∀b o,b≠s.heap.objs.size->h1.get? b=some o->((h1.update s.heap.objs.size (Obj.mapSeq (·.push Value.none))).update s.heap.objs.size (Obj.mapSeq (·.pop))).get? b=some o:=
  λb o hb e=>(Po _ _ (Ox hb)).trans ((Po _ _ (Ox hb)).trans e)
 have hgS4:∃c',((h1.update s.heap.objs.size (Obj.mapSeq (·.push Value.none))).update s.heap.objs.size (Obj.mapSeq (·.pop))).get? s.heap.objs.size=some {cls:=.type "list",dict:=none,data:=.seq (vs.take 0).toArray c',slots:=#[]}:=⟨_,hgS3⟩;obtain⟨c4,hgS4⟩:=hgS4;refine Nf ⟨Qn QI _,yH (A:=A) hh (NB hJs) hSa (λz=>?_) (by rw[hlen];exact hks) vs.length 0 _ c4 rfl (Oo _) (st.off hgS1 rfl (NB hJs) hSa koff) hgS4 λh' c' hk hS'=>?_⟩
 ·rw[z] at hJs;exact Nat.lt_asymm hJs hlt
 ·show wpAny _ A (load s.heap.objs.size >>=_) _ _ _;refine Nb (wpAny_load hS' (Nf ?_));refine h h' d vs (Pw (Nt hS')) (λb o e=>?_) hp;have hb:b≠s.heap.objs.size:=NB (Nt e);exact hk b o hb (NB (OK (Nt e) hJs)) (koff b o hb (k1 b o (k0 b o e)))
end
end L2
namespace L2
open PySem PySem.Spec PyProof.Rows PySem.SeqAt
theorem jb{prog:Program}{w:World}{A:Around}{E:Value->Shared->Prop}{s:Shared}(a:Value){Q₁:Value->Shared->Prop}
  (h:Q₁ (.ref s.heap.objs.size) {s with heap:=s.heap.push {cls:=.type "set",dict:=none,data:=.set #[] 0 (.fresh 0 0 (!w.params.followText "set-order"))}}):
  codeAny (model prog w) A (.call (.builtin "set.__new__") ⟨[.type "set",a],[]⟩) (wants Q₁ E) s:=by
 refine Rp ?_;show wpAny _ A.in1 (do checkBuiltinCall "set.__new__" ⟨[.type "set",a],[]⟩;again (.builtin "set.__new__" ⟨[.type "set",a],[]⟩)) _ _ s;refine Nb (wpAny_of_eq (F.newCall_set_1 a) (Nf ⟨Qn F.plain_set_new _,OS F.entry_set_new ?_⟩));rw[OE F.plain_set_new _];unfold Builtin.«set.__new__» Builtin.Frozenset.newClass;have hsub:=sub_set_self;obtain⟨hp,g,d,tk,os⟩:=s;dsimp only
 wp_walk
 refine PL (Nf ?_);dsimp only;simp only[newObj];refine Nb (wpAny_alloc (Nf ?_));exact Nf h
structure yt(P:Program)(w:World)(A:Around)(h₀:Heap)(S:Addr)(items:Array Value)(J:Nat->Heap->Prop):Prop where
 frame:∀(i:Nat)(h h':Heap),(∀o,h.get? S=some o->h'.get? S=some o)->J i h->J i h'
 fresh:∀(h:Heap),h.get? S=some {cls:=.type "set",dict:=none,data:=.set #[] 0 (.fresh 0 0 (!w.params.followText "set-order"))}->J 0 h
 step:∀(i:Nat)(v:Value)(s:Shared)(E:Value->Shared->Prop)(Q:Bool->Shared->Prop),items[i]?=some v->J i s.heap->(∀b o,h₀.get? b=some o->s.heap.get? b=some o)->
  (∀r h' tk,s.toks<=tk->Heap.SameBut S s.heap h'->J (i+1) h'->Q r {s with heap:=h',toks:=tk})->wpAny (model P w) A (setAdd S v) Q E s
theorem qm{A:Around}{R:Result->Shared->Prop}{I:Addr}{fp wr:List Addr}{G:Array GenState->Array GenState->Prop}{items:Array Value}{St:Nat->Shared->Prop}{h₀:Heap}{S:Addr}{J:Nat->Heap->Prop}
  (W:WalksS P w A.in1 I fp wr G items.size (λi v=>items[i]?=some v) St) (hSf:S∉fp) (D:yt P w A.in1 h₀ S items J) (hw0:∀b∈wr,h₀.get? b=none) (hS0:h₀.get? S=none):
  ∀(k i:Nat)(s:Shared),items.size-i=k->i<=items.size->St i s->J i s.heap->(∀b o,h₀.get? b=some o->s.heap.get? b=some o)->
   (∀s',Moved (S::wr) G s s'->J items.size s'.heap->R (.ok (.ret .none)) s')->
   codeAny (model P w) A (.builtin "set.update.loop" ⟨[.ref S,.ref I],[]⟩) R s:=by
 have hSw:S∉wr:=λh=>hSf (W.sub _ h);have hsub:∀b∈wr,b∈S::wr:=λb hb=>Nl _ hb;intro k
 induction k with
 | zero=>
  intro i s hk hi hst hJ h0 hR;have hin:i=items.size:=by lia
  subst hin;refine OS F.entry_set_update_loop ?_;rw[OE RG _];show wpAny _ A.in1 (pyNext (.ref I) >>=_) _ _ s;refine Nb (W.done s _ _ hst λs' hm=>?_);show wpAny _ A.in1 (ret Value.none) _ _ s';exact Nf (hR s' (hm.mono hsub) (D.frame _ _ _ (λo e=>hm.heap S o hSw e) hJ))
 | succ k ih=>
  intro i s hk hi hst hJ h0 hR;have hlt:i < items.size:=by lia
  refine OS F.entry_set_update_loop ?_;rw[OE RG _];show wpAny _ A.in1 (pyNext (.ref I) >>=_) _ _ s;refine Nb (W.item i s _ _ hlt hst λv s' hP hst' hm=>?_);have hJ':=D.frame i s.heap s'.heap (λo e=>hm.heap S o hSw e) hJ;have h0':∀b o,h₀.get? b=some o->s'.heap.get? b=some o:=λb o e=>hm.heap b o (λhb=>by rw[hw0 b hb] at e;cases e) (h0 b o e);show wpAny _ A.in1 (holding [v] (setAdd S v) >>=_) _ _ s';refine Nb (OG (D.step i v s' _ _ hP hJ' h0' λr h' tk htk hsb hJ2=>?_));refine Nf ⟨Qn RG _,ih (i+1) _ (by lia) hlt (W.frame _ s' _ _ hst' htk λb hb o e=>?_) hJ2 (λb o e=>?_) λs'' hm'' hJ''=>?_⟩
  ·rw[hsb.2 b (λh:b=S=>hSf (by rw[<-h];exact hb))];exact e
  ·rw[hsb.2 b (λh:b=S=>by rw[h,hS0] at e;cases e)];exact h0' b o e
  ·refine hR s'' (Moved.trans W.gtrans ((hm.mono hsub).then_heap htk λb o hb e=>?_) hm'') hJ'';rw[hsb.2 b (λh:b=S=>hb (by rw[h];exact Nm))];exact e
set_option maxHeartbeats 3200000 in
theorem pv{l:Addr}{items:Array Value}{J:Nat->Heap->Prop}{Q:Value->Shared->Prop}
  (hh:A.handled=none) (hl:s.heap.IsList l items) (D:∀A':Around,A'.handled=none->A'.units<=A.units+8->yt P w A' s.heap s.heap.objs.size items J)
  (h:∀(h':Heap)(tk:Nat),J items.size h'->(∀b o,b < s.heap.objs.size->s.heap.get? b=some o->h'.get? b=some o)->Q (.ref s.heap.objs.size) {s with heap:=h',toks:=tk}):
  wpAny (model P w) A (call (.type "set") [.ref l]) Q E s:=by
 obtain⟨c,tl,hmro⟩:=OA.mro;have hmade:=OA.made;have hsub:=OA.sub;refine wpAny_call (Rp ?_);show wpAny _ _ (callAny (.type "set") _) _ _ _;refine Nf ⟨Code.quiet_builtin _ (by decide+kernel),OS F.entry_type_call ?_⟩;rw[Around.under_plain (weight_type_call_type "set" [.ref l] []) rfl];have h1:=OA.notType;have h2:=OA.canCreate;have hct:=F.typeCall_set_1 (.ref l)
 repeat(any_goals (first | assumption | wp_step))
 refine Qc (jb (.ref l) (E:=E) (Q₁:=λobj s₁=>∃led:Bool,led=(!w.params.followText "set-order")/\obj=.ref s.heap.objs.size/\s₁={s with heap:=s.heap.push {cls:=.type "set",dict:=none,data:=.set #[] 0 (.fresh 0 0 led)}}) ⟨_,rfl,rfl,rfl⟩) λr s₁ hr=>?_;cases r with
 | error e=>exact hr
 | ok fl=>
  cases fl with
  | ret obj=>
   obtain⟨led,hled,rfl,rfl⟩:=hr;have hS:(s.heap.push {cls:=.type "set",dict:=none,data:=.set #[] 0 (.fresh 0 0 led)}).get? s.heap.objs.size=some {cls:=.type "set",dict:=none,data:=.set #[] 0 (.fresh 0 0 led)}:=Nu _ rfl;have hT:Shared.TypeIs {s with heap:=s.heap.push {cls:=.type "set",dict:=none,data:=.set #[] 0 (.fresh 0 0 led)}} (.ref s.heap.objs.size) "set":=⟨_,hS,rfl⟩;have hli:=OA.init.lookup;have hbi:=OA.init.bind (.ref s.heap.objs.size)
   repeat(any_goals (first | assumption | wp_step))
   refine Qc (codeAny_call_builtin (R:=wants (λr s₂=>r=.none/\∃h' tk,s₂={s with heap:=h',toks:=tk}/\J items.size h'/\
     (∀b o,b < s.heap.objs.size->s.heap.get? b=some o->h'.get? b=some o)) E) OA.init.plain F.entry_set_init (check_set_init_1 hT ?_)) λr₂ s₂ hr₂=>?_
   ·obtain⟨ol,hol,hcl,nl,hdl⟩:=hl;obtain⟨ocls,odict,odata,oslots⟩:=ol;simp only at hcl hdl;subst hcl;subst hdl;have hol':(s.heap.push {cls:=.type "set",dict:=none,data:=.set #[] 0 (.fresh 0 0 led)}).get? l=some {cls:=.type "list",dict:=odict,data:=.seq items nl,slots:=oslots}:=Nd _ hol;have hsls:=F.sub_list_set;have hslf:=F.sub_list_frozenset;have hne:(Value.type "list"==Value.type "dict")=false:=by decide
    have hl1:(s.heap.push {cls:=.type "set",dict:=none,data:=.set #[] 0 (.fresh 0 0 led)}).IsList l items:=⟨_,hol',rfl,nl,rfl⟩;unfold Builtin.«set.__init__» noKeywords Builtin.Frozenset.updateFrom;generalize hPI:pyIter=PI
    wp_walk
    subst hPI;refine Q6 hl1 ?_;refine Nb (SV ?_);have hlS:l < s.heap.objs.size:=Nt hol;have hh3:A.in1.in1.in1.handled=none:=by simp[hh]
    have hneI:l≠(s.heap.push {cls:=.type "set",dict:=none,data:=.set #[] 0 (.fresh 0 0 led)}).objs.size:=by
     rw[N6];exact NB (PY hlS)
    have hSf:s.heap.objs.size∉[(s.heap.push {cls:=.type "set",dict:=none,data:=.set #[] 0 (.fresh 0 0 led)}).objs.size,l]:=by
     rw[N6];simp only[NA,Nw,PB,QQ,not_or];exact⟨NB (Pj _),Pu hlS⟩
    have none_of:∀b,s.heap.objs.size<=b->s.heap.get? b=none:=λb hb=>by
     cases q:s.heap.get? b with
     | none=>rfl
     | some o=>exact absurd (Nt q) (Qe.mpr hb)
    refine qm ((Walks.list hh3 _ l hneI items).toS) hSf (D _ hh3 (by simp only[Qd];lia)) (λb hb=>?_) (none_of _ (Nh _)) (items.size-0) 0 _ (by lia) (Oo _)
     ⟨⟨_,Nu _ rfl,rfl,rfl⟩,(hl1.push _)⟩ ?hS0 ?hK ?hR
    ·rw[Nw] at hb;subst hb;exact none_of _ (by rw[N6];lia)
    case hS0=>
     exact(D A hh (by lia)).fresh _ (by rw[<-hled];exact Nd _ hS)
    case hK=>
     intro b o e;exact Nd _ (Nd _ e)
    case hR=>
     intro s' hm hJ';obtain⟨h',g',d',tk',os'⟩:=s';have eg:g'=s.gens:=hm.gens;have ed:d'=s.drawn:=hm.drawn;have eo:os'=s.os:=hm.os;subst eg;subst ed;subst eo;show wpAny _ _ _ _ _ _;refine Nf ?_;show wpAny _ _ (ret Value.none) _ _ _;refine Nf ⟨rfl,h',tk',rfl,hJ',λb o hb e=>?_⟩;have hb1:b≠s.heap.objs.size:=NB hb;have hb2:b≠(s.heap.push {cls:=.type "set",dict:=none,data:=.set #[] 0 (.fresh 0 0 led)}).objs.size:=by
      rw[N6];exact NB (PY hb)
     exact hm.heap b o (by simp only[NA,Nw,PB,QQ,not_or];exact⟨hb1,hb2⟩) (Nd _ (Nd _ e))
   ·cases r₂ with
    | error e=>exact hr₂
    | ok fl₂=>
     cases fl₂ with
     | ret r=>
      obtain⟨rfl,h',tk,rfl,hJ',hk'⟩:=hr₂
      repeat(any_goals (first | assumption | wp_step))
      exact h _ _ hJ' hk'
     | _=>exact hr₂.elim
  | _=>exact hr.elim
end L2
namespace L2
open PySem PySem.Spec PyProof.Rows
theorem yL{l:List Nat}(h:l.Pairwise (· < ·)):cW l.toArray:=λi j hi hj z=>by
 have:=QH.mp h i j (by simpa using hi) (by simpa using hj) z
 simpa using this
theorem D6(f:Nat->Option Nat):∀(l:List Nat),l.Pairwise (· < ·)->((l.filterMap λj=>(f j).map (j,·)).map (·.1)).Pairwise (· < ·):=by
 intro l hl;have hs:((l.filterMap λj=>(f j).map (j,·)).map (·.1)).Sublist l:=by
  clear hl
  induction l with
  | nil=>exact .slnil
  | cons x r ih=>
   rw[Ol];cases f x with
   | none=>exact ih.cons x
   | some y=>exact ih.cons₂ x
 exact hl.sublist hs
section
variable {P:Program} {w:World} {A:Around} {E:Value->Shared->Prop} {s:Shared} {a:Addr} {ks:List Int}
end
end L2
namespace Sm
open PySem L2 PySem.Spec PyProof.Rows
end Sm
namespace L2
open PySem PySem.Spec PyProof.Rows
end L2
namespace Sm
open PySem L2 PySem.Spec PyProof.Rows
end Sm
namespace L2
open PySem PySem.Spec PyProof.Rows PySem.SeqAt
section
variable {P:Program} {w:World} {E:Value->Shared->Prop}
end
theorem eqv_refl:∀(n:Nat) {d:PyData},aG n d=true->PyData.eqv d d=true:=by
 intro n
 induction n with
 | zero=>intro d h;cases d <;> simp[aG] at h <;> simp[PyData.eqv]
 | succ n ih=>
  intro d h;cases d <;> simp[aG] at h <;> simp[PyData.eqv]
  rename_i xs;have:∀l:List PyData,(∀x∈l,aG n x=true)->PyData.eqvAll l l=true:=by
   intro l
   induction l with
   | nil=>intro _;simp[PyData.eqvAll]
   | cons x r ih2=>intro hl;simp[PyData.eqvAll,ih (hl x (by simp)),ih2 λy hy=>hl y (by simp[hy])]
  exact this xs h
noncomputable local instance:DecidableEq PyData:=λa b=>Classical.propDecidable _
end L2
namespace L2
open PySem PySem.Spec PyProof.Rows PySem.W
theorem vK{a b:Str}(h:a.cps.toList=b.cps.toList):a=b:=by
 obtain⟨a⟩:=a;obtain⟨b⟩:=b;have:=QY.mp h;exact congrArg _ this
section
variable {ks:List PKey} {i j:Nat}
end
section
variable {P:Program} {w:World} {A:Around} {E:Value->Shared->Prop} {s:Shared}
end
end L2
namespace L2
open PySem PySem.Spec PyProof.Rows PySem.W PySem.SeqAt
section
variable {P:Program} {w:World} {A:Around} {E:Value->Shared->Prop} {s:Shared} {a:Addr}
theorem uy{α β:Type}{f:α->β}:∀{vs ws:List β},vs.Perm ws->∀{l:List α},ws=l.map f->∃l':List α,l'.Perm l/\vs=l'.map f:=by
 intro vs ws h
 induction h with
 | nil=>intro l e;exact⟨l,.refl _,e⟩
 | cons x _ ih=>
  intro l e;cases l with
  | nil=>cases e
  | cons y l=>
   rw[Ny] at e;injection e with e1 e2
   obtain⟨l',p,q⟩:=ih e2;exact⟨y::l',p.cons y,by rw[Ny,e1,q]⟩
 | swap x y r=>
  intro l e
  match l,e with
  | [],e=>cases e
  | [_],e=>cases e
  | u::v::l,e=>
   rw[Ny,Ny] at e;injection e with e1 e2
   injection e2 with e2 e3
   exact⟨v::u::l,.swap ..,by rw[Ny,Ny,e1,e2,e3]⟩
 | trans _ _ ih1 ih2=>
  intro l e;obtain⟨l2,p2,q2⟩:=ih2 e;obtain⟨l1,p1,q1⟩:=ih1 q2;exact⟨l1,p1.trans p2,q1⟩
end
end L2
namespace Sm
open PySem L2 PySem.Spec PyProof.Rows
end Sm
namespace L2
open PySem PySem.Spec PyProof.Rows
end L2
namespace Sm
open PySem L2 PySem.Spec PyProof.Rows
end Sm
namespace L2
open PySem PySem.Spec PyProof.Rows PySem.SeqAt
end L2
namespace Sm
open PySem L2 PySem.Spec PyProof.Rows
end Sm
namespace Sm
open PySem L2 PySem.Spec PyProof.Rows PySem.SeqAt
noncomputable local instance:DecidableEq PyData:=λa b=>Classical.propDecidable _
section
variable {K:FR} {ρ ρ':Ad} {H H':Hp}
end
section
variable {X:Cx}
end
end Sm
namespace Sm
open PySem L2 PySem.Spec PyProof.Rows
abbrev v0:EM:=aS 0
abbrev v1:EM:=aS 1
abbrev v2:EM:=aS 2
abbrev v3:EM:=aS 3
abbrev v4:EM:=aS 4
abbrev v5:EM:=aS 5
abbrev v6:EM:=aS 6
abbrev v7:EM:=aS 7
abbrev v8:EM:=aS 8
abbrev v9:EM:=aS 9
abbrev v10:EM:=aS 10
abbrev v11:EM:=aS 11
abbrev Lr:EM:=aS 12
abbrev Lq:EM:=aS 13
abbrev MA:EM:=aS 14
abbrev ki(i:Int):EM:=eK (.int i)
abbrev ks(x:Str):EM:=eK (.str x)
abbrev a1(x:EM):AM:=ag x bj
abbrev a2(x y:EM):AM:=ag x (ag y bj)
abbrev a3(x y z:EM):AM:=ag x (ag y (ag z bj))
abbrev a4(x y z u:EM):AM:=ag x (ag y (ag z (ag u bj)))
section
variable {P:Program} {w:World} {K:FR} {mg:Str->Option Value} {base:Heap} {x qual:Str} {st:Stmt} {f:Addr} {fd:FuncData} {N ps:List Str} {k:Nat}
theorem aM(F:xo K x qual st f fd)(Sc:aD N ps (ao st))(hb:∀(cdv:Value)(A:Around)(outer:List Env)(s:Shared)(H:Hp)(E:XK),dZ k (A.deeper (envOfC qual (ao st) s.heap.objs.size f cdv))->N.Nodup->ER (vc rB P w K mg base N qual (ao st) f cdv A outer s H E).IC (ft st) body):
  eX P w K mg base rB (k+1) f fd ps (zN K ps.length (kQ N.length body)):=Ht F Sc λc A o s H E hr=>hb c A o s H E hr Sc.nd
end
theorem Jp{op:CmpOp}(ho:jB X (compareOp op) f)(ha:SE X a ma)(hb:SE X b mb)(hm:behindInMarks op b=false:=by first | exact dC _ | ac_nf):ST X (.Compare a [op] [b] pos) (ax (ah f ma mb)):=eG ho ha hb hm
theorem Jq{op:CmpOp}(ho:jB X (compareOp op) f)(ha:SE X a ma)(hb:SE X b mb)(hm:behindInMarks op b=false:=by first | exact dC _ | ac_nf):SE X (.Compare a [op] [b] pos) (ah f ma mb):=vQ ho ha hb hm
theorem LH{x1}(h:SA X es bj):SE X (.Tuple es x1 pos) (ai aL bj):=cJ h aA
theorem LG{x1}(h:SA X es (ag m0 bj)):SE X (.Tuple es x1 pos) (ai aL (ag m0 bj)):=cJ h (af aA)
theorem LF{x1}(h:SA X es (ag m0 (ag m1 bj))):SE X (.Tuple es x1 pos) (ai aL (ag m0 (ag m1 bj))):=cJ h (af (af aA))
theorem LD{x1}(h:SA X es (ag m0 (ag m1 (ag m2 bj)))):SE X (.Tuple es x1 pos) (ai aL (ag m0 (ag m1 (ag m2 bj)))):=cJ h (af (af (af aA)))
theorem LC{x1}(h:SA X es (ag m0 (ag m1 (ag m2 (ag m3 (ag m4 (ag m5 bj))))))):SE X (.Tuple es x1 pos) (ai aL (ag m0 (ag m1 (ag m2 (ag m3 (ag m4 (ag m5 bj))))))):=cJ h (af (af (af (af (af (af aA))))))
theorem LL(h:SA X es bj):mE X (.List es pos) bj:=f9 h aA
theorem LK(h:SA X es (ag m0 bj)):mE X (.List es pos) (ag m0 bj):=f9 h (af aA)
theorem LJ(h:SA X es (ag m0 (ag m1 bj))):mE X (.List es pos) (ag m0 (ag m1 bj)):=f9 h (af (af aA))
theorem LI(h:SA X es (ag m0 (ag m1 (ag m2 (ag m3 (ag m4 (ag m5 (ag m6 (ag m7 bj))))))))):mE X (.List es pos) (ag m0 (ag m1 (ag m2 (ag m3 (ag m4 (ag m5 (ag m6 (ag m7 bj)))))))):=f9 h (af (af (af (af (af (af (af (af aA))))))))
end Sm
namespace Hd
open PySem PySem.W PySem.Spec PyProof.Rows L2 Sm
theorem br{q:Program}{loose:List Str}{mean:ExcName->Option Value}{mg mb:Str->Option Value}{h base:Heap}{P:Program}{w:World}(T:Top q loose mean mg mb h){n:Str}{st:Stmt}(e:(recsOf q).find? (λe=>e.name==n)=some (oh n st)){ps:List Str}{k N:Nat}{F:Fn}
  (ok:∀{f:Addr} {fd:FuncData},xo (aO h) n n st f fd->keepIn (aO h) (.ref f)=true->Binds (aO h) fd ps []->mg n=some (.ref f)->eX P w (aO h) mg base rB k f fd ps (zN (aO h) N F)) (hb:∀{f:Addr} {fd:FuncData},xo (aO h) n n st f fd->Binds (aO h) fd ps []:=by walk_at "b"):Df P w (aO h) mg base n k ps N F:=JZ T e hb ok
end Hd
namespace L2
open PySem PySem.Spec PyProof.Rows
section
variable {P:Program} {w:World} {A:Around} {E:Value->Shared->Prop} {s:Shared} {d J:Addr} {o:Obj} {es:Array DictEntry} {ep:Nat}
end
end L2
namespace Sm
open PySem L2 PySem.Spec PyProof.Rows PySem.SeqAt
end Sm
namespace L2
open PySem PySem.Spec PyProof.Rows
end L2
namespace Sm
open PySem L2 PySem.Spec PyProof.Rows
mutual
noncomputable def E7:D->Bool
 | .bx=>true
 | .bl _=>true
 | .int _=>true
 | .str _=>true
 | .tup xs=>AQ xs
 | _=>false
noncomputable def AQ:List D->Bool
 | []=>true
 | x::r=>E7 x&&AQ r
end
section
variable {K:FR} {ρ ρ':Ad} {H H':Hp} (hh:∀b vs,Rd H b (.tup vs)->¬ρ.has b->Rd H' b (.tup vs)/\¬ρ'.has b)
include hh
mutual
theorem Az{v:V}{d:D}(r:Rep K ρ H v d)(f:E7 d=true):Rep K ρ' H' v d:=by
 cases r with
 | bx=>exact .bx
 | bl b=>exact .bl b
 | int i=>exact .int i
 | str h=>exact .str h
 | tup h l=>exact .tup (h.elim (λ⟨a,n⟩=>.inl (hh _ _ a n)) .inr) (qu l f)
 | _=>cases f
theorem qu{vs:List V}{ds:List D}(r:ar K ρ H vs ds)(f:AQ ds=true):ar K ρ' H' vs ds:=by
 cases r with
 | nil=>exact .nil
 | cons h t=>
  have f:=NJ.mp f;exact .cons (Az h f.1) (qu t f.2)
end
end
end Sm
namespace Sb
open PySem L2 PySem.Spec PyProof.Rows
open Builtin.SmallTypes (nextOf ownedTupleIsFree ownedTupleHandOut)
section
variable {P:Program} {w:World} {A:Around} {E:Value->Shared->Prop} {s:Shared} {b c:Bool}
end
section
variable {P:Program} {w:World} {A:Around} {E:Value->Shared->Prop} {s:Shared}
end
end Sb
namespace Sm
open PySem L2 PySem.Spec PyProof.Rows
end Sm
namespace L2
open PySem PySem.Spec PyProof.Rows PySem.W
def mh{α:Type}(n:Nat)(lt:Nat->Nat->Bool)(Q:α->Prop):KasT α->Prop
 | .ret a=>Q a
 | .ask i j k=>i < n/\j < n/\mh n lt Q (k (lt i j))
theorem Bk{α:Type}{n:Nat}{cmp:Nat->Nat->(Bool->Shared->Prop)->Shared->Prop}{lt:Nat->Nat->Bool}{s:Shared}(hc:∀i j C,i < n->j < n->C (lt i j) s->cmp i j C s){Q:α->Shared->Prop}:∀(t:KasT α),mh n lt (λa=>Q a s) t->t.kasWp cmp Q s
 | .ret a,h=>h
 | .ask i j k,h=>hc i j _ h.1 h.2.1 (Bk hc (k (lt i j)) h.2.2)
theorem fQ{α β:Type}{n:Nat}{lt:Nat->Nat->Bool}{Q:β->Prop}{f:α->KasT β}:∀(t:KasT α),mh n lt (λa=>mh n lt Q (f a)) t->mh n lt Q (t.bind f)
 | .ret _,h=>h
 | .ask i j k,h=>⟨h.1,h.2.1,fQ (k (lt i j)) h.2.2⟩
theorem df{α:Type}{n:Nat}{lt:Nat->Nat->Bool}{Q R:α->Prop}(k:∀a,Q a->R a):∀(t:KasT α),mh n lt Q t->mh n lt R t
 | .ret a,h=>k a h
 | .ask i j f,h=>⟨h.1,h.2.1,df k (f (lt i j)) h.2.2⟩
section
variable {n:Nat} {r:Nat->Nat} {p:Array Nat}
def mN(n:Nat)(p:Array Nat):Prop:=p.toList.Perm (List.range n)
abbrev gP(r:Nat->Nat)(p:Array Nat)(i:Nat):Nat:=r (p.getD i 0)
theorem mN.size(o:mN n p):p.size=n:=by
 have:=o.length_eq
 rwa [NK,NO] at this
theorem getD_at{i:Nat}(h:i < p.size):p.getD i 0=p[i]:=by simp[Array.getD,h]
theorem mN.lt(o:mN n p){i:Nat}(h:i < n):p.getD i 0 < n:=by
 have hs:i < p.size:=by rw[o.size];exact h
 rw[getD_at hs];exact NR.mp (o.mem_iff.mp (O4.mpr (Array.getElem_mem hs)))
theorem mN.ne(o:mN n p)(hr:∀i j,i < n->j < n->r i=r j->i=j){i j:Nat}(hi:i < n)(hj:j < n)(e:gP r p i=gP r p j):i=j:=by
 have e1:=hr _ _ (o.lt hi) (o.lt hj) e;have si:i < p.size:=by rw[o.size];exact hi
 have sj:j < p.size:=by rw[o.size];exact hj
 rw[getD_at si,getD_at sj] at e1;have nd:=QH.mp (show p.toList.Nodup from o.nodup_iff.mpr QX);have at_:∀{k:Nat} (h:k < p.size),p.toList[k]'(by rw[NK];exact h)=p[k]:=λh=>S8 _
 rcases Qo i j with q | q | q
 ·exact absurd (by rw[at_ si,at_ sj,e1]) (nd i j (by rw[NK];exact si) (by rw[NK];exact sj) q)
 ·exact q
 ·exact absurd (by rw[at_ si,at_ sj,e1]) (nd j i (by rw[NK];exact sj) (by rw[NK];exact si) q)
theorem mN.perm(o:mN n p){q:Array Nat}(h:q.Perm p):mN n q:=h.toList.trans o
def yE(r:Nat->Nat)(p:Array Nat)(k:Nat):Prop:=∀i j,i < j->j < k->gP r p i < gP r p j
def HA(r:Nat->Nat)(p:Array Nat)(k:Nat):Prop:=∀i j,i < j->j < k->gP r p j < gP r p i
theorem yE.up{k:Nat}(h:yE r p (k+1))(q:gP r p k < gP r p (k+1)):yE r p (k+2):=λi j hij hj=>by
 rcases OW j (k+1) with z | z
 ·exact h i j hij z
 ·obtain rfl:j=k+1:=O8 (NW hj) z;rcases OW i k with y | y
  ·exact OK (h i k y (Pj k)) q
  ·rw[O8 (NW hij) y];exact q
theorem HA.up{k:Nat}(h:HA r p (k+1))(q:gP r p (k+1) < gP r p k):HA r p (k+2):=λi j hij hj=>by
 rcases OW j (k+1) with z | z
 ·exact h i j hij z
 ·obtain rfl:j=k+1:=O8 (NW hj) z;rcases OW i k with y | y
  ·exact OK q (h i k y (Pj k))
  ·rw[O8 (NW hij) y];exact q
abbrev yW(r:Nat->Nat)(i j:Nat):Bool:=decide (r i < r j)
theorem j6{α:Type}{Q:α->Prop}{i j:Nat}{f:Bool->KasT α}(hi:i < n)(hj:j < n)(h1:r i < r j->mh n (yW r) Q (f true))(h2:¬r i < r j->mh n (yW r) Q (f false)):mh n (yW r) Q (.ask i j f):=⟨hi,hj,by
 by_cases c:r i < r j
 ·rw[show yW r i j=true from NC c];exact h1 c
 ·rw[show yW r i j=false from NU c];exact h2 c⟩
variable (hr:∀i j,i < n->j < n->r i=r j->i=j)
include hr
theorem xi(o:mN n p):∀(f k:Nat),k+1+f<=n->yE r p (k+1)->mh n (yW r) (λm=>k+1<=m/\m<=k+1+f/\yE r p m/\(m=k+1+f\/gP r p m < gP r p (m-1))) (kas_asc p f (k+1))
 | 0,k,_,h=>⟨Nh _,Nh _,h,.inl rfl⟩
 | f+1,k,hn,h=>by
  rw[kas_asc.eq_def];have hk:k+1 < n:=by lia
  dsimp only;rw[Ru];refine j6 (o.lt hk) (o.lt (Qp hk)) (λc=>?_) λc=>?_
  ·show mh _ _ _ (if true=true then _ else _);rw[Nj rfl];exact⟨Nh _,NL _ _,h,.inr c⟩
  ·show mh _ _ _ (if false=true then _ else _);rw[Np NZ];have c':gP r p k < gP r p (k+1):=PD (Ob c) λe=>by have:=o.ne hr (Qp hk) hk e;lia
   refine df (λm hm=>?_) _ (xi o f (k+1) (by lia) (h.up c'));obtain⟨a,b,c,d⟩:=hm;exact⟨by lia,by lia,c,d.imp (λz=>by lia) id⟩
theorem yd(o:mN n p):∀(f k:Nat),k+1+f<=n->HA r p (k+1)->mh n (yW r) (λz=>z.1=p/\z.2.2=0/\k+1<=z.2.1/\z.2.1<=k+1+f/\HA r p z.2.1) (kas_desc f p (k+1) 0)
 | 0,k,_,h=>⟨rfl,rfl,Nh _,Nh _,h⟩
 | f+1,k,hn,h=>by
  rw[kas_desc.eq_def];have hk:k+1 < n:=by lia
  dsimp only;rw[Ru];refine j6 (o.lt hk) (o.lt (Qp hk)) (λc=>?_) λc=>?_
  ·show mh _ _ _ (if true=true then _ else _);rw[Nj rfl];rw[Np (OJ 0)];refine df (λm hm=>?_) _ (yd o f (k+1) (by lia) (h.up c));obtain⟨a,b,c,d,e⟩:=hm;exact⟨a,b,by lia,by lia,e⟩
  ·show mh _ _ _ (if false=true then _ else _);rw[Np NZ];have c':gP r p k < gP r p (k+1):=PD (Ob c) λe=>by have:=o.ne hr (Qp hk) hk e;lia
   refine j6 (o.lt (Qp hk)) (o.lt hk) (λ_=>?_) λz=>absurd c' z;show mh _ _ _ (if true=true then _ else _);rw[Nj rfl];exact⟨rfl,rfl,Nh _,by lia,h⟩
omit hr in
theorem F9(o:mN n p){m:Nat}(hm:m<=n)(h:HA r p m):mN n (kas_rev p 0 m)/\yE r (kas_rev p 0 m) m:=by
 have o':mN n (kas_rev p 0 m):=o.perm (mirror_perm _ _ _ _);refine⟨o',λi j hij hj=>?_⟩;have at_:∀k,k < m->(kas_rev p 0 m).getD k 0=p.getD (m-1-k) 0:=λk hk=>by
  have:=getElem?_mirror_all (xs:=p) (i:=0) (j:=m) (by rw[o.size];exact hm) k;rw[Nj ⟨Oo _,hk⟩,Q0] at this;rw[NX,NX];exact congrArg (λz=>z.getD 0) this
 show r _ < r _;rw[at_ i (OK hij hj),at_ j hj];exact h _ _ (by lia) (by lia)
theorem Cf(hn:2<=n)(o:mN n p):mh n (yW r) (λz=>mN n z.2/\1<=z.1/\z.1<=n/\yE r z.2 z.1) (kas_count n p):=by
 unfold kas_count;obtain⟨m,rfl⟩:∃m,n=m+2:=⟨n-2,by lia⟩;refine fQ _ (df (λk hk=>?_) _ (xi hr o (m+1) 0 (by lia) (λi j hij hj=>by lia)));obtain⟨h1,h2,h3,h4⟩:=hk
 by_cases e:k=m+2
 ·rw[Nj (by simpa using e)];exact⟨o,h1,by lia,h3⟩
 ·rw[Np (by simpa using e)];have q:=h4.resolve_left (by lia)
  by_cases c:k > 1
  ·rw[Nj c];refine j6 (o.lt (by lia)) (o.lt (by lia)) (λ_=>?_) λz=>absurd (h3 0 (k-1) (by lia) (by lia)) z;show mh _ _ _ (if true=true then _ else _);rw[Nj rfl];exact⟨o,h1,by lia,h3⟩
  ·rw[Np c];obtain rfl:k=1:=by lia
   unfold kas_descPart;have d2:HA r p (1+1):=λi j hij hj=>by
    obtain rfl:j=1:=by lia
    obtain rfl:i=0:=by lia
    exact q
   refine fQ _ (df (λz hz=>?_) _ (yd hr o (m+2-(1+1)) 1 (by lia) d2));obtain⟨z1,z2,z3⟩:=z;obtain⟨y1,y2,y3,y4,y5⟩:=hz;dsimp only at y1 y2 y3 y4 y5 ⊢;subst y1;subst y2;rw[Np (OJ 0)];unfold kas_tail3;obtain⟨o',s'⟩:=F9 (r:=r) o (m:=z2) (by lia) y5;obtain⟨z,rfl⟩:∃z,z2=z+1:=⟨z2-1,by lia⟩;refine fQ _ (df (λk hk=>?_) _ (xi hr o' (m+2-(z+1)) z (by lia) s'));exact⟨o',by lia,by lia,hk.2.2.1⟩
theorem ox(o:mN n p){k:Nat}(hk:k < n)(h:yE r p k):∀(f a b:Nat),a<=b->b<=k->b-a<=f->(∀i,i < a->gP r p i < gP r p k)->(∀i,b<=i->i < k->gP r p k < gP r p i)->
  mh n (yW r) (λl=>l<=k/\(∀i,i < l->gP r p i < gP r p k)/\(∀i,l<=i->i < k->gP r p k < gP r p i)) (kas_place p k f a b)
 | 0,a,b,h1,h2,h3,h4,h5=>by
  obtain rfl:a=b:=by lia
  exact⟨h2,h4,h5⟩
 | f+1,a,b,h1,h2,h3,h4,h5=>by
  rw[kas_place.eq_def];dsimp only
  by_cases c:a≥b
  ·rw[Nj c];obtain rfl:a=b:=by lia
   exact⟨h2,h4,h5⟩
  ·rw[Np c];have m1:a<=(a+b) / 2:=(SK (by decide)).mpr (by lia);have m2:(a+b) / 2 < b:=(SN (by decide)).mpr (by lia);generalize (a+b) / 2=m at m1 m2;have hm:m < k:=Nq m2 h2;refine j6 (o.lt hk) (o.lt (OK hm hk)) (λd=>?_) λd=>?_
   ·show mh _ _ _ (if true=true then _ else _);rw[Nj rfl];refine ox o hk h f a m m1 (Pw hm) (by lia) h4 λi hi hik=>?_;rcases Qf hi with rfl | hi
    ·exact d
    ·exact OK d (h m i hi hik)
   ·show mh _ _ _ (if false=true then _ else _);rw[Np NZ];have d':gP r p m < gP r p k:=PD (Ob d) λe=>by have:=o.ne hr (OK hm hk) hk e;lia
    refine ox o hk h f (m+1) b m2 h2 (by lia) (λi hi=>?_) h5;rcases Qf (NW hi) with rfl | hi
    ·exact d'
    ·exact OK (h i m hi hm) d'
theorem Cw:∀(f k:Nat) {p:Array Nat},k+f=n->mN n p->yE r p k->mh n (yW r) (λq=>mN n q/\yE r q n) (kas_bin f p k)
 | 0,k,p,e,o,h=>by
  obtain rfl:k=n:=e;exact⟨o,h⟩
 | f+1,k,p,e,o,h=>by
  rw[kas_bin.eq_def];have hk:k < n:=by lia
  refine fQ _ (df (λl hl=>?_) _ (ox hr o hk h k 0 k (Oo _) (Nh _) (Nh _) (λi hi=>absurd hi (O7 _)) (λi h1 h2=>absurd h2 (Qe.mpr h1))));obtain⟨h1,h2,h3⟩:=hl;have at_:∀i,(bubble p k (k-l)).getD i 0=if i=l then p.getD k 0 else if l < i/\i<=k then p.getD (i-1) 0 else p.getD i 0:=λi=>by
   have:=getElem?_bubble (xs:=p) (src:=k) (by rw[o.size];exact hk) (k-l) (Nat.sub_le _ _) i;rw[show k-(k-l)=l by lia] at this;rw[NX,NX,NX,NX,this]
   split
   ·rfl
   ·split <;> rfl
  refine Cw f (k+1) (by lia) (o.perm (bubble_perm _ _ _)) λi j hij hj=>?_;show r _ < r _;rw[at_ i,at_ j]
  by_cases a:i=l
  ·rw[Nj a,Np (by lia),Nj (by lia)];exact h3 (j-1) (by lia) (by lia)
  ·rw[Np a]
   by_cases b:l < i/\i<=k
   ·rw[Nj b,Np (by lia),Nj (by lia)];exact h (i-1) (j-1) (by lia) (by lia)
   ·rw[Np b]
    by_cases c:j=l
    ·rw[Nj c];exact h2 i (by lia)
    ·rw[Np c]
     by_cases d:l < j/\j<=k
     ·rw[Nj d];exact Od (Nh _) (by
       rcases Qf (show i<=j-1 by lia) with z | z
       ·lia
       ·exact h i (j-1) z (by lia))
     ·rw[Np d];exact h i j hij (by lia)
theorem C8(hn:2<=n):mh n (yW r) (λq=>mN n q/\yE r q n) (kas_sort n):=by
 unfold kas_sort;refine fQ _ (df (λz hz=>?_) _ (Cf hr hn (p:=(List.range n).toArray) (List.Perm.refl _)));obtain⟨h1,h2,h3,h4⟩:=hz
 by_cases c:z.1 < n
 ·rw[Nj c,Nat.max_eq_left h2];exact Cw hr _ _ (by lia) h1 h4
 ·rw[Np c];obtain e:z.1=n:=by lia
  rw[e] at h4;exact⟨h1,h4⟩
end
end L2
namespace L2
open PySem PySem.Spec PyProof.Rows
noncomputable def uP(m i:Nat):Nat:=(i*5+1) % m
noncomputable def er(m:Nat):Nat->Nat->Nat
 | 0,i=>i
 | n+1,i=>uP m (er m n i)
noncomputable def iI:Nat->Nat
 | 0=>0
 | n+1=>5*iI n+1
theorem sJ:∀n,5^n=4*iI n+1
 | 0=>rfl
 | n+1=>by
  have:=sJ n;rw[Pt,this];show _=4*(5*iI n+1)+1
  lia
theorem xS(c:Nat):∀d,iI (c+d)=iI c*5^d+iI d
 | 0=>by simp[iI]
 | d+1=>by
  show 5*iI (c+d)+1=iI c*5^(d+1)+(5*iI d+1);rw[xS c d,Pt,Rh,<-Rr (iI c),QC 5 (iI c*5^d),PX]
theorem xK{k x y:Nat}(h:2^k ∣ x*(2*y+1)):2^k ∣ x:=by
 refine Nat.Coprime.dvd_of_dvd_mul_right (Nat.Coprime.pow_left k ?_) h;show Nat.gcd 2 (2*y+1)=1;rw[Nat.gcd_rec];have:(2*y+1) % 2=1:=by lia
 rw[this];decide
theorem xR:∀(k e:Nat),2^k ∣ iI e->2^k ∣ e
 | 0,e,_=>by rw[Nat.pow_zero];exact Nat.one_dvd e
 | k+1,e,h=>by
  have par:∀n,iI n % 2=n % 2:=by
   intro n
   induction n with
   | zero=>rfl
   | succ n ih=>show(5*iI n+1) % 2=_;lia
  have h2:e % 2=0:=by
   rw[<-par e];have:2 ∣ iI e:=Nat.dvd_trans ⟨2^k,by rw[Pt,QC]⟩ h;exact Nat.mod_eq_zero_of_dvd this
  obtain⟨f,rfl⟩:∃f,e=f+f:=⟨e / 2,by lia⟩;rw[xS,sJ] at h;have e1:iI f*(4*iI f+1)+iI f=2*(iI f*(2*iI f+1)):=by
   rw[Rh,Rh,Rh,QJ,QJ (iI f) 2];lia
  rw[e1,Pt,QC] at h;have h3:=Nat.dvd_of_mul_dvd_mul_left (by decide) h;have h4:=xR k f (xK h3);obtain⟨q,rfl⟩:=h4;exact⟨q,by rw[Pt,Rr,QJ,Nat.two_mul]⟩
theorem uO(m:Nat)(hm:0 < m):∀(n i:Nat),er m (n+1) i=(5^(n+1)*i+iI (n+1)) % m
 | 0,i=>by show uP m i=_;unfold uP iI iI;rw[QC]
 | n+1,i=>by
  show uP m (er m (n+1) i)=_;rw[uO m hm n i];unfold uP;rw[Nat.add_mod,Nat.mul_mod,Nat.mod_mod,<-Nat.mul_mod,<-Nat.add_mod];congr 1;show _=5^(n+2)*i+(5*iI (n+1)+1);rw[Pt 5 (n+1),Nat.add_mul,Nat.mul_right_comm,QC 5 (iI (n+1)),PX]
theorem qO(m:Nat)(c:Nat)(i:Nat):∀d,er m (c+d) i=er m d (er m c i)
 | 0=>rfl
 | d+1=>by show uP m (er m (c+d) i)=uP m _;rw[qO m c i d]
theorem uN(m i:Nat)(hm:0 < m)(hi:i < m):∀c,er m c i < m
 | 0=>hi
 | c+1=>Q1 _ hm
theorem y9{k i c d:Nat}(hi:i < 2^k)(hcd:c < d)(hd:d < 2^k)(e:er (2^k) c i=er (2^k) d i):False:=by
 have hm:0 < 2^k:=Qy k;obtain⟨x,rfl⟩:∃x,d=c+(x+1):=⟨d-c-1,by lia⟩;rw[qO] at e;have hy:=uN (2^k) i hm hi c;generalize er (2^k) c i=y at e hy;rw[uO _ hm,sJ] at e;have e1:(4*iI (x+1)+1)*y+iI (x+1)=iI (x+1)*(2*(2*y)+1)+y:=by
  rw[Nat.add_mul,Rh];have:4*iI (x+1)*y=iI (x+1)*(2*(2*y)):=by rw[<-Rr 2 2 y,QJ,Rr]
  lia
 rw[e1] at e;have h2:2^k ∣ iI (x+1)*(2*(2*y)+1):=by
  generalize iI (x+1)*(2*(2*y)+1)=z at e;have:=Nat.div_add_mod (z+y) (2^k);rw[<-e] at this;exact⟨(z+y) / 2^k,by lia⟩
 have h3:=Nat.le_of_dvd (P8 x) (xR k _ (xK h2))
 lia
theorem BC{k i j:Nat}(hi:i < 2^k)(hj:j < 2^k):∃c,c < 2^k/\er (2^k) c i=j:=by
 apply OF;intro z;have nd:((List.range (2^k)).map λc=>er (2^k) c i).Nodup:=by
  refine PZ.mpr (Qa (λ{a b} ha hb hab e=>?_) (Q4 (n:=2^k)));exact y9 hi hab (NR.mp hb) e
 have nd2:(j::(List.range (2^k)).map λc=>er (2^k) c i).Nodup:=PN.mpr ⟨λh=>by
  obtain⟨c,hc,e⟩:=NM.mp h;exact z ⟨c,NR.mp hc,e⟩,nd⟩
 have:=gv _ (List.range (2^k)) nd2 λx hx=>by
  rcases NA.mp hx with rfl | hx
  ·exact NR.mpr hj
  ·obtain⟨c,hc,rfl⟩:=NM.mp hx;exact NR.mpr (uN _ _ (Qy k) hi c)
 simp at this;exact S6 _ this
noncomputable def bI(M:Nat)(b:Nat):Nat->Nat
 | 0=>b % M
 | c+1=>(bI M b c*5+1+b / 32^c / 32) % M
abbrev jz(t:SetTable)(b c:Nat):SetTable.Probe:=
 {j:=bI (t.mask+1) b c,more:=SetTable.runEnd t.mask (bI (t.mask+1) b c)-bI (t.mask+1) b c,i:=bI (t.mask+1) b c,perturb:=b / 32^c,dummy:=none}
theorem nV(t:SetTable)(h:Int):∀(m n:Nat),(road t h n).more=m->
  road t h (n+m+1)={j:=(SetTable.leap t.mask (road t h n).i (road t h n).perturb).1,more:=SetTable.runEnd t.mask (SetTable.leap t.mask (road t h n).i (road t h n).perturb).1-(SetTable.leap t.mask (road t h n).i (road t h n).perturb).1,i:=(SetTable.leap t.mask (road t h n).i (road t h n).perturb).1,perturb:=(SetTable.leap t.mask (road t h n).i (road t h n).perturb).2,dummy:=(road t h n).dummy}/\
  ∀k,k<=m->(road t h (n+k)).j=(road t h n).j+k
 | 0,n,e=>⟨by show t.advance (road t h n)=_;unfold SetTable.advance;rw[Np (by rw[e];exact OJ 0)],λk hk=>by rw[Nat.le_zero.mp hk];rfl⟩
 | m+1,n,e=>by
  have e1:road t h (n+1)={road t h n with j:=(road t h n).j+1,more:=(road t h n).more-1}:=by
   show t.advance (road t h n)=_;unfold SetTable.advance;rw[Nj (by rw[e];exact P8 m)]
  obtain⟨h3,h4⟩:=nV t h m (n+1) (by rw[e1];dsimp only;rw[e];rfl);refine⟨by rw[show n+(m+1)+1=n+1+m+1 by lia,h3,e1],λk hk=>?_⟩;cases k with
  | zero=>rfl
  | succ k=>
   rw[show n+(k+1)=n+1+k by lia,h4 k (by lia),e1];dsimp only
   lia
theorem F5(M i:Nat):SetTable.runEnd M i-i<=9:=by unfold SetTable.runEnd;split <;> lia
theorem qL{t:SetTable}{h:Int}{c n:Nat}(h2:road t h n=jz t (SetTable.bits h) c):road t h (n+(SetTable.runEnd t.mask (bI (t.mask+1) (SetTable.bits h) c)-bI (t.mask+1) (SetTable.bits h) c)+1)=jz t (SetTable.bits h) (c+1):=by
 obtain⟨h4,_⟩:=nV t h _ n rfl;rw[h2] at h4;refine h4.trans ?_;have e1:SetTable.bits h / 32^c / 32=SetTable.bits h / 32^(c+1):=by rw[Q3,Pt]
 have el:bI (t.mask+1) (SetTable.bits h) (c+1)=(bI (t.mask+1) (SetTable.bits h) c*5+1+SetTable.bits h / 32^c / 32) % (t.mask+1):=rfl;unfold SetTable.leap jz;dsimp only;rw[el,e1]
theorem qr(t:SetTable)(h:Int):∀c,∃n,n<=10*c/\road t h n=jz t (SetTable.bits h) c
 | 0=>⟨0,Nh _,by show t.probeStart h=_;unfold SetTable.probeStart jz bI;simp⟩
 | c+1=>by
  obtain⟨n,h1,h2⟩:=qr t h c;have hr:=F5 t.mask (bI (t.mask+1) (SetTable.bits h) c);exact⟨_,by lia,qL h2⟩
theorem qM(M b:Nat)(hb:b < 32^13):∀k,bI M b (13+k)=er M k (bI M b 13)
 | 0=>rfl
 | k+1=>by
  show(bI M b (13+k)*5+1+b / 32^(13+k) / 32) % M=uP M (er M k (bI M b 13));have hz:b / 32^(13+k) / 32=0:=by
   have:b / 32^(13+k)=0:=Nat.div_eq_of_lt (Nq hb (Qx (P8 _) (NL _ _)));rw[this]
  rw[hz,qM M b hb k];rfl
theorem uM{t:SetTable}{k:Nat}(hm:t.mask+1=2^k)(h:Int){j:Nat}(hj:j<=t.mask):∃c,c < t.mask+14/\bI (t.mask+1) (SetTable.bits h) c=j:=by
 have hl:bI (t.mask+1) (SetTable.bits h) 13 < 2^k:=by rw[hm];exact Q1 _ (Qy k)
 obtain⟨c,c1,c2⟩:=BC (k:=k) hl (show j < 2^k by lia);refine⟨13+c,by lia,?_⟩;rw[qM _ _ (EJ h),hm];rw[hm] at c2;exact c2
theorem Ax{t:SetTable}{k:Nat}(hm:t.mask+1=2^k)(h:Int){j:Nat}(hj:j<=t.mask):∃n,n < 10*(t.mask+14)/\(road t h n).j=j:=by
 obtain⟨c,c1,c2⟩:=uM hm h hj;obtain⟨n,n1,n2⟩:=qr t h c;exact⟨n,by lia,by rw[n2];exact c2⟩
theorem yK{t:SetTable}{k:Nat}(hm:t.mask+1=2^k)(h:Int){p:Nat->Prop}(hp:∃j,j<=t.mask/\p j):∃n,n < 10*(t.mask+14)/\p (road t h n).j/\∀i,i < n->¬p (road t h i).j:=by
 obtain⟨j,j1,j2⟩:=hp;obtain⟨n,n1,n2⟩:=Ax hm h j1
 haveI:DecidablePred λi=>p (road t h i).j:=λ_=>Classical.propDecidable _
 obtain⟨m,m1,m2,m3⟩:=BO (p:=λi=>p (road t h i).j) (n:=n) (by rw[n2];exact j2);exact⟨m,Od m1 n1,m2,m3⟩
theorem xB{t:SetTable}(h:Int):∀n,(road t h n).j+(road t h n).more<=t.mask
 | 0=>by
  show(t.probeStart h).j+(t.probeStart h).more<=t.mask;unfold SetTable.probeStart SetTable.runEnd;have:=Q1 (SetTable.bits h) (P8 t.mask);dsimp only
  split <;> lia
 | n+1=>by
  have ih:=xB (t:=t) h n;show(t.advance (road t h n)).j+(t.advance (road t h n)).more<=t.mask;unfold SetTable.advance
  split
  ·dsimp only;lia
  ·unfold SetTable.leap SetTable.runEnd;have:=Q1 ((road t h n).i*5+1+(road t h n).perturb / 32) (P8 t.mask);dsimp only
   split <;> lia
structure lL(es:Array (Int×Value))(t:SetTable):Prop where
 mask:∃k,3<=k/\k<=13/\t.mask+1=2^k
 IH:t.dummies=#[]
 E2:cW t.place
 sz:t.place.size=es.size
 le:es.size*5 < t.mask*3
 reach:∀(i j:Nat)(e:Int×Value),t.place[i]?=some j->es[i]?=some e->∃n,(road t e.1 n).j=j/\∀m,m < n->(road t e.1 m).j∈t.place.toList
theorem rD{k m:Nat}(h:3<=k)(e:m+1=2^k):m % 2=1/\7<=m:=by
 obtain⟨c,rfl⟩:=RM h;rw[Nat.pow_add] at e;have:=Qy c;have e2:(2:Nat)^3=8:=rfl;rw[e2] at e;exact⟨by lia,by lia⟩
theorem lL.fits(T:lL es t):t.fits es.size=true:=by
 unfold SetTable.fits SetTable.fill;have:=T.le;obtain⟨k,k1,k2,k3⟩:=T.mask;rw[T.sz,T.IH];simp
 lia
theorem lL.zl(T:lL es t)(h:Int):∃N,N < 10*(t.mask+14)/\(road t h N).j∉t.place.toList/\∀i,i < N->(road t h i).j∈t.place.toList:=by
 obtain⟨k,k1,k2,k3⟩:=T.mask;have hx:∃j,j<=t.mask/\j∉t.place.toList:=by
  apply OF;intro z;have:=gv (List.range (t.mask+1)) t.place.toList QX λj hj=>by
   apply OF;intro q;exact z ⟨j,NW (NR.mp hj),q⟩
  have hl:=T.le;rw[NO,NK,T.sz] at this
  lia
 obtain⟨n,n1,n2,n3⟩:=yK k3 h hx;exact⟨n,n1,n2,λi hi=>OF (n3 i hi)⟩
theorem lL.odd(T:lL es t):t.gaveWay=false:=by
 obtain⟨k,k1,k2,k3⟩:=T.mask;unfold SetTable.gaveWay;rw[(rD k1 k3).1];rfl
theorem xX{t:SetTable}{h:Int}{o:Array (Option Nat)}:∀(fuel c n:Nat),road t h n=jz t (SetTable.bits h) c->(∃c',c<=c'/\c' < c+fuel/\(o.getD (bI (t.mask+1) (SetTable.bits h) c') (some 0)).isNone=true)->
  ∃N,n<=N/\SetTable.layClean.free t.mask o fuel (bI (t.mask+1) (SetTable.bits h) c) (SetTable.bits h / 32^c)=some (road t h N).j/\(o.getD (road t h N).j (some 0)).isNone=true/\∀m,n<=m->m < N->(o.getD (road t h m).j (some 0)).isNone=false
 | 0,c,n,_,⟨c',h1,h2,_⟩=>absurd h2 (Qe.mpr h1)
 | fuel+1,c,n,e,⟨c',h1,h2,h3⟩=>by
  unfold SetTable.layClean.free;have nx:=qL e;have hj:=(nV t h _ n rfl).2;rw[e] at hj;dsimp only at hj;have hle:bI (t.mask+1) (SetTable.bits h) c<=SetTable.runEnd t.mask (bI (t.mask+1) (SetTable.bits h) c):=by unfold SetTable.runEnd;split <;> lia
  have el:SetTable.leap t.mask (bI (t.mask+1) (SetTable.bits h) c) (SetTable.bits h / 32^c)=(bI (t.mask+1) (SetTable.bits h) (c+1),SetTable.bits h / 32^(c+1)):=by
   show((bI (t.mask+1) (SetTable.bits h) c*5+1+SetTable.bits h / 32^c / 32) % (t.mask+1),SetTable.bits h / 32^c / 32)=_;rw[show SetTable.bits h / 32^c / 32=SetTable.bits h / 32^(c+1) by rw[Q3,Pt]];rw[show bI (t.mask+1) (SetTable.bits h) (c+1)=(bI (t.mask+1) (SetTable.bits h) c*5+1+SetTable.bits h / 32^c / 32) % (t.mask+1) from rfl,show SetTable.bits h / 32^c / 32=SetTable.bits h / 32^(c+1) by rw[Q3,Pt]]
  rw[el];generalize hi:bI (t.mask+1) (SetTable.bits h) c=i at*;cases q:(List.range (SetTable.runEnd t.mask i+1-i)).find? λk=>(o.getD (i+k) (some 0)).isNone with
  | some k=>
   obtain⟨q1,q2,q3⟩:=List.find?_range_eq_some.mp q;have hk:k<=SetTable.runEnd t.mask i-i:=by have:=NR.mp q2;lia
   refine⟨n+k,NL _ _,by dsimp only;rw[hj k hk],by rw[hj k hk];exact q1,λm m1 m2=>?_⟩;obtain⟨d,rfl⟩:=RM m1;rw[hj d (by lia)];have:=q3 d (by lia)
   simpa using this
  | none=>
   have hall:∀d,d<=SetTable.runEnd t.mask i-i->(o.getD (i+d) (some 0)).isNone=false:=λd hd=>by
    exact Qr.mpr (List.find?_eq_none.mp q d (NR.mpr (by lia)))
   have hc:c'≠c:=λz=>by
    subst z;have:=hall 0 (Oo _);rw[hi] at h3;rw[Nat.add_zero,h3] at this;cases this
   obtain⟨N,a1,a2,a3,a4⟩:=xX fuel (c+1) _ nx ⟨c',by lia,by lia,h3⟩;refine⟨N,by lia,a2,a3,λm m1 m2=>?_⟩;rcases OW m (n+(SetTable.runEnd t.mask i-i)+1) with z | z
   ·obtain⟨d,rfl⟩:=RM m1;rw[hj d (by lia)];exact hall d (by lia)
   ·exact a4 m z m2
structure rA(t:SetTable)(hs:Array Int)(i:Nat)(o:Array (Option Nat)):Prop where
 sz:o.size=t.mask+1
 HB:∀(j x:Nat),o[j]?=some (some x)->x < i
 Mk:∀x,x < i->∃n,o[(road t (hs.getD x 0) n).j]?=some (some x)/\∀m,m < n->∃y,o[(road t (hs.getD x 0) m).j]?=some (some y)
 inj:∀(j j' x:Nat),o[j]?=some (some x)->o[j']?=some (some x)->j=j'
theorem kW{o:Array (Option Nat)}{j:Nat}(hj:j < o.size):((o.getD j (some 0)).isNone=false↔∃x,o[j]?=some (some x))/\((o.getD j (some 0)).isNone=true↔o[j]?=some none):=by
 rw[NX,NI hj];cases o[j] <;> simp
theorem rA.step{t:SetTable}{hs:Array Int}{i:Nat}{o:Array (Option Nat)}{k:Nat}(hm:t.mask+1=2^k)(L:rA t hs i o)(hi:i<=t.mask):
  ∃j,SetTable.layClean.free t.mask o (SetTable.turns t.mask) (SetTable.bits (hs.getD i 0) % (t.mask+1)) (SetTable.bits (hs.getD i 0))=some j/\rA t hs (i+1) (o.setIfInBounds j (some i)):=by
 have le_:∀h n,(road t h n).j < o.size:=λh n=>by have:=xB (t:=t) h n;rw[L.sz];lia
 have hx:∃j,j<=t.mask/\(o.getD j (some 0)).isNone=true:=by
  apply OF;intro z;have tk:∀j,j < t.mask+1->∃x,o[j]?=some (some x):=λj hj=>(kW (by rw[L.sz];exact hj)).1.mp (Qr.mpr λy=>z ⟨j,NW hj,y⟩);have nd:((List.range (t.mask+1)).map λj=>(o[j]?.getD none).getD 0).Nodup:=by
   refine PZ.mpr (Qa (λ{a b} ha hb hab e=>?_) (Q4 (n:=t.mask+1)));obtain⟨x,hx⟩:=tk a (NR.mp ha);obtain⟨y,hy⟩:=tk b (NR.mp hb);rw[hx,hy] at e;have e:x=y:=e;subst e;exact absurd (L.inj a b x hx hy) (NB hab)
  have:=gv _ (List.range i) nd λx hx=>by
   obtain⟨j,hj,rfl⟩:=NM.mp hx;obtain⟨y,hy⟩:=tk j (NR.mp hj);rw[hy];exact NR.mpr (L.HB j y hy)
  simp at this
  lia
 obtain⟨j,j1,j2⟩:=hx;obtain⟨c,c1,c2⟩:=uM hm (hs.getD i 0) j1;obtain⟨N,_,n2,n3,n4⟩:=xX (t:=t) (h:=hs.getD i 0) (o:=o) (SetTable.turns t.mask) 0 0 (by show t.probeStart _=_;unfold SetTable.probeStart jz bI;simp) ⟨c,Oo _,by unfold SetTable.turns;lia,by rw[c2];exact j2⟩;rw[Nat.pow_zero,Nat.div_one] at n2;refine⟨_,n2,?_⟩;have fr:=(kW (le_ (hs.getD i 0) N)).2.mp n3;have at_:∀j',(o.setIfInBounds (road t (hs.getD i 0) N).j (some i))[j']?=if(road t (hs.getD i 0) N).j=j' then some (some i) else o[j']?:=λj'=>by
  rw[Array.getElem?_setIfInBounds]
  split
  ·rw[Nj (le_ _ _)]
  ·rfl
 have old:∀{j' x},o[j']?=some (some x)->(o.setIfInBounds (road t (hs.getD i 0) N).j (some i))[j']?=some (some x):=λ{j' x} e=>by
  rw[at_,Np λz=>by rw[<-z,fr] at e;cases e];exact e
 refine⟨by rw[Array.size_setIfInBounds];exact L.sz,λj' x e=>?_,λx hx=>?_,λa b x ea eb=>?_⟩
 ·rw[at_] at e
  split at e
  ·cases e;exact Pj i
  ·exact PY (L.HB j' x e)
 ·rcases OW x i with z | z
  ·obtain⟨n,a1,a2⟩:=L.Mk x z;exact⟨n,old a1,λm hm=>let⟨y,hy⟩:=a2 m hm;⟨y,old hy⟩⟩
  ·have:x=i:=O8 (NW hx) z;subst this;exact⟨N,by rw[at_,Nj rfl],λm hm=>let⟨y,hy⟩:=(kW (le_ _ m)).1.mp (n4 m (Oo _) hm);⟨y,old hy⟩⟩
 ·rw[at_] at ea eb
  split at ea
  ·rename_i ha;cases ea
   split at eb
   ·rename_i hb;exact ha.symm.trans hb
   ·exact absurd (L.HB b i eb) (OJ i)
  ·split at eb
   ·cases eb;exact absurd (L.HB a i ea) (OJ i)
   ·exact L.inj a b x ea eb
theorem D8{t:SetTable}{hs:Array Int}{k:Nat}(hm:t.mask+1=2^k)(hn:hs.size<=t.mask+1):∃o,SetTable.layClean t.mask hs=some o/\rA t hs hs.size o:=by
 have go:∀(l:List Int)(i:Nat)(o:Array (Option Nat)),rA t hs i o->hs.toList.drop i=l->i+l.length=hs.size->
   ∃o',l.foldl (λacc h=>do
    let(owner,k)<-acc;let j<-SetTable.layClean.free t.mask owner (SetTable.turns t.mask) (SetTable.bits h % (t.mask+1)) (SetTable.bits h)
    pure (owner.setIfInBounds j (some k),k+1)) (some (o,i))=some (o',hs.size)/\rA t hs hs.size o':=by
  intro l
  induction l with
  | nil=>intro i o L _ e;rw[Ot,Nat.add_zero] at e;subst e;exact⟨o,rfl,L⟩
  | cons h l ih=>
   intro i o L hd e;rw[NQ] at e;have hi:hs.toList[i]?=some h:=by rw[<-List.head?_drop,hd];rfl
   have hg:hs.getD i 0=h:=by rw[NX,<-Ow,hi];rfl
   obtain⟨j,j1,j2⟩:=L.step hm (by lia);rw[hg] at j1;rw[PQ];show ∃o',l.foldl _ ((SetTable.layClean.free t.mask o (SetTable.turns t.mask) (SetTable.bits h % (t.mask+1)) (SetTable.bits h)).bind λj=>some (o.setIfInBounds j (some i),i+1))=_/\_;rw[j1];exact ih (i+1) _ j2 (by rw[<-List.drop_drop,hd];rfl) (by lia)
 have em:∀(j x:Nat),(Array.replicate (t.mask+1) (none:Option Nat))[j]?=some (some x)->False:=λj x z=>by
  rw[Array.getElem?_replicate] at z
  split at z
  ·cases z
  ·cases z
 obtain⟨o',e,L⟩:=go hs.toList 0 (Array.replicate (t.mask+1) none) ⟨Array.size_replicate,λj x z=>(em j x z).elim,λx z=>absurd z (O7 _),λa b x z=>(em a x z).elim⟩ rfl (by rw[NK,Q0]);refine⟨o',?_,L⟩;unfold SetTable.layClean;rw[<-Array.foldl_toList,e];rfl
theorem xy:∀(fuel k n:Nat),k<=13->13 < k+fuel->n < 2^13->∃k',k<=k'/\k'<=13/\SetTable.sizeAbove.go n fuel (2^k)=2^k'/\n < 2^k'
 | 0,k,n,h1,h2,_=>by lia
 | fuel+1,k,n,h1,h2,h3=>by
  unfold SetTable.sizeAbove.go
  by_cases c:2^k<=n
  ·rw[Nj c];have:k≠13:=λz=>by subst z;lia
   obtain⟨k',a1,a2,a3,a4⟩:=xy fuel (k+1) n (by lia) (by lia) h3;exact⟨k',by lia,a2,by rw[<-Pt];exact a3,a4⟩
  ·rw[Np c];exact⟨k,Nh k,h1,rfl,Nat.lt_of_not_le c⟩
theorem nF{n:Nat}(h:n < 2^13):∃k,3<=k/\k<=13/\SetTable.sizeAbove n=2^k/\n < 2^k:=xy 64 3 n (by decide) (by decide) h
theorem yN{t:SetTable}{es:Array (Int×Value)}{n:Nat}(hn:n < 2^13)(he:4*es.size<=n):∃t' order,t.relaid (es.map (·.1)) n=some (t',order)/\order.toList.Perm (List.range es.size)/\lL (order.filterMap (es[·]?)) t'/\t'.led=t.led:=by
 obtain⟨k,k1,k2,k3,k4⟩:=nF hn;have hm:SetTable.sizeAbove n-1+1=2^k:=by rw[k3];exact Nat.sub_add_cancel (Qy k)
 have hM:n<=SetTable.sizeAbove n-1:=by rw[k3];lia
 have h7:=(rD k1 hm).2;unfold SetTable.relaid SetTable.laid;generalize SetTable.sizeAbove n-1=M at*;obtain⟨o,o1,L⟩:=D8 (t:={t with mask:=M}) (hs:=es.map (·.1)) hm (by rw[R8];show _<=M+1;lia);rw[R8] at L;have o1:SetTable.layClean M (es.map (·.1))=some o:=o1;rw[o1];have osz:o.size=M+1:=L.sz;refine⟨_,_,rfl,?_⟩;have gi:∀j x,(o.getD j none=some x↔o[j]?=some (some x)):=λj x=>by
  rw[NX];cases o[j]? with
  | none=>simp
  | some y=>simp
 have inL:∀j x,(j,x)∈((List.range (M+1)).filterMap λj=>(o.getD j none).map (j,·))↔o[j]?=some (some x):=λj x=>by
  rw[Qg];constructor
  ·rintro⟨j',_,h⟩;obtain⟨y,h1,h2⟩:=N5.mp h;cases h2;exact(gi j x).mp h1
  ·intro h;have hj:j < M+1:=by rw[<-osz];exact(Pm.mp h).1
   exact⟨j,NR.mpr hj,by show(o.getD j none).map (j,·)=_;rw[(gi j x).mpr h];rfl⟩
 have pw:=D6 (λj=>o.getD j none) (List.range (M+1)) Q4;have nd2:(((List.range (M+1)).filterMap λj=>(o.getD j none).map (j,·)).map (·.2)).Nodup:=by
  refine PZ.mpr (Qa (λ{a b} ha hb hab e=>?_) (PZ.mp pw));have h1:=(inL a.1 a.2).mp ha;have h2:=(inL b.1 b.2).mp hb;rw[<-e] at h2;exact NB hab (L.inj _ _ _ h1 h2)
 have perm:(((List.range (M+1)).filterMap λj=>(o.getD j none).map (j,·)).map (·.2)).Perm (List.range es.size):=by
  refine(List.perm_ext_iff_of_nodup nd2 QX).mpr λx=>?_;rw[NM,NR];constructor
  ·rintro⟨⟨j,y⟩,h,rfl⟩;exact L.HB j y ((inL j y).mp h)
  ·intro h;obtain⟨n,a1,_⟩:=L.Mk x h;exact⟨(_,x),(inL _ x).mpr a1,rfl⟩
 generalize ((List.range (M+1)).filterMap λj=>(o.getD j none).map (j,·))=lv at inL pw nd2 perm ⊢;refine⟨perm,?_,rfl⟩;have ef:∀p:Nat,((lv.map (·.2)).toArray.filterMap (es[·]?))[p]?=(lv[p]?).bind λ(q:Nat×Nat)=>es[q.2]?:=by
  have key:∀(l:List (Nat×Nat)),(∀q∈l,q.2 < es.size)->∀p:Nat,((l.map (·.2)).filterMap (es[·]?))[p]?=(l[p]?).bind λ(q:Nat×Nat)=>es[q.2]?:=by
   intro l
   induction l with
   | nil=>intro _ p;rfl
   | cons q l ih=>
    intro hq p;rw[Ny,Ol,NI (hq q Nm)];cases p with
    | zero=>rw[Qj,Qj];exact(NI (hq q Nm)).symm
    | succ p=>rw[OQ,OQ];exact ih (λq h=>hq q (Nl _ h)) p
  intro p;rw[<-key _ (λq hq=>L.HB q.1 q.2 ((inL q.1 q.2).mp hq)) p,<-Ow];simp
 have sz:((lv.map (·.2)).toArray.filterMap (es[·]?)).size=es.size:=by
  have h1:∀l:List Nat,(∀x∈l,x < es.size)->(l.filterMap (es[·]?)).length=l.length:=by
   intro l
   induction l with
   | nil=>intro _;rfl
   | cons x l ih=>
    intro hx;rw[Ol,NI (hx x Nm)];exact congrArg (·+1) (ih λy h=>hx y (Nl _ h))
  have h2:=h1 (lv.map (·.2)) λx hx=>NR.mp (perm.mem_iff.mp hx);rw[perm.length_eq,NO] at h2;rw[<-NK]
  simpa using h2
 refine⟨⟨k,k1,k2,hm⟩,rfl,?_,?_,?_,λi j e hi hE=>?_⟩
 ·exact yL pw
 ·rw[sz];have:=perm.length_eq;rw[Nc,NO] at this
  simpa using this
 ·rw[sz];show es.size*5 < M*3;lia
 ·have hE:_=_:=(ef i).symm.trans hE;have hi:(lv.map (·.1))[i]?=some j:=by simpa using hi
  rw[Nz] at hi;obtain⟨⟨j',x⟩,q1,q2⟩:=N5.mp hi;cases q2;rw[q1] at hE;have hx:=(inL j' x).mp (Ni q1);obtain⟨n,a1,a2⟩:=L.Mk x (L.HB j' x hx);have hE:es[x]?=some e:=hE;have hh:(es.map (·.1)).getD x 0=e.1:=by rw[NX,Array.getElem?_map,hE];rfl
  rw[hh] at a1 a2;have rm:∀n,road {t with mask:=M,place:=(lv.map (·.1)).toArray,dummies:=#[],moves:=t.movedTo M} e.1 n=road {t with mask:=M} e.1 n:=λn=>k5 (by rfl) e.1 n;simp only[rm];refine⟨n,L.inj _ _ _ a1 hx,λm hm'=>?_⟩;obtain⟨y,hy⟩:=a2 m hm';have:=(inL _ y).mpr hy;exact Py (f:=Prod.fst) this
end L2
namespace L2
open PySem PySem.Spec PyProof.Rows PySem.SeqAt
section
variable {P:Program} {w:World} {A:Around} {E:Value->Shared->Prop} {s:Shared}
theorem yI{a b:Addr}{ob:Obj}{es:Array (Int×Value)}{ep:Nat}{t:SetTable}{n:Nat}{ds:List PyData}{dx:PyData}{as:List Addr}{h:Int}{N:Nat}{Q:SetFound->Shared->Prop}
  (hob:s.heap.get? a=some ob) (hdt:ob.data=.set es ep t) (T:lL es t) (L:pK w s.heap n es ds) (hn:n<=8) (hu:A.units+n < cLine) (px:aG n dx=true) (rx:Reads s.heap (.ref b) dx as) (hh:h=cf w n dx)
  (hN:(road t h N).j∉t.place.toList) (hl:∀i,i < N->(road t h i).j∈t.place.toList) (hN21:N < 10*(t.mask+14))
  (hit:dx∈ds->Q (.there none) s) (miss:dx∉ds->Q (.free (road t h N).j false) s):
  ∀(k fuel m:Nat)(stand:Option SetTable.Probe),N-m=k->m<=N->N-m < fuel->stand.getD (t.probeStart h)=road t h m->(∀(c i:Nat)(d:PyData),c < m->t.place[i]?=some (road t h c).j->ds[i]?=some d->d≠dx)->
   wpAny (model P w) A (setSearchFrom a (.ref b) h true fuel stand) Q E s:=by
 intro k
 induction k using Nat.strongRecOn with
 | _ k ih=>
  intro fuel m stand hk hm hf hst hin;obtain⟨fuel,rfl⟩:∃f,fuel=f+1:=⟨fuel-1,by lia⟩;unfold setSearchFrom;refine Nb (ON hob hdt T.fits ?_);dsimp only;have hgw:t.gaveWay=false:=T.odd;rw[hgw];simp only[NH,O0];rw[hst];generalize hha:(λ(i:Nat)=>((es[i]?.map λ(e:Int×Value)=>e.1).getD 0:Int))=hashAt;have hfuel:N-m < 10*SetTable.turns t.mask:=by unfold SetTable.turns;lia
  have hpr:=uw T.E2 T.IH hashAt h hN (10*SetTable.turns t.mask) m hm hfuel hl;have at_:∀i j,t.place[i]?=some j->∃e,es[i]?=some e:=λi j hj=>by
   have:i < es.size:=by rw[<-T.sz];exact(Pm.mp hj).1
   exact⟨es[i],NI this⟩
  have hhe:∀i e,es[i]?=some e->hashAt i=e.1:=λi e he=>by rw[<-hha];simp[he]
  rcases hpr with⟨p1,p2⟩ |⟨c,i,c1,c2,c3,c4,c5,c6⟩
  ·have hp:t.probe hashAt h (road t h m)=some (.empty (road t h N).j none):=p1;subst hha
   erw [hp]
   dsimp only;refine Nf (miss λhmem=>?_);obtain⟨i,hi⟩:=Pn.mp hmem;have his:i < es.size:=by rw[<-L.1];exact(Ng.mp hi).1
   have he:=NI (xs:=es) his;obtain⟨hp1,hr1,hh1,_⟩:=L.2 i _ dx he hi;have hpl:i < t.place.size:=by rw[T.sz];exact his
   have hj:=NI (xs:=t.place) hpl;obtain⟨n0,r1,r2⟩:=T.reach i _ _ hj he;rw[hh1,<-hh] at r1 r2;have hn0:n0 < N:=by
    rcases Qo n0 N with q | q | q
    ·exact q
    ·subst q;exact absurd (by rw[r1];simp) hN
    ·exact absurd (r2 N q) hN
   rcases OW n0 m with q | q
   ·exact hin n0 i dx q (by rw[r1];exact hj) hi rfl
   ·exact p2 n0 i q hn0 (by rw[r1];exact hj) (by rw[hhe i _ he,hh1,hh])
  ·have hp:t.probe hashAt h (road t h m)=some (.candidate (road t h c).j i (road t h (c+1))):=c6;subst hha
   erw [hp]
   dsimp only;obtain⟨⟨h',y⟩,he⟩:=at_ i _ c3
   obtain⟨dy,hdy,py,⟨bs,ry⟩,hhy,⟨ya,hya⟩⟩:=L.at he;dsimp only at ry hhy hya;subst hya;have seen:∀{Q':Bool->Shared->Prop},Q' false s->wpAny (model P w) A (searchCouldBeSeen (.ref b) ((es.filter (·.1==h)).toList.map (·.2))) Q' E s:=λ{Q'} q=>by
    refine Ao hn px rx _ (λy hy=>?_) q;obtain⟨e,he,rfl⟩:=NM.mp hy;have he':e∈es.toList:=by
     have:=O4.mp he;exact O4.mpr (Array.mem_filter.mp this).1
    obtain⟨i,hi,hv⟩:=Ta (O4.mp he');obtain⟨d,_,pd,⟨bs,rd⟩,_,_⟩:=L.at (i:=i) (e:=e) (by rw[NI hi,hv]);exact⟨d,bs,pd,rd⟩
   have go:wpAny (model P w) A (do
     let some (_,y):=es[i]? | unsupported "internal:set-entry"
     let equal<-holding [y] (eqBool y (.ref b));let(es',_,t')<-setState a
     if true&&equal then return .there none
     let some same:=t'.sameMemory t.moves t.mask | unsupported "set.changed-during-lookup:is-the-new-block-at-the-old-address"
     let still<-match (if same then t'.slot (road t h c).j else .empty) with
      | .live i'=>match es'[i']? with
       | some (_,y')=>do pure (if<-isSame y' y then some i' else none)
       | none=>pure none
      | _=>pure none
     match still with
     | none=>rule "set.search.anew";setSearchFrom a (.ref b) h true fuel none
     | some i'=>if equal then return .there (some i') else setSearchFrom a (.ref b) h true fuel (some (road t h (c+1)))) Q E s:=by
    rw[he];dsimp only;refine Nb (OG (BY n hu py px ry rx ?_));refine Nb (ON hob hdt T.fits ?_);dsimp only;cases hq:PyData.eqv dy dx with
    | true=>
     rw[Pe,Nj rfl];refine Nf (hit ?_);rw[<-jZ n py px hq];exact Ni hdy
    | false=>
     rw[Pe,Np NZ];have hsm:t.sameMemory t.moves t.mask=some true:=by unfold SetTable.sameMemory;rw[Nj (by simp)]
     rw[hsm];dsimp only;rw[Nj rfl,qk T.E2 c3];dsimp only;rw[he];dsimp only;refine Nb (wpAny_isSame_ref_self (Nb (Nf ?_)));rw[Nj rfl];dsimp only;rw[Np NZ];refine ih (N-(c+1)) (by lia) fuel (c+1) _ rfl c2 (by lia) rfl λc' i' d' hc' hp' hd'=>?_;have his':i' < es.size:=by rw[<-L.1];exact(Ng.mp hd').1
     have he':=NI (xs:=es) his';obtain⟨pd',_,hh',_⟩:=L.2 i' _ d' he' hd';rcases OW c' m with q | q
     ·exact hin c' i' d' q hp' hd'
     ·rcases OW c' c with q2 | q2
      ·intro z;subst z;exact c5 c' i' q q2 hp' (by rw[hhe i' _ he',hh',hh])
      ·have:c'=c:=by lia
       subst this;have:i'=i:=(fZ T.E2 hp').symm.trans (fZ T.E2 c3);subst this;intro z;rw[hdy] at hd';injection hd' with hd'
       rw[hd',z,PySem.SeqAt.eqv_refl dx (bU n px).1] at hq;cases hq
   cases hled:t.led with
   | true=>
    simp only[OT,NH,O0];exact go
   | false=>
    simp only[Bool.not_false,Ql];refine Nb (seen ?_);simp only[NH,O0];exact go
end
theorem lL.put(T:lL es t)(hle:(es.size+1)*5 < t.mask*3)(hN:(road t h N).j∉t.place.toList)(hl:∀i,i < N->(road t h i).j∈t.place.toList)(ht:t'.mask=t.mask/\t'.dummies=t.dummies/\t'.place=SetTable.insertAt t.place (SetTable.below t.place (road t h N).j) (road t h N).j):
  lL (SetTable.insertAt es (SetTable.below t.place (road t h N).j) (h,x)) t':=by
 obtain⟨t1,t2,t3⟩:=ht;have hb:=(eU t.place (road t h N).j T.E2).1;have hb':SetTable.below t.place (road t h N).j<=es.size:=by rw[<-T.sz];exact hb
 have hs1:(SetTable.insertAt t.place (SetTable.below t.place (road t h N).j) (road t h N).j).size=t.place.size+1:=by
  have:=(P5 t.place (SetTable.below t.place (road t h N).j) (road t h N).j).length_eq
  simpa using this
 have hs2:(SetTable.insertAt es (SetTable.below t.place (road t h N).j) (h,x)).size=es.size+1:=by
  have:=(P5 es (SetTable.below t.place (road t h N).j) (h,x)).length_eq
  simpa using this
 have hr:∀h' n,road t' h' n=road t h' n:=λh' n=>k5 t1 h' n;refine⟨by rw[t1];exact T.mask,t2.trans T.IH,by rw[t3];exact T.E2.ins hN,by rw[t3,hs1,hs2,T.sz],by rw[hs2,t1];exact hle,λi j e hi he=>?_⟩;rw[t3,oN _ _ _ hb] at hi;rw[oN _ _ _ hb'] at he;simp only[hr,t3,Ef hb]
 by_cases i1:i < SetTable.below t.place (road t h N).j
 ·rw[Nj i1] at hi he;obtain⟨n,n1,n2⟩:=T.reach i j e hi he;exact⟨n,n1,λm hm=>.inr (n2 m hm)⟩
 ·rw[Np i1] at hi he
  by_cases i2:i=SetTable.below t.place (road t h N).j
  ·rw[Nj i2] at hi he;injection hi with hi
   injection he with he
   subst hi;subst he;exact⟨N,rfl,λm hm=>.inr (hl m hm)⟩
  ·rw[Np i2] at hi he;obtain⟨n,n1,n2⟩:=T.reach _ j e hi he;exact⟨n,n1,λm hm=>.inr (n2 m hm)⟩
abbrev DK:=Addr×PyData
noncomputable def Lg(w:World)(q:DK):Int×Value:=(cf w 8 q.2,.ref q.1)
def zL(w:World)(h:Heap)(a:Addr)(qs:List DK):Prop:=
 (qs.map (·.2)).Nodup/\∃o es ep t,∃qs':List DK,h.get? a=some o/\o.ExactSet/\o.data=.set es ep t/\lL es t/\es.toList=qs'.map (Lg w)/\qs'.Perm qs/\(t.led=!w.params.followText "set-order")
noncomputable def pF(qs:List DK)(b:Addr)(k:PyData):List DK:=if qs.any (λq=>PyData.eqv q.2 k) then qs else qs++[(b,k)]
def CQ(h:Heap)(qs:List DK):Prop:=∀q∈qs,aG 8 q.2=true/\∃as,Reads h (.ref q.1) q.2 as
theorem Ki{qs:List DK}{k:PyData}(hp:∀q∈qs,aG 8 q.2=true)(pk:aG 8 k=true):qs.any (λq=>PyData.eqv q.2 k)=true↔k∈qs.map (·.2):=by
 rw[RK,NM];constructor
 ·rintro⟨q,hq,e⟩;exact⟨q,hq,jZ 8 (hp q hq) pk e⟩
 ·rintro⟨q,hq,rfl⟩;exact⟨q,hq,PySem.SeqAt.eqv_refl q.2 (bU 8 pk).1⟩
theorem Hz{es:Array (Int×Value)}{qs:List DK}(e:es.toList=qs.map (Lg w))(hr:CQ h qs):pK w h 8 es (qs.map (·.2)):=by
 refine⟨by rw[Nc,<-NK,e,Nc],λi x d hx hd=>?_⟩;rw[<-Ow,e,Nz] at hx;rw[Nz] at hd;cases hq:qs[i]? with
 | none=>rw[hq] at hd;cases hd
 | some q=>
  rw[hq] at hx hd;cases hx;cases hd;have hh:=hr q (Ni hq);exact⟨hh.1,hh.2,rfl,⟨_,rfl⟩⟩
noncomputable def BI(ds:List DK)(p:Nat)(d:DK):List DK:=ds.take p++d::ds.drop p
theorem zg(ds:List DK)(p:Nat)(d:DK):(BI ds p d).Perm (ds++[d]):=by
 unfold BI;have h1:(ds.take p++d::ds.drop p).Perm (d::(ds.take p++ds.drop p)):=List.perm_middle;rw[List.take_append_drop] at h1;exact h1.trans (List.perm_append_singleton d ds).symm
section
variable {P:Program} {w:World} {A:Around} {E:Value->Shared->Prop} {s:Shared} {a:Addr}
theorem AB{ob:Obj}{es:Array (Int×Value)}{ep:Nat}{t:SetTable}{n:Nat}{Q:Unit->Shared->Prop}(hob:s.heap.get? a=some ob)(hex:ob.ExactSet)(hdt:ob.data=.set es ep t)(hf:t.fits es.size=true)(hn:n < 2^13)(he:4*es.size<=n)
  (h:∀h' o' es' t',Heap.SameBut a s.heap h'->h'.get? a=some o'->o'.ExactSet->o'.data=.set es' (ep+1) t'->lL es' t'->es'.toList.Perm es.toList->t'.led=t.led->Q () {s with heap:=h'}):
  wpAny (model P w) A (setRelay a n) Q E s:=by
 unfold setRelay;refine Nb (ON hob hdt hf ?_);dsimp only;obtain⟨k,k1,k2,k3,k4⟩:=nF hn;rw[Np (by
  rw[k3,O9];have:(2:Nat)^k<=2^13:=Qx (by decide) k2;exact Qe.mpr (Nr this (by decide)))]
 obtain⟨t',order,r1,r2,r3,r4⟩:=yN (t:=t) hn he;rw[r1];have hp:(order.filterMap (es[·]?)).toList.Perm es.toList:=by
  have:=r2.filterMap (λi=>es[i]?);rw[show(List.range es.size).filterMap (λi=>es[i]?)=es.toList by
   have:=RI (l:=es.toList)
   simpa using this] at this
  simpa using this
 have hsz:(order.filterMap (es[·]?)).size=es.size:=by rw[<-NK,hp.length_eq,NK]
 refine Nb (m:=if(order.filterMap (es[·]?)).size !=es.size then unsupported "internal:set-table-lost-an-element" >>=λ_=>pure (order.filterMap (es[·]?),t') else pure (order.filterMap (es[·]?),t')) ?_;rw[Np (by rw[hsz];simp)];refine Nf ?_;dsimp only;have hle:es.size < scanBound:=by unfold scanBound;lia
 refine wpAny_storeSet_of hob hdt (h _ {ob with data:=.set (order.filterMap (es[·]?)) (ep+1) t'} _ t' (Qk s.heap a (Obj.putSet _ t')) ?_ hex rfl r3 hp r4) (Q7 (by rw[hsz];exact hle));have:=OP (Obj.putSet (order.filterMap (es[·]?)) t') hob (by rw[Tv _ t' hdt];rfl);rw[Tv _ t' hdt] at this;exact this
theorem oX{b:Addr}{k:PyData}{as:List Addr}{qs:List DK}{Q:Bool->Shared->Prop}(hS:zL w s.heap a qs)(hr:CQ s.heap qs)(hu:A.units+8 < cLine)(pk:aG 8 k=true)(rx:Reads s.heap (.ref b) k as)(hroom:qs.length<=1000)(h:∀r h',Heap.SameBut a s.heap h'->zL w h' a (pF qs b k)->Q r {s with heap:=h'}):wpAny (model P w) A (setAddHashed a (.ref b) (cf w 8 k)) Q E s:=by
 obtain⟨nd,ob,es,ep,t,qs',hob,hex,hdt,T,hes,hperm,hled⟩:=id hS;have L:pK w s.heap 8 es (qs'.map (·.2)):=Hz hes λq hq=>hr q (hperm.mem_iff.mp hq);obtain⟨N,N1,N2,N3⟩:=T.zl (cf w 8 k);have hmem:k∈(qs'.map (·.2))↔k∈qs.map (·.2):=(hperm.map _).mem_iff;have hk:=Ki (qs:=qs) (λq hq=>(hr q hq).1) pk;have hN:N < 100000:=by
  obtain⟨c,c1,c2,c3⟩:=T.mask;have:(2:Nat)^c<=2^13:=Qx (by decide) c2;have e:(2:Nat)^13=8192:=rfl
  lia
 unfold setAddHashed setAddHashedIn;refine OG (Nb (ON hob hdt T.fits ?_));dsimp only;rw[Np (by show ¬(byScan (Value.ref b) es=true);unfold byScan Value.scannable;simp)];refine Nb ?_;unfold setSearch;refine yI hob hdt T L (Nh _) hu pk rx rfl N2 N3 N1 (λhit=>?_) (λmiss=>?_) _ 100000 0 none rfl (Oo _) (by rw[Sv];exact hN) rfl (λc i d hc=>absurd hc (O7 _))
 ·dsimp only;refine Nf ?_;refine h false s.heap (Heap.SameBut.refl a s.heap) ?_;unfold pF;rw[Nj (hk.mpr (hmem.mp hit))];exact hS
 ·dsimp only;have hno:¬k∈qs.map (·.2):=λz=>miss (hmem.mpr z);refine Nb (ON hob hdt T.fits ?_);dsimp only;have hlen:es.size<=1000:=by rw[<-L.1,Nc,hperm.length_eq];exact hroom
  have hdm:(t.put (road t (cf w 8 k) N).j).1.dummies=t.dummies:=by
   unfold SetTable.put;dsimp only;rw[T.IH];rfl
  have hb:=(eU t.place (road t (cf w 8 k) N).j T.E2).1;have hsz1:(SetTable.insertAt t.place (SetTable.below t.place (road t (cf w 8 k) N).j) (road t (cf w 8 k) N).j).size=t.place.size+1:=by
   have:=(P5 t.place (SetTable.below t.place (road t (cf w 8 k) N).j) (road t (cf w 8 k) N).j).length_eq
   simpa using this
  have hsz2:(SetTable.insertAt es (SetTable.below t.place (road t (cf w 8 k) N).j) (cf w 8 k,Value.ref b)).size=es.size+1:=by
   have:=(P5 es (SetTable.below t.place (road t (cf w 8 k) N).j) (cf w 8 k,Value.ref b)).length_eq
   simpa using this
  have hel:(SetTable.insertAt es (SetTable.below t.place (road t (cf w 8 k) N).j) (cf w 8 k,Value.ref b)).toList=(BI qs' (SetTable.below t.place (road t (cf w 8 k) N).j) (b,k)).map (Lg w):=by
   rw[To,hes];unfold BI;rw[Oe,Ny,Rt,QM];rfl
  have nd2:((pF qs b k).map (·.2)).Nodup:=by
   unfold pF;rw[Np λz=>hno (hk.mp z),Oe];refine P0.mpr ⟨nd,by simp,λx hx y hy z=>?_⟩;rw[List.map_singleton,Nw] at hy;subst hy;subst z;exact hno hx
  have pm:(BI qs' (SetTable.below t.place (road t (cf w 8 k) N).j) (b,k)).Perm (pF qs b k):=by
   unfold pF;rw[Np λz=>hno (hk.mp z)];exact(zg _ _ _).trans (hperm.append_right _)
  have fin:∀(t2:SetTable),t2.mask=t.mask->t2.dummies=t.dummies->t2.place=SetTable.insertAt t.place (SetTable.below t.place (road t (cf w 8 k) N).j) (road t (cf w 8 k) N).j->t2.led=t.led->
    wpAny (model P w) A (do
     storeSet a (SetTable.insertAt es (SetTable.below t.place (road t (cf w 8 k) N).j) (cf w 8 k,.ref b)) t2
     if(!false&&t2.tooFull)=true then do
      setRelay a (SetTable.grown (es.size+1))
      pure true
     else pure true) Q E s:=λt2 m1 m2 m3 m4=>by
   refine Nb (wpAny_storeSet_of hob hdt ?_ (Q7 (by rw[hsz2];unfold scanBound;lia)));have hget:=OP (Obj.putSet (SetTable.insertAt es (SetTable.below t.place (road t (cf w 8 k) N).j) (cf w 8 k,.ref b)) t2) hob (by rw[Tv _ t2 hdt];rfl);rw[Tv _ t2 hdt] at hget;have htf:t2.tooFull=decide ((es.size+1)*5≥t.mask*3):=by
    unfold SetTable.tooFull SetTable.fill;rw[m1,m2,m3,T.IH,hsz1,T.sz];rfl
   by_cases full:(es.size+1)*5≥t.mask*3
   ·rw[htf,NC full,Nj (show(!false&&true)=true from rfl)];have hT:=T.le;obtain⟨c,c1,c2,c3⟩:=T.mask;have h7:=(rD c1 c3).2;refine Nb (AB (s:={s with heap:=_}) hget hex rfl ?_ ?_ ?_ λh' o' es' t' a1 a2 a3 a4 a5 a6 a7=>?_)
    ·unfold SetTable.fits SetTable.fill;rw[m1,m2,m3,T.IH,hsz1,hsz2,T.sz];simp
     lia
    ·unfold SetTable.grown;rw[Np (by lia)];have e:(2:Nat)^13=8192:=rfl
     lia
    ·unfold SetTable.grown;rw[Np (by lia),hsz2]
     lia
    ·refine Nf (h true h' ((Qk s.heap a _).trans a1) ?_);rw[hel] at a6;obtain⟨qs2,q1,q2⟩:=uy (f:=Lg w) a6 rfl;exact⟨nd2,o',es',_,t',qs2,a2,a3,a4,a5,q2,q1.trans pm,a7.trans (m4.trans hled)⟩
   ·rw[htf,NU full,Pl,Np NZ];refine Nf (h true _ (Qk s.heap a (Obj.putSet _ t2)) ?_);exact⟨nd2,_,_,_,_,_,hget,hex,rfl,T.put (Nat.lt_of_not_le full) (x:=.ref b) N2 N3 ⟨m1,m2,m3⟩,hel,pm,m4.trans hled⟩
  cases hpn:(t.put (road t (cf w 8 k) N).j).1.plain with
  | true=>
   rw[Nj rfl];refine Nb (zk 8 pk rx (λbv=>?_) 8);cases bv with
   | true=>exact fin _ rfl hdm rfl rfl
   | false=>exact fin _ rfl hdm rfl rfl
  | false=>
   rw[Np NZ];refine Nb (Nf ?_);exact fin _ rfl hdm rfl rfl
end
noncomputable def fR(lt:PyData->PyData->Bool):List PyData->List PyData->Bool
 | [],[]=>false
 | [],_::_=>true
 | _::_,[]=>false
 | x::xs,y::ys=>if PyData.eqv x y=true then fR lt xs ys else lt x y
noncomputable def fD:Nat->PyData->PyData->Bool
 | _,.int i,.int j=>decide (i < j)
 | _,.int _,.str _=>true
 | _,.int _,.tuple _=>true
 | _,.str a,.str b=>decide (a.cps.toList < b.cps.toList)
 | _,.str _,.tuple _=>true
 | n+1,.tuple xs,.tuple ys=>fR (fD n) xs ys
 | _,_,_=>false
noncomputable def jw:Nat->PyData->PyData->Bool
 | _,.int _,.int _=>true
 | _,.str _,.str _=>true
 | n+1,.tuple xs,.tuple ys=>(xs.zip ys).all λp=>jw n p.1 p.2
 | _,_,_=>false
theorem hY{n:Nat}{d e:PyData}(pd:aG n d=true)(pe:aG n e=true):PyData.eqv d e=true↔d=e:=
 ⟨jZ n pd pe,λz=>by subst z;exact PySem.SeqAt.eqv_refl d (bU n pd).1⟩
theorem xP{n:Nat}{lt:PyData->PyData->Bool}:∀(xs:List PyData),xs.all (aG n)=true->fR lt xs xs=false
 | [],_=>rfl
 | x::xs,h=>by
  rw[N9,Nn] at h;rw[fR,Nj ((hY h.1 h.1).mpr rfl)];exact xP xs h.2
theorem mY:∀(n:Nat)(d:PyData),aG n d=true->fD n d d=false
 | n,.int i,_=>by cases n <;> exact NU (Int.lt_irrefl i)
 | n,.str a,_=>by cases n <;> exact NU (List.lt_irrefl _)
 | 0,.tuple xs,h=>by cases h
 | n+1,.tuple xs,h=>xP (n:=n) xs h
 | n,.none,h=>by cases n <;> cases h
 | n,.bool _,h=>by cases n <;> cases h
 | n,.list _,h=>by cases n <;> cases h
 | n,.dict _,h=>by cases n <;> cases h
theorem tX(a b:Str)(h:a≠b):decide (a.cps.toList < b.cps.toList)=true\/decide (b.cps.toList < a.cps.toList)=true:=by
 by_cases h1:a.cps.toList < b.cps.toList
 ·exact .inl (NC h1)
 by_cases h2:b.cps.toList < a.cps.toList
 ·exact .inr (NC h2)
 exact absurd (vK (List.le_antisymm (List.not_lt.mp h2) (List.not_lt.mp h1))) h
theorem xN:∀(n:Nat)(d e:PyData),aG n d=true->aG n e=true->d≠e->fD n d e=true\/fD n e d=true:=by
 intro n
 induction n with
 | zero=>
  intro d e hd he hne;cases d <;> cases e <;> first |(simp[aG] at hd he;done) | exact .inl rfl | exact .inr rfl | skip
  ·rename_i i j;rcases TH i j with q | q | q
   ·exact .inl (NC q)
   ·exact absurd (by rw[q]) hne
   ·exact .inr (NC q)
  ·rename_i a b;exact tX a b λz=>hne (by rw[z])
 | succ n ih=>
  have hl:∀(xs ys:List PyData),xs.all (aG n)=true->ys.all (aG n)=true->xs≠ys->fR (fD n) xs ys=true\/fR (fD n) ys xs=true:=by
   intro xs
   induction xs with
   | nil=>intro ys _ _ h;cases ys with | nil=>exact absurd rfl h | cons=>exact .inl rfl
   | cons x xs ihx=>
    intro ys h1 h2 h;cases ys with
    | nil=>exact .inr rfl
    | cons y ys=>
     rw[N9,Nn] at h1 h2
     by_cases q:x=y
     ·subst q;rw[fR,Nj ((hY h1.1 h1.1).mpr rfl),fR,Nj ((hY h1.1 h1.1).mpr rfl)];exact ihx ys h1.2 h2.2 λz=>h (by rw[z])
     ·rw[fR,Np (λz=>q ((hY h1.1 h2.1).mp z)),fR,Np (λz=>q ((hY h2.1 h1.1).mp z).symm)];exact ih x y h1.1 h2.1 q
  intro d e hd he hne;cases d <;> cases e <;> first |(simp[aG] at hd he;done) | exact .inl rfl | exact .inr rfl | skip
  ·rename_i i j;rcases TH i j with q | q | q
   ·exact .inl (NC q)
   ·exact absurd (by rw[q]) hne
   ·exact .inr (NC q)
  ·rename_i a b;exact tX a b λz=>hne (by rw[z])
  ·rename_i xs ys;exact hl xs ys hd he λz=>hne (by rw[z])
theorem ly:∀(n:Nat)(d e f:PyData),aG n d=true->aG n e=true->aG n f=true->fD n d e=true->fD n e f=true->fD n d f=true:=by
 intro n
 induction n with
 | zero=>
  intro d e f hd he hf h1 h2;cases d <;> cases e <;> first |(simp[aG] at hd he;done) |(cases h1;done) | skip
  all_goals cases f <;> first |(simp[aG] at hf;done) |(cases h2;done) | rfl | skip
  ·exact NC (RF (NV h1) (NV h2))
  ·exact NC (List.lt_trans (NV h1) (NV h2))
 | succ n ih=>
  have hl:∀(xs ys zs:List PyData),xs.all (aG n)=true->ys.all (aG n)=true->zs.all (aG n)=true->fR (fD n) xs ys=true->fR (fD n) ys zs=true->fR (fD n) xs zs=true:=by
   intro xs
   induction xs with
   | nil=>
    intro ys zs _ _ _ h1 h2;cases zs with
    | nil=>cases ys with | nil=>cases h1 | cons=>cases h2
    | cons=>rfl
   | cons x xs ihx=>
    intro ys zs p1 p2 p3 h1 h2;cases ys with
    | nil=>cases h1
    | cons y ys=>
     cases zs with
     | nil=>cases h2
     | cons z zs=>
      rw[N9,Nn] at p1 p2 p3;have e1:=hY p1.1 p2.1;have e2:=hY p2.1 p3.1;have e3:=hY p1.1 p3.1;rw[fR] at h1 h2 ⊢
      by_cases q1:x=y
      ·subst q1;rw[Nj (e1.mpr rfl)] at h1
       by_cases q2:x=z
       ·subst q2;rw[Nj (e2.mpr rfl)] at h2 ⊢;exact ihx ys zs p1.2 p2.2 p3.2 h1 h2
       ·rw[Np λz=>q2 (e2.mp z)] at h2 ⊢;exact h2
      ·rw[Np λz=>q1 (e1.mp z)] at h1
       by_cases q2:y=z
       ·subst q2;rw[Np λz=>q1 (e3.mp z)];exact h1
       ·rw[Np λz=>q2 (e2.mp z)] at h2;have h3:=ih x y z p1.1 p2.1 p3.1 h1 h2;rw[Np λw=>by
         have:=e3.mp w;subst this;rw[mY n x p1.1] at h3;cases h3]
        exact h3
  intro d e f hd he hf h1 h2;cases d <;> cases e <;> first |(simp[aG] at hd he;done) |(cases h1;done) | skip
  all_goals cases f <;> first |(simp[aG] at hf;done) |(cases h2;done) | rfl | skip
  ·exact NC (RF (NV h1) (NV h2))
  ·exact NC (List.lt_trans (NV h1) (NV h2))
  ·rename_i xs ys zs;exact hl xs ys zs hd he hf h1 h2
def K4(A:Around)(s:Shared)(y x:Value)(b:Bool):Prop:=
 ∀(prog:Program)(w:World)(E:Value->Shared->Prop)(Q:Value->Shared->Prop),Q (.bool b) s->wpAny (model prog w) A (richCompare .Lt y x) Q E s
inductive tL(A:Around)(s:Shared):List Value->List Value->Bool->Prop where
 | nil:tL A s [] [] false
 | lo:tL A s [] (v::vs) true
 | hi:tL A s (v::vs) [] false
 | eq:EqAt A s x y true->tL A s vs ws b->tL A s (x::vs) (y::ws) b
 | lt:EqAt A s x y false->K4 A s x y b->tL A s (x::vs) (y::ws) b
end L2
namespace HT
open PySem PyProof.Rows L2
section
open PySem.SeqAt
open PySem.AutoSeq1 (wpAny_loadPart')
open PySem.MeetsSeq PySem.MeetsSeq2 PySem.MeetsSeq3
theorem rG(l b:Addr)(items items2:Array Value)(n n2:Nat)(dd dd2:Option Addr)(sl sl2:Array (Option Value))(c:Bool):
  Meets (Builtin.«tuple.__lt__» ⟨[.ref l,.ref b],[]⟩)
   (λA R s=>s.heap.get? l=some {cls:=.type "tuple",dict:=dd,data:=.seq items n,slots:=sl}/\s.heap.get? b=some {cls:=.type "tuple",dict:=dd2,data:=.seq items2 n2,slots:=sl2}/\
    tL A.in1 s items.toList items2.toList c/\R (.ok (.ret (.bool c))) s):=
 .of_wp λprog w A R s h=>by
  obtain⟨hp,g,d,tk,os⟩:=s;obtain⟨hl,hb,hx,h⟩:=h;have f2:=AutoSeq1.sub_tuple_tuple
  wp_walk using wpAny_loadPart' hl,wpAny_loadPart' hb,Qb _ (λrest b s'=>b.1=none/\s'=⟨hp,g,d,tk,os⟩/\∃(vs ws:List Value),rest=vs.zip ws/\
   tL A.in1 ⟨hp,g,d,tk,os⟩ vs ws c/\vs.length+items2.size=ws.length+items.size) _
  case turn=>
   rintro⟨y,x⟩ rest b s' ⟨hb',rfl,vs,ws,hz,hx,hlen⟩;cases hx with
   | nil=>cases hz
   | lo=>cases hz
   | hi=>cases hz
   | eq he hx'=>
    rw[Ou] at hz;injection hz with hyx hrest
    injection hyx with hy hx
    subst hy hx;refine Nb (he prog w _ _ ?_)
    wp_walk
    exact⟨rfl,rfl,_,_,hrest,hx',by simp only[NQ] at hlen;lia⟩
   | lt he hlt=>
    rw[Ou] at hz;injection hz with hyx hrest
    injection hyx with hy hx
    subst hy hx;refine Nb (he prog w _ _ ?_);have hri:=hlt prog w
    wp_walk using hri
    exact⟨_,rfl,by simpa using h⟩
  case fin=>
   rintro⟨b1,b2⟩ s' ⟨hb',rfl,vs,ws,hz,hx,hlen⟩;simp only at hb';subst hb';have hv:c=decide (items.size < items2.size):=by
    cases hx with
    | nil=>simp only[Ot] at hlen;exact(NU (by lia)).symm
    | lo=>simp only[Ot,NQ] at hlen;exact(NC (by lia)).symm
    | hi=>simp only[Ot,NQ] at hlen;exact(NU (by lia)).symm
    | eq=>rw[Ou] at hz;cases hz
    | lt=>rw[Ou] at hz;cases hz
   rw[hv] at h
   wp_walk
   exact⟨_,rfl,by simpa [Builtin.Tuple.tupleCompareSizes] using h⟩
  case h=>
   exact⟨rfl,rfl,items.toList,items2.toList,rfl,hx,by simp;lia⟩
end
end HT
namespace L2
open PySem PySem.Spec PyProof.Rows PySem.SeqAt
section
variable {s:Shared}
theorem uI:∀(n:Nat) {A:Around} {d e:PyData} {u v:Value} {as bs:List Addr},A.units+2*n < cLine->aG n d=true->aG n e=true->jw n d e=true->Reads s.heap u d as->Reads s.heap v e bs->K4 A s u v (fD n d e):=by
 intro n
 induction n with
 | zero=>
  intro A d e u v as bs hu pd pe hc rd re;cases rd <;> first |(simp[aG] at pd;done) | skip
  all_goals cases re <;> first |(simp[aG] at pe;done) |(simp[jw] at hc;done) | skip
  ·exactλprog w E Q h=>lt_int h
  ·exactλprog w E Q h=>lt_str h
 | succ n ih=>
  intro A d e u v as bs hu pd pe hc rd re
  by_cases tp:∃xs,d=.tuple xs
  case neg=>
   cases rd <;> first |(simp[aG] at pd;done) |(exact absurd ⟨_,rfl⟩ tp) | skip
   all_goals cases re <;> first |(simp[aG] at pe;done) |(simp[jw] at hc;done) | skip
   ·exactλprog w E Q h=>lt_int h
   ·exactλprog w E Q h=>lt_str h
  case pos=>
   obtain⟨xs,rfl⟩:=tp;obtain⟨ys,rfl⟩:∃ys,e=.tuple ys:=by cases e <;> first | exact⟨_,rfl⟩ |(simp[jw] at hc;done)
   have inv:∀{zs:List PyData} {u:Value} {as:List Addr},Reads s.heap u (.tuple zs) as->∃(a:Addr)(dd:Option Addr)(vs:Array Value)(m:Nat)(sl:Array (Option Value)) (bs:List Addr),u=.ref a/\s.heap.get? a=some {cls:=.type "tuple",dict:=dd,data:=.seq vs m,slots:=sl}/\ReadsAll s.heap vs.toList zs bs:=by
    intro zs u as r;cases r with
    | @tuple a o vs m _ _ ho hc hd hall=>
     obtain⟨cls,dd,data,sl⟩:=o;simp only at hc hd;subst hc hd;exact⟨a,dd,_,m,sl,_,rfl,ho,hall⟩
   obtain⟨a,dd,vs,m,sl,as,rfl,h1,h4⟩:=inv rd;obtain⟨a',dd2,vs',m',sl2,bs,rfl,g1,g4⟩:=inv re;have key:∀(xs ys:List PyData) {vs ws:List Value} {as bs:List Addr},xs.all (aG n)=true->ys.all (aG n)=true->((xs.zip ys).all λp=>jw n p.1 p.2)=true->ReadsAll s.heap vs xs as->ReadsAll s.heap ws ys bs->tL A.in1 s vs ws (fR (fD n) xs ys):=by
    intro xs
    induction xs with
    | nil=>
     intro ys vs ws as bs _ _ _ ra rb;cases ra;cases rb with
     | nil=>exact .nil
     | cons=>exact .lo
    | cons x xs ihx=>
     intro ys vs ws as bs p1 p2 pc ra rb;cases ys with
     | nil=>
      cases ra;cases rb;exact .hi
     | cons y ys=>
      cases ra with
      | cons r1 ra=>
      cases rb with
      | cons q1 rb=>
       rw[N9,Nn] at p1 p2;rw[Ou,N9,Nn] at pc;have e:EqAt A.in1 s _ _ (PyData.eqv x y):=eqAt_reads x y A.in1 s _ _ _ _ r1 q1 (bU n p1.1).1 (bU n p2.1).1 (by
        have:=(bU n p1.1).2;rw[Qd]
        lia)
       rw[fR];cases c:PyData.eqv x y with
       | true=>
        rw[c] at e;rw[Nj rfl];exact .eq e (ihx ys p1.2 p2.2 pc.2 ra rb)
       | false=>
        rw[c] at e;rw[Np NZ];exact .lt e (ih (by rw[Qd];lia) p1.1 p2.1 pc.1 r1 q1)
   exactλprog w E Q h=>richCompare_meets_room (op:=.Lt) ⟨_,h1,rfl⟩ ⟨_,g1,rfl⟩ PySem.F.slot_tuple_lt PySem.F.entry_tuple_lt (PySem.F.args_tuple_lt_2 _ _) (HT.rG a a' _ _ _ _ dd dd2 sl sl2 _)
    ⟨h1,g1,key xs ys pd pe hc h4 g4,(λx=>nomatch x),h⟩ (by lia)
end
end L2
namespace L2
open PySem PySem.Spec PyProof.Rows PySem.SeqAt PySem.W
theorem qE{α:Type}{n:Nat}{lt lt':Nat->Nat->Bool}{Q:α->Prop}(e:∀i j,i < n->j < n->lt i j=lt' i j):∀(t:KasT α),mh n lt Q t->mh n lt' Q t
 | .ret a,h=>h
 | .ask i j f,h=>⟨h.1,h.2.1,by rw[<-e i j h.1 h.2.1];exact qE e _ h.2.2⟩
theorem Cg{p q:Nat->Bool}:∀{l:List Nat},(∀x∈l,p x=true->q x=true)->(∃y∈l,q y=true/\p y=false)->l.countP p < l.countP q
 | [],_,⟨_,h,_⟩=>(nomatch h)
 | x::l,h,⟨y,hy,h1,h2⟩=>by
  have le:l.countP p<=l.countP q:=List.countP_mono_left λz hz=>h z (Nl _ hz);rw[List.countP_cons,List.countP_cons];rcases NA.mp hy with rfl | hy
  ·rw[h1,h2,Nj rfl,Np NZ];exact TC le
  ·have:=Cg (λz hz=>h z (Nl _ hz)) ⟨y,hy,h1,h2⟩
   by_cases c:p x=true
   ·rw[Nj c,Nj (h x Nm c)];exact Nat.succ_lt_succ this
   ·rw[Np c];exact Nq this (NL _ _)
theorem Jw{n:Nat}{lt:Nat->Nat->Bool}(Mc:∀i,i < n->lt i i=false)(Lb:∀i j,i < n->j < n->i≠j->lt i j=true\/lt j i=true)(tr:∀i j k,i < n->j < n->k < n->lt i j=true->lt j k=true->lt i k=true):
  ∃r:Nat->Nat,(∀i j,i < n->j < n->r i=r j->i=j)/\∀i j,i < n->j < n->yW r i j=lt i j:=by
 have up:∀i j,i < n->j < n->lt i j=true->(List.range n).countP (lt · i) < (List.range n).countP (lt · j):=λi j hi hj h=>
  Cg (λx hx e=>tr x i j (NR.mp hx) hi hj e h) ⟨i,NR.mpr hi,h,Mc i hi⟩
 refine⟨λi=>(List.range n).countP (lt · i),λi j hi hj e=>?_,λi j hi hj=>?_⟩
 ·apply OF;intro ne;rcases Lb i j hi hj ne with q | q
  ·exact absurd e (NB (up i j hi hj q))
  ·exact absurd e (Pu (up j i hj hi q))
 ·cases c:lt i j with
  | true=>exact NC (up i j hi hj c)
  | false=>
   refine NU λz=>?_
   by_cases ne:i=j
   ·subst ne;exact OJ _ z
   ·rcases Lb i j hi hj ne with q | q
    ·rw[c] at q;cases q
    ·exact Nat.lt_asymm z (up j i hj hi q)
noncomputable def iS:PyData->Nat
 | .tuple (.str _::_)=>1
 | .tuple (.int _::_)=>2
 | .tuple (.tuple _::_)=>3
 | _=>0
section
variable {P:Program} {w:World} {A:Around} {E:Value->Shared->Prop} {s:Shared}
theorem BA{n:Nat}{b fin:Bool}{Q:Bool->Shared->Prop}(hu:A.units+2*n < cLine):∀(xs ys:List PyData) {vs ws:List Value} {as bs:List Addr} (i:Nat),(b&&i==0)=false->xs.all (aG n)=true->ys.all (aG n)=true->((xs.zip ys).all λp=>jw n p.1 p.2)=true->ReadsAll s.heap vs xs as->ReadsAll s.heap ws ys bs->
  fin=decide (vs.length < ws.length)->Q (fR (fD n) xs ys) s->KatLex P w A b fin Q (vs.zip ws) i s:=by
 intro xs
 induction xs with
 | nil=>
  intro ys vs ws as bs i _ _ _ _ ra rb e q;cases ra;rw[List.zip_nil_left];refine kat_nil ?_;rw[e];cases rb with
  | nil=>exact q
  | cons=>exact q
 | cons x xs ih=>
  intro ys vs ws as bs i hi p1 p2 pc ra rb e q;cases ys with
  | nil=>
   cases rb;rw[List.zip_nil_right];refine kat_nil ?_;rw[e,show decide (vs.length < ([]:List Value).length)=false from NU (O7 _)];exact q
  | cons y ys=>
   cases ra with
   | cons r1 ra=>
   cases rb with
   | cons q1 rb=>
    rw[N9,Nn] at p1 p2;rw[Ou,N9,Nn] at pc;rw[Ou];rw[fR] at q;refine kat_cons (eqAt_reads x y A s _ _ _ _ r1 q1 (bU n p1.1).1 (bU n p2.1).1 (by have:=(bU n p1.1).2;lia) P w _ _ ?_);cases c:PyData.eqv x y with
    | true=>
     rw[c,Nj rfl] at q;exact kat_yes (ih ys (i+1) (by rw[show(i+1==0)=false from rfl,Pl]) p1.2 p2.2 pc.2 ra rb (by rw[e];simp) q)
    | false=>
     rw[c,Np NZ] at q;refine kat_no ?_;rw[hi];exact kat_one _ _ (uI n hu p1.1 p2.1 pc.1 r1 q1 P w _ _ q)
theorem rH{h:Heap}{zs:List PyData}{u:Value}{as:List Addr}(r:Reads h u (.tuple zs) as):∃(a:Addr)(o:Obj)(vs:Array Value)(m:Nat)(bs:List Addr),u=.ref a/\h.get? a=some o/\o.cls=.type "tuple"/\o.data=.seq vs m/\ReadsAll h vs.toList zs bs:=by
 cases r with
 | @tuple a o vs m _ _ ho hc hd hall=>exact⟨a,o,_,m,_,rfl,ho,hc,hd,hall⟩
theorem yX{x y:Value}{d e:PyData}{as bs:List Addr}{k:Nat}{Q:Bool->Shared->Prop}(hu:A.units+16 < cLine)(pd:aG 8 d=true)(pe:aG 8 e=true)(kd:iS d=k)(ke:iS e=k)(k0:k≠0)(hc:jw 8 d e=true)(rd:Reads s.heap x d as)(re:Reads s.heap y e bs)(h:Q (fD 8 d e) s):
  wpAny (model P w) A (keyLt' (tuples' (k !=3)) x y) Q E s:=by
 obtain⟨xs,rfl⟩:∃xs,d=.tuple xs:=by cases d <;> first | exact⟨_,rfl⟩ |(exact absurd kd.symm k0)
 obtain⟨ys,rfl⟩:∃ys,e=.tuple ys:=by cases e <;> first | exact⟨_,rfl⟩ |(exact absurd ke.symm k0)
 obtain⟨a,o,vs,m,as,rfl,h1,_,h3,h4⟩:=rH rd;obtain⟨a',o',ws,m',bs,rfl,g1,_,g3,g4⟩:=rH re;have hc:((xs.zip ys).all λp=>jw 7 p.1 p.2)=true:=hc;have pd:xs.all (aG 7)=true:=pd;have pe:ys.all (aG 7)=true:=pe;have h:Q (fR (fD 7) xs ys) s:=h;refine kat_lt h1 h3 g1 g3 ?_;have hz:decide (vs.size < ws.size)=decide (vs.toList.length < ws.toList.length):=by rw[NK,NK]
 rw[hz]
 by_cases k3:k=3
 ·subst k3;exact BA (n:=7) (by lia) xs ys 0 rfl pd pe hc h4 g4 rfl h
 ·rw[show(k !=3)=true by simpa using k3];generalize vs.toList=vl at h4 ⊢;generalize ws.toList=wl at g4 ⊢;cases xs with
  | nil=>exact absurd kd.symm k0
  | cons x xs=>
  cases ys with
  | nil=>exact absurd ke.symm k0
  | cons y ys=>
   cases h4 with
   | cons r1 ra=>
   cases g4 with
   | cons q1 rb=>
    rw[N9,Nn] at pd pe;rw[Ou,N9,Nn] at hc;rw[Ou];rw[fR] at h;refine kat_cons (eqAt_reads x y A s _ _ _ _ r1 q1 (bU 7 pd.1).1 (bU 7 pe.1).1 (by have:=(bU 7 pd.1).2;lia) P w _ _ ?_);cases c:PyData.eqv x y with
    | true=>
     rw[c,Nj rfl] at h;exact kat_yes (BA (n:=7) (by lia) xs ys 1 rfl pd.2 pe.2 hc.2 ra rb (by simp) h)
    | false=>
     rw[c,Np NZ] at h;refine kat_no ?_;cases r1 <;> first |(exact absurd kd.symm k0) |(exact absurd kd.symm k3) | skip
     all_goals cases q1 <;> first |(exact absurd ke.symm k0) |(exact absurd ke.symm k3) |(simp[jw] at hc;done) | skip
     ·exact kat_lt_int h
     ·exact kas_lt_str h
noncomputable def zO(ds:List PyData):Bool:=ds.all (λd=>aG 8 d&&ds.all λe=>jw 8 d e&&iS d !=0&&iS d==iS e)
theorem dW{ds:List PyData}{d e:PyData}(h:zO ds=true)(hd:d∈ds)(he:e∈ds):aG 8 d=true/\jw 8 d e=true/\iS d≠0/\iS d=iS e:=by
 unfold zO at h;have:=NS.mp h d hd;rw[Nn] at this;have h2:=NS.mp this.2 e he;simp only[Nn,RU,OV] at h2;exact⟨this.1,h2.1.1,h2.1.2,h2.2⟩
theorem um{h h':Heap}(hk:∀b o vs m,h.get? b=some o->o.cls=.type "tuple"->o.data=.seq vs m->h'.get? b=some o):∀(n:Nat) {d:PyData} {v:Value} {as:List Addr},aG n d=true->Reads h v d as->Reads h' v d as:=by
 intro n
 induction n with
 | zero=>
  intro d v as hp hr;cases hr with
  | int i t=>exact .int i t
  | str x t=>exact .str x t
  | none=>simp[aG] at hp
  | bool=>simp[aG] at hp
  | list=>simp[aG] at hp
  | dict=>simp[aG] at hp
  | tuple=>simp[aG] at hp
 | succ n ih=>
  have hl:∀(ds:List PyData) {vs:List Value} {as:List Addr},ds.all (aG n)=true->ReadsAll h vs ds as->ReadsAll h' vs ds as:=by
   intro ds
   induction ds with
   | nil=>intro vs as _ hr;cases hr;exact .nil
   | cons d ds ihd=>
    intro vs as hp hr;rw[N9,Nn] at hp;cases hr with
    | cons h1 h2=>exact .cons (ih hp.1 h1) (ihd hp.2 h2)
  intro d v as hp hr;cases hr with
  | int i t=>exact .int i t
  | str x t=>exact .str x t
  | none=>simp[aG] at hp
  | bool=>simp[aG] at hp
  | list=>simp[aG] at hp
  | dict=>simp[aG] at hp
  | tuple h1 h2 h3 h4=>exact .tuple (hk _ _ _ _ h1 h2 h3) h2 h3 (hl _ hp h4)
theorem Hf(d:PyData):iS d<=3:=by
 unfold iS
 split <;> decide
noncomputable def IY:Nat->Value
 | 1=>.type "str"
 | 2=>.type "int"
 | _=>.type "tuple"
theorem uQ{M:Model}{h:Heap}{k:Nat}(k0:k≠0):∀{qs:List DK},CQ h qs->(∀q∈qs,iS q.2=k)->∃fs,KatTups h (qs.map λq=>Value.ref q.1) fs/\fs.length=qs.length/\∀f∈fs,Looks M h (typeOf f) (IY k)
 | [],_,_=>⟨[],.nil,rfl,λ_ z=>(nomatch z)⟩
 | q::qs,hr,hk=>by
  obtain⟨fs,h1,h2,h3⟩:=uQ (M:=M) k0 (λx hx=>hr x (Nl _ hx)) (λx hx=>hk x (Nl _ hx));obtain⟨pq,as,ra⟩:=hr q Nm;have kq:=hk q Nm;obtain⟨b,d⟩:=q;dsimp only at ra kq;obtain⟨xs,rfl⟩:∃xs,d=.tuple xs:=by cases d <;> first | exact⟨_,rfl⟩ |(exact absurd kq.symm k0)
  obtain⟨b',o,vs,m,bs,e,e1,e2,e3,e4⟩:=rH ra;cases e;obtain⟨vl⟩:=vs;cases e4 with
  | nil=>exact absurd kq.symm k0
  | cons r1 ra=>
   refine⟨_::fs,.cons e1 e2 e3 rfl h1,by simp[h2],λf hf=>?_⟩;rcases NA.mp hf with rfl | hf
   ·cases r1 <;> first |(exact absurd kq.symm k0) | skip
    ·subst kq;exact .now
    ·subst kq;exact .now
    ·rename_i ho hc _ _;subst kq;rw[show IY (iS _)=Value.type "tuple" from rfl,<-hc];exact(Looks.ld ho).andThen .now
   ·exact h3 f hf
theorem Dc{a:Addr}{qs:List DK}{n:Nat}{C:PySem.Fin->Shared->Prop}(hu:A.units+16 < cLine)(ho:s.heap.get? a=some (seqObj "list" (qs.map λq=>Value.ref q.1).toArray n))(hr:CQ s.heap qs)(nd:(qs.map (·.2)).Nodup)(ok:zO (qs.map (·.2))=true)(h64:qs.length < 64)
  (fin:∀out:List DK,out.Perm qs->(out.map (·.2)).Pairwise (λd e=>fD 8 d e=true)->C (.done (.ret .none)) {s with heap:=sortedHeap s.heap a (qs.map λq=>Value.ref q.1) (out.map λq=>Value.ref q.1).toArray}):
  wpAny (model P w) A (Builtin.«list.sort» ⟨[.ref a],[]⟩) C E s:=by
 generalize hvs:(qs.map λq=>Value.ref q.1)=vs at*;have hlen:vs.length=qs.length:=by rw[<-hvs,Nc]
 have hva:vs.toArray.size=vs.length:=by simp
 have hlt:a < s.heap.objs.size:=Nt ho;rw[list_sort_plain];refine Nb (listItems_at ho rfl (Nb (listUpdate_at ho rfl ?_)));obtain⟨ep,hbare⟩:∃ep,(s.heap.update a (Obj.mapSeq λ_=>#[])).get? a=some (seqObj "list" #[] ep):=⟨_,get?_update_seq ho λ_=>#[]⟩;refine Nb (seqEpoch_at hbare rfl (Nb (Rw (Nb (wpAny_newList (OG ?_))))));generalize hG:((s.heap.update a (Obj.mapSeq λ_=>#[])).push (seqObj "tuple" vs.toArray 0)).push (seqObj "list" #[] 0)=G;have hGa:G.get? a=some (seqObj "list" #[] ep):=by
  rw[<-hG,Q8 _ _ _ (by rw[size_push',Rg];lia),Q8 _ _ _ (by rw[Rg];exact NB hlt)];exact hbare
 have hGo:∀b o m its,s.heap.get? b=some o->o.cls=.type "tuple"->o.data=.seq its m->G.get? b=some o:=λb o m its e hc hd=>by
  have hb:=Nt e;have hne:b≠a:=λz=>by
   subst z;rw[ho] at e;cases e;injection hc with z
   exact absurd z (by decide)
  rw[<-hG,Q8 _ _ _ (by rw[size_push',Rg];lia),Q8 _ _ _ (by rw[Rg];exact NB hb),Heap.get?_update_ne _ _ _ _ hne];exact e
 show wpAny (model P w) A _ C E {s with heap:=G};dsimp only
 by_cases h2:vs.toArray.size < 2
 ·rw[Nj h2,Nj h2];refine Nb (Nf ?_);rw[StateT.run_pure];refine Nb (Nf ?_);dsimp only;refine Nb (seqEpoch_at hGa rfl (Nb (listUpdate_at hGa rfl ?_ (hsz2:=by rw[R8];show(pairsOf vs).size<=_;rw[pairsOf_size,O9];clear h2;lia))));simp only[OU,NH,O0];refine Nf ?_;have:=fin qs (.refl _) (by
   match qs,hlen with
   | [],_=>exact .nil
   | [_],_=>exact QW _ _
   | _::_::_,z=>simp only[NQ] at z;lia)
  rw[hvs] at this;unfold sortedHeap at this;rw[hG] at this;have ev:(pairsOf vs).map (·.2)=vs.toArray:=by
   apply QY.mp;unfold pairsOf;simp;exact List.map_snd_zip (Nh _)
  rw[<-ev] at this;exact this
 ·have h2':2<=vs.length:=by exact Ob h2
  rw[Np h2,Np h2];have hrG:CQ G qs:=λq hq=>by
   obtain⟨p,as,ra⟩:=hr q hq;exact⟨p,as,um (λb o vs m e hc hd=>hGo b o m vs e hc hd) 8 p ra⟩
  obtain⟨q0,hq0⟩:∃q0,q0∈qs:=by
   cases qs with
   | nil=>rw[hlen] at h2';exact absurd h2' (by decide)
   | cons q _=>exact⟨q,Nm⟩
  have inS:∀q∈qs,q.2∈qs.map (·.2):=λq hq=>Py hq;obtain⟨_,_,k0,_⟩:=dW ok (inS q0 hq0) (inS q0 hq0);have kk:∀q∈qs,iS q.2=iS q0.2:=λq hq=>(dW ok (inS q hq) (inS q0 hq0)).2.2.2;have k3:=Hf q0.2;generalize iS q0.2=k at k0 kk k3;obtain⟨fs,t1,t2,t3⟩:=uQ (M:=model P w) k0 hrG kk;rw[hvs] at t1;have at_:∀i,i < qs.length->qs.getD i (0,.none)∈qs/\vs.getD i Value.none=.ref (qs.getD i (0,.none)).1:=λi hi=>by
   rw[OB,Nk hi,<-hvs,OB,Nz,Nk hi];exact⟨PC hi,rfl⟩
  have un:∀i j,i < qs.length->j < qs.length->i≠j->(qs.getD i (0,.none)).2≠(qs.getD j (0,.none)).2:=λi j hi hj ne e=>by
   rw[OB,Nk hi,OB,Nk hj] at e;exact ne ((RD (l:=qs.map (·.2)) (by rw[Nc];exact hi) nd).mp (by rw[Nz,Nz,Nk hi,Nk hj];exact congrArg some e))
  have pl:∀i,i < qs.length->aG 8 (qs.getD i (0,.none)).2=true:=λi hi=>(hr _ (at_ i hi).1).1;obtain⟨r,r1,r2⟩:=Jw (n:=qs.length) (lt:=λi j=>fD 8 (qs.getD i (0,.none)).2 (qs.getD j (0,.none)).2) (λi hi=>mY 8 _ (pl i hi)) (λi j hi hj ne=>xN 8 _ _ (pl i hi) (pl j hj) (un i j hi hj ne))
   (λi j k hi hj hk=>ly 8 _ _ _ (pl i hi) (pl j hj) (pl k hk))
  have tree:=qE r2 _ (C8 r1 (by rw[<-hlen];exact h2'));refine Nb (kat_kind (s:={s with heap:=G}) t1 (by rw[t2,<-hlen];exact Nq Nat.two_pos h2') (T:=IY k) t3 (by unfold IY;split <;> decide) ?_);have hb:(IY k !=Value.type "tuple")=(k !=3):=by
   match k,k0,k3 with
   | 1,_,_=>rfl
   | 2,_,_=>rfl
   | 3,_,_=>rfl
  rw[hb];refine Nb (O5 (kat_run (s:={s with heap:=G}) (ks:=vs) (vs:=vs) (κ:=tuples' (k !=3)) (Q:=λst' s'=>s'={s with heap:=G}/\∃p,mN qs.length p/\yE r p qs.length/\(arrOf st').map (·.2)=(p.toList.map λi=>vs.getD i Value.none).toArray/\failedOf st'=none) rfl h2' (by lia) (G:=λp s'=>s'={s with heap:=G}/\mN qs.length p/\yE r p qs.length) (λp st' s' hps har hf hs=>⟨hs.1,p,hs.2.1,hs.2.2,kat_snds rfl har,hf⟩) ?_) (λr s' hq=>?_) λ_ _ e=>e)
  case refine_2=>
   obtain⟨⟨⟩,st'⟩:=r;obtain⟨rfl,p,op,sp,eo,hf⟩:=hq;dsimp only at eo hf ⊢;have ps:p.toList.length=qs.length:=by rw[NK];exact op.size
   refine Nb (seqEpoch_at hGa rfl (Nb (listUpdate_at hGa rfl ?_ (hsz2:=by rw[eo,O9];simp;rw[op.size];clear h2;lia))));rw[hf];simp only[OU,NH,O0];refine Nf ?_;have mem:∀i∈p.toList,i < qs.length:=λi hi=>NR.mp (op.mem_iff.mp hi);have:=fin (p.toList.map λi=>qs.getD i (0,.none)) (by
    have h:=op.map λi=>qs.getD i (0,.none);rw[show(List.range qs.length).map (λi=>qs.getD i (0,.none))=qs by
     refine List.ext_getElem (by simp) λi h1 h2=>?_;rw[List.getElem_map,Ts,OB,Nk h2];rfl] at h
    exact h) (by
    rw[O3];refine PZ.mpr (QH.mpr λi j hi hj hij=>?_);have h:=sp i j hij (by rw[<-ps];exact hj);have e:∀{i:Nat} (hi:i < p.toList.length),p.getD i 0=p.toList[i]:=λ{i} hi=>by
     rw[getD_at (by rw[<-NK];exact hi),<-S8]
    have h:r (p.getD i 0) < r (p.getD j 0):=h;rw[e hi,e hj] at h;have:=r2 _ _ (mem _ (PC hi)) (mem _ (PC hj));rw[show yW r p.toList[i] p.toList[j]=true from NC h] at this;exact this.symm)
   unfold sortedHeap at this;rw[hG] at this;rw[eo];have em:(p.toList.map λi=>vs.getD i Value.none)=((p.toList.map λi=>qs.getD i (0,.none)).map λq=>Value.ref q.1):=by
    rw[O3];exact Rm λi hi=>(at_ i (mem i hi)).2
   rw[em];exact this
  ·rw[hlen];refine Bk (lt:=λi j=>fD 8 (qs.getD i (0,.none)).2 (qs.getD j (0,.none)).2) (λi j Q hi hj q=>?_) _ (df (λq hq=>⟨rfl,hq⟩) _ tree);show wpAny _ _ (keyLt' _ (vs.getD i Value.none) (vs.getD j Value.none)) _ _ _;rw[(at_ i hi).2,(at_ j hj).2];obtain⟨p1,as,ra⟩:=hrG _ (at_ i hi).1;obtain⟨p2,bs,rb⟩:=hrG _ (at_ j hj).1;exact yX (s:={s with heap:=G}) hu p1 p2 (kk _ (at_ i hi).1) (kk _ (at_ j hj).1) k0 (dW ok (inS _ (at_ i hi).1) (inS _ (at_ j hj).1)).2.1 ra rb q
end
noncomputable def zh{α:Type}(lt:α->α->Bool)(k:α):List α->List α
 | []=>[k]
 | x::r=>if lt k x=true then k::x::r else x::zh lt k r
noncomputable def gX{α:Type}(lt:α->α->Bool):List α->List α
 | []=>[]
 | k::r=>zh lt k (gX lt r)
section
variable {α:Type} {lt:α->α->Bool}
theorem lE(k:α):∀l:List α,(zh lt k l).Perm (k::l)
 | []=>.refl _
 | x::r=>by
  unfold zh
  split
  ·exact .refl _
  ·exact((lE k r).cons x).trans (.swap ..)
theorem cz:∀l:List α,(gX lt l).Perm l
 | []=>.refl _
 | k::r=>(lE k _).trans ((cz r).cons k)
structure Ord(lt:α->α->Bool)(s:List α):Prop where
 Mc:∀a∈s,lt a a=false
 Lb:∀a∈s,∀b∈s,a≠b->lt a b=true\/lt b a=true
 tr:∀a∈s,∀b∈s,∀c∈s,lt a b=true->lt b c=true->lt a c=true
theorem mn{s:List α}(o:Ord lt s){k:α}(hk:k∈s):∀{l:List α},(∀x∈l,x∈s)->k∉l->l.Pairwise (λa b=>lt a b=true)->(zh lt k l).Pairwise λa b=>lt a b=true
 | [],_,_,_=>QW _ _
 | x::r,hs,hn,h=>by
  rw[OO] at h;have hx:=hs x Nm;have hr:=λy hy=>hs y (Nl x hy);have hne:k≠x:=λz=>hn (z ▸ Nm);unfold zh
  by_cases c:lt k x=true
  ·rw[Nj c];refine OO.mpr ⟨λy hy=>?_,OO.mpr h⟩;rcases NA.mp hy with rfl | hy
   ·exact c
   ·exact o.tr k hk x hx y (hr y hy) c (h.1 y hy)
  ·rw[Np c];refine OO.mpr ⟨λy hy=>?_,mn o hk hr (λz=>hn (Nl _ z)) h.2⟩;rcases NA.mp ((lE k r).mem_iff.mp hy) with rfl | hy
   ·exact(o.Lb _ hk x hx hne).resolve_left c
   ·exact h.1 y hy
theorem fh{s:List α}(o:Ord lt s):∀{l:List α},(∀x∈l,x∈s)->l.Nodup->(gX lt l).Pairwise λa b=>lt a b=true
 | [],_,_=>.nil
 | k::r,hs,h=>by
  rw[PN] at h;have hr:=λy hy=>hs y (Nl k hy);exact mn o (hs k Nm) (λx hx=>hr x ((cz r).mem_iff.mp hx)) (λz=>h.1 ((cz r).mem_iff.mp z)) (fh o hr h.2)
theorem xw{ks l:List α}(o:Ord lt ks)(hp:l.Perm ks)(hs:l.Pairwise λa b=>lt a b=true)(nd:ks.Nodup):l=gX lt ks:=
 QO (λa b ha hb x y=>absurd (o.tr a (hp.mem_iff.mp ha) b ((cz ks).mem_iff.mp hb) a (hp.mem_iff.mp ha) x y) (by rw[o.Mc a (hp.mem_iff.mp ha)];decide)) hs (fh o (λ_ h=>h) nd) (hp.trans (cz ks).symm)
end
theorem mW{ds:List PyData}(h:∀d∈ds,aG 8 d=true):Ord (fD 8) ds:=
 ⟨λa ha=>mY 8 a (h a ha),λa ha b hb=>xN 8 a b (h a ha) (h b hb),λa ha b hb c hc=>ly 8 a b c (h a ha) (h b hb) (h c hc)⟩
noncomputable def iU(ks:List PyData)(k:PyData):List PyData:=if ks.any (λq=>PyData.eqv q k)=true then ks else ks++[k]
noncomputable def du(ks:List PyData):List PyData:=ks.foldl iU []
noncomputable def bQ(ps:List DK):List DK:=ps.foldl (λqs p=>pF qs p.1 p.2) []
theorem pE(ps:List DK)(p:DK):bQ (ps++[p])=pF (bQ ps) p.1 p.2:=by unfold bQ;rw[List.foldl_append];rfl
theorem rn(ps:List DK):(bQ ps).map (·.2)=du (ps.map (·.2)):=by
 have:∀(ps acc:List DK),(ps.foldl (λqs p=>pF qs p.1 p.2) acc).map (·.2)=(ps.map (·.2)).foldl iU (acc.map (·.2)):=by
  intro ps
  induction ps with
  | nil=>intro acc;rfl
  | cons p ps ih=>
   intro acc;rw[PQ,ih,Ny,PQ];congr 1;unfold pF iU;rw[List.any_map]
   by_cases c:(acc.any λq=>PyData.eqv q.2 p.2)=true
   ·rw[Nj c,Nj (show(acc.any ((λq=>PyData.eqv q p.2)∘λx=>x.2))=true from c)]
   ·rw[Np c,Np (show ¬(acc.any ((λq=>PyData.eqv q p.2)∘λx=>x.2))=true from c),Oe];rfl
 exact this ps []
theorem gB{ps:List DK}:∀(i:Nat),(bQ (ps.take i)).length<=i/\∀q∈bQ (ps.take i),q∈ps
 | 0=>⟨Nh _,λ_ z=>(nomatch z)⟩
 | i+1=>by
  obtain⟨h1,h2⟩:=gB (ps:=ps) i;cases e:ps[i]? with
  | none=>
   have hl:ps.length<=i:=List.getElem?_eq_none_iff.mp e;rw[OX (O6 hl)];rw[OX hl] at h1 h2;exact⟨O6 h1,h2⟩
  | some p=>
   rw[RC,e,Tr,pE];unfold pF
   split
   ·exact⟨O6 h1,h2⟩
   ·refine⟨by rw[NT];simpa using h1,λq hq=>?_⟩;rcases NY.mp hq with hq | hq
    ·exact h2 q hq
    ·rw[Nw] at hq;subst hq;exact Ni e
theorem yp{P:Program}{w:World}{A:Around}{h₀:Heap}{S:Addr}{items:Array Value}{ps:List DK}(hu:A.units+8 < cLine)(hk:∀(i:Nat)(v:Value),items[i]?=some v->∃p,ps[i]?=some p/\v=.ref p.1)(hr:CQ h₀ ps)(h4:ps.length<=1000):
  yt P w A h₀ S items (λi h=>zL w h S (bQ (ps.take i))) where
 frame:=λi h h' k=>by
  rintro⟨n,o,es,ep,t,qs',e,r⟩;exact⟨n,o,es,ep,t,qs',k o e,r⟩
 fresh:=λh e=>by
  rw[List.take_zero];refine⟨RY,_,#[],0,_,[],e,⟨rfl,rfl,rfl⟩,rfl,?_⟩;refine⟨⟨⟨3,Nh _,by decide,rfl⟩,rfl,λi j hi=>absurd hi (O7 _),rfl,by show 0*5 < 7*3;decide,λi j e hi=>?_⟩,rfl,.refl _,rfl⟩;exact absurd hi (by simp[SetTable.fresh])
 step:=λi v s E Q hv hJ keep h=>by
  obtain⟨p,hp,rfl⟩:=hk i v hv;have hil:i < ps.length:=(Ng.mp hp).1;obtain⟨l1,l2⟩:=gB (ps:=ps) i;have rd:CQ s.heap ps:=λq hq=>by
   obtain⟨r1,as,r2⟩:=hr q hq;exact⟨r1,as,oj (λb o vs m e _=>keep b o e) 8 r1 r2⟩
  obtain⟨ok,as,ra⟩:=rd p (Ni hp);unfold setAdd;refine OG (Nb (zi 8 hu ok ra λj=>?_));refine oX (s:={s with toks:=s.toks+j}) hJ (λq hq=>rd q (l2 q hq)) hu ok ra (by lia) λr h' hs hS'=>?_;refine h r h' (s.toks+j) (NL _ _) hs ?_;rw[RC,hp,Tr,pE];exact hS'
section
variable {P:Program} {w:World} {A:Around} {E:Value->Shared->Prop} {s:Shared} {a:Addr}
theorem t5{qs:List DK}(hh:A.handled=none)(hu:A.units+32 < cLine)(hS:zL w s.heap a qs)(hr:CQ s.heap qs)(ok:zO (qs.map (·.2))=true)(h64:qs.length < 64){Q:Value->Shared->Prop}
  (h:∀h' d l n (out:List DK),(∀b o,s.heap.get? b=some o->h'.get? b=some o)->s.heap.objs.size<=l->h'.get? l=some (seqObj "list" (out.map λq=>Value.ref q.1).toArray n)->out.map (·.2)=gX (fD 8) (qs.map (·.2))->(∀q∈out,q∈qs)->Q (.ref l) {s with heap:=h',drawn:=d}):
  wpAny (model P w) A (call (.builtin "sorted") [.ref a]) Q E s:=by
 obtain⟨nd,o,es,ep,t,qs',e,ex,dd,T,hes,hperm,hled⟩:=hS;refine Calls.call_function_entry kind_sorted plain_sorted entry_sorted (args_sorted1 _) ?_;unfold Builtin.«sorted»;refine Nb (m:=checkCount "sorted" 1 1 _) (Nf ?_);have hn:es.size < 64:=by rw[<-NK,hes,Nc,hperm.length_eq];exact h64
 refine Nb (vg (A:=A.in1) (es:=es) hh ⟨o,ep,t,e,ex,dd,by unfold scanBound;exact OK hn (by decide),T.fits,hled,λ_=>T.E2⟩ λh1 d vs hsz k1 hp=>?_);rw[hes,O3] at hp;obtain⟨qs2,p2,rfl⟩:=uy (f:=λq:DK=>Value.ref q.1) hp rfl;have p3:=p2.trans hperm;have nd2:(qs2.map (·.2)).Nodup:=(p3.map (·.2)).nodup_iff.mpr nd;have hl2:qs2.length < 64:=by rw[p3.length_eq];exact h64
 have ok2:zO (qs2.map (·.2))=true:=by
  have hm:∀{x:PyData},x∈qs2.map (·.2)->x∈qs.map (·.2):=λ{x} hx=>(p3.map (·.2)).mem_iff.mp hx;refine NS.mpr λx hx=>?_;rw[Nn];refine⟨(dW ok (hm hx) (hm hx)).1,NS.mpr λy hy=>?_⟩;obtain⟨_,a1,a2,a3⟩:=dW ok (hm hx) (hm hy);simp only[Nn,RU,OV];exact⟨⟨a1,a2⟩,a3⟩
 refine Nb (wpAny_newList ?_ (by rw[O9,Nc];lia));have hr2:CQ (h1.push (seqObj "list" (qs2.map λq=>Value.ref q.1).toArray 0)) qs2:=λq hq=>by
  obtain⟨p,as,ra⟩:=hr q (p3.mem_iff.mp hq);exact⟨p,as,oj (λb o vs m e _=>Nd _ (k1 b o e)) 8 p ra⟩
 have hL:(h1.push (seqObj "list" (qs2.map λq=>Value.ref q.1).toArray 0)).get? h1.objs.size=some (seqObj "list" (qs2.map λq=>Value.ref q.1).toArray 0):=Nu _ rfl;show wpAny _ _ _ _ _ {s with heap:=h1.push (seqObj "list" (qs2.map λq=>Value.ref q.1).toArray 0),drawn:=d};refine Nb (OG (Oj slot_list_sort ⟨_,hL,rfl⟩ entry_list_sort (Dc (s:={s with heap:=h1.push (seqObj "list" (qs2.map λq=>Value.ref q.1).toArray 0),drawn:=d}) (by simp only[Qd];lia) hL hr2 nd2 ok2 hl2 λout g1 g2=>⟨_,rfl,?_⟩) (args_list_sort _)));have hlt:h1.objs.size < (h1.push (seqObj "list" (qs2.map λq=>Value.ref q.1).toArray 0)).objs.size:=by rw[N6];exact Pj _
 obtain⟨n,hn⟩:=sortedHeap_at (vs:=qs2.map λq=>Value.ref q.1) (out:=(out.map λq:DK=>Value.ref q.1).toArray) hL;have g3:=g1.trans p3;refine Nf ⟨_,rfl,h _ d _ n out (λb o e=>?_) hsz hn (xw (mW λx hx=>(dW ok hx hx).1) (g3.map _) g2 nd) λq hq=>g3.mem_iff.mp hq⟩;have e:=k1 b o e;have hb:=Nt e;rw[sortedHeap_old (NB hb) (OK hb hlt)];exact Nd _ e
end
noncomputable def yr(w:World)(a:Addr)(qs:List DK):HO:=.ext λh=>zL w h a qs
theorem B6(x:zL w h a qs):bJ P' w' H h a (yr w a qs):=
 ⟨x,by obtain⟨_,o,_,_,_,_,e,_⟩:=x;exact⟨o,e⟩,λh1 h2 y k=>by obtain⟨q,o,es,ep,t,qs',e,r⟩:=y;exact⟨q,o,es,ep,t,qs',k o e,r⟩⟩
def Fo(K:FR)(H:Hp)(q:DK):Prop:=aG 8 q.2=true/\zJ K H (.ref q.1) q.2
theorem AD(I:Inv X pins σ H s)(h:∀q∈qs,Fo X.K H q):CQ s.heap qs:=λq hq=>⟨(h q hq).1,(h q hq).2.reads I rfl⟩
theorem zB{X:Cx}(hc:X.calm=true)(hu:X.A.units+64 < cLine):dw X (.type "set") (λxs H Q=>∃(a:Addr)(ps:List DK),xs=[.ref a]/\eW X.K H a (ps.map λq=>V.ref q.1)/\(∀q∈ps,Fo X.K H q)/\ps.length<=1000/\∀l,H l=none->Q (.ref l) (upd H l (yr X.w l (bQ ps)))):=by
 intro pins s σ H xs us Q I r h;obtain⟨a,ps,rfl,hq,hr,h4,q⟩:=h;obtain⟨u,rfl,rx⟩:=vals1 r;cases rx;obtain⟨its,rv,pt,hz⟩:=I.list hq;have hlen:=rv.length;rw[Nc] at hlen;refine pv (items:=its.toArray) (I.ok.hd hc) pt.isList (λA' _ ha=>yp (ps:=ps) (by lia) (λi v hv=>?_) (AD I hr) h4) λh' tk hJ k=>?_
 ·have hv':its[i]?=some v:=by simpa using hv
  have hi:i < ps.length:=by rw[hlen];exact(Ng.mp hv').1
  have hki:ps[i]?=some ps[i]:=Nk hi;obtain⟨u,hu',ru⟩:=Vals.get rv (x:=.ref ps[i].1) (i:=i) (by rw[Nz,hki];rfl);rw[hv'] at hu';cases hu';cases ru;exact⟨_,hki,rfl⟩
 ·have hs:its.toArray.size=ps.length:=by rw[hlen];rfl
  rw[hs,O1] at hJ;exact⟨.ref _,_,I.laid (t':=tk) (o:=yr X.w s.heap.objs.size (bQ ps)) (λb o e=>k b o (Nt e) e) (Nh _) (B6 hJ),rfl,q _ I.fresh⟩
theorem pj{X:Cx}(hc:X.calm=true)(hu:X.A.units+64 < cLine):dw X (.builtin "sorted") (λxs H Q=>∃a qs,xs=[.ref a]/\H a=some (yr X.w a qs)/\(∀q∈qs,Fo X.K H q)/\zO (qs.map (·.2))=true/\qs.length < 64/\∀l (out:List DK),H l=none->out.map (·.2)=gX (fD 8) (qs.map (·.2))->(∀q∈out,q∈qs)->Q (.ref l) (upd H l (.lst (out.map λq=>V.ref q.1)))):=by
 intro pins s σ H xs us Q I r h;obtain⟨a,qs,rfl,e,hq,ok,h4,q⟩:=h;obtain⟨u,rfl,rx⟩:=vals1 r;cases rx;obtain⟨hS,_,_⟩:=I.aV a _ e;refine t5 (I.ok.hd hc) (by lia) hS (AD I hq) ok h4 λh' d l n out k hl ho e1 e2=>?_;have hln:out.length < 64:=by
  have:=congrArg List.length e1;rw[(cz _).length_eq,Nc,Nc] at this
  lia
 have hz:(out.map λq=>V.ref q.1).length<=sizeLine:=by rw[Nc,O9];lia
 have hv:∀out:List DK,Vals (out.map λq=>V.ref q.1) (out.map λq=>Value.ref q.1):=λout=>by
  induction out with
  | nil=>exact .nil
  | cons q r ih=>exact .cons rfl ih
 exact⟨.ref l,_,(I.laid (t':=s.toks) (o:=.lst (out.map λq=>V.ref q.1)) k hl ⟨hz,_,n,hv out,ho⟩).draw d,rfl,q l out (I.aV.fresh hl) e1 e2⟩
end L2
namespace Sm
open PySem L2 PySem.Spec PyProof.Rows
mutual
noncomputable def toD:PyData->D
 | .none=>.bx
 | .bool b=>.bl b
 | .int i=>.int i
 | .str x=>.str x
 | .tuple xs=>.tup (CM xs)
 | .list xs=>.lv (CM xs)
 | .dict _=>.bx
noncomputable def CM:List PyData->List D
 | []=>[]
 | x::r=>toD x::CM r
end
theorem FH:∀(n:Nat) {d:D} {p:PyData},iG d=some p->aG n p=true->d=toD p:=by
 intro n
 induction n with
 | zero=>
  intro d p e h;cases p <;> first |(simp[aG] at h;done) | skip
  all_goals cases d <;> first |(simp[iG] at e;done) |(cases e;rfl) | skip
  all_goals (rw[iG] at e;obtain⟨_,_,z⟩:=eC e;cases z)
 | succ n ih=>
  have hl:∀{xs:List D} {ps:List PyData},gL xs=some ps->ps.all (aG n)=true->xs=CM ps:=by
   intro xs
   induction xs with
   | nil=>intro ps e _;cases e;rfl
   | cons x r ihx=>
    intro ps e h;obtain⟨a,e1,e2⟩:=bu (show(iG x).bind (λa=>(gL r).map λb=>a::b)=_ from e);obtain⟨b,e3,rfl⟩:=eC e2;rw[N9,Nn] at h;rw[CM,<-ih e1 h.1,<-ihx e3 h.2]
  intro d p e h;cases p <;> first |(simp[aG] at h;done) | skip
  all_goals cases d <;> first |(simp[iG] at e;done) |(cases e;rfl) | skip
  all_goals (rw[iG] at e;obtain⟨_,q,z⟩:=eC e;cases z)
  rw[toD,hl q h]
noncomputable def fK(ps:List PyData):Option (List D):=if zO ps=true then if ps.length < 64 then some ((gX (fD 8) (du ps)).map toD) else none else none
noncomputable def eF(m:EM):EM:=λδ h=>(m δ h).bind λp=>(dX p.1 p.2).bind λxs=>(gL xs).bind λps=>(fK ps).map λout=>(.lv out,p.2)
theorem Dr{K:FR}{ρ:Ad}{H:Hp}{v:V}{xs:List PyData}(r:Rep K ρ H v (toD (.tuple xs))):∃b,v=V.ref b:=by
 rw[toD] at r;cases r with
 | tup h l=>exact⟨_,rfl⟩
theorem wW{K:FR}{ρ:Ad}{H:Hp}:∀{vs:List V} {xs:List D} {ks:List PyData},ar K ρ H vs xs->gL xs=some ks->(∀k∈ks,aG 8 k=true/\iS k≠0)->∃ps:List DK,vs=ps.map (λq=>V.ref q.1)/\ps.map (·.2)=ks/\∀q∈ps,Fo K H q/\Rep K ρ H (.ref q.1) (toD q.2)
 | _,_,_,.nil,e,_=>by cases e;exact⟨[],rfl,rfl,λ_ z=>(nomatch z)⟩
 | _,_,_,.cons r l,e,hk=>by
  obtain⟨k,e1,e2⟩:=bu e;obtain⟨ks,e3,rfl⟩:=eC e2;obtain⟨ps,h1,h2,h3⟩:=wW l e3 λk hk'=>hk k (Nl _ hk');obtain⟨pk,k0⟩:=hk k Nm;have rd:=r.oo e1;have ed:=FH 8 e1 pk;subst ed;cases k <;> first |(exact absurd rfl k0) | skip
  obtain⟨b,rfl⟩:=Dr r;refine⟨(b,_)::ps,by rw[h1];rfl,by rw[<-h2];rfl,λq hq=>?_⟩;rcases NA.mp hq with rfl | hq
  ·exact⟨⟨pk,rd.1⟩,r⟩
  ·exact h3 q hq
theorem sh{K:FR}{ρ:Ad}{H:Hp}:∀{qs:List DK},(∀q∈qs,Rep K ρ H (.ref q.1) (toD q.2))->ar K ρ H (qs.map λq=>V.ref q.1) ((qs.map (·.2)).map toD)
 | [],_=>.nil
 | q::r,h=>.cons (h q Nm) (sh λx hx=>h x (Nl _ hx))
theorem xC{K:FR}{ρ:Ad}{H:Hp}{q:DK}(pq:aG 8 q.2=true)(r:Rep K ρ H (.ref q.1) (toD q.2))(e:iG (toD q.2)=some q.2):Fo K H q:=⟨pq,(r.oo e).1⟩
theorem we:∀(n:Nat) {p:PyData},aG n p=true->iG (toD p)=some p:=by
 intro n
 induction n with
 | zero=>intro p h;cases p <;> first |(simp[aG] at h;done) | rfl
 | succ n ih=>
  have hl:∀{ps:List PyData},ps.all (aG n)=true->gL (CM ps)=some ps:=by
   intro ps
   induction ps with
   | nil=>intro _;rfl
   | cons x r ihx=>
    intro h;rw[N9,Nn] at h;rw[CM,gL,ih h.1,ihx h.2];rfl
  intro p h;cases p <;> first |(simp[aG] at h;done) | rfl | skip
  rw[toD,iG,hl h];rfl
theorem t9{X:Cx}{k:Nat}{e:Expr}{me:EM}{p p2 pos pos2:Pos}(hc:X.calm=true)(hr:dZ k X.A)(hgl:Gl X "sorted")(hml:X.mg "sorted"=none)(hgs:Gl X "set")(hms:X.mg "set"=none)(he:SE X e me)(hs:starEach [e] X.env=(false,eval e X.env)::starEach [] X.env:=by ac_nf):
  SE X (.Call (.Name "sorted" p) [.Call (.Name "set" p2) [e] [] pos2] [] pos) (eF me):=
 (oz (pj hc hr.units) hgl hml (by decide+kernel) (j3 (iH (zB hc hr.units) hgs hms (by decide+kernel) (j3 he oB hs) (by decide) (by decide) hs) oB)).imp λσ H Q ⟨ρ,δ,h,d,h',R,S,ee,k⟩=>by
  obtain⟨⟨d1,h1⟩,e1,e2⟩:=bu ee;obtain⟨ys,e3,e4⟩:=bu e2;obtain⟨ks,e5,e6⟩:=bu e4;obtain⟨out,e7,e8⟩:=eC e6;unfold fK at e7
  by_cases ok:zO ks=true
  ·rw[Nj ok] at e7
   by_cases c:ks.length < 64
   ·rw[Nj c] at e7;cases e7;cases e8;refine⟨ρ,δ,h,d1,h1,R,S,e1,λv H1 ⟨ρ1,T1,S1,r1⟩=>?_⟩;obtain⟨a,vs,rfl,ha,la⟩:=dH S1 r1 e3;obtain⟨ps,rfl,rfl,hp⟩:=wW la e5 λk hk=>by
     obtain⟨a1,_,a3,_⟩:=dW ok hk hk;exact⟨a1,a3⟩
    rw[Nc] at c;refine⟨a,ps,rfl,eW.of ha,λq hq=>(hp q hq).1,by lia,λl hl=>?_⟩;have T2:=T1.trans (cF.laid (o:=yr X.w l (bQ ps)) S1 hl);obtain⟨l1,l2⟩:=gB (ps:=ps) ps.length;rw[O1] at l1 l2;have hq2:∀q∈bQ ps,Fo X.K (upd H1 l (yr X.w l (bQ ps))) q/\Rep X.K ρ1 (upd H1 l (yr X.w l (bQ ps))) (.ref q.1) (toD q.2):=λq hq=>by
     have h1:=(hp q (l2 q hq)).1.1;have r:=(hp q (l2 q hq)).2.mono (cF.laid (o:=yr X.w l (bQ ps)) S1 hl).toCh;exact⟨xC h1 r (we 8 h1),r⟩
    have hm:∀{x:PyData},x∈(bQ ps).map (·.2)->x∈ps.map (·.2):=λ{x} hx=>by
     obtain⟨q,hq,rfl⟩:=NM.mp hx;exact Py (l2 q hq)
    have ok2:zO ((bQ ps).map (·.2))=true:=by
     refine NS.mpr λx hx=>?_;rw[Nn];refine⟨(dW ok (hm hx) (hm hx)).1,NS.mpr λy hy=>?_⟩;obtain⟨_,a1,a2,a3⟩:=dW ok (hm hx) (hm hy);simp only[Nn,RU,OV];exact⟨⟨a1,a2⟩,a3⟩
    refine⟨l,bQ ps,rfl,aT,λq hq=>(hq2 q hq).1,ok2,by lia,λl2 out hl2 o1 o2=>?_⟩;rw[rn] at o1;rw[<-o1] at k;exact k _ _ (cG.step T2 (cG.lv (S1.laid hl) (sh λq hq=>(hq2 q (o2 q hq)).2) hl2))
   ·rw[Np c] at e7;cases e7
  ·rw[Np ok] at e7;cases e7
end Sm
namespace L2
open PySem PySem.Spec PyProof.Rows PySem.SeqAt PySem.W
set_option maxHeartbeats 3200000 in
theorem p7{l:Addr}{items:Array Value}{J:Nat->Heap->Prop}{Q:Value->Shared->Prop}
  (hh:A.handled=none) (hl:s.heap.IsTuple l items) (D:∀A':Around,A'.handled=none->A'.units<=A.units+8->yt P w A' s.heap s.heap.objs.size items J)
  (h:∀(h':Heap)(tk:Nat),J items.size h'->(∀b o,b < s.heap.objs.size->s.heap.get? b=some o->h'.get? b=some o)->Q (.ref s.heap.objs.size) {s with heap:=h',toks:=tk}):
  wpAny (model P w) A (call (.type "set") [.ref l]) Q E s:=by
 obtain⟨c,tl,hmro⟩:=OA.mro;have hmade:=OA.made;have hsub:=OA.sub;refine wpAny_call (Rp ?_);show wpAny _ _ (callAny (.type "set") _) _ _ _;refine Nf ⟨Code.quiet_builtin _ (by decide+kernel),OS F.entry_type_call ?_⟩;rw[Around.under_plain (weight_type_call_type "set" [.ref l] []) rfl];have h1:=OA.notType;have h2:=OA.canCreate;have hct:=F.typeCall_set_1 (.ref l)
 repeat(any_goals (first | assumption | wp_step))
 refine Qc (jb (.ref l) (E:=E) (Q₁:=λobj s₁=>∃led:Bool,led=(!w.params.followText "set-order")/\obj=.ref s.heap.objs.size/\s₁={s with heap:=s.heap.push {cls:=.type "set",dict:=none,data:=.set #[] 0 (.fresh 0 0 led)}}) ⟨_,rfl,rfl,rfl⟩) λr s₁ hr=>?_;cases r with
 | error e=>exact hr
 | ok fl=>
  cases fl with
  | ret obj=>
   obtain⟨led,hled,rfl,rfl⟩:=hr;have hS:(s.heap.push {cls:=.type "set",dict:=none,data:=.set #[] 0 (.fresh 0 0 led)}).get? s.heap.objs.size=some {cls:=.type "set",dict:=none,data:=.set #[] 0 (.fresh 0 0 led)}:=Nu _ rfl;have hT:Shared.TypeIs {s with heap:=s.heap.push {cls:=.type "set",dict:=none,data:=.set #[] 0 (.fresh 0 0 led)}} (.ref s.heap.objs.size) "set":=⟨_,hS,rfl⟩;have hli:=OA.init.lookup;have hbi:=OA.init.bind (.ref s.heap.objs.size)
   repeat(any_goals (first | assumption | wp_step))
   refine Qc (codeAny_call_builtin (R:=wants (λr s₂=>r=.none/\∃h' tk,s₂={s with heap:=h',toks:=tk}/\J items.size h'/\
     (∀b o,b < s.heap.objs.size->s.heap.get? b=some o->h'.get? b=some o)) E) OA.init.plain F.entry_set_init (check_set_init_1 hT ?_)) λr₂ s₂ hr₂=>?_
   ·obtain⟨ol,hol,hcl,nl,hdl⟩:=hl;obtain⟨ocls,odict,odata,oslots⟩:=ol;simp only at hcl hdl;subst hcl;subst hdl;have hol':(s.heap.push {cls:=.type "set",dict:=none,data:=.set #[] 0 (.fresh 0 0 led)}).get? l=some {cls:=.type "tuple",dict:=odict,data:=.seq items nl,slots:=oslots}:=Nd _ hol;have hsls:=sub_tuple_set';have hslf:=sub_tuple_frozenset';have hne:(Value.type "tuple"==Value.type "dict")=false:=by decide
    have hl1:(s.heap.push {cls:=.type "set",dict:=none,data:=.set #[] 0 (.fresh 0 0 led)}).IsTuple l items:=⟨_,hol',rfl,nl,rfl⟩;unfold Builtin.«set.__init__» noKeywords Builtin.Frozenset.updateFrom;generalize hPI:pyIter=PI
    wp_walk
    subst hPI;refine P4 hl1 ?_;refine Nb (SV ?_);have hlS:l < s.heap.objs.size:=Nt hol;have hh3:A.in1.in1.in1.handled=none:=by simp[hh]
    have hneI:l≠(s.heap.push {cls:=.type "set",dict:=none,data:=.set #[] 0 (.fresh 0 0 led)}).objs.size:=by
     rw[N6];exact NB (PY hlS)
    have hSf:s.heap.objs.size∉[(s.heap.push {cls:=.type "set",dict:=none,data:=.set #[] 0 (.fresh 0 0 led)}).objs.size,l]:=by
     rw[N6];simp only[NA,Nw,PB,QQ,not_or];exact⟨NB (Pj _),Pu hlS⟩
    have none_of:∀b,s.heap.objs.size<=b->s.heap.get? b=none:=λb hb=>by
     cases q:s.heap.get? b with
     | none=>rfl
     | some o=>exact absurd (Nt q) (Qe.mpr hb)
    refine qm ((Walks.tuple hh3 _ l hneI items).toS) hSf (D _ hh3 (by simp only[Qd];lia)) (λb hb=>?_) (none_of _ (Nh _)) (items.size-0) 0 _ (by lia) (Oo _)
     ⟨⟨_,Nu _ rfl,rfl,rfl⟩,(hl1.push _)⟩ ?hS0 ?hK ?hR
    ·rw[Nw] at hb;subst hb;exact none_of _ (by rw[N6];lia)
    case hS0=>
     exact(D A hh (by lia)).fresh _ (by rw[<-hled];exact Nd _ hS)
    case hK=>
     intro b o e;exact Nd _ (Nd _ e)
    case hR=>
     intro s' hm hJ';obtain⟨h',g',d',tk',os'⟩:=s';have eg:g'=s.gens:=hm.gens;have ed:d'=s.drawn:=hm.drawn;have eo:os'=s.os:=hm.os;subst eg;subst ed;subst eo;show wpAny _ _ _ _ _ _;refine Nf ?_;show wpAny _ _ (ret Value.none) _ _ _;refine Nf ⟨rfl,h',tk',rfl,hJ',λb o hb e=>?_⟩;have hb1:b≠s.heap.objs.size:=NB hb;have hb2:b≠(s.heap.push {cls:=.type "set",dict:=none,data:=.set #[] 0 (.fresh 0 0 led)}).objs.size:=by
      rw[N6];exact NB (PY hb)
     exact hm.heap b o (by simp only[NA,Nw,PB,QQ,not_or];exact⟨hb1,hb2⟩) (Nd _ (Nd _ e))
   ·cases r₂ with
    | error e=>exact hr₂
    | ok fl₂=>
     cases fl₂ with
     | ret r=>
      obtain⟨rfl,h',tk,rfl,hJ',hk'⟩:=hr₂
      repeat(any_goals (first | assumption | wp_step))
      exact h _ _ hJ' hk'
     | _=>exact hr₂.elim
  | _=>exact hr.elim
theorem xc{X:Cx}(hc:X.calm=true)(hu:X.A.units+64 < cLine):dw X (.type "set") (λxs H Q=>∃(a:Addr)(ps:List DK),xs=[.ref a]/\je X.K H a (ps.map λq=>V.ref q.1)/\(∀q∈ps,Fo X.K H q)/\ps.length<=1000/\∀l,H l=none->Q (.ref l) (upd H l (yr X.w l (bQ ps)))):=by
 intro pins s σ H xs us Q I r h;obtain⟨a,ps,rfl,hq,hr,h4,q⟩:=h;obtain⟨u,rfl,rx⟩:=vals1 r;cases rx;obtain⟨its,rv,pt,hz⟩:=I.tuple hq;have hlen:=rv.length;rw[Nc] at hlen;refine p7 (items:=its.toArray) (I.ok.hd hc) pt (λA' _ ha=>yp (ps:=ps) (by lia) (λi v hv=>?_) (AD I hr) h4) λh' tk hJ k=>?_
 ·have hv':its[i]?=some v:=by simpa using hv
  have hi:i < ps.length:=by rw[hlen];exact(Ng.mp hv').1
  have hki:ps[i]?=some ps[i]:=Nk hi;obtain⟨u,hu',ru⟩:=Vals.get rv (x:=.ref ps[i].1) (i:=i) (by rw[Nz,hki];rfl);rw[hv'] at hu';cases hu';cases ru;exact⟨_,hki,rfl⟩
 ·have hs:its.toArray.size=ps.length:=by rw[hlen];rfl
  rw[hs,O1] at hJ;exact⟨.ref _,_,I.laid (t':=tk) (o:=yr X.w s.heap.objs.size (bQ ps)) (λb o e=>k b o (Nt e) e) (Nh _) (B6 hJ),rfl,q _ I.fresh⟩
end L2
namespace Sm
open PySem L2 PySem.Spec PyProof.Rows
noncomputable def IZ:D->Option (List D)
 | .tup xs=>some xs
 | _=>none
theorem CW{K:FR}{ρ:Ad}{H:Hp}{v:V}{d:D}{xs:List D}(r:Rep K ρ H v d)(e:IZ d=some xs):∃a vs,v=.ref a/\je K H a vs/\ar K ρ H vs xs:=by
 cases d <;> first |(cases e;done) | skip
 cases e;cases r with
 | @tup a vs _ ht la=>exact⟨a,vs,rfl,ht.sq,la⟩
noncomputable def fW(m:EM):EM:=λδ h=>(m δ h).bind λp=>(IZ p.1).bind λxs=>(gL xs).bind λps=>(fK ps).map λout=>(.lv out,p.2)
theorem t8{X:Cx}{k:Nat}{e:Expr}{me:EM}{p p2 pos pos2:Pos}(hc:X.calm=true)(hr:dZ k X.A)(hgl:Gl X "sorted")(hml:X.mg "sorted"=none)(hgs:Gl X "set")(hms:X.mg "set"=none)(he:SE X e me)(hs:starEach [e] X.env=(false,eval e X.env)::starEach [] X.env:=by ac_nf):
  SE X (.Call (.Name "sorted" p) [.Call (.Name "set" p2) [e] [] pos2] [] pos) (fW me):=
 (oz (pj hc hr.units) hgl hml (by decide+kernel) (j3 (iH (xc hc hr.units) hgs hms (by decide+kernel) (j3 he oB hs) (by decide) (by decide) hs) oB)).imp λσ H Q ⟨ρ,δ,h,d,h',R,S,ee,k⟩=>by
  obtain⟨⟨d1,h1⟩,e1,e2⟩:=bu ee;obtain⟨ys,e3,e4⟩:=bu e2;obtain⟨ks,e5,e6⟩:=bu e4;obtain⟨out,e7,e8⟩:=eC e6;unfold fK at e7
  by_cases ok:zO ks=true
  ·rw[Nj ok] at e7
   by_cases c:ks.length < 64
   ·rw[Nj c] at e7;cases e7;cases e8;refine⟨ρ,δ,h,d1,h1,R,S,e1,λv H1 ⟨ρ1,T1,S1,r1⟩=>?_⟩;obtain⟨a,vs,rfl,ha,la⟩:=CW r1 e3;obtain⟨ps,rfl,rfl,hp⟩:=wW la e5 λk hk=>by
     obtain⟨a1,_,a3,_⟩:=dW ok hk hk;exact⟨a1,a3⟩
    rw[Nc] at c;refine⟨a,ps,rfl,ha,λq hq=>(hp q hq).1,by lia,λl hl=>?_⟩;have T2:=T1.trans (cF.laid (o:=yr X.w l (bQ ps)) S1 hl);obtain⟨l1,l2⟩:=gB (ps:=ps) ps.length;rw[O1] at l1 l2;have hq2:∀q∈bQ ps,Fo X.K (upd H1 l (yr X.w l (bQ ps))) q/\Rep X.K ρ1 (upd H1 l (yr X.w l (bQ ps))) (.ref q.1) (toD q.2):=λq hq=>by
     have h1:=(hp q (l2 q hq)).1.1;have r:=(hp q (l2 q hq)).2.mono (cF.laid (o:=yr X.w l (bQ ps)) S1 hl).toCh;exact⟨xC h1 r (we 8 h1),r⟩
    have hm:∀{x:PyData},x∈(bQ ps).map (·.2)->x∈ps.map (·.2):=λ{x} hx=>by
     obtain⟨q,hq,rfl⟩:=NM.mp hx;exact Py (l2 q hq)
    have ok2:zO ((bQ ps).map (·.2))=true:=by
     refine NS.mpr λx hx=>?_;rw[Nn];refine⟨(dW ok (hm hx) (hm hx)).1,NS.mpr λy hy=>?_⟩;obtain⟨_,a1,a2,a3⟩:=dW ok (hm hx) (hm hy);simp only[Nn,RU,OV];exact⟨⟨a1,a2⟩,a3⟩
    refine⟨l,bQ ps,rfl,aT,λq hq=>(hq2 q hq).1,ok2,by lia,λl2 out hl2 o1 o2=>?_⟩;rw[rn] at o1;rw[<-o1] at k;exact k _ _ (cG.step T2 (cG.lv (S1.laid hl) (sh λq hq=>(hq2 q (o2 q hq)).2) hl2))
   ·rw[Np c] at e7;cases e7
  ·rw[Np ok] at e7;cases e7
noncomputable def El(d e:D)(h:MH):Option (D×MH):=(iG d).bind λp=>(iG e).bind λq=>if(aG 8 p&&aG 8 q&&jw 8 p q)=true then some (.bl (fD 8 p q),h) else none
theorem GU{X:Cx}(hu:X.A.units+64 < cLine):jB X (compareOp .Lt) El:=by
 intro pins s σ H x y v u Q I rx ry hh;obtain⟨ρ,h,d,e,z,h',S,rd,re,ee,k⟩:=hh;obtain⟨p,e1,e2⟩:=bu ee;obtain⟨q,e3,e4⟩:=bu e2
 by_cases c:(aG 8 p&&aG 8 q&&jw 8 p q)=true
 ·rw[Nj c] at e4;cases e4;simp only[Nn] at c;obtain⟨as,ra⟩:=(rd.oo e1).1.reads I rx;obtain⟨bs,rb⟩:=(re.oo e3).1.reads I ry;have fin:=k (.bl (fD 8 p q)) H (.here S (.bl _));have lt:=uI 8 (A:=X.A) (by lia) c.1.1 c.1.2 c.2 ra rb X.prog X.w X.xe (EP X pins σ Q) ⟨.bl _,H,I,rfl,fin⟩;exact lt
 ·rw[Np c] at e4;cases e4
end Sm
namespace L2
open PySem PySem.Spec PyProof.Rows
structure Ti(K:FR)(mg:Str->Option Value)(nm:Str)(es:List Int):Prop where
 ex:∃(a:Addr)(o:Obj)(its:Array Value)(n:Nat),mg nm=some (.ref a)/\K.lookup a=some o/\o.cls=.type "tuple"/\o.dict=none/\o.data=.seq its n/\its.size<=sizeLine/\Hd.I8 its.toList=some es
theorem xt:∀{vs:List Value} {es:List Int},Hd.I8 vs=some es->Vals (es.map V.int) vs
 | [],_,e=>by cases e;exact .nil
 | v::r,es,e=>by
  cases v <;> first |(cases e;done) | skip
  obtain⟨ys,e1,e2⟩:=N5.mp (show(Hd.I8 r).map _=some es from e);subst e2;exact .cons ⟨_,rfl⟩ (xt e1)
end L2
namespace Hd
open PySem PySem.W PySem.Spec PyProof.Rows L2 Sm
theorem yB{h h':Heap}{nm:Str}{r:List Int}(k:Sub h h')(x:tU h nm=some r):tU h' nm=some r:=by
 have hg:∀v,h.nsMap mainGlobals nm=some v->h'.nsMap mainGlobals nm=some v:=λv e=>by
  unfold Heap.nsMap at e ⊢
  split at e
  ·rename_i o ho;rw[k _ _ ho];exact e
  ·cases e
 unfold tU at x ⊢
 split at x
 ·rename_i a ha;rw[hg _ ha];dsimp only
  split at x
  ·rename_i o ho;rw[k _ _ ho];exact x
  ·cases x
 ·cases x
theorem I0{h:Heap}{mg:Str->Option Value}{nm:Str}{es:List Int}(x:tU h nm=some es)(g:h.Ns mainGlobals mg):Ti (aO h) mg nm es:=by
 unfold tU at x
 split at x
 ·rename_i a ha
  split at x
  ·rename_i o ho
   split at x
   ·rename_i hc;rw[Nn] at hc
    split at x
    ·rename_i its n hd
     split at x
     ·rename_i hz;have hm:mg nm=some (.ref a):=by
       obtain⟨o',es',ep',g1,g2,_,g3⟩:=g;rw[<-g3 nm,<-ha];unfold Heap.nsMap;rw[g1];dsimp only;rw[g2]
      exact⟨a,o,its,n,hm,lD ho rfl,Cj hc.1,by simpa using hc.2,hd,Nr hz (by decide),x⟩
     ·cases x
    ·cases x
   ·cases x
  ·cases x
 ·cases x
end Hd
namespace Sm
open PySem L2 PySem.Spec PyProof.Rows PySem.SeqAt
theorem z8{K:FR}{ρ:Ad}{H:Hp}:∀{es:List Int},ar K ρ H (es.map V.int) (es.map D.int)
 | []=>.nil
 | _::_=>.cons (.int _) z8
theorem Js{X:Cx}{nm:Str}{pos:Pos}{es:List Int}(T:Ti X.K X.mg nm es)(hg:Gl X nm:=by unfold Gl;ac_nf)(hd:(nm==("__debug__":Str))=false:=by ac_nf):SE X (.Name nm pos) (eK (.tup (es.map D.int))):=by
 obtain⟨a,o,its,n,h1,h2,h3,h4,h5,h6,h7⟩:=T.ex;exact vR (xH (v:=.ref a) hg h1 rfl hd) λρ H=>.tup (.inr (.inr ⟨o,its,n,h2,h3,h5,h6,xt h7,h4⟩)) z8
noncomputable def uH:Iz:=λd ds h=>match d,ds with
 | .ob n,[.int i]=>match h[n]? with
  | some (.lst xs)=>if 0<=i/\i < 1000000 then(xs[i.toNat]?).map λy=>(y,h.set n (.lst (xs.eraseIdx i.toNat))) else none
  | _=>none
 | _,_=>none
theorem nZ{K:FR}{ρ:Ad}{H:Hp}:∀{vs:List V} {ds:List D} (i:Nat),ar K ρ H vs ds->ar K ρ H (vs.eraseIdx i) (ds.eraseIdx i)
 | _,_,_,.nil=>.nil
 | _,_,0,.cons _ t=>t
 | _,_,i+1,.cons q t=>.cons q (nZ i t)
theorem D4{X:Cx}:Ll X "list.pop" (rM X.K uH):=by
 intro pins s σ H x xs v us Q I rx rs hh;obtain⟨ρ,h,d,ds,z,h',S,rd,l,ee,k⟩:=hh;cases d <;> first |(exact bV ee) | skip
 rename_i n
 match ds,l,ee with
 | [],_,ee=>exact bV ee
 | [.int i],l,ee=>
  unfold uH at ee;dsimp only at ee;cases q:h[n]? with
  | none=>rw[q] at ee;cases ee
  | some w=>
   rw[q] at ee;cases w with
   | dct _=>exact bV ee
   | dcH _=>exact bV ee
   | lst ys=>
    dsimp only at ee
    by_cases c:0<=i/\i < 1000000
    ·rw[Nj c] at ee;obtain⟨y,e2,e3⟩:=eC ee;cases e3;obtain⟨a,vs,rfl,hn,e1,l1⟩:=Bm S rd q;cases l with
     | cons r0 l=>
      cases l;cases r0;obtain⟨u,e4,r4⟩:=l1.got e2;have T:cF ρ H ρ (upd H a (.lst (vs.eraseIdx i.toNat))):=cF.wrote S (Ni hn);have hlt:=(Ng.mp e4).1;refine Bw pins s σ H _ _ v us Q I rx rs ⟨a,vs,i,i.toNat,u,rfl,rfl,e1,Oy (by decide) c.1,RF c.2 (by decide),?_,e4,k _ _ ⟨ρ,T,S.wrote hn ⟨_,aT,(nZ _ l1).mono T.toCh⟩,r4.mono T.toCh⟩⟩;unfold seqIndex?;rw[Np (Int.not_lt.mpr c.1)];dsimp only;rw[Nj (by rw[Nn];exact⟨NC c.1,NC (by lia)⟩)]
    ·rw[Np c] at ee;cases ee
end Sm
namespace Pg
open PySem Sm L2
abbrev Term:=Str×Int
abbrev Lock:=Str×Term
inductive Row where
 | say (w:Str)
 | call (d:Str) (ts:List Term)
 | within (l:Lock) (b:List Row)
 | all (ls:List Lock) (b:List Row)
 | ask (l:Lock) (b e:List Row)
 | HV (s t:Term) (a b c:List Row)
 | either (a b:List Row)
 | again (a:List Row)
noncomputable def bA(t:Term):D:=.tup [.str t.1,.int t.2]
noncomputable def aE(l:Lock):D:=.tup [.str l.1,bA l.2]
mutual
noncomputable def bE:Row->D
 | .say w=>.tup [.str "say",.str w]
 | .call d ts=>.tup [.str "call",.str d,.tup (ts.map bA)]
 | .within l b=>.tup [.str "within",aE l,.tup (bS b)]
 | .all ls b=>.tup [.str "all",.tup (ls.map aE),.tup (bS b)]
 | .ask l b e=>.tup [.str "ask",aE l,.tup (bS b),.tup (bS e)]
 | .HV s t a b c=>.tup [.str "by",bA s,bA t,.tup (bS a),.tup (bS b),.tup (bS c)]
 | .either a b=>.tup [.str "either",.tup (bS a),.tup (bS b)]
 | .again a=>.tup [.str "again",.tup (bS a)]
noncomputable def bS:List Row->List D
 | []=>[]
 | r::rs=>bE r::bS rs
end
theorem j9:∀l:List Row,bS l=l.map bE
 | []=>by simp[bS]
 | r::rs=>by simp[bS,j9 rs]
mutual
noncomputable def cnt:Row->Nat
 | .say _=>1
 | .call _ _=>1
 | .within _ b=>1+cN b
 | .all _ b=>1+cN b
 | .ask _ b e=>1+cN b+cN e
 | .HV _ _ a b c=>1+cN a+cN b+cN c
 | .either a b=>1+cN a+cN b
 | .again a=>1+cN a
noncomputable def cN:List Row->Nat
 | []=>0
 | r::rs=>cnt r+cN rs
end
theorem vh:∀a b:List Row,cN (a++b)=cN a+cN b
 | [],b=>by simp[cN]
 | r::a,b=>by simp[cN,vh a b];lia
structure Wd where
 names:List Str
 av:List Str
 params:List (List Str)
def dU(ps:List Str)(t:Term):Prop:=(t.1=Str.ofString ""\/t.1∈ps)/\-99<=t.2/\t.2<=99
def eR(W:Wd)(ps:List Str)(l:Lock):Prop:=l.1∈W.names/\dU ps l.2
mutual
def cY(W:Wd)(ps:List Str):Nat->Row->Prop
 | _,.say w=>w∈W.names++W.av
 | _,.call d ts=>(∃(j:Nat)(qs:List Str),W.av[j]?=some d/\W.params[j]?=some qs/\ts.length=qs.length)/\∀t∈ts,dU ps t
 | n,.within l b=>eR W ps l/\n < 5/\b.length<=12/\bH W ps (n+1) b
 | n,.all ls b=>(2<=ls.length/\ls.length<=4/\ls.Nodup/\∀l∈ls,eR W ps l)/\n < 5/\b.length<=12/\bH W ps (n+1) b
 | n,.ask l b e=>eR W ps l/\n < 5/\b.length<=12/\e.length<=12/\bH W ps (n+1) b/\bH W ps (n+1) e
 | n,.HV s t a b c=>dU ps s/\dU ps t/\n < 5/\a.length<=12/\b.length<=12/\c.length<=12/\bH W ps (n+1) a/\bH W ps (n+1) b/\bH W ps (n+1) c
 | n,.either a b=>n < 5/\a.length<=12/\b.length<=12/\bH W ps (n+1) a/\bH W ps (n+1) b
 | n,.again a=>n < 5/\a.length<=12/\bH W ps (n+1) a
def bH(W:Wd)(ps:List Str):Nat->List Row->Prop
 | _,[]=>True
 | n,r::rs=>cY W ps n r/\bH W ps n rs
end
theorem qD{W:Wd}{ps:List Str}{n:Nat}:∀{a b:List Row},bH W ps n a->bH W ps n b->bH W ps n (a++b)
 | [],b,_,h=>h
 | r::a,b,h,h'=>by
  unfold bH at h;show bH W ps n (r::(a++b));unfold bH;exact⟨h.1,qD h.2 h'⟩
end Pg
set_option hygiene false in
local macro_rules | `(tactic| ac_rfl) => do {let t <- (("|Sm.sv _|Sm.aZ|Sm.ak|Sm.aa ? ?|Sm.ab ? ?|Sm.aF ?|Sm.bg ?|Sm.sset _ @ ?|Sm.bo ? ? ?|Sm.aR|Sm.six hr ? ?|Sm.gF @ hr ?|Sm.cc|Sm.Ar|Sm.xA|Sm.LF ?|Sm.LG ?|Sm.LD ?|Sm.LH ?|Sm.stp4 ?|Sm.stp5 ?|Sm.LC ?|Sm.Jp ? ? ?|Sm.bq ? ? ?|Sm.bK|Sm.GX hr.units|Sm.wq hr.units|Sm.JR|Sm.Fb|Sm.oD|Sm.Fc|Sm.GV|Sm.os_notN|Sm.E9 hr.units|Sm.Bf hr.units|Sm.Bc|Sm.oC|Sm.Ap Sm.vG ?|Sm.F1 ? ? ?|Sm.De|Sm.Dd ?|Sm.fy ? ?|Sm.rW rfl ?|Sm.dJ ? ?|Sm.mR|Sm.sgn _ @|Sm.jh Sm.HF B.KC Sm.HZ ?|Sm.IB Sm.iz B.bM Sm.bt ?|Sm.cb ?|Sm.cI ?|Sm.se_if ? ? ?|Sm.rO ?|Sm.Dk Sm.nu PySem.F.plainAttrs_list PySem.F.slot_list_append PySem.F.type_list_append Sm.lx ? ?|Sm.se_m0 Sm.nu PySem.F.plainAttrs_list PySem.F.slot_list_pop PySem.F.type_list_pop Sm.mS_pop ?|Sm.mE.lv ?|Sm.mE.ob ?|Sm.LL ?|Sm.LK ?|Sm.LJ ?|Sm.sfl3 ?|Sm.sfl4 ?|Sm.sfl5 ?|Sm.sfl6 ?|Sm.sfl7 ?|Sm.LI ?|Sm.jg ? ?|Sm.fJ ? ?|Sm.jJ ?|Sm.nB ?|Sm.dz PassesOwn.never rfl ? ? ?|Sm.eJ ?|Sm.ss_brk|Sm.jh Sm.HE~rfl B.KA Sm.HY ?|Sm.jh Sm.HD~rfl B.Kz Sm.HX ?|Sm.IB Sm.HG B.CA Sm.xf ?|Sm.jh Sm.HH B.KD Sm.Ia ?|Sm.Jq ? ? ?|Sm.SW.st ?".splitOn "|").drop 1).toArray.mapM (λl => do {let x <- (l.splitOn " ").toArray.mapM (λz => if z == "?" then `(?_) else if z == "_" then `(_) else if z == "@" then `(‹_›) else(let y := (z.splitOn "~").toArray.map (λw => (Lean.mkIdent w.toName : Lean.TSyntax `term));pure (Lean.Syntax.mkApp y[0]! (y.extract 1 y.size))));`(Lean.Parser.Tactic.tacticSeq| refine $(Lean.Syntax.mkApp x[0]! (x.extract 1 x.size)) <;> ac_rfl)});`(tactic| with_reducible first $[| $t]*)}
local macro_rules | `(tactic| walk_at "v") => `(tactic|(conv => arg 2;whnf))
local macro_rules | `(tactic| walk_at "u") => `(tactic|(walk_at "v";ac_rfl))
namespace Mi
open PySem L2 Sm PySem.Spec PyProof.Rows
local macro_rules | `(tactic| walk_at "b") => `(tactic| first | exactλF => F.binds λ_ _ _ _ _ _ => Hd.u1 (λ_ => rfl) | exactλF => F.binds λ_ _ _ _ _ _ => Hd.u2 (λ_ _ => rfl) | exactλF => F.binds λ_ _ _ _ _ _ => Hd.u3 (λ_ _ _ => rfl) | exactλF => F.binds λ_ _ _ _ _ _ => Hd.u4 (λ_ _ _ _ => rfl) | exactλF => F.binds λ_ _ _ _ _ _ => Hd.u5 (λ_ _ _ _ _ => rfl) | exactλF => F.binds λ_ _ _ _ _ _ => Hd.u6 (λ_ _ _ _ _ _ => rfl) | exactλF => F.binds λ_ _ _ _ _ _ => Hd.u7 (λ_ _ _ _ _ _ _ => rfl))
structure Bs(P:Program)(w:World)(K:FR)(mg:Str->Option Value):Prop where
 KD:mg "abs"=none
 vq:mg "all"=none
 xh:mg "bool"=none
 vp:mg "enumerate"=none
 CA:mg "int"=none
 ay:mg "isinstance"=none
 KC:mg "len"=none
 lK:mg "list"=none
 KA:mg "max"=none
 Kz:mg "min"=none
 di:mg "range"=none
 Fj:mg "set"=none
 kC:mg "sorted"=none
 yo:mg "str"=none
 bM:mg "tuple"=none
 Cz:mg "zip"=none
 tN:Ln mg "MOST_LAYER" (.int (9))
 jf:Ln mg "MOST_FIGURE" (.int (99))
 EO:Ti K mg "SIDES" ([1,-1]:List Int)
abbrev Rc(x:Str)(s:Stmt):Prop:=(recsOf view).find? (λe=>e.name==x)=some (Hd.oh x s)
abbrev jR:Stmt:=top 13
abbrev gr:List Str:=["_law_script"]
theorem pP:aD gr gr (ao jR):=by walk_at "s"
theorem og:Rc "_law_drawn" jR:=by ac_nf
noncomputable def eD:Fn:=kQ 1
  (aI (CO (a3 (ki 0) (CO (kG (a1 (fX v0 qB (qC (ki 63)))))) (ki 0))))
abbrev lW:Stmt:=top 14
abbrev ic:List Str:=["_law_state"]
theorem gd:aD (ic.append ["_law_cells","_law_tour","_law_cell","_law_mixed"]) ic (ao lW):=by walk_at "s"
theorem pT:Rc "_law_load" lW:=by ac_nf
noncomputable def iB:Fn:=kQ 5
  (aj (aJ 1 (ah aH v0 (ki 1)))
  (aj (aJ 2 (ah aH v0 (ki 2)))
  (aj (iP (ah az v2 (ki 1)) (pY v0 (ki 2)))
  (aj (aJ 3 (ki 0))
  (aj (c7 (ax (ah dY v1 (dP bj))) (aJ 3 (ah aH v1 (ah oQ v2 (ai bW (a1 v1))))) aW)
  (c7 (f6 (ax (ah Em v2 (ai bW (a1 v1)))) (ax (ah Kp (ai Hx (a1 v3)) (ah Ej (ki 10) (ki 18))))) (iP (ai Hx (a1 v3)) (pY v0 (ki 0))) (aj (aJ 4 (ah oQ (ah ir (ah az (ah az (ah oQ v3 (ki 2305843009213693951)) (ah ir (ah ir (ki 7919) v2) v2)) (ki 11)) (ki 48271)) (ki 2305843009213693951)))
  (aj (aJ 4 (ah oQ (ah ir v4 v4) (ki 2305843009213693921)))
  (iP (ah az (ah oQ (ah az (ah az (ah ir v4 (ki 69621)) v2) (ki 104729)) (ki 2305843009213693951)) (ah Ej (ki 10) (ki 9))) (pY v0 (ki 0)))))))))))
abbrev lT:Stmt:=top 15
abbrev ia:List Str:=["_law_state","_law_many"]
theorem rY:aD (ia.append ["_law_found"]) ia (ao lT):=by walk_at "s"
theorem pR:Rc "_law_next" lT:=by ac_nf
noncomputable def aq:Fn:=kQ 3
  (aj (c7 (ax (ah Em (ah aH v0 (ki 0)) v1)) (jS (ai iB (a1 v0))) aW)
  (aj (aJ 2 (ah oQ (ah aH v0 (ki 0)) v1))
  (aj (iP (ah BV (ah aH v0 (ki 0)) v1) (pY v0 (ki 0)))
  (aI v2))))
abbrev qq:Stmt:=top 16
abbrev lj:List Str:=["_law_state","_law_some"]
theorem vU:aD lj lj (ao qq):=by walk_at "s"
theorem uh:Rc "_law_of" qq:=by ac_nf
noncomputable def aw:Fn:=kQ 2
  (aI (ah aH v1 (ai aq (a2 v0 (ai bW (a1 v1))))))
abbrev jQ:Stmt:=top 17
abbrev gn:List Str:=["_law_state","_law_many"]
theorem iZ:aD (gn.append ["_law_letters","_law_stem","_law_k","_law_at","_law_first","_law_stride"]) gn (ao jQ):=by walk_at "s"
theorem oa:Rc "_law_words" jQ:=by ac_nf
noncomputable def dm:Fn:=kQ 8
  (aj (aJ 2 (ks "abcdefghijklmnopqrstuvwxyz"))
  (aj (aJ 3 (ks ""))
  (aj (ji (mK (a1 (ai aw (a2 v0 (eK (.lv [.int 0,.int 1,.int 1,.int 2,.int 3,.int 6])))))) (gN 4) (aJ 3 (ah az v3 (ah aH v2 (ai aq (a2 v0 (ki 26)))))))
  (aj (aJ 5 (ai aq (a2 v0 (ah az (ai bW (a1 v3)) (ki 1)))))
  (aj (aJ 6 (ai aq (a2 v0 (ki 26))))
  (aj (aJ 7 (ai aw (a2 v0 (eK (.lv [.int 1,.int 3,.int 5,.int 7,.int 9,.int 11])))))
  (aI (dP (cw [none,some 5,some 6,some 2,some 3,some 7] (mK (a1 v1)) (gN 0) ck (ah az (ah az (fX v4 qB (qC v1)) (ah aH v3 (ah oQ (ah az v2 (ah ir v5 v0)) (ki 26)))) (fX v4 (qC v1) qB)))))))))))
abbrev jP:Stmt:=top 18
abbrev gm:List Str:=["_law_state","_law_most","_law_odd"]
theorem b5:aD (gm.append ["_law_names","_law_deeds","_law_params","_law_many","_law_floors"]) gm (ao jP):=by walk_at "s"
theorem n5:Rc "_law_world" jP:=by ac_nf
noncomputable def gD:Fn:=kQ 8
  (aj (aJ 3 (ai dm (a2 v0 (ai aw (a2 v0 (eK (.lv [.int 1,.int 2,.int 2,.int 3,.int 4,.int 6])))))))
  (aj (aJ 4 (ai dm (a2 v0 (ai aw (a2 v0 (eK (.lv [.int 1,.int 1,.int 2,.int 2,.int 3,.int 4,.int 6])))))))
  (aj (aJ 5 (ai dm (a2 v0 (ki 3))))
  (aj (aJ 6 (dP (cw [none,some 0] (gY v4) (gN 0) ck (ai aw (a2 v1 (eK (.lv [.int 0,.int 1,.int 1,.int 2,.int 2,.int 3])))))))
  (aj (aJ 7 (ai BQ (a1 (dP (cw [none,some 3,some 0] (gY v4) (gN 0) ck (ai aq (a2 v2 (ai bW (a1 v1)))))))))
  (aj (aJ 5 (dP (cw [none,some 5] (gY v6) (gN 0) ck (fX v1 qB (qC v0)))))
  (aI (wV (fP (ks "names") v3 (fP (ks "deeds") v4 (fP (ks "params") v5 (fP (ks "floors") v7 (fP (ks "left") v1 (fP (ks "odd") v2 GR))))))))))))))
abbrev i7:Stmt:=top 19
abbrev fC:List Str:=["_law_state","_law_world_here"]
theorem nM:aD fC fC (ao i7):=by walk_at "s"
theorem mH:Rc "_law_is_odd" i7:=by ac_nf
noncomputable def cQ:Fn:=kQ 2
  (aI (oW (ah xZ (ah aH v1 (ks "odd")) (ki 0)) (ah cV (ai aq (a2 v0 (ah aH v1 (ks "odd")))) (ki 0))))
abbrev lS:Stmt:=top 20
abbrev hZ:List Str:=["_law_state","_law_params"]
theorem rX:aD (hZ.append ["_law_far"]) hZ (ao lS):=by walk_at "s"
theorem pQ:Rc "_law_term" lS:=by ac_nf
noncomputable def bw:Fn:=kQ 3
  (aj (aJ 2 (ah sQ (ai aq (a2 v0 (ki 81))) (ki 40)))
  (aj (c7 (f6 (ax (ah xZ (ai bW (a1 v1)) (ki 0))) (ax (ah xZ (ai aq (a2 v0 (ki 5))) (ki 0)))) (aI (ai aL (a2 (ai aw (a2 v0 v1)) (ai aw (a2 v0 (dP (ag (ki 0) (ag (ki 0) (ag (ki 0) (ag (ki 0) (ag (ki 1) (a4 (ki 1) (tQ gW (ki 1)) (ki 2) v2)))))))))))) aW)
  (aI (ai aL (a2 (ks "") (ai aw (a2 v0 (dP (ag (ki 0) (ag (ki 0) (ag (ki 1) (ag (ki 1) (a4 (ki 2) (ki 3) (tQ gW (ki 1)) v2)))))))))))))
abbrev lX:Stmt:=top 22
abbrev ie:List Str:=["_law_state","_law_world_here","_law_deed","_law_top"]
theorem eu:aD (ie.append ["_law_some","_law_other","_law_terms"]) ie (ao lX):=by walk_at "s"
theorem pU:Rc "_law_call" lX:=by ac_nf
noncomputable def fw:Fn:=kQ 7
  (aj (aJ 4 (dP (cw [none,some 2,some 3,some 1] (mK (a1 (ai bW (a1 (ah aH v1 (ks "deeds")))))) (gN 0) (f6 (ax (ah xZ (ah aH (ah aH v3 (ks "floors")) v0) v2)) (ax (ah Kp v0 v1))) v0)))
  (aj (c7 (bT (ai cQ (a2 v0 v1))) (aJ 4 (dP (Ii (a1 (ai bW (a1 (ah aH v1 (ks "deeds")))))))) aW)
  (aj (c7 (ax (ah cV v4 (dP bj))) (aI (ai aL (a2 (ks "say") (ah aH (ah aH v1 (ks "deeds")) v2)))) aW)
  (aj (aJ 5 (ai aw (a2 v0 v4)))
  (aj (aJ 6 (dP (cw [none,some 2,some 0,some 1] (gY (ah aH (ah aH v1 (ks "params")) v5)) (gN 0) ck (ai bw (a2 v2 (ah aH (ah aH v3 (ks "params")) v1))))))
  (aI (ai aL (a3 (ks "call") (ah aH (ah aH v1 (ks "deeds")) v5) (ai cv (a1 v6))))))))))
abbrev lV:Stmt:=top 21
abbrev ib:List Str:=["_law_state","_law_world_here","_law_deed","_law_top","_law_held"]
theorem jM:aD (ib.append ["_law_low","_law_at","_law_name","_law_same","_law_word","_law_more"]) ib (ao lV):=by walk_at "s"
theorem pS:Rc "_law_lock" lV:=by ac_nf
noncomputable def dO:Fn:=kQ 11
  (aj (aJ 5 (ai p5 (a2 v3 (ah aH (ah aH v1 (ks "floors")) v2))))
  (aj (c7 (ax (ah cV v5 (ai bW (a1 (ah aH v1 (ks "names")))))) (aI (ai aL (a2 (eK .bx) (eK .bx)))) aW)
  (aj (aJ 6 (ah az v5 (ai aq (a2 v0 (ah sQ (ai bW (a1 (ah aH v1 (ks "names")))) v5)))))
  (aj (c7 (bT (ai cQ (a2 v0 v1))) (aJ 6 (ai aq (a2 v0 (ai bW (a1 (ah aH v1 (ks "names"))))))) aW)
  (aj (aJ 7 (ah aH (ah aH v1 (ks "names")) v6))
  (aj (aJ 8 (dP (cw [none,some 7] (gY v4) (gN 0) (ax (ah cV (ah aH v0 (ki 0)) v1)) (ah aH v0 (ki 1)))))
  (aj (c7 (f6 (ax (ah dY v8 (dP bj))) (cm (bT (ai cQ (a2 v0 v1))))) (aj (iP (ah aH v8 (tQ gW (ki 1))) (gT 2 (aC (gN 9) (aC (gN 10) cM))))
  (aI (ai aL (a2 v6 (ai aL (a2 v7 (ai aL (a2 v9 (ai zq (a2 (ki 99) (ah az (ah az v10 (ki 1)) (ai aq (a2 v0 (ki 2)))))))))))))) aW)
  (aI (ai aL (a2 v6 (ai aL (a2 v7 (ai bw (a2 v0 (ah aH (ah aH v1 (ks "params")) v2)))))))))))))))
abbrev nR:Stmt:=top 26
abbrev gq:List Str:=["_law_state","_law_world_here","_law_deed","_law_deep","_law_top","_law_held","_law_most"]
theorem ud:aD (gq.append ["_law_rows","_law_k"]) gq (ao nR):=by walk_at "s"
theorem jU:Rc "_law_lot" nR:=by ac_nf
abbrev nQ:Stmt:=top 25
abbrev gp:List Str:=["_law_state","_law_world_here","_law_deed","_law_deep","_law_top","_law_held"]
theorem cp:aD (gp.append ["_law_way","_law_one","_law_other","_law_lots","_law_sort"]) gp (ao nQ):=by walk_at "s"
theorem jT:Rc "_law_row" nQ:=by ac_nf
abbrev i6:Stmt:=top 24
abbrev dE:List Str:=["_law_state","_law_world_here","_law_deed","_law_deep","_law_top","_law_held","_law_way"]
theorem cq:aD (dE.append ["_law_at","_law_lock_here","_law_some","_law_high","_law_turn","_law_low","_law_other","_law_lot_here"]) dE (ao i6):=by walk_at "s"
theorem gK:Rc "_law_locked" i6:=by ac_nf
abbrev gH:Stmt:=top 23
abbrev cR:List Str:=["_law_state","_law_world_here","_law_deed","_law_deep","_law_top","_law_held"]
theorem cC:aD (cR.append ["_law_low","_law_name","_law_one","_law_other","_law_lots","_law_first","_law_second","_law_inner"]) cR (ao gH):=by walk_at "s"
theorem fm:Rc "_law_two_ways" gH:=by ac_nf
mutual
noncomputable def a8:Nat->Fn
 | 0=>λ_ _=>none
 | n+1=>Ha 9
  (aj (aJ 7 (CO bj))
  (aj (ji (mK (a1 (ai aq (a2 v0 (ah az (ai aw (a2 v0 (ah az (ah Ei (dP (a1 v6)) (ki 15)) (dP (a1 (ki 12)))))) (ki 1)))))) (gN 8) (c7 (ax (ah xZ (ah aH v1 (ks "left")) (ki 0))) (aj (iP (ah sQ (ah aH v1 (ks "left")) (ki 1)) (pY v1 (ks "left")))
  (jS (eM fU dG v7 (a1 (ai (fb n) (ag v0 (ag v1 (a4 v2 v3 v4 v5)))))))) aW))
  (aI (ai cv (a1 v7)))))
noncomputable def fb:Nat->Fn
 | 0=>λ_ _=>none
 | n+1=>kQ 11
  (aj (aJ 6 (ai aq (a2 v0 (ki 16))))
  (aj (c7 (jD (ax (ah Em v6 (ki 2))) (f6 (ax (ah cV v3 (ki 5))) (ax (ah Em v6 (ki 11))))) (aI (ai aL (a2 (ks "say") (ai aw (a2 v0 (ah az (ah aH v1 (ks "names")) (ah aH v1 (ks "deeds")))))))) aW)
  (aj (c7 (jD (ax (ah xZ v6 (ki 12))) (ax (ah cV v3 (ki 5)))) (aI (ai fw (a4 v0 v1 v2 v4))) aW)
  (aj (c7 (f6 (ax (ah cV v6 (ki 12))) (f6 (ax (ah Em v3 (ki 3))) (ax (ah xZ (ah aH v1 (ks "left")) (ki 5))))) (aI (ai (bZ n) (ag v0 (ag v1 (a4 v2 v3 v4 v5))))) aW)
  (aj (c7 (jD (ax (ah cV v6 (ki 11))) (ax (ah cV v6 (ki 12)))) (aj (Aw 7 8 (a2 (ai bw (a2 v0 (ah aH (ah aH v1 (ks "params")) v2))) (ai bw (a2 v0 (ah aH (ah aH v1 (ks "params")) v2)))))
  (aj (aJ 9 (dP (cw [none,some 2,some 3,some 5,some 0,some 4,some 1] (mK (a1 (ki 3))) (gN 0) ck (ai (a8 n) (ag v4 (ag v6 (ag v1 (a4 (ah az v2 (ki 1)) v5 v3 (ki 2)))))))))
  (aI (ah az (ai aL (a3 (ks "by") v7 v8)) (ai cv (a1 v9)))))) aW)
  (aj (c7 (ax (ah cV v6 (ki 10))) (aj (aJ 9 (dP (cw [none,some 2,some 3,some 5,some 0,some 4,some 1] (mK (a1 (ki 2))) (gN 0) ck (ai (a8 n) (ag v4 (ag v6 (ag v1 (a4 (ah az v2 (ki 1)) v5 v3 (ki 2)))))))))
  (aI (ah az (ai aL (a1 (ks "either"))) (ai cv (a1 v9))))) aW)
  (aj (c7 (ax (ah cV v6 (ki 9))) (aI (ai aL (a2 (ks "again") (ai (a8 n) (ag v0 (ag v1 (ag v2 (a4 (ah az v3 (ki 1)) v4 v5 (ki 2))))))))) aW)
  (aj (aJ 10 (ai aw (a2 v0 (eK (.lv [.str "within",.str "within",.str "within",.str "within",.str "ask",.str "all"])))))
  (aI (ai (cP n) (ag v0 (ag v1 (ag v2 (a4 v3 v4 v5 v10))))))))))))))
noncomputable def cP:Nat->Fn
 | 0=>λ_ _=>none
 | n+1=>Ha 15
  (aj (iP (ai dO (ag v0 (a4 v1 v2 v4 v5))) (gT 2 (aC (gN 7) (aC (gN 8) cM))))
  (aj (c7 (ax (ah Ko v7 (eK .bx))) (aI (ai aL (a2 (ks "say") (ah aH (ah aH v1 (ks "deeds")) v2)))) aW)
  (aj (c7 (ax (ah cV v6 (ks "all"))) (aj (Aw 9 10 (a2 (CO (a1 v8)) v7))
  (aj (ji (mK (a1 (ai aw (a2 v0 (eK (.lv [.int 1,.int 1,.int 2,.int 3])))))) (gN 11) (aj (iP (ai dO (ag v0 (a4 v1 v2 v4 v5))) (gT 2 (aC (gN 12) (aC (gN 13) cM))))
  (aj (aJ 10 (ai p5 (a2 v10 Lr)))
  (aJ 9 (CO (Ij v9 (ah Ei (dP (a1 Lq)) (ai uV (a1 (ah fF Lq v9))))))))))
  (aj (c7 (ax (ah cV (ai bW (a1 v9)) (ki 1))) (jS (eM fU dG v9 (a1 (ai aL (a2 (ah aH v8 (ki 0)) (ai aL (a2 (ah aH (ah aH v8 (ki 1)) (ki 0)) (ah sQ (ah az (ah aH (ah aH v8 (ki 1)) (ki 1)) (ki 1)) (ah ir (ki 2) (ai uV (a1 (ah xZ (ah aH (ah aH v8 (ki 1)) (ki 1)) (ki 90))))))))))))) aW)
  (aj (aJ 10 (ah az v10 (ai uV (a1 (ah cV (ah aH v1 (ks "odd")) (ki 0))))))
  (aI (ai aL (a3 (ks "all") (ai cv (a1 v9)) (ai (a8 n) (ag v0 (ag v1 (ag v2 (a4 (ah az v3 (ki 1)) (ai p5 (a2 v4 v10)) (ah az v5 v9) (ki 3))))))))))))) aW)
  (aj (aJ 14 (ai (a8 n) (ag v0 (ag v1 (ag v2 (a4 (ah az v3 (ki 1)) (ai p5 (a2 v4 v7)) (ah az v5 (dP (a1 v8))) (ki 3)))))))
  (aj (c7 (ax (ah cV v6 (ks "ask"))) (aI (ai aL (a4 (ks "ask") v8 MA (ai (a8 n) (ag v0 (ag v1 (ag v2 (a4 (ah az v3 (ki 1)) v4 v5 (ki 2))))))))) aW)
  (aI (ai aL (a3 (ks "within") v8 MA))))))))
noncomputable def bZ:Nat->Fn
 | 0=>λ_ _=>none
 | n+1=>Ha 14
  (aj (aJ 6 (ai p5 (a2 v4 (ah aH (ah aH v1 (ks "floors")) v2))))
  (aj (c7 (ax (ah cV v6 (ai bW (a1 (ah aH v1 (ks "names")))))) (aI (ai aL (a2 (ks "say") (ah aH (ah aH v1 (ks "deeds")) v2)))) aW)
  (aj (c7 (ax (ah dY (dP (cw [none,some 6,some 1] (gY v5) (gN 0) (ax (ah cV (ah aH v0 (ki 0)) (ah aH (ah aH v2 (ks "names")) v1))) v0)) (dP bj))) (aI (ai aL (a2 (ks "say") (ah aH (ah aH v1 (ks "deeds")) v2)))) aW)
  (aj (aJ 7 (ah aH (ah aH v1 (ks "names")) v6))
  (aj (iP (ah sQ (ah aH v1 (ks "left")) (ki 5)) (pY v1 (ks "left")))
  (aj (Aw 8 9 (a2 (ai bw (a2 v0 (ah aH (ah aH v1 (ks "params")) v2))) (ai bw (a2 v0 (ah aH (ah aH v1 (ks "params")) v2)))))
  (aj (aJ 10 (CO bj))
  (aj (ji (gY (dP (a2 (ai aL (a2 v8 v9)) (ai aL (a2 v9 v8))))) (gT 2 (aC (gN 11) (aC (gN 12) cM))) (aj (aJ 13 (ai (a8 n) (ag v0 (ag v1 (ag v2 (a4 (ah az v3 (ki 3)) v6 (ah az v5 (dP (a2 (ai aL (a2 v7 v11)) (ai aL (a2 v7 Lr))))) (ki 2)))))))
  (jS (eM fU dG v10 (a1 (ai aL (a1 (ai aL (a3 (ks "within") (ai aL (a2 v7 v11)) (ai aL (a1 (ai aL (a3 (ks "within") (ai aL (a2 v7 Lr)) Lq)))))))))))))
  (aI (ai aL (ag (ks "by") (ag v8 (a4 v9 (ah aH v10 (ki 0)) (ai aL (a1 (ai aL (a3 (ks "within") (ai aL (a2 v7 v8)) (ai aL bj))))) (ah aH v10 (ki 1)))))))))))))))
end
abbrev g8:Stmt:=top 27
abbrev eQ:List Str:=["_law_state","_law_most","_law_odd"]
theorem gG:aD (eQ.append ["_law_world_here","_law_deeds","_law_k","_law_deed","_law_rows"]) eQ (ao g8):=by walk_at "s"
theorem k8:Rc "_law_program" g8:=by ac_nf
noncomputable def fc:Fn:=Ha 8
  (aj (aJ 3 (ai gD (a3 v0 v1 v2)))
  (aj (aJ 4 (CO bj))
  (aj (ji (BK (a1 (ah aH v3 (ks "deeds")))) (gT 2 (aC (gN 5) (aC (gN 6) cM))) (aj (aJ 7 (ai (a8 20) (ag v0 (ag v3 (ag v5 (a4 (ki 1) (tQ gW (ki 1)) (dP bj) (ai aw (a2 v0 (eK (.lv [.int 1,.int 2,.int 3,.int 4,.int 12]))))))))))
  (jS (eM fU dG v4 (a1 (ai aL (a3 v6 (ai cv (a1 (ah aH (ah aH v3 (ks "params")) v5))) v7)))))))
  (aI (ai aL (a2 (ai cv (a1 (ai BP (a1 (ah aH v3 (ks "names")))))) (ai cv (a1 v4))))))))
abbrev fk:Stmt:=top 28
abbrev de:List Str:=["_law_state","_law_program_here","_law_takes"]
theorem cT:aD (de.append ["_law_at","_law_params","_law_some","_law_term_here","_law_more","_law_way","_law_name","_law_bound"]) de (ao fk):=by walk_at "s"
theorem iQ:Rc "_law_bent_takes" fk:=by ac_nf
noncomputable def dr:Fn:=Ha 11
  (aj (aJ 3 (ai aq (a2 v0 (ai bW (a1 v2)))))
  (aj (aJ 4 (dP (kG (a1 (ah aH (ah aH (ah aH v1 (ki 1)) v3) (ki 1))))))
  (aj (aJ 5 (CO (kG (a1 (ah aH v2 v3)))))
  (aj (aJ 6 (ai aL (a2 (ai aw (a2 v0 (ah az v4 (dP (a1 (ks "")))))) (ah sQ (ai aq (a2 v0 (ki 7))) (ki 3)))))
  (aj (aJ 7 (ai aL (a2 (ai aw (a2 v0 (ah aH v1 (ki 0)))) (ai aw (a2 v0 (dP (a2 (ai aL bj) v6)))))))
  (aj (aJ 8 (ai aq (a2 v0 (ki 4))))
  (aj (c7 (f6 (ax (ah dY v5 (dP bj))) (ax (ah xZ v8 (ki 0)))) (aj (iP (eM fU uH v5 (a1 (ai aq (a2 v0 (ai bW (a1 v5)))))) (gT 2 (aC (gN 9) (aC (gN 10) cM))))
  (aj (c7 (f6 (ax (ah cV v8 (ki 1))) (ax (ah zo v10 (ai aL bj)))) (aJ 7 (ai aL (a2 v9 (ai aL (a2 (ah aH v10 (ki 0)) (ai p5 (a2 (tQ gW (ki 99)) (ai zq (a2 (ki 99) (ah az (ah aH v10 (ki 1)) (ai aw (a2 v0 (dP (a2 (ki 1) (tQ gW (ki 1)))))))))))))))) aW)
  (c7 (ax (ah cV v8 (ki 2))) (aJ 7 (ai aL (a2 v9 (ai aL bj)))) aW))) aW)
  (aj (c7 (ax (ah Em v8 (ki 3))) (jS (eM fU dG v5 (a1 v7))) aW)
  (aI (ah az (ah az (fX v2 qB (qC v3)) (ai aL (a1 (ai cv (a1 (eF v5)))))) (fX v2 (qC (ah az v3 (ki 1))) qB)))))))))))
abbrev eL:Stmt:=top 29
abbrev cU:List Str:=["_law_state","_law_program_here"]
theorem cK:aD (cU.append ["_law_ranks","_law_takes","_law_k"]) cU (ao eL):=by walk_at "s"
theorem hV:Rc "_law_drawn_paper" eL:=by ac_nf
noncomputable def cX:Fn:=kQ 5
  (aj (aJ 2 (ai cv (a1 (dP (cw [none,some 0] (gY (ah aH v1 (ki 0))) (gN 0) ck (ai aL (a2 (ai aq (a2 v1 (ki 10))) (ai aw (a2 v1 (dP (a2 (ki 1) (tQ gW (ki 1)))))))))))))
  (aj (aJ 3 (ai cv (a1 (dP (cw [none] (gY (ah aH v1 (ki 1))) (gN 0) ck (ai aL bj))))))
  (aj (ji (mK (a1 (ai aq (a2 v0 (ki 9))))) (gN 4) (aJ 3 (ai dr (a3 v0 v1 v3))))
  (aI (ai aL (a2 v2 v3))))))
abbrev i4:Stmt:=top 3
abbrev fA:List Str:=["thing","many"]
theorem nJ:aD fA fA (ao i4):=by walk_at "s"
theorem mF:Rc "is_tuple_of" i4:=by ac_nf
noncomputable def bc:Fn:=kQ 2
  (aI (oW (ai dg (a2 v0 (eK (.ty "tuple")))) (ah cV (ai bW (a1 v0)) v1)))
abbrev nN:Stmt:=top 2
abbrev jl:List Str:=["thing"]
theorem ua:aD jl jl (ao nN):=by walk_at "s"
theorem sk:Rc "is_whole" nN:=by ac_nf
noncomputable def eY:Fn:=kQ 1
  (aI (oW (ai dg (a2 v0 (eK (.ty "int")))) (Ex (ai dg (a2 v0 (eK (.ty "bool")))))))
abbrev qp:Stmt:=top 8
abbrev lh:List Str:=["thing"]
theorem vT:aD lh lh (ao qp):=by walk_at "s"
theorem ug:Rc "is_rank" qp:=by ac_nf
noncomputable def lP:Fn:=kQ 1
  (aj (c7 (jD (cm (bT (ai bc (a2 v0 (ki 2))))) (jD (cm (bT (ai eY (a1 (ah aH v0 (ki 0)))))) (cm (bT (ai eY (a1 (ah aH v0 (ki 1)))))))) (aI (eK (.bl false))) aW)
  (aI (oW (iy BU BU (ki 0) (ah aH v0 (ki 0)) (ki 9)) (ah Es (ah aH v0 (ki 1)) (eK (.tup (([1,-1]:List Int).map D.int)))))))
abbrev qo:Stmt:=top 4
abbrev lg:List Str:=["thing","params"]
theorem vS:aD (lg.append ["word","figure"]) lg (ao qo):=by walk_at "s"
theorem uf:Rc "is_term" qo:=by ac_nf
noncomputable def lO:Fn:=kQ 4
  (aj (c7 (cm (bT (ai bc (a2 v0 (ki 2))))) (aI (eK (.bl false))) aW)
  (aj (iP v0 (gT 2 (aC (gN 2) (aC (gN 3) cM))))
  (aj (c7 (jD (cm (bT (ai dg (a2 v2 (eK (.ty "str")))))) (cm (bT (ai eY (a1 v3))))) (aI (eK (.bl false))) aW)
  (aI (oW (Lh (ah cV v2 (ks "")) (ah Es v2 v1)) (iy BU BU (tQ gW (ki 99)) v3 (ki 99)))))))
abbrev nP:Stmt:=top 9
abbrev jn:List Str:=["thing","names","params"]
theorem uc:aD jn jn (ao nP):=by walk_at "s"
theorem so:Rc "is_entry" nP:=by ac_nf
noncomputable def jC:Fn:=kQ 3
  (aj (c7 (jD (cm (bT (ai bc (a2 v0 (ki 2))))) (jD (cm (bT (ai dg (a2 (ah aH v0 (ki 0)) (eK (.ty "str")))))) (ax (ah fF (ah aH v0 (ki 0)) v1)))) (aI (eK (.bl false))) aW)
  (aI (Lh (ai bc (a2 (ah aH v0 (ki 1)) (ki 0))) (ai lO (a2 (ah aH v0 (ki 1)) v2)))))
abbrev i5:Stmt:=top 10
abbrev fB:List Str:=["thing","names","params"]
theorem nK:aD fB fB (ao i5):=by walk_at "s"
theorem mG:Rc "are_entries" i5:=by ac_nf
noncomputable def fI:Fn:=kQ 3
  (aj (c7 (jD (cm (bT (ai dg (a2 v0 (eK (.ty "tuple")))))) (cm (bT (ai uX (a1 (dP (cw [none,some 1,some 2] (gY v0) (gN 0) ck (ai jC (a3 v0 v1 v2))))))))) (aI (eK (.bl false))) aW)
  (aI (ai uX (a1 (dP (cw [none,none] (BJ (a2 v0 (fX v0 (qC (ki 1)) qB))) (gT 2 (aC (gN 0) (aC (gN 1) cM))) ck (ah El v0 v1)))))))
abbrev nO:Stmt:=top 11
abbrev jm:List Str:=["program","thing"]
theorem ub:aD (jm.append ["names","deeds","ranks","takes"]) jm (ao nO):=by walk_at "s"
theorem sm:Rc "is_paper" nO:=by ac_nf
noncomputable def eZ:Fn:=kQ 6
  (aj (iP v0 (gT 2 (aC (gN 2) (aC (gN 3) cM))))
  (aj (c7 (jD (cm (bT (ai bc (a2 v1 (ki 2))))) (jD (cm (bT (ai bc (a2 (ah aH v1 (ki 0)) (ai bW (a1 v2)))))) (cm (bT (ai bc (a2 (ah aH v1 (ki 1)) (ai bW (a1 v3)))))))) (aI (eK (.bl false))) aW)
  (aj (iP v1 (gT 2 (aC (gN 4) (aC (gN 5) cM))))
  (aj (c7 (cm (bT (ai uX (a1 (dP (cw [none] (gY v4) (gN 0) ck (ai lP (a1 v0)))))))) (aI (eK (.bl false))) aW)
  (aI (ai uX (a1 (dP (cw [none,none,none,none,some 2] (BJ (a2 v5 v3)) (gT 2 (aC (gN 0) (aC (gT 3 (aC (gN 1) (aC (gN 2) (aC (gN 3) cM)))) cM))) ck (ai fI (a3 v0 v4 v2)))))))))))
abbrev fM:Stmt:=top 33
abbrev cD:List Str:=["_law_state","_law_thing","_law_deep"]
theorem cj:aD (cD.append ["_law_at","_law_some"]) cD (ao fM):=by walk_at "s"
theorem eO:Rc "_law_part_bent" fM:=by ac_nf
noncomputable def bR:Nat->Fn
 | 0=>λ_ _=>none
 | n+1=>kQ 5
  (aj (c7 (f6 (bT (ai dg (a2 v1 (eK (.ty "tuple"))))) (f6 (ax (ah zo v1 (ai aL bj))) (f6 (ax (ah xZ v2 (ki 0))) (ax (ah xZ (ai aq (a2 v0 (ki 5))) (ki 0)))))) (aj (aJ 3 (ai aq (a2 v0 (ai bW (a1 v1)))))
  (aI (ah az (ah az (fX v1 qB (qC v3)) (ai aL (a1 (ai (bR n) (a3 v0 (ah aH v1 v3) (ah sQ v2 (ki 1))))))) (fX v1 (qC (ah az v3 (ki 1))) qB)))) aW)
  (aj (aJ 4 (eK (.lv [.bx,.bl true,.int 0,.int 1,.int (-1),.int 10,.int 100,.int (-100),.str "",.str "zzzz",.str "1",.tup [],.lv [],.dv [],.tup [.int 0,.int 1],.tup [.str "",.int 5],.tup [.str "zzzz",.tup []]])))
  (aj (c7 (f6 (bT (ai dg (a2 v1 (eK (.ty "tuple"))))) (ax (ah zo v1 (ai aL bj)))) (aJ 4 (ah az v4 (dP (ag (dP (kG (a1 v1))) (ag (fX v1 (qC (ki 1)) qB) (a4 (B5 v1 (tQ gW (ki 1))) (ah az v1 (fX v1 qB (qC (ki 1)))) (ah az v1 (ai aL (a1 (eK .bx)))) (ai aL (a1 v1)))))))) aW)
  (aI (ai aw (a2 v0 v4))))))
abbrev fN:Stmt:=top 30
abbrev dB:List Str:=["_law_thing","_law_least","_law_most"]
theorem jN:aD dB dB (ao fN):=by walk_at "s"
theorem jk:Rc "_law_is_number" fN:=by ac_nf
noncomputable def a9:Fn:=kQ 3
  (aI (oW (ai dg (a2 v0 (eK (.ty "int")))) (oW (Ex (ai dg (a2 v0 (eK (.ty "bool"))))) (iy BU BU v1 v0 v2))))
abbrev gJ:Stmt:=top 31
abbrev dS:List Str:=["_law_program_here","_law_params","_law_thing"]
theorem kZ:aD (dS.append ["_law_bound"]) dS (ao gJ):=by walk_at "s"
theorem jW:Rc "_law_is_entry" gJ:=by ac_nf
noncomputable def cS:Fn:=kQ 4
  (aj (c7 (jD (cm (bT (ai dg (a2 v2 (eK (.ty "tuple")))))) (jD (ax (ah dY (ai bW (a1 v2)) (ki 2))) (cm (bT (ai dg (a2 (ah aH v2 (ki 0)) (eK (.ty "str")))))))) (aI (eK (.bl false))) aW)
  (aj (c7 (ax (ah fF (ah aH v2 (ki 0)) (ah aH v0 (ki 0)))) (aI (eK (.bl false))) aW)
  (aj (aJ 3 (ah aH v2 (ki 1)))
  (aj (c7 (jD (cm (bT (ai dg (a2 v3 (eK (.ty "tuple")))))) (ax (ah fF (ai bW (a1 v3)) (ai aL (a2 (ki 0) (ki 2)))))) (aI (eK (.bl false))) aW)
  (aj (c7 (ax (ah Hw v3 (ai aL bj))) (aI (eK (.bl true))) aW)
  (aI (oW (ai dg (a2 (ah aH v3 (ki 0)) (eK (.ty "str")))) (oW (ah Es (ah aH v3 (ki 0)) (ah az (ai aL (a1 (ks ""))) v1)) (ai a9 (a3 (ah aH v3 (ki 1)) (tQ gW (ki 99)) (ki 99)))))))))))
abbrev gI:Stmt:=top 32
abbrev dR:List Str:=["_law_program_here","_law_thing"]
theorem kY:aD (dR.append ["_law_rank","_law_deed","_law_some"]) dR (ao gI):=by walk_at "s"
theorem jV:Rc "_law_is_paper" gI:=by ac_nf
noncomputable def ej:Fn:=kQ 5
  (aj (c7 (jD (cm (bT (ai dg (a2 v1 (eK (.ty "tuple")))))) (ax (ah dY (ai bW (a1 v1)) (ki 2)))) (aI (eK (.bl false))) aW)
  (aj (c7 (jD (cm (bT (ai dg (a2 (ah aH v1 (ki 0)) (eK (.ty "tuple")))))) (cm (bT (ai dg (a2 (ah aH v1 (ki 1)) (eK (.ty "tuple"))))))) (aI (eK (.bl false))) aW)
  (aj (c7 (jD (ax (ah dY (ai bW (a1 (ah aH v1 (ki 0)))) (ai bW (a1 (ah aH v0 (ki 0)))))) (ax (ah dY (ai bW (a1 (ah aH v1 (ki 1)))) (ai bW (a1 (ah aH v0 (ki 1))))))) (aI (eK (.bl false))) aW)
  (aj (ji (gY (ah aH v1 (ki 0))) (gN 2) (aj (c7 (jD (cm (bT (ai dg (a2 v2 (eK (.ty "tuple")))))) (jD (ax (ah dY (ai bW (a1 v2)) (ki 2))) (cm (bT (ai a9 (a3 (ah aH v2 (ki 0)) (ki 0) (ki 9))))))) (aI (eK (.bl false))) aW)
  (c7 (jD (cm (bT (ai a9 (a3 (ah aH v2 (ki 1)) (tQ gW (ki 1)) (ki 1))))) (ax (ah cV (ah aH v2 (ki 1)) (ki 0)))) (aI (eK (.bl false))) aW)))
  (aj (ji (BJ (a2 (ah aH v0 (ki 1)) (ah aH v1 (ki 1)))) (gT 2 (aC (gN 3) (aC (gN 4) cM))) (aj (c7 (jD (cm (bT (ai dg (a2 v4 (eK (.ty "tuple")))))) (cm (bT (ai uX (a1 (dP (cw [none,some 3,some 0] (gY v4) (gN 0) ck (ai cS (a3 v2 (ah aH v1 (ki 1)) v0))))))))) (aI (eK (.bl false))) aW)
  (c7 (ax (ah dY (dP (kG (a1 v4))) (fW v4))) (aI (eK (.bl false))) aW)))
  (aI (eK (.bl true))))))))
abbrev jO:Stmt:=top 34
abbrev Bb:List Str:=["_law_script"]
theorem F2:aD (Bb.append ["_law_state","_law_most","_law_program_here","_law_turn","_law_paper","_law_k","_law_thing","_law_found"]) Bb (ao jO):=by walk_at "s"
theorem Dt:Rc "law" jO:=by ac_nf
noncomputable def vA:Fn:=kQ 9
  (aj (aJ 1 (ai eD (a1 v0)))
  (aj (ji (gY (eK (.tup [.int 8,.int 14,.int 14]))) (gN 2) (aj (aJ 3 (ai fc (a3 v1 v2 (ki 4))))
  (aj (ji (mK (a1 (ki 3))) (gN 4) (aj (aJ 5 (ai cX (a2 v1 v3)))
  (aj (c7 (ax (ah BR (ai eZ (a2 v3 v5)) (eK (.bl true)))) (aI (eK (.bl false))) aW)
  (ji (mK (a1 (ki 8))) (gN 6) (aj (aJ 7 (ai (bR 6) (a3 v1 v5 (ki 5))))
  (aj (aJ 8 (ai eZ (a2 v3 v7)))
  (c7 (jD (cm (bT (ai dg (a2 v8 (eK (.ty "bool")))))) (ax (ah dY v8 (ai ej (a2 v3 v7))))) (aI (eK (.bl false))) aW)))))))
  (ji (gY (eK (.lv [.bx,.bl true,.int 0,.str "",.tup [],.lv [],.dv [],.tup [.tup [],.tup []],.tup [.bx,.bx],.tup [.lv [],.tup []],.tup [.tup [],.dv []]]))) (gN 7) (c7 (ax (ah BR (ai eZ (a2 v3 v7)) (eK (.bl false)))) (aI (eK (.bl false))) aW)))))
  (aI (eK (.bl true)))))
structure Cc where
 l:PySem.W.OpenLaw
 w:World
 h:Heap
 mg:Str->Option Value
 base:Heap
section
variable (c:Cc)
abbrev kK:Prop:=Df c.l.prog c.w (Hd.aO c.h) c.mg c.base "_law_drawn" 1 gr 1 eD
abbrev mC:Prop:=Df c.l.prog c.w (Hd.aO c.h) c.mg c.base "_law_load" 1 ic 1 iB
abbrev bh:Prop:=Df c.l.prog c.w (Hd.aO c.h) c.mg c.base "_law_next" 2 ia 2 aq
abbrev b6:Prop:=Df c.l.prog c.w (Hd.aO c.h) c.mg c.base "_law_of" 3 lj 2 aw
abbrev kJ:Prop:=Df c.l.prog c.w (Hd.aO c.h) c.mg c.base "_law_words" 4 gn 2 dm
abbrev kI:Prop:=Df c.l.prog c.w (Hd.aO c.h) c.mg c.base "_law_world" 5 gm 3 gD
abbrev fH:Prop:=Df c.l.prog c.w (Hd.aO c.h) c.mg c.base "_law_is_odd" 3 fC 2 cQ
abbrev fu:Prop:=Df c.l.prog c.w (Hd.aO c.h) c.mg c.base "_law_term" 4 hZ 2 bw
abbrev mD:Prop:=Df c.l.prog c.w (Hd.aO c.h) c.mg c.base "_law_call" 5 ie 4 fw
abbrev mB:Prop:=Df c.l.prog c.w (Hd.aO c.h) c.mg c.base "_law_lock" 5 ib 5 dO
abbrev xn:Prop:=Df c.l.prog c.w (Hd.aO c.h) c.mg c.base "_law_lot" 26 gq 7 (a8 20)
abbrev Im:Prop:=Df c.l.prog c.w (Hd.aO c.h) c.mg c.base "_law_row" 26 gp 6 (fb 20)
abbrev CP:Prop:=Df c.l.prog c.w (Hd.aO c.h) c.mg c.base "_law_locked" 26 dE 7 (cP 20)
abbrev zR:Prop:=Df c.l.prog c.w (Hd.aO c.h) c.mg c.base "_law_two_ways" 26 cR 6 (bZ 20)
abbrev iA:Prop:=Df c.l.prog c.w (Hd.aO c.h) c.mg c.base "_law_program" 27 eQ 3 fc
abbrev fv:Prop:=Df c.l.prog c.w (Hd.aO c.h) c.mg c.base "_law_bent_takes" 4 de 3 dr
abbrev eV:Prop:=Df c.l.prog c.w (Hd.aO c.h) c.mg c.base "_law_drawn_paper" 5 cU 2 cX
abbrev cO:Prop:=Df c.l.prog c.w (Hd.aO c.h) c.mg c.base "is_tuple_of" 1 fA 2 bc
abbrev jA:Prop:=Df c.l.prog c.w (Hd.aO c.h) c.mg c.base "is_whole" 1 jl 1 eY
abbrev rq:Prop:=Df c.l.prog c.w (Hd.aO c.h) c.mg c.base "is_rank" 2 lh 1 lP
abbrev rp:Prop:=Df c.l.prog c.w (Hd.aO c.h) c.mg c.base "is_term" 2 lg 2 lO
abbrev pH:Prop:=Df c.l.prog c.w (Hd.aO c.h) c.mg c.base "is_entry" 3 jn 3 jC
abbrev jd:Prop:=Df c.l.prog c.w (Hd.aO c.h) c.mg c.base "are_entries" 4 fB 3 fI
abbrev pG:Prop:=Df c.l.prog c.w (Hd.aO c.h) c.mg c.base "is_paper" 5 jm 2 eZ
abbrev lM:Prop:=Df c.l.prog c.w (Hd.aO c.h) c.mg c.base "_law_part_bent" 10 cD 3 (bR 6)
abbrev dD:Prop:=Df c.l.prog c.w (Hd.aO c.h) c.mg c.base "_law_is_number" 1 dB 3 a9
abbrev gU:Prop:=Df c.l.prog c.w (Hd.aO c.h) c.mg c.base "_law_is_entry" 2 dS 3 cS
abbrev gS:Prop:=Df c.l.prog c.w (Hd.aO c.h) c.mg c.base "_law_is_paper" 3 dR 2 ej
end
section
variable {c:Cc} {mb:Str->Option Value} {mean:ExcName->Option Value} (T:Top view (PySem.W.looseW view (["SIDES"]:List Str)) mean c.mg mb c.h) (B:Bs c.l.prog c.w (Hd.aO c.h) c.mg)
include T B
theorem pX:kK c:=Hd.br T og λF _ _ _=>
 (aM F pP λ_ _ _ _ _ _ hr _=>by walk_at "v";with_reducible exact(aF (bg (mE.ob (f9 (aa aZ (aa (mE.ob (jL (by unfold Gl;ac_nf) B.lK iM (by ac_rfl) (af aA))) (by ac_rfl))) (af (af (af aA))))))))
theorem sF:mC c:=Hd.br T pT λF _ _ _=>
 (aM F gd λ_ _ _ _ _ _ hr _=>by walk_at "v";with_reducible exact(ab (by ac_rfl)
   (ab (by ac_rfl)
   (ab (fy (by ac_rfl) (kX hr.units (sv 0) aZ))
   (ab (by ac_rfl)
   (ab (by ac_rfl)
   (aF (bo (SW.st (jg (by ac_rfl) (jJ (eG Fc (by ac_rfl) (bq Be aZ aZ) (dC _))))) (aF (fy (by ac_rfl) (kX hr.units (sv 0) aZ))) (ab (sset 4 gd.nd (bq oC (bq gu (bq bK (bq bK (by ac_rfl) (bq gu (bq gu aZ (sv 2)) (sv 2))) aZ) aZ) aZ))
   (ab (sset 4 gd.nd (bq oC (bq gu (sv 4) (sv 4)) aZ))
   (aF (fy (bq bK (bq oC (bq bK (bq bK (bq gu (sv 4) aZ) (sv 2)) aZ) aZ) (bq Be aZ aZ)) (kX hr.units (sv 0) aZ)))))))))))))
theorem sD(d8:mC c):bh c:=Hd.br T pR λF _ _ _=>
 (aM F rY λ_ _ _ _ _ _ hr _=>by walk_at "v";with_reducible exact(ab (by ac_rfl)
   (ab (by ac_rfl)
   (ab (fy (bq GY (by ac_rfl) (sv 1)) (kX hr.units (sv 0) aZ))
   (by ac_rfl)))))
theorem wz(d9:bh c):b6 c:=Hd.br T uh λF _ _ _=>
 (aM F vU λ_ _ _ _ _ _ hr _=>by walk_at "u")
theorem pW(d10:b6 c)(d9:bh c):kJ c:=Hd.br T oa λF _ _ _=>
 (aM F iZ λ_ _ _ _ _ _ hr _=>by walk_at "v";with_reducible exact(ab (by ac_rfl)
   (ab (by ac_rfl)
   (ab (dz OH rfl (b4 (by unfold Gl;ac_nf) B.di (aa (gF d10 hr (aa (sv 0) (aa (cB 9 (by ac_nf)) ak))) ak) (hl:=(af aA))) (by ac_rfl) (by ac_rfl))
   (ab (by ac_rfl)
   (ab (by ac_rfl)
   (ab (sset 7 iZ.nd (gF d10 hr (aa (sv 0) (aa (cB 9 (by ac_nf)) ak))))
   (aF (bg (dc (N':=["_law_k","_law_at","_law_first","_law_letters","_law_stem","_law_stride"]) (caps:=[none,some 5,some 6,some 2,some 3,some 7]) (aU (by ac_nf)) rfl (b4 (by unfold Gl;ac_nf) B.di (by ac_rfl) (hl:=(af aA))) (λ_ _ _ _ _=>(sgn 0 (by show(["_law_k","_law_at","_law_first","_law_letters","_law_stem","_law_stride"]:List Str).Nodup;decide+kernel))) (λ_ _ _ _ _=>cg) (λ_ _ _ _ _=>(bq bK (bq bK (by ac_rfl) (six hr (sv 3) (bq oC (bq bK (sv 2) (bq gu (sv 5) (sv 0))) aZ))) (by ac_rfl)))))))))))))
theorem pV(d11:kJ c)(d10:b6 c)(d9:bh c):kI c:=Hd.br T n5 λF _ _ _=>
 (aM F b5 λ_ _ _ _ _ _ hr _=>by walk_at "v";with_reducible exact(ab (sset 3 b5.nd (gF d11 hr (aa (sv 0) (aa (gF d10 hr (aa (sv 0) (aa (cB 9 (by ac_nf)) ak))) ak))))
   (ab (sset 4 b5.nd (gF d11 hr (aa (sv 0) (aa (gF d10 hr (aa (sv 0) (aa (cB 9 (by ac_nf)) ak))) ak))))
   (ab (by ac_rfl)
   (ab (iE (i:=6) b5.nd (by ac_nf) (by ac_nf) (N':=["_law_deed","_law_state"]) (caps:=[none,some 0]) (aU (by ac_nf)) rfl (eJ (sv 4)) (λ_ _ _ _ _=>(sgn 0 (by show(["_law_deed","_law_state"]:List Str).Nodup;decide+kernel))) (λ_ _ _ _ _=>cg) (λ_ _ _ _ _=>(gF d10 hr (aa (sv 1) (aa (cB 9 (by ac_nf)) ak)))))
   (ab (sset 7 b5.nd (jh Ce B.kC qY (aa (dc (N':=["_law_deed","_law_names","_law_state"]) (caps:=[none,some 3,some 0]) (aU (by ac_nf)) rfl (eJ (sv 4)) (λ_ _ _ _ _=>(sgn 0 (by show(["_law_deed","_law_names","_law_state"]:List Str).Nodup;decide+kernel))) (λ_ _ _ _ _=>cg) (λ_ _ _ _ _=>(by ac_rfl))) ak)))
   (ab (sset 5 b5.nd (dc (N':=["_law_k","_law_params"]) (caps:=[none,some 5]) (aU (by ac_nf)) rfl (eJ (sv 6)) (λ_ _ _ _ _=>(sgn 0 (by show(["_law_k","_law_params"]:List Str).Nodup;decide+kernel))) (λ_ _ _ _ _=>cg) (λ_ _ _ _ _=>(by ac_rfl))))
   (aF (bg (As (iF cc (sv 3) (iF cc (sv 4) (iF cc (sv 5) (iF cc (sv 7) (iF cc (sv 1) (iF cc (sv 2) FW)))))) (by ac_nf) (by ac_nf) (by simp) λtrs h=>DV h (by ac_nf) (by ac_nf) (by simp) (by decide)))))))))))
theorem oG(d9:bh c):fH c:=Hd.br T mH λF _ _ _=>
 (aM F nM λ_ _ _ _ _ _ hr _=>by walk_at "v";with_reducible exact(aF (bg (gc (by ac_rfl) (gb (by ac_rfl))))))
theorem sC(d9:bh c)(d10:b6 c):fu c:=Hd.br T pQ λF _ _ _=>
 (aM F rX λ_ _ _ _ _ _ hr _=>by walk_at "v";with_reducible exact(ab (by ac_rfl)
   (ab (bo (by ac_rfl) (aF (bg (cJ (aa (by ac_rfl) (aa (gF d10 hr (aa (sv 0) (aa (mE.lv (f9 (by ac_rfl) (af (af (af (af (af (af (af (af (af aA))))))))))) ak))) ak)) (af (af aA))))) aR)
   (by ac_rfl))))
theorem sG(d13:fH c)(d10:b6 c)(d14:fu c):mD c:=Hd.br T pU λF _ _ _=>
 (aM F eu λ_ _ _ _ _ _ hr _=>by walk_at "v";with_reducible exact(ab (iE (i:=4) eu.nd (by ac_nf) (by ac_nf) (N':=["_law_k","_law_deed","_law_top","_law_world_here"]) (caps:=[none,some 2,some 3,some 1]) (aU (by ac_nf)) rfl (b4 (by unfold Gl;ac_nf) B.di (by ac_rfl) (hl:=(af aA))) (λ_ _ _ _ _=>(sgn 0 (by show(["_law_k","_law_deed","_law_top","_law_world_here"]:List Str).Nodup;decide+kernel))) (λ_ _ _ _ _=>(rV (by ac_rfl))) (λ_ _ _ _ _=>(sv 0)))
   (ab (bo (by ac_rfl) (aF (sset 4 eu.nd (mE.lv (yG rfl (by unfold Gl;ac_nf) B.lK (by unfold Gl;ac_nf) B.di iM (by ac_rfl))))) aR)
   (ab (by ac_rfl)
   (ab (by ac_rfl)
   (ab (iE (i:=6) eu.nd (by ac_nf) (by ac_nf) (N':=["_law_one","_law_deed","_law_state","_law_world_here"]) (caps:=[none,some 2,some 0,some 1]) (aU (by ac_nf)) rfl (by ac_rfl) (λ_ _ _ _ _=>(sgn 0 (by show(["_law_one","_law_deed","_law_state","_law_world_here"]:List Str).Nodup;decide+kernel))) (λ_ _ _ _ _=>cg) (λ_ _ _ _ _=>(by ac_rfl)))
   (by ac_rfl)))))))
theorem sE(d9:bh c)(d13:fH c)(d14:fu c):mB c:=Hd.br T pS λF _ _ _=>
 (aM F jM λ_ _ _ _ _ _ hr _=>by walk_at "v";with_reducible exact(ab (by ac_rfl)
   (ab (by ac_rfl)
   (ab (by ac_rfl)
   (ab (by ac_rfl)
   (ab (by ac_rfl)
   (ab (iE (i:=8) jM.nd (by ac_nf) (by ac_nf) (N':=["_law_lock_here","_law_name"]) (caps:=[none,some 7]) (aU (by ac_nf)) rfl (eJ (sv 4)) (λ_ _ _ _ _=>(sgn 0 (by show(["_law_lock_here","_law_name"]:List Str).Nodup;decide+kernel))) (λ_ _ _ _ _=>(rV (by ac_rfl))) (λ_ _ _ _ _=>(by ac_rfl)))
   (by ac_rfl))))))))
theorem xJ(d9:bh c)(d10:b6 c)(d16:mD c)(d14:fu c)(d15:mB c):∀n,Df c.l.prog c.w (Hd.aO c.h) c.mg c.base "_law_lot" (6+n) gq 7 (a8 n)/\Df c.l.prog c.w (Hd.aO c.h) c.mg c.base "_law_row" (6+n) gp 6 (fb n)/\Df c.l.prog c.w (Hd.aO c.h) c.mg c.base "_law_locked" (6+n) dE 7 (cP n)/\Df c.l.prog c.w (Hd.aO c.h) c.mg c.base "_law_two_ways" (6+n) cR 6 (bZ n)
 | 0=>⟨Hd.br T jU λ_ _ _ _=>j7,Hd.br T jT λ_ _ _ _=>j7,Hd.br T gK λ_ _ _ _=>j7,Hd.br T fm λ_ _ _ _=>j7⟩
 | n+1=>by
  obtain⟨d20,d19,d18,d17⟩:=xJ d9 d10 d16 d14 d15 n;refine⟨?_,?_,?_,?_⟩
  ·exact Hd.br T jU λF _ _ _=>iq (aM F ud λ_ _ _ _ _ _ hr _=>by walk_at "v";with_reducible exact(ab (by ac_rfl)
   (ab (dz OH rfl (b4 (by unfold Gl;ac_nf) B.di (aa (gF d9 hr (aa (sv 0) (aa (bq bK (gF d10 hr (aa (sv 0) (aa (bq bK (bq Bd (by ac_rfl) aZ) (by ac_rfl)) ak)) (Nr (by decide) (NL _ _))) aZ) ak)) (Nr (by decide) (NL _ _))) ak) (hl:=(af aA))) (by ac_rfl) (aF (bo (by ac_rfl) (ab (fy (by ac_rfl) (kX hr.units (sv 1) cc))
   (aF (rO (Dk (isT:=fU) nu QU Q9 Sd lx (sv 7) (aa (gF d19 hr (by ac_rfl) (Nh _)) ak))))) aR)))
   (by ac_rfl))))
  ·exact Hd.br T jT λF _ _ _=>(aM F cp λ_ _ _ _ _ _ hr _=>by walk_at "v";with_reducible exact(ab (sset 6 cp.nd (gF d9 hr (by ac_rfl) (Nr (by decide) (NL _ _))))
   (ab (bo (by ac_rfl) (aF (bg (cJ (aa cc (aa (gF d10 hr (by ac_rfl) (Nr (by decide) (NL _ _))) ak)) (af (af aA))))) aR)
   (ab (bo (by ac_rfl) (aF (bg (gF d16 hr (by ac_rfl) (Nr (by decide) (NL _ _))))) aR)
   (ab (bo (by ac_rfl) (aF (bg (gF d17 hr (by ac_rfl) (Nh _)))) aR)
   (ab (bo (by ac_rfl) (ab (FV 7 8 cp.nd (af (af aA)) rfl (by decide) (by with_unfolding_all exact(wj rfl cp.nd rfl rfl (by decide) rfl rfl (aa (gF d14 hr (aa (sv 0) (aa (six hr (six hr (sv 1) cc) (sv 2)) ak)) (Nr (by decide) (NL _ _))) (aa (gF d14 hr (aa (sv 0) (aa (six hr (six hr (sv 1) cc) (sv 2)) ak)) (Nr (by decide) (NL _ _))) ak)) rfl)))
   (ab (iE (i:=9) cp.nd (by ac_nf) (by ac_nf) (N':=["_law_k","_law_deed","_law_deep","_law_held","_law_state","_law_top","_law_world_here"]) (caps:=[none,some 2,some 3,some 5,some 0,some 4,some 1]) (aU (by ac_nf)) rfl (b4 (by unfold Gl;ac_nf) B.di (by ac_rfl) (hl:=(af aA))) (λ_ _ _ _ _=>(sgn 0 (by show(["_law_k","_law_deed","_law_deep","_law_held","_law_state","_law_top","_law_world_here"]:List Str).Nodup;decide+kernel))) (λ_ _ _ _ _=>cg) (λ_ _ _ _ _=>(gF d20 hr (by ac_rfl) (Nh _))))
   (by ac_rfl))) aR)
   (ab (bo (by ac_rfl) (ab (iE (i:=9) cp.nd (by ac_nf) (by ac_nf) (N':=["_law_k","_law_deed","_law_deep","_law_held","_law_state","_law_top","_law_world_here"]) (caps:=[none,some 2,some 3,some 5,some 0,some 4,some 1]) (aU (by ac_nf)) rfl (b4 (by unfold Gl;ac_nf) B.di (by ac_rfl) (hl:=(af aA))) (λ_ _ _ _ _=>(sgn 0 (by show(["_law_k","_law_deed","_law_deep","_law_held","_law_state","_law_top","_law_world_here"]:List Str).Nodup;decide+kernel))) (λ_ _ _ _ _=>cg) (λ_ _ _ _ _=>(gF d20 hr (by ac_rfl) (Nh _))))
   (by ac_rfl)) aR)
   (ab (bo (by ac_rfl) (aF (bg (cJ (aa cc (aa (gF d20 hr (by ac_rfl) (Nh _)) ak)) (af (af aA))))) aR)
   (ab (sset 10 cp.nd (gF d10 hr (aa (sv 0) (aa (cB 9 (by ac_nf)) ak)) (Nr (by decide) (NL _ _))))
   (aF (bg (gF d18 hr (by ac_rfl) (Nh _)))))))))))))
  ·exact Hd.br T gK λF _ _ _=>iq (aM F cq λ_ _ _ _ _ _ hr _=>by walk_at "v";with_reducible exact(ab (fy (gF d15 hr (by ac_rfl) (Nr (by decide) (NL _ _))) (by ac_rfl))
   (ab (by ac_rfl)
   (ab (bo (by ac_rfl) (ab (FV 9 10 cq.nd (af (af aA)) rfl (by decide) (by with_unfolding_all exact(wj rfl cq.nd rfl rfl (by decide) rfl rfl (aa (mE.ob (f9 (aa (sv 8) ak) (af aA))) (aa (sv 7) ak)) rfl)))
   (ab (dz OH rfl (b4 (by unfold Gl;ac_nf) B.di (aa (gF d10 hr (aa (sv 0) (aa (cB 9 (by ac_nf)) ak)) (Nr (by decide) (NL _ _))) ak) (hl:=(af aA))) (by ac_rfl) (ab (fy (gF d15 hr (by ac_rfl) (Nr (by decide) (NL _ _))) (by ac_rfl))
   (ab (by ac_rfl)
   (aF (sset 9 cq.nd (mE.ob (FZ (sv 9) (bq Bd (by ac_rfl) (by ac_rfl)))))))))
   (ab (bo (by ac_rfl) (aF (rO (Dk (isT:=fU) nu QU Q9 Sd lx (sv 9) (aa (cJ (aa (by ac_rfl) (aa (cJ (aa (by ac_rfl) (aa (bq Bc (by ac_rfl) (bq gu aZ (by ac_rfl))) ak)) (af (af aA))) ak)) (af (af aA))) ak)))) aR)
   (ab (by ac_rfl)
   (aF (bg (cJ (aa cc (aa (by ac_rfl) (aa (gF d20 hr (by ac_rfl) (Nh _)) ak))) (af (af (af aA)))))))))) aR)
   (ab (sset 14 cq.nd (gF d20 hr (by ac_rfl) (Nh _)))
   (ab (bo (by ac_rfl) (aF (bg (cJ (aa cc (aa (sv 8) (aa (sv 14) (aa (gF d20 hr (by ac_rfl) (Nh _)) ak)))) (af (af (af (af aA))))))) aR)
   (by ac_rfl)))))))
  ·exact Hd.br T fm λF _ _ _=>iq (aM F cC λ_ _ _ _ _ _ hr _=>by walk_at "v";with_reducible exact(ab (by ac_rfl)
   (ab (by ac_rfl)
   (ab (bo (eG (wq hr.units) (dc (N':=["_law_lock_here","_law_low","_law_world_here"]) (caps:=[none,some 6,some 1]) (aU (by ac_nf)) rfl (eJ (sv 5)) (λ_ _ _ _ _=>(sgn 0 (by show(["_law_lock_here","_law_low","_law_world_here"]:List Str).Nodup;decide+kernel))) (λ_ _ _ _ _=>(rV (by ac_rfl))) (λ_ _ _ _ _=>(sv 0))) (by ac_rfl) (dC _)) (by ac_rfl) aR)
   (ab (by ac_rfl)
   (ab (fy (by ac_rfl) (kX hr.units (sv 1) cc))
   (ab (FV 8 9 cC.nd (af (af aA)) rfl (by decide) (by with_unfolding_all exact(wj rfl cC.nd rfl rfl (by decide) rfl rfl (aa (gF d14 hr (aa (sv 0) (aa (six hr (six hr (sv 1) cc) (sv 2)) ak)) (Nr (by decide) (NL _ _))) (aa (gF d14 hr (aa (sv 0) (aa (six hr (six hr (sv 1) cc) (sv 2)) ak)) (Nr (by decide) (NL _ _))) ak)) rfl)))
   (ab (by ac_rfl)
   (ab (dz OH rfl (by ac_rfl) (by ac_rfl) (ab (sset 13 cC.nd (gF d20 hr (by ac_rfl) (Nh _)))
   (by ac_rfl)))
   (by ac_rfl))))))))))
theorem mI(d12:kI c)(d20:xn c)(d10:b6 c):iA c:=Hd.br T k8 λF _ _ _=>
 iq (aM F gG λ_ _ _ _ _ _ hr _=>by walk_at "v";with_reducible exact(ab (by ac_rfl)
   (ab (by ac_rfl)
   (ab (dz OH rfl (Dh (by unfold Gl;ac_nf) B.vp (by ac_rfl) (af aA)) (by ac_rfl) (ab (sset 7 gG.nd (gF d20 hr (aa (sv 0) (aa (sv 3) (aa (sv 5) (aa aZ (aa (by ac_rfl) (aa (by ac_rfl) (aa (gF d10 hr (aa (sv 0) (aa (cB 9 (by ac_nf)) ak))) ak)))))))))
   (by ac_rfl)))
   (aF (bg (cJ (aa (IB iz B.bM bt (aa (jh Cb B.kC qY (by ac_rfl)) ak)) (by ac_rfl)) (af (af aA)))))))))
theorem jo(d9:bh c)(d10:b6 c):fv c:=Hd.br T iQ λF _ _ _=>
 iq (aM F cT λ_ _ _ _ _ _ hr _=>by walk_at "v";with_reducible exact(ab (by ac_rfl)
   (ab (sset 4 cT.nd (mE.lv (jL (by unfold Gl;ac_nf) B.lK iM (by ac_rfl) (af aA))))
   (ab (sset 5 cT.nd (mE.ob (jL (by unfold Gl;ac_nf) B.lK iM (by ac_rfl) (af aA))))
   (ab (by ac_rfl)
   (ab (by ac_rfl)
   (ab (by ac_rfl)
   (ab (bo (by ac_rfl) (ab (fy (Dk (isT:=fU) nu QU PySem.F.slot_list_pop PySem.F.type_list_pop D4 (sv 5) (by ac_rfl)) (by ac_rfl))
   (ab (bo (SW.st (jg (by ac_rfl) (jJ (eG (wm hr.units) (sv 10) (by ac_rfl) (dC _))))) (by ac_rfl) aR)
   (by ac_rfl))) aR)
   (ab (by ac_rfl)
   (aF (bg (bq bK (bq bK (by ac_rfl) (cJ (aa (IB iz B.bM bt (aa (t9 rfl hr (by unfold Gl;ac_nf) B.kC (by unfold Gl;ac_nf) B.Fj (sv 5)) ak)) ak) (af aA))) (by ac_rfl)))))))))))))
theorem iR(d10:b6 c)(d9:bh c)(d22:fv c):eV c:=Hd.br T hV λF _ _ _=>
 (aM F cK λ_ _ _ _ _ _ hr _=>by walk_at "v";with_reducible exact(ab (sset 2 cK.nd (IB iz B.bM bt (aa (dc (N':=["_law_name","_law_state"]) (caps:=[none,some 0]) (aU (by ac_nf)) rfl (by ac_rfl) (λ_ _ _ _ _=>(sgn 0 (by show(["_law_name","_law_state"]:List Str).Nodup;decide+kernel))) (λ_ _ _ _ _=>cg) (λ_ _ _ _ _=>(by ac_rfl))) ak)))
   (ab (sset 3 cK.nd (IB iz B.bM bt (aa (dc (N':=["_law_deed"]) (caps:=[none]) (aU (by ac_nf)) rfl (by ac_rfl) (λ_ _ _ _ _=>(sgn 0 (by show(["_law_deed"]:List Str).Nodup;decide+kernel))) (λ_ _ _ _ _=>cg) (λ_ _ _ _ _=>(by ac_rfl))) ak)))
   (ab (dz OH rfl (b4 (by unfold Gl;ac_nf) B.di (by ac_rfl) (hl:=(af aA))) (by ac_rfl) (by ac_rfl))
   (by ac_rfl)))))
theorem oE:cO c:=Hd.br T mF λF _ _ _=>
 (aM F nJ λ_ _ _ _ _ _ hr _=>by walk_at "v";with_reducible exact(aF (bg (gc (jh bO B.ay au (aa (sv 0) (aa (qg B.bM bt) ak))) (gb (by ac_rfl))))))
theorem uC:jA c:=Hd.br T sk λF _ _ _=>
 (aM F ua λ_ _ _ _ _ _ hr _=>by walk_at "v";with_reducible exact(aF (bg (gc (jh bO B.ay au (aa (sv 0) (aa (qg B.CA xf) ak))) (gb (Aq (jh bO B.ay au (aa (sv 0) (aa (qg B.xh tE) ak)))))))))
theorem wx(d0:jA c)(d1:cO c):rq c:=Hd.br T ug λF _ _ _=>
 (aM F vT λ_ _ _ _ _ _ hr _=>by walk_at "v";with_reducible exact(ab (by ac_rfl)
   (aF (bg (gc (nI oD oD aZ (by ac_rfl) (vP B.tN (by unfold Gl;ac_nf))) (gb (vQ (E9 hr.units) (by ac_rfl) (Js (es:=([1,-1]:List Int)) B.EO) (by ac_nf))))))))
theorem wu(d1:cO c)(d0:jA c):rp c:=Hd.br T uf λF _ _ _=>
 (aM F vS λ_ _ _ _ _ _ hr _=>by walk_at "v";with_reducible exact(ab (by ac_rfl)
   (ab (by ac_rfl)
   (ab (bo (SW.st (fJ (cI (cb (jh bO B.ay au (aa (sv 2) (aa (qg B.yo tD) ak))))) (by ac_rfl))) (by ac_rfl) aR)
   (aF (bg (gc (EZ (by ac_rfl) (gb (by ac_rfl))) (gb (nI oD oD (Ap vG (vP B.jf (by unfold Gl;ac_nf))) (sv 3) (vP B.jf (by unfold Gl;ac_nf)))))))))))
theorem uE(d1:cO c)(d2:rp c):pH c:=Hd.br T so λF _ _ _=>
 (aM F uc λ_ _ _ _ _ _ hr _=>by walk_at "v";with_reducible exact(ab (bo (SW.st (fJ (by ac_rfl) (fJ (cI (cb (jh bO B.ay au (aa (by ac_rfl) (aa (qg B.yo tD) ak))))) (by ac_rfl)))) (by ac_rfl) aR)
   (aF (bg (EZ (by ac_rfl) (gb (by ac_rfl)))))))
theorem oF(d4:pH c):jd c:=Hd.br T mG λF _ _ _=>
 (aM F nK λ_ _ _ _ _ _ hr _=>by walk_at "v";with_reducible exact(ab (bo (SW.st (fJ (cI (cb (jh bO B.ay au (aa (sv 0) (aa (qg B.bM bt) ak))))) (nB (cI (cb (jh (o6 rfl) B.vq pA (aa (dc (N':=["entry","names","params"]) (caps:=[none,some 1,some 2]) (aU (by ac_nf)) rfl (eJ (sv 0)) (λ_ _ _ _ _=>(sgn 0 (by show(["entry","names","params"]:List Str).Nodup;decide+kernel))) (λ_ _ _ _ _=>cg) (λ_ _ _ _ _=>(by ac_rfl))) ak))))))) (by ac_rfl) aR)
   (aF (bg (jh (o6 rfl) B.vq pA (aa (dc (N':=["one","other"]) (caps:=[none,none]) (aU (by ac_nf)) rfl (vO (by unfold Gl;ac_nf) B.Cz (by ac_rfl) (af (af aA))) (λ_ _ _ _ _=>(rW rfl (dJ (sgn 0 (by show(["one","other"]:List Str).Nodup;decide+kernel)) (dJ (sgn 1 (by show(["one","other"]:List Str).Nodup;decide+kernel)) mR)))) (λ_ _ _ _ _=>cg) (λ_ _ _ _ _=>(vQ (GU hr.units) (sv 0) (sv 1) (dC _)))) ak))))))
theorem uD(d1:cO c)(d3:rq c)(d5:jd c):pG c:=Hd.br T sm λF _ _ _=>
 (aM F ub λ_ _ _ _ _ _ hr _=>by walk_at "v";with_reducible exact(ab (by ac_rfl)
   (ab (by ac_rfl)
   (ab (by ac_rfl)
   (ab (bo (cI (cb (jh (o6 rfl) B.vq pA (aa (dc (N':=["rank"]) (caps:=[none]) (aU (by ac_nf)) rfl (eJ (sv 4)) (λ_ _ _ _ _=>(sgn 0 (by show(["rank"]:List Str).Nodup;decide+kernel))) (λ_ _ _ _ _=>cg) (λ_ _ _ _ _=>(by ac_rfl))) ak)))) (by ac_rfl) aR)
   (aF (bg (jh (o6 rfl) B.vq pA (aa (dc (N':=["entries","deed","params","rows","names"]) (caps:=[none,none,none,none,some 2]) (aU (by ac_nf)) rfl (vO (by unfold Gl;ac_nf) B.Cz (by ac_rfl) (af (af aA))) (λ_ _ _ _ _=>(rW rfl (dJ (sgn 0 (by show(["entries","deed","params","rows","names"]:List Str).Nodup;decide+kernel)) (dJ (rW rfl (dJ (sgn 1 (by show(["entries","deed","params","rows","names"]:List Str).Nodup;decide+kernel)) (dJ (sgn 2 (by show(["entries","deed","params","rows","names"]:List Str).Nodup;decide+kernel)) (dJ (sgn 3 (by show(["entries","deed","params","rows","names"]:List Str).Nodup;decide+kernel)) mR)))) mR)))) (λ_ _ _ _ _=>cg) (λ_ _ _ _ _=>(by ac_rfl))) ak)))))))))
theorem fo(d9:bh c)(d10:b6 c):∀n,Df c.l.prog c.w (Hd.aO c.h) c.mg c.base "_law_part_bent" (4+n) cD 3 (bR n)
 | 0=>Hd.br T eO λ_ _ _ _=>j7
 | n+1=>by
  have d27:=fo d9 d10 n;exact Hd.br T eO λF _ _ _=>(aM F cj λ_ _ _ _ _ _ hr _=>by walk_at "v";with_reducible exact(ab (bo (SW.st (jg (cb (jh bO B.ay au (aa (sv 1) (aa (qg B.bM bt) ak)))) (jg (eG (wm hr.units) (sv 1) (by ac_rfl) (dC _)) (jg (by ac_rfl) (jJ (eG Fb (gF d9 hr (by ac_rfl) (Nr (by decide) (NL _ _))) aZ (dC _))))))) (ab (sset 3 cj.nd (gF d9 hr (by ac_rfl) (Nr (by decide) (NL _ _))))
   (aF (bg (bq bK (bq bK (by ac_rfl) (cJ (aa (gF d27 hr (by ac_rfl) (Nh _)) ak) (af aA))) (by ac_rfl))))) aR)
   (ab (sset 4 cj.nd (cB 9 (by ac_nf)))
   (ab (bo (SW.st (jg (cb (jh bO B.ay au (aa (sv 1) (aa (qg B.bM bt) ak)))) (jJ (eG (wm hr.units) (sv 1) (by ac_rfl) (dC _))))) (aF (sset 4 cj.nd (bq bK (sv 4) (mE.lv (f9 (aa (mE.lv (jL (by unfold Gl;ac_nf) B.lK iM (by ac_rfl) (af aA))) (aa (by ac_rfl) (aa (Dj (sv 1) (by ac_rfl)) (by ac_rfl)))) (af (af (af (af (af (af aA))))))))))) aR)
   (aF (bg (gF d10 hr (by ac_rfl) (Nr (by decide) (NL _ _)))))))))
theorem j5:dD c:=Hd.br T jk λF _ _ _=>
 (aM F jN λ_ _ _ _ _ _ hr _=>by walk_at "v";with_reducible exact(aF (bg (gc (jh bO B.ay au (aa (sv 0) (aa (qg B.CA xf) ak))) (gc (Aq (jh bO B.ay au (aa (sv 0) (aa (qg B.xh tE) ak)))) (gb (nI oD oD (sv 1) (sv 0) (sv 2))))))))
theorem lu(d24:dD c):gU c:=Hd.br T jW λF _ _ _=>
 (aM F kZ λ_ _ _ _ _ _ hr _=>by walk_at "v";with_reducible exact(ab (bo (SW.st (fJ (cI (cb (jh bO B.ay au (aa (sv 2) (aa (qg B.bM bt) ak))))) (fJ (by ac_rfl) (nB (cI (cb (jh bO B.ay au (aa (by ac_rfl) (aa (qg B.yo tD) ak))))))))) (by ac_rfl) aR)
   (ab (by ac_rfl)
   (ab (by ac_rfl)
   (ab (bo (SW.st (fJ (cI (cb (jh bO B.ay au (aa (sv 3) (aa (qg B.bM bt) ak))))) (by ac_rfl))) (by ac_rfl) aR)
   (ab (bo (eG (GW hr.units) (sv 3) (by ac_rfl) (dC _)) (by ac_rfl) aR)
   (aF (bg (gc (jh bO B.ay au (aa (by ac_rfl) (aa (qg B.yo tD) ak))) (gc (by ac_rfl) (gb (by ac_rfl))))))))))))
theorem lr(d24:dD c)(d25:gU c):gS c:=Hd.br T jV λF _ _ _=>
 (aM F kY λ_ _ _ _ _ _ hr _=>by walk_at "v";with_reducible exact(ab (bo (SW.st (fJ (cI (cb (jh bO B.ay au (aa (sv 1) (aa (qg B.bM bt) ak))))) (by ac_rfl))) (by ac_rfl) aR)
   (ab (bo (SW.st (fJ (cI (cb (jh bO B.ay au (aa (by ac_rfl) (aa (qg B.bM bt) ak))))) (nB (cI (cb (jh bO B.ay au (aa (by ac_rfl) (aa (qg B.bM bt) ak)))))))) (by ac_rfl) aR)
   (ab (by ac_rfl)
   (ab (dz OH rfl (by ac_rfl) (by ac_rfl) (ab (bo (SW.st (fJ (cI (cb (jh bO B.ay au (aa (sv 2) (aa (qg B.bM bt) ak))))) (by ac_rfl))) (by ac_rfl) aR)
   (by ac_rfl)))
   (ab (dz OH rfl (vO (by unfold Gl;ac_nf) B.Cz (by ac_rfl) (af (af aA))) (by ac_rfl) (ab (bo (SW.st (fJ (cI (cb (jh bO B.ay au (aa (sv 4) (aa (qg B.bM bt) ak))))) (nB (cI (cb (jh (o6 rfl) B.vq pA (aa (dc (N':=["_law_one","_law_deed","_law_program_here"]) (caps:=[none,some 3,some 0]) (aU (by ac_nf)) rfl (eJ (sv 4)) (λ_ _ _ _ _=>(sgn 0 (by show(["_law_one","_law_deed","_law_program_here"]:List Str).Nodup;decide+kernel))) (λ_ _ _ _ _=>cg) (λ_ _ _ _ _=>(by ac_rfl))) ak))))))) (by ac_rfl) aR)
   (aF (bo (eG (wq hr.units) (mE.lv (jL (by unfold Gl;ac_nf) B.lK iM (by ac_rfl) (af aA))) (t8 rfl hr (by unfold Gl;ac_nf) B.kC (by unfold Gl;ac_nf) B.Fj (sv 4)) (dC _)) (by ac_rfl) aR))))
   (by ac_rfl)))))))
theorem G7(F:xo (Hd.aO c.h) "law" "law" jO f fd)(d7:kK c)(d21:iA c)(d23:eV c)(d6:pG c)(d27:lM c)(d26:gS c):eX c.l.prog c.w (Hd.aO c.h) c.mg c.base rB 28 f fd Bb (zN (Hd.aO c.h) 1 vA):=
 (aM F F2 λ_ _ _ _ _ _ hr _=>by walk_at "v";with_reducible exact(ab (by ac_rfl)
   (ab (dz OH rfl (eJ (cB 9 (by ac_nf))) (by ac_rfl) (ab (by ac_rfl)
   (ab (dz OH rfl (b4 (by unfold Gl;ac_nf) B.di (by ac_rfl) (hl:=(af aA))) (by ac_rfl) (ab (by ac_rfl)
   (ab (bo (eG xI (by ac_rfl) xA (dC _)) (by ac_rfl) aR)
   (aF (dz OH rfl (b4 (by unfold Gl;ac_nf) B.di (by ac_rfl) (hl:=(af aA))) (by ac_rfl) (ab (by ac_rfl)
   (ab (by ac_rfl)
   (aF (bo (SW.st (fJ (cI (cb (jh bO B.ay au (aa (sv 8) (aa (qg B.xh tE) ak))))) (by ac_rfl))) (by ac_rfl) aR)))))))))
   (aF (dz OH rfl (eJ (cB 9 (by ac_nf))) (by ac_rfl) (aF (bo (eG xI (by ac_rfl) xA (dC _)) (by ac_rfl) aR)))))))
   (by ac_rfl))))
theorem KG(F:xo (Hd.aO c.h) "law" "law" jO f fd)(hF:∀ns:List Int,ns.length<=63->∃h',vA [.ro (ns.map D.int)] []=some (.bl true,h')):eX c.l.prog c.w (Hd.aO c.h) c.mg c.base rB 28 f fd ["_law_script"] (spT (Hd.aO c.h)):=by
 have d7:=pX T B;have d8:=sF T B;have d9:=sD T B d8;have d10:=wz T B d9;have d11:=pW T B d10 d9;have d12:=pV T B d11 d10 d9;have d13:=oG T B d9;have d14:=sC T B d9 d10;have d16:=sG T B d13 d10 d14;have d15:=sE T B d9 d13 d14;obtain⟨d20,d19,d18,d17⟩:=xJ T B d9 d10 d16 d14 d15 20;have d21:=mI T B d12 d20 d10;have d22:=jo T B d9 d10;have d23:=iR T B d10 d9 d22;have d1:=oE T B;have d0:=uC T B;have d3:=wx T B d0 d1;have d2:=wu T B d1 d0;have d4:=uE T B d1 d2;have d5:=oF T B d4;have d6:=uD T B d1 d3 d5;have d27:=fo T B d9 d10 6;have d24:=j5 T B;have d25:=lu T B d24;have d26:=lr T B d24 d25;exact D9 (G7 T B F d7 d21 d23 d6 d27 d26) hF
end
theorem et:Hd.freeOk view (["SIDES"]:List Str) ["abs","all","bool","enumerate","int","isinstance","len","list","max","min","range","set","sorted","str","tuple","zip"]=true:=by decide+kernel
theorem all_mk{l:PySem.W.OpenLaw}{w:World}{h:Heap}{mg mb:Str->Option Value}{mean:ExcName->Option Value}(T:Top view (PySem.W.looseW view (["SIDES"]:List Str)) mean mg mb h)
  (Z_SIDES:Hd.tU h "SIDES"=some ([1,-1]:List Int))
  (hF:∀ns:List Int,ns.length<=63->∃h',vA [.ro (ns.map D.int)] []=some (.bl true,h')):
  ∃(fa:Addr)(fd:FuncData),mg "law"=some (.ref fa)/\(∀(s:Shared)(v:Value),BindsTo s fd ⟨[v],[]⟩ [("_law_script",v)])/\∀base:Heap,(Hd.aO h).In base->base.Ns mainGlobals mg->eX l.prog w (Hd.aO h) mg base rB 28 fa fd ["_law_script"] (spT (Hd.aO h)):=by
 have B:Bs l.prog w (Hd.aO h) mg:=⟨Hd.bL T et (Ni (i:=0) rfl),Hd.bL T et (Ni (i:=1) rfl),Hd.bL T et (Ni (i:=2) rfl),Hd.bL T et (Ni (i:=3) rfl),Hd.bL T et (Ni (i:=4) rfl),Hd.bL T et (Ni (i:=5) rfl),Hd.bL T et (Ni (i:=6) rfl),Hd.bL T et (Ni (i:=7) rfl),Hd.bL T et (Ni (i:=8) rfl),Hd.bL T et (Ni (i:=9) rfl),Hd.bL T et (Ni (i:=10) rfl),Hd.bL T et (Ni (i:=11) rfl),Hd.bL T et (Ni (i:=12) rfl),Hd.bL T et (Ni (i:=13) rfl),Hd.bL T et (Ni (i:=14) rfl),Hd.bL T et (Ni (i:=15) rfl),Hd.ye T (by ac_nf),Hd.ye T (by ac_nf),Hd.I0 Z_SIDES T.g⟩;obtain⟨f,fd,m,F⟩:=Hd.Ff T Dt;exact⟨f,fd,m,F.one λ_ _ _ _ _ _ _=>rfl,λbase _ _=>KG (c:=⟨l,w,h,mg,base⟩) T B F hF⟩
end Mi
local macro_rules | `(tactic| walk_at $s:str) => let k := s.getString.front;let a := "|Sm.Ku|Sm.Ky|Sm.c_expr|Sm.Kw|Sm.Kv|Sm.Mm|Sm.Ml|Sm.Mp|Sm.Mo|Sm.Mn|Sm.M7|Sm.M8|Sm.Kx|Sm.c_gt3|Sm.HP|Sm.HQ|Sm.ot|Sm.FN|Sm.AI|Sm.E6|Sm.Gn|Sm.AJ|Sm.E5|Sm.Gj|Sm.JA|Sm.r_sbrk|Sm.r_scont|Sm.wa|Sm.LN|Sm.JC|Sm.Dz|Sm.gh|Sm.uo|Sm.r_if|Sm.LQ|Sm.LP|Sm.r_dv|Sm.r_do|Sm.Gq|Sm.Gg|Sm.Gh|Sm.Gi|Sm.Jx|Sm.JF|Sm.LO|Sm.JB|Sm.r_sl|Sm.Jy|Sm.Jz|Sm.ur|Sm.Gm|Sm.eP|Sm.mT|Sm.JE|Sm.Gp|Sm.L5|Sm.L6|Sm.Ls|Sm.t_bk|Sm.t_ct|Sm.Ma|Sm.l_ct|Sm.l_bk|Sm.l_rt|Sm.Gf|Sm.r_gtA";if k != 'o' && k != 'g' && k != 'r' then Lean.Macro.throwUnsupported else do {let t <- (((if k == 'r' then a ++ "|Sm.zW|Sm.IS|Sm.w_add|Sm.w_sub|Sm.w_lt|Sm.w_le|Sm.Lo|Sm.Lp|Sm.IX|Sm.IT|Sm.IW|Sm.w_neS|Sm.IV|Sm.IU|Sm.w_ix2|Sm.Fw|Sm.Fx|Sm.wc" else a).splitOn "|").drop 1).toArray.mapM (λn => `(Lean.Parser.Tactic.tacticSeq| refine $(Lean.mkIdent n.toName) ?_));if k == 'o' then `(tactic| with_reducible first $[| $t]*) else `(tactic|((repeat with_reducible first $[| $t]*);(try dsimp only)))}
namespace Mi
open PySem Sm
theorem jj(hb:0 < b)(q:Q (.int (a % b),h)):Rn (oQ (.int a) (.int b) h) Q:=⟨_,by unfold oQ;dsimp only;rw[Nj hb],q⟩
theorem F8(hb:0 < b)(hb2:b<=10^40)(q:Q (.int (a / b),h)):Rn (BV (.int a) (.int b) h) Q:=⟨_,by unfold BV;dsimp only;rw[Nj ⟨hb,hb2⟩],q⟩
theorem k6(hb:j8 a b=true)(q:Q (.int (a*b),h)):Rn (ir (.int a) (.int b) h) Q:=⟨_,by show(if j8 a b then _ else _)=_;rw[Nj hb],q⟩
theorem mul_r(h1:-(2^64) < b)(h2:b < 2^64):j8 a b=true:=by unfold j8;simp only[OM,Nn,Oa];exact .inr ⟨h1,h2⟩
theorem Bv(h1:-(2^64) < a)(h2:a < 2^64):j8 a b=true:=by unfold j8;simp only[OM,Nn,Oa];exact .inl ⟨h1,h2⟩
theorem y7{h:MH}{s c:Nat}{cs:List Int}{n t:Int}(hs:h[s]?=some (.lst [.int n,.ob c,.int t]))(hc:h[c]?=some (.lst (cs.map D.int)))(ne:c≠s)(t0:0<=t)(tB:t < 2^60):
  Rn (iB [.ob s] h) λp=>∃n',0<=n'/\p=(.bx,h.set s (.lst [.int n',.ob c,.int (t+1)])):=by
 have hl:s < h.length:=(Ng.mp hs).1;generalize hH:h.set s (.lst [.int n,.ob c,.int (t+1)])=H;have Hs:H[s]?=some (.lst [.int n,.ob c,.int (t+1)]):=by rw[<-hH];exact Ov hl
 have Hc:H[c]?=some (.lst (cs.map D.int)):=by rw[<-hH,Oq (Ox ne)];exact hc
 have set0:∀v:Int,p4 (.ob s) (.int 0) (.int v) H=some (h.set s (.lst [.int v,.ob c,.int (t+1)])):=λv=>by
  rw[sR (p:=0) Hs rfl,<-hH,List.set_set];rfl
 have e3:p4 (.ob s) (.int 2) (.int (t+1)) h=some H:=by rw[sR (p:=2) hs rfl,<-hH];rfl
 have e4:bW [.ob c] H=some (.int cs.length,H):=by rw[sT Hc,Nc]
 refine bF ?_;walk_at "g";refine rv (iu hs rfl) ?_;walk_at "g";refine rv (iu hs rfl) ?_;walk_at "g";refine rv rfl ?_;walk_at "g";refine rv e3 ?_;walk_at "g";refine rv (zp Hc) ⟨_,rfl,λhne=>?pos,λhne=>?neg⟩
 case' pos=>
  have hpos:0 < cs.length:=by cases cs with | nil=>simp at hne | cons _ _=>simp
  walk_at "g";refine rv e4 (jj (OY.mpr hpos) ?_);obtain⟨z,hz⟩:=CD cs (t % (cs.length:Int)) (OL _ (by lia)) (O2 _ (OY.mpr hpos));refine rv (iu Hc hz) ?_
 all_goals
  walk_at "g";refine rv e4 (rv rfl ⟨_,rfl,?_⟩);refine(λmix=>⟨λc1=>?thenA,λ_=>⟨λz=>(nomatch z),λ_=>mix⟩⟩) ?thenB
  case thenA=>
   walk_at "g";refine rv rfl ?_;walk_at "g";refine rv rfl (rv rfl ⟨_,rfl,λc2=>?_,λ_=>mix⟩);walk_at "g";refine rv rfl ?_;walk_at "g";refine rv (set0 _) ?_;walk_at "g";exact⟨_,by split <;> lia,rfl⟩
  case thenB=>
   walk_at "g";refine jj (by decide) ?_;walk_at "g";refine k6 (Bv (by decide) (by decide)) ?_;walk_at "g";refine k6 (mul_r (Oy (by decide) t0) (Tu tB (by decide))) (rv rfl ?_);walk_at "g";refine rv rfl ?_;walk_at "g";refine k6 (mul_r (by decide) (by decide)) ?_;walk_at "g";refine jj (by decide) ?_;walk_at "g";refine k6 (Bv (Tu (by decide) (OL _ (by decide))) (RF (O2 _ (by decide)) (by decide))) ?_;walk_at "g";refine jj (by decide) ?_;walk_at "g";refine k6 (mul_r (by decide) (by decide)) ?_;walk_at "g";refine rv rfl ?_;walk_at "g";refine rv rfl ?_;walk_at "g";refine jj (by decide) ?_;walk_at "g";refine rv rfl (rv rfl ?_);walk_at "g";refine rv (set0 _) ?_;walk_at "g";exact⟨_,Int.add_nonneg (OL _ (by decide)) (by decide),rfl⟩
structure St(s c:Nat)(cs:List Int)(R:Nat)(h:MH):Prop where
 st:∃n t:Int,h[s]?=some (.lst [.int n,.ob c,.int t])/\0<=n/\0<=t/\t+R<=2^60
 ce:h[c]?=some (.lst (cs.map D.int))
 ne:c≠s
def lQ(s:Nat)(h h':MH):Prop:=h'.length=h.length/\∀k,k≠s->h'[k]?=h[k]?
theorem lQ.refl(s:Nat)(h:MH):lQ s h h:=⟨rfl,λ_ _=>rfl⟩
theorem lQ.trans(a:lQ s h h1)(b:lQ s h1 h2):lQ s h h2:=⟨b.1.trans a.1,λk n=>(b.2 k n).trans (a.2 k n)⟩
theorem lQ.set:lQ s h (h.set s o):=⟨Pq,λk n=>Oq (Ox n)⟩
section
variable {s c R:Nat} {cs:List Int} {h:MH}
theorem St.le(S:St s c cs R h)(hB:R'<=R):St s c cs R' h:=by
 obtain⟨n,t,e,a,b,d⟩:=S.st;exact⟨⟨n,t,e,a,b,by lia⟩,S.ce,S.ne⟩
theorem St.dn(k:Nat)(S:St s c cs (R+k) h):St s c cs R h:=S.le (NL _ _)
theorem St.set{R':Nat}{n t:Int}(S:St s c cs R h)(h1:0<=n)(h2:0<=t)(h3:t+R'<=2^60):St s c cs R' (h.set s (.lst [.int n,.ob c,.int t])):=by
 obtain⟨n0,t0,e,_⟩:=S.st;exact⟨⟨n,t,Ov (Ng.mp e).1,h1,h2,h3⟩,by rw[Oq (Ox S.ne)];exact S.ce,S.ne⟩
theorem St.more(S:St s c cs R h)(g:MH):St s c cs R (h++g):=by
 obtain⟨n,t,e,r⟩:=S.st;exact⟨⟨n,t,by rw[Nv (Ng.mp e).1];exact e,r⟩,by rw[Nv (Ng.mp S.ce).1];exact S.ce,S.ne⟩
theorem St.off(S:St s c cs R h)(h1:k≠s)(h2:k≠c):St s c cs R (h.set k o):=by
 obtain⟨n,t,e,r⟩:=S.st;exact⟨⟨n,t,by rw[Oq h1];exact e,r⟩,by rw[Oq h2];exact S.ce,S.ne⟩
theorem St.lt(S:St s c cs R h):s < h.length/\c < h.length:=by
 obtain⟨n,t,e,r⟩:=S.st;exact⟨(Ng.mp e).1,(Ng.mp S.ce).1⟩
structure Sb(s c:Nat)(cs:List Int)(h0:MH)(R:Nat)(h:MH):Prop where
 S:St s c cs R h
 b:lQ s h0 h
theorem St.sb(S:St s c cs R h):Sb s c cs h R h:=⟨S,lQ.refl _ _⟩
theorem Sb.dn(k:Nat)(A:Sb s c cs h0 (R+k) h):Sb s c cs h0 R h:=⟨A.S.dn k,A.b⟩
theorem Sb.le(A:Sb s c cs h0 R h)(hR:R'<=R):Sb s c cs h0 R' h:=⟨A.S.le hR,A.b⟩
theorem Sb.at_(A:Sb s c cs h0 R h)(e:h0[k]?=some o)(n:k≠s):h[k]?=some o:=(A.b.2 k n).trans e
variable {h0:MH}
theorem bP{m:Int}{Q:D×MH->Prop}(A:Sb s c cs h0 (R+1) h)(m0:0 < m)(m1:m<=10^40)(k:∀(r:Int)(h1:MH),0<=r->r < m->Sb s c cs h0 R h1->Q (.int r,h1)):Rn (aq [.ob s,.int m] h) Q:=by
 have S:=A.S;obtain⟨n,t,hs,n0,t0,tB⟩:=S.st;refine bF ?_;walk_at "g";refine rv (iu hs rfl) ?_;walk_at "g";refine rv rfl ⟨_,rfl,λ_=>?pos,λ_=>?neg⟩
 case' pos=>
  walk_at "g";obtain⟨p,ep,n',n0',rfl⟩:=y7 hs S.ce S.ne t0 (by lia);refine rv ep ?_;have S1:St s c cs R (h.set s (.lst [.int n',.ob c,.int (t+1)])):=S.set n0' (by lia) (by lia);have b1:lQ s h (h.set s (.lst [.int n',.ob c,.int (t+1)])):=lQ.set
 case' neg=>
  have S1:St s c cs R h:=S.dn 1;have b1:lQ s h h:=lQ.refl s h
 all_goals
  generalize h.set s (MO.lst [D.int _,D.ob c,D.int (t+1)])=h1 at*;obtain⟨n2,t2,hs2,n02,t02,tB2⟩:=S1.st;walk_at "g";refine rv (iu hs2 rfl) ?_;walk_at "g";refine jj m0 ?_;walk_at "g";refine rv (iu hs2 rfl) ?_;walk_at "g";refine F8 m0 m1 ?_;walk_at "g";refine rv (sR (p:=0) hs2 rfl) ?_;walk_at "g";exact k _ _ (OL _ (by lia)) (O2 _ m0) ⟨S1.set (Int.ediv_nonneg n02 (Q5 m0)) t02 tB2,A.b.trans (b1.trans lQ.set)⟩
theorem vo(A:Sb s c cs h0 (R+1) h)(hd:d=.lv xs\/d=.tup xs)(l0:0 < xs.length)(l1:xs.length<=1000000)(k:∀(x:D)(h1:MH),x∈xs->Sb s c cs h0 R h1->Q (x,h1)):Rn (aw [.ob s,d] h) Q:=by
 refine bF ?_;walk_at "g";have e1:bW [d] h=some (.int xs.length,h):=by rcases hd with rfl | rfl <;> rfl
 refine rv e1 ?_;walk_at "g";refine bP A (OY.mpr l0) (by lia) λr h' r0 r1 A1=>?_;obtain⟨v,e3,hv⟩:=CB r0 r1;have e4:aH d (.int r) h'=some (v,h'):=by rcases hd with rfl | rfl <;> simp only[aH,cZ,cL,ND,e3,N8]
 refine rv e4 ?_;walk_at "g";exact k v h' hv A1
theorem jc{is:List Int}{Q:D×MH->Prop}(P:Int->Prop)(hP:∀i∈is,P i)(A:Sb s c cs h0 (R+1) h)(k:∀(i:Int)(h1:MH),P i->i∈is->Sb s c cs h0 R h1->Q (.int i,h1))(l0:0 < is.length:=by simp)(l1:is.length<=1000:=by simp):Rn (aw [.ob s,.lv (is.map D.int)] h) Q:=
 vo A (.inl rfl) (by rw[Nc];exact l0) (by rw[Nc];exact Nr l1 (by decide)) λx h1 hx A1=>by
  obtain⟨i,hi,rfl⟩:=NM.mp hx;exact k i h1 (hP i hi) hi A1
end
theorem wX(ns:List Int)(hn:ns.length<=63)(R:Nat)(hR:R<=2^60):∃cs:List Int,eD [.ro (ns.map D.int)] []=some (.ob 1,[.lst (cs.map D.int),.lst [.int 0,.ob 0,.int 0]])/\St 1 0 cs R [.lst (cs.map D.int),.lst [.int 0,.ob 0,.int 0]]:=by
 refine⟨(ns.drop (HT.bX ns.length 0 none)).take (HT.bX ns.length ns.length (some 63)-HT.bX ns.length 0 none),?_,⟨⟨0,0,rfl,by decide,by decide,by lia⟩,rfl,by decide⟩⟩;have e:Rn (eD [.ro (ns.map D.int)] []) λp=>p=(.ob 1,[.lst (((ns.drop (HT.bX ns.length 0 none)).take (HT.bX ns.length ns.length (some 63)-HT.bX ns.length 0 none)).map D.int),.lst [.int 0,.ob 0,.int 0]]):=by
  refine bF ?_;walk_at "g";refine sx ?_;walk_at "g";refine⟨_,rfl,rv rfl ?_⟩;walk_at "g";refine⟨_,_,_,rfl,rfl,?_⟩;walk_at "g";simp only[cutD,Nc,QM,Rt,Ot,RS,List.cons_append,NQ]
 obtain⟨p,ep,rfl⟩:=e;exact ep
theorem tW{a i:Nat}(h:i < a):a-i=a-(i+1)+1:=(Nat.succ_pred_eq_of_pos (Nat.sub_pos_of_lt h)).symm
theorem Jo{a i:Nat}(h:i < a):a-(i+1)+1<=a-i:=RA (tW h).symm
theorem dp{d f:Nat}(h:d < 5)(hf:3*(5-d)<=f):3*(5-(d+1))+2<=f:=by rw[tW h] at hf;exact Nat.le_of_succ_le hf
theorem Jn(r:Nat){k l:Nat}(h:l<=k):r<=r+k-l:=Nat.le_sub_of_add_le (Pa h r)
theorem HW{R l a b:Nat}(h:a+4<=b):R+a+100*l+4<=R+100*l+b:=by rw[Nat.add_right_comm R a,PX _ a 4];exact Pa h _
end Mi
namespace Mi
open PySem Sm L2
theorem lH(hl:a.length+b.length<=10000):az (.str a) (.str b) h=some (.str (a++b),h):=by
 show(if a.length+b.length<=sizeLine then some (D.str (a++b),h) else none)=_;rw[Nj (by rw[show sizeLine=16777216 from rfl];lia)]
theorem BS(hl:a.length<=10000):bW [.str a] h=some (.int a.length,h):=by
 show(if a.length<=sizeLine then some (D.int a.length,h) else none)=_;rw[Nj (by rw[show sizeLine=16777216 from rfl];lia)]
theorem uU(hl:a.length<=10000):mM (.str a) lo hi h=some (.str (Txt.slice a lo hi),h):=by
 show(if a.length<=sizeLine then some (D.str (Txt.slice a lo hi),h) else none)=_;rw[Nj (by rw[show sizeLine=16777216 from rfl];lia)]
noncomputable def pb(z:Str)(i:Int):Str:=match gR z.cps.toList i with
 | some c=>⟨#[c]⟩
 | none=>""
theorem Eo(hl:z.length<=10000)(h0:0<=i)(h1:i < z.cps.toList.length):(pb z i).length=1/\aH (.str z) (.int i) h=some (.str (pb z i),h):=by
 obtain⟨v,e,_⟩:=CB (xs:=z.cps.toList) h0 h1;have e1:pb z i=⟨#[v]⟩:=by unfold pb;rw[e]
 rw[e1];refine⟨rfl,?_⟩;show(if z.length<=sizeLine then(gR z.cps.toList i).map λc=>(D.str ⟨#[c]⟩,h) else none)=_;rw[Nj (by rw[show sizeLine=16777216 from rfl];exact Nr hl (by decide)),e];rfl
noncomputable def dI:Str:="abcdefghijklmnopqrstuvwxyz"
theorem jr(h0:0<=i)(h1:i < 26):(pb dI i).length=1/\aH (.str "abcdefghijklmnopqrstuvwxyz") (.int i) h=some (.str (pb dI i),h):=
 Eo (z:=dI) (by decide) h0 (by rw[show(dI.cps.toList.length:Int)=26 by decide];exact h1)
def low(w:Str):Prop:=∀c∈w.cps,97<=c/\c<=122
theorem xO:low "":=λc hc=>absurd (show c∈(#[]:Array Nat) from hc) (by simp)
theorem sI(ha:low a)(hb:low b):low (a++b):=by
 intro c hc;have hc':c∈a.cps++b.cps:=hc;rcases Array.mem_append.mp hc' with z | z
 ·exact ha c z
 ·exact hb c z
theorem qI(l u:Option Int)(h:low x):low (Txt.slice x l u):=by
 unfold Txt.slice
 split
 ·exact h
 ·intro c hc;have hc':c∈(List.filterMap (x.cps[·]?) (Builtin.Str.strSliceIndices l u 1 x.length)).toArray:=hc;rw[List.mem_toArray] at hc';obtain⟨i,_,e⟩:=Qg.mp hc';exact h c (Rf e)
theorem wC(h:low w):PyData.strOk w=true:=iD.mpr λc hc=>by have:=(h c hc).2;exact Od this (by decide)
theorem wF:dI.cps.toList=(List.range 26).map (97+·):=by decide+kernel
theorem sZ(h0:0<=i)(h1:i < 26):pb dI i=⟨#[97+i.toNat]⟩:=by
 obtain⟨n,rfl⟩:=Oz h0;have:gR dI.cps.toList (n:Int)=some (97+n):=by
  rw[wF];exact ng (by rw[Nz,Te (by exact OY.mp h1)];rfl)
 unfold pb;rw[this];rfl
theorem vj(h0:0<=i)(h1:i < 26):low (pb dI i):=by
 rw[sZ h0 h1];intro c hc;have:c=97+i.toNat:=by simpa using hc
 lia
theorem t7(h0:0<=j):(Txt.slice x none (some j)).length<=j.toNat:=by
 have key:(Builtin.Str.strSliceIndices none (some j) 1 x.length).length<=j.toNat:=by
  unfold Builtin.Str.strSliceIndices sliceRange;simp only[show(1:Int) > 0 by decide,Ql,Nc,NO]
  (split <;> (try split) <;> (try split) <;> (try simp only[Sy]) <;> lia)
 unfold Txt.slice
 split
 ·next z=>simp at z;have:x.cps.size=x.length:=rfl;lia
 ·show(List.filterMap _ (Builtin.Str.strSliceIndices none (some j) 1 x.length)).toArray.size<=_;rw[Nx];exact Nr (QN _ _) key
theorem t6(h0:0<=j):(Txt.slice x (some j) none).length<=x.length-j.toNat:=by
 have key:(Builtin.Str.strSliceIndices (some j) none 1 x.length).length<=x.length-j.toNat:=by
  unfold Builtin.Str.strSliceIndices sliceRange;simp only[show(1:Int) > 0 by decide,Ql,Nc,NO]
  (split <;> (try split) <;> (try split) <;> (try simp only[Sy]) <;> lia)
 unfold Txt.slice
 split
 ·next z=>simp at z;have:x.cps.size=x.length:=rfl;lia
 ·show(List.filterMap _ (Builtin.Str.strSliceIndices (some j) none 1 x.length)).toArray.size<=_;rw[Nx];exact Nr (QN _ _) key
theorem xj{a b x y:Str}(e:a++x++b=a++y++b):x=y:=by
 have e1:(a.cps++x.cps)++b.cps=(a.cps++y.cps)++b.cps:=congrArg Str.cps e;have e2:=congrArg Array.toList e1;simp only[Array.toList_append] at e2;have e3:=List.append_cancel_left (List.append_cancel_right e2);cases x;cases y;exact congrArg Str.mk (QY.mp e3)
noncomputable def wordAt(stem:Str)(at_ first stride:Int)(k:Int):Str:=Txt.slice stem none (some at_)++pb dI ((first+stride*k) % 26)++Txt.slice stem (some at_) none
theorem zU{stem:Str}{at_ first stride:Int}{k j:Nat}(hs:stride∈[1,3,5,7,9,11])(hk:k < 6)(hj:j < 6)(e:wordAt stem at_ first stride k=wordAt stem at_ first stride j):k=j:=by
 have e1:=xj (show Txt.slice stem none (some at_)++_++Txt.slice stem (some at_) none=Txt.slice stem none (some at_)++_++_ from e);rw[sZ (OL _ (by decide)) (O2 _ (by decide)),sZ (OL _ (by decide)) (O2 _ (by decide))] at e1;have e2:97+((first+stride*k) % 26).toNat=97+((first+stride*j) % 26).toNat:=by injection e1 with e1;injection e1 with e1;injection e1
 have e3:(first+stride*k) % 26=(first+stride*j) % 26:=by
  have a1:=OL (first+stride*k) (show(26:Int)≠0 by decide);have a2:=OL (first+stride*j) (show(26:Int)≠0 by decide);rw[<-QB a1,<-QB a2,Nat.add_left_cancel e2]
 have e4:=Int.emod_eq_emod_iff_emod_sub_eq_zero.mp e3;rw[show first+stride*(k:Int)-(first+stride*(j:Int))=stride*((k:Int)-(j:Int)) by rw[Int.mul_sub,Int.add_sub_add_left]] at e4;exact(by decide:∀s∈([1,3,5,7,9,11]:List Int),∀k:Nat,k < 6->∀j:Nat,j < 6->(s*((k:Int)-(j:Int))) % 26=0->k=j) stride hs k hk j hj e4
theorem tu{h:MH}{s c R:Nat}{cs:List Int}{m:Int}{h0:MH}{Q:D×MH->Prop}(A:Sb s c cs h0 (R+20) h)(m0:0<=m)(m1:m<=6)
  (kk:∀(ws:List Str)(h1:MH),ws.length=m.toNat->(∀w∈ws,1<=w.length/\w.length<=7/\low w)->ws.Nodup->Sb s c cs h0 R h1->Q (.lv (ws.map D.str),h1)):Rn (dm [.ob s,.int m] h) Q:=by
 refine bF ?_;walk_at "g";refine fz ?_;walk_at "g";refine jc (is:=[0,1,1,2,3,6]) (λi=>0<=i/\i<=6) (by decide) A λk h1 hk _ A1=>?_;walk_at "g";refine⟨k,rfl,by exact Oy (by decide) hk.1,by exact PJ hk.2 (by decide),?_⟩;refine dA (λi δ h'=>∃stem d4,δ=[some (.ob s),some (.int m),some (.str "abcdefghijklmnopqrstuvwxyz"),some (.str stem),d4,none,none,none]/\stem.length<=i/\low stem/\Sb s c cs h0 (R+19-i) h')
  ⟨"",_,rfl,Nh _,xO,A1⟩ (λ_ _ _ _ _=>rfl) ?_ ?_
 ·rintro i x δ h2 hx ⟨stem,d4,rfl,hst,aV,A2⟩;have hi:i < k.toNat:=by
   have:=(Ng.mp hx).1
   simpa using this
  rw[tW (a:=R+19) (RQ R (Nq hi (Nr (Int.toNat_le.mpr hk.2) (by decide))))] at A2;walk_at "g";refine bP A2 (by decide) (by decide) λr h3 r0 r1 A3=>?_;walk_at "g";obtain⟨hc,e4⟩:=jr (h:=h3) r0 r1;refine rv e4 ?_;walk_at "g";refine rv (lH (by lia)) ?_;walk_at "g";exact⟨stem++pb dI r,_,rfl,by rw[Qi];lia,sI aV (vj r0 r1),A3⟩
 ·rintro δ h2 ⟨stem,d4,rfl,hst,aV,A2⟩;rw[Nc,NO] at hst A2;have A2:Sb s c cs h0 (R+3) h2:=A2.le (by clear A;lia);walk_at "g";refine rv (BS (by lia)) ?_;walk_at "g";refine rv (a:=(.int ((stem.length:Int)+1),h2)) rfl ?_;walk_at "g";refine bP A2 (by simp) (by lia) λat_ h3 a0 a1 A3=>?_
  walk_at "g";refine bP A3 (by decide) (by decide) λfirst h4 f0 f1 A4=>?_
  walk_at "g";refine jc (is:=[1,3,5,7,9,11]) (λi=>0<=i/\i<=11) (by decide) A4 λstride h5 ht tm A5=>?_;obtain⟨t0,t1⟩:=ht;walk_at "g";refine fz ?_;walk_at "g";refine⟨m,rfl,by exact Oy (by decide) m0,by exact PJ m1 (by decide),?_⟩;have hw:∀k:Int,1<=(wordAt stem at_ first stride k).length/\(wordAt stem at_ first stride k).length<=7/\low (wordAt stem at_ first stride k):=by
   intro k;have c0:=OL (first+stride*k) (show(26:Int)≠0 by decide);have c1:=O2 (first+stride*k) (show(0:Int) < 26 by decide);obtain⟨hc,e⟩:=jr (i:=(first+stride*k) % 26) (h:=[]) c0 c1;have s1:=t7 (x:=stem) a0;have s2:=t6 (x:=stem) a0;have s3:low (wordAt stem at_ first stride k):=sI (sI (qI _ _ aV) (vj c0 c1)) (qI _ _ aV);refine(λ(z:_/\_)=>⟨z.1,z.2,s3⟩) ?_;unfold wordAt;rw[Qi,Qi]
   lia
  refine rv (sy rfl (λx=>match x with | .int k=>some (.str (wordAt stem at_ first stride k)) | _=>none) (λδ=>∃d0,δ=[d0,some (.int at_),some (.int first),some (.str "abcdefghijklmnopqrstuvwxyz"),some (.str stem),some (.int stride)]) ⟨_,rfl⟩ ?_) ⟨?_,?_⟩
  ·rintro x hx δ ⟨d0,rfl⟩;obtain⟨k,hk,rfl⟩:=NM.mp hx;refine rv rfl ⟨rfl,rv rfl ⟨rfl,⟨_,rfl⟩,λ_=>⟨_,rfl,?_⟩,λz=>(nomatch z)⟩⟩;refine wa (wa (wc ?_));walk_at "g";refine⟨_,rfl,rv (uU (a:=stem) (by lia)) ?_⟩;walk_at "g";refine k6 (Bv (by exact Oy (by decide) t0) (by exact PJ t1 (by decide))) ?_;refine rv (a:=(.int (first+stride*(k:Int)),h5)) rfl ?_;walk_at "g";refine jj (by decide) ?_;obtain⟨hc,e⟩:=jr (i:=(first+stride*(k:Int)) % 26) (h:=h5) (OL _ (by decide)) (O2 _ (by decide));have s1:=Txt.slice_le stem none (some at_);have s2:=Txt.slice_le stem (some at_) none;refine rv e (rv (lH (by lia)) ?_);refine wc ?_;walk_at "g";refine⟨_,rfl,?_⟩;walk_at "g";refine rv (uU (a:=stem) (by lia)) (rv (lH (by rw[Qi];lia)) ?_);rfl
  ·rw[PH];exact Nr (QN _ _) (by rw[NO,show sizeLine=16777216 from rfl];lia)
  ·walk_at "g";rw[show List.filterMap (λx=>match x with | D.int k=>some (D.str (wordAt stem at_ first stride k)) | _=>none) ((List.range m.toNat).map λ(k:Nat)=>D.int k)=((List.range m.toNat).map λ(k:Nat)=>wordAt stem at_ first stride (k:Int)).map D.str by
    rw[PH,O3];exact congrFun (SR (f:=D.str∘λ(k:Nat)=>wordAt stem at_ first stride (k:Int))) _]
   refine kk _ h5 (by simp) (λw hw'=>?_) ?_ A5
   ·obtain⟨k,_,rfl⟩:=NM.mp hw';exact hw k
   ·rw[List.nodup_iff_pairwise_ne,PZ];refine(QX (n:=m.toNat)).imp_of_mem λ{a b} ha hb hab e=>hab ?_;have:=NR.mp ha;have:=NR.mp hb;exact zU tm (by lia) (by lia) e
theorem lQ.app{s:Nat}{hb h2:MH}{o:MO}(b:lQ s (hb++[o]) h2)(hs:s < hb.length):∃hb',h2=hb'++[o]/\lQ s hb hb':=by
 have hl:h2.length=hb.length+1:=by rw[b.1];simp
 refine⟨h2.take hb.length,?_,by rw[NF];lia,λk hk=>?_⟩
 ·refine RE λk=>?_
  by_cases z:k < hb.length
  ·rw[Nv (by rw[NF];lia),N0 z]
  ·by_cases z2:k=hb.length
   ·subst z2;rw[b.2 _ (by exact Pu hs),NG (Nh _),NG (by rw[NF];lia),NF];rw[show min hb.length h2.length=hb.length by lia]
   ·rw[Oc (by lia),Oc (by rw[NT,NF];simp;lia)]
 ·by_cases z:k < hb.length
  ·rw[N0 z,b.2 k hk,Nv z]
  ·rw[Oc (by rw[NF];lia),Oc (by exact Ob z)]
theorem St.cut{s c:Nat}{cs:List Int}{B:Nat}{hb g:MH}(S:Mi.St s c cs B (hb++g))(h1:s < hb.length)(h2:c < hb.length):Mi.St s c cs B hb:=by
 obtain⟨n,t,e,r⟩:=S.st;have e2:=S.ce;rw[Nv h1] at e;rw[Nv h2] at e2;exact⟨⟨n,t,e,r⟩,e2,S.ne⟩
def Cl(h:MH):Prop:=∀o∈h,vD h.length o=true
theorem yh(n:Nat):∀js:List Int,fe n (js.map D.int)=true
 | []=>rfl
 | j::r=>by rw[Ny];show(gO n (.int _)&&fe n _)=true;rw[yh n r];rfl
theorem Cl.but{s c:Nat}{cs:List Int}{B:Nat}{h h':MH}(C:Cl h)(S:Mi.St s c cs B h')(b:lQ s h h'):Cl h':=by
 intro o ho;obtain⟨k,hk⟩:=Pn.mp ho
 by_cases z:k=s
 ·subst z;obtain⟨n,t,e,_⟩:=S.st;rw[e] at hk;cases hk;show(true&&(decide (c < h'.length)&&(true&&true)))=true;rw[NC S.lt.2];rfl
 ·rw[b.2 k z] at hk;rw[b.1];exact C o (Ni hk)
theorem kc{h hb g:MH}{d:D}(hl:hb.length=h.length)(C:Cl hb)(h1:∀n,d≠.ob n)(h2:gO h.length d=true):leave h d (hb++g)=some (d,hb):=by
 have h3:z9 h.length (hb++g) d=d:=by
  cases d with
  | ob n=>exact absurd rfl (h1 n)
  | _=>rfl
 unfold leave;rw[h3,<-hl,List.take_append_of_le_length (Nh _),O1,hl,h2];have:(hb.all (vD h.length))=true:=by
  rw[NS];intro o ho;rw[<-hl];exact C o ho
 rw[this,Bool.or_true];rfl
theorem Cl.add{h:MH}(C:Cl h){o:MO}(ho:vD (h.length+1) o=true)(up:∀o∈h,vD h.length o=true->vD (h.length+1) o=true):Cl (h++[o]):=by
 intro x hx;rw[NT,Ra];rcases NY.mp hx with z | z
 ·exact up x z (C x z)
 ·rw[Nw.mp z];exact ho
mutual
theorem Cm{n m:Nat}(hm:n<=m):∀d:D,gO n d=true->gO m d=true
 | .bx,_=>rfl
 | .bl _,_=>rfl
 | .int _,_=>rfl
 | .str _,_=>rfl
 | .ty _,_=>rfl
 | .ob k,h=>by simp only[gO,Oa] at h ⊢;exact Nr h hm
 | .tup xs,h=>by simp only[gO] at h ⊢;exact jx hm xs h
 | .lv xs,h=>by simp only[gO] at h ⊢;exact jx hm xs h
 | .ro xs,h=>by simp only[gO] at h ⊢;exact jx hm xs h
 | .dv xs,h=>by simp only[gO] at h ⊢;exact w5 hm xs h
theorem jx{n m:Nat}(hm:n<=m):∀d:List D,fe n d=true->fe m d=true
 | [],_=>rfl
 | x::r,h=>by
  simp only[fe,Nn] at h ⊢;exact⟨Cm hm x h.1,jx hm r h.2⟩
theorem w5{n m:Nat}(hm:n<=m):∀d:List (Key×D),EC n d=true->EC m d=true
 | [],_=>rfl
 |(_,x)::r,h=>by
  simp only[EC,Nn] at h ⊢;exact⟨Cm hm x h.1,w5 hm r h.2⟩
end
theorem HL{n m:Nat}(hm:n<=m)(o:MO)(h:vD n o=true):vD m o=true:=by
 cases o with
 | lst xs=>exact jx hm xs h
 | dct xs=>exact w5 hm xs h
 | dcH xs=>have h:=NJ.mp h;exact NJ.mpr ⟨jx hm _ h.1,jx hm _ h.2⟩
theorem Cl.snoc{h:MH}(C:Cl h){o:MO}(ho:vD (h.length+1) o=true):Cl (h++[o]):=C.add ho λx _ z=>HL (Pc _) x z
theorem Cl.set{h:MH}(C:Cl h){n:Nat}{o:MO}(ho:vD h.length o=true):Cl (h.set n o):=by
 intro x hx;rw[Pq];rcases List.mem_or_eq_of_mem_set hx with z | z
 ·exact C x z
 ·rw[z];exact ho
end Mi
namespace Sm
open PySem L2
theorem m8{e:EM}{h:MH}{t:DS}(f:D->D):∀(xs:List D)(o:Option D),(∀x∈xs,e (some x::t) h=some (f x,h))->aY [] (gN 0) ck e xs (o::t) h=some (xs.map f,h)
 | [],o,_=>rfl
 | x::r,o,hx=>by
  have e1:e (some x::t) h=some (f x,h):=hx x Nm;have e2:=m8 f r (some x) λy hy=>hx y (Nl _ hy);show((some ((o::t).set 0 (some x),h)).bind λq=>(ck q.1 q.2).bind λt=>if t.1=true then(e q.1 t.2).bind λy=>(aY [] (gN 0) ck e r q.1 y.2).map λz=>(y.1::z.1,z.2) else aY [] (gN 0) ck e r q.1 t.2)=_;show((e (some x::t) h).bind λy=>(aY [] (gN 0) ck e r (some x::t) y.2).map λz=>(y.1::z.1,z.2))=_;rw[e1];show((aY [] (gN 0) ck e r (some x::t) h).map λz=>(f x::z.1,z.2))=_;rw[e2];rfl
theorem yj{α:Type}(f:α->Bool):∀(l:List α),zH (l.map λx=>D.bl (f x))=some (l.map f)
 | []=>rfl
 | x::r=>by show(zH (r.map λx=>D.bl (f x))).map _=_;rw[yj f r];rfl
theorem kl{α:Type}(p:α->Bool)(xs:List α)(h:MH):uX [.lv (xs.map λx=>.bl (p x))] h=some (.bl (xs.all p),h):=by
 show(zH (xs.map λx=>D.bl (p x))).map (λbs=>(D.bl (bs.all id),h))=_;rw[yj];show some (D.bl ((xs.map p).all id),h)=_;rw[Sx];rfl
theorem eN{α:Type}{o:Option α}{a:α}(r:Rn o λp=>p=a):o=some a:=let⟨_,e,q⟩:=r;by rw[e,q]
theorem oU(hl:xs.length+ys.length<=10000):az (.tup xs) (.tup ys) h=some (.tup (xs++ys),h):=by
 cases xs with
 | nil=>rfl
 | cons x xs=>
  show(if xs.length+1+ys.length<=sizeLine then some (D.tup (x::xs++ys),h) else none)=_;rw[Nj (by rw[show sizeLine=16777216 from rfl];rw[NQ] at hl;exact Nr hl (by decide))]
theorem o9{ea eb ec:EM}{δ:DS}{h:MH}{a n b:Int}(ha:ea δ h=some (.int a,h))(hn:eb δ h=some (.int n,h))(hb:ec δ h=some (.int b,h)):iy BU BU ea eb ec δ h=some (.bl (decide (a<=n)&&decide (n<=b)),h):=by
 refine eN (AL (rv ha (rv hn (rv rfl ⟨_,rfl,?_⟩))))
 by_cases c:a<=n
 ·rw[Nj (NC c),NC c];exact rv hb (rv rfl rfl)
 ·rw[Np (by simpa using c),NU c];rfl
theorem tt(a:A):(true=true->A)/\(true=false->B):=⟨λ_=>a,λz=>(nomatch z)⟩
theorem ff(b:B):(false=true->A)/\(false=false->B):=⟨λz=>(nomatch z),λ_=>b⟩
end Sm
namespace Mi
open PySem Sm L2 Pg
noncomputable def kP(W:Wd)(fl:List Int)(left odd:Int):MO:=.dct [(.inr (Str.ofString "names"),.lv (W.names.map D.str)),(.inr (Str.ofString "deeds"),.lv (W.av.map D.str)),(.inr (Str.ofString "params"),.lv (W.params.map λps=>.lv (ps.map D.str))),(.inr (Str.ofString "floors"),.lv (fl.map D.int)),(.inr (Str.ofString "left"),.int left),(.inr (Str.ofString "odd"),.int odd)]
structure xl(W:Wd)(fl:List Int)(odd:Int):Prop where
 n1:1<=W.names.length
 n2:W.names.length<=6
 d1:1<=W.av.length
 d2:W.av.length<=6
 pl:W.params.length=W.av.length
 p3:∀ps∈W.params,ps.length<=3
 Mg:fl.length=W.av.length
 f0:∀f∈fl,0<=f/\f < W.names.length
 o0:0<=odd
 o1:odd<=1000
 sn:∀w∈W.names,1<=w.length/\w.length<=7/\low w
 sd:∀w∈W.av,1<=w.length/\w.length<=7/\low w
 sp:∀ps∈W.params,∀w∈ps,1<=w.length/\w.length<=7/\low w
 nn:W.names.Nodup
 nd:W.av.Nodup
 np:∀ps∈W.params,ps.Nodup
section
variable {h:MH} {wd:Nat} {W:Wd} {fl:List Int} {left odd:Int}
theorem c8(hw:h[wd]?=some (kP W fl left odd)):aH (.ob wd) (.str (Str.ofString "names")) h=some (.lv (W.names.map D.str),h):=by simp only[aH,cZ,hw,kP];rfl
theorem c9(hw:h[wd]?=some (kP W fl left odd)):aH (.ob wd) (.str (Str.ofString "deeds")) h=some (.lv (W.av.map D.str),h):=by simp only[aH,cZ,hw,kP];rfl
theorem cx(hw:h[wd]?=some (kP W fl left odd)):aH (.ob wd) (.str (Str.ofString "params")) h=some (.lv (W.params.map λps=>.lv (ps.map D.str)),h):=by simp only[aH,cZ,hw,kP];rfl
theorem kS(hw:h[wd]?=some (kP W fl left odd)):aH (.ob wd) (.str (Str.ofString "floors")) h=some (.lv (fl.map D.int),h):=by simp only[aH,cZ,hw,kP];rfl
theorem mP(hw:h[wd]?=some (kP W fl left odd)):aH (.ob wd) (.str (Str.ofString "left")) h=some (.int left,h):=by simp only[aH,cZ,hw,kP];rfl
theorem vF(hw:h[wd]?=some (kP W fl left odd)):aH (.ob wd) (.str (Str.ofString "odd")) h=some (.int odd,h):=by simp only[aH,cZ,hw,kP];rfl
theorem zV(hw:h[wd]?=some (kP W fl left odd))(v:Int):p4 (.ob wd) (.str (Str.ofString "left")) (.int v) h=some (h.set wd (kP W fl v odd)):=by
 have h1:(6:Nat) < sizeLine:=by decide
 simp only[p4,hw,kP,wH,ND,NQ,Ot];rw[Nj h1];rfl
end
section
variable {h h0:MH} {s c wd R:Nat} {cs:List Int} {W:Wd} {fl:List Int} {left odd:Int} {Q:D×MH->Prop}
theorem Cv(A:Sb s c cs h0 (R+1) h)(hw:h[wd]?=some (kP W fl left odd))(ok:xl W fl odd)(k:∀(b:Bool)(h1:MH),Sb s c cs h0 R h1->Q (.bl b,h1)):Rn (cQ [.ob s,.ob wd] h) Q:=by
 refine bF ?_;nofun;refine rv (vF hw) ?_;nofun;refine⟨_,rfl,λz=>?_,λz=>?_⟩
 ·nofun;refine rv (vF hw) ?_;nofun;refine bP A (NV z) (by have:=ok.o1;exact Oy this (by decide)) λm h1 _ _ A1=>?_;nofun;exact k _ _ A1
 ·nofun;exact k _ _ (A.dn 1)
theorem tw{ps:List Str}(A:Sb s c cs h0 (R+4) h)(hp:ps.length<=3)(k:∀(t:Term)(h1:MH),dU ps t->t.2<=40->Sb s c cs h0 R h1->Q (bA t,h1)):Rn (bw [.ob s,.lv (ps.map D.str)] h) Q:=by
 refine bF ?_;nofun;refine bP A (by decide) (by decide) λm h1 m0 m1 A1=>?_;nofun;have plain:∀{h2:MH} {P:D×MH->Prop},Sb s c cs h0 (R+1) h2->(∀(i:Int)(h3:MH),-40<=i/\i<=40->Sb s c cs h0 R h3->P (.int i,h3))->Rn (aw [.ob s,.lv [.int 0,.int 0,.int 1,.int 1,.int 2,.int 3,.int (-1),.int (m-40)]] h2) P:=λA2 kk=>
  jc (is:=[0,0,1,1,2,3,-1,m-40]) (λi=>-40<=i/\i<=40) (by intro x hx;simp at hx;lia) A2 λi h3 hi _ A3=>kk i h3 hi A3
 refine⟨_,rfl,λz=>?_,λz=>⟨λz=>(nomatch z),λ_=>?_⟩⟩
 ·have z:0 < ps.length:=by simpa using z
  nofun;refine bP A1 (by decide) (by decide) λm2 h2 _ _ A2=>?_;nofun;refine⟨_,rfl,λ_=>?_,λ_=>?_⟩
  ·nofun;refine vo A2 (.inl rfl) (by simpa using z) (by simp;exact Nr hp (by decide)) λd3 h3 hd3 A3=>?_;obtain⟨w,hw,rfl⟩:=NM.mp hd3;nofun;refine jc (is:=[0,0,0,0,1,1,-1,2,m-40]) (λi=>-40<=i/\i<=40) (by intro x hx;simp at hx;clear plain;lia) A3 λi h4 hi _ A4=>?_;nofun;exact k (w,i) h4 ⟨.inr hw,by dsimp only;exact Oy (by decide) hi.1,by dsimp only;exact Oy hi.2 (by decide)⟩ hi.2 A4
  ·nofun;refine plain (A2.dn 1) λi h3 hi A3=>?_;nofun;exact k (Str.ofString "",i) h3 ⟨.inl rfl,by dsimp only;exact Oy (by decide) hi.1,by dsimp only;exact Oy hi.2 (by decide)⟩ hi.2 A3
 ·nofun;refine plain (A1.dn 2) λi h3 hi A3=>?_;nofun;exact k (Str.ofString "",i) h3 ⟨.inl rfl,by dsimp only;exact Oy (by decide) hi.1,by dsimp only;exact Oy hi.2 (by decide)⟩ hi.2 A3
end
theorem bN{α:Type}{xs:List α}{f:α->D}{h:MH}{j:Nat}{x:α}(e:xs[j]?=some x):aH (.lv (xs.map f)) (.int j) h=some (f x,h):=by
 have hj:j < xs.length:=by
  rcases OW j xs.length with z | z
  ·exact z
  ·rw[Oc z] at e;cases e
 show((gR (xs.map f) j).map λz=>(z,h))=_;have:gR (xs.map f) j=some (f x):=by
  unfold gR;rw[show uR (xs.map f).length j=some j by unfold uR;simp;exact hj];show(xs.map f)[j]?=_;rw[Nz,e];rfl
 rw[this];rfl
theorem iK(i j:Int)(h:MH):p5 [.int i,.int j] h=some (.int (max i j),h):=by
 show some (D.int (if j > i then j else i),h)=_;rw[show(if j > i then j else i)=max i j by split <;> lia]
theorem xY(i j:Int)(h:MH):zq [.int i,.int j] h=some (.int (min i j),h):=by
 show some (D.int (if j < i then j else i),h)=_;rw[show(if j < i then j else i)=min i j by split <;> lia]
theorem xV{α:Type}{o:Option Bool}{x y:Option α}{X Y:α->Prop}(r:∃c,o=some c/\(c=true->Rn x Y)/\(c=false->Rn y Y))(f:∀p,Y p->X p):∃c,o=some c/\(c=true->Rn x X)/\(c=false->Rn y X):=
 let⟨c,e,a,b⟩:=r
 ⟨c,e,λz=>(a z).imp f,λz=>(b z).imp f⟩
noncomputable def ny(t:Term):PyData:=.tuple [.str t.1,.int t.2]
theorem qw:∀ts:List Term,gL (ts.map bA)=some (ts.map ny)
 | []=>rfl
 | c::r=>by simp only[Ny,gL,qw r,bA,iG,ND,N8];rfl
theorem mw:∀ts:List Term,PyData.depthAll (ts.map ny)<=1
 | []=>by simp[PyData.depthAll]
 | c::r=>by
  have:=mw r;simp only[Ny,PyData.depthAll,ny,PyData.depth]
  lia
theorem wO(ts:List Term)(h:MH):dY (.lv (ts.map bA)) (.lv []) h=some (.bl (!ts.isEmpty),h):=by
 have:=mw ts;simp only[dY,B3,cZ,IG,vY,qw,iG,gL,N8,ND];rw[Nj ⟨show PyData.depthAll _+1<=64 by exact Od this (by decide),by decide⟩];cases ts <;> rfl
section
variable {h h0:MH} {s c wd R:Nat} {cs:List Int} {W:Wd} {fl:List Int} {left odd:Int} {Q:D×MH->Prop}
theorem HR{ps:List Str}{j:Nat}{top:Int}{held:List Lock}(A:Sb s c cs h0 (R+10) h)(hw0:h0[wd]?=some (kP W fl left odd))(hne:wd≠s)(ok:xl W fl odd)(hp:W.params[j]?=some ps)(hj:j < W.av.length)(ht:top<=W.names.length)(hh:∀l∈held,eR W ps l)(hl:held.length<=1000)
  (k1:∀(k:Int)(l:Lock)(h1:MH),max top (fl[j]?.getD 0) < W.names.length->0<=k->k < W.names.length->eR W ps l->Sb s c cs h0 R h1->Q (.tup [.int k,aE l],h1))
  (k2:∀(h1:MH),max top (fl[j]?.getD 0)=W.names.length->Sb s c cs h0 R h1->Q (.tup [.bx,.bx],h1)):Rn (dO [.ob s,.ob wd,.int j,.int top,.lv (held.map aE)] h) Q:=by
 have hw:=A.at_ hw0 hne;obtain⟨f,hf⟩:∃f,fl[j]?=some f:=⟨_,Nk (by rw[ok.Mg];exact hj)⟩;have hfm:=ok.f0 f (Ni hf);have n2:=ok.n2;rw[hf] at k1 k2;dsimp only[Option.getD_some] at k1 k2;refine bF ?_;nofun;refine rv (kS hw) ?_;nofun;refine rv (bN hf) ?_;nofun;refine rv (iK top f h) ?_;have lo0:0<=max top f:=by lia
 have lo1:max top f<=W.names.length:=by lia
 generalize max top f=lo at lo0 lo1 k1 k2 ⊢;nofun;refine rv (c8 hw) ?_;nofun;refine⟨_,rfl,λz=>?_,λz=>?_⟩
 ·have z:lo=W.names.length:=by simpa using z
  nofun;exact k2 h z (A.dn 10)
 have z:lo≠W.names.length:=by simpa using z
 have z0:lo < W.names.length:=by lia
 have k1:=λk l h1=>k1 k l h1 z0;clear k2;nofun;refine rv (c8 hw) ?_;nofun;simp only[Nc];refine bP A (by lia) (by lia) λm h1 m0 m1 A1=>?_;nofun;refine Cv A1 (A1.at_ hw0 hne) ok λb h2 A2=>?_;nofun;refine xV (Y:=λr=>∃(k:Int)(h3:MH),r=(Fl.nx,[some (.ob s),some (.ob wd),some (.int j),some (.int top),some (.lv (held.map aE)),some (.int lo),some (.int k),none,none,none,none],h3)/\0<=k/\k < W.names.length/\Sb s c cs h0 (R+7) h3) ?_ ?_
 ·refine⟨b,rfl,λ_=>?_,λ_=>?_⟩
  ·nofun;refine rv (c8 (A2.at_ hw0 hne)) ?_;nofun;simp only[Nc];refine bP A2 (by exact PJ hfm.1 hfm.2) (by lia) λk h3 k0 k1 A3=>?_;exact⟨k,h3,rfl,k0,k1,A3⟩
  ·nofun;exact⟨lo+m,h2,rfl,by lia,by lia,A2.dn 1⟩
 rintro _ ⟨k,h3,rfl,k0,kL,A3⟩;have hw3:=A3.at_ hw0 hne;have k1:=λl h1=>k1 k l h1 k0 kL;obtain⟨kn,rfl⟩:=Oz k0;obtain⟨nm,hnm⟩:∃f,W.names[kn]?=some f:=⟨_,Nk (by exact OY.mp kL)⟩;show Rn _ _;nofun;refine rv (c8 hw3) ?_;nofun;refine rv (bN hnm) ?_;nofun;refine dQ ?_;nofun;refine⟨_,_,rfl,?_⟩;obtain⟨⟨ys,h4⟩,e4,hyl,hym,δ4,hh4,_⟩:=mV (ws:=[]) (g:=gN 0) (c:=ax (ah cV (ah aH (aS 0) (eK (D.int 0))) (aS 1))) (e:=ah aH (aS 0) (eK (D.int 1))) (λx y=>∃l∈held,x=aE l/\y=bA l.2)
  (xs:=held.map aE) (δ:=[none,some (.str nm)]) (h:=h3) (λj δ h'=>h'=h3/\∃d0,δ=[d0,some (.str nm)]) ⟨rfl,_,rfl⟩ (λ_ _ _ _ _=>rfl) (by
   rintro i x δ h' hx ⟨rfl,d0,rfl⟩;obtain⟨l,hl,rfl⟩:=NM.mp (Ni hx);nofun;refine rv (a:=(.str l.1,_)) rfl ?_;nofun;refine⟨_,rfl,λ_=>?_,λ_=>⟨rfl,_,rfl⟩⟩;nofun;exact rv (a:=(bA l.2,_)) rfl ⟨⟨l,hl,rfl,rfl⟩,rfl,_,rfl⟩)
 dsimp only at hh4;subst hh4;refine rv e4 ⟨Nr hyl (by rw[Nc,show sizeLine=16777216 from rfl];exact Nr hl (by decide)),?_⟩;obtain⟨ts,rfl,htm⟩:∃ts:List Term,ys=ts.map bA/\∀t∈ts,dU ps t:=by
  clear e4 hyl
  induction ys with
  | nil=>exact⟨[],rfl,λ_ z=>(nomatch z)⟩
  | cons y r ih=>
   obtain⟨js,rfl,h1⟩:=ih λz hz=>hym z (Nl _ hz);obtain⟨x,hx,l,hl,rfl,rfl⟩:=hym y Nm;exact⟨l.2::js,rfl,List.forall_mem_cons.mpr ⟨(hh l hl).2,h1⟩⟩
 nofun;have pl:=ok.p3 ps (Ni hp);refine rv (wO ts _) ⟨_,rfl,λz=>?_,λz=>⟨λz=>(nomatch z),λ_=>?_⟩⟩
 ·nofun;refine Cv A3 hw3 ok λb' h5 A5=>⟨_,rfl,λ_=>?_,λ_=>?_⟩
  ·have hts:ts≠[]:=by rintro rfl;cases z
   obtain⟨us,last,rfl⟩:∃us last,ts=us++[last]:=⟨ts.dropLast,ts.getLast hts,(List.dropLast_concat_getLast hts).symm⟩;have hlast:=htm last (by simp);nofun;refine rv (a:=(bA last,_)) (by
    show((gR ((us++[last]).map bA) (-1)).map λz=>(z,h5))=_;rw[Oe];show((gR (us.map bA++[bA last]) (-1)).map λz=>(z,h5))=_;rw[CC];rfl) ?_
   nofun;refine rv (a:=_) rfl ?_;nofun;refine bP A5 (by decide) (by decide) λm6 h6 m60 m61 A6=>?_;nofun;refine rv (xY _ _ _) ?_;nofun;exact k1 (nm,(last.1,min 99 (last.2+1+m6))) h6 ⟨Ni hnm,hlast.1,by dsimp only;have:=hlast.2;lia,by dsimp only;lia⟩ (A6.dn 5)
  ·nofun;refine rv (cx (A5.at_ hw0 hne)) ?_;nofun;refine rv (bN hp) ?_;nofun;refine tw (A5.dn 2) pl λt h6 tk _ A6=>?_;nofun;exact k1 (nm,t) h6 ⟨Ni hnm,tk⟩ A6
 ·nofun;refine rv (cx hw3) ?_;nofun;refine rv (bN hp) ?_;nofun;refine tw (A3.dn 3) pl λt h6 tk _ A6=>?_;nofun;exact k1 (nm,t) h6 ⟨Ni hnm,tk⟩ A6
end
theorem uW(cs:List Int)(h:MH):cV (.lv (cs.map D.int)) (.lv []) h=some (.bl cs.isEmpty,h):=by
 simp only[cV,B3,cZ,IG,vY,ou,iG,gL,N8,ND,PyData.depth,jv];cases cs <;> rfl
theorem Gr(r:Rn (m δ h) λp=>∃j:Int,p.1=[.int j]/\0<=j/\j<=1000/\Q ((List.range j.toNat).map λ(k:Nat)=>D.int (k:Int),p.2)):Rn (Ii m δ h) Q:=aQ (r.imp λp ⟨j,e,h1,h2,q⟩=>by
 rw[e];dsimp only;rw[Nj ⟨h1,h2⟩];exact⟨_,rfl,q⟩)
section
variable {h h0:MH} {s c wd R:Nat} {cs:List Int} {W:Wd} {fl:List Int} {left odd:Int} {Q:D×MH->Prop}
theorem HS{top:Int}(A:Sb s c cs h0 (R+14) h)(hw0:h0[wd]?=some (kP W fl left odd))(hne:wd≠s)(ok:xl W fl odd)(hp:W.params[j]?=some ps)(hj:j < W.av.length)
  (kk:∀(r:Row)(h1:MH),(∀n,cY W ps n r)->cnt r=1->Sb s c cs h0 R h1->Q (bE r,h1)):Rn (fw [.ob s,.ob wd,.int j,.int top] h) Q:=by
 have hw:=A.at_ hw0 hne;have d2:=ok.d2;have pl:=ok.p3 ps (Ni hp);obtain⟨dj,hdj⟩:∃f,W.av[j]?=some f:=⟨_,Nk hj⟩;refine bF ?_;nofun;refine fz ?_;nofun;refine rv (c9 hw) ?_;nofun;refine⟨(W.av.map D.str).length,rfl,by rw[Nc];simp,by rw[Nc];lia,?_⟩;rw[Nc,NP];obtain⟨⟨ys,h1⟩,e1,hyl,hym,δ1,hh1,_⟩:=mV (ws:=[]) (g:=gN 0) (c:=f6 (ax (ah xZ (ah aH (ah aH (aS 3) (eK (.str "floors"))) (aS 0)) (aS 2))) (ax (ah Kp (aS 0) (aS 1)))) (e:=aS 0) (λx y=>y=x)
  (xs:=(List.range W.av.length).map λ(k:Nat)=>D.int (k:Int)) (δ:=[none,some (.int j),some (.int top),some (.ob wd)]) (h:=h) (λi δ h'=>h'=h/\∃d0,δ=[d0,some (.int j),some (.int top),some (.ob wd)]) ⟨rfl,_,rfl⟩ (λ_ _ _ _ _=>rfl) (by
   rintro i x δ h' hx ⟨rfl,d0,rfl⟩;rw[Nz] at hx;obtain⟨k,hk,hk2⟩:=N5.mp hx;subst hk2;have hkl:k < fl.length:=by rw[ok.Mg];exact NR.mp (Ni hk)
   obtain⟨f,hf⟩:∃f,fl[k]?=some f:=⟨_,Nk hkl⟩;nofun;refine rv (kS hw) ?_;nofun;refine rv (bN hf) ?_;nofun;refine⟨_,rfl,λ_=>?_,λ_=>⟨λz=>(nomatch z),λ_=>⟨rfl,_,rfl⟩⟩⟩;nofun;refine⟨_,rfl,λ_=>?_,λ_=>⟨rfl,_,rfl⟩⟩;nofun;exact⟨rfl,rfl,_,rfl⟩)
 dsimp only at hh1;subst hh1;refine rv e1 ⟨Nr hyl (by rw[Nc,NO,show sizeLine=16777216 from rfl];exact Nr d2 (by decide)),?_⟩;have hint:∀zs:List D,(∀y∈zs,∃x,x∈(List.range W.av.length).map (λ(k:Nat)=>D.int (k:Int))/\y=x)->∃js:List Int,zs=js.map D.int/\∀k∈js,0<=k/\k < W.av.length:=by
  intro zs hz
  induction zs with
  | nil=>exact⟨[],rfl,λ_ z=>(nomatch z)⟩
  | cons y r ih=>
   obtain⟨js,rfl,q⟩:=ih λz hz'=>hz z (Nl _ hz');obtain⟨x,hx,rfl⟩:=hz y Nm;obtain⟨k,hk,rfl⟩:=NM.mp hx;exact⟨k::js,rfl,λi hi=>by
    rcases NA.mp hi with rfl | hi
    ·have:=NR.mp hk;clear ih;lia
    ·exact q i hi⟩
 have hyn:ys.length<=6:=by
  have h9:ys.length<=_:=hyl;rw[Nc,NO] at h9;exact Nr h9 d2
 obtain⟨js,rfl,hjs⟩:=hint ys hym;rw[Nc] at hyn;nofun;refine Cv A hw ok λb h2 A2=>?_;have hw2:=A2.at_ hw0 hne;nofun;refine xV (Y:=λr=>∃(ks:List Int),r=(Fl.nx,[some (.ob s),some (.ob wd),some (.int j),some (.int top),some (.lv (ks.map D.int)),none,none],h2)/\ks.length<=6/\∀k∈ks,0<=k/\k < W.av.length) ?_ ?_
 ·refine⟨b,rfl,λ_=>?_,λ_=>?_⟩
  ·nofun;refine Gr ?_;nofun;refine rv (c9 hw2) ?_;nofun;refine⟨(W.av.map D.str).length,rfl,by rw[Nc];simp,by rw[Nc];lia,?_⟩;rw[Nc,NP];obtain⟨ks,hk1,hk2⟩:=hint _ λy hy=>⟨y,hy,rfl⟩;refine⟨ks,?_,?_,hk2⟩
   ·show _=_;rw[<-hk1];rfl
   ·have:=congrArg List.length hk1;rw[Nc,Nc,NO] at this
    lia
  ·nofun;exact⟨js,rfl,hyn,hjs⟩
 rintro _ ⟨ks,rfl,kn,hks⟩;show Rn _ _;nofun;refine rv (uW ks _) ⟨_,rfl,λz=>?_,λz=>?_⟩
 ·nofun;refine rv (c9 hw2) ?_;nofun;refine rv (bN hdj) ?_;nofun;have:=kk (.say dj) h2 (λn=>by unfold cY;exact N7 _ (Ni hdj)) (by rw[cnt]) (A2.dn 13);rw[bE] at this;exact this
 have z0:0 < ks.length:=by cases ks with | nil=>cases z | cons _ _=>simp
 nofun;refine vo A2 (.inl rfl) (by simpa using z0) (by simp;exact Nr kn (by decide)) λd3 h3 hd3 A3=>?_;have hw3:=A3.at_ hw0 hne;obtain⟨k,hk,rfl⟩:=NM.mp hd3;obtain⟨k0,k1⟩:=hks k hk;obtain⟨kn',rfl⟩:=Oz k0;have hkl:kn' < W.av.length:=by exact OY.mp k1
 obtain⟨dk,hdk⟩:∃f,W.av[kn']?=some f:=⟨_,Nk hkl⟩;obtain⟨qs,hqs⟩:∃f,W.params[kn']?=some f:=⟨_,Nk (by rw[ok.pl];exact hkl)⟩;have ql:=ok.p3 qs (Ni hqs);nofun;refine dQ ?_;nofun;refine rv (cx hw3) ?_;nofun;refine rv (bN hqs) ?_;refine⟨_,_,rfl,?_⟩;obtain⟨⟨zs,h4⟩,e4,hzs,δ4,_,A4⟩:=jX (ws:=[]) (g:=gN 0) (e:=ai bw (ag (aS 2) (ag (ah aH (ah aH (aS 3) (eK (.str "params"))) (aS 1)) bj))) (λ_ y=>∃t:Term,y=bA t/\dU ps t)
  (xs:=qs.map D.str) (δ:=[none,some (.int j),some (.ob s),some (.ob wd)]) (h:=h3) (λi δ h'=>(∃d0,δ=[d0,some (.int j),some (.ob s),some (.ob wd)])/\Sb s c cs h0 (R+4*(3-i)) h') ⟨⟨_,rfl⟩,A3⟩ (λ_ _ _ _ _=>rfl) (by
   rintro i x δ h' hx ⟨⟨d0,rfl⟩,Ai⟩;have hi:i < 3:=by
    have:=(Ng.mp hx).1;rw[Nc] at this
    lia
   rw[show R+4*(3-i)=R+4*(3-(i+1))+4 from congrArg (λz=>R+4*z) (tW hi)] at Ai;have hwi:=Ai.at_ hw0 hne;nofun;refine rv (cx hwi) ?_;nofun;refine rv (bN hp) ?_;nofun;exact tw Ai pl λt h6 tk _ A6=>⟨⟨t,rfl,tk⟩,⟨_,rfl⟩,A6⟩)
 obtain⟨ts,rfl,htm⟩:∃ts:List Term,zs=ts.map bA/\∀t∈ts,dU ps t:=by
  have hr:=hzs.right;clear e4 hzs A4;dsimp only at hr
  induction zs with
  | nil=>exact⟨[],rfl,λ_ z=>(nomatch z)⟩
  | cons y r ih=>
   obtain⟨js,rfl,h1⟩:=ih λz hz=>hr z (Nl _ hz);obtain⟨x,hx,t,rfl,tk⟩:=hr y Nm;exact⟨t::js,rfl,λj hj=>by
    rcases NA.mp hj with rfl | hj
    ·exact tk
    ·exact h1 j hj⟩
 have hzl:=hzs.length;dsimp only at hzl;rw[Nc,Nc] at hzl;refine rv e4 ⟨by dsimp only;rw[Nc,show sizeLine=16777216 from rfl];lia,?_⟩;have A4:Sb s c cs h0 R h4:=A4.le (NL _ _);have hw4:=A4.at_ hw0 hne;nofun;refine rv (c9 hw4) ?_;nofun;refine rv (bN hdk) ?_;nofun;refine rv (a:=(.tup (ts.map bA),_)) rfl ?_;nofun;have:=kk (.call dk ts) h4 (λn=>by unfold cY;exact⟨⟨kn',qs,hdk,hqs,hzl⟩,htm⟩) (by rw[cnt]) A4;rw[bE] at this;exact this
end
def fg(s wd:Nat)(h h':MH):Prop:=h'.length=h.length/\∀k,k≠s->k≠wd->h'[k]?=h[k]?
theorem fg.refl(s wd:Nat)(h:MH):fg s wd h h:=⟨rfl,λ_ _ _=>rfl⟩
theorem fg.trans(a:fg s wd h h1)(b:fg s wd h1 h2):fg s wd h h2:=⟨b.1.trans a.1,λk n m=>(b.2 k n m).trans (a.2 k n m)⟩
theorem lQ.two(a:lQ s h h1):fg s wd h h1:=⟨a.1,λk n _=>a.2 k n⟩
theorem fg.set:fg s wd h (h.set wd o):=⟨Pq,λk _ n=>Oq (Ox n)⟩
theorem fg.Mr(b:fg s wd (hb++g) h2)(hs:s < hb.length)(hw:wd < hb.length):∃hb',h2=hb'++g/\fg s wd hb hb':=by
 have hl:h2.length=hb.length+g.length:=by rw[b.1];simp
 refine⟨h2.take hb.length,?_,by rw[NF];lia,λk hk hk'=>?_⟩
 ·refine RE λk=>?_
  by_cases z:k < hb.length
  ·rw[Nv (by rw[NF];lia),N0 z]
  ·rw[b.2 _ (by lia) (by lia),NG (by exact Ob z),NG (by rw[NF];lia),NF];rw[show min hb.length h2.length=hb.length by lia]
 ·by_cases z:k < hb.length
  ·rw[N0 z,b.2 k hk hk',Nv z]
  ·rw[Oc (by rw[NF];lia),Oc (by exact Ob z)]
theorem fY(n:Nat):∀js:List Str,fe n (js.map D.str)=true
 | []=>rfl
 | j::r=>by rw[Ny];show(gO n (.str _)&&fe n _)=true;rw[fY n r];rfl
theorem qX(n:Nat):∀js:List (List Str),fe n (js.map λps=>.lv (ps.map D.str))=true
 | []=>rfl
 | j::r=>by rw[Ny];show(fe n (j.map D.str)&&fe n _)=true;rw[fY n j,qX n r];rfl
theorem wZ(n:Nat)(W:Wd)(fl:List Int)(l odd:Int):vD n (kP W fl l odd)=true:=by
 show(fe n _&&(fe n _&&(fe n _&&(fe n _&&(true&&(true&&true))))))=true;rw[fY,fY,qX,yh];rfl
structure En where
 s:Nat
 c:Nat
 wd:Nat
 cs:List Int
 W:Wd
 fl:List Int
 odd:Int
 ok:xl W fl odd
 ne:wd≠s
 nc:wd≠c
structure Wb(E:En)(h0:MH)(R l:Nat)(h:MH):Prop where
 S:St E.s E.c E.cs R h
 w:h[E.wd]?=some (kP E.W E.fl l E.odd)
 C:Cl h
 b:fg E.s E.wd h0 h
section
variable {E:En} {h0 h h1 h' g:MH} {R R' l l' k:Nat} {Q:D×MH->Prop}
theorem Wb.lt(A:Wb E h0 R l h):E.s < h.length/\E.c < h.length/\E.wd < h.length:=⟨A.S.lt.1,A.S.lt.2,(Ng.mp A.w).1⟩
theorem Wb.by(A:Wb E h0 R l h)(B:Sb E.s E.c E.cs h R' h1):Wb E h0 R' l h1:=⟨B.S,(B.b.2 _ E.ne).trans A.w,A.C.but B.S B.b,A.b.trans B.b.two⟩
theorem Wb.le(A:Wb E h0 R l h)(hR:R'<=R):Wb E h0 R' l h:=⟨A.S.le hR,A.w,A.C,A.b⟩
theorem Wb.here(A:Wb E h0 R l h):Wb E h R l h:=⟨A.S,A.w,A.C,fg.refl _ _ _⟩
theorem Wb.tr(A:Wb E h1 R l h)(b:fg E.s E.wd h0 h1):Wb E h0 R l h:=⟨A.S,A.w,A.C,b.trans A.b⟩
theorem Wb.set(A:Wb E h0 R l h)(v:Nat):Wb E h0 R v (h.set E.wd (kP E.W E.fl v E.odd)):=
 ⟨A.S.off E.ne E.nc,Ov A.lt.2.2,A.C.set (wZ _ _ _ _ _),A.b.trans fg.set⟩
theorem Wb.push(A:Wb E h0 R l h)(ho:vD (h.length+1) o=true):Wb E (h++[o]) R l (h++[o]):=⟨A.S.more _,by rw[Nv A.lt.2.2];exact A.w,A.C.snoc ho,fg.refl _ _ _⟩
theorem HJ(C:Cl h)(S:St E.s E.c E.cs R h')(w:h'[E.wd]?=some (kP E.W E.fl l E.odd))(b:fg E.s E.wd h h'):Cl h':=by
 intro o ho;obtain⟨k,hk⟩:=Pn.mp ho
 by_cases z:k=E.s
 ·subst z;obtain⟨n,t,e,_⟩:=S.st;rw[e] at hk;cases hk;show(true&&(decide (E.c < h'.length)&&(true&&true)))=true;rw[NC S.lt.2];rfl
 ·by_cases z2:k=E.wd
  ·subst z2;rw[w] at hk;cases hk;exact wZ _ _ _ _ _
  ·rw[b.2 k z z2] at hk;rw[b.1];exact C o (Ni hk)
theorem Wb.pop(A0:Wb E h0 R0 l0 h)(A:Wb E (h++g) R l h'):∃hb,h'=hb++g/\hb.length=h.length/\Wb E h0 R l hb:=by
 obtain⟨h1,h2,h3⟩:=A0.lt;obtain⟨hb,rfl,b⟩:=A.b.Mr h1 h3;have e:=b.1;have S:=A.S.cut (by lia) (by lia);have w:=A.w;rw[Nv (by lia)] at w;exact⟨hb,rfl,e,S,w,HJ A0.C S w b,A0.b.trans b⟩
theorem w_next(A:Wb E h0 (R+1) l h)(m0:0 < m)(m1:m<=10^40)(k:∀(r:Int)(h1:MH),0<=r->r < m->Wb E h0 R l h1->Q (.int r,h1)):Rn (aq [.ob E.s,.int m] h) Q:=
 bP A.S.sb m0 m1 λr h1 r0 r1 S1=>k r h1 r0 r1 (A.by S1)
theorem IQ(A:Wb E h0 (R+1) l h)(hd:d=.lv xs\/d=.tup xs)(l0:0 < xs.length)(l1:xs.length<=1000000)(k:∀(x:D)(h1:MH),x∈xs->Wb E h0 R l h1->Q (x,h1)):Rn (aw [.ob E.s,d] h) Q:=
 vo A.S.sb hd l0 l1 λx h1 hx S1=>k x h1 hx (A.by S1)
theorem zX{is:List Int}(P:Int->Prop)(hP:∀i∈is,P i)(A:Wb E h0 (R+1) l h)(k:∀(i:Int)(h1:MH),P i->Wb E h0 R l h1->Q (.int i,h1))(l0:0 < is.length:=by simp)(l1:is.length<=1000:=by simp):Rn (aw [.ob E.s,.lv (is.map D.int)] h) Q:=
 jc P hP A.S.sb (λi h1 hi _ S1=>k i h1 hi (A.by S1)) l0 l1
theorem rC(A:Wb E h0 (R+4) l h)(hp:ps.length<=3)(k:∀(t:Term)(h1:MH),dU ps t->Wb E h0 R l h1->Q (bA t,h1)):Rn (bw [.ob E.s,.lv (ps.map D.str)] h) Q:=
 tw A.S.sb hp λt h1 ht _ S1=>k t h1 ht (A.by S1)
structure Cd(W:Wd)(j:Nat)(ps:List Str)(d:Nat)(top:Int)(held:List Lock):Prop where
 hp:W.params[j]?=some ps
 hj:j < W.av.length
 d1:1<=d
 ht:top<=W.names.length
 hh:∀x∈held,eR W ps x
 hl:held.length<=4*d
variable {j d f:Nat} {ps:List Str} {top:Int} {held:List Lock}
theorem Cd.more{W:Wd}{n:Nat}{top':Int}{ls:List Lock}(G:Cd W j ps d top held)(ht:top'<=W.names.length)(hl:ls.length<=4*n)(ho:∀x∈ls,eR W ps x):Cd W j ps (d+n) top' (held++ls):=
 ⟨G.hp,G.hj,Nr G.d1 (NL _ _),ht,λx hx=>(NY.mp hx).elim (G.hh x) (ho x),by have:=G.hl;rw[NT];lia⟩
theorem Cd.deep{W:Wd}(G:Cd W j ps d top held):Cd W j ps (d+1) top held:=⟨G.hp,G.hj,O6 G.d1,G.ht,G.hh,by have:=G.hl;lia⟩
theorem Cd.pl(G:Cd E.W j ps d top held):ps.length<=3:=E.ok.p3 ps (Ni G.hp)
theorem zY(A:Wb E h0 (R+10) l h)(G:Cd E.W j ps d top held)(hd:d<=5)(k1:∀(k:Int)(x:Lock)(h1:MH),max top (E.fl[j]?.getD 0) < E.W.names.length->0<=k->k < E.W.names.length->eR E.W ps x->Wb E h0 R l h1->Q (.tup [.int k,aE x],h1))
  (k2:∀(h1:MH),max top (E.fl[j]?.getD 0)=E.W.names.length->Wb E h0 R l h1->Q (.tup [.bx,.bx],h1)):Rn (dO [.ob E.s,.ob E.wd,.int j,.int top,.lv (held.map aE)] h) Q:=
 HR A.S.sb A.w E.ne E.ok G.hp G.hj G.ht G.hh (by have:=G.hl;lia) (λk x h1 a b c e S1=>k1 k x h1 a b c e (A.by S1)) λh1 a S1=>k2 h1 a (A.by S1)
theorem Fy(A:Wb E h0 (R+14) l h)(G:Cd E.W j ps d top held)(k:∀(r:Row)(h1:MH),(∀n,cY E.W ps n r)->cnt r=1->Wb E h0 R l h1->Q (bE r,h1)):Rn (fw [.ob E.s,.ob E.wd,.int j,.int top] h) Q:=
 HS A.S.sb A.w E.ne E.ok G.hp G.hj λr h1 a b S1=>k r h1 a b (A.by S1)
abbrev CL(E:En)(h0:MH)(R l:Nat)(ps:List Str)(d:Nat)(Q:D×MH->Prop):Prop:=∀(r:Row)(l':Nat)(h':MH),cY E.W ps d r->l'+cnt r=l+1->Wb E h0 (R+100*l') l' h'->Q (bE r,h')
abbrev Mu(E:En)(h0:MH)(R l:Nat)(ps:List Str)(d:Nat)(Q:D×MH->Prop):Prop:=∀(t:List Row)(l':Nat)(h':MH),bH E.W ps d t->t.length<=12->l'+cN t=l->Wb E h0 (R+100*l') l' h'->Q (.tup (bS t),h')
def zK(E:En)(f:Nat):Prop:=∀{h0 h:MH} {R l j:Nat} {ps:List Str} {d:Nat} {top:Int} {held:List Lock} {most:Int} {Q:D×MH->Prop},Wb E h0 (R+100*l+4) l h->Cd E.W j ps d top held->d<=5->3*(5-d)+2<=f->1<=most->most<=12->Mu E h0 R l ps d Q->
 Rn (a8 f [.ob E.s,.ob E.wd,.int j,.int d,.int top,.lv (held.map aE),.int most] h) Q
def Iq(E:En)(f:Nat):Prop:=∀{h0 h:MH} {R l j:Nat} {ps:List Str} {d:Nat} {top:Int} {held:List Lock} {Q:D×MH->Prop},Wb E h0 (R+100*l+100) l h->Cd E.W j ps d top held->d<=5->3*(5-d)+1<=f->CL E h0 R l ps d Q->
 Rn (fb f [.ob E.s,.ob E.wd,.int j,.int d,.int top,.lv (held.map aE)] h) Q
def CK(E:En)(f:Nat):Prop:=∀{h0 h:MH} {R l j:Nat} {ps:List Str} {d:Nat} {top:Int} {held:List Lock} {way:Str} {Q:D×MH->Prop},Wb E h0 (R+100*l+95) l h->Cd E.W j ps d top held->d < 5->3*(5-d)<=f->way∈[Str.ofString "within",Str.ofString "ask",Str.ofString "all"]->CL E h0 R l ps d Q->
 Rn (cP f [.ob E.s,.ob E.wd,.int j,.int d,.int top,.lv (held.map aE),.str way] h) Q
def Ik(E:En)(f:Nat):Prop:=∀{h0 h:MH} {R l j:Nat} {ps:List Str} {d:Nat} {top:Int} {held:List Lock} {Q:D×MH->Prop},Wb E h0 (R+100*l+95) l h->Cd E.W j ps d top held->d < 3->5 < l->3*(5-d)<=f->CL E h0 R l ps d Q->
 Rn (bZ f [.ob E.s,.ob E.wd,.int j,.int d,.int top,.lv (held.map aE)] h) Q
end
theorem uq(r:Rn (b (entry len ds) h) (sg λp=>Rn (leave h p.1 p.2) Q)):Rn (Ha len b ds h) Q:=by
 obtain⟨p,e,q⟩:=bF r;obtain⟨z,e2,k⟩:=q;refine⟨z,?_,k⟩;have e:((b (entry len ds) h).bind Dq)=some p:=e;show((b (entry len ds) h).bind Dq).bind _=_;rw[e];exact e2
theorem yP{isT:D->MH->Bool}{f:Iz}{o:EM}{m:AM}{δ:DS}{h:MH}{Q:D×MH->Prop}(r:Rn (o δ h) λp=>isT p.1 p.2=true/\Rn (m δ p.2) λq=>Rn (f p.1 q.1 q.2) Q):Rn (eM isT f o m δ h) Q:=
 aQ (r.imp λp ⟨e,r⟩=>by rw[Nj e];exact aQ r)
theorem fT(e:h[n]?=some (.lst xs)):fU (.ob n) h=true:=by unfold fU dX;dsimp only;rw[e];rfl
theorem eS(e:h[n]?=some (.lst xs))(hl:xs.length < sizeLine):dG (.ob n) [y] h=some (.bx,h.set n (.lst (xs++[y]))):=by unfold dG;dsimp only;rw[e];dsimp only;rw[Nj hl]
theorem sX(n:Nat)(t:Term):gO n (bA t)=true:=rfl
theorem m9(n:Nat)(t:Lock):gO n (aE t)=true:=rfl
theorem eT(n:Nat)(f:α->D)(hf:∀x,gO n (f x)=true):∀xs:List α,fe n (xs.map f)=true
 | []=>rfl
 | x::r=>by rw[Ny];show(gO n (f x)&&fe n _)=true;rw[hf x,eT n f hf r];rfl
mutual
theorem wY(n:Nat):∀r:Row,gO n (bE r)=true
 | .say w=>by rw[bE];rfl
 | .call d ts=>by rw[bE];show(true&&(true&&(fe n _&&true)))=true;rw[eT n _ (sX n)];rfl
 | .within l b=>by rw[bE];show(true&&(gO n (aE l)&&(fe n _&&true)))=true;rw[m9,dh n b];rfl
 | .all ls b=>by rw[bE];show(true&&(fe n _&&(fe n _&&true)))=true;rw[eT n _ (m9 n),dh n b];rfl
 | .ask l b e=>by rw[bE];show(true&&(gO n (aE l)&&(fe n _&&(fe n _&&true))))=true;rw[m9,dh n b,dh n e];rfl
 | .HV s t a b c=>by rw[bE];show(true&&(gO n (bA s)&&(gO n (bA t)&&(fe n _&&(fe n _&&(fe n _&&true))))))=true;rw[sX,sX,dh n a,dh n b,dh n c];rfl
 | .either a b=>by rw[bE];show(true&&(fe n _&&(fe n _&&true)))=true;rw[dh n a,dh n b];rfl
 | .again a=>by rw[bE];show(true&&(fe n _&&true))=true;rw[dh n a];rfl
theorem dh(n:Nat):∀r:List Row,fe n (bS r)=true
 | []=>by rw[bS];rfl
 | r::rs=>by rw[bS];show(gO n _&&fe n _)=true;rw[wY n r,dh n rs];rfl
end
theorem gZ(e:H.length=n):(H++[a])[n]?=some a:=by rw[<-e];simp
theorem An(e:H.length=n):(H++[a]).set n b=H++[b]:=by rw[<-e];simp
section
variable {E:En} {f:Nat}
theorem wD(hr:Iq E f):zK E (f+1):=by
 intro h0 h R l j ps d top held most Q A G d5 hf m0 m1 k;unfold a8;refine uq ?_;nofun;refine fz ?_;nofun;refine rv (a:=(.lv (List.replicate 15 (D.int most)),_)) rfl ?_;nofun;refine rv (a:=(.lv ((List.replicate 15 most++[12]).map D.int),_)) rfl ?_;nofun;refine zX (λi=>1<=i/\i<=12) (by intro x hx;simp at hx;lia) (A.push (o:=.lst []) rfl) λi h2 hi A2=>?_;nofun;refine w_next (m:=i+1) A2 (by lia) (by exact PJ hi.2 (by decide)) λm h3 n0 n1 A3=>?_;nofun;refine⟨m,rfl,by exact Oy (by decide) n0,by lia,?_⟩;obtain⟨hb,rfl,hbl,A3⟩:=A.pop A3;refine dA (λi δ h'=>∃(t:List Row)(l':Nat)(d8:Option D)(hb:MH),δ=[some (.ob E.s),some (.ob E.wd),some (.int j),some (.int d),some (.int top),some (.lv (held.map aE)),some (.int most),some (.ob h.length),d8]/\h'=hb++[.lst (bS t)]/\hb.length=h.length/\bH E.W ps d t/\t.length<=i/\l'+cN t=l/\Wb E h0 (R+100*l'+2) l' hb)
  ⟨[],l,_,hb,rfl,by rw[bS],hbl,by unfold bH;trivial,Nh _,by simp[cN],A3⟩ (λ_ _ _ _ _=>rfl) ?_ ?_
 ·rintro q x δ h' hx ⟨t,l',d8,hb,rfl,rfl,hbl,okl,hll,hc,A4⟩;have hq:q < 12:=by
   have:=(Ng.mp hx).1;simp at this
   lia
  have A5:=A4.push (o:=.lst (bS t)) (dh _ t);nofun;refine rv (mP A5.w) ?_;nofun;refine⟨_,rfl,λz=>?_,λz=>?_⟩
  ·obtain⟨l1,rfl⟩:∃n,l'=n+1:=⟨l'-1,by have:=NV z;clear z;lia⟩;nofun;refine rv (mP A5.w) ?_;nofun;refine rv (zV A5.w _) ?_;rw[show((l1+1:Nat):Int)-1=(l1:Int) by simp];have A6:=A5.set l1;nofun;refine yP ?_;nofun;refine⟨fT (xs:=bS t) (by rw[Oq (by have:=A4.lt;lia)];exact gZ hbl),?_⟩;nofun;refine hr (R:=R+2) (A6.le (by lia)) G d5 (by exact NW hf) λr l6 h6 okr cr A7=>?_;obtain⟨hb6,rfl,hbl6,A8⟩:=A4.pop A7;nofun;have hl6:=hbl6.trans hbl;refine rv (eS (gZ hl6) (by rw[j9,Nc,show sizeLine=16777216 from rfl];lia)) ?_;rw[An hl6];nofun;have hcn:cN (t++[r])=cN t+cnt r:=by rw[vh];simp[cN]
   exact⟨t++[r],l6,_,hb6,rfl,by rw[j9,j9,Oe];rfl,hl6,qD okl (by unfold bH;exact⟨okr,by unfold bH;trivial⟩),by simp;exact hll,by lia,A8.le (by lia)⟩
  ·nofun;exact⟨t,l',_,hb,rfl,rfl,hbl,okl,by exact O6 hll,hc,A4⟩
 ·rintro δ h' ⟨t,l',d8,hb,rfl,rfl,hbl,okl,hll,hc,A4⟩;rw[Nc,NO] at hll;nofun;refine rv (a:=(.tup (bS t),hb++[.lst (bS t)])) (by simp only[cv,cL,gZ hbl,N8]) ?_;nofun;exact rv (kc hbl A4.C (λn z=>(nomatch z)) (dh _ t)) (k t l' hb okl (by lia) hc (A4.le (by simp)))
end
theorem xE:∀{xs:List D} {δ:DS} {h:MH} (J:List D->DS->MH->Prop),J [] δ h->(∀ys δ h,J ys δ h->jE ws h=true)->
  (∀x ys δ h,x∈xs->ys.length < xs.length->J ys δ h->Rn (g x δ h) λq=>Rn (e q.1 q.2) λy=>J (ys++[y.1]) q.1 y.2)->Rn (aY ws g ck e xs δ h) λp=>p.1.length=xs.length/\∃δ',J p.1 δ' p.2
 | [],δ,h,J,hJ,hc,_=>by
  unfold aY;rw[Nj (hc [] δ h hJ)];exact⟨_,rfl,rfl,δ,hJ⟩
 | x::xs,δ,h,J,hJ,hc,ht=>by
  unfold aY;rw[Nj (hc [] δ h hJ)];obtain⟨⟨δ1,h1⟩,e1,⟨y,h2⟩,e2,J1⟩:=ht x [] δ h Nm (P8 _) hJ;obtain⟨⟨ys,h3⟩,e3,a,δ',J2⟩:=xE (ws:=ws) (g:=g) (e:=e) (xs:=xs) (λys=>J (y::ys)) J1 (λys δ h=>hc (y::ys) δ h) λx ys δ h hx hl=>ht x (y::ys) δ h (Nl _ hx) (Nat.succ_lt_succ hl);refine⟨(y::ys,h3),?_,congrArg Nat.succ a,δ',J2⟩;rw[e1];dsimp only[Option.bind_some];show((some (true,h1)).bind _)=_;dsimp only[Option.bind_some] at e2 e3 ⊢;rw[Nj rfl,e2];dsimp only[Option.bind_some];rw[e3];rfl
theorem iw(f:α->D)(xs ys:List α)(h:MH)(hl:xs.length+ys.length<=1000):az (.lv (xs.map f)) (.lv (ys.map f)) h=some (.lv ((xs++ys).map f),h):=by
 rw[Oe];simp only[az,wU,dX,ND,Nc];rw[Nj (by rw[show sizeLine=16777216 from rfl];exact Nr hl (by decide))]
theorem JD(P:Prop)[Decidable P](e:Rn (t δ h) λp=>p=(decide P,h))(q1:P->Rn (x δ h) Q)(q2:¬P->Rn (y δ h) Q):Rn (c7 t x y δ h) Q:=by
 refine E5 (e.imp ?_);rintro _ rfl;exact⟨λz=>q1 (NV z),λz=>q2 (of_decide_eq_false z)⟩
theorem eA(P:Prop)[Decidable P](e:Rn (t δ h) λp=>p=(decide P,h))(q1:P->Rn (x δ h) (tV b Q))(q2:¬P->Rn (b δ h) Q):Rn (aj (c7 t x aW) b δ h) Q:=
 ot (JD P e q1 λz=>⟨_,rfl,q2 z⟩)
theorem dT [Decidable P](p:P)(h:MH):(true,h)=(decide P,h):=by rw[NC p]
theorem dF [Decidable P](p:¬P)(h:MH):(false,h)=(decide P,h):=by rw[NU p]
section
variable {E:En} {f:Nat}
theorem qJ{n:Nat}(hlot:zK E f){h0 h:MH}{R l j:Nat}{ps:List Str}{d:Nat}{top:Int}{held:List Lock}{Q:List D×MH->Prop}
  (A:Wb E h0 (R+100*l+12) l h) (hn:n<=3) (G:Cd E.W j ps d top held) (d5:d < 5) (hf:3*(5-d)<=f) (k:∀(lots:List (List Row)) (l':Nat) (h':MH),lots.length=n->(∀t∈lots,t.length<=12/\bH E.W ps (d+1) t)->l'+(lots.map cN).sum=l->Wb E h0 (R+100*l') l' h'->Q (lots.map (λt=>D.tup (bS t)),h')):
  Rn (aY [] (gN 0) Sm.ck (ai (a8 f) (ag (aS 4) (ag (aS 6) (ag (aS 1) (ag (ah az (aS 2) (eK (.int 1))) (ag (aS 5) (ag (aS 3) (ag (eK (.int 2)) bj)))))))) ((List.range n).map λ(k:Nat)=>D.int k) [none,some (.int j),some (.int d),some (.lv (held.map aE)),some (.ob E.s),some (.int top),some (.ob E.wd)] h) Q:=by
 refine(xE (ws:=[]) (λys δ h'=>∃(d0:Option D)(lots:List (List Row)) (l':Nat),δ=[d0,some (.int j),some (.int d),some (.lv (held.map aE)),some (.ob E.s),some (.int top),some (.ob E.wd)]/\ys=lots.map (λt=>D.tup (bS t))/\(∀t∈lots,t.length<=12/\bH E.W ps (d+1) t)/\l'+(lots.map cN).sum=l/\Wb E h0 (R+100*l'+(12-4*lots.length)) l' h') ⟨none,[],l,rfl,rfl,λ_ z=>(nomatch z),by simp,A⟩ (λ_ _ _ _=>rfl) ?_).imp ?_
 ·rintro x _ δ h' hx hys ⟨d0,lots,l',rfl,rfl,aV,hc,A1⟩;rw[Nc,Nc,NO] at hys;nofun;refine hlot (R:=R+(8-4*lots.length)) (d:=d+1) (A1.le (HW ((by decide:∀L < 3,8-4*L+4<=12-4*L) _ (Nq hys hn)))) G.deep d5 (dp d5 hf) (by decide) (by decide) λt l2 h2 okl hll cr A2=>?_;refine⟨_,lots++[t],l2,rfl,by rw[Oe];rfl,λu z=>?_,by simp;clear A;lia,A2.le (by rw[NT,Ra];clear A2;lia)⟩;rcases NY.mp z with z | z
  ·exact aV u z
  ·rw[Nw.mp z];exact⟨hll,okl⟩
 ·rintro⟨ys,h2⟩ ⟨hy,_,d0,lots,l',_,he,aV,hc,A1⟩;dsimp only at hy he;subst he;rw[Nc,Nc,NO] at hy;exact k lots l' h2 hy aV hc (A1.le (by simp))
theorem F7(hlot:zK E f)(hlk:CK E f)(htw:Ik E f):Iq E (f+1):=by
 intro h0 h R l j ps d top held Q A G d5 hf k;have pl:=G.pl;have n1:=E.ok.n1;have n2:=E.ok.n2;have d2:=E.ok.d2;unfold fb;refine bF ?_;nofun;refine w_next (m:=16) A (by decide) (by decide) λw h1 w0 w1 A1=>?_;refine eA (w < 2\/(d=5/\w < 11)) ?_ (λz=>?_) (λz=>?_)
 ·nofun;refine⟨_,rfl,λz=>?_,λz=>?_⟩
  ·have z:w < 2:=by simpa using z
   exact dT (.inl z) _
  ·have z:¬w < 2:=by simpa using z
   nofun;refine⟨_,rfl,λy=>?_,λy=>?_⟩
   ·have y0:(d:Int)=5:=by simpa using y
    have y:d=5:=by clear y;lia
    nofun;refine⟨_,rfl,?_⟩;rw[show decide (w < 11)=decide (w < 2\/(d=5/\w < 11)) from decide_eq_decide.mpr (by clear z;lia)]
   ·have y0:(d:Int)≠5:=by simpa using y
    have y:d≠5:=by clear y d5;lia
    exact dF (by lia) _
 ·nofun;refine rv (c8 A1.w) ?_;nofun;refine rv (c9 A1.w) ?_;nofun;refine rv (iw D.str E.W.names E.W.av _ (by lia)) ?_;nofun;refine IQ (xs:=(E.W.names++E.W.av).map D.str) A1 (.inl rfl) (by simp;lia) (by simp;lia) λx h2 hx A2=>?_;obtain⟨w',hw',rfl⟩:=NM.mp hx;nofun;rw[show D.tup [.str "say",.str w']=bE (.say w') by rw[bE]];exact k (.say w') l h2 (by unfold cY;exact hw') (by rw[cnt]) (A2.le (by simp))
 have nd:d=5->11<=w:=by lia
 have w2:2<=w:=by lia
 refine eA (12 < w\/d=5) ?_ (λz=>?_) (λz=>?_)
 ·nofun;refine⟨_,rfl,λy=>?_,λy=>?_⟩
  ·have y:12 < w:=by simpa using y
   exact dT (.inl y) _
  ·have y:¬12 < w:=by simpa using y
   nofun;refine⟨_,rfl,?_⟩;rw[show((d:Int)==5)=decide (12 < w\/d=5) by
    rw[PV];simp only[OV,Oa];clear y d5;lia]
 ·nofun;refine Fy (R:=R+100*l) (A1.le (by simp)) G λr h2 okr cr A2=>?_;nofun;exact k r l h2 (okr d) (by rw[cr]) A2
 have d4:d < 5:=by lia
 refine eA (w=12/\d < 3/\5 < (l:Int)) ?_ (λz=>?_) (λz=>?_)
 ·nofun;refine⟨_,rfl,λy=>?_,λy=>?_⟩
  ·have y:w=12:=by simpa using y
   nofun;refine⟨_,rfl,λx=>?_,λx=>?_⟩
   ·have x0:(d:Int) < 3:=by simpa using x
    have x:d < 3:=by exact OY.mp x0
    nofun;refine rv (mP A1.w) ?_;nofun;refine⟨_,rfl,?_⟩;rw[show decide (5 < (l:Int))=decide (w=12/\d < 3/\5 < (l:Int)) from decide_eq_decide.mpr (by clear x y;lia)]
   ·have x0:¬(d:Int) < 3:=by simpa using x
    have x:¬d < 3:=by lia
    exact dF (by lia) _
  ·have y:w≠12:=by simpa using y
   exact dF (by clear y z;lia) _
 ·nofun;refine htw (R:=R) (A1.le (by simp)) G z.2.1 (by exact OY.mp z.2.2) (by exact NW hf) λr l2 h2 okr cr A2=>?_;nofun;exact k r l2 h2 okr cr A2
 refine eA (w=11\/w=12) ?_ (λz=>?_) (λz=>?_)
 ·nofun;refine⟨_,rfl,λy=>?_,λy=>?_⟩
  ·have y:w=11:=by simpa using y
   exact dT (.inl y) _
  ·have y:w≠11:=by simpa using y
   nofun;refine⟨_,rfl,?_⟩;rw[show(w==12)=decide (w=11\/w=12) by rw[PV];simp only[OV,Oa];lia]
 ·show Rn (aj _ _ _ _) _;nofun;refine rv (cx A1.w) ?_;nofun;refine rv (bN G.hp) ?_;nofun;refine rC A1 pl λt1 h2 tk1 A2=>?_;nofun;refine rv (cx A2.w) ?_;nofun;refine rv (bN G.hp) ?_;nofun;refine rC A2 pl λt2 h3 tk2 A3=>?_;nofun;refine⟨_,_,rfl,?_⟩;nofun;refine fz ?_;nofun;refine⟨3,rfl,by simp,by exact Qh _,?_⟩;refine qJ (n:=3) (R:=R) hlot (A3.le (by simp)) (Nh _) G d4 (by exact NW hf) λlots l4 h4 hn aV cr A4=>?_
  match lots,hn with
  | [x,y,v],_=>
   refine⟨by show 3<=sizeLine;decide,?_⟩;nofun;refine rv (a:=(.tup [.tup (bS x),.tup (bS y),.tup (bS v)],_)) rfl ?_;nofun;refine rv (a:=(bE (.HV t1 t2 x y v),_)) (by rw[bE];rfl) ?_;nofun;simp only[Ny,Qq,List.sum_cons,List.sum_nil] at cr;have hx:=aV x (by simp);have hy:=aV y (by simp);have hv:=aV v (by simp);exact k (.HV t1 t2 x y v) l4 h4 (by unfold cY;exact⟨tk1,tk2,d4,hx.1,hy.1,hv.1,hx.2,hy.2,hv.2⟩) (by rw[cnt];lia) A4
 refine eA (w=10) ?_ (λz=>?_) (λz=>?_)
 ·nofun;refine⟨_,rfl,?_⟩;rw[show(w==10)=decide (w=10) by rw[PV];simp only[OV,Oa]]
 ·nofun;refine fz ?_;nofun;refine⟨2,rfl,by simp,by exact Qh _,?_⟩;refine qJ (n:=2) (R:=R) hlot (A1.le (by simp)) (Pc _) G d4 (by exact NW hf) λlots l2 h2 hn aV cr A2=>?_
  match lots,hn with
  | [x,y],_=>
   refine⟨by show 2<=sizeLine;decide,?_⟩;nofun;refine rv (a:=(.tup [.tup (bS x),.tup (bS y)],_)) rfl ?_;nofun;refine rv (a:=(bE (.either x y),_)) (by rw[bE];rfl) ?_;nofun;simp only[Ny,Qq,List.sum_cons,List.sum_nil] at cr;have hx:=aV x (by simp);have hy:=aV y (by simp);exact k (.either x y) l2 h2 (by unfold cY;exact⟨d4,hx.1,hy.1,hx.2,hy.2⟩) (by rw[cnt];lia) A2
 refine eA (w=9) ?_ (λz=>?_) (λz=>?_)
 ·nofun;refine⟨_,rfl,?_⟩;rw[show(w==9)=decide (w=9) by rw[PV];simp only[OV,Oa]]
 ·nofun;refine hlot (R:=R) (d:=d+1) (A1.le (by simp)) G.deep d4 (by clear z;clear z;lia) (by decide) (by decide) λt l2 h2 okl hll cr A2=>?_;nofun;rw[show D.tup [.str "again",.tup (bS t)]=bE (.again t) by rw[bE]];exact k (.again t) l2 h2 (by unfold cY;exact⟨d4,hll,okl⟩) (by rw[cnt];lia) A2
 nofun;refine IQ (xs:=[Str.ofString "within",Str.ofString "within",Str.ofString "within",Str.ofString "within",Str.ofString "ask",Str.ofString "all"].map D.str) A1 (.inl rfl) (by simp) (by simp) λx h2 hx A2=>?_;obtain⟨w',hw',rfl⟩:=NM.mp hx;nofun;refine hlk (R:=R) (A2.le (by simp)) G d4 (by exact NW hf) (by simp at hw' ⊢;assumption) λr l3 h3 okr cr A3=>?_;nofun;exact k r l3 h3 okr cr A3
end
noncomputable def en(t:Lock):PyData:=.tuple [.str t.1,ny t.2]
theorem AO(t:Term):iG (bA t)=some (ny t):=by simp only[bA,iG,gL,ND,N8];rfl
theorem uv(t:Lock):iG (aE t)=some (en t):=by simp only[aE,iG,gL,AO,ND,N8];rfl
theorem k9:∀ts:List Lock,gL (ts.map aE)=some (ts.map en)
 | []=>rfl
 | c::r=>by simp only[Ny,gL,k9 r,uv,ND,N8]
theorem fq:∀ts:List Lock,PyData.depthAll (ts.map en)<=2
 | []=>by simp[PyData.depthAll]
 | c::r=>by
  have:=fq r;simp only[Ny,PyData.depthAll,en,ny,PyData.depth]
  lia
theorem sS{h:MH}{n:Nat}{ls:List Lock}(x:Lock)(e:h[n]?=some (.lst (ls.map aE))):fF (aE x) (.ob n) h=some (.bl (!(ls.map en).any λb=>PyData.eqv b (en x)),h):=by
 have h1:=fq ls;have h2:=fq [x];have h3:(en x).depth<=60:=by
  simp only[Ny,Qq,PyData.depthAll] at h2
  lia
 unfold fF inD;simp only[cZ,e];show((cL (.ob n) h).bind _).map _=_;simp only[cL,e,ND,k9];show(((vY h (aE x)).bind _).map _)=_;rw[show vY h (aE x)=some (en x) from uv x];dsimp only[Option.bind_some];rw[Nj ⟨h3,by exact Nr h1 (by decide)⟩];rfl
theorem Gs(r:Rn (ma δ h) λp=>Rn (mb δ p.2) λq=>∃xs ys,dX p.1 q.2=some xs/\dX q.1 q.2=some ys/\xs.length+ys.length<=sizeLine/\Q (xs++ys,q.2)):Rn (Ij ma mb δ h) Q:=
 aQ (r.imp λp r=>aQ (r.imp λq zz=>by obtain⟨xs,ys,e1,e2,hl,hq⟩:=zz;exact⟨_,by rw[e1];dsimp only[Option.bind_some];rw[e2];dsimp only[Option.bind_some];rw[Nj hl],hq⟩))
theorem BX(x:Lock):PyData.eqv (en x) (en x)=true:=by
 simp[en,ny,PyData.eqv,PyData.eqvAll]
theorem Dn(r:Row)(n:Nat):bE r≠.ob n:=by cases r <;> rw[bE] <;> exactλz=>(nomatch z)
theorem Wb.ext(A:Wb E h0 R l h)(C:Cl (h++g)):Wb E (h++g) R l (h++g):=⟨A.S.more _,by rw[Nv A.lt.2.2];exact A.w,C,fg.refl _ _ _⟩
theorem AK(b:fg E.s E.wd h0 h)(k:CL E h0 R l ps d Q)(r:Row)(ok:cY E.W ps d r)(hc:l'+cnt r=l+1)(A:Wb E h (R+100*l') l' hb)(e:bE r=x):Rn (leave h x (hb++g)) Q:=
 ⟨_,e ▸ kc A.b.1 A.C (Dn r) (wY _ r),k r l' hb ok hc (A.tr b)⟩
theorem su(b:fg E.s E.wd h0 h)(k:CL E h0 R l ps d Q)(r:Row)(ok:cY E.W ps d r)(hc:l'+cnt r=l+1)(A:Wb E h (R+100*l') l' hb)(e:bE r=x):Rn (leave h x hb) Q:=by
 have:=AK (g:=[]) b k r ok hc A e
 rwa [PU] at this
section
variable {E:En} {f:Nat}
theorem dq{d f:Nat}(h:d < 5)(hf:3*(5-d)<=f+1):3*(5-(d+1))+2<=f:=by rw[tW h] at hf;exact Nat.le_of_succ_le_succ hf
theorem yZ(hlot:zK E f):CK E (f+1):=by
 intro h0 h R l j ps d top held way Q A G d5 hf hw k;obtain⟨dj,hdj⟩:∃f,E.W.av[j]?=some f:=⟨_,Nk G.hj⟩;have hl:=G.hl;have ht:=G.ht;have b0:=A.b;replace A:=A.here;unfold cP;refine uq ?_;nofun;refine zY A G (by exact Pw d5) (λk1 lk h1 hmx k0 k2 okk A1=>?_) λh1 _ A1=>?_
 ·nofun;refine rv (a:=(.bl false,_)) rfl ⟨_,rfl,λz=>(nomatch z),λ_=>?_⟩;refine⟨_,rfl,?_⟩;show Rn (aj _ _ _ _) _;refine eA (way=Str.ofString "all") ?_ (λz=>?_) (λz=>?_)
  ·nofun;refine⟨_,rfl,?_⟩;rw[show(way==Str.ofString "all")=decide (way=Str.ofString "all") by rw[PV];simp only[OV,Oa]]
  ·show Rn (aj _ _ _ _) _;nofun;refine⟨_,_,rfl,?_⟩;nofun;refine fz ?_;nofun;refine zX (is:=[1,1,2,3]) (λi=>1<=i/\i<=3) (by decide) (A1.push (o:=.lst [aE lk]) rfl) λi h2 hi A2=>?_;obtain⟨hb2,rfl,e2,A2'⟩:=A1.pop A2;nofun;refine⟨i,rfl,by exact Oy (by decide) hi.1,by exact PJ hi.2 (by decide),?_⟩;refine dA (λi δ h'=>∃(ls:List Lock)(hi:Int)(n:Nat)(d11 d12 d13:Option D)(hb g:MH),δ=[some (.ob E.s),some (.ob E.wd),some (.int j),some (.int d),some (.int top),some (.lv (held.map aE)),some (.str way),some (.int k1),some (aE lk),some (.ob n),some (.int hi),d11,d12,d13,none]/\h'=hb++g/\h'[n]?=some (.lst (ls.map aE))/\h.length<=n/\lk∈ls/\ls.Nodup/\(∀x∈ls,eR E.W ps x)/\ls.length<=i+1/\0<=hi/\hi < E.W.names.length/\Wb E h (R+100*l+(80-10*i)) l hb/\Cl (hb++g))
    ⟨[lk],k1,h1.length,none,none,none,hb2,[.lst [aE lk]],rfl,rfl,gZ e2,by rw[A1.b.1];exact Nh _,by simp,by simp,by simpa using okk,Nh _,k0,k2,A2'.le (by simp),A2.C⟩ (λ_ _ _ _ _=>rfl) ?_ ?_
   ·rintro q x δ h' hx ⟨ls,hi',n,d11,d12,d13,hb,g,rfl,rfl,hn,hnl,hlk,nd,aV,hll,hi0,hi1,A3,C3⟩;have hq:q < 3:=by
     have:=(Ng.mp hx).1;simp at this
     lia
    nofun;refine zY (R:=R+100*l+(80-10*(q+1))) ((A3.ext C3).le (Pa ((by decide:∀q < 3,80-10*(q+1)+10<=80-10*q) q hq) (R+100*l))) G (Pw d5) (λk4 lk4 h4 _ k40 k41 okk4 A4=>?_) λh1 z4 _=>absurd z4 (by lia)
    ·have hn4:h4[n]?=some (.lst (ls.map aE)):=by
      have:=A.lt;rw[A4.b.2 n (by lia) (by lia)];exact hn
     obtain⟨hb4,rfl,e4,A4'⟩:=A3.pop A4;nofun;refine rv (iK _ _ _) ?_;nofun;refine Gs ?_;nofun;refine rv (sS lk4 hn4) ?_;obtain⟨us,v,hv,hus,husl,hnd,hokk⟩:∃(us:List Lock)(v:Int),uV [.bl (!(ls.map en).any λb=>PyData.eqv b (en lk4))] (hb4++g)=some (.int v,hb4++g)/\Ei (.lv [aE lk4]) (.int v) (hb4++g)=some (.lv (us.map aE),hb4++g)/\us.length<=1/\(ls++us).Nodup/\∀x∈ls++us,eR E.W ps x:=by
      cases hb0:((ls.map en).any λb=>PyData.eqv b (en lk4)) with
      | true=>exact⟨[],0,rfl,rfl,by simp,by simpa using nd,by simpa using aV⟩
      | false=>
       have hnot:lk4∉ls:=λz=>by
        rw[TF] at hb0;exact hb0 (en lk4) (Py z) (BX lk4)
       refine⟨[lk4],1,rfl,rfl,by simp,?_,?_⟩
       ·rw[P0];refine⟨nd,by simp,λx hx y hy z=>hnot ?_⟩;rw[Nw.mp hy] at z;rw[<-z];exact hx
       ·intro x hx;rcases NY.mp hx with z | z
        ·exact aV x z
        ·rw[Nw.mp z];exact okk4
     nofun;refine rv hv ?_;nofun;refine rv hus ?_;refine⟨ls.map aE,us.map aE,by simp only[dX,hn4],rfl,by rw[Nc,Nc,show sizeLine=16777216 from rfl];lia,?_⟩;refine⟨ls++us,max hi' k4,(hb4++g).length,_,_,_,hb4,g++[.lst ((ls++us).map aE)],rfl,by rw[Oe];exact OI _ _ _,by rw[Oe];simp,?_,Rl _ hlk,hnd,hokk,by simp;lia,by lia,by lia,A4',?_⟩
     ·have:=A4'.b.1;rw[NT];lia
     ·rw[<-OI];exact A4.C.snoc (o:=.lst _) (eT _ _ (m9 _) _)
   ·rintro δ h' ⟨ls,hi',n,d11,d12,d13,hb,g,rfl,rfl,hn,hnl,hlk,nd,aV,hll,hi0,hi1,A3,C3⟩;rw[Nc,NO] at hll A3;replace A3:=A3.le (R':=R+100*l+10) (by lia);show Rn (aj _ _ _ _) _;refine ot ?_;refine Rn.imp (Q:=λr=>∃(ls:List Lock)(g:MH),r=(Fl.nx,[some (.ob E.s),some (.ob E.wd),some (.int j),some (.int d),some (.int top),some (.lv (held.map aE)),some (.str way),some (.int k1),some (aE lk),some (.ob n),some (.int hi'),d11,d12,d13,none],hb++g)/\(hb++g)[n]?=some (.lst (ls.map aE))/\2<=ls.length/\ls.length<=4/\ls.Nodup/\(∀x∈ls,eR E.W ps x)/\Cl (hb++g)) ?_ ?_
    ·nofun;refine rv (sT hn) ?_;nofun;refine⟨_,rfl,λz=>?_,λz=>?_⟩
     ·have z:ls.length=1:=by
       have:((ls.map aE).length:Int)=1:=by simpa using z
       rw[Nc] at this
       lia
      obtain⟨x0,rfl⟩:∃x0,ls=[x0]:=PF.mp z;obtain rfl:lk=x0:=Nw.mp hlk;obtain⟨nm,wo,fi⟩:=lk;have hok0:=aV _ (Nw.mpr rfl);nofun;refine yP ?_;nofun;refine⟨fT hn,?_⟩;nofun;refine rv (a:=(.str nm,_)) rfl ?_;nofun;refine rv (a:=(bA (wo,fi),_)) rfl ?_;nofun;refine rv (a:=(.str wo,_)) rfl ?_;nofun;refine rv (a:=(bA (wo,fi),_)) rfl ?_;nofun;refine rv (a:=(.int fi,_)) rfl ?_;nofun;refine rv (a:=(bA (wo,fi),_)) rfl ?_;nofun;refine rv (a:=(.int fi,_)) rfl ?_;nofun;obtain⟨v,hv,hm,v1,v0⟩:∃v:Int,uV [.bl (decide (90 < fi))] (hb++g)=some (.int v,hb++g)/\ir (.int 2) (.int v) (hb++g)=some (.int (2*v),hb++g)/\(90 < fi->v=1)/\(¬90 < fi->v=0):=by
       by_cases z:90 < fi
       ·exact⟨1,by rw[NC z];rfl,rfl,λ_=>rfl,λy=>absurd z y⟩
       ·exact⟨0,by rw[NU z];rfl,rfl,λy=>absurd y z,λ_=>rfl⟩
      refine rv hv ?_;nofun;refine rv hm ?_;nofun;refine rv (eS hn (by rw[Nc,show sizeLine=16777216 from rfl];simp)) ?_;nofun;have hlen:=A3.b.1;rw[SO _ _ (by lia)];have okf:=hok0.2;have okn:=hok0.1;dsimp only at okn;unfold dU at okf;dsimp only at okf;have hvv:v=0\/v=1:=by by_cases z:90 < fi <;> lia
      refine⟨[(nm,wo,fi),(nm,wo,fi+1-2*v)],_,rfl,?_,by simp,by simp,?_,?_,?_⟩
      ·rw[NG (by lia),Ov]
       ·rfl
       ·have:=(Ng.mp hn).1;rw[NT] at this
        lia
      ·simp;lia
      ·intro x hx;rcases NA.mp hx with rfl | hx
       ·exact hok0
       ·rw[Nw.mp hx];exact⟨okn,okf.1,by dsimp only;lia,by dsimp only;lia⟩
      ·rw[<-SO _ _ (by lia)];exact C3.set (o:=.lst _) rfl
     ·have z:ls.length≠1:=by
       have:((ls.map aE).length:Int)≠1:=by simpa using z
       rw[Nc] at this
       lia
      have:0 < ls.length:=Sw hlk;exact⟨_,rfl,ls,g,rfl,hn,by lia,by lia,nd,aV,C3⟩
    rintro _ ⟨ls,g,rfl,hn,l2,l4,nd,aV,C4⟩;have A4:=A3.ext C4;show Rn (aj _ _ _ _) _;nofun;refine rv (vF A4.w) ?_;nofun;obtain⟨v,hv,v0,v1⟩:∃v:Int,uV [.bl (E.odd==0)] (hb++g)=some (.int v,hb++g)/\0<=v/\v<=1:=by
     cases E.odd==0
     ·exact⟨0,rfl,by exact Qh _,by simp⟩
     ·exact⟨1,rfl,by simp,by exact Int.le_refl _⟩
    refine rv hv ?_;nofun;refine rv (a:=(.tup (ls.map aE),_)) (by simp only[cv,cL,hn,N8];rfl) ?_;nofun;refine rv (iK _ _ _) ?_;nofun;refine rv (a:=(.lv ((held++ls).map aE),_)) (by
     rw[Oe];simp only[az,wU,dX,hn,ND,Nc];rw[Nj (by rw[show sizeLine=16777216 from rfl];lia)]) ?_
    nofun;refine hlot (R:=R) (d:=d+1) (A4.le (by simp)) (G.more (n:=1) (Int.max_le.mpr ⟨ht,Oy (Int.add_le_add_left v1 _) hi1⟩) (by lia) aV) d5 (dq d5 hf) (by decide) (by decide) λt l5 h5 okl hll5 cr A5=>?_;obtain⟨hb5,rfl,_,A5'⟩:=A3.pop A5;nofun;exact AK b0 k (.all ls t) (by unfold cY;exact⟨⟨l2,l4,nd,aV⟩,d5,hll5,okl⟩) (by rw[cnt];lia) A5' (by rw[bE])
  refine ot ?_;nofun;refine rv (iK _ _ _) ?_;nofun;refine rv (iw aE held [lk] _ (by simp;lia)) ?_;nofun;refine hlot (R:=R+10) (d:=d+1) (A1.le (by lia)) (G.more (n:=1) (ls:=[lk]) (Int.max_le.mpr ⟨ht,Q5 k2⟩) (by simp) (by simpa using okk)) d5 (dq d5 hf) (by decide) (by decide) λt l2 h2 okl hll cr A2=>?_;refine Rn.imp (Q:=_) (eA (way=Str.ofString "ask") ?_ (λz=>?_) (λz=>?_)) λ_ z=>z
  ·nofun;refine⟨_,rfl,?_⟩;rw[show(way==Str.ofString "ask")=decide (way=Str.ofString "ask") by rw[PV];simp only[OV,Oa]]
  ·nofun;refine hlot (R:=R) (d:=d+1) (A2.le (by clear A2;lia)) G.deep d5 (dq d5 hf) (by decide) (by decide) λt3 l3 h3 okl3 hll3 cr3 A3=>?_;nofun;exact su b0 k (.ask lk t t3) (by unfold cY;exact⟨okk,d5,hll,hll3,okl,okl3⟩) (by rw[cnt];lia) A3 (by rw[bE])
  ·nofun;exact su b0 k (.within lk t) (by unfold cY;exact⟨okk,d5,hll,okl⟩) (by rw[cnt];lia) (A2.le (by lia)) (by rw[bE])
 ·nofun;refine rv (a:=(.bl true,_)) rfl ⟨_,rfl,λ_=>?_,λz=>(nomatch z)⟩;nofun;refine rv (c9 A1.w) ?_;nofun;refine rv (bN hdj) ?_;nofun;exact su b0 k (.say dj) (by unfold cY;exact N7 _ (Ni hdj)) (by rw[cnt]) (A1.le (by simp)) (by rw[bE])
end
theorem wQ(ts:List Lock)(h:MH):dY (.lv (ts.map aE)) (.lv []) h=some (.bl (!ts.isEmpty),h):=by
 have:=fq ts;simp only[dY,B3,cZ,IG,vY,k9,iG,gL,N8,ND];rw[Nj ⟨show PyData.depthAll _+1<=64 by exact Od this (by decide),by decide⟩];cases ts <;> rfl
section
variable {E:En}
theorem FF{f:Nat}(hlot:zK E f):Ik E (f+1):=by
 intro h0 h R l j ps d top held Q A G d3 l5 hf k;have pl:=G.pl;have hl:=G.hl;have ht:=G.ht;have b0:=A.b;replace A:=A.here;obtain⟨dj,hdj⟩:∃f,E.W.av[j]?=some f:=⟨_,Nk G.hj⟩;obtain⟨fj,hfj⟩:∃f,E.fl[j]?=some f:=⟨_,Nk (by rw[E.ok.Mg];exact G.hj)⟩;have hfm:=E.ok.f0 fj (Ni hfj);have hsay:Rn (leave h (.tup [.str "say",.str dj]) h) Q:=su b0 k (.say dj) (by unfold cY;exact N7 _ (Ni hdj)) (by rw[cnt]) (A.le (by simp)) (by rw[bE]);unfold bZ;refine uq ?_;nofun;refine rv (kS A.w) ?_;nofun;refine rv (bN hfj) ?_;nofun;refine rv (iK top fj h) ?_;have lo0:0<=max top fj:=Oy hfm.1 (Int.le_max_right _ _);have lo1:max top fj<=E.W.names.length:=by lia
 generalize max top fj=lo at lo0 lo1 ⊢;refine eA (lo=E.W.names.length) ?_ (λz=>?_) (λz=>?_)
 ·nofun;refine rv (c8 A.w) ?_;nofun;refine⟨_,rfl,?_⟩;rw[Nc,show(lo==(E.W.names.length:Int))=decide (lo=E.W.names.length) by rw[PV];simp only[OV,Oa]]
 ·nofun;refine rv (c9 A.w) ?_;nofun;refine rv (bN hdj) ?_;nofun;exact hsay
 obtain⟨kn,rfl⟩:=Oz lo0;have hkn:kn < E.W.names.length:=by lia
 obtain⟨nm,hnm⟩:∃f,E.W.names[kn]?=some f:=⟨_,Nk hkn⟩;refine ot ?_;nofun;refine dQ ?_;nofun;refine⟨_,_,rfl,?_⟩;obtain⟨⟨ys,h4⟩,e4,hyl,hym,δ4,hh4,_⟩:=mV (ws:=[]) (g:=gN 0) (c:=ax (ah cV (ah aH (aS 0) (eK (.int 0))) (ah aH (ah aH (aS 2) (eK (.str "names"))) (aS 1)))) (e:=aS 0) (λx y=>∃l∈held,y=aE l)
  (xs:=held.map aE) (δ:=[none,some (.int kn),some (.ob E.wd)]) (h:=h) (λj δ h'=>h'=h/\∃d0,δ=[d0,some (.int kn),some (.ob E.wd)]) ⟨rfl,_,rfl⟩ (λ_ _ _ _ _=>rfl) (by
   rintro i x δ h' hx ⟨rfl,d0,rfl⟩;obtain⟨l,hl,rfl⟩:=NM.mp (Ni hx);nofun;refine rv (a:=(.str l.1,_)) rfl ?_;nofun;refine rv (c8 A.w) ?_;nofun;refine rv (bN hnm) ?_;nofun;refine⟨_,rfl,λ_=>?_,λ_=>⟨rfl,_,rfl⟩⟩;nofun;exact⟨⟨l,hl,rfl⟩,rfl,_,rfl⟩)
 dsimp only at hh4;subst hh4;refine rv e4 ⟨Nr hyl (by rw[Nc,show sizeLine=16777216 from rfl];lia),?_⟩;obtain⟨ts,rfl⟩:∃ts:List Lock,ys=ts.map aE:=by
  clear e4 hyl
  induction ys with
  | nil=>exact⟨[],rfl⟩
  | cons y r ih=>
   obtain⟨js,rfl⟩:=ih λz hz=>hym z (Nl _ hz);obtain⟨x,hx,l,hl,rfl⟩:=hym y Nm;exact⟨l::js,rfl⟩
 nofun;refine rv (wQ ts _) ⟨_,rfl,λz=>?_,λz=>?_⟩
 ·nofun;refine rv (c9 A.w) ?_;nofun;refine rv (bN hdj) ?_;nofun;exact hsay
 nofun;refine rv (c8 A.w) ?_;nofun;refine rv (bN hnm) ?_;nofun;refine rv (mP A.w) ?_;nofun;refine rv (zV A.w _) ?_;rw[show(l:Int)-5=((l-5:Nat):Int) by lia];have A1:=A.set (l-5);generalize h4.set E.wd (kP E.W E.fl ((l-5:Nat):Int) E.odd)=h5 at A1 ⊢;nofun;refine rv (cx A1.w) ?_;nofun;refine rv (bN G.hp) ?_;nofun;refine rC A1 pl λt1 h2 tk1 A2=>?_;nofun;refine rv (cx A2.w) ?_;nofun;refine rv (bN G.hp) ?_;nofun;refine rC A2 pl λt2 h3 tk2 A3=>?_;nofun;refine⟨_,_,rfl,?_⟩;nofun;refine dQ ?_;nofun;refine⟨_,_,rfl,?_⟩;have hlen3:=A3.b.1;have okn:=Ni hnm;refine dA (λi δ h'=>∃(rows:List Row)(l':Nat)(d11 d12 d13:Option D)(hb:MH),δ=[some (.ob E.s),some (.ob E.wd),some (.int j),some (.int d),some (.int top),some (.lv (held.map aE)),some (.int kn),some (.str nm),some (bA t1),some (bA t2),some (.ob h3.length),d11,d12,d13]/\h'=hb++[.lst (rows.map λr=>.tup [bE r])]/\rows.length=i/\(∀r∈rows,cY E.W ps (d+1) r)/\l'+(rows.map cnt).sum+5=l+2*i/\Wb E h4 (R+100*l'+(8-4*i)) l' hb)
  ⟨[],l-5,_,_,_,h3,rfl,rfl,rfl,λ_ z=>(nomatch z),by simp;lia,A3.le (by lia)⟩ (λ_ _ _ _ _=>rfl) ?_ ?_
 ·rintro i x δ h' hx ⟨rows,l',d11,d12,d13,hb,rfl,rfl,hrl,hro,hc,A6⟩;have hi:i < 2:=(Ng.mp hx).1;obtain⟨u,v,rfl,uk,vk⟩:∃u v:Term,x=.tup [bA u,bA v]/\dU ps u/\dU ps v:=by
   rcases NA.mp (Ni hx) with rfl | hx
   ·exact⟨t1,t2,rfl,tk1,tk2⟩
   ·rw[Nw.mp hx];exact⟨t2,t1,rfl,tk2,tk1⟩
  have hlb:hb.length=h3.length:=A6.b.1.trans hlen3.symm;generalize hrs:rows.map (λr=>D.tup [bE r])=rs;have hcl:fe (hb.length+1) rs=true:=by rw[<-hrs];exact eT _ _ (λr=>by show(gO _ (bE r)&&true)=true;rw[wY];rfl) rows
  nofun;refine rv (iw aE held [(nm,u),(nm,v)] _ (by simp;lia)) ?_;nofun;refine hlot (R:=R+(8-4*(i+1))) (d:=d+3) ((A6.push (o:=.lst rs) hcl).le (HW ((by decide:∀i < 2,8-4*(i+1)+4<=8-4*i) i hi))) (G.more (n:=3) (ls:=[(nm,u),(nm,v)]) lo1 (by simp) (by
   intro x hx;rcases NA.mp hx with rfl | z
   ·exact⟨okn,uk⟩
   ·rw[Nw.mp z];exact⟨okn,vk⟩)) (by lia) (by lia) (by decide) (by decide) λt l7 h7 okl hll cr A7=>?_
  obtain⟨hb7,rfl,e7,A7'⟩:=A6.pop A7;have hl7:=e7.trans hlb;nofun;refine yP ?_;nofun;refine⟨fT (gZ hl7),?_⟩;nofun;refine rv (eS (gZ hl7) (by rw[<-hrs,Nc,show sizeLine=16777216 from rfl];lia)) ?_;rw[An hl7];nofun;have hcn:((rows++[Row.within (nm,u) [Row.within (nm,v) t]]).map cnt).sum=(rows.map cnt).sum+(2+cN t):=by
   rw[Oe,List.sum_append];simp[cnt,cN]
   lia
  refine⟨rows++[.within (nm,u) [.within (nm,v) t]],l7,_,_,_,hb7,rfl,?_,by simp[hrl],?_,by rw[hcn];lia,A7'.le (by lia)⟩
  ·rw[Oe,hrs];simp[bE,bS,aE]
  ·intro r hr;rcases NY.mp hr with z | z
   ·exact hro r z
   ·rw[Nw.mp z];simp only[cY,bH];exact⟨⟨okn,uk⟩,by exact Od d3 (by decide),by simp,⟨⟨okn,vk⟩,by lia,hll,okl⟩,trivial⟩
 ·rintro δ h' ⟨rows,l',d11,d12,d13,hb,rfl,rfl,hrl,hro,hc,A6⟩
  match rows,hrl with
  | [r0,r1],_=>
   have hc:l'+(([r0,r1]:List Row).map cnt).sum+5=l+2*2:=hc;have hat:(hb++[MO.lst [.tup [bE r0],.tup [bE r1]]])[h3.length]?=some (.lst [.tup [bE r0],.tup [bE r1]]):=gZ (A6.b.1.trans hlen3.symm);show Rn _ _;nofun;refine rv (iu hat (d:=.tup [bE r0]) rfl) ?_;nofun;refine rv (iu hat (d:=.tup [bE r1]) rfl) ?_;nofun;refine AK b0 k (.HV t1 t2 [r0] [.within (nm,t1) []] [r1]) ?_ ?_ (A6.le (by exact Nh _)) (by simp[bE,bS,aE])
   ·simp only[cY,bH];exact⟨tk1,tk2,by exact Nq d3 (by decide),by simp,by simp,by simp,⟨hro r0 (by simp),trivial⟩,⟨⟨⟨okn,tk1⟩,by exact Od d3 (by decide),by simp,trivial⟩,trivial⟩,⟨hro r1 (by simp),trivial⟩⟩
   ·simp[cnt,cN] at hc ⊢;lia
theorem ring:∀f,zK E f/\Iq E f/\CK E f/\Ik E f
 | 0=>⟨λ_ _ _ z=>absurd z (by lia),λ_ _ _ z=>absurd z (by lia),λ_ _ z1 z=>absurd z (by lia),λ_ _ z1 _ z=>absurd z (by lia)⟩
 | f+1=>let⟨a,b,c,d⟩:=ring f;⟨wD b,F7 a c d,yZ a,FF a⟩
end
theorem sN{P:Int->Prop}:∀{zs:List D},(∀y∈zs,∃i,y=.int i/\P i)->∃js:List Int,zs=js.map D.int/\∀j∈js,P j
 | [],_=>⟨[],rfl,λ_ z=>(nomatch z)⟩
 | y::r,h=>by
  obtain⟨js,rfl,q⟩:=sN (zs:=r) λz hz=>h z (Nl _ hz);obtain⟨i,rfl,p⟩:=h y Nm;exact⟨i::js,rfl,λj hj=>by
   rcases NA.mp hj with rfl | hj
   ·exact p
   ·exact q j hj⟩
theorem zm(f:α->D)(xs:List α)(k:Nat)(h:MH):mM (.lv (xs.map f)) none (some (k:Int)) h=some (.lv ((xs.take k).map f),h):=by
 show some (D.lv (cutD (xs.map f) none (some (k:Int))),h)=_;unfold cutD;rw[HT.nS,HT.r8,R3,Sv,Nc,<-Rt]
 by_cases z:k<=xs.length
 ·rw[RP z]
 ·rw[Nat.min_eq_right (by lia),OX (Nh _),OX (by lia)]
theorem EF{h h0:MH}{s c R:Nat}{cs:List Int}{most odd:Int}{Q:D×MH->Prop}(A:Sb s c cs h0 (R+80) h)(o0:0<=odd)(o1:odd<=1000)(k:∀(W:Wd)(fl:List Int)(hb:MH),xl W fl odd->Sb s c cs h0 R hb->Q (.ob hb.length,hb++[kP W fl most odd])):Rn (gD [.ob s,.int most,.int odd] h) Q:=by
 refine bF ?_;nofun;refine jc (is:=[1,2,2,3,4,6]) (λi=>1<=i/\i<=6) (by decide) A λn1 h1 hn1 _ A1=>?_;nofun;refine tu A1 (by exact Q5 hn1.1) hn1.2 λns h2 nl nk nnd A2=>?_;nofun;refine jc (is:=[1,1,2,2,3,4,6]) (λi=>1<=i/\i<=6) (by decide) A2 λn2 h3 hn2 _ A3=>?_;nofun;refine tu A3 (by exact Q5 hn2.1) hn2.2 λds h4 dl dk dnd A4=>?_;nofun;have d6:ds.length<=6:=by lia
 refine tu A4 (by simp) (Qh _) λps h5 pl pk pnd A5=>?_;nofun;refine dQ ?_;nofun;refine⟨_,_,rfl,?_⟩;obtain⟨⟨ys,h6⟩,e6,a6,δ6,_,A6⟩:=jX (ws:=[]) (g:=gN 0) (e:=ai aw (ag (aS 1) (ag (eK (.lv [.int 0,.int 1,.int 1,.int 2,.int 2,.int 3])) bj))) (λ_ y=>∃i,y=.int i/\0<=i/\i<=3)
  (xs:=ds.map D.str) (δ:=[none,some (.ob s)]) (h:=h5) (λi δ h'=>(∃d0,δ=[d0,some (.ob s)])/\Sb s c cs h0 (R+18-i) h') ⟨⟨_,rfl⟩,A5⟩ (λ_ _ _ _ _=>rfl) (by
   rintro i x δ h' hx ⟨⟨d0,rfl⟩,A6⟩;have hi:i < 6:=by
    have:=(Ng.mp hx).1;rw[Nc] at this;exact Nq this d6
   nofun;exact jc (R:=R+18-(i+1)) (is:=[0,1,1,2,2,3]) (λi=>0<=i/\i<=3) (by decide) (A6.le (Jo (RQ R (Nq hi (by decide))))) λi h7 hi _ A7=>⟨⟨i,rfl,hi⟩,⟨_,rfl⟩,A7⟩)
 have l6:=a6.length;obtain⟨many,rfl,hmany⟩:=sN (P:=λi=>0<=i/\i<=3) λy hy=>(let⟨_,_,r⟩:=a6.right y hy;r);dsimp only at l6;rw[Nc,Nc] at l6;rw[Nc] at A6;refine rv e6 ⟨by dsimp only;rw[Nc,show sizeLine=16777216 from rfl];lia,?_⟩;nofun;refine dQ ?_;nofun;refine⟨_,_,rfl,?_⟩;obtain⟨⟨ys,h7⟩,e7,a7,δ7,_,A7⟩:=jX (ws:=[]) (g:=gN 0) (e:=ai aq (ag (aS 2) (ag (ai bW (ag (aS 1) bj)) bj))) (λ_ y=>∃i,y=.int i/\0<=i/\i < ns.length)
  (xs:=ds.map D.str) (δ:=[none,some (.lv (ns.map D.str)),some (.ob s)]) (h:=h6) (λi δ h'=>(∃d0,δ=[d0,some (.lv (ns.map D.str)),some (.ob s)])/\Sb s c cs h0 (R+12-i) h') ⟨⟨_,rfl⟩,A6.le (Jn (R+12) (k:=6) d6)⟩ (λ_ _ _ _ _=>rfl) (by
   rintro i x δ h' hx ⟨⟨d0,rfl⟩,A7⟩;have hi:i < 6:=by
    have:=(Ng.mp hx).1;rw[Nc] at this;exact Nq this d6
   nofun;rw[Nc];exact bP (R:=R+12-(i+1)) (A7.le (Jo (RQ R (Nq hi (by decide))))) (by lia) (by lia) λr h8 r0 r1 A8=>⟨⟨r,rfl,r0,r1⟩,⟨_,rfl⟩,A8⟩)
 have l7:=a7.length;obtain⟨fls,rfl,hfls⟩:=sN (P:=λi=>0<=i/\i < ns.length) λy hy=>(let⟨_,_,r⟩:=a7.right y hy;r);dsimp only at l7;rw[Nc,Nc] at l7;rw[Nc] at A7;refine rv e7 ⟨by dsimp only;rw[Nc,show sizeLine=16777216 from rfl];lia,?_⟩;nofun;refine rv (a:=(.lv ((iY fls).map D.int),h7)) (by
  show(oM (fls.map D.int)).bind _=_;rw[qS];show(if fls.length < 64 then _ else _)=_;rw[Nj (by lia)]) ?_
 nofun;refine dQ ?_;nofun;refine⟨_,_,rfl,?_⟩;have e8:aY [] (gN 0) ck (fX (aS 1) qB (qC (aS 0))) (many.map D.int) [none,some (.lv (ps.map D.str))] h7=some ((many.map D.int).filterMap λd=>match d with | .int k=>some (.lv ((ps.take k.toNat).map D.str)) | _=>none,h7):=
  sy rfl _ (λδ=>∃d0,δ=[d0,some (.lv (ps.map D.str))]) ⟨_,rfl⟩ (by
   rintro x hx δ ⟨d0,rfl⟩;obtain⟨k,hk,rfl⟩:=NM.mp hx;refine rv rfl ⟨rfl,rv rfl ⟨rfl,⟨_,rfl⟩,λ_=>⟨_,rfl,?_⟩,λz=>(nomatch z)⟩⟩;obtain⟨n,rfl⟩:=Oz (hmany k hk).1;nofun;refine⟨_,rfl,rv (zm D.str ps n _) ?_⟩;rfl)
 have e9:((many.map D.int).filterMap λd=>match d with | .int k=>some (D.lv ((ps.take k.toNat).map D.str)) | _=>none)=(many.map λk=>ps.take k.toNat).map λps=>D.lv (ps.map D.str):=by
  rw[PH,O3];exact congrFun (SR (f:=(λps:List Str=>D.lv (ps.map D.str))∘λk:Int=>ps.take k.toNat)) _
 rw[e9] at e8;refine rv e8 ⟨by dsimp only;rw[Nc,Nc,show sizeLine=16777216 from rfl];lia,?_⟩;nofun;have hfin:∀(a b c d e f:D),Rn (wV (fP (eK (.str "names")) (aS 3) (fP (eK (.str "deeds")) (aS 4) (fP (eK (.str "params")) (aS 5) (fP (eK (.str "floors")) (aS 7) (fP (eK (.str "left")) (aS 1) (fP (eK (.str "odd")) (aS 2) GR)))))) [some (.ob s),some (.int most),some (.int odd),some a,some b,some c,some d,some e] h7) λp=>p=(.ob h7.length,h7++[.dct [(.inr (Str.ofString "names"),a),(.inr (Str.ofString "deeds"),b),(.inr (Str.ofString "params"),c),(.inr (Str.ofString "floors"),e),(.inr (Str.ofString "left"),.int most),(.inr (Str.ofString "odd"),.int odd)]]):=λa b c d e f=>⟨_,rfl,rfl⟩;refine(hfin _ _ _ _ _ .bx).imp ?_;rintro _ rfl;nofun;refine k ⟨ns,ds,many.map λk=>ps.take k.toNat⟩ (iY fls) h7 ⟨?_,?_,?_,?_,?_,?_,?_,?_,o0,o1,nk,dk,?_,nnd,dnd,?_⟩ (A7.le (Jn R (k:=12) (Nr d6 (by decide))))
 ·show 1<=ns.length;lia
 ·show ns.length<=6;lia
 ·show 1<=ds.length;lia
 ·exact d6
 ·show(many.map _).length=ds.length;rw[Nc];exact l6
 ·intro q hq;obtain⟨k,hk,rfl⟩:=NM.mp hq;rw[NF];have:=pl
  lia
 ·show(iY fls).length=ds.length;rw[(f7 fls).length_eq];exact l7
 ·intro f hf;exact hfls f ((f7 fls).mem_iff.mp hf)
 ·intro q hq w hw;obtain⟨k,hk,rfl⟩:=NM.mp hq;exact pk w (P6 hw)
 ·intro q hq;obtain⟨k,hk,rfl⟩:=NM.mp hq;exact pnd.sublist (RB _ _)
end Mi
namespace Pg
open PySem Sm L2
abbrev iW:=Str×List Str×List Row
structure Prog where
 names:List Str
 av:List iW
noncomputable def cH(d:iW):D:=.tup [.str d.1,.tup (d.2.1.map D.str),.tup (bS d.2.2)]
noncomputable def cu(P:Prog):D:=.tup [.tup (P.names.map D.str),.tup (P.av.map cH)]
structure mN(W:Wd)(most:Nat)(P:Prog):Prop where
 nm:P.names=gE W.names
 dl:P.av.length=W.av.length
 dd:∀(j:Nat)(d:iW),P.av[j]?=some d->W.av[j]?=some d.1/\W.params[j]?=some d.2.1/\bH W d.2.1 1 d.2.2/\d.2.2.length<=12
 ct:(P.av.map λd=>cN d.2.2).sum<=most
end Pg
namespace Mi
open PySem Sm L2 Pg
theorem sY(n:Nat)(d:iW):gO n (cH d)=true:=by
 show(true&&(fe n (d.2.1.map D.str)&&(fe n (bS d.2.2)&&true)))=true;rw[fY,dh];rfl
theorem EA(n:Nat)(P:Prog):gO n (cu P)=true:=by
 show(fe n (P.names.map D.str)&&(fe n (P.av.map cH)&&true))=true;rw[fY,eT n _ (sY n)];rfl
theorem Eu{α:Type}{f:α->D}{xs:List α}{i:Nat}{x:D}(h:(i9 0 (xs.map f))[i]?=some x):∃a,xs[i]?=some a/\x=.tup [.int (i:Int),f a]:=by
 rw[lI,Nz] at h;cases e:xs[i]? with
 | none=>rw[e] at h;cases h
 | some a=>
  rw[e] at h;cases h;exact⟨a,rfl,by rw[Q0]⟩
theorem Wb.out(C:Cl h)(B:Sb E.s E.c E.cs h R' h0)(e:E.wd=h0.length)(A:Wb E (h0++[o]) R l h1):∃hb o',h1=hb++[o']/\Sb E.s E.c E.cs h R hb/\Cl hb:=by
 have b:=A.b;obtain⟨hs,hc⟩:=B.S.lt;have hl:h1.length=h0.length+1:=by rw[b.1];simp
 have hx:h0.length < h1.length:=by lia
 have ee:h1=h1.take h0.length++[h1[h0.length]'hx]:=by rw[List.take_append_getElem,OX (by exact RA hl)]
 have bb:lQ E.s h0 (h1.take h0.length):=⟨by rw[NF];lia,λk hk=>by
  by_cases z:k < h0.length
  ·rw[N0 z,b.2 k hk (by lia),Nv z]
  ·rw[Oc (by rw[NF];lia),Oc (by exact Ob z)]⟩
 have S:=A.S;rw[ee] at S;have S':=S.cut (by rw[bb.1];exact hs) (by rw[bb.1];exact hc);exact⟨_,_,ee,⟨S',B.b.trans bb⟩,C.but S' (B.b.trans bb)⟩
theorem zF{h h0:MH}{s c R most:Nat}{cs:List Int}{odd:Int}{Q:D×MH->Prop}(A:Sb s c cs h0 (R+100*most+120) h)(C:Cl h)(o0:0<=odd)(o1:odd<=1000)(k:∀(W:Wd)(fl:List Int)(P:Prog)(h1:MH),xl W fl odd->mN W most P->Sb s c cs h0 R h1->Cl h1->Q (cu P,h1)):Rn (fc [.ob s,.int most,.int odd] h) Q:=by
 refine uq ?_;nofun;refine EF (R:=R+100*most+40) A.S.sb o0 o1 λW fl hb ok A1=>?_;obtain⟨lt1,lt2⟩:=A1.S.lt;have d2:=ok.d2;have n1:=ok.n1;have n2:=ok.n2;have hlen:=A1.b.1;let E:En:=⟨s,c,hb.length,cs,W,fl,odd,ok,by exact Pu lt1,by exact Pu lt2⟩;have B0:Wb E (hb++[kP W fl most odd]) (R+100*most+40) most (hb++[kP W fl most odd]):=⟨A1.S.more _,gZ rfl,(C.but A1.S A1.b).snoc (wZ _ _ _ _ _),fg.refl _ _ _⟩;nofun;refine Dy ?_;nofun;refine rv (c9 (B0.push (o:=.lst []) rfl).w) ?_;nofun;refine⟨_,_,_,rfl,rfl,?_⟩;have hobl:(hb++[kP W fl most odd]).length=h.length+1:=by simp[hlen]
 rw[hobl];refine dA (λi δ h'=>∃(dds:List iW)(l':Nat)(d5 d6 d7:Option D)(hw:MH),δ=[some (.ob s),some (.int most),some (.int odd),some (.ob hb.length),some (.ob (h.length+1)),d5,d6,d7]/\h'=hw++[.lst (dds.map cH)]/\hw.length=h.length+1/\dds.length=i/\(∀(j:Nat)(d:iW),dds[j]?=some d->W.av[j]?=some d.1/\W.params[j]?=some d.2.1/\bH W d.2.1 1 d.2.2/\d.2.2.length<=12)/\l'+(dds.map λd=>cN d.2.2).sum=most/\Wb E (hb++[kP W fl most odd]) (R+100*l'+(40-5*i)) l' hw)
  ⟨[],most,_,_,_,_,rfl,rfl,hobl,rfl,λ_ _ z=>by simp at z,by simp,B0⟩ (λ_ _ _ _ _=>rfl) ?_ ?_
 ·rintro i x δ h' hx ⟨dds,l',d5,d6,d7,hw,rfl,rfl,hwl,hdl,hdd,hc,A6⟩;obtain⟨dn,hdn,rfl⟩:=Eu hx;have hi:i < W.av.length:=(Ng.mp hdn).1;obtain⟨ps,hps⟩:∃f,W.params[i]?=some f:=⟨_,Nk (by rw[ok.pl];exact hi)⟩;nofun;refine zX (E:=E) (R:=R+100*l'+(39-5*i)) (is:=[1,2,3,4,12]) (λi=>1<=i/\i<=12) (by decide) ((A6.push (o:=.lst (dds.map cH)) (eT _ _ (sY _) dds)).le (Pa ((by decide:∀i < 7,39-5*i+1<=40-5*i) i (Nq hi (Nr d2 (by decide)))) _)) λmo h7 hmo A7=>?_;nofun;refine(ring (E:=E) 20).1 (R:=R+(40-5*(i+1))) (d:=1) (held:=[]) (A7.le (HW ((by decide:∀i < 7,40-5*(i+1)+4<=39-5*i) i (Nq hi (Nr d2 (by decide)))))) ⟨hps,hi,by decide,show(-1:Int)<=W.names.length by simp,λ_ z=>(nomatch z),by simp⟩ (by decide) (by decide) hmo.1 hmo.2 λt l8 h8 okl hll cr A8=>?_;have w8:=A8.w;obtain⟨hw8,rfl,e8,A8'⟩:=A6.pop A8;have hl8:=e8.trans hwl;nofun;refine yP ?_;nofun;refine⟨fT (gZ hl8),?_⟩;nofun;refine rv (cx w8) ?_;nofun;refine rv (bN hps) ?_;nofun;refine rv (a:=(.tup (ps.map D.str),_)) rfl ?_;nofun;refine rv (eS (gZ hl8) (by rw[Nc,show sizeLine=16777216 from rfl];lia)) ?_;rw[An hl8];nofun;have hcn:((dds++[(dn,ps,t)]).map λd:iW=>cN d.2.2).sum=(dds.map λd:iW=>cN d.2.2).sum+cN t:=by
   rw[Oe,List.sum_append];simp
  refine⟨dds++[(dn,ps,t)],l8,_,_,_,hw8,rfl,by rw[Oe];rfl,hl8,by simp[hdl],?_,by rw[hcn];lia,A8'.le (by lia)⟩;intro j d hj
  by_cases z:j < dds.length
  ·rw[Nv z] at hj;exact hdd j d hj
  ·rw[NG (by exact Ob z)] at hj;have hj0:j-dds.length=0:=by
    have:=(Ng.mp hj).1;simp at this
    lia
   rw[hj0] at hj;cases hj;obtain rfl:j=i:=by lia
   exact⟨hdn,hps,okl,hll⟩
 ·rintro δ h' ⟨dds,l',d5,d6,d7,hw,rfl,rfl,hwl,hdl,hdd,hc,A6⟩;rw[gy,Nc] at hdl;have w6:=(A6.push (o:=.lst (dds.map cH)) (eT _ _ (sY _) dds)).w;have hat:(hw++[MO.lst (dds.map cH)])[h.length+1]?=some (.lst (dds.map cH)):=gZ hwl;obtain⟨hb',o',rfl,B9,C9⟩:=Wb.out (E:=E) C A1 rfl A6;nofun;refine rv (c8 w6) ?_;nofun;refine rv (a:=(.lv ((gE W.names).map D.str),_)) (by
   show(nC (W.names.map D.str)).bind _=_;rw[qi];show(if W.names.length < 64 then _ else _)=_;rw[Nj (by exact Od n2 (by decide))]) ?_
  nofun;refine rv (a:=(.tup ((gE W.names).map D.str),_)) rfl ?_;nofun;refine rv (a:=(.tup (dds.map cH),_)) (by simp only[cv,cL,hat,N8];rfl) ?_;nofun;rw[OI];exact rv (kc B9.b.1 C9 (λn z=>(nomatch z)) (EA _ ⟨gE W.names,dds⟩)) (k W fl ⟨gE W.names,dds⟩ hb' ok ⟨rfl,hdl,hdd,by show _<=_;dsimp only;lia⟩ ⟨B9.S.le (by lia),A.b.trans B9.b⟩ C9)
end Mi
namespace Mi
open PySem L2 Sm PySem.Spec PyProof.Rows Pg
mutual
noncomputable def iO(m:Nat):D->Bool
 | .bx=>true
 | .bl _=>true
 | .int _=>true
 | .str _=>true
 | .tup xs=>decide (xs.length<=m)&&CN m xs
 | .lv xs=>decide (xs.length<=m)&&CN m xs
 | .dv kvs=>kvs.isEmpty
 | _=>false
noncomputable def CN(m:Nat):List D->Bool
 | []=>true
 | x::r=>iO m x&&CN m r
end
abbrev vC:D->Bool:=iO 1000
theorem rJ{m:Nat}:∀{xs:List D},CN m xs=true↔∀x∈xs,iO m x=true
 | []=>by simp[CN]
 | x::r=>by simp[CN,rJ (xs:=r)]
theorem bp{m:Nat}{xs:List D}(t:iO m (.tup xs)=true):xs.length<=m/\∀x∈xs,iO m x=true:=by
 rw[iO,Nn,rJ] at t;exact⟨NV t.1,t.2⟩
noncomputable def BG:D->Bool
 | .tup _=>true
 | _=>false
noncomputable def BH:D->Bool
 | .str _=>true
 | _=>false
noncomputable def Fv:D->Bool
 | .int _=>true
 | _=>false
noncomputable def Ee:D->Bool
 | .bl _=>true
 | _=>false
theorem bC{d:D}{h:MH}(t:vC d=true):dg [d,.ty "tuple"] h=some (.bl (BG d),h):=by cases d <;> first | rfl | cases t
theorem iJ{d:D}{h:MH}(t:vC d=true):dg [d,.ty "str"] h=some (.bl (BH d),h):=by cases d <;> first | rfl | cases t
theorem BF{d:D}{h:MH}(t:vC d=true):dg [d,.ty "bool"] h=some (.bl (Ee d),h):=by cases d <;> first | rfl | cases t
theorem dN{d:D}{h:MH}(t:vC d=true):eY [d] h=some (.bl (Fv d),h):=by cases d <;> first | rfl | cases t
noncomputable def kU(d:D)(n:Int):Bool:=match d with
 | .tup xs=>(xs.length:Int)==n
 | _=>false
theorem aP{d:D}{n:Int}{h:MH}(t:vC d=true):bc [d,.int n] h=some (.bl (kU d n),h):=by cases d <;> first | rfl | cases t
section
variable {ns ps:List Str} {h:MH}
theorem uu:∀ws:List Str,gL (ws.map D.str)=some (ws.map PyData.str)
 | []=>rfl
 | c::r=>by simp only[Ny,gL,iG,uu r,ND,N8]
theorem oY:∀ws:List Str,PyData.depthAll (ws.map PyData.str)=0
 | []=>rfl
 | c::r=>by simp only[Ny,PyData.depthAll,oY r,PyData.depth];rfl
theorem vv(w:Str):∀ws:List Str,((ws.map PyData.str).any λb=>PyData.eqv b (.str w))=decide (w∈ws)
 | []=>by simp
 | c::r=>by
  rw[Ny,Pd,vv w r,show PyData.eqv (.str c) (.str w)=(c==w) by simp[PyData.eqv]]
  by_cases z:c=w
  ·subst z;simp
  ·have:(c==w)=false:=by simp[z]
   rw[this,Sf];simp[Ox z]
theorem lG(w:Str)(ps:List Str)(h:MH):Es (.str w) (.tup (ps.map D.str)) h=some (.bl (decide (w∈ps)),h):=by
 have e2:inD (.str w) (.tup (ps.map D.str)) h=some (decide (w∈ps)):=by
  show((gL (ps.map D.str)).bind λbs=>if(PyData.str w).depth<=60/\PyData.depthAll bs<=60 then some (bs.any λb=>PyData.eqv b (.str w)) else none)=_;rw[uu];show(if(PyData.str w).depth<=60/\PyData.depthAll (ps.map PyData.str)<=60 then some ((ps.map PyData.str).any λb=>PyData.eqv b (.str w)) else none)=_;rw[Nj ⟨by simp[PyData.depth],by rw[oY];lia⟩,vv]
 unfold Es;rw[e2];rfl
noncomputable def g6(ps:List Str)(w:Str)(f:Int):Bool:=(w==Str.ofString ""||decide (w∈ps))&&(decide (-99<=f)&&decide (f<=99))
noncomputable def nz(ps:List Str)(a b:D):Bool:=match a,b with
 | .str w,.int f=>g6 ps w f
 | _,_=>false
noncomputable def qf(ps:List Str):D->Bool
 | .tup [a,b]=>nz ps a b
 | _=>false
theorem wG(a b c:α)(r:List α)(n:Nat)(hn:n<=2):(((a::b::c::r).length:Int)==(n:Int))=false:=by
 simp only[NQ];rw[Px]
 lia
theorem wJ:∀{d:D},vC d=true->lO [d,.tup (ps.map D.str)] h=some (.bl (qf ps d),h)
 | .bx,_=>rfl
 | .bl _,_=>rfl
 | .int _,_=>rfl
 | .str _,_=>rfl
 | .lv _,_=>rfl
 | .dv _,_=>rfl
 | .tup [],_=>rfl
 | .tup [_],_=>rfl
 | .tup (a::b::c::r),t=>by
  refine eN (bF ?_);nofun;refine rv (aP t) ⟨_,rfl,λ_=>?_,λz=>?_⟩
  ·nofun;rfl
  ·have:kU (.tup (a::b::c::r)) 2=false:=wG a b c r 2 (Nh _);rw[this] at z;cases z
 | .tup [a,b],t=>by
  have ta:=(bp t).2 a (by simp);have tb:=(bp t).2 b (by simp);cases a <;> first |(cases ta;done) | skip
  case str w=>
   cases b <;> first |(cases tb;done) | skip
   case int f=>
    refine eN (bF ?_);nofun;refine rv (aP t) ⟨_,rfl,λz=>(nomatch z),λ_=>?_⟩;nofun;refine rv (iJ ta) ⟨_,rfl,λz=>(nomatch z),λ_=>?_⟩;nofun;refine rv (dN tb) ⟨_,rfl,λz=>(nomatch z),λ_=>?_⟩;nofun;have fin:Rn (iy BU BU (tQ gW (eK (.int 99))) (aS 3) (eK (.int 99)) [some (.tup [.str w,.int f]),some (.tup (ps.map D.str)),some (.str w),some (.int f)] h) λp=>p=(.bl (decide (-99<=f)&&decide (f<=99)),h):=by
     exact⟨_,o9 (a:=-99) (n:=f) (b:=99) rfl rfl rfl,rfl⟩
    refine⟨_,rfl,λz=>⟨_,rfl,λ_=>?_,λz=>(nomatch z)⟩,λz=>?_⟩
    ·refine fin.imp ?_;rintro _ rfl;nofun;show _=(D.bl (g6 ps w f),h);unfold g6;rw[show(w==Str.ofString "")=true from z];rfl
    ·nofun;refine rv (lG w ps h) ⟨_,rfl,λy=>?_,λy=>?_⟩
     ·refine fin.imp ?_;rintro _ rfl;nofun;show _=(D.bl (g6 ps w f),h);unfold g6;rw[show(w==Str.ofString "")=false from z,y];rfl
     ·nofun;show _=(D.bl (g6 ps w f),h);unfold g6;rw[show(w==Str.ofString "")=false from z,y];rfl
   all_goals rfl
  all_goals rfl
end
section
variable {ns ps:List Str} {h:MH}
theorem kj(w:Str)(ps:List Str)(h:MH):fF (.str w) (.tup (ps.map D.str)) h=some (.bl (!decide (w∈ps)),h):=by
 have e:=lG w ps h;unfold Es at e;unfold fF;obtain⟨c,e1,e2⟩:=eC e;rw[e1];cases e2;rfl
noncomputable def jy(ps:List Str)(b:D):Bool:=kU b 0||qf ps b
noncomputable def Fh(ns ps:List Str)(a b:D):Bool:=match a with
 | .str w=>decide (w∈ns)&&jy ps b
 | _=>false
noncomputable def fV(ns ps:List Str):D->Bool
 | .tup [a,b]=>Fh ns ps a b
 | _=>false
theorem uS:∀{d:D},vC d=true->jC [d,.tup (ns.map D.str),.tup (ps.map D.str)] h=some (.bl (fV ns ps d),h)
 | .bx,_=>rfl
 | .bl _,_=>rfl
 | .int _,_=>rfl
 | .str _,_=>rfl
 | .lv _,_=>rfl
 | .dv _,_=>rfl
 | .tup [],_=>rfl
 | .tup [_],_=>rfl
 | .tup (a::b::c::r),t=>by
  refine eN (bF ?_);nofun;refine rv (aP t) ⟨_,rfl,λ_=>tt ?_,λz=>?_⟩
  ·nofun;rfl
  ·have:kU (.tup (a::b::c::r)) 2=false:=wG a b c r 2 (Nh _);rw[this] at z;cases z
 | .tup [a,b],t=>by
  have ta:=(bp t).2 a (by simp);have tb:=(bp t).2 b (by simp);cases a <;> first |(cases ta;done) | skip
  case str w=>
   refine eN (bF ?_);nofun;refine rv (aP t) ⟨_,rfl,λz=>(nomatch z),λ_=>?_⟩;nofun;refine rv (iJ ta) ⟨_,rfl,λz=>(nomatch z),λ_=>?_⟩;nofun;refine rv (kj w ns h) ⟨_,rfl,λy=>?_,λy=>?_⟩
   ·nofun;have y:decide (w∈ns)=false:=by simpa using y
    show _=(D.bl (decide (w∈ns)&&jy ps b),h);rw[y];rfl
   ·nofun;have y:decide (w∈ns)=true:=by simpa using y
    refine rv (aP tb) ⟨_,rfl,λz=>?_,λz=>?_⟩
    ·show _=(D.bl (decide (w∈ns)&&(kU b 0||qf ps b)),h);rw[y,z];rfl
    ·nofun;refine rv (wJ tb) ?_;show _=(D.bl (decide (w∈ns)&&(kU b 0||qf ps b)),h);rw[y,z];rfl
  all_goals rfl
noncomputable def Bn(a b:Int):D->Bool
 | .int i=>decide (a<=i)&&decide (i<=b)
 | _=>false
theorem fE{a b:Int}:∀{d:D},vC d=true->a9 [d,.int a,.int b] h=some (.bl (Bn a b d),h)
 | .bx,_=>rfl
 | .bl _,_=>rfl
 | .str _,_=>rfl
 | .lv _,_=>rfl
 | .dv _,_=>rfl
 | .tup _,_=>rfl
 | .int i,t=>by
  refine eN (bF ?_);nofun;refine rv (a:=(.bl true,h)) rfl ⟨_,rfl,λ_=>?_,λz=>(nomatch z)⟩;nofun;refine rv (BF t) ?_;nofun;exact⟨_,rfl,_,rfl,λ_=>⟨_,o9 rfl rfl rfl,rfl⟩,λz=>(nomatch z)⟩
end
section
variable {ns ps:List Str} {h:MH}
theorem Ep(b:Int)(h:MH):Es (.int b) (.tup (([1,-1]:List Int).map D.int)) h=some (.bl (b==1||b==-1),h):=by
 show((some (([1,-1]:List Int).any λx=>PyData.eqv (.int x) (.int b))).map λc=>(D.bl c,h))=_;have:(([1,-1]:List Int).any λx=>PyData.eqv (.int x) (.int b))=(b==1||b==-1):=by
  simp only[Pd,List.any_nil,QP,PyData.eqv]
  by_cases c1:b=1
  ·subst c1;rfl
  ·by_cases c2:b=-1
   ·subst c2;rfl
   ·have e1:((1:Int)==b)=false:=by simp;exactλz=>c1 z.symm
    have e2:((-1:Int)==b)=false:=by simp;exactλz=>c2 z.symm
    rw[e1,e2,show(b==1)=false by simpa using c1,show(b==-1)=false by simpa using c2]
 rw[this];rfl
noncomputable def vZ(a b:D):Bool:=match a,b with
 | .int i,.int j=>(decide (0<=i)&&decide (i<=9))&&(j==1||j==-1)
 | _,_=>false
noncomputable def dM:D->Bool
 | .tup [a,b]=>vZ a b
 | _=>false
theorem wK:∀{d:D},vC d=true->lP [d] h=some (.bl (dM d),h)
 | .bx,_=>rfl
 | .bl _,_=>rfl
 | .int _,_=>rfl
 | .str _,_=>rfl
 | .lv _,_=>rfl
 | .dv _,_=>rfl
 | .tup [],_=>rfl
 | .tup [_],_=>rfl
 | .tup (a::b::c::r),t=>by
  refine eN (bF ?_);nofun;refine rv (aP t) ⟨_,rfl,λ_=>tt ?_,λz=>?_⟩
  ·nofun;rfl
  ·have:kU (.tup (a::b::c::r)) 2=false:=wG a b c r 2 (Nh _);rw[this] at z;cases z
 | .tup [a,b],t=>by
  have ta:=(bp t).2 a (by simp);have tb:=(bp t).2 b (by simp);refine eN (bF ?_);nofun;refine rv (aP t) ⟨_,rfl,λz=>(nomatch z),λ_=>?_⟩;nofun;cases a <;> first |(cases ta;done) | skip
  case int i _=>
   refine rv (dN ta) ⟨_,rfl,λz=>(nomatch z),λ_=>?_⟩;nofun;cases b <;> first |(cases tb;done) | skip
   case int j _=>
    refine rv (dN tb) ⟨_,rfl,λz=>(nomatch z),λ_=>?_⟩;nofun;refine rv (a:=(.bl (decide (0<=i)&&decide (i<=9)),h)) (o9 rfl rfl rfl) ⟨_,rfl,λy=>?_,λy=>?_⟩
    ·nofun;refine rv (Ep j h) ?_;nofun;show _=(D.bl ((decide (0<=i)&&decide (i<=9))&&(j==1||j==-1)),h);rw[y];rfl
    ·show _=(D.bl ((decide (0<=i)&&decide (i<=9))&&(j==1||j==-1)),h);rw[y];rfl
   all_goals
    refine rv (dN tb) ⟨_,rfl,λ_=>?_,λz=>(nomatch z)⟩;nofun;rfl
  all_goals
   refine rv (dN ta) ⟨_,rfl,λ_=>tt ?_,λz=>(nomatch z)⟩;nofun;rfl
theorem zt(w:Str)(ps:List Str)(h:MH):Es (.str w) (.tup (D.str ""::ps.map D.str)) h=some (.bl (w==Str.ofString ""||decide (w∈ps)),h):=by
 have:=lG w ((Str.ofString "")::ps) h;rw[Ny] at this;rw[this]
 by_cases c:w=Str.ofString ""
 ·subst c;simp
 ·have:(w==Str.ofString "")=false:=by simpa using c
  rw[this,Sf];simp[c]
theorem Er{n:Nat}(h:MH):fF (.int n) (.tup [.int 0,.int 2]) h=some (.bl (!(n==0||n==2)),h):=by
 show((some (([0,2]:List Int).any λx=>PyData.eqv (.int x) (.int n))).map λc=>(D.bl !c,h))=_;have:(([0,2]:List Int).any λx=>PyData.eqv (.int x) (.int n))=(n==0||n==2):=by
  simp only[Pd,List.any_nil,QP,PyData.eqv]
  match n with
  | 0=>rfl
  | 1=>rfl
  | 2=>rfl
  | n+3=>
   have e1:((0:Int)==((n+3:Nat):Int))=false:=by simp;lia
   have e2:((2:Int)==((n+3:Nat):Int))=false:=by simp;lia
   rw[e1,e2];rfl
 rw[this];rfl
theorem sM{rest:D}:∀{d:D},ps.length<=100->vC d=true->cS [.tup [.tup (ns.map D.str),rest],.tup (ps.map D.str),d] h=some (.bl (fV ns ps d),h)
 | .bx,_,_=>rfl
 | .bl _,_,_=>rfl
 | .int _,_,_=>rfl
 | .str _,_,_=>rfl
 | .lv _,_,_=>rfl
 | .dv _,_,_=>rfl
 | .tup [],_,_=>rfl
 | .tup [_],_,_=>rfl
 | .tup (a::b::c::r),_,t=>by
  refine eN (bF ?_);nofun;refine rv (bC t) ⟨_,rfl,λz=>(nomatch z),λ_=>?_⟩;nofun;refine⟨_,rfl,λ_=>tt ?_,λz=>?_⟩
  ·nofun;rfl
  ·have z:((((a::b::c::r).length:Int)==((2:Nat):Int)))=true:=by simpa using z
   rw[wG a b c r 2 (Nh _)] at z;cases z
 | .tup [a,b],hp,t=>by
  have ta:=(bp t).2 a (by simp);have tb:=(bp t).2 b (by simp);refine eN (bF ?_);nofun;refine rv (bC t) ⟨_,rfl,λz=>(nomatch z),λ_=>?_⟩;nofun;refine⟨false,rfl,λz=>(nomatch z),λ_=>?_⟩;nofun;cases a <;> first |(cases ta;done) | skip
  case str w _=>
   refine rv (iJ ta) ⟨_,rfl,λz=>(nomatch z),λ_=>?_⟩;nofun;refine rv (kj w ns h) ⟨_,rfl,λy=>?_,λy=>?_⟩
   ·nofun;have y:decide (w∈ns)=false:=by simpa using y
    show _=(D.bl (decide (w∈ns)&&jy ps b),h);rw[y];rfl
   ·have y:decide (w∈ns)=true:=by simpa using y
    nofun;have fin:∀{c:Bool},jy ps b=c->(D.bl c,h)=(D.bl (fV ns ps (.tup [.str w,b])),h):=λ{c} e=>by
     show _=(D.bl (decide (w∈ns)&&jy ps b),h);rw[y,e];rfl
    cases b with
    | tup xs=>
     refine rv (bC tb) ⟨_,rfl,λz=>(nomatch z),λ_=>?_⟩;nofun;refine rv (Er h) ⟨_,rfl,λz=>?_,λz=>?_⟩
     ·nofun;refine fin ?_
      match xs,z with
      | [_],_=>rfl
      | _::_::_::r,_=>
       show(((_:Nat):Int)==0||false)=false;rw[QP];simp only[NQ];rw[Px]
       lia
     ·nofun
      match xs,z with
      | [],_=>
       refine rv (a:=(.bl true,h)) rfl ⟨_,rfl,λ_=>?_,λz=>(nomatch z)⟩;nofun;exact fin rfl
      | [x,y],_=>
       refine rv (a:=(.bl false,h)) rfl ⟨_,rfl,λz=>(nomatch z),λ_=>?_⟩;nofun;have tx:=(bp tb).2 x (by simp);have ty:=(bp tb).2 y (by simp);have hx:(∃u,x=.str u)\/BH x=false:=by cases x <;> first | exact .inl ⟨_,rfl⟩ | exact .inr rfl
       rcases hx with⟨u,rfl⟩ | hx
       ·refine rv (iJ tx) ⟨_,rfl,λ_=>?_,λz=>(nomatch z)⟩;nofun;refine rv (oU (xs:=[.str (Str.ofString "")]) (by rw[Nc];simp;lia)) ?_;nofun;refine rv (zt u ps h) ⟨_,rfl,λc=>?_,λc=>?_⟩
        ·nofun;refine rv (fE ty) ?_;nofun;refine fin ?_;show(false||nz ps (.str u) y)=_;cases y <;> first | rfl | skip
         show(false||((u==Str.ofString ""||decide (u∈ps))&&_))=_;rw[c];rfl
        ·refine fin ?_;show(false||nz ps (.str u) y)=_;cases y <;> first | rfl | skip
         show(false||((u==Str.ofString ""||decide (u∈ps))&&_))=_;rw[c];rfl
       ·refine rv (iJ tx) ⟨_,rfl,λz=>(nomatch hx.symm.trans z),λ_=>?_⟩;refine fin ?_;show(false||nz ps x y)=false;cases x <;> first | rfl | cases hx
    | _=>
     refine rv (bC tb) ⟨_,rfl,λ_=>tt ?_,λz=>(nomatch z)⟩;nofun;exact fin rfl
  all_goals
   refine rv (iJ ta) ⟨_,rfl,λ_=>?_,λz=>(nomatch z)⟩;nofun;rfl
end
end Mi
namespace Sm
open PySem L2
theorem vf{α:Type}{e:EM}{h:MH}{t:DS}(A f:α->D):∀(xs:List α)(o:Option D),(∀x∈xs,e (some (A x)::t) h=some (f x,h))->aY [] (gN 0) ck e (xs.map A) (o::t) h=some (xs.map f,h)
 | [],o,_=>rfl
 | x::r,o,hx=>by
  have e1:e (some (A x)::t) h=some (f x,h):=hx x Nm;have e2:=vf A f r (some (A x)) λy hy=>hx y (Nl _ hy);show((e (some (A x)::t) h).bind λy=>(aY [] (gN 0) ck e (r.map A) (some (A x)::t) y.2).map λz=>(y.1::z.1,z.2))=_;rw[e1];show((aY [] (gN 0) ck e (r.map A) (some (A x)::t) h).map λz=>(f x::z.1,z.2))=_;rw[e2];rfl
abbrev g2:GM:=gT 2 (aC (gN 0) (aC (gN 1) cM))
theorem ve{α:Type}{e:EM}{h:MH}{t:DS}(A B f:α->D):∀(xs:List α)(o o2:Option D),(∀x∈xs,e (some (A x)::some (B x)::t) h=some (f x,h))->aY [] g2 ck e (xs.map λx=>.tup [A x,B x]) (o::o2::t) h=some (xs.map f,h)
 | [],o,o2,_=>rfl
 | x::r,o,o2,hx=>by
  have e1:e (some (A x)::some (B x)::t) h=some (f x,h):=hx x Nm;have e2:=ve A B f r (some (A x)) (some (B x)) λy hy=>hx y (Nl _ hy);show((e (some (A x)::some (B x)::t) h).bind λy=>(aY [] g2 ck e (r.map λx=>.tup [A x,B x]) (some (A x)::some (B x)::t) y.2).map λz=>(y.1::z.1,z.2))=_;rw[e1];show((aY [] g2 ck e (r.map λx=>.tup [A x,B x]) (some (A x)::some (B x)::t) h).map λz=>(f x::z.1,z.2))=_;rw[e2];rfl
end Sm
namespace Mi
open PySem L2 Sm PySem.Spec PyProof.Rows Pg
abbrev Ent:=Str×Option (Str×Int)
noncomputable def EI:Option (Str×Int)->D
 | none=>.tup []
 | some (u,f)=>.tup [.str u,.int f]
noncomputable def Mq:Option (Str×Int)->PyData
 | none=>.tuple []
 | some (u,f)=>.tuple [.str u,.int f]
noncomputable def aX(e:Ent):D:=.tup [.str e.1,EI e.2]
noncomputable def cE(e:Ent):PyData:=.tuple [.str e.1,Mq e.2]
structure lN(ns ps:List Str)(e:Ent):Prop where
 nm:e.1∈ns
 bd:∀u f,e.2=some (u,f)->(u=Str.ofString ""\/u∈ps)/\-99<=f/\f<=99
structure vy(ns ps:List Str):Prop where
 n:∀w∈ns,PyData.strOk w=true
 p:∀w∈ps,PyData.strOk w=true
section
variable {ns ps:List Str} {h:MH}
theorem Ib{b:D}(h:jy ps b=true):∃c,b=EI c/\∀u f,c=some (u,f)->(u=Str.ofString ""\/u∈ps)/\-99<=f/\f<=99:=by
 unfold jy at h;rw[OM] at h;rcases h with h | h
 ·unfold kU at h
  split at h
  ·rename_i xs;have:xs=[]:=by
    cases xs with
    | nil=>rfl
    | cons _ _=>rw[OV] at h;simp at h;lia
   subst this;exact⟨none,rfl,λu f z=>(nomatch z)⟩
  ·cases h
 ·unfold qf at h
  split at h
  ·unfold nz at h
   split at h
   ·rename_i u f;unfold g6 at h;simp only[Nn,OM,Oa,OV] at h;exact⟨some (u,f),rfl,λu f z=>by cases z;exact h⟩
   ·cases h
  ·cases h
theorem Hy{x:D}(hx:fV ns ps x=true):∃e,x=aX e/\lN ns ps e:=by
 unfold fV at hx
 split at hx
 ·unfold Fh at hx
  split at hx
  ·rename_i b w;rw[Nn] at hx;obtain⟨c,rfl,hc⟩:=Ib hx.2;exact⟨(w,c),rfl,NV hx.1,hc⟩
  ·cases hx
 ·cases hx
theorem Ew{e:Ent}(o:lN ns ps e):fV ns ps (aX e)=true:=by
 obtain⟨w,b⟩:=e;show(decide (w∈ns)&&(kU (EI b) 0||qf ps (EI b)))=true;rw[NC o.nm,Pe,OM];cases b with
 | none=>exact .inl rfl
 | some t=>
  obtain⟨u,f⟩:=t;have:=o.bd u f rfl;refine .inr ?_;show((u==Str.ofString ""||decide (u∈ps))&&(decide (-99<=f)&&decide (f<=99)))=true;simp only[Nn,OM,Oa,OV];exact this
theorem sV:∀{xs:List D},xs.all (fV ns ps)=true->∃es:List Ent,xs=es.map aX/\∀e∈es,lN ns ps e
 | [],_=>⟨[],rfl,λ_ z=>(nomatch z)⟩
 | x::r,hx=>by
  rw[N9,Nn] at hx;obtain⟨e,rfl,oe⟩:=Hy hx.1;obtain⟨es,rfl,oes⟩:=sV hx.2;exact⟨e::es,rfl,λy hy=>by
   rcases NA.mp hy with rfl | hy
   ·exact oe
   ·exact oes y hy⟩
theorem jY(e:Ent):iG (aX e)=some (cE e):=by
 obtain⟨w,_ |⟨u,f⟩⟩:=e <;> rfl
theorem hW:∀es:List Ent,gL (es.map aX)=some (es.map cE)
 | []=>rfl
 | e::r=>by rw[Ny,gL,jY,hW r];rfl
theorem ix(wo:vy ns ps){e:Ent}(o:lN ns ps e):aG 8 (cE e)=true:=by
 obtain⟨w,b⟩:=e;have h1:=wo.n w o.nm;cases b with
 | none=>show(PyData.strOk w&&(true&&true))=true;rw[h1];rfl
 | some t=>
  obtain⟨u,f⟩:=t;have h2:PyData.strOk u=true:=by
   rcases(o.bd u f rfl).1 with rfl | hu
   ·exact wC xO
   ·exact wo.p u hu
  show(PyData.strOk w&&((PyData.strOk u&&(true&&true))&&true))=true;rw[h1,h2];rfl
theorem x5(e e':Ent):jw 8 (cE e) (cE e')=true:=by
 obtain⟨w,_ |⟨u,f⟩⟩:=e <;> obtain⟨w',_ |⟨u',f'⟩⟩:=e' <;> rfl
abbrev Ka(e e':Ent):Bool:=fD 8 (cE e) (cE e')
theorem Ek(wo:vy ns ps){e e':Ent}(o:lN ns ps e)(o':lN ns ps e'):El (aX e) (aX e') h=some (.bl (Ka e e'),h):=by
 unfold El;rw[jY,ND,jY,ND,Nj (by rw[ix wo o,ix wo o',x5];rfl)]
theorem uY(wo:vy ns ps){es:List Ent}(o:∀e∈es,lN ns ps e):zO (es.map cE)=true:=by
 refine NS.mpr λx hx=>?_;obtain⟨e,he,rfl⟩:=NM.mp hx;rw[Nn];refine⟨ix wo (o e he),NS.mpr λy hy=>?_⟩;obtain⟨e',_,rfl⟩:=NM.mp hy;rw[x5];rfl
theorem CZ(e:Ent):toD (cE e)=aX e:=by
 obtain⟨w,_ |⟨u,f⟩⟩:=e <;> rfl
noncomputable def kF(es:List Ent):Bool:=(es.zip (es.drop 1)).all λp=>Ka p.1 p.2
theorem vw(e e':Ent)(r:List Ent):kF (e::e'::r)=(Ka e e'&&kF (e'::r)):=rfl
theorem CI(wo:vy ns ps):∀{es:List Ent},(∀e∈es,lN ns ps e)->kF es=true->(es.map cE).Pairwise λa b=>fD 8 a b=true
 | [],_,_=>.nil
 | [_],_,_=>QW _ _
 | e::e'::r,o,h=>by
  rw[vw,Nn] at h;have ih:=CI wo (λy hy=>o y (Nl _ hy)) h.2;have pl:∀y∈e::e'::r,aG 8 (cE y)=true:=λy hy=>ix wo (o y hy);rw[Ny];refine OO.mpr ⟨λy hy=>?_,ih⟩;obtain⟨z,hz,rfl⟩:=NM.mp hy;rcases NA.mp hz with rfl | hz
  ·exact h.1
  ·rw[Ny,OO] at ih;exact ly 8 _ _ _ (pl e Nm) (pl e' (by simp)) (pl z (by simp[hz])) h.1 (ih.1 _ (Py hz))
theorem wg:∀{es:List Ent},((es.map cE).Pairwise λa b=>fD 8 a b=true)->kF es=true
 | [],_=>rfl
 | [_],_=>rfl
 | e::e'::r,h=>by
  rw[Ny,OO] at h;rw[vw,Nn];exact⟨h.1 _ (by simp),wg h.2⟩
theorem CJ{xs:List PyData}(hp:∀x∈xs,aG 8 x=true)(nd:xs.Nodup):du xs=xs:=by
 have:∀(ys acc:List PyData),(∀x∈ys,aG 8 x=true)->(∀x∈acc,aG 8 x=true)->(acc++ys).Nodup->ys.foldl iU acc=acc++ys:=by
  intro ys
  induction ys with
  | nil=>intro acc _ _ _;simp
  | cons y ys ih=>
   intro acc h1 h2 h3;rw[PQ];have e:iU acc y=acc++[y]:=by
    unfold iU;rw[Np];intro z;obtain⟨q,hq,e⟩:=RK.mp z;have:=jZ 8 (h2 q hq) (h1 y Nm) e;subst this;exact(P0.mp h3).2.2 q hq q Nm rfl
   rw[e,ih (acc++[y]) (λx hx=>h1 x (Nl _ hx)) (λx hx=>by
    rcases NY.mp hx with hx | hx
    ·exact h2 x hx
    ·rw[Nw] at hx;subst hx;exact h1 _ Nm) (by rw[OI];exact h3),OI]
   rfl
 have:=this xs [] hp (λ_ z=>(nomatch z)) nd;exact this.trans (RS _)
theorem pD(xs:List PyData)(hp:∀x∈xs,aG 8 x=true):(du xs).Nodup/\∀x∈du xs,x∈xs:=by
 have:∀(ys acc:List PyData),(∀x∈ys,aG 8 x=true)->(∀x∈acc,aG 8 x=true)->acc.Nodup->(ys.foldl iU acc).Nodup/\∀x∈ys.foldl iU acc,x∈acc\/x∈ys:=by
  intro ys
  induction ys with
  | nil=>intro acc _ _ nd;exact⟨nd,λx hx=>.inl hx⟩
  | cons y ys ih=>
   intro acc h1 h2 nd;rw[PQ];have py:=h1 y Nm;have hh:(∀x∈iU acc y,x∈acc\/x=y)/\(iU acc y).Nodup:=by
    unfold iU
    split
    ·exact⟨λx hx=>.inl hx,nd⟩
    ·rename_i c;refine⟨λx hx=>by simpa using hx,P0.mpr ⟨nd,by simp,λa ha b hb z=>?_⟩⟩;rw[Nw] at hb;subst hb;subst z;exact c (RK.mpr ⟨_,ha,eqv_refl 8 py⟩)
   obtain⟨a1,a2⟩:=ih (iU acc y) (λx hx=>h1 x (Nl _ hx)) (λx hx=>by
    rcases hh.1 x hx with hx | rfl
    ·exact h2 x hx
    ·exact py) hh.2
   refine⟨a1,λx hx=>?_⟩;rcases a2 x hx with hx | hx
   ·rcases hh.1 x hx with hx | rfl
    ·exact .inl hx
    ·exact .inr Nm
   ·exact .inr (Nl _ hx)
 obtain⟨a,b⟩:=this xs [] hp (λ_ z=>(nomatch z)) RY;exact⟨a,λx hx=>(b x hx).resolve_left (λz=>(nomatch z))⟩
theorem uJ{xs:List PyData}(hp:∀x∈xs,aG 8 x=true)(h:xs.Pairwise λa b=>fD 8 a b=true):xs.Nodup:=by
 refine Qa (λ{a b} ha _ hab e=>?_) h;subst e;rw[mY 8 a (hp a ha)] at hab;cases hab
theorem vL(wo:vy ns ps){es:List Ent}(o:∀e∈es,lN ns ps e):es.map cE=gX (fD 8) (du (es.map cE))↔kF es=true:=by
 have hp:∀x∈es.map cE,aG 8 x=true:=λx hx=>by
  obtain⟨e,he,rfl⟩:=NM.mp hx;exact ix wo (o e he)
 constructor
 ·intro e;obtain⟨a1,a2⟩:=pD _ hp;have:=fh (mW λx hx=>hp x (a2 x hx)) (λ_ h=>h) a1;rw[<-e] at this;exact wg this
 ·intro h;have pw:=CI wo o h;rw[CJ hp (uJ hp pw)];exact xw (mW hp) (.refl _) pw (uJ hp pw)
end
section
variable {ns ps:List Str} {h:MH}
noncomputable def L9(d e:D):Bool:=match iG d,iG e with
 | some p,some q=>fD 8 p q
 | _,_=>false
noncomputable def tH(xs:List D):Bool:=(xs.zip (xs.drop 1)).all λp=>L9 p.1 p.2
noncomputable def gM(ns ps:List Str):D->Bool
 | .tup xs=>xs.all (fV ns ps)&&tH xs
 | _=>false
theorem nj(es:List Ent):tH (es.map aX)=kF es:=by
 unfold tH kF;rw[<-QM,List.zip_map,Sx];congr 1
 funext p
 show L9 (aX p.1) (aX p.2)=_;unfold L9;rw[jY,jY]
theorem mO:∀(xs ys:List D),jG xs ys=(xs.zip ys).map λp=>.tup [p.1,p.2]
 | [],_=>rfl
 | _::_,[]=>rfl
 | x::xs,y::ys=>by rw[jG,mO xs ys];rfl
theorem Ak{xs:List D}{k:Nat}{h:MH}(hk:k<=xs.length):mM (.tup xs) none (some (k:Int)) h=some (.tup (xs.take k),h):=by
 unfold mM Sm.cutD;dsimp only;rw[HT.nS,HT.r8,RP hk,R3,Sv]
 split
 ·rename_i z;rw[OX (RA z.2.symm)]
 ·rfl
theorem rT{xs:List D}{k:Nat}{h:MH}(hk:k<=xs.length):mM (.tup xs) (some (k:Int)) none h=some (.tup (xs.drop k),h):=by
 unfold mM Sm.cutD;dsimp only;rw[HT.nS,HT.r8,RP hk]
 split
 ·rename_i z;rw[z.1,R3]
 ·rw[OX (by rw[Pk];exact Nh _)]
theorem Al(xs:List D)(h:MH):mM (.tup xs) (some 1) none h=some (.tup (xs.drop 1),h):=by
 cases xs with
 | nil=>rfl
 | cons x r=>exact rT (k:=1) (by simp)
theorem pC(wo:vy ns ps):∀{d:D},vC d=true->fI [d,.tup (ns.map D.str),.tup (ps.map D.str)] h=some (.bl (gM ns ps d),h)
 | .bx,_=>rfl
 | .bl _,_=>rfl
 | .int _,_=>rfl
 | .str _,_=>rfl
 | .lv _,_=>rfl
 | .dv _,_=>rfl
 | .tup xs,t=>by
  obtain⟨hl,tx⟩:=bp t;refine eN (bF ?_);nofun;refine rv (bC t) ⟨_,rfl,λz=>(nomatch z),λ_=>?_⟩;nofun;refine rv (a:=(xs,[],h)) rfl ?_;refine rv (m8 (λx=>.bl (fV ns ps x)) xs none λx hx=>uS (tx x hx)) ⟨by rw[Nc,show sizeLine=16777216 from rfl];lia,?_⟩;nofun;refine rv (kl (fV ns ps) xs h) ⟨_,rfl,λz=>?_,λz=>?_⟩
  ·nofun;show _=(D.bl (xs.all (fV ns ps)&&tH xs),h);rw[(P2 _).mp z];rfl
  ·have z:xs.all (fV ns ps)=true:=by simpa using z
   obtain⟨es,rfl,oe⟩:=sV z;nofun;refine wb ?_;nofun;refine⟨1,rfl,?_⟩;nofun;refine rv (a:=(D.tup ((es.map aX).drop 1),h)) (Al _ h) ?_;nofun;refine⟨_,_,_,_,_,_,rfl,rfl,rfl,?_⟩;rw[mO,<-QM,List.zip_map,O3];refine rv (ve (λp:Ent×Ent=>aX p.1) (λp=>aX p.2) (λp=>.bl (Ka p.1 p.2)) (es.zip (es.drop 1)) none none λp hp=>?_) ⟨by rw[Nc,List.length_zip,show sizeLine=16777216 from rfl];rw[Nc] at hl;lia,?_⟩
   ·have h1:=oe p.1 (Pp (a:=p.1) (b:=p.2) hp).1;have h2:=oe p.2 (Rk (Pp (a:=p.1) (b:=p.2) hp).2);exact Ek wo h1 h2
   ·nofun;refine rv (kl (λp:Ent×Ent=>Ka p.1 p.2) (es.zip (es.drop 1)) h) ?_;nofun;show _=(D.bl ((es.map aX).all (fV ns ps)&&tH (es.map aX)),h);rw[z,nj,Pe];rfl
end
section
variable {P:Prog} {h:MH}
noncomputable def eB(P:Prog)(a b:D):Bool:=match a,b with
 | .tup rs,.tup ts=>((rs.length:Int)==P.names.length&&(ts.length:Int)==P.av.length)&&(rs.all dM&&(ts.zip P.av).all λp=>gM P.names p.2.2.1 p.1)
 | _,_=>false
noncomputable def gj(P:Prog):D->Bool
 | .tup [a,b]=>eB P a b
 | _=>false
theorem z6{a:D}{n:Int}(z:kU a n=true):∃rs,a=.tup rs/\((rs.length:Int)==n)=true:=by
 cases a with
 | tup rs=>exact⟨rs,rfl,z⟩
 | _=>cases z
theorem uA{a b:D}(z:kU a P.names.length=false):eB P a b=false:=by
 cases a with
 | tup rs=>cases b with
  | tup ts=>
   have z:((rs.length:Int)==P.names.length)=false:=z;show(((_==_)&&_)&&_)=false;rw[z];rfl
  | _=>rfl
 | _=>rfl
theorem uz{a b:D}(z:kU b P.av.length=false):eB P a b=false:=by
 cases a with
 | tup rs=>cases b with
  | tup ts=>
   have z:((ts.length:Int)==P.av.length)=false:=z;show((_&&(_==_))&&_)=false;rw[z,Pl];rfl
  | _=>rfl
 | _=>rfl
theorem vd{e:EM}{h:MH}{t:DS}(f:D×iW->D):∀(xs:List (D×iW)) (o o1 o2 o3:Option D),(∀p∈xs,e (some p.1::some (.str p.2.1)::some (.tup (p.2.2.1.map D.str))::some (.tup (bS p.2.2.2))::t) h=some (f p,h))->
  aY [] (gT 2 (aC (gN 0) (aC (gT 3 (aC (gN 1) (aC (gN 2) (aC (gN 3) cM)))) cM))) ck e (xs.map λp=>.tup [p.1,cH p.2]) (o::o1::o2::o3::t) h=some (xs.map f,h)
 | [],_,_,_,_,_=>rfl
 | x::r,o,o1,o2,o3,hx=>by
  have e1:=hx x Nm;have e2:=vd f r (some x.1) (some (.str x.2.1)) (some (.tup (x.2.2.1.map D.str))) (some (.tup (bS x.2.2.2))) λy hy=>hx y (Nl _ hy);show((e (some x.1::some (.str x.2.1)::some (.tup (x.2.2.1.map D.str))::some (.tup (bS x.2.2.2))::t) h).bind λy=>(aY [] (gT 2 (aC (gN 0) (aC (gT 3 (aC (gN 1) (aC (gN 2) (aC (gN 3) cM)))) cM))) ck e (r.map λp=>.tup [p.1,cH p.2]) (some x.1::some (.str x.2.1)::some (.tup (x.2.2.1.map D.str))::some (.tup (bS x.2.2.2))::t) y.2).map λz=>(y.1::z.1,z.2))=_;rw[e1];dsimp only[Option.bind_some];rw[e2];rfl
theorem il(hw:∀d∈P.av,vy P.names d.2.1):∀{d:D},vC d=true->eZ [cu P,d] h=some (.bl (gj P d),h)
 | .bx,_=>rfl
 | .bl _,_=>rfl
 | .int _,_=>rfl
 | .str _,_=>rfl
 | .lv _,_=>rfl
 | .dv _,_=>rfl
 | .tup [],_=>rfl
 | .tup [_],_=>rfl
 | .tup (a::b::c::r),t=>by
  refine eN (bF ?_);unfold cu;nofun;refine rv (aP t) ⟨_,rfl,λ_=>tt ?_,λz=>?_⟩
  ·nofun;rfl
  ·have:kU (.tup (a::b::c::r)) 2=false:=wG a b c r 2 (Nh _);rw[this] at z;cases z
 | .tup [a,b],t=>by
  have ta:=(bp t).2 a (by simp);have tb:=(bp t).2 b (by simp);refine eN (bF ?_);unfold cu;nofun;refine rv (aP t) ⟨_,rfl,λz=>(nomatch z),λ_=>?_⟩;nofun;have fin:∀{c:Bool},eB P a b=c->(D.bl c,h)=(D.bl (gj P (.tup [a,b])),h):=λ{c} e=>by
   show _=(D.bl (eB P a b),h);rw[e]
  rw[Nc];refine rv (aP ta) ⟨_,rfl,λz=>tt ?_,λza=>?_⟩
  ·nofun;exact fin (uA (by simpa using z))
  ·nofun;rw[Nc];refine rv (aP tb) ⟨_,rfl,λz=>?_,λzb=>?_⟩
   ·nofun;exact fin (uz (by simpa using z))
   ·nofun;obtain⟨rs,rfl,ya⟩:=z6 (by simpa using za);obtain⟨ts,rfl,yb⟩:=z6 (by simpa using zb);obtain⟨l1,t1⟩:=bp ta;obtain⟨l2,t2⟩:=bp tb;refine rv (a:=(rs,[],h)) rfl ?_;refine rv (m8 (λx=>.bl (dM x)) rs none λx hx=>wK (t1 x hx)) ⟨by rw[Nc,show sizeLine=16777216 from rfl];lia,?_⟩;nofun;refine rv (kl dM rs h) ⟨_,rfl,λz=>?_,λz=>?_⟩
    ·nofun;refine fin ?_;show((_&&_)&&(rs.all dM&&_))=false;rw[(P2 _).mp z,R6,Pl]
    ·nofun;refine wb ?_;nofun;refine⟨_,_,_,_,_,_,rfl,rfl,rfl,?_⟩;rw[mO,show ts.zip (P.av.map cH)=(ts.zip P.av).map (λp=>(p.1,cH p.2)) by rw[List.zip_map_right];rfl,O3];refine rv (vd (λp=>.bl (gM P.names p.2.2.1 p.1)) (ts.zip P.av) none none none none λp hp=>?_) ⟨by rw[Nc,List.length_zip,show sizeLine=16777216 from rfl];lia,?_⟩
     ·exact pC (hw p.2 (Pp (a:=p.1) (b:=p.2) hp).2) (t2 p.1 (Pp (a:=p.1) (b:=p.2) hp).1)
     ·nofun;refine rv (kl (λp:D×iW=>gM P.names p.2.2.1 p.1) (ts.zip P.av) h) ?_;nofun;refine fin ?_;show((((rs.length:Int)==P.names.length)&&((ts.length:Int)==P.av.length))&&(rs.all dM&&_))=_;rw[ya,yb,show rs.all dM=true by simpa using z];rfl
end
mutual
theorem b8{m n:Nat}(hmn:m<=n):∀d:D,iO m d=true->iO n d=true
 | .bx,_=>rfl
 | .bl _,_=>rfl
 | .int _,_=>rfl
 | .str _,_=>rfl
 | .tup xs,t=>by
  rw[iO,Nn] at t ⊢;exact⟨NC (Nr (NV t.1) hmn),vJ hmn xs t.2⟩
 | .lv xs,t=>by
  rw[iO,Nn] at t ⊢;exact⟨NC (Nr (NV t.1) hmn),vJ hmn xs t.2⟩
 | .dv _,t=>t
 | .ty _,t=>(nomatch t)
 | .ro _,t=>(nomatch t)
 | .ob _,t=>(nomatch t)
theorem vJ{m n:Nat}(hmn:m<=n):∀xs:List D,CN m xs=true->CN n xs=true
 | [],_=>rfl
 | x::r,t=>by
  rw[CN,Nn] at t ⊢;exact⟨b8 hmn x t.1,vJ hmn r t.2⟩
end
section
variable {P:Prog} {h:MH}
noncomputable def lZ:SM:=aj (c7 (jD (cm (bT (ai dg (a2 v2 (eK (.ty "tuple")))))) (jD (ax (ah dY (ai bW (a1 v2)) (ki 2))) (cm (bT (ai a9 (a3 (ah aH v2 (ki 0)) (ki 0) (ki 9))))))) (aI (eK (.bl false))) aW)
  (c7 (jD (cm (bT (ai a9 (a3 (ah aH v2 (ki 1)) (tQ gW (ki 1)) (ki 1))))) (ax (ah cV (ah aH v2 (ki 1)) (ki 0)))) (aI (eK (.bl false))) aW)
theorem Dx{p q:D}(z:Bn 0 9 p=false):vZ p q=false:=by
 cases p with
 | int i=>cases q with
  | int j=>
   have z:(decide (0<=i)&&decide (i<=9))=false:=z;show((_&&_)&&_)=false;rw[z];rfl
  | _=>rfl
 | _=>rfl
theorem Dw{p q:D}(z:Bn (-1) 1 q=false):vZ p q=false:=by
 cases p with
 | int i=>cases q with
  | int j=>
   have y:(decide (-1<=j)&&decide (j<=1))=false:=z;have:(j==1||j==-1)=false:=by
    simp only[Bool.or_eq_false_iff,Px];constructor
    ·intro e;subst e;exact absurd y (by decide)
    ·intro e;subst e;exact absurd y (by decide)
   show(_&&(j==1||j==-1))=false;rw[this,Pl]
  | _=>rfl
 | _=>rfl
theorem yO{a b c d:Option D}{y:D}(t:vC y=true){Q:SQ}(k1:dM y=true->Q (.nx,[a,b,some y,c,d],h))(k2:dM y=false->Q (.rt (.bl false),[a,b,some y,c,d],h)):Rn (lZ [a,b,some y,c,d] h) Q:=by
 have no:∀z,dM z=false->y=z->BG y=false->Rn (lZ [a,b,some y,c,d] h) Q:=λz hz e hy=>by
  subst e;unfold lZ;nofun;refine rv (bC t) ⟨_,rfl,λ_=>tt ?_,λz=>(nomatch (congrArg (! ·) hy).symm.trans z)⟩;nofun;exact k2 hz
 match y,t,k1,k2,no with
 | .bx,t,k1,k2,no=>exact no _ rfl rfl rfl
 | .bl _,t,k1,k2,no=>exact no _ rfl rfl rfl
 | .int _,t,k1,k2,no=>exact no _ rfl rfl rfl
 | .str _,t,k1,k2,no=>exact no _ rfl rfl rfl
 | .lv _,t,k1,k2,no=>exact no _ rfl rfl rfl
 | .dv _,t,k1,k2,no=>exact no _ rfl rfl rfl
 | .tup [],t,k1,k2,no=>
  unfold lZ;nofun;refine rv (bC t) ⟨_,rfl,λz=>(nomatch z),λ_=>?_⟩;nofun;refine⟨true,rfl,λ_=>tt ?_,λz=>(nomatch z)⟩;nofun;exact k2 rfl
 | .tup [_],t,k1,k2,no=>
  unfold lZ;nofun;refine rv (bC t) ⟨_,rfl,λz=>(nomatch z),λ_=>?_⟩;nofun;refine⟨true,rfl,λ_=>tt ?_,λz=>(nomatch z)⟩;nofun;exact k2 rfl
 | .tup (p::q::s::r),t,k1,k2,no=>
  unfold lZ;nofun;refine rv (bC t) ⟨_,rfl,λz=>(nomatch z),λ_=>?_⟩;nofun;refine⟨_,rfl,λ_=>tt ?_,λz=>?_⟩
  ·nofun;exact k2 rfl
  ·have z:((((p::q::s::r).length:Int)==((2:Nat):Int)))=true:=by simpa using z
   rw[wG p q s r 2 (Nh _)] at z;cases z
 | .tup [p,q],t,k1,k2,no=>
  have tp:=(bp t).2 p (by simp);have tq:=(bp t).2 q (by simp);unfold lZ;nofun;refine rv (bC t) ⟨_,rfl,λz=>(nomatch z),λ_=>?_⟩;nofun;refine⟨false,rfl,λz=>(nomatch z),λ_=>?_⟩;nofun;refine rv (fE tp) ⟨_,rfl,λz=>?_,λz=>?_⟩
  ·nofun;exact k2 (Dx (by simpa using z))
  ·nofun;refine rv (fE tq) ⟨_,rfl,λy=>tt ?_,λy=>?_⟩
   ·nofun;exact k2 (Dw (by simpa using y))
   ·nofun;have hq:∃j,q=.int j:=by cases q <;> first | exact⟨_,rfl⟩ |(cases y;done)
    have hp:∃i,p=.int i:=by cases p <;> first | exact⟨_,rfl⟩ |(cases z;done)
    obtain⟨j,rfl⟩:=hq;obtain⟨i,rfl⟩:=hp;have z:(decide (0<=i)&&decide (i<=9))=true:=by simpa [Bn] using z
    have y:(decide (-1<=j)&&decide (j<=1))=true:=by simpa [Bn] using y
    have y':-1<=j/\j<=1:=by simpa using y
    nofun;refine⟨_,rfl,λw=>?_,λw=>?_⟩
    ·nofun;refine k2 ?_;have w:j=0:=by simpa using w
     subst w;show(_&&false)=false;rw[Pl]
    ·nofun;refine k1 ?_;have w:j≠0:=by simpa using w
     show((decide (0<=i)&&decide (i<=9))&&(j==1||j==-1))=true;rw[z,Pe];have:j=1\/j=-1:=by lia
     rcases this with rfl | rfl <;> rfl
end
section
variable {P:Prog} {ns ps:List Str} {h:MH}
theorem oV{xs ys:List PyData}(hx:∀x∈xs,aG 8 x=true)(hy:∀x∈ys,aG 8 x=true):PyData.eqv (.list xs) (.list ys)=true↔xs=ys:=by
 have px:aG 9 (.tuple xs)=true:=NS.mpr hx;have py:aG 9 (.tuple ys)=true:=NS.mpr hy;have e:PyData.eqv (.list xs) (.list ys)=PyData.eqv (.tuple xs) (.tuple ys):=by rw[PyData.eqv,PyData.eqv]
 rw[e];constructor
 ·intro q;have:=jZ 9 px py q;injection this
 ·intro c;subst c;exact eqv_refl 9 px
theorem AN:∀{ks:List PyData},(∀x∈ks,aG 8 x=true)->gL (ks.map toD)=some ks
 | [],_=>rfl
 | k::r,hk=>by rw[Ny,gL,we 8 (hk k Nm),AN λx hx=>hk x (Nl _ hx)];rfl
theorem ju{xs:List PyData}(hx:∀x∈xs,aG 8 x=true):(PyData.list xs).depth<=64:=by
 have px:aG 9 (.tuple xs)=true:=NS.mpr hx;have:=(bU 9 px).2;simp only[PyData.depth] at this ⊢
 lia
theorem yV(wo:vy ns ps){es:List Ent}(o:∀e∈es,lN ns ps e):dY (.lv (es.map aX)) (.lv ((gX (fD 8) (du (es.map cE))).map toD)) h=some (.bl (!kF es),h):=by
 have hp:∀x∈es.map cE,aG 8 x=true:=λx hx=>by
  obtain⟨e,he,rfl⟩:=NM.mp hx;exact ix wo (o e he)
 have hq:∀x∈gX (fD 8) (du (es.map cE)),aG 8 x=true:=λx hx=>hp x ((pD _ hp).2 x ((cz _).mem_iff.mp hx));have e1:iG (.lv (es.map aX))=some (.list (es.map cE)):=by
  show(gL (es.map aX)).map PyData.list=_;rw[hW];rfl
 have e2:iG (.lv ((gX (fD 8) (du (es.map cE))).map toD))=some (.list (gX (fD 8) (du (es.map cE)))):=by
  show(gL _).map PyData.list=_;rw[AN hq];rfl
 have e3:B3 (.lv (es.map aX)) (.lv ((gX (fD 8) (du (es.map cE))).map toD)) h=some (kF es):=by
  show((iG (.lv (es.map aX))).bind λa=>(iG (.lv ((gX (fD 8) (du (es.map cE))).map toD))).bind λb=>if a.depth<=64/\b.depth<=64 then some (PyData.eqv a b) else none)=_;rw[e1,ND,e2,ND,Nj ⟨ju hp,ju hq⟩];congr 1;have i1:=oV hp hq;have i2:=vL wo o;cases q:kF es with
  | true=>exact i1.mpr (i2.mpr q)
  | false=>exact Qr.mpr λz=>by rw[i2.mp (i1.mp z)] at q;cases q
 unfold dY;rw[e3];rfl
noncomputable def yc:SM:=aj (c7 (jD (cm (bT (ai dg (a2 v4 (eK (.ty "tuple")))))) (cm (bT (ai uX (a1 (dP (cw [none,some 3,some 0] (gY v4) (gN 0) ck (ai cS (a3 v2 (ah aH v1 (ki 1)) v0))))))))) (aI (eK (.bl false))) aW)
  (c7 (ax (ah dY (dP (kG (a1 v4))) (fW v4))) (aI (eK (.bl false))) aW)
theorem yF(wo:vy ns ps){es:List Ent}(o:∀e∈es,lN ns ps e)(h64:es.length < 64){δ:DS}{m:EM}(hm:m δ h=some (.tup (es.map aX),h)):fW m δ h=some (.lv ((gX (fD 8) (du (es.map cE))).map toD),h):=by
 unfold fW;rw[hm,ND];show(gL (es.map aX)).bind _=_;rw[hW,ND];unfold fK;rw[Nj (uY wo o),Nj (by rw[Nc];exact h64)];rfl
theorem zw{dd:iW}{b c:Option D}{y:D}(wo:vy P.names dd.2.1)(hp:dd.2.1.length<=100)(t:iO 60 y=true){Q:SQ}(k1:gM P.names dd.2.1 y=true->Q (.nx,[some (cu P),b,c,some (cH dd),some y],h))(k2:gM P.names dd.2.1 y=false->Q (.rt (.bl false),[some (cu P),b,c,some (cH dd),some y],h)):
  Rn (yc [some (cu P),b,c,some (cH dd),some y] h) Q:=by
 have t':vC y=true:=b8 (by decide) y t;cases y with
 | tup xs=>
  obtain⟨hl,tx⟩:=bp t;unfold yc;nofun;refine rv (bC t') ⟨_,rfl,λz=>(nomatch z),λ_=>?_⟩;nofun;refine rv (a:=(xs,[],h)) rfl ?_;refine rv (m8 (λx=>.bl (fV P.names dd.2.1 x)) xs none λx hx=>?_) ⟨by rw[Nc,show sizeLine=16777216 from rfl];lia,?_⟩
  ·exact sM hp (b8 (by decide) x (tx x hx))
  ·nofun;refine rv (kl (fV P.names dd.2.1) xs h) ⟨_,rfl,λz=>?_,λz=>?_⟩
   ·nofun;refine k2 ?_;show(xs.all (fV P.names dd.2.1)&&tH xs)=false;rw[(P2 _).mp z];rfl
   ·have z:xs.all (fV P.names dd.2.1)=true:=by simpa using z
    obtain⟨es,rfl,oe⟩:=sV z;nofun;refine rv (a:=(es.map aX,h)) rfl ?_;refine rv (yF wo oe (by rw[Nc] at hl;lia) rfl) ?_;refine rv (yV wo oe) ⟨_,rfl,λw=>?_,λw=>?_⟩
    ·nofun;refine k2 ?_;show((es.map aX).all (fV P.names dd.2.1)&&tH (es.map aX))=false;rw[nj,(P2 _).mp w,Pl]
    ·nofun;refine k1 ?_;show((es.map aX).all (fV P.names dd.2.1)&&tH (es.map aX))=true;rw[nj,z,show kF es=true by simpa using w];rfl
 | _=>
  unfold yc;nofun;refine rv (bC t') ⟨_,rfl,λ_=>tt ?_,λz=>(nomatch z)⟩;nofun;exact k2 rfl
end
section
variable {P:Prog} {h:MH}
theorem take_all{α:Type}{p:α->Bool}{xs:List α}{i:Nat}{x:α}(hx:xs[i]?=some x)(a:(xs.take i).all p=true)(b:p x=true):(xs.take (i+1)).all p=true:=by
 rw[RC,hx,List.all_append,a];simp[b]
theorem jF{α β:Type}(f:α->β->Bool):∀(xs:List α)(ys:List β),(xs.zip ys).all (λp=>f p.1 p.2)=(ys.zip xs).all λp=>f p.2 p.1
 | [],[]=>rfl
 | [],_::_=>rfl
 | _::_,[]=>rfl
 | x::xs,y::ys=>by rw[Ou,Ou,N9,N9,jF f xs ys]
theorem sL(hw:∀d∈P.av,vy P.names d.2.1/\d.2.1.length<=100):∀{d:D},iO 60 d=true->ej [cu P,d] h=some (.bl (gj P d),h)
 | .bx,_=>rfl
 | .bl _,_=>rfl
 | .int _,_=>rfl
 | .str _,_=>rfl
 | .lv _,_=>rfl
 | .dv _,_=>rfl
 | .tup [],_=>rfl
 | .tup [_],_=>rfl
 | .tup (a::b::c::r),t=>by
  refine eN (bF ?_);unfold cu;nofun;refine rv (bC (b8 (by decide) _ t)) ⟨_,rfl,λz=>(nomatch z),λ_=>?_⟩;nofun;refine⟨_,rfl,λ_=>?_,λz=>?_⟩
  ·nofun;rfl
  ·have z:((((a::b::c::r).length:Int)==((2:Nat):Int)))=true:=by simpa using z
   rw[wG a b c r 2 (Nh _)] at z;cases z
 | .tup [a,b],t=>by
  have ta:=(bp t).2 a (by simp);have tb:=(bp t).2 b (by simp);have fin:∀{c:Bool},eB P a b=c->(D.bl c,h)=(D.bl (gj P (.tup [a,b])),h):=λ{c} e=>by
   show _=(D.bl (eB P a b),h);rw[e]
  refine eN (bF ?_);unfold cu;nofun;refine rv (bC (b8 (by decide) _ t)) ⟨_,rfl,λz=>(nomatch z),λ_=>?_⟩;nofun;refine⟨false,rfl,λz=>(nomatch z),λ_=>?_⟩;nofun;refine rv (bC (b8 (by decide) _ ta)) ⟨_,rfl,λz=>tt ?_,λza=>?_⟩
  ·nofun;refine fin ?_;unfold eB
   split
   ·cases z
   ·rfl
  nofun;refine rv (bC (b8 (by decide) _ tb)) ⟨_,rfl,λz=>?_,λzb=>?_⟩
  ·nofun;refine fin ?_;unfold eB
   split
   ·cases z
   ·rfl
  nofun;obtain⟨rs,rfl⟩:∃rs,a=.tup rs:=by cases a <;> first | exact⟨_,rfl⟩ | cases za
  obtain⟨ts,rfl⟩:∃ts,b=.tup ts:=by cases b <;> first | exact⟨_,rfl⟩ | cases zb
  obtain⟨l1,t1⟩:=bp ta;obtain⟨l2,t2⟩:=bp tb;nofun;rw[Nc];refine⟨_,rfl,λz=>tt ?_,λya=>?_⟩
  ·nofun;exact fin (uA (show((rs.length:Int)==P.names.length)=false by simpa using z))
  nofun;rw[Nc];refine⟨_,rfl,λz=>?_,λyb=>?_⟩
  ·nofun;exact fin (uz (show((ts.length:Int)==P.av.length)=false by simpa using z))
  have ya:((rs.length:Int)==P.names.length)=true:=by simpa using ya
  have yb:((ts.length:Int)==P.av.length)=true:=by simpa using yb
  nofun;refine dQ ?_;nofun;refine⟨_,_,rfl,?_⟩;refine dA (λi δ h'=>h'=h/\(∃u,δ=[some (cu P),some (.tup [.tup rs,.tup ts]),u,none,none])/\(rs.take i).all dM=true) ⟨rfl,⟨_,rfl⟩,rfl⟩ (λ_ _ _ _ _=>rfl) ?_ ?_
  ·rintro i x δ h' hx ⟨rfl,⟨u,rfl⟩,al⟩;refine ur ?_;show Rn (lZ [some (cu P),some (.tup [.tup rs,.tup ts]),some x,none,none] _) _;refine yO (t1 x (Ni hx) |> b8 (by decide) x) (λk=>?_) λk=>?_
   ·exact⟨rfl,⟨_,rfl⟩,take_all hx al k⟩
   ·refine fin ?_;show((_&&_)&&(rs.all dM&&_))=false;have:rs.all dM=false:=Qr.mpr λw=>by
     rw[NS.mp w x (Ni hx)] at k;cases k
    rw[this,R6,Pl]
  ·rintro δ h' ⟨rfl,⟨u,rfl⟩,al⟩;rw[O1] at al;nofun;refine wb ?_;nofun;refine rv (a:=(D.tup (P.av.map cH),h')) rfl ?_;nofun;refine⟨_,_,_,_,_,_,rfl,rfl,rfl,?_⟩;rw[mO,show(P.av.map cH).zip ts=(P.av.zip ts).map (λp=>(cH p.1,p.2)) by rw[List.zip_map_left];rfl,O3];have sw:(ts.zip P.av).all (λp=>gM P.names p.2.2.1 p.1)=(P.av.zip ts).all λp=>gM P.names p.1.2.1 p.2:=jF (λ(x:D)(d:iW)=>gM P.names d.2.1 x) ts P.av;have fin2:∀{c:Bool},(P.av.zip ts).all (λp=>gM P.names p.1.2.1 p.2)=c->(D.bl c,h')=(D.bl (gj P (.tup [.tup rs,.tup ts])),h'):=λ{c} e=>by
    refine fin ?_;show((((rs.length:Int)==P.names.length)&&((ts.length:Int)==P.av.length))&&(rs.all dM&&_))=c;rw[ya,yb,al,sw,e];rfl
   refine dA (λi δ h=>h=h'/\(∃u3 u4,δ=[some (cu P),some (.tup [.tup rs,.tup ts]),u,u3,u4])/\((P.av.zip ts).take i).all (λp=>gM P.names p.1.2.1 p.2)=true) ⟨rfl,⟨_,_,rfl⟩,rfl⟩ (λ_ _ _ _ _=>rfl) ?_ ?_
   ·rintro i x δ h hx ⟨rfl,⟨u3,u4,rfl⟩,al2⟩;rw[Nz] at hx;obtain⟨p,hp,rfl⟩:=N5.mp hx;have hm:=Ni hp;obtain⟨m1,m2⟩:=Pp (a:=p.1) (b:=p.2) hm;obtain⟨w1,w2⟩:=hw p.1 m1;refine Gk rfl (eP (ur (eP (ur (mT ?_)))));show Rn (yc [some (cu P),some (.tup [.tup rs,.tup ts]),u,some (cH p.1),some p.2] _) _;refine zw w1 w2 (t2 p.2 m2) (λk=>?_) λk=>?_
    ·exact⟨rfl,⟨_,_,rfl⟩,take_all hp al2 k⟩
    ·refine fin2 (Qr.mpr λw=>?_);rw[NS.mp w p hm] at k;cases k
   ·rintro δ h ⟨rfl,⟨u3,u4,rfl⟩,al2⟩;rw[Nc,O1] at al2;nofun;exact fin2 al2
end
structure Pf(P:Prog):Prop where
 n0:0 < P.names.length
 n6:P.names.length<=6
 d0:0 < P.av.length
 d6:P.av.length<=6
 dd:∀d∈P.av,vy P.names d.2.1/\d.2.1.length<=3
noncomputable def mr(es:List Ent):D:=.tup (es.map aX)
noncomputable def cn(tss:List (List Ent)):D:=.tup (tss.map mr)
structure tK(P:Prog)(k:Nat)(tss:List (List Ent)):Prop where
 len:tss.length=P.av.length
 at_:∀(j:Nat)(es:List Ent)(d:iW),tss[j]?=some es->P.av[j]?=some d->(∀e∈es,lN P.names d.2.1 e)/\kF es=true/\es.length<=k
section
variable {P:Prog} {ns ps:List Str} {h:MH}
theorem HK(n:Nat)(e:Ent):gO n (aX e)=true:=by
 obtain⟨w,_ |⟨u,f⟩⟩:=e <;> rfl
theorem EB(n:Nat)(es:List Ent):gO n (mr es)=true:=eT n aX (HK n) es
theorem Ck(n:Nat)(tss:List (List Ent)):gO n (cn tss)=true:=eT n mr (EB n) tss
theorem oH{es:List Ent}:∀{ks:List PyData},(∀k∈ks,k∈es.map cE)->∃es':List Ent,ks=es'.map cE/\∀e∈es',e∈es
 | [],_=>⟨[],rfl,λ_ z=>(nomatch z)⟩
 | k::r,hk=>by
  obtain⟨e,he,rfl⟩:=NM.mp (hk k Nm);obtain⟨es',rfl,h2⟩:=oH (ks:=r) λx hx=>hk x (Nl _ hx);exact⟨e::es',rfl,λy hy=>by
   rcases NA.mp hy with rfl | hy
   ·exact he
   ·exact h2 y hy⟩
theorem zI(xs:List PyData):(du xs).length<=xs.length:=by
 have:∀(ys acc:List PyData),(ys.foldl iU acc).length<=acc.length+ys.length:=by
  intro ys
  induction ys with
  | nil=>intro acc;exact Nh _
  | cons y ys ih=>
   intro acc;rw[PQ,NQ];have h1:=ih (iU acc y);have h2:(iU acc y).length<=acc.length+1:=by unfold iU;split <;> simp
   lia
 have:=this xs []
 simpa [du] using this
theorem Af(wo:vy ns ps){es:List Ent}(o:∀e∈es,lN ns ps e):∃es':List Ent,(gX (fD 8) (du (es.map cE))).map toD=es'.map aX/\(∀e∈es',lN ns ps e)/\kF es'=true/\es'.length<=es.length:=by
 have hp:∀x∈es.map cE,aG 8 x=true:=λx hx=>by
  obtain⟨e,he,rfl⟩:=NM.mp hx;exact ix wo (o e he)
 obtain⟨a1,a2⟩:=pD _ hp;obtain⟨es',e1,e2⟩:=oH (es:=es) (ks:=gX (fD 8) (du (es.map cE))) λx hx=>a2 x ((cz _).mem_iff.mp hx);have pw:=fh (lt:=fD 8) (mW λx hx=>hp x (a2 x hx)) (λ_ h=>h) a1;rw[e1] at pw;refine⟨es',?_,λe he=>o e (e2 e he),wg pw,?_⟩
 ·rw[e1,O3];exact Rm λe _=>CZ e
 ·have h1:=congrArg List.length e1;rw[(cz _).length_eq,Nc] at h1;have h2:=zI (es.map cE);rw[Nc] at h2
  lia
theorem M4{n:Nat}{es:List Ent}(e:h[n]?=some (.lst (es.map aX))):vY h (.ob n)=some (.list (es.map cE)):=by
 unfold vY;dsimp only;rw[e];dsimp only;rw[hW];rfl
theorem ne_nil(wo:vy ns ps){n:Nat}{es:List Ent}(o:∀e∈es,lN ns ps e)(e:h[n]?=some (.lst (es.map aX))):dY (.ob n) (.lv []) h=some (.bl (!es.isEmpty),h):=by
 have hp:∀x∈es.map cE,aG 8 x=true:=λx hx=>by
  obtain⟨e,he,rfl⟩:=NM.mp hx;exact ix wo (o e he)
 have d0:cZ (.ob n) h=none:=by unfold cZ;dsimp only;rw[e]
 have:B3 (.ob n) (.lv []) h=some es.isEmpty:=by
  unfold B3;rw[d0];show((vY h (.ob n)).bind λa=>(some (PyData.list [])).bind λb=>if a.depth<=64/\b.depth<=64 then some (PyData.eqv a b) else none)=_;rw[M4 e,ND,ND,Nj ⟨ju hp,by decide⟩];have:=oV (xs:=es.map cE) (ys:=[]) hp (λ_ z=>(nomatch z));cases es with
  | nil=>rfl
  | cons x r=>rfl
 unfold dY;rw[this];rfl
theorem DJ{n:Nat}{xs:List D}{i:Int}{x:D}(e:h[n]?=some (.lst xs))(h0:0<=i)(h1:i < 1000000)(hx:xs[i.toNat]?=some x):uH (.ob n) [.int i] h=some (x,h.set n (.lst (xs.eraseIdx i.toNat))):=by
 unfold uH;dsimp only;rw[e];dsimp only;rw[Nj ⟨h0,h1⟩,hx];rfl
theorem vM(wo:vy ns ps){es:List Ent}(o:∀e∈es,lN ns ps e)(h64:es.length < 64){n:Nat}(e:h[n]?=some (.lst (es.map aX))){δ:DS}{m:EM}(hm:m δ h=some (.ob n,h)):eF m δ h=some (.lv ((gX (fD 8) (du (es.map cE))).map toD),h):=by
 unfold eF;rw[hm,ND];have:dX (.ob n) h=some (es.map aX):=by unfold dX;dsimp only;rw[e]
 rw[this,ND,hW,ND];unfold fK;rw[Nj (uY wo o),Nj (by rw[Nc];exact h64)];rfl
end
section
variable {P:Prog} {h h0:MH} {s c R:Nat} {cs:List Int}
theorem oR{xs:List D}{i:Nat}{d:D}{h:MH}(e:xs[i]?=some d):aH (.tup xs) (.int (i:Int)) h=some (d,h):=by
 have q:gR xs (i:Int)=some d:=ng e;simp only[aH,cZ,cL,ND,q,N8]
theorem qU{α β:Type}(f:α->β):∀(xs:List α)(i:Nat),(xs.map f).eraseIdx i=(xs.eraseIdx i).map f
 | [],_=>rfl
 | _::_,0=>rfl
 | x::xs,i+1=>by rw[Ny,List.eraseIdx_cons_succ,qU f xs i];rfl
theorem Bl{ns ps:List Str}{w:Str}{u:Str}{f x:Int}(o:lN ns ps (w,some (u,f))):lN ns ps (w,some (u,max (-99) (min 99 (f+x)))):=
 ⟨o.nm,λu' f' z=>by
  cases z;have:=o.bd u f rfl;exact⟨this.1,by lia,by lia⟩⟩
noncomputable def kB:SM:=aj (c7 (ax (ah Em v8 (ki 3))) (jS (eM fU dG v5 (a1 v7))) aW)
  (aI (ah az (ah az (fX v2 qB (qC v3)) (ai aL (a1 (ai cv (a1 (eF v5)))))) (fX v2 (qC (ah az v3 (ki 1))) qB)))
theorem Bj{tss:List (List Ent)}{k j:Nat}{es':List Ent}{d:iW}(ok:tK P k tss)(hj:j < tss.length)(hd:P.av[j]?=some d)(oe:∀e∈es',lN P.names d.2.1 e)(ae:kF es'=true)(le:es'.length<=k+1):tK P (k+1) (tss.take j++[es']++tss.drop (j+1)):=by
 refine⟨by simp;have:=ok.len;lia,λi es2 d2 h1 h2=>?_⟩;rcases Qo i j with q | q | q
 ·rw[OI,Nv (by rw[NF];lia),N0 q] at h1;obtain⟨a,b,c⟩:=ok.at_ i es2 d2 h1 h2;exact⟨a,b,O6 c⟩
 ·subst q;rw[OI,NG (by rw[NF];lia),show i-(tss.take i).length=0 by rw[NF];lia] at h1;cases h1;cases hd.symm.trans h2;exact⟨oe,ae,le⟩
 ·rw[NG (by simp;lia),Tt,show j+1+(i-(tss.take j++[es']).length)=i by simp;lia] at h1;obtain⟨a,b,c⟩:=ok.at_ i es2 d2 h1 h2;exact⟨a,b,O6 c⟩
theorem HN{tss:List (List Ent)}{k j:Nat}{es':List Ent}{m:Ent}{d:iW}{way:Int}{x0 x1 x4 x6 x9 x10:Option D}{Q2:SQ}(ok:tK P k tss)(d6:P.av.length<=6)(k30:k<=30)(hj:j < tss.length)(hd:P.av[j]?=some d)(wo:vy P.names d.2.1)(oe:∀e∈es',lN P.names d.2.1 e)(le:es'.length<=k)(om:lN P.names d.2.1 m)(hh:MH){n:Nat}(hn:hh.length=n)
  (K:∀(tss':List (List Ent)) (o:MO),tK P (k+1) tss'->Q2 (.rt (cn tss'),[x0,x1,some (cn tss),some (.int j),x4,some (.ob n),x6,some (aX m),some (.int way),x9,x10],hh++[o])):
  Rn (kB [x0,x1,some (cn tss),some (.int j),x4,some (.ob n),x6,some (aX m),some (.int way),x9,x10] (hh++[.lst (es'.map aX)])) Q2:=by
 have fin:∀(es2:List Ent),(∀e∈es2,lN P.names d.2.1 e)->es2.length<=k+1->Rn (aI (ah az (ah az (fX v2 qB (qC v3)) (ai aL (a1 (ai cv (a1 (eF v5)))))) (fX v2 (qC (ah az v3 (ki 1))) qB)) [x0,x1,some (cn tss),some (.int j),x4,some (.ob n),x6,some (aX m),some (.int way),x9,x10] (hh++[.lst (es2.map aX)])) Q2:=λes2 oe2 le2=>by
  obtain⟨es3,e3,o3,a3,l3⟩:=Af wo oe2;have len:=ok.len;nofun;refine⟨_,rfl,?_⟩;nofun;refine rv (Ak (xs:=tss.map mr) (k:=j) (by rw[Nc];lia)) ?_;nofun;refine rv (vM wo oe2 (by lia) (gZ hn) rfl) ?_;rw[e3];nofun;refine rv (a:=(.tup (es3.map aX),_)) rfl ?_;nofun;refine rv (oU (by simp;lia)) ?_;nofun;refine⟨_,rfl,?_⟩;nofun;refine rv (rT (xs:=tss.map mr) (k:=j+1) (by rw[Nc];lia)) ?_;nofun;refine rv (oU (by simp;lia)) ?_;nofun;have:=K (tss.take j++[es3]++tss.drop (j+1)) (.lst (es2.map aX)) (Bj ok hj hd o3 a3 (by lia));unfold cn at this ⊢;rw[Oe,Oe,Rt,QM] at this;exact this
 unfold kB;nofun;refine⟨_,rfl,λz=>?_,λz=>?_⟩
 ·nofun;refine yP ?_;nofun;refine⟨fT (gZ hn),?_⟩;nofun;refine rv (eS (gZ hn) (by rw[Nc,show sizeLine=16777216 from rfl];lia)) ?_;rw[An hn];walk_at "o";have:=fin (es'++[m]) (λe he=>by
   rcases NY.mp he with he | he
   ·exact oe e he
   ·rw[Nw] at he;subst he;exact om) (by simp;lia)
  rw[Oe] at this;exact this
 ·walk_at "o";exact fin es' oe (by lia)
theorem HU{tss:List (List Ent)}{k:Nat}{Q:D×MH->Prop}(A:Sb s c cs h0 (R+9) h)(C:Cl h)(pf:Pf P)(ok:tK P k tss)(k30:k<=30)(K:∀(tss':List (List Ent)) (h1:MH),tK P (k+1) tss'->Sb s c cs h0 R h1->Cl h1->Q (cn tss',h1)):
  Rn (dr [.ob s,cu P,cn tss] h) Q:=by
 have S0:=A.S;have lts:=S0.lt.1;have d0:=pf.d0;have d6:=pf.d6;have len:=ok.len;refine uq ?_;unfold cu cn;nofun;rw[Nc];refine bP (R:=R+8) A.S.sb (by lia) (by lia) λr h1 r0 r1 A1=>?_;obtain⟨j,rfl⟩:=Oz r0;have hj:j < tss.length:=by exact OY.mp r1
 obtain⟨es,hes⟩:∃es,tss[j]?=some es:=⟨_,Nk hj⟩;obtain⟨d,hd⟩:∃d,P.av[j]?=some d:=⟨_,Nk (by rw[<-len];exact hj)⟩;obtain⟨wo,p3⟩:=pf.dd d (Ni hd);obtain⟨oe,ae,le⟩:=ok.at_ j es d hes hd;nofun;refine sx ?_;nofun;refine rv (oR (i:=j) (d:=cH d) (by rw[Nz,hd];rfl)) ?_;nofun;refine rv (a:=(.tup (d.2.1.map D.str),h1)) rfl ?_;nofun;refine⟨_,d.2.1.map D.str,_,rfl,rfl,?_⟩;nofun;refine sx ?_;nofun;refine rv (oR (i:=j) (d:=mr es) (by rw[Nz,hes];rfl)) ?_;nofun;refine⟨_,es.map aX,_,rfl,rfl,?_⟩;nofun;have bn:lQ s h h1:=A1.b;refine rv (iw D.str d.2.1 [Str.ofString ""] _ (by simp;lia)) ?_;nofun;refine vo (R:=R+7) (A1.S.more [.lst (es.map aX)]).sb (.inl rfl) (by simp) (by simp;lia) λu h2 hu A2=>?_;obtain⟨u,rfl,hu2⟩:∃w,u=.str w/\(w=Str.ofString ""\/w∈d.2.1):=by
  obtain⟨w,hw,rfl⟩:=NM.mp hu;rcases NY.mp hw with z | z
  ·exact⟨w,rfl,.inr z⟩
  ·rw[Nw] at z;exact⟨w,rfl,.inl z⟩
 nofun;refine bP (R:=R+6) A2 (by decide) (by decide) λf h3 f0 f1 A3=>?_;nofun;refine vo (R:=R+5) A3 (.inr rfl) (by rw[Nc];exact pf.n0) (by rw[Nc];have:=pf.n6;lia) λw h4 hw A4=>?_;obtain⟨w,hw2,rfl⟩:=NM.mp hw;nofun;refine vo (R:=R+4) A4 (.inl rfl) (by simp) (by simp) λb h5 hb A5=>?_;obtain⟨m,em,om⟩:∃m:Ent,D.tup [.str w,b]=aX m/\lN P.names d.2.1 m:=by
  rcases NA.mp hb with rfl | hb
  ·exact⟨(w,none),rfl,hw2,λ_ _ z=>(nomatch z)⟩
  ·rw[Nw] at hb;subst hb;exact⟨(w,some (u,f-3)),rfl,hw2,λ_ _ z=>by cases z;exact⟨hu2,by lia,by lia⟩⟩
 nofun;rw[em];refine bP (R:=R+3) A5 (by decide) (by decide) λway h6 w0 w1 A6=>?_;obtain⟨h7,rfl,b7⟩:=A6.b.app (by rw[bn.1];exact lts);have S7:St s c cs (R+3) h7:=A6.S.cut (by rw[b7.1,bn.1];exact lts) (by rw[b7.1,bn.1];exact S0.lt.2);have B7:lQ s h h7:=bn.trans b7;have l7:h7.length=h1.length:=b7.1;have tail:∀(es':List Ent)(m':Ent)(x1 x4 x6 x9 x10:Option D)(hh:MH),(∀e∈es',lN P.names d.2.1 e)->es'.length<=k->lN P.names d.2.1 m'->St s c cs R hh->lQ s h hh->
   Rn (kB [some (.ob s),x1,some (cn tss),some (.int j),x4,some (.ob h1.length),x6,some (aX m'),some (.int way),x9,x10] (hh++[.lst (es'.map aX)])) (sg λp=>Rn (leave h p.1 p.2) Q):=λes' m' x1 x4 x6 x9 x10 hh oe' le' om' S B=>
  HN ok d6 k30 hj hd wo oe' le' om' hh (by rw[B.1,bn.1]) λtss' o ok'=>by
   show Rn (leave h (cn tss') (hh++[o])) Q;exact rv (kc B.1 (C.but S B) (λn z=>(nomatch z)) (Ck _ _)) (K tss' hh ok' ⟨S,A.b.trans B⟩ (C.but S B))
 nofun;refine rv (ne_nil wo oe (gZ l7)) ⟨_,rfl,λz=>?_,λz=>?_⟩
 ·nofun;refine⟨_,rfl,λy=>?_,λy=>?_⟩
  ·have e0:0 < es.length:=by
    cases es with
    | nil=>cases z
    | cons _ _=>simp
   nofun;refine yP ?_;nofun;refine⟨fT (gZ l7),?_⟩;nofun;refine rv (sT (gZ l7)) ?_;nofun;rw[Nc];refine bP (R:=R+2) (S7.more [.lst (es.map aX)]).sb (by lia) (by lia) λi h8 i0 i1 A8=>?_;obtain⟨h9,rfl,b9⟩:=A8.b.app (by rw[B7.1];exact lts);have S9:St s c cs (R+2) h9:=A8.S.cut (by rw[b9.1,B7.1];exact lts) (by rw[b9.1,B7.1];exact S0.lt.2);have B9:lQ s h h9:=B7.trans b9;have l9:h9.length=h1.length:=b9.1.trans l7;obtain⟨q,rfl⟩:=Oz i0;have hq:q < es.length:=by exact OY.mp i1
   have oq:=oe es[q] (PC hq);nofun;refine rv (DJ (gZ l9) i0 (by lia) (by rw[NP,Nz,Nk hq];rfl)) ?_;rw[An l9,NP,qU];generalize es[q]=e at oq;obtain⟨w2,b2⟩:=e;have oe9:∀e∈es.eraseIdx q,lN P.names d.2.1 e:=λe he=>oe e (List.mem_of_mem_eraseIdx he);have le9:(es.eraseIdx q).length<=k:=Nr (List.length_eraseIdx_le es q) le;refine Gk rfl (eP (ur (eP (ur (mT ?_)))));have mid:∀(m2:Ent)(x1 x4 x6 x10:Option D)(hh:MH),lN P.names d.2.1 m2->St s c cs R hh->lQ s h hh->
     Rn (c7 (ax (ah cV v8 (ki 2))) (aJ 7 (ai aL (a2 v9 (ai aL bj)))) aW [some (.ob s),x1,some (cn tss),some (.int j),x4,some (.ob h1.length),x6,some (aX m2),some (.int way),some (.str w2),x10] (hh++[.lst ((es.eraseIdx q).map aX)])) (tV kB (sg λp=>Rn (leave h p.1 p.2) Q)):=λm2 x1 x4 x6 x10 hh om2 S B=>by
    nofun;refine⟨_,rfl,λy2=>?_,λy2=>?_⟩
    ·refine AI (rv (a:=(aX (w2,none),hh++[.lst ((es.eraseIdx q).map aX)])) rfl ?_);exact tail (es.eraseIdx q) (w2,none) _ _ _ _ _ hh oe9 le9 ⟨oq.nm,λ_ _ z=>(nomatch z)⟩ S B
    ·walk_at "o";exact tail (es.eraseIdx q) m2 _ _ _ _ _ hh oe9 le9 om2 S B
   nofun;refine⟨_,rfl,λc1=>?_,λc1=>?_⟩
   ·cases b2 with
    | none=>
     nofun;refine rv (a:=(.bl false,_)) rfl ⟨_,rfl,λz=>(nomatch z),λ_=>?_⟩;walk_at "o";exact mid m _ _ _ _ h9 om (S9.le (by lia)) B9
    | some t=>
     obtain⟨u2,f2⟩:=t;nofun;refine rv (a:=(.bl true,_)) rfl ⟨_,rfl,λ_=>?_,λz=>(nomatch z)⟩;nofun;refine rv (a:=(.str u2,_)) rfl ?_;nofun;refine rv (a:=(.int f2,_)) rfl ?_;nofun;refine jc (R:=R+1) (is:=[1,-1]) (λ_=>True) (λ_ _=>trivial) (S9.more [.lst ((es.eraseIdx q).map aX)]).sb λx h10 _ _ A10=>?_;obtain⟨h11,rfl,b11⟩:=A10.b.app (by rw[B9.1];exact lts);have S11:St s c cs (R+1) h11:=A10.S.cut (by rw[b11.1,B9.1];exact lts) (by rw[b11.1,B9.1];exact S0.lt.2);nofun;refine rv (xY _ _ _) ?_;nofun;refine rv (iK _ _ _) ?_;walk_at "o";refine zW (uo (zW ?_));exact mid (w2,some (u2,max (-99) (min 99 (f2+x)))) _ _ _ _ h11 (Bl oq) (S11.le (by lia)) (B9.trans b11)
   ·refine ff ?_;walk_at "o";exact mid m _ _ _ _ h9 om (S9.le (by lia)) B9
  ·walk_at "o";exact tail es m _ _ _ _ _ h7 oe le om (S7.le (by lia)) B7
 ·refine ff ?_;walk_at "o";exact tail es m _ _ _ _ _ h7 oe le om (S7.le (by lia)) B7
end
section
variable {P:Prog} {h h0:MH} {s c R:Nat} {cs:List Int}
theorem FJ{m:Nat}{xs:List D}(h:∀x∈xs,iO m x=true):CN m xs=true:=rJ.mpr h
theorem iX{m:Nat}{xs:List D}(hl:xs.length<=m)(h:∀x∈xs,iO m x=true):iO m (.tup xs)=true:=by
 rw[iO,NC hl,Pe];exact FJ h
theorem FI(e:Ent):iO 20 (aX e)=true:=by
 obtain⟨w,_ |⟨u,f⟩⟩:=e <;> rfl
theorem wA{k:Nat}{tss:List (List Ent)}{ys:List D}(pf:Pf P)(ok:tK P k tss)(k20:k<=20)(hl:ys.length=P.names.length)(hy:∀y∈ys,dM y=true/\iO 20 y=true):gj P (.tup [.tup ys,cn tss])=true/\iO 20 (.tup [.tup ys,cn tss])=true:=by
 have len:=ok.len;have n6:=pf.n6;have d6:=pf.d6;constructor
 ·show((((ys.length:Int)==P.names.length)&&(((tss.map mr).length:Int)==P.av.length))&&(ys.all dM&&((tss.map mr).zip P.av).all λp=>gM P.names p.2.2.1 p.1))=true;rw[hl,Nc,len,Ph,Ph,NS.mpr λy hh=>(hy y hh).1,Pe,Pe,Pe];refine NS.mpr λp hp=>?_;obtain⟨j,hj⟩:=Pn.mp hp;rw[List.getElem?_zip_eq_some,Nz] at hj;obtain⟨es,he,e2⟩:=N5.mp hj.1;obtain⟨o1,o2,_⟩:=ok.at_ j es p.2 he hj.2;rw[<-e2];show((es.map aX).all (fV P.names p.2.2.1)&&tH (es.map aX))=true;rw[nj,o2,Bool.and_true,Sx];exact NS.mpr λe h=>Ew (o1 e h)
 ·refine iX (by simp) λx hx=>?_;rcases NA.mp hx with rfl | hx
  ·exact iX (by lia) λy h=>(hy y h).2
  ·rw[Nw] at hx;subst hx;refine iX (by rw[Nc];lia) λy h=>?_;obtain⟨es,he,rfl⟩:=NM.mp h;obtain⟨j,hj⟩:=Pn.mp he;obtain⟨d,hd⟩:∃d,P.av[j]?=some d:=⟨_,Nk (by rw[<-len];exact(Ng.mp hj).1)⟩;obtain⟨_,_,o3⟩:=ok.at_ j es d hj hd;refine iX (by rw[Nc];lia) λz hz=>?_;obtain⟨e,_,rfl⟩:=NM.mp hz;exact FI e
theorem yT(pf:Pf P):tK P 0 (P.av.map λ_=>[]):=by
 refine⟨Nc _,λj es d h1 h2=>?_⟩;rw[Nz,h2] at h1;cases h1;exact⟨λ_ z=>(nomatch z),rfl,Nh _⟩
theorem EH{Q:D×MH->Prop}(A:Sb s c cs h0 (R+100) h)(C:Cl h)(pf:Pf P)(K:∀(t:D)(h1:MH),gj P t=true->iO 20 t=true->Sb s c cs h0 R h1->Cl h1->Q (t,h1)):
  Rn (cX [.ob s,cu P] h) Q:=by
 have n6:=pf.n6;have d6:=pf.d6;refine bF ?_;unfold cu;nofun;refine dQ ?_;nofun;refine⟨_,_,rfl,?_⟩;obtain⟨⟨ys,h1⟩,e1,a1,δ1,_,A1⟩:=jX (ws:=[]) (g:=gN 0) (e:=ai aL (a2 (ai aq (a2 v1 (ki 10))) (ai aw (a2 v1 (dP (a2 (ki 1) (tQ gW (ki 1)))))))) (λ_ y=>dM y=true/\iO 20 y=true)
  (xs:=P.names.map D.str) (δ:=[none,some (.ob s)]) (h:=h) (λi δ h'=>(∃d0,δ=[d0,some (.ob s)])/\Sb s c cs h (R+100-2*i) h') ⟨⟨_,rfl⟩,A.S.sb⟩ (λ_ _ _ _ _=>rfl) (by
   rintro i x δ h' hx ⟨⟨d0,rfl⟩,A2⟩;have hi:i < 6:=by
    have:=(Ng.mp hx).1;rw[Nc] at this
    lia
   nofun;refine bP (R:=R+100-2*i-1) (A2.le (by lia)) (by decide) (by decide) λr h2 r0 r1 A3=>?_;nofun;refine jc (R:=R+100-2*(i+1)) (is:=[1,-1]) (λj=>j=1\/j=-1) (by decide) (A3.le (by lia)) λj h3 hj _ A4=>?_;nofun;refine⟨⟨?_,rfl⟩,⟨_,rfl⟩,A4⟩;show((decide (0<=r)&&decide (r<=9))&&(j==1||j==-1))=true;rw[NC r0,NC (show r<=9 by lia)];rcases hj with rfl | rfl <;> rfl)
 have l1:=a1.length;dsimp only at l1;rw[Nc] at l1;rw[Nc] at A1;refine rv e1 ⟨by dsimp only;rw[l1,show sizeLine=16777216 from rfl];lia,?_⟩;nofun;refine rv (a:=(.tup ys,h1)) rfl ?_;nofun;refine dQ ?_;nofun;refine⟨_,_,rfl,?_⟩;refine rv (vf cH (λ_=>.tup []) P.av none λd hd=>rfl) ⟨by rw[Nc,show sizeLine=16777216 from rfl];lia,?_⟩;nofun;refine rv (a:=(cn (P.av.map λ_=>[]),h1)) (by unfold cn;rw[O3];rfl) ?_;nofun;refine fz ?_;nofun;refine bP (R:=R+80) (A1.le (by lia)) (by decide) (by decide) λr h2 r0 r1 A2=>?_;nofun;refine⟨r,rfl,by lia,by lia,?_⟩;have C1:Cl h2:=C.but A2.S A2.b;refine dA (λi δ h'=>∃(tss:List (List Ent)) (x4:Option D),δ=[some (.ob s),some (cu P),some (.tup ys),some (cn tss),x4]/\tK P i tss/\Sb s c cs h (R+9*(8-i)) h'/\Cl h')
  ⟨_,_,rfl,yT pf,A2.le (by lia),C1⟩ (λ_ _ _ _ _=>rfl) ?_ ?_
 ·rintro i x δ h' hx ⟨tss,x4,rfl,ok,A3,C3⟩;have hi:i < 8:=by
   have:=(Ng.mp hx).1;rw[Nc,NO] at this
   lia
  nofun;refine HU (R:=R+9*(8-(i+1))) (A3.le (by lia)) C3 pf ok (by lia) λtss' h3 ok' A4 C4=>?_;nofun;exact⟨_,_,rfl,ok',A4,C4⟩
 ·rintro δ h' ⟨tss,x4,rfl,ok,A3,C3⟩;rw[Nc,NO] at ok A3;obtain⟨p1,p2⟩:=wA (ys:=ys) pf ok (by lia) l1 λy hy=>(let⟨_,_,r⟩:=a1.right y hy;r);nofun;exact K _ h' p1 p2 ⟨A3.S.le (by lia),A.b.trans A3.b⟩ C3
end
section
variable {P:Prog} {h h0:MH} {s c R:Nat} {cs:List Int}
noncomputable def sH:List D:=[.bx,.bl true,.int 0,.int 1,.int (-1),.int 10,.int 100,.int (-100),.str "",.str "zzzz",.str "1",.tup [],.lv [],.dv [],.tup [.int 0,.int 1],.tup [.str "",.int 5],.tup [.str "zzzz",.tup []]]
theorem G8:∀x∈sH,iO 20 x=true:=by decide
noncomputable def qH(xs:List D):List D:=[.lv xs,.tup (xs.drop 1),.tup xs.reverse,.tup (xs++xs.take 1),.tup (xs++[.bx]),.tup [.tup xs]]
theorem D3{m:Nat}(m1:1<=m){xs:List D}(t:iO m (.tup xs)=true):∀x∈qH xs,iO (m+1) x=true:=by
 have t':=b8 (Pc m) _ t;obtain⟨hl,hx⟩:=bp t;have hx':∀x∈xs,iO (m+1) x=true:=λx h=>b8 (Pc m) x (hx x h);intro x h;simp only[qH,NA,PB,QQ] at h;rcases h with rfl | rfl | rfl | rfl | rfl | rfl
 ·exact t'
 ·exact iX (by rw[Pk];lia) λy hy=>hx' y (Rk hy)
 ·exact iX (by rw[QA];lia) λy hy=>hx' y (List.mem_reverse.mp hy)
 ·exact iX (by rw[NT,NF];lia) λy hy=>by
   rcases NY.mp hy with hy | hy
   ·exact hx' y hy
   ·exact hx' y (P6 hy)
 ·exact iX (by rw[NT];simp;lia) λy hy=>by
   rcases NY.mp hy with hy | hy
   ·exact hx' y hy
   ·rw[Nw] at hy;subst hy;rfl
 ·exact iX (by simp) λy hy=>by
   rw[Nw] at hy;subst hy;exact t'
noncomputable def oA:SM:=aj (aJ 4 (eK (.lv [.bx,.bl true,.int 0,.int 1,.int (-1),.int 10,.int 100,.int (-100),.str "",.str "zzzz",.str "1",.tup [],.lv [],.dv [],.tup [.int 0,.int 1],.tup [.str "",.int 5],.tup [.str "zzzz",.tup []]])))
  (aj (c7 (f6 (bT (ai dg (a2 v1 (eK (.ty "tuple"))))) (ax (ah zo v1 (ai aL bj)))) (aJ 4 (ah az v4 (dP (ag (dP (kG (a1 v1))) (ag (fX v1 (qC (ki 1)) qB) (a4 (B5 v1 (tQ gW (ki 1))) (ah az v1 (fX v1 qB (qC (ki 1)))) (ah az v1 (ai aL (a1 (eK .bx)))) (ai aL (a1 v1)))))))) aW)
  (aI (ai aw (a2 v0 v4))))
theorem Am(x:D)(r:List D)(h:MH):mM (.tup (x::r)) none (some 1) h=some (.tup ((x::r).take 1),h):=Ak (k:=1) (by simp)
theorem Ih(xs ys:List D)(hl:xs.length+ys.length<=1000)(h:MH):az (.lv xs) (.lv ys) h=some (.lv (xs++ys),h):=by
 have:=iw (λd:D=>d) xs ys h hl
 simpa using this
theorem EG{m:Nat}(m20:20<=m)(m50:m<=50){t:D}{x2 x3 x4:Option D}{Q:D×MH->Prop}(tm:iO m t=true)(A:Sb s c cs h0 (R+1) h)(K:∀(t':D)(h1:MH),iO (m+1) t'=true->Sb s c cs h0 R h1->Q (t',h1)):
  Rn (oA [some (.ob s),some t,x2,x3,x4] h) (sg Q):=by
 have m1000:vC t=true:=b8 (by lia) t tm;have fin:∀ys:List D,(∀y∈ys,iO (m+1) y=true)->0 < ys.length->ys.length<=100->Rn (aI (ai aw (a2 v0 v4)) [some (.ob s),some t,x2,x3,some (.lv ys)] h) (sg Q):=λys hy h0 h1=>by
  nofun;refine vo (R:=R) A (.inl rfl) h0 (by lia) λy h2 hm A2=>?_;exact K y h2 (hy y hm) A2
 have odd:∀y∈sH,iO (m+1) y=true:=λy hy=>b8 (by lia) y (G8 y hy);unfold oA;nofun;refine rv (bC m1000) ⟨_,rfl,λz=>?_,λz=>?_⟩
 ·obtain⟨xs,rfl⟩:∃xs,t=.tup xs:=by cases t <;> first | exact⟨_,rfl⟩ | cases z
  obtain⟨hl,tx⟩:=bp tm;nofun;cases xs with
  | nil=>
   refine rv (a:=(.bl false,h)) rfl ⟨_,rfl,λz=>(nomatch z),λ_=>?_⟩;walk_at "o";exact fin sH odd (by decide) (by decide)
  | cons x r=>
   refine rv (a:=(.bl true,h)) rfl ⟨_,rfl,λ_=>?_,λz=>(nomatch z)⟩;nofun;refine sx ?_;nofun;refine⟨_,x::r,_,rfl,rfl,?_⟩;nofun;refine⟨1,rfl,?_⟩;nofun;refine rv (Al _ h) ?_;nofun;refine rv (a:=(.tup (x::r).reverse,h)) rfl ?_;nofun;refine⟨1,rfl,?_⟩;nofun;refine rv (Am x r h) ?_;nofun;refine rv (oU (by simp;simp at hl;lia)) ?_;nofun;refine rv (oU (ys:=[.bx]) (by simp;simp at hl;lia)) ?_;nofun;refine rv (Ih sH (qH (x::r)) (by simp[sH,qH]) h) ?_;walk_at "o";exact fin (sH++qH (x::r)) (λy hy=>by
    rcases NY.mp hy with hy | hy
    ·exact odd y hy
    ·exact D3 (by lia) tm y hy) (by simp[sH]) (by simp[sH,qH])
 ·refine ff ?_;walk_at "o";exact fin sH odd (by decide) (by decide)
def Bt(s c:Nat)(cs:List Int)(m n k:Nat):Prop:=∀{R:Nat} {h h0:MH} {t:D} {Q:D×MH->Prop},iO m t=true->Sb s c cs h0 (R+2*k+2) h->(∀(t':D)(h1:MH),iO (m+1) t'=true->Sb s c cs h0 R h1->Q (t',h1))->Rn (bR n [.ob s,t,.int (k:Int)] h) Q
theorem Cu{m:Nat}(m20:20<=m)(m50:m<=50)(n k:Nat)(ih:∀k',k=k'+1->Bt s c cs m n k'):Bt s c cs m (n+1) k:=by
 intro R h h0 t Q tm A K;have m1000:vC t=true:=b8 (by lia) t tm;have tail:∀{R':Nat} {h2:MH} {x2 x3 x4:Option D},R<=R'->Sb s c cs h0 (R'+1) h2->Rn (oA [some (.ob s),some t,x2,x3,x4] h2) (sg Q):=λhR B=>EG (R:=R) m20 m50 tm (B.le (by lia)) K;refine bF ?_;nofun;refine rv (bC m1000) ⟨_,rfl,λz=>?_,λz=>?_⟩
 ·obtain⟨xs,rfl⟩:∃xs,t=.tup xs:=by cases t <;> first | exact⟨_,rfl⟩ | cases z
  obtain⟨hl,tx⟩:=bp tm;cases xs with
  | nil=>
   nofun;refine rv (a:=(.bl false,h)) rfl ⟨_,rfl,λz=>(nomatch z),λ_=>ff ?_⟩;walk_at "o";exact tail (R':=R) (Nh R) (A.le (by lia))
  | cons x r=>
   nofun;refine rv (a:=(.bl true,h)) rfl ⟨_,rfl,λ_=>?_,λz=>(nomatch z)⟩;nofun;refine⟨_,rfl,λy=>?_,λy=>?_⟩
   ·obtain⟨k',rfl⟩:∃k',k=k'+1:=⟨k-1,by have:=NV y;lia⟩;nofun;refine bP (R:=R+2*k'+3) (A.le (by lia)) (by decide) (by decide) λr5 h2 _ _ A2=>?_;nofun;refine⟨_,rfl,λy2=>?_,λy2=>?_⟩
    ·nofun;refine bP (R:=R+2*k'+2) A2 (by simp) (by simp at hl ⊢;lia) λi h3 i0 i1 A3=>?_;obtain⟨q,rfl⟩:=Oz i0;have hq:q < (x::r).length:=by exact OY.mp i1
     generalize x::r=xs at*;nofun;refine⟨_,rfl,?_⟩;nofun;refine rv (Ak (k:=q) (by lia)) ?_;nofun;refine rv (oR (Nk hq)) ?_;nofun;rw[show((k'+1:Nat):Int)-1=(k':Int) by lia];refine ih k' rfl (R:=R) (tx _ (PC hq)) A3 λt' h4 ht' A4=>?_;nofun;refine rv (oU (by rw[NF];simp;lia)) ?_;nofun;refine⟨_,rfl,?_⟩;nofun;refine rv (rT (k:=q+1) hq) ?_;nofun;refine rv (oU (by rw[NT,NF,Pk];simp;lia)) ?_;nofun;refine K _ h4 (iX (by rw[NT,NT,NF,Pk];simp;lia) λz hz=>?_) A4;have up:∀z∈xs,iO (m+1) z=true:=λz hz=>b8 (Pc m) z (tx z hz);rcases NY.mp hz with hz | hz
     ·rcases NY.mp hz with hz | hz
      ·exact up z (P6 hz)
      ·rw[Nw] at hz;subst hz;exact ht'
     ·exact up z (Rk hz)
    ·walk_at "o";exact tail (R':=R) (Nh R) (A2.le (by lia))
   ·refine ff ?_;walk_at "o";exact tail (R':=R) (Nh R) (A.le (by lia))
 ·refine ff ?_;walk_at "o";exact tail (R':=R) (Nh R) (A.le (by lia))
theorem yi{m:Nat}(m20:20<=m)(m50:m<=50):∀(n k:Nat),k<=n->Bt s c cs m (n+1) k
 | 0,k,hk=>Cu m20 m50 0 k λk' e=>by lia
 | n+1,k,hk=>Cu m20 m50 (n+1) k λk' e=>yi m20 m50 n k' (by lia)
end
theorem JK{W:Wd}{fl:List Int}{odd:Int}{most:Nat}{P:Prog}(ok:xl W fl odd)(okp:mN W most P):Pf P:=by
 have n1:=ok.n1;have n2:=ok.n2;have d1:=ok.d1;have d2:=ok.d2;have dl:=okp.dl;have nl:P.names.length=W.names.length:=by rw[okp.nm,(eI W.names).length_eq]
 refine⟨by lia,by lia,by lia,by lia,λd hd=>?_⟩;obtain⟨j,hj⟩:=Pn.mp hd;obtain⟨_,hp,_⟩:=okp.dd j d hj;have hp:=Ni hp;refine⟨⟨λw hw=>?_,λw hw=>?_⟩,ok.p3 _ hp⟩
 ·rw[okp.nm] at hw;exact wC (ok.sn w ((eI W.names).mem_iff.mp hw)).2.2
 ·exact wC (ok.sp _ hp w hw).2.2
theorem Na(cs:List Int):Cl [.lst (cs.map D.int),.lst [.int 0,.ob 0,.int 0]]:=by
 intro o ho;rcases NA.mp ho with rfl | ho
 ·exact eT _ D.int (λ_=>rfl) _
 ·rw[Nw] at ho;subst ho;rfl
noncomputable def Le:List D:=[.bx,.bl true,.int 0,.str "",.tup [],.lv [],.dv [],.tup [.tup [],.tup []],.tup [.bx,.bx],.tup [.lv [],.tup []],.tup [.tup [],.dv []]]
theorem JX:∀x∈Le,iO 20 x=true:=by decide
theorem Br{P:Prog}(pf:Pf P):∀x∈Le,gj P x=false:=by
 have n0:=pf.n0;intro x hx;simp only[Le,NA,PB,QQ] at hx;rcases hx with rfl | rfl | rfl | rfl | rfl | rfl | rfl | rfl | rfl | rfl | rfl <;> try rfl
 show((((0:Int)==(P.names.length:Int))&&_)&&_)=false;have:((0:Int)==(P.names.length:Int))=false:=by rw[Px];lia
 rw[this];rfl
theorem law_true(ns:List Int)(hn:ns.length<=63):∃h',vA [.ro (ns.map D.int)] []=some (.bl true,h'):=by
 have e:Rn (vA [.ro (ns.map D.int)] []) λp=>p.1=.bl true:=by
  obtain⟨cs,ed,S0⟩:=wX ns hn 20000 (by decide);refine bF ?_;nofun;refine rv ed ?_;nofun;refine dQ ?_;nofun;refine⟨_,_,rfl,?_⟩;refine dA (λi δ h=>∃(v2 v3 v4 v5 v6 v7 v8:Option D),δ=[some (.ro (ns.map D.int)),some (.ob 1),v2,v3,v4,v5,v6,v7,v8]/\St 1 0 cs (20000-6000*i) h/\Cl h)
   ⟨_,_,_,_,_,_,_,rfl,S0,Na cs⟩ (λ_ _ _ _ _=>rfl) ?_ ?_
  ·rintro i x δ h hx ⟨v2,v3,v4,v5,v6,v7,v8,rfl,S,C⟩;have hi:i < 3:=(Ng.mp hx).1;obtain⟨most,rfl,m14⟩:∃most:Nat,x=.int (most:Int)/\most<=14:=by
    have:=Ni hx;simp only[NA,PB,QQ] at this;rcases this with rfl | rfl | rfl
    ·exact⟨8,rfl,by decide⟩
    ·exact⟨14,rfl,by decide⟩
    ·exact⟨14,rfl,by decide⟩
   nofun;refine zF (most:=most) (R:=20000-6000*(i+1)+1000) (S.le (by lia)).sb C (by decide) (by decide) λW fl P h1 ok okp A1 C1=>?_;have pf:=JK ok okp;have hw:=λd hd=>(pf.dd d hd).1;have hw2:∀d∈P.av,vy P.names d.2.1/\d.2.1.length<=100:=λd hd=>⟨(pf.dd d hd).1,Nr (pf.dd d hd).2 (by decide)⟩;nofun;refine fz ?_;nofun;refine⟨3,rfl,by decide,by decide,?_⟩;refine dA (λi2 δ h'=>∃(v4 v5 v6 v7 v8:Option D),δ=[some (.ro (ns.map D.int)),some (.ob 1),some (.int (most:Int)),some (cu P),v4,v5,v6,v7,v8]/\Sb 1 0 cs h1 (20000-6000*(i+1)+300*(3-i2)) h'/\Cl h')
    ⟨_,_,_,_,_,rfl,(A1.S.le (by lia)).sb,C1⟩ (λ_ _ _ _ _=>rfl) ?_ ?_
   ·rintro i2 y δ h' hy ⟨v4,v5,v6,v7,v8,rfl,A2,C2⟩;have hi2:i2 < 3:=by simpa using (Ng.mp hy).1
    nofun;refine EH (R:=20000-6000*(i+1)+300*(3-(i2+1))+100) (A2.le (by lia)) C2 pf λt h2 pt tmt A3 C3=>?_;nofun;refine rv (il hw (b8 (by decide) t tmt)) ?_;rw[pt];nofun;refine rv (a:=(.bl false,h2)) rfl ⟨_,rfl,λz=>(nomatch z),λ_=>?_⟩;nofun;refine fz ?_;nofun;refine⟨8,rfl,by decide,by decide,?_⟩;refine dA (λi3 δ h'=>∃(v6 v7 v8:Option D),δ=[some (.ro (ns.map D.int)),some (.ob 1),some (.int (most:Int)),some (cu P),some y,some t,v6,v7,v8]/\Sb 1 0 cs h1 (20000-6000*(i+1)+300*(3-(i2+1))+12*(8-i3)) h'/\Cl h')
     ⟨_,_,_,rfl,A3.le (by lia),C3⟩ (λ_ _ _ _ _=>rfl) ?_ ?_
    ·rintro i3 y3 δ h' hy3 ⟨v6,v7,v8,rfl,A4,C4⟩;have hi3:i3 < 8:=by simpa using (Ng.mp hy3).1
     nofun;refine yi (m:=20) (by decide) (by decide) 5 5 (by decide) (R:=20000-6000*(i+1)+300*(3-(i2+1))+12*(8-(i3+1))) tmt (A4.le (by lia)) λt' h3 tm' A5=>?_;have C5:Cl h3:=C1.but A5.S A5.b;nofun;refine rv (il hw (b8 (by decide) t' tm')) ?_;nofun;refine rv (a:=(.bl true,h3)) rfl ⟨_,rfl,λz=>(nomatch z),λ_=>?_⟩;nofun;refine rv (sL hw2 (b8 (by decide) t' tm')) ?_;nofun;refine rv (a:=(.bl false,h3)) (by cases gj P t' <;> rfl) ⟨_,rfl,λz=>(nomatch z),λ_=>?_⟩;walk_at "o";exact⟨_,_,_,rfl,A5,C5⟩
    ·rintro δ h' ⟨v6,v7,v8,rfl,A4,C4⟩;walk_at "o";exact⟨_,_,_,_,_,rfl,A4.le (by lia),C4⟩
   ·rintro δ h' ⟨v4,v5,v6,v7,v8,rfl,A2,C2⟩;nofun;refine dQ ?_;nofun;refine⟨_,_,rfl,?_⟩;refine dA (λi2 δ h2=>∃(v7:Option D),δ=[some (.ro (ns.map D.int)),some (.ob 1),some (.int (most:Int)),some (cu P),v4,v5,v6,v7,v8]/\h2=h')
     ⟨_,rfl,rfl⟩ (λ_ _ _ _ _=>rfl) ?_ ?_
    ·rintro i2 y δ h2 hy ⟨v7,rfl,rfl⟩;have hm:y∈Le:=Ni hy;nofun;refine rv (il hw (b8 (by decide) y (JX y hm))) ?_;rw[Br pf y hm];nofun;refine rv (a:=(.bl false,h2)) rfl ⟨_,rfl,λz=>(nomatch z),λ_=>?_⟩;walk_at "o";exact⟨_,rfl,rfl⟩
    ·rintro δ h2 ⟨v7,rfl,rfl⟩;walk_at "o";exact⟨_,_,_,_,_,_,_,rfl,A2.S.le (by lia),C2⟩
  ·rintro δ h ⟨v2,v3,v4,v5,v6,v7,v8,rfl,S,C⟩;nofun
 obtain⟨⟨d,h'⟩,e1,rfl⟩:=e;exact⟨h',e1⟩
end Mi
open PySem PySem.W PyProof.Rows
theorem Mi.Md:defOf Mi.view "law"=some (Hd.oh "law" Mi.jO,[]):=by ac_nf
theorem Mi.hp:PySem.Program.theDef Mi.pw "law"=some (L2.ko Mi.jO,L2.ft Mi.jO,L2.ao Mi.jO):=by ac_nf
theorem PySem.Challenge.cw_neverstuck_k45_papers_or_none_holds : PySem.Challenge.rw_neverstuck_k45_papers_or_none.Holds := by
 refine holds_law Mi.F3 λF3=>?_;refine PySem.W.holds_open (q:=Mi.view) (loose:=["SIDES"]) (Xt:=Mi.Xt) (XP:=XL Mi.view []) (Yf:=Mi.Yf) (Ya:=Mi.ya) (YP:=λw h=>Hd.tU h "SIDES"=Mi.ya w) (N:=20000) (d:=Hd.oh "law" Mi.jO) (kwd:=[]) Mi.left (λ_ _ e=>e) (λ_ _ _ y k=>Hd.yB k y) (λs e=>xl_of s (NJ.mp e).1) XL.keeps Mi.Md Mi.hp (by ac_nf) (λs e=>recFacts_of (NJ.mp e).2) (by ac_nf) F3 (by decide+kernel) ⟨rfl,rfl,rfl,rfl,rfl,by decide+kernel⟩ (by w_witness2) ?_;exact Hd.Hr (k:=28) (by ac_nf) (by ac_nf) ⟨rfl,by decide,by decide⟩ λw s₀ mg mb h G Y=>Mi.all_mk G.T Y Mi.law_true
